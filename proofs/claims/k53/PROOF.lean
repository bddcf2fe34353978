import PyProof.Rows.All
import Wide.All
import OpenK.AllK
import Wide.FinOn
import HandS.ForMost
import HandS.IsInst
import HandS.Wide
import HandS.Flow
import HandS.Style
import HandS.TupAny
import HandS.Small
import HandS.Deep
import HandS.Exc
import HandS.ExcInit
import HandS.Lambda
import HandS.Defaults
import HandS.RaiseMore
import PyProof.ReprRoads
import PyProof.ReprText
import HandS.Iter
import HandS.Walk
import HandS.ExcField
import HandS.ExcIs
import HandS.WordsExc
import HandS.ForExc
import KE.DataFind
import HandS.EndTab
import HandS.Zip
import HandS.TupMul
import HandS.Gcd
import HandS.SortInts
import HandS.Star
import HandS.GenList
import KE.GoesMore
import HandS.ListItems
import HandS.Text
import HandS.FStr
import PyProof.Rows.ListMulArg
import KE.KMathGC
import KE.KDictPairs
import HandS.More
import HandS.Strs
import KE.SortData
import KE.DataEq
import HandS.Conv
import HandS.NoneIn
import PyProof.Rows.SetFrom
import HandS.SetFor
import PySem.Challenge.RW_forcedtables_k53_whole_choices
set_option Elab.async false
set_option linter.all false
set_option maxRecDepth 100000
namespace G
open PySem L2

/-! A def's promise where nothing is being shown (no guard stands). -/
structure FnG (P : Program) (w : World) (K : PySem.W.Frag) (mg : Str → Option Value) (base : Heap) (CX : CXT) (k : Nat) (f : Addr) (fd : FuncData) (ps : List Str) (sp : Sp) : Prop where
  len : ∀ vs H Q E, sp vs H Q E → vs.length = ps.length
  go : ∀ (A : Around) (outer : List Env) (s : Shared) (H : Hp) (args : Args) (us : List Value) (vs : List V) (Q : VK) (E : XK), A.guards = some [] → Room k A →
    Env0 P w K mg base A outer s H → BindsTo s fd args (ps.zip us) → Vals vs us → sp vs H Q E → codeAny (model P w) A (.call (.ref f) args) (CR CX outer P w H s Q E) s

section
variable {P : Program} {w : World} {K : PySem.W.Frag} {mg : Str → Option Value} {base : Heap} {CX : CXT} {k : Nat} {f : Addr} {fd : FuncData} {ps : List Str} {sp : Sp}
theorem FnG.lift (F : FnOk P w K mg base CX k f fd ps sp) : FnG P w K mg base CX k f fd ps sp :=
  ⟨F.len, fun A outer s H args us vs Q E _ => F.run A outer s H args us vs Q E⟩
theorem FnG.more {j : Nat} (F : FnG P w K mg base CX j f fd ps sp) (h : j ≤ k) : FnG P w K mg base CX k f fd ps sp :=
  ⟨F.len, fun A outer s H args us vs Q E g r => F.go A outer s H args us vs Q E g (r.mono h)⟩
end

section
variable {X : Cx} {CX : CXT} {k : Nat} {f : Addr} {fd : FuncData} {ps ks : List Str} {sp : Sp} {dvs : List V} {ds : List Value} {E : XK} {x : Str} {p pos : Pos} {e : Expr} {es : List Expr} {kws : List Keyword} {t tk : TA}
  {g : List Value → List Value → List Value} {gV : List V → List V → List V}
theorem goes {pins : List (Addr × Obj)} {σ : St} {H : Hp} {s : Shared} {Q : VK} {args : Args} {us : List Value} {vs : List V} (F : FnG X.prog X.w X.K X.mg X.base CX k f fd ps sp) (gd : X.A.guards = some []) (hr : Room k X.A)
    (hx : Passes CX X E) (I : Inv X pins σ H s) (hb : BindsTo s fd args (ps.zip us)) (r : Vals vs us) (h : sp vs H Q E) :
    codeAny (model X.prog X.w) X.A (.call (.ref f) args) (fun rr s' => match rr with | .ok (.ret u) => EP X pins σ Q u s' | .ok _ => False | .error e => X.xe e s') s := by
  refine codeAny_mono (F.go X.A X.stack s H args us vs Q E gd hr I.env0 hb r h) (fun rr s' hq => ?_)
  match rr, hq with
  | .error e, hq => exact hx pins σ H s e s' I hq
  | .ok (.ret u), hq => exact I.after hq
theorem calls {pins : List (Addr × Obj)} {σ : St} {H : Hp} {s : Shared} {Q : VK} {us : List Value} {vs : List V} (F : FnG X.prog X.w X.K X.mg X.base CX k f fd ps sp) (gd : X.A.guards = some []) (hr : Room k X.A)
    (hb : Binds X.K fd ps ds) (hd : Vals dvs ds) (hx : Passes CX X E) (I : Inv X pins σ H s) (r : Vals vs us) (h : sp (vs ++ dvs) H Q E) : wpAny (model X.prog X.w) X.A (call (.ref f) us) (EP X pins σ Q) X.xe s := by
  have rr := r.append hd
  refine wpAny_call (codeAny_mono (goes F gd hr hx I (hb s us I.kIn (by rw [← rr.length]; exact F.len _ _ _ _ h)) rr h) (fun r' s' hq => ?_))
  match r', hq with
  | .error e, hq => exact hq
  | .ok (.ret u), hq => exact hq
theorem callsK {pins : List (Addr × Obj)} {σ : St} {H : Hp} {s : Shared} {Q : VK} {us ws : List Value} {vs zs : List V} (F : FnG X.prog X.w X.K X.mg X.base CX k f fd ps sp) (gd : X.A.guards = some []) (hr : Room k X.A)
    (hb : KBinds X.K fd ps ks g gV) (hx : Passes CX X E) (I : Inv X pins σ H s) (r : Vals vs us) (rz : Vals zs ws) (h : sp (gV vs zs) H Q E) : wpAny (model X.prog X.w) X.A (call (.ref f) us (ks.zip ws)) (EP X pins σ Q) X.xe s := by
  have rr := hb.rel r rz
  refine wpAny_call (codeAny_mono (goes F gd hr hx I (hb.to s us ws I.kIn (by rw [← rr.length]; exact F.len _ _ _ _ h)) rr h) (fun r' s' hq => ?_))
  match r', hq with
  | .error e, hq => exact hq
  | .ok (.ret u), hq => exact hq

/-- f(e, ..) -/
theorem pe_cg (F : FnG X.prog X.w X.K X.mg X.base CX k f fd ps sp) (gd : X.A.guards = some []) (hr : Room k X.A) (hg : Gl X x) (hm : X.mg x = some (.ref f)) (hk : PySem.W.keepIn X.K (.ref f) = true) (hb : Binds X.K fd ps ds)
    (hd : Vals dvs ds) (hx : Passes CX X E) (ha : PA X (e :: es) t) (hdb : (x == ("__debug__" : Str)) = false := by decide) (he : starEach (e :: es) X.env = (false, eval e X.env) :: starEach es X.env := by rfl)
    (hpl : (backTo pos (starEach es X.env)).any (·.1) = false := by rfl) : PE X (.Call (.Name x p) (e :: es) [] pos) (tCall sp dvs E t) :=
  ⟨fun pins s σ H Q I h => wpAny_Call_Name_kw (ld_glob I hg hm
    (PySem.W.callWith_K (h₀ := X.base) I.ok.mod.kin hk (thn (ha.run pos pins s σ H _ I h) fun us s1 ⟨vs, H1, I1, r, q⟩ => ⟨I1.kIn, calls F gd hr hb hd hx I1 r q⟩) he hpl) hdb)⟩
/-- f() -/
theorem pe_cg0 (F : FnG X.prog X.w X.K X.mg X.base CX k f fd ps sp) (gd : X.A.guards = some []) (hr : Room k X.A) (hg : Gl X x) (hm : X.mg x = some (.ref f)) (hk : PySem.W.keepIn X.K (.ref f) = true) (hb : Binds X.K fd ps ds)
    (hd : Vals dvs ds) (hx : Passes CX X E) (hdb : (x == ("__debug__" : Str)) = false := by decide) : PE X (.Call (.Name x p) [] [] pos) (tCall sp dvs E tNil) :=
  ⟨fun pins s σ H Q I h => wpAny_Call_Name_kw (ld_glob I hg hm (PySem.W.callWith_K0 I.kIn hk (calls (us := []) F gd hr hb hd hx I .nil h)) hdb)⟩
/-- f(e, .., k = v, ..), at least one place -/
theorem pe_cgK (F : FnG X.prog X.w X.K X.mg X.base CX k f fd ps sp) (gd : X.A.guards = some []) (hr : Room k X.A) (hg : Gl X x) (hm : X.mg x = some (.ref f)) (hk : PySem.W.keepIn X.K (.ref f) = true) (hb : KBinds X.K fd ps ks g gV)
    (hx : Passes CX X E) (ha : PA X (e :: es) t) (hkw : PK X kws tk) (hall : (backToKw pos (keywordEach kws X.env)).all (·.1.isSome) = true := by rfl) (hks : (backToKw pos (keywordEach kws X.env)).filterMap (·.1) = ks := by rfl)
    (hdb : (x == ("__debug__" : Str)) = false := by decide) (he : starEach (e :: es) X.env = (false, eval e X.env) :: starEach es X.env := by rfl)
    (hpl : ((backTo pos (starEach (e :: es) X.env)).any (·.1) || (backToKw pos (keywordEach kws X.env)).any (·.1.isNone)) = false := by rfl) : PE X (.Call (.Name x p) (e :: es) kws pos) (tCallK sp gV E t tk) := by
  refine ⟨fun pins s σ H Q I h => wpAny_Call_Name_kw (ld_glob I hg hm (PySem.W.callWith_KW (h₀ := X.base) I.ok.mod.kin hk hall (thn (ha.run pos pins s σ H _ I h) fun us s1 ⟨vs, H1, I1, r, q⟩ => ?_) hpl he) hdb)⟩
  refine thn (hkw.run pos pins s1 σ H1 _ I1 q) (fun ws s2 ⟨zs, H2, I2, rz, q2⟩ => ⟨I2.kIn, ?_⟩)
  subst hks
  exact callsK F gd hr hb hx I2 r rz q2
/-- f(k = v, ..), no place -/
theorem pe_cgK0 {kw : Keyword} (F : FnG X.prog X.w X.K X.mg X.base CX k f fd ps sp) (gd : X.A.guards = some []) (hr : Room k X.A) (hg : Gl X x) (hm : X.mg x = some (.ref f)) (hk : PySem.W.keepIn X.K (.ref f) = true) (hb : KBinds X.K fd ps ks g gV)
    (hx : Passes CX X E) (hkw : PK X (kw :: kws) tk) (hall : (backToKw pos (keywordEach (kw :: kws) X.env)).all (·.1.isSome) = true := by rfl) (hks : (backToKw pos (keywordEach (kw :: kws) X.env)).filterMap (·.1) = ks := by rfl)
    (hdb : (x == ("__debug__" : Str)) = false := by decide)
    (hpl : ((backTo pos (starEach [] X.env)).any (·.1) || (backToKw pos (keywordEach (kw :: kws) X.env)).any (·.1.isNone)) = false := by rfl) : PE X (.Call (.Name x p) [] (kw :: kws) pos) (tCallK sp gV E tNil tk) := by
  refine ⟨fun pins s σ H Q I h => wpAny_Call_Name_kw (ld_glob I hg hm (PySem.W.callWith_KW0 (h₀ := X.base) I.ok.mod.kin hk hall (thn (hkw.run pos pins s σ H _ I h) fun ws s2 ⟨zs, H2, I2, rz, q2⟩ => ⟨I2.kIn, ?_⟩) hpl) hdb)⟩
  subst hks
  exact callsK (us := []) (vs := []) F gd hr hb hx I2 .nil rz q2
end
end G

set_option maxRecDepth 100000
namespace G
open PySem L2 PySem.Spec PyProof.Rows

section
variable {P : Program} {w : World} {K : PySem.W.Frag} {mg : Str → Option Value} {base : Heap} {CX : CXT}
/-- a def by its body, where no guard stands -/
theorem okGX {x qual : Str} {st : Stmt} {f : Addr} {fd : FuncData} {N ps : List Str} {k : Nat} {sp : Sp} (F : Fun K x qual st f fd) (S : FnScope N ps (defScope st)) (len : ∀ vs H Q E, sp vs H Q E → vs.length = ps.length)
    (bd : ∀ (cdv : Value) (A : Around) (outer : List Env) (s : Shared) (H : Hp) (vs : List V) (Q : VK) (E : XK), A.guards = some [] → Room k (A.deeper (envOfC qual (defScope st) s.heap.objs.size f cdv)) → sp vs H Q E →
      ∃ t, PSs (cxOf CX P w K mg base N qual (defScope st) f cdv A outer s H E) (defBody st) t ∧ t { nx := fun _ H' => Q .non H', rt := Q } (start N vs) H) :
    FnG P w K mg base CX (k + 1) f fd ps sp := by
  obtain ⟨oc, od, kV, doc, pm, an, cdv, ct, osl, rfl, lk, hcd⟩ := F.ex
  refine ⟨len, fun A outer s H args us vs Q E gd hr e0 hb r hsp => ?_⟩
  have kin : K.In s.heap := e0.mod.kin.keeps fun b o q => (e0.bs b o q).1
  have nolim : s.heap.NoLimit := e0.mod.nolimit.keeps fun b o q => (e0.bs b o q).1
  have kinds : ∀ y ∈ ps.zip us, (defScope st).names.lookup y.1 = some .local ∨ ((defScope st).names.lookup y.1 = some .cell ∧ ((cellsFrom (s.heap.objs.size + 1) (defScope st).names []).lookup y.1).isSome = true) := by
    rintro ⟨n, v⟩ hy
    exact (S.par n (List.of_mem_zip hy).1).elim .inl fun q => .inr ⟨q, PySem.W.cellsFrom_some _ _ _ (.inl q)⟩
  refine codeAny_call_function hr.depth (kin _ _ lk) rfl S.co S.gen rfl (PySem.W.codeRec_of kin hcd) (hb _ _ _ _ (wpAny_newFunctionEnv_cells S.kind kinds fun env he s1 x => ?_))
  subst he
  refine ⟨nolim.keeps x.toInCall.keep, codeAny_func ?_⟩
  obtain ⟨t, ht, hq⟩ := bd cdv A outer s H vs Q E gd (hr.deeper _) hsp
  have I0 : Inv (cxOf CX P w K mg base N qual (defScope st) f cdv A outer s H E) [] (start N vs) H s1 := inv_start S hr.hd e0 (len _ _ _ _ hsp) r x
  refine wpAny_mono (ht.run [] s1 (start N vs) H _ I0 hq) (fun fl s' hs => ?_) fun e s' hs => hs
  match fl, hs with
  | .ret u, ⟨v, σ', H', J, rv, q⟩ => exact ⟨v, H', J.os, J.bare, J.base, J.hok, rv, q⟩
  | .next, ⟨σ', H', J, q⟩ => exact ⟨V.non, H', J.os, J.bare, J.base, J.hok, rfl, q⟩
  | .brk, ⟨_, _, _, q⟩ => exact q.elim
  | .cont, ⟨_, _, _, q⟩ => exact q.elim
/-- the same of a def that lets nothing out -/
theorem okG {x qual : Str} {st : Stmt} {f : Addr} {fd : FuncData} {N ps : List Str} {k : Nat} {sp : Sp} (F : Fun K x qual st f fd) (S : FnScope N ps (defScope st)) (len : ∀ vs H Q E, sp vs H Q E → vs.length = ps.length)
    (bd : ∀ (cdv : Value) (A : Around) (outer : List Env) (s : Shared) (H : Hp) (vs : List V) (Q : VK) (E : XK), A.guards = some [] → Room k (A.deeper (envOfC qual (defScope st) s.heap.objs.size f cdv)) → sp vs H Q E →
      ∃ t, PSs (cxOf CX0 P w K mg base N qual (defScope st) f cdv A outer s H E).nox (defBody st) t ∧ t { nx := fun _ H' => Q .non H', rt := Q } (start N vs) H) :
    FnG P w K mg base CX0 (k + 1) f fd ps sp :=
  okGX F S len fun cdv A outer s H vs Q E gd hr hsp => let ⟨t, h, q⟩ := bd cdv A outer s H vs Q E gd hr hsp; ⟨t, h.nox, q⟩
end

section
variable {X : Cx}
/-- repr of data -/
theorem call_reprD (gd : X.A.guards = some []) (hu : X.A.units + 80 < cLine) : CallR X (.builtin "repr") (fun xs H Q => ∃ x d, xs = [x] ∧ Dp X.K H x d ∧ SeqAt.shaped d = true ∧ d.showable = true ∧ d.shown.length ≤ sizeLine ∧ Q (.str d.shown) H) := by
  intro pins s σ H xs us Q I r h
  obtain ⟨x, d, rfl, hd, sh, sw, sz, q⟩ := h
  match us, r with
  | [u], .cons ru .nil =>
    have fin : ∀ h' t tk, (∀ b o, s.heap.get? b = some o → h'.get? b = some o) → EP X pins σ Q (.str d.shown t) { s with heap := h', toks := tk } := fun h' t tk kk => ⟨.str _, H, I.kept kk, ⟨_, rfl⟩, q⟩
    have fin0 : ∀ t tk, EP X pins σ Q (.str d.shown t) { s with toks := tk } := fun t tk => ⟨.str _, H, I.tok tk, ⟨_, rfl⟩, q⟩
    have dep : d.depth ≤ 64 := by
      have z : (d.canLay0 && decide (d.depth ≤ 64)) = true := sh
      rw [Bool.and_eq_true] at z
      exact of_decide_eq_true z.2
    have can : d.canLay0 = true := SeqAt.canLay_of_shaped sh
    have no := PyData.hasDict_of_canLay d can
    obtain ⟨as, rd⟩ := Dp.reads I d x u hd ru
    cases hd with
    | non =>
      cases (show u = Value.none from ru)
      rw [PyData.shown_none] at fin0
      exact PySem.P.repr_of_none (fin0 _ _)
    | bl b =>
      cases (show u = Value.bool b from ru)
      rw [PyData.shown_bool] at fin0
      refine PySem.P.repr_of_bool ?_
      cases b <;> exact fin0 _ _
    | int i =>
      obtain ⟨t, rfl⟩ := (show ∃ t, u = Value.int i t from ru)
      rw [PyData.shown_int] at fin0
      have z : decide (i.natAbs.log2 < 1920) = true := by simpa only [PyData.showable] using sw
      exact PySem.P.repr_of_int (of_decide_eq_true z) (fin0 _ _)
    | str z =>
      obtain ⟨t, rfl⟩ := (show ∃ t, u = Value.str z t from ru)
      rw [PyData.shown_str] at fin0 sz
      exact PySem.P.repr_of_str (fin0 _ _) sz
    | lst hs ha =>
      cases (show u = Value.ref _ from ru)
      exact repr_of_reads' rd sw (PyData.noDict_hsm no) gd (by omega) (fun _ _ q => q) (fun h' u tk kk => fin h' u tk kk) sz
    | tup hs ha =>
      cases (show u = Value.ref _ from ru)
      exact repr_of_reads' rd sw (PyData.noDict_hsm no) gd (by omega) (fun _ _ q => q) (fun h' u tk kk => fin h' u tk kk) sz
end
end G

set_option maxRecDepth 100000
namespace G
open PySem L2 PySem.Spec PyProof.Rows

/-! ### what data there is: how deep, how heavy -/
structure Sz (k m : Nat) (d : PyData) : Prop where
  lay : d.canLay0 = true
  sh : d.showable = true
  sl : d.leavesShort 700 = true
  dep : d.depth ≤ k
  wt : d.weight ≤ m
def szB (k m : Nat) (d : PyData) : Bool := d.canLay0 && d.showable && d.leavesShort 700 && decide (d.depth ≤ k) && decide (d.weight ≤ m)
theorem szB_of {k m : Nat} {d : PyData} (h : szB k m d = true) : Sz k m d := by
  unfold szB at h
  simp only [Bool.and_eq_true, decide_eq_true_eq] at h
  exact ⟨h.1.1.1.1, h.1.1.1.2, h.1.1.2, h.1.2, h.2⟩
theorem Sz.mono {k m k' m' : Nat} {d : PyData} (h : Sz k m d) (hk : k ≤ k') (hm : m ≤ m') : Sz k' m' d := ⟨h.lay, h.sh, h.sl, Nat.le_trans h.dep hk, Nat.le_trans h.wt hm⟩
theorem Sz.non {k m : Nat} : Sz k m .none := ⟨rfl, rfl, rfl, by simp [PyData.depth], by simp [PyData.weight]⟩
theorem Sz.bool {k m : Nat} (b : Bool) : Sz k m (.bool b) := ⟨rfl, rfl, rfl, by simp [PyData.depth], by simp [PyData.weight]⟩
theorem Sz.int {k m : Nat} {i : Int} (h : i.natAbs.log2 < 600) (hm : 600 ≤ m) : Sz k m (.int i) := by
  refine ⟨by simp [PyData.canLay0], ?_, ?_, by simp [PyData.depth], ?_⟩
  · simp only [PyData.showable]
    exact decide_eq_true (by omega)
  · simp only [PyData.leavesShort]
    refine decide_eq_true ?_
    rw [PyData.shown_int, PySem.ofString_length]
    have := int_text_length_le (k := 600) (by decide) h
    omega
  · simp only [PyData.weight]
    split <;> omega
theorem Sz.str {k m : Nat} {x : Str} (h : ∀ c ∈ x.cps.toList, c < 128) (hm : x.length ≤ m) : Sz k m (.str x) := by
  refine ⟨?_, by simp [PyData.showable], ?_, by simp [PyData.depth], ?_⟩
  · simp only [PyData.canLay0, PyData.strOk]
    rw [← Array.all_toList, List.all_eq_true]
    intro c hc
    exact decide_eq_true (Nat.lt_of_lt_of_le (h c hc) (by decide))
  · simp only [PyData.leavesShort]
    rw [List.all_eq_true]
    intro c hc
    exact decide_eq_true (Nat.lt_of_lt_of_le (h c hc) (by decide))
  · simp only [PyData.weight]
    exact hm
structure SzA (k m : Nat) (ds : List PyData) : Prop where
  lay : PyData.canLayAll0 ds = true
  sh : PyData.showableAll ds = true
  sl : PyData.leavesShortAll 700 ds = true
  dep : PyData.depthAll ds ≤ k
  wt : PyData.weightAll ds ≤ ds.length * (m + 1)
theorem SzA.of {k m : Nat} : ∀ {ds : List PyData}, (∀ d ∈ ds, Sz k m d) → SzA k m ds
  | [], _ => ⟨by simp [PyData.canLayAll0], by simp [PyData.showableAll], by simp [PyData.leavesShortAll], by simp [PyData.depthAll], by simp [PyData.weightAll]⟩
  | d :: ds, h => by
    have h1 := h d (List.mem_cons_self ..)
    have h2 := SzA.of (k := k) (m := m) (ds := ds) fun e he => h e (List.mem_cons_of_mem _ he)
    refine ⟨by simp [PyData.canLayAll0, h1.lay, h2.lay], by simp [PyData.showableAll, h1.sh, h2.sh], by simp [PyData.leavesShortAll, h1.sl, h2.sl], ?_, ?_⟩
    · simp only [PyData.depthAll]
      exact Nat.max_le.mpr ⟨h1.dep, h2.dep⟩
    · simp only [PyData.weightAll, List.length_cons]
      have a := h1.wt
      have b := h2.wt
      rw [Nat.succ_mul]
      omega
theorem Sz.tuple {k m n M : Nat} {ds : List PyData} (h : ∀ d ∈ ds, Sz k m d) (hn : ds.length ≤ n) (hM : n * (m + 1) ≤ M) : Sz (k + 1) M (.tuple ds) := by
  have z := SzA.of h
  have q : ds.length * (m + 1) ≤ n * (m + 1) := Nat.mul_le_mul_right _ hn
  exact ⟨by simp [PyData.canLay0, z.lay], by simp [PyData.showable, z.sh], by simp [PyData.leavesShort, z.sl], by simp only [PyData.depth]; exact Nat.succ_le_succ z.dep, by simp only [PyData.weight]; exact Nat.le_trans z.wt (Nat.le_trans q hM)⟩
theorem Sz.list {k m n M : Nat} {ds : List PyData} (h : ∀ d ∈ ds, Sz k m d) (hn : ds.length ≤ n) (hM : n * (m + 1) ≤ M) : Sz (k + 1) M (.list ds) := by
  have z := SzA.of h
  have q : ds.length * (m + 1) ≤ n * (m + 1) := Nat.mul_le_mul_right _ hn
  exact ⟨by simp [PyData.canLay0, z.lay], by simp [PyData.showable, z.sh], by simp [PyData.leavesShort, z.sl], by simp only [PyData.depth]; exact Nat.succ_le_succ z.dep, by simp only [PyData.weight]; exact Nat.le_trans z.wt (Nat.le_trans q hM)⟩
theorem SzA.item {k m : Nat} : ∀ {ds : List PyData}, PyData.canLayAll0 ds = true → PyData.showableAll ds = true → PyData.leavesShortAll 700 ds = true → PyData.depthAll ds ≤ k → PyData.weightAll ds ≤ m → ∀ d ∈ ds, Sz k m d
  | [], _, _, _, _, _, d, h => by cases h
  | e :: ds, h1, h2, h3, h4, h5, d, h => by
    simp only [PyData.canLayAll0, PyData.showableAll, PyData.leavesShortAll, PyData.depthAll, PyData.weightAll, Bool.and_eq_true] at h1 h2 h3 h4 h5
    have d1 : e.depth ≤ k ∧ PyData.depthAll ds ≤ k := ⟨Nat.le_trans (Nat.le_max_left ..) h4, Nat.le_trans (Nat.le_max_right ..) h4⟩
    rcases List.mem_cons.mp h with rfl | h
    · exact ⟨h1.1, h2.1, h3.1, d1.1, by omega⟩
    · exact SzA.item h1.2 h2.2 h3.2 d1.2 (by omega) d h
theorem Sz.itemT {k m : Nat} {ds : List PyData} (h : Sz k m (.tuple ds)) {d : PyData} (hd : d ∈ ds) : Sz k m d := by
  obtain ⟨h1, h2, h3, h4, h5⟩ := h
  simp only [PyData.canLay0, PyData.showable, PyData.leavesShort, PyData.depth, PyData.weight] at h1 h2 h3 h4 h5
  exact SzA.item h1 h2 h3 (Nat.le_of_succ_le h4) h5 d hd
theorem Sz.itemL {k m : Nat} {ds : List PyData} (h : Sz k m (.list ds)) {d : PyData} (hd : d ∈ ds) : Sz k m d := by
  obtain ⟨h1, h2, h3, h4, h5⟩ := h
  simp only [PyData.canLay0, PyData.showable, PyData.leavesShort, PyData.depth, PyData.weight] at h1 h2 h3 h4 h5
  exact SzA.item h1 h2 h3 (Nat.le_of_succ_le h4) h5 d hd
theorem Sz.len {k m : Nat} {x : Str} (h : Sz k m (.str x)) : x.length ≤ m := by
  have z := h.wt
  simp only [PyData.weight] at z
  exact z
theorem Sz.shaped {k m : Nat} {d : PyData} (h : Sz k m d) (hk : k ≤ 64) : SeqAt.shaped d = true := by
  show (d.canLay0 && decide (d.depth ≤ 64)) = true
  rw [Bool.and_eq_true]
  exact ⟨h.lay, decide_eq_true (Nat.le_trans h.dep hk)⟩
theorem Sz.fits {k m : Nat} {d : PyData} (h : Sz k m d) (hm : m ≤ 23000) : d.shown.length ≤ sizeLine := by
  have a := PyData.shown_le 700 (by decide) d h.sl
  have b : (700 + 2) * d.weight ≤ 702 * 23000 := Nat.mul_le_mul_left _ (Nat.le_trans h.wt hm)
  rw [sizeLine_eq]
  omega

/-! ### sequences stay -/
structure Held (H H' : Hp) : Prop where
  lst : ∀ b xs, H b = some (.lst xs) → H' b = some (.lst xs)
  tup : ∀ b xs, H b = some (.tup xs) → H' b = some (.tup xs)
  fl : ∀ b o xs, H b = some (.frz o (.lst xs)) → H' b = some (.frz o (.lst xs))
  ft : ∀ b o xs, H b = some (.frz o (.tup xs)) → H' b = some (.frz o (.tup xs))
theorem Held.of {H H' : Hp} (s : Same H H') : Held H H' := ⟨fun b _ => s b _, fun b _ => s b _, fun b _ _ => s b _, fun b _ _ => s b _⟩
theorem Held.refl (H : Hp) : Held H H := .of (.refl H)
theorem Held.trans {H H1 H2 : Hp} (a : Held H H1) (b : Held H1 H2) : Held H H2 :=
  ⟨fun c x h => b.lst c x (a.lst c x h), fun c x h => b.tup c x (a.tup c x h), fun c o x h => b.fl c o x (a.fl c o x h), fun c o x h => b.ft c o x (a.ft c o x h)⟩
theorem Held.sql {K : PySem.W.Frag} {H H' : Hp} {a : Addr} {xs : List V} (s : Held H H') (h : SqL K H a xs) : SqL K H' a xs := by
  rcases h with (h | ⟨o, h⟩) | h
  · exact .inl (.inl (s.lst _ _ h))
  · exact .inl (.inr ⟨o, s.fl _ _ _ h⟩)
  · exact .inr h
theorem Held.sqt {K : PySem.W.Frag} {H H' : Hp} {a : Addr} {xs : List V} (s : Held H H') (h : SqT K H a xs) : SqT K H' a xs := by
  rcases h with (h | ⟨o, h⟩) | h
  · exact .inl (.inl (s.tup _ _ h))
  · exact .inl (.inr ⟨o, s.ft _ _ _ h⟩)
  · exact .inr h
mutual
theorem Held.dp {K : PySem.W.Frag} {H H' : Hp} (s : Held H H') : ∀ (d : PyData) (v : V), Dp K H v d → Dp K H' v d
  | .none, _, h => by cases h; exact .non
  | .bool b, _, h => by cases h; exact .bl b
  | .int i, _, h => by cases h; exact .int i
  | .str x, _, h => by cases h; exact .str x
  | .list ds, _, h => by
    cases h with
    | lst q a => exact .lst (s.sql q) (Held.dpAll s ds _ a)
  | .tuple ds, _, h => by
    cases h with
    | tup q a => exact .tup (s.sqt q) (Held.dpAll s ds _ a)
  | .dict _, _, h => by cases h
theorem Held.dpAll {K : PySem.W.Frag} {H H' : Hp} (s : Held H H') : ∀ (ds : List PyData) (vs : List V), DpAll K H vs ds → DpAll K H' vs ds
  | [], _, h => by cases h; exact .nil
  | d :: ds, _, h => by
    cases h with
    | cons a b => exact .cons (Held.dp s d _ a) (Held.dpAll s ds _ b)
end
theorem Same.upd {H : Hp} {p : Addr} {o : HO} (h : H p = none) : Same H (upd H p o) := fun b u e => by rw [upd_ne (ne_of_none e h)]; exact e
theorem Held.upd {H : Hp} {p : Addr} {o : HO} (h : H p = none) : Held H (L2.upd H p o) := .of (Same.upd h)
end G
namespace L2
open PySem PySem.Spec PyProof.Rows
theorem DpAll.length {K : PySem.W.Frag} {H : Hp} : ∀ {vs : List V} {ds : List PyData}, DpAll K H vs ds → vs.length = ds.length
  | _, _, .nil => rfl
  | _, _, .cons _ t => congrArg (· + 1) (DpAll.length t)
theorem DpAll.get {K : PySem.W.Frag} {H : Hp} : ∀ {vs : List V} {ds : List PyData} {i : Nat} {d : PyData}, DpAll K H vs ds → ds[i]? = some d → ∃ v, vs[i]? = some v ∧ Dp K H v d
  | _, _, _, _, .nil, e => by simp at e
  | _, _, 0, _, .cons h _, e => by simp at e; subst e; exact ⟨_, rfl, h⟩
  | _, _, i + 1, d, .cons _ t, e => by
    obtain ⟨v, h1, h2⟩ := DpAll.get (i := i) (d := d) t (by simpa using e)
    exact ⟨v, by simpa using h1, h2⟩
theorem DpAll.getV {K : PySem.W.Frag} {H : Hp} {vs : List V} {ds : List PyData} {i : Nat} {v : V} (h : DpAll K H vs ds) (e : vs[i]? = some v) : ∃ d, ds[i]? = some d ∧ Dp K H v d := by
  have hl := h.length
  have hi : i < ds.length := by rw [← hl]; exact (List.getElem?_eq_some_iff.mp e).1
  obtain ⟨u, h1, h2⟩ := h.get (List.getElem?_eq_getElem hi)
  rw [e] at h1
  cases h1
  exact ⟨_, List.getElem?_eq_getElem hi, h2⟩
theorem DpAll.append {K : PySem.W.Frag} {H : Hp} : ∀ {vs ws : List V} {ds es : List PyData}, DpAll K H vs ds → DpAll K H ws es → DpAll K H (vs ++ ws) (ds ++ es)
  | _, _, _, _, .nil, q => q
  | _, _, _, _, .cons a t, q => .cons a (DpAll.append t q)
theorem DpAll.take {K : PySem.W.Frag} {H : Hp} : ∀ {vs : List V} {ds : List PyData} (n : Nat), DpAll K H vs ds → DpAll K H (vs.take n) (ds.take n)
  | _, _, 0, _ => .nil
  | _, _, _ + 1, .nil => .nil
  | _, _, n + 1, .cons a t => .cons a (DpAll.take n t)
theorem DpAll.drop {K : PySem.W.Frag} {H : Hp} : ∀ {vs : List V} {ds : List PyData} (n : Nat), DpAll K H vs ds → DpAll K H (vs.drop n) (ds.drop n)
  | _, _, 0, h => h
  | _, _, _ + 1, .nil => .nil
  | _, _, n + 1, .cons _ t => DpAll.drop n t
theorem DpAll.reverse {K : PySem.W.Frag} {H : Hp} : ∀ {vs : List V} {ds : List PyData}, DpAll K H vs ds → DpAll K H vs.reverse ds.reverse
  | _, _, .nil => .nil
  | _, _, .cons a t => by
    rw [List.reverse_cons, List.reverse_cons]
    exact DpAll.append (DpAll.reverse t) (.cons a .nil)
end L2
namespace G
open PySem L2 PySem.Spec PyProof.Rows
end G
namespace L2
open PySem PySem.Spec PyProof.Rows
theorem Dp.newT {K : PySem.W.Frag} {H : Hp} {vs : List V} {ds : List PyData} {p : Addr} (h : DpAll K H vs ds) (np : H p = none) : Dp K (upd H p (.tup vs)) (.ref p) (.tuple ds) :=
  .tup (.inl (.inl upd_same)) ((G.Held.upd np).dpAll _ _ h)
theorem Dp.newL {K : PySem.W.Frag} {H : Hp} {vs : List V} {ds : List PyData} {p : Addr} (h : DpAll K H vs ds) (np : H p = none) : Dp K (upd H p (.lst vs)) (.ref p) (.list ds) :=
  .lst (.inl (.inl upd_same)) ((G.Held.upd np).dpAll _ _ h)

end L2
namespace G
open PySem L2 PySem.Spec PyProof.Rows
/-! ### written data -/
section
variable {X : Cx}
def tD (K : PySem.W.Frag) (d : PyData) : TE := fun _ H Q => ∀ v H', Same H H' → Dp K H' v d → Q v H'
def tDs (K : PySem.W.Frag) (ds : List PyData) : TA := fun _ H Q => ∀ vs H', Same H H' → DpAll K H' vs ds → Q vs H'
theorem pe_weak {e : Expr} {t u : TE} (h : PE X e t) (i : ∀ σ H Q, u σ H Q → t σ H Q) : PE X e u := ⟨fun pins s σ H Q I q => h.run pins s σ H Q I (i σ H Q q)⟩
theorem pa_weak {es : List Expr} {t u : TA} (h : PA X es t) (i : ∀ σ H Q, u σ H Q → t σ H Q) : PA X es u := ⟨fun pos pins s σ H Q I q => h.run pos pins s σ H Q I (i σ H Q q)⟩
def constI : Expr → Option Int
  | .Constant (.int i) _ _ => some i
  | _ => none
theorem constI_of {e : Expr} {i : Int} (h : constI e = some i) : ∃ k p, e = .Constant (.int i) k p := by
  unfold constI at h
  split at h
  · cases h
    exact ⟨_, _, rfl⟩
  · cases h
def isNeg : UnaryOp → Bool
  | .USub => true
  | _ => false
def isPow : Operator → Bool
  | .Pow => true
  | _ => false
theorem isNeg_of {o : UnaryOp} (h : isNeg o = true) : o = .USub := by cases o <;> first | rfl | cases h
theorem isPow_of {o : Operator} (h : isPow o = true) : o = .Pow := by cases o <;> first | rfl | cases h
mutual
def litD : Expr → Option PyData
  | .Constant .none _ _ => some .none
  | .Constant (.bool b) _ _ => some (.bool b)
  | .Constant (.int i) _ _ => some (.int i)
  | .Constant (.str x) _ _ => some (.str x)
  | .UnaryOp op a _ => if isNeg op then (constI a).map fun i => .int (-i) else none
  | .BinOp a op b _ => if isPow op then match constI a, constI b with
    | some i, some j => if 0 ≤ j ∧ j ≤ 1000 ∧ i.natAbs < 2 ^ 64 then some (.int (i ^ j.toNat)) else none
    | _, _ => none
    else none
  | .Tuple es _ _ => match litDs es with
    | some ds => if ds.length ≤ 1000 then some (.tuple ds) else none
    | none => none
  | .List es _ => match litDs es with
    | some ds => if ds.length ≤ 1000 then some (.list ds) else none
    | none => none
  | _ => none
def litDs : List Expr → Option (List PyData)
  | [] => some []
  | e :: es => match litD e with
    | some d => match litDs es with
      | some ds => some (d :: ds)
      | none => none
    | none => none
end
theorem thousand {n : Nat} (h : n ≤ 1000) : n ≤ sizeLine := Nat.le_trans h (by rw [sizeLine_eq]; decide)
theorem lit_star {e : Expr} {es : List Expr} {env : Env} {d : PyData} (h : litD e = some d) : starEach (e :: es) env = (false, eval e env) :: starEach es env := by
  cases e <;> first | rfl | (simp [litD] at h; done)
theorem lit_con {c : Const} {k : Nat} {pos : Pos} {d : PyData} (h : litD (.Constant c k pos) = some d) : PE X (.Constant c k pos) (tD X.K d) := by
    cases c with
    | none => unfold litD at h; cases h; exact pe_weak pe_non fun σ H Q q => q _ _ (.refl H) .non
    | bool b => unfold litD at h; cases h; exact pe_weak pe_bl fun σ H Q q => q _ _ (.refl H) (.bl b)
    | int i => unfold litD at h; cases h; exact pe_weak pe_int fun σ H Q q => q _ _ (.refl H) (.int i)
    | str x => unfold litD at h; cases h; exact pe_weak pe_str fun σ H Q q => q _ _ (.refl H) (.str x)
    | _ => simp [litD] at h
theorem lit_un {op : UnaryOp} {a : Expr} {pos : Pos} {d : PyData} (h : litD (.UnaryOp op a pos) = some d) : PE X (.UnaryOp op a pos) (tD X.K d) := by
  unfold litD at h
  by_cases ho : isNeg op = true
  · rw [if_pos ho] at h
    cases e : constI a with
    | none => rw [e] at h; cases h
    | some i =>
      rw [e] at h
      cases h
      obtain ⟨k, p, rfl⟩ := constI_of e
      rw [isNeg_of ho]
      exact pe_weak (pe_un un_neg pe_int) fun σ H Q q => ⟨_, rfl, q _ _ (.refl H) (.int _)⟩
  · rw [if_neg ho] at h
    cases h
theorem lit_bin {op : Operator} {a b : Expr} {pos : Pos} {d : PyData} (h : litD (.BinOp a op b pos) = some d) : PE X (.BinOp a op b pos) (tD X.K d) := by
  unfold litD at h
  by_cases ho : isPow op = true
  · rw [if_pos ho] at h
    cases e : constI a with
    | none => rw [e] at h; cases h
    | some i =>
      cases e2 : constI b with
      | none => rw [e, e2] at h; cases h
      | some j =>
        rw [e, e2] at h
        dsimp only at h
        obtain ⟨k, p, rfl⟩ := constI_of e
        obtain ⟨k2, p2, rfl⟩ := constI_of e2
        rw [isPow_of ho]
        by_cases hc : 0 ≤ j ∧ j ≤ 1000 ∧ i.natAbs < 2 ^ 64
        · rw [if_pos hc] at h
          cases h
          exact pe_weak (pe_op op_pow pe_int pe_int) fun σ H Q q => ⟨_, _, rfl, rfl, ⟨hc.1, by have := hc.2.1; omega, hc.2.2⟩, q _ _ (.refl H) (.int _)⟩
        · rw [if_neg hc] at h
          cases h
  · rw [if_neg ho] at h
    cases h
mutual
theorem pe_lit : ∀ (e : Expr) (d : PyData), litD e = some d → PE X e (tD X.K d)
  | .Constant _ _ _, _, h => lit_con h
  | .UnaryOp _ _ _, _, h => lit_un h
  | .BinOp _ _ _ _, _, h => lit_bin h
  | .Tuple es k pos, d, h => by
    unfold litD at h
    cases e : litDs es with
    | none => rw [e] at h; cases h
    | some ds =>
      rw [e] at h
      dsimp only at h
      by_cases hl : ds.length ≤ 1000
      · rw [if_pos hl] at h
        cases h
        refine pe_weak (pe_tup (pa_lit es ds e)) fun σ H Q q => ?_
        intro vs H' s a
        exact ⟨by rw [a.length]; exact thousand hl, fun p np => q _ _ (s.trans (Same.upd np)) (Dp.newT a np)⟩
      · rw [if_neg hl] at h
        cases h
  | .List es pos, d, h => by
    unfold litD at h
    cases e : litDs es with
    | none => rw [e] at h; cases h
    | some ds =>
      rw [e] at h
      dsimp only at h
      by_cases hl : ds.length ≤ 1000
      · rw [if_pos hl] at h
        cases h
        refine pe_weak (pe_lst (pa_lit es ds e)) fun σ H Q q => ?_
        intro vs H' s a
        exact ⟨by rw [a.length]; exact thousand hl, fun p np => q _ _ (s.trans (Same.upd np)) (Dp.newL a np)⟩
      · rw [if_neg hl] at h
        cases h
  | .BoolOp _ _ _, _, h => by simp [litD] at h
  | .NamedExpr _ _ _, _, h => by simp [litD] at h
  | .Lambda _ _ _ _, _, h => by simp [litD] at h
  | .IfExp _ _ _ _, _, h => by simp [litD] at h
  | .Dict _ _ _, _, h => by simp [litD] at h
  | .Set _ _ _, _, h => by simp [litD] at h
  | .ListComp _ _ _ _, _, h => by simp [litD] at h
  | .SetComp _ _ _ _, _, h => by simp [litD] at h
  | .DictComp _ _ _ _ _, _, h => by simp [litD] at h
  | .GeneratorExp _ _ _ _, _, h => by simp [litD] at h
  | .Await _ _, _, h => by simp [litD] at h
  | .Yield _ _, _, h => by simp [litD] at h
  | .YieldFrom _ _, _, h => by simp [litD] at h
  | .Compare _ _ _ _, _, h => by simp [litD] at h
  | .Call _ _ _ _, _, h => by simp [litD] at h
  | .FormattedValue _ _ _ _, _, h => by simp [litD] at h
  | .JoinedStr _ _, _, h => by simp [litD] at h
  | .Attribute _ _ _, _, h => by simp [litD] at h
  | .Subscript _ _ _, _, h => by simp [litD] at h
  | .Starred _ _, _, h => by simp [litD] at h
  | .Name _ _, _, h => by simp [litD] at h
  | .Slice _ _ _ _, _, h => by simp [litD] at h
theorem pa_lit : ∀ (es : List Expr) (ds : List PyData), litDs es = some ds → PA X es (tDs X.K ds)
  | [], ds, h => by
    unfold litDs at h
    cases h
    exact pa_weak pa_nil fun σ H Q q => q _ _ (.refl H) .nil
  | e :: es, ds, h => by
    unfold litDs at h
    cases h1 : litD e with
    | none => rw [h1] at h; cases h
    | some d =>
      rw [h1] at h
      cases h2 : litDs es with
      | none => rw [h2] at h; cases h
      | some ds' =>
        rw [h2] at h
        cases h
        refine pa_weak (pa_cons (pe_lit e d h1) (pa_lit es ds' h2) (lit_star h1)) fun σ H Q q => ?_
        intro v H1 s1 dv vs H2 s2 dvs
        exact q _ _ (s1.trans s2) (.cons ((Held.of s2).dp _ _ dv) dvs)
end
end
end G

set_option maxRecDepth 100000
namespace G
open PySem L2 PySem.Spec PyProof.Rows

/-! ### a def of the text, found by its name -/
def Is (K : PySem.W.Frag) (mg : Str → Option Value) (x : Str) (st : Stmt) : Prop := ∃ f fd, Fun K x x st f fd ∧ mg x = some (.ref f)
theorem Is.of {K : PySem.W.Frag} {mg : Str → Option Value} {h : Heap} {x : Str} {st : Stmt} (X : K.In h) (G : h.Ns mainGlobals mg) {f : Addr} {oc kV doc pm cdv ct : Value} {od an : Option Addr} {osl : Array (Option Value)}
    (a : PySem.W.nsIn K mainGlobals x = some (some (.ref f))) (l : K.lookup f = some ⟨oc, od, .func (PySem.W.fnOf x x (defArgs st) (defBody st) (defScope st) .none kV doc pm an cdv ct), osl⟩)
    (c : PySem.W.codeIn K cdv x = true) (k : PySem.W.keepIn K (.ref f) = true) : Is K mg x st := ⟨f, _, fun_mk l c k, PySem.W.mg_of X G a⟩
/-- what may be called by a name -/
structure CalG (P : Program) (w : World) (K : PySem.W.Frag) (mg : Str → Option Value) (base : Heap) (k : Nat) (x : Str) (sp : Sp) : Prop where
  ex : ∃ f fd ps, FnG P w K mg base CX0 k f fd ps sp ∧ mg x = some (.ref f) ∧ PySem.W.keepIn K (.ref f) = true ∧ Binds K fd ps []
structure CalGK (P : Program) (w : World) (K : PySem.W.Frag) (mg : Str → Option Value) (base : Heap) (k : Nat) (x y : Str) (sp : Sp) : Prop where
  ex : ∃ f fd, FnG P w K mg base CX0 k f fd [y] sp ∧ mg x = some (.ref f) ∧ PySem.W.keepIn K (.ref f) = true ∧ KBinds K fd [y] [y] (fun us ws => us ++ ws) (fun vs zs => vs ++ zs)
section
variable {X : Cx} {k j : Nat} {sp : Sp} {x y : Str} {p pos : Pos} {e : Expr} {es : List Expr} {t : TA} {te : TE}
theorem pe_g (c : CalG X.prog X.w X.K X.mg X.base k x sp) (gd : X.A.guards = some []) (hr : Room j X.A) (hk : k ≤ j) (hg : Gl X x) (ha : PA X (e :: es) t) (hdb : (x == ("__debug__" : Str)) = false := by decide)
    (he : starEach (e :: es) X.env = (false, eval e X.env) :: starEach es X.env := by rfl) (hpl : (backTo pos (starEach es X.env)).any (·.1) = false := by rfl) :
    PE X (.Call (.Name x p) (e :: es) [] pos) (fun σ H Q => t σ H fun vs H1 => sp vs H1 Q E0) := by
  obtain ⟨f, fd, ps, F, m, kp, b⟩ := c.ex
  refine pe_weak (pe_cg F gd (hr.mono hk) hg m kp b .nil pass0 ha hdb he hpl) fun σ H Q q => ?_
  show t σ H fun vs H1 => sp (vs ++ []) H1 Q E0
  simpa only [List.append_nil] using q
theorem pe_g0 (c : CalG X.prog X.w X.K X.mg X.base k x sp) (gd : X.A.guards = some []) (hr : Room j X.A) (hk : k ≤ j) (hg : Gl X x) (hdb : (x == ("__debug__" : Str)) = false := by decide) :
    PE X (.Call (.Name x p) [] [] pos) (fun σ H Q => sp [] H Q E0) := by
  obtain ⟨f, fd, ps, F, m, kp, b⟩ := c.ex
  exact pe_cg0 F gd (hr.mono hk) hg m kp b .nil pass0 hdb
theorem pe_gK {kpos : Pos} (c : CalGK X.prog X.w X.K X.mg X.base k x y sp) (gd : X.A.guards = some []) (hr : Room j X.A) (hk : k ≤ j) (hg : Gl X x) (he : PE X e te)
    (hall : (backToKw pos (keywordEach [⟨some y, e, kpos⟩] X.env)).all (·.1.isSome) = true := by rfl)
    (hks : (backToKw pos (keywordEach [⟨some y, e, kpos⟩] X.env)).filterMap (·.1) = [y] := by rfl) (hdb : (x == ("__debug__" : Str)) = false := by decide)
    (hpl : ((backTo pos (starEach [] X.env)).any (·.1) || (backToKw pos (keywordEach [⟨some y, e, kpos⟩] X.env)).any (·.1.isNone)) = false := by rfl) :
    PE X (.Call (.Name x p) [] [⟨some y, e, kpos⟩] pos) (fun σ H Q => te σ H fun v H1 => sp [v] H1 Q E0) := by
  obtain ⟨f, fd, F, m, kp, b⟩ := c.ex
  exact pe_cgK0 F gd (hr.mono hk) hg m kp b pass0 (pk_cons he pk_nil) hall hks hdb hpl
end
section
variable {P : Program} {w : World} {K : PySem.W.Frag} {mg : Str → Option Value} {base : Heap} {k : Nat} {sp : Sp} {x : Str} {st : Stmt}
/-- a def's promise by its body; args: how its arguments bind -/
theorem cal_of (i : Is K mg x st) {N ps : List Str} (S : FnScope N ps (defScope st)) (len : ∀ vs H Q E, sp vs H Q E → vs.length = ps.length)
    (args : ∀ (kV doc pm : Value) (an : Option Addr) (cdv ct : Value) (us : List Value), us.length = ps.length → bindArgs (PySem.W.fnOf x x (defArgs st) (defBody st) (defScope st) .none kV doc pm an cdv ct) ⟨us, []⟩ = pure (ps.zip us))
    (bd : ∀ (f : Addr) (cdv : Value) (A : Around) (outer : List Env) (s : Shared) (H : Hp) (vs : List V) (Q : VK) (E : XK), A.guards = some [] → Room k (A.deeper (envOfC x (defScope st) s.heap.objs.size f cdv)) → sp vs H Q E →
      ∃ t, PSs (cxOf CX0 P w K mg base N x (defScope st) f cdv A outer s H E).nox (defBody st) t ∧ t { nx := fun _ H' => Q .non H', rt := Q } (start N vs) H) : CalG P w K mg base (k + 1) x sp := by
  obtain ⟨f, fd, F, m⟩ := i
  exact ⟨⟨f, fd, ps, okG F S len (bd f), m, F.kp, F.binds args⟩⟩
end

theorem pe_gl {X : Cx} {x : Str} {v : V} {pos : Pos} (hg : Gl X x) (h : ∃ u, X.mg x = some u ∧ RelV v u) (hn : (x == ("__debug__" : Str)) = false := by decide) : PE X (.Name x pos) (tC v) := by
  obtain ⟨u, h1, h2⟩ := h
  exact pe_glob hg h1 h2 hn
/-- the same with the text's place kept, for calls by names -/
def CalS (P : Program) (w : World) (K : PySem.W.Frag) (mg : Str → Option Value) (base : Heap) (k : Nat) (x : Str) (st : Stmt) (ps : List Str) (sp : Sp) : Prop :=
  ∃ f fd, FnG P w K mg base CX0 k f fd ps sp ∧ Fun K x x st f fd ∧ mg x = some (.ref f) ∧ Binds K fd ps []
section
variable {P : Program} {w : World} {K : PySem.W.Frag} {mg : Str → Option Value} {base : Heap} {k : Nat} {sp : Sp} {x : Str} {st : Stmt} {ps : List Str}
theorem CalS.g (c : CalS P w K mg base k x st ps sp) : CalG P w K mg base k x sp := let ⟨f, fd, F, Z, m, b⟩ := c; ⟨⟨f, fd, ps, F, m, Z.kp, b⟩⟩
theorem CalS.kw {y : Str} (c : CalS P w K mg base k x st [y] sp)
    (hp : ∀ (kV doc pm : Value) (an : Option Addr) (cdv ct u : Value), bindArgs (PySem.W.fnOf x x (defArgs st) (defBody st) (defScope st) .none kV doc pm an cdv ct) ⟨[u], []⟩ = pure [(y, u)])
    (hk : ∀ (kV doc pm : Value) (an : Option Addr) (cdv ct u : Value), bindArgs (PySem.W.fnOf x x (defArgs st) (defBody st) (defScope st) .none kV doc pm an cdv ct) ⟨[], [(y, u)]⟩ = pure [(y, u)]) : CalGK P w K mg base k x y sp := by
  obtain ⟨f, fd, F, Z, m, b⟩ := c
  refine ⟨⟨f, fd, F, m, Z.kp, ?_, fun r rz => r.append rz⟩⟩
  obtain ⟨oc, od, kV, doc, pm, an, cdv, ct, osl, rfl, lk, hcd⟩ := Z.ex
  intro s us ws _ hl
  match us, ws, hl with
  | [u], [], _ => exact .of_eq (hp kV doc pm an cdv ct u)
  | [], [u], _ => exact .of_eq (hk kV doc pm an cdv ct u)
theorem calS_of (i : Is K mg x st) {N : List Str} (S : FnScope N ps (defScope st)) (len : ∀ vs H Q E, sp vs H Q E → vs.length = ps.length)
    (args : ∀ (kV doc pm : Value) (an : Option Addr) (cdv ct : Value) (us : List Value), us.length = ps.length → bindArgs (PySem.W.fnOf x x (defArgs st) (defBody st) (defScope st) .none kV doc pm an cdv ct) ⟨us, []⟩ = pure (ps.zip us))
    (bd : ∀ (f : Addr) (cdv : Value) (A : Around) (outer : List Env) (s : Shared) (H : Hp) (vs : List V) (Q : VK) (E : XK), A.guards = some [] → Room k (A.deeper (envOfC x (defScope st) s.heap.objs.size f cdv)) → sp vs H Q E →
      ∃ t, PSs (cxOf CX0 P w K mg base N x (defScope st) f cdv A outer s H E).nox (defBody st) t ∧ t { nx := fun _ H' => Q .non H', rt := Q } (start N vs) H) : CalS P w K mg base (k + 1) x st ps sp := by
  obtain ⟨f, fd, F, m⟩ := i
  exact ⟨f, fd, okG F S len (bd f), F, m, F.binds args⟩
end
/-! ### kinds of data -/
def tyN : PyData → String
  | .none => "NoneType" | .bool _ => "bool" | .int _ => "int" | .str _ => "str" | .list _ => "list" | .tuple _ => "tuple" | .dict _ => "dict"
theorem _root_.L2.Dp.ty {K : PySem.W.Frag} {H : Hp} {v : V} {d : PyData} (h : Dp K H v d) : TyX K H v (.type (tyN d)) := by
  cases h with
  | non => exact .base .non
  | bl b => exact .base (.bl b)
  | int i => exact .base (.int i)
  | str x => exact .base (.str x)
  | lst q _ =>
    rcases q with (q | ⟨o, q⟩) | ⟨o, _, _, q, c, _⟩
    · exact .base (.lst q)
    · exact .base (.frz q)
    · exact .kList q c
  | tup q _ =>
    rcases q with (q | ⟨o, q⟩) | ⟨o, _, _, q, c, _⟩
    · exact .base (.tup q)
    · exact .fTuple q
    · exact .kTuple q c
def Isi (T : String) (g : PyData → Bool) : Prop := ∀ d, kitB (tyN d) T = some (g d)
def dI : PyData → Bool | .int _ => true | .bool _ => true | _ => false
def dB : PyData → Bool | .bool _ => true | _ => false
def dS : PyData → Bool | .str _ => true | _ => false
def dT : PyData → Bool | .tuple _ => true | _ => false
def dL : PyData → Bool | .list _ => true | _ => false
theorem isi_int : Isi "int" dI := fun d => by cases d <;> (show kitB _ _ = some _; simp only [tyN, dI]; decide +kernel)
theorem isi_bool : Isi "bool" dB := fun d => by cases d <;> (show kitB _ _ = some _; simp only [tyN, dB]; decide +kernel)
theorem isi_str : Isi "str" dS := fun d => by cases d <;> (show kitB _ _ = some _; simp only [tyN, dS]; decide +kernel)
theorem isi_tuple : Isi "tuple" dT := fun d => by cases d <;> (show kitB _ _ = some _; simp only [tyN, dT]; decide +kernel)
theorem isi_list : Isi "list" dL := fun d => by cases d <;> (show kitB _ _ = some _; simp only [tyN, dL]; decide +kernel)
section
variable {X : Cx} {T : String} {g : PyData → Bool} {e : Expr} {te : TE} {p p2 pos : Pos} {y : Str}
/-- isinstance(e, T) of data -/
theorem call_isiG (hT : Isi T g) : CallR X (.builtin "isinstance") (fun xs H Q => ∃ x d, xs = [x, .ty T] ∧ Dp X.K H x d ∧ Q (.bl (g d)) H) := by
  intro pins s σ H xs us Q I r h
  obtain ⟨x, d, rfl, hd, q⟩ := h
  exact call_isi pins s σ H _ us Q I r ⟨x, .ty T, _, _, g d, rfl, .ty T, hd.ty, kit_ty (hT d), q⟩
theorem pe_isi (hT : Isi T g) (he : PE X e te) (hg : Gl X "isinstance") (hm : X.mg "isinstance" = none) (hg2 : Gl X y) (hm2 : X.mg y = none) (hv2 : bootBuiltins y = some (.type T)) (hn : y ≠ "__name__" := by decide) (hd : (y == ("__debug__" : Str)) = false := by decide)
    (hst : starEach (e :: [.Name y p2]) X.env = (false, eval e X.env) :: starEach [.Name y p2] X.env := by rfl) :
    PE X (.Call (.Name "isinstance" p) [e, .Name y p2] [] pos) (tCB (fun xs H Q => ∃ x d, xs = [x, .ty T] ∧ Dp X.K H x d ∧ Q (.bl (g d)) H) (tCons te (tCons (tC (.ty T)) tNil))) :=
  pe_callB (call_isiG hT) hg hm (by decide +kernel) (pa_cons he (pa_cons (pe_bltn (v := .ty T) hg2 hm2 hv2 rfl hn hd) pa_nil) hst) (he := hst)
end
end G

set_option maxRecDepth 100000
namespace G
open PySem L2 PySem.Spec PyProof.Rows HT

theorem back_adjust (n : Nat) : Builtin.Slice.sliceAdjust none none (-1) (n : Int) = ((n : Int) - 1, -1) := rfl
theorem back_places (n : Nat) : Builtin.Slice.slicePlaces ((n : Int) - 1) (-1) (-1) = n := by
  unfold Builtin.Slice.slicePlaces
  have z : ¬ ((-1 : Int) > 0) := by omega
  simp only [z, if_false, show (-(-1) : Int) = 1 from rfl, Int.ediv_one]
  split <;> omega
theorem back_pick (xs : Array Value) : ((List.range xs.size).filterMap fun (m : Nat) => xs[(((xs.size : Int) - 1) + (m : Int) * (-1)).toNat]?).toArray = xs.toList.reverse.toArray := by
  congr 1
  have e : ∀ m ∈ List.range xs.size, xs[(((xs.size : Int) - 1) + (m : Int) * (-1)).toNat]? = some (xs.toList.getD (xs.size - 1 - m) Value.none) := by
    intro m hm
    have hm := List.mem_range.mp hm
    have q : (((xs.size : Int) - 1) + (m : Int) * (-1)).toNat = xs.size - 1 - m := by omega
    have hl : xs.size - 1 - m < xs.toList.length := by rw [Array.length_toList]; omega
    rw [q, ← Array.getElem?_toList, List.getD_eq_getElem?_getD, List.getElem?_eq_getElem hl]
    rfl
  have e2 : ∀ l : List Nat, (∀ m ∈ l, xs[(((xs.size : Int) - 1) + (m : Int) * (-1)).toNat]? = some (xs.toList.getD (xs.size - 1 - m) Value.none)) →
      (l.filterMap fun (m : Nat) => xs[(((xs.size : Int) - 1) + (m : Int) * (-1)).toNat]?) = l.map fun m => xs.toList.getD (xs.size - 1 - m) Value.none := by
    intro l
    induction l with
    | nil => intro _; rfl
    | cons a l ih =>
      intro h
      rw [List.filterMap_cons, h a (List.mem_cons_self ..), List.map_cons, ih fun m hm => h m (List.mem_cons_of_mem _ hm)]
  rw [e2 _ e]
  apply List.ext_getElem
  · rw [List.length_map, List.length_range, List.length_reverse, Array.length_toList]
  · intro i h1 h2
    rw [List.getElem_map, List.getElem_range, List.getElem_reverse, List.getD_eq_getElem?_getD]
    have hl : xs.size - 1 - i < xs.toList.length := by
      rw [List.length_map, List.length_range] at h1
      rw [Array.length_toList]
      omega
    rw [List.getElem?_eq_getElem hl]
    rfl
section
variable {prog : Program} {w : World} {A : Around} {E : Value → Shared → Prop} {s : Shared}
theorem applied_back {sl : Addr} {vs : Value} {n : Nat} {Q : Int × Int × Nat → Shared → Prop} (is : s.heap.IsSliceOf sl .none .none vs) (ps : IsPart vs (some (-1)))
    (q : Q ((n : Int) - 1, -1, n) s) : wpAny (model prog w) A (Builtin.Slice.sliceApplied (.ref sl) (pure (n : Int))) Q E s := by
  obtain ⟨o3, ho3, hc3, hd3⟩ := id is
  unfold Builtin.Slice.sliceApplied Builtin.Slice.sliceFields
  refine wpAny_bind (wpAny_bind (wpAny_field ho3 hd3 (x := .none) rfl (wpAny_bind (wpAny_field ho3 hd3 (x := .none) rfl (wpAny_bind (wpAny_field ho3 hd3 (x := vs) rfl (wpAny_pure ?_)))))))
  refine wpAny_bind (slicePart_ ps ?_)
  show wpAny _ _ (if ((-1 : Int) == 0) = true then _ else _) _ _ s
  rw [if_neg (by decide)]
  refine wpAny_bind (slicePart_none (wpAny_bind (slicePart_none (wpAny_bind (wpAny_pure ?_)))))
  show wpAny _ _ (match Builtin.Slice.sliceAdjust none none (-1) (n : Int) with | (lo, hi) => pure (lo, (-1 : Int), Builtin.Slice.slicePlaces lo hi (-1))) _ _ s
  rw [back_adjust n]
  show wpAny _ _ (pure ((n : Int) - 1, (-1 : Int), Builtin.Slice.slicePlaces ((n : Int) - 1) (-1) (-1))) _ _ s
  rw [back_places]
  exact wpAny_pure q
theorem item_back {t sl : Addr} {items : Array Value} {vs : Value} {Q : Value → Shared → Prop} (tu : IsTup s.heap t items) (is : s.heap.IsSliceOf sl .none .none vs) (ps : IsPart vs (some (-1)))
    (q : Q (.ref s.heap.objs.size) { s with heap := s.heap.push { cls := .type "tuple", data := .seq items.toList.reverse.toArray } }) (fit : items.size ≤ sizeLine) :
    wpAny (model prog w) A (getItem (.ref t) (.ref sl)) Q E s := by
  have ok : sizeOk (.seq items.toList.reverse.toArray) := by
    show items.toList.reverse.toArray.size ≤ sizeLine
    rw [List.size_toArray, List.length_reverse, Array.length_toList]
    exact fit
  obtain ⟨o3, ho3, hc3, hd3⟩ := id is
  have ty3 : s.TypeIs (.ref sl) "slice" := ⟨o3, ho3, hc3⟩
  unfold getItem
  try with_reducible refine wpAny_holding ?_
  first | refine wpAny_bind (wpAny_pure ?_) | skip
  refine wpAny_bind (wpAny_sequenceKey tu.typeIs (by decide) (wpAny_bind (wpAny_callSpecial?_slot (name := Str.ofString "__getitem__") tu.typeIs PyProof.Rows.slot_tuple_getitem
    (wpAny_call_entry PyProof.Rows.slot_tuple_getitem tu.typeIs entry_tuple_getitem ?_ (args_tuple_getitem _ _)))))
  show wpAny _ _ (Builtin.Tuple.tupleItemsOf (.ref t) >>= _) _ _ s
  refine wpAny_bind (tupleItemsOf_ tu (wpAny_bind (wpAny_typeOf ty3 ?_)))
  rw [if_pos (by decide)]
  refine wpAny_bind (applied_back is ps ?_)
  have no : ¬ ((((items.size : Int) - 1) == 0 && (-1 : Int) == 1 && items.size == items.size) = true) := by
    rw [show ((-1 : Int) == 1) = false from rfl, Bool.and_false, Bool.false_and]
    exact Bool.false_ne_true
  show wpAny _ _ (if (((items.size : Int) - 1) == 0 && (-1 : Int) == 1 && items.size == items.size) = true then _ else _) _ _ s
  rw [if_neg no, back_pick]
  first
    | exact wpAny_bind (m := Builtin.Tuple.tupleExact _) (wpAny_newObj_type (wpAny_pure ⟨_, rfl, wpAny_pure q⟩) ok)
    | exact wpAny_bind (m := Builtin.Tuple.tupleExact _) (wpAny_newObj_type (wpAny_bind (wpAny_pure (wpAny_pure ⟨_, rfl, wpAny_pure q⟩))) ok)
    | exact wpAny_bind (wpAny_bind (m := Builtin.Tuple.tupleExact _) (wpAny_newObj_type (wpAny_pure (wpAny_pure ⟨_, rfl, wpAny_pure q⟩)) ok))
    | exact wpAny_bind (wpAny_bind (m := Builtin.Tuple.tupleExact _) (wpAny_newObj_type (wpAny_pure ⟨_, rfl, wpAny_pure q⟩) ok))
end
section
variable {X : Cx}
def tRevT (K : PySem.W.Frag) (te : TE) : TE := fun σ H Q => te σ H fun x H1 => ∃ a xs, x = .ref a ∧ SqT K H1 a xs ∧ ∀ p, H1 p = none → Q (.ref p) (upd H1 p (.tup xs.reverse))
theorem pe_revT {e : Expr} {te : TE} {k : Nat} {p1 p2 p3 pos : Pos} (he : PE X e te) : PE X (.Subscript e (.Slice none none (some (.UnaryOp .USub (.Constant (.int 1) k p1) p2)) p3) pos) (tRevT X.K te) := by
  refine ⟨fun pins s σ H Q I h => Subscript_ (thn (he.run pins s σ H _ I h) fun v s1 ⟨x, H1, I1, r1, q1⟩ => ?_)⟩
  obtain ⟨a, xs, rfl, hx, q⟩ := q1
  cases r1
  have hst : PO X (some (.UnaryOp .USub (.Constant (.int 1) k p1) p2)) (tPart (tUn (rU fun i => .int (-i)) (tC (.int 1)))) := po_some (pe_un un_neg pe_int)
  refine wpAny_Slice (thn (po_none.run pins s1 σ H1 (fun o H2 => o = none ∧ H2 = H1) I1 ⟨rfl, rfl⟩) ?_)
  rintro vl s2 ⟨_, H2, I2, pl, rfl, rfl⟩
  refine thn (po_none.run pins s2 σ H2 (fun o H3 => o = none ∧ H3 = H2) I2 ⟨rfl, rfl⟩) ?_
  rintro vu s3 ⟨_, H3, I3, pu, rfl, rfl⟩
  refine thn (hst.run pins s3 σ H3 (fun o H4 => o = some (-1) ∧ H4 = H3) I3 ⟨1, rfl, -1, rfl, rfl, rfl⟩) ?_
  rintro vs s4 ⟨_, H4, I4, ps, rfl, rfl⟩
  have I5 : Inv X pins σ H4 { s4 with heap := s4.heap.push { cls := .type "slice", data := .fields #[vl, vu, vs] } } := I4.kept (t' := s4.toks) fun b ob z => Heap.get?_push_of_some _ z
  obtain ⟨its, r, ht, hz⟩ := I5.tuple hx
  have hlen := r.length
  cases pl
  cases pu
  show wpAny (model X.prog X.w) X.A (subscriptTail e (.Slice none none (some (.UnaryOp .USub (.Constant (.int 1) k p1) p2)) p3) (.ref a) (.ref s4.heap.objs.size)) (EP X pins σ Q) X.xe { s4 with heap := s4.heap.push { cls := .type "slice", data := .fields #[.none, .none, vs] } }
  refine tail_any (ops := [.ref a, .ref s4.heap.objs.size]) ht.typeIs (PyProof.Rows.slot_tuple_getitem.lookup) (item_back ht (Heap.IsSliceOf.new _ .none .none vs) ps ?_ (by rw [List.size_toArray]; omega)) (by with_unfolding_all rfl)
  refine ⟨.ref _, _, I5.laid (t' := s4.toks) (o := .tup xs.reverse) (fun b ob z => Heap.get?_push_of_some _ z) (Nat.le_refl _) ?_, rfl, q _ (I5.hok.fresh (Nat.le_refl _))⟩
  exact ⟨by rw [List.length_reverse]; exact hz, its.reverse, r.reverse, ⟨_, Heap.get?_push_size _ rfl, rfl, _, rfl⟩⟩

/-! ### lists that are written and put together -/
structure LD (K : PySem.W.Frag) (H : Hp) (p : Addr) (n : Nat) (P : PyData → Prop) : Prop where
  ex : ∃ vs ds, H p = some (.lst vs) ∧ DpAll K H vs ds ∧ ds.length ≤ n ∧ ∀ d ∈ ds, P d
def tDL (K : PySem.W.Frag) (ds : List PyData) : TE := fun _ H Q => ∀ p vs H', Same H H' → H' p = some (.lst vs) → DpAll K H' vs ds → Q (.ref p) H'
theorem pe_litL {es : List Expr} {pos : Pos} {ds : List PyData} (h : litDs es = some ds) (hl : decide (ds.length ≤ 1000) = true) : PE X (.List es pos) (tDL X.K ds) := by
  refine pe_weak (pe_lst (pa_lit es ds h)) fun σ H Q q => ?_
  intro vs H' s a
  exact ⟨by rw [a.length]; exact thousand (of_decide_eq_true hl), fun p np => q p vs _ (s.trans (Same.upd np)) upd_same ((Held.upd np).dpAll _ _ a)⟩
theorem catL {K : PySem.W.Frag} {i n m : Nat} {H : Hp} {Q : VK} {σ : L2.St} {p : Addr} {ds : List PyData} {P : PyData → Prop} (L : LD K H p n P) (hi : σ[i]? = some (some (.ref p))) (hm : n + ds.length ≤ m) (h1 : m ≤ 1000) (hP : ∀ d ∈ ds, P d)
    (q : ∀ r H', Same H H' → LD K H' r m P → Q (.ref r) H') : tOp rCat (tVar i) (tDL K ds) σ H Q := by
  refine ⟨_, hi, ?_⟩
  intro r vs H' s hr a
  obtain ⟨us, es, hp, b, hn, hP0⟩ := L.ex
  have hl1 := (b.length)
  have hl2 := (a.length)
  refine ⟨p, r, us, vs, rfl, rfl, s _ _ hp, hr, thousand (by omega), fun t nt => ?_⟩
  refine q t _ (s.trans (Same.upd nt)) ⟨us ++ vs, es ++ ds, upd_same, (Held.upd nt).dpAll _ _ (((Held.of s).dpAll _ _ b).append a), by rw [List.length_append]; omega, fun d hd => ?_⟩
  rcases List.mem_append.mp hd with h | h
  · exact hP0 d h
  · exact hP d h
end
end G

set_option maxRecDepth 100000
namespace G
open PySem L2 PySem.Spec PyProof.Rows
/-! ### readings over data -/
section
variable {K : PySem.W.Frag} {H : Hp} {Q : VK} {v u : V} {xs ys : List PyData} {a b : PyData}
theorem _root_.L2.Dp.asT (h : Dp K H v (.tuple xs)) : ∃ p vs, v = .ref p ∧ SqT K H p vs ∧ DpAll K H vs xs := by
  cases h with
  | tup q al => exact ⟨_, _, rfl, q, al⟩
theorem _root_.L2.Dp.asL (h : Dp K H v (.list xs)) : ∃ p vs, v = .ref p ∧ SqL K H p vs ∧ DpAll K H vs xs := by
  cases h with
  | lst q al => exact ⟨_, _, rfl, q, al⟩
theorem rd_cat (ha : Dp K H v (.tuple xs)) (hb : Dp K H u (.tuple ys)) (nx : xs ≠ []) (ny : ys ≠ []) (hl : xs.length + ys.length ≤ 1000)
    (q : ∀ p H', Same H H' → Dp K H' (.ref p) (.tuple (xs ++ ys)) → Q (.ref p) H') : rCatA K v u H Q := by
  obtain ⟨p, vs, rfl, h1, a1⟩ := ha.asT
  obtain ⟨r, ws, rfl, h2, a2⟩ := hb.asT
  have l1 := a1.length
  have l2 := a2.length
  have n1 : vs ≠ [] := fun z => nx (List.length_eq_zero_iff.mp (by rw [← l1, z]; rfl))
  have n2 : ws ≠ [] := fun z => ny (List.length_eq_zero_iff.mp (by rw [← l2, z]; rfl))
  exact ⟨p, r, vs, ws, rfl, rfl, h1, h2, thousand (by omega), fun z => absurd z n1, fun _ z => absurd z n2, fun _ _ t nt => q t _ (Same.upd nt) (Dp.newT (a1.append a2) nt)⟩
theorem rd_tup {vs : List V} (ha : DpAll K H vs xs) (hl : xs.length ≤ 1000) (q : ∀ p H', Same H H' → Dp K H' (.ref p) (.tuple xs) → Q (.ref p) H') :
    vs.length ≤ sizeLine ∧ ∀ p, H p = none → Q (.ref p) (upd H p (.tup vs)) :=
  ⟨by rw [ha.length]; exact thousand hl, fun p np => q p _ (Same.upd np) (Dp.newT ha np)⟩
theorem rd_lst {vs : List V} (ha : DpAll K H vs xs) (hl : xs.length ≤ 1000) (q : ∀ p H', Same H H' → H' p = some (.lst vs) → DpAll K H' vs xs → Q (.ref p) H') :
    vs.length ≤ sizeLine ∧ ∀ p, H p = none → Q (.ref p) (upd H p (.lst vs)) :=
  ⟨by rw [ha.length]; exact thousand hl, fun p np => q p _ (Same.upd np) upd_same ((Held.upd np).dpAll _ _ ha)⟩
/-- t[:1] and t[1:] of a pair -/
theorem rd_head (ha : Dp K H v (.tuple [a, b])) (q : ∀ p H', Same H H' → Dp K H' (.ref p) (.tuple [a]) → Q (.ref p) H') : rSlT K v none (some 1) H Q := by
  obtain ⟨p, vs, rfl, h1, a1⟩ := ha.asT
  cases a1 with
  | cons x1 t =>
    cases t with
    | cons x2 t =>
      cases t
      refine ⟨p, _, rfl, h1, fun z => ?_, fun t nt => q t _ (Same.upd nt) (Dp.newT (.cons x1 .nil) nt)⟩
      have z2 := z.2
      revert z2
      show ¬ ((1 : Nat) = 2)
      decide
theorem rd_tail (ha : Dp K H v (.tuple [a, b])) (q : ∀ p H', Same H H' → Dp K H' (.ref p) (.tuple [b]) → Q (.ref p) H') : rSlT K v (some 1) none H Q := by
  obtain ⟨p, vs, rfl, h1, a1⟩ := ha.asT
  cases a1 with
  | cons x1 t =>
    cases t with
    | cons x2 t =>
      cases t
      refine ⟨p, _, rfl, h1, fun z => ?_, fun t nt => q t _ (Same.upd nt) (Dp.newT (.cons x2 .nil) nt)⟩
      have z1 := z.1
      revert z1
      show ¬ ((1 : Nat) = 0)
      decide
theorem rd_rev (ha : Dp K H v (.tuple xs)) (q : ∀ p H', Same H H' → Dp K H' (.ref p) (.tuple xs.reverse) → Q (.ref p) H') :
    ∃ a vs, v = .ref a ∧ SqT K H a vs ∧ ∀ p, H p = none → Q (.ref p) (upd H p (.tup vs.reverse)) := by
  obtain ⟨p, vs, rfl, h1, a1⟩ := ha.asT
  exact ⟨p, vs, rfl, h1, fun t nt => q t _ (Same.upd nt) (Dp.newT a1.reverse nt)⟩
theorem rd_listT (ha : Dp K H v (.tuple xs)) (q : ∀ p H', Same H H' → Dp K H' (.ref p) (.list xs) → Q (.ref p) H') :
    ∃ p ys, [v] = [.ref p] ∧ (SqL K H p ys ∨ SqT K H p ys) ∧ ∀ l, H l = none → Q (.ref l) (upd H l (.lst ys)) := by
  obtain ⟨p, vs, rfl, h1, a1⟩ := ha.asT
  exact ⟨p, vs, rfl, .inr h1, fun t nt => q t _ (Same.upd nt) (Dp.newL a1 nt)⟩
theorem rd_catL {p r : Addr} {vs ws : List V} (hp : H p = some (.lst vs)) (hr : H r = some (.lst ws)) (a1 : DpAll K H vs xs) (a2 : DpAll K H ws ys) (hl : xs.length + ys.length ≤ 1000)
    (q : ∀ p H', Same H H' → Dp K H' (.ref p) (.list (xs ++ ys)) → Q (.ref p) H') : rCat (.ref p) (.ref r) H Q :=
  ⟨p, r, vs, ws, rfl, rfl, hp, hr, thousand (by rw [a1.length, a2.length]; exact hl), fun t nt => q t _ (Same.upd nt) (Dp.newL (a1.append a2) nt)⟩
/-! the same as readings of expressions -/
theorem un_cons {te : TE} {t : TA} {σ : L2.St} {H : Hp} {Q : List V → Hp → Prop} (h : te σ H fun x H1 => t σ H1 fun xs H2 => Q (x :: xs) H2) : tCons te t σ H Q := h
theorem un_op {r : R2} {ta tb : TE} {σ : L2.St} {H : Hp} {Q : VK} (h : ta σ H fun x H1 => tb σ H1 fun y H2 => r x y H2 Q) : tOp r ta tb σ H Q := h
theorem un_lst {t : TA} {σ : L2.St} {H : Hp} {Q : VK} (h : t σ H fun xs H1 => xs.length ≤ sizeLine ∧ ∀ p, H1 p = none → Q (.ref p) (upd H1 p (.lst xs))) : tLst t σ H Q := h
theorem un_tup {t : TA} {σ : L2.St} {H : Hp} {Q : VK} (h : t σ H fun xs H1 => xs.length ≤ sizeLine ∧ ∀ p, H1 p = none → Q (.ref p) (upd H1 p (.tup xs))) : tTup t σ H Q := h
variable {σ : L2.St} {i : Nat}
theorem rt_one (hi : σ[i]? = some (some v)) (ha : Dp K H v a) (q : ∀ p H', Same H H' → Dp K H' (.ref p) (.tuple [a]) → Q (.ref p) H') : tTup (tCons (tVar i) tNil) σ H Q :=
  ⟨v, hi, thousand (by show 1 ≤ 1000; decide), fun p np => q p _ (Same.upd np) (Dp.newT (.cons ha .nil) np)⟩
theorem rt_list (hi : σ[i]? = some (some v)) (ha : Dp K H v (.tuple xs)) (q : ∀ p H', Same H H' → Dp K H' (.ref p) (.list xs) → Q (.ref p) H') :
    tCB (fun xs H Q => ∃ p ys, xs = [.ref p] ∧ (SqL K H p ys ∨ SqT K H p ys) ∧ ∀ l, H l = none → Q (.ref l) (upd H l (.lst ys))) (tCons (tVar i) tNil) σ H Q := by
  obtain ⟨p, vs, rfl, h1, a1⟩ := ha.asT
  exact ⟨_, hi, p, vs, rfl, .inr h1, fun t nt => q t _ (Same.upd nt) (Dp.newL a1 nt)⟩
theorem rt_rev (hi : σ[i]? = some (some v)) (ha : Dp K H v (.tuple xs)) (q : ∀ p H', Same H H' → Dp K H' (.ref p) (.tuple xs.reverse) → Q (.ref p) H') : tRevT K (tVar i) σ H Q := by
  obtain ⟨p, vs, rfl, h1, a1⟩ := ha.asT
  exact ⟨_, hi, p, vs, rfl, h1, fun t nt => q t _ (Same.upd nt) (Dp.newT a1.reverse nt)⟩
theorem rt_head (hi : σ[i]? = some (some v)) (ha : Dp K H v (.tuple [a, b])) (q : ∀ p H', Same H H' → Dp K H' (.ref p) (.tuple [a]) → Q (.ref p) H') : tSl (rSlT K) (tVar i) tNoPart (tPart (tC (.int 1))) σ H Q :=
  ⟨_, hi, 1, rfl, rd_head ha q⟩
theorem rt_tail (hi : σ[i]? = some (some v)) (ha : Dp K H v (.tuple [a, b])) (q : ∀ p H', Same H H' → Dp K H' (.ref p) (.tuple [b]) → Q (.ref p) H') : tSl (rSlT K) (tVar i) (tPart (tC (.int 1))) tNoPart σ H Q :=
  ⟨_, hi, 1, rfl, rd_tail ha q⟩
end
end G

set_option maxRecDepth 100000
namespace G
open PySem L2 PySem.Spec PyProof.Rows

/-- the law's run, from its promise where no guard stands -/
theorem run_law {P : Program} {w : World} {K : PySem.W.Frag} {mg mb : Str → Option Value} {k : Nat} {fa a : Addr} {fd : FuncData} {x : Str} {sp : Sp} {s1 : Shared} {vs : List Value} {ns : List Int}
    (kin : K.In s1.heap) (nsg : s1.heap.Ns mainGlobals mg) (nsb : s1.heap.Ns builtinsNs mb) (bb : ∀ x : Str, x ≠ "__name__" → mb x = bootBuiltins x) (lim : s1.heap.NoLimit) (gs : s1.gens = #[])
    (at_ : s1.heap.get? a = some { cls := .type "list", data := .seq vs.toArray }) (are : IntsAre vs ns) (fit : ns.length ≤ sizeLine) (room : Room k callerA)
    (F : ∀ base : Heap, K.In base → base.Ns mainGlobals mg → FnG P w K mg base CX0 k fa fd [x] sp) (bind : ∀ (s : Shared) (u : Value), BindsTo s fd ⟨[u], []⟩ [(x, u)])
    (say : ∀ H : Hp, SqL K H a (ns.map V.int) → sp [.ref a] H (fun v _ => v = .bl true) fun _ _ _ => False) :
    codeAny (model P w) callerA (.call (.ref fa) ⟨[.ref a], []⟩) (fun r s' => r = .ok (.ret (.bool true)) ∧ OldK s1.heap s'.heap ∧ s'.os = s1.os ∧ AllBare s'.gens) s1 := by
  have rel := vals_ints are
  have siz := are.length
  have main : ∀ H : Hp, Only H → SqL K H a (ns.map V.int) → HOk P w H s1.heap → (∀ b, H b ≠ none → b = a) → (H a ≠ none → K.lookup a = none) →
      codeAny (model P w) callerA (.call (.ref fa) ⟨[.ref a], []⟩) (fun r s' => r = .ok (.ret (.bool true)) ∧ OldK s1.heap s'.heap ∧ s'.os = s1.os ∧ AllBare s'.gens) s1 := by
    intro H only sq ok lone unk
    have dicts : ∀ {b : Addr} {m : Str → Option Value}, s1.heap.Ns b m → (hidT s1.heap H).Ns b m := by
      rintro b m ⟨o, es, ep, e, d, r⟩
      refine ⟨o, es, ep, hidT_get e ?_, d, r⟩
      cases q : H b with
      | none => rfl
      | some u =>
        obtain rfl : b = a := lone b (by rw [q]; simp)
        rw [at_] at e
        cases e
        cases d
    have kin2 : K.In (hidT s1.heap H) := by
      intro b o e
      refine hidT_get (kin b o e) ?_
      cases q : H b with
      | none => rfl
      | some u =>
        obtain rfl : b = a := lone b (by rw [q]; simp)
        rw [unk (by rw [q]; simp)] at e
        cases e
    have mod : Mod K mg (hidT s1.heap H) := ⟨kin2, dicts nsg, ⟨mb, dicts nsb, bb⟩, let ⟨mc, h1, h2⟩ := lim; ⟨mc, dicts h1, h2⟩⟩
    have env : Env0 P w K mg (hidT s1.heap H) callerA [] s1 H := ⟨rfl, mod, fun b o e => of_hidT e, Nat.le_of_eq (hidT_size _ _), trivial, fun b hb => absurd (show b ∈ ([] : List Addr) from hb) (by simp), ok, .of_eq gs⟩
    refine codeAny_mono ((F _ kin2 (dicts nsg)).go callerA [] s1 H ⟨[.ref a], []⟩ [.ref a] [.ref a] _ _ rfl room env (bind s1 (.ref a)) (.cons rfl .nil) (say H sq)) fun r s' h => ?_
    match r, h with
    | .error e, h => exact h.elim
    | .ok (.ret u), ⟨v, H', os, bare, un, ok', rv, (q : v = .bl true)⟩ =>
      subst q
      obtain rfl : u = Value.bool true := rv
      refine ⟨rfl, OldK.of_keep fun b o e => ?_, os, bare⟩
      cases q : H b with
      | none => exact un.keep b o e q (by intro z; exact absurd (show b ∈ ([] : List Addr) from z) (by simp)) (by simp)
      | some u =>
        rcases only b with z | ⟨ob, xs, z⟩
        · rw [q] at z
          cases z
        · obtain ⟨e1, _⟩ := ok b _ z
          obtain ⟨e2, _⟩ := ok' b _ (un.frzs b ob _ z)
          rw [e] at e1
          cases e1
          exact e2
  cases hk : K.lookup a with
  | some o =>
    have e := kin a o hk
    rw [at_] at e
    cases e
    exact main (fun _ => none) (fun _ => .inl rfl) (.inr ⟨_, vs.toArray, _, hk, rfl, rfl, rfl, by rw [List.size_toArray, siz]; exact fit, by simpa using rel⟩) (fun b u (z : (none : Option HO) = some u) => by cases z) (fun b z => absurd rfl z) fun z => absurd rfl z
  | none =>
    refine main (fun b => if b = a then some (.frz { cls := .type "list", data := .seq vs.toArray } (.lst (ns.map V.int))) else none) (fun b => ?_) (.inl (.inr ⟨{ cls := .type "list", data := .seq vs.toArray }, if_pos rfl⟩)) (fun b u z => ?_) (fun b z => ?_) fun _ => hk
    all_goals by_cases hb : b = a
    · exact .inr ⟨_, _, if_pos hb⟩
    · exact .inl (if_neg hb)
    · cases (if_pos hb).symm.trans z
      subst hb
      exact ⟨at_, by rw [List.length_map]; exact fit, vs, _, rel, at_⟩
    · cases (if_neg hb).symm.trans z
    · exact hb
    · exact absurd (if_neg hb) z
theorem walkG {l : PySem.W.OpenLaw} {n k : Nat} {q : Program} {loose : List Str} {XP : (Str → Option Value) → Heap → Prop} {YP : World → Heap → Prop} {d : DefRec} {K : Params → PySem.W.Frag} {sp : PySem.W.Frag → Sp} {x : Str}
    (hn : l.most = some n) (hn2 : n ≤ sizeLine) (hdf : d.params.defaults = []) (room : Room k callerA) (hY : ∀ (w : World) (h : Heap), YP w h → (K w.params).In h)
    (F : ∀ (w : World) (mg : Str → Option Value) (fa : Addr) (h : Heap), (K w.params).In h → h.Ns mainGlobals mg → mg d.name = some (.ref fa) →
      ∃ fd : FuncData, (∀ (s : Shared) (u : Value), BindsTo s fd ⟨[u], []⟩ [(x, u)]) ∧ ∀ base : Heap, (K w.params).In base → base.Ns mainGlobals mg → FnG l.prog w (K w.params) mg base CX0 k fa fd [x] (sp (K w.params)))
    (say : ∀ (K : PySem.W.Frag) (H : Hp) (a : Addr) (ns : List Int), ns.length ≤ n → SqL K H a (ns.map V.int) → sp K [.ref a] H (fun v _ => v = .bl true) fun _ _ _ => False) :
    PySem.W.WalkO q loose XP YP l.row.toRowW d [] (fun f vs => PySem.call f vs) := by
  refine Att.attach_call hn hdf fun w s₀ s₁ mg mb fa o pm cd doc a vs ns G Y ho hd hcd hmg hobj hints hlen hg => ?_
  have kin := hY w _ Y
  obtain ⟨fd, hb, hF⟩ := F w mg fa _ kin G.T.g hmg
  exact run_law kin G.T.g G.T.b G.T.builtins G.T.nolimit hg hobj hints (Nat.le_trans hlen hn2) room hF hb fun H hS => say _ H a ns hlen hS
end G

set_option maxRecDepth 100000
namespace G
open PySem L2 PySem.Spec PyProof.Rows

/-! ### for k, x in enumerate(tuple) -/
section
variable {prog : Program} {w : World} {A : Around} {E : Value → Shared → Prop} {s : Shared}
theorem next_tup {ji tp : Addr} {n : Nat} {zs : Array Value} {z : Value} {Q : Value → Shared → Prop} (si : s.heap.IsTupleIter ji tp n) (st : s.heap.IsTuple tp zs) (hz : zs[n]? = some z)
    (q : ∀ g, g.IsTupleIter ji tp (n + 1) → Heap.SameBut ji s.heap g → Q z { s with heap := g }) : wpAny (model prog w) A (Builtin.SmallTypes.nextOf (.ref ji)) Q E s := by
  obtain ⟨oi, hoi, hci, hdi⟩ := id si
  obtain ⟨ot, hot, _, nt, hdt⟩ := st
  unfold Builtin.SmallTypes.nextOf
  refine wpAny_bind (wpAny_callSpecial?_slot (name := Str.ofString "__next__") si.typeIs F.slot_tuple_iterator_next (wpAny_call_entry F.slot_tuple_iterator_next si.typeIs F.entry_tuple_iterator_next ?_ (F.args_tuple_iterator_next_1 _)))
  show wpAny _ _ (field (.ref ji) 0 >>= _) _ _ s
  refine wpAny_bind (wpAny_field hoi hdi (x := .ref tp) rfl ?_)
  show wpAny _ _ (if (Value.ref tp == Value.none) = true then _ else _) _ _ s
  rw [if_neg (show ¬ ((Value.ref tp == Value.none) = true) from Bool.false_ne_true)]
  show wpAny _ _ (field (.ref ji) 1 >>= _) _ _ s
  refine wpAny_bind (wpAny_field hoi hdi (x := .int n 0) rfl ?_)
  show wpAny _ _ (seqItems? (.ref tp) >>= _) _ _ s
  refine wpAny_bind (wpAny_seqItems hot hdt ?_)
  simp only [Int.toNat_natCast, hz]
  refine wpAny_bind (wpAny_setField hoi hdi (by simp) (wpAny_pure ⟨z, rfl, wpAny_pure (q _ ⟨_, Heap.get?_update_self _ hoi (Obj.isFreed_of_fields (Obj.data_mapFields hdi _)), (Obj.cls_mapFields ..).trans hci, ?_⟩ (Heap.SameBut.update ..))⟩))
  rw [Obj.data_mapFields hdi]
  simp [rawInt]
theorem next_tup_end {ji tp : Addr} {n : Nat} {zs : Array Value} {Q : Value → Shared → Prop} (hh : A.handled = none) (si : s.heap.IsTupleIter ji tp n) (st : s.heap.IsTuple tp zs) (hz : zs[n]? = none)
    (q : ∀ g e, Heap.ExtBut ji s.heap g → (∃ o, g.get? e = some o ∧ o.cls = .type "StopIteration") → E (.ref e) { s with heap := g }) : wpAny (model prog w) A (Builtin.SmallTypes.nextOf (.ref ji)) Q E s := by
  obtain ⟨oi, hoi, hci, hdi⟩ := id si
  obtain ⟨ot, hot, _, nt, hdt⟩ := st
  unfold Builtin.SmallTypes.nextOf
  refine wpAny_bind (wpAny_callSpecial?_slot (name := Str.ofString "__next__") si.typeIs F.slot_tuple_iterator_next (wpAny_call_entry F.slot_tuple_iterator_next si.typeIs F.entry_tuple_iterator_next ?_ (F.args_tuple_iterator_next_1 _)))
  show wpAny _ _ (field (.ref ji) 0 >>= _) _ _ s
  refine wpAny_bind (wpAny_field hoi hdi (x := .ref tp) rfl ?_)
  show wpAny _ _ (if (Value.ref tp == Value.none) = true then _ else _) _ _ s
  rw [if_neg (show ¬ ((Value.ref tp == Value.none) = true) from Bool.false_ne_true)]
  show wpAny _ _ (field (.ref ji) 1 >>= _) _ _ s
  refine wpAny_bind (wpAny_field hoi hdi (x := .int n 0) rfl ?_)
  show wpAny _ _ (seqItems? (.ref tp) >>= _) _ _ s
  refine wpAny_bind (wpAny_seqItems hot hdt ?_)
  simp only [Int.toNat_natCast, hz]
  refine wpAny_bind (wpAny_rule (wpAny_bind (wpAny_setField hoi hdi (by simp) ?_)))
  show wpAny _ _ (newExc (.type "StopIteration") [] >>= _) _ _ _
  refine wpAny_bind ?_
  simp only [newExc, newTuple]
  refine wpAny_bind (wpAny_newObj_type (wpAny_bind (m := firstArgMember _ _) (wpAny_of_eq (a := Value.none) (by first | rfl | (simp only [firstArgMember]; rfl)) (wpAny_newObj_type ?_ (by size_fits)))) (by size_fits))
  simp only [raiseNew]
  refine wpAny_bind (wpAny_handled ?_)
  first | rw [show A.in1.handled = none from hh] | rw [hh]
  exact wpAny_bind (wpAny_pure (wpAny_throw (q _ _ (((Heap.SameBut.update ..).extBut.push _).push _) ⟨_, Heap.get?_push_size _ rfl, rfl⟩)))
/-- one step of an enumerate object whose own iterator gives z -/
theorem enum_step {e ji : Addr} {n : Nat} {z old : Value} {Q : Value → Shared → Prop} {I : Heap → Prop} (en : IsEnum s.heap e ji n old) (ne : e ≠ ji)
    (inner : ∀ Q' : Value → Shared → Prop, (∀ g, I g → Heap.SameBut ji s.heap g → Q' z { s with heap := g }) → wpAny (model prog w) A.in1 (Builtin.SmallTypes.nextOf (.ref ji)) Q' E s)
    (keep : ∀ g g' : Heap, I g → (∀ o, g.get? ji = some o → g'.get? ji = some o) → I g')
    (q : ∀ g, IsEnumOut g e ji ((n : Int) + 1) z s.heap.objs.size → I g → g.get? s.heap.objs.size = some { cls := .type "tuple", data := .seq #[.int n s.toks, z] } → g.objs.size = s.heap.objs.size + 1 →
      (∀ b o, b ≠ e → b ≠ ji → s.heap.get? b = some o → g.get? b = some o) → Q (.ref s.heap.objs.size) { s with heap := g, toks := s.toks + 1 }) :
    wpAny (model prog w) A.in1 (Builtin.«enumerate.__next__» ⟨[.ref e], []⟩) (fun fin s' => ∃ v, fin = .done (.ret v) ∧ Q v s') E s := by
  obtain ⟨hp, gs, dd, tk, os⟩ := s
  show wpAny _ _ (field (.ref e) 2 >>= _) _ _ _
  refine wpAny_bind (wpAny_field en rfl (x := .ref ji) rfl (wpAny_bind (inner _ fun g1 i1 b1 => ?_)))
  replace b1 : Heap.SameBut ji hp g1 := b1
  have en1 : IsEnum g1 e ji n old := (b1.2 e ne).trans en
  show wpAny _ _ (field (.ref e) 3 >>= _) _ _ ⟨g1, gs, dd, tk, os⟩
  refine wpAny_bind (wpAny_field en1 rfl (x := rawInt n) rfl ?_)
  show wpAny _ _ (field (.ref e) 4 >>= _) _ _ ⟨g1, gs, dd, tk, os⟩
  refine wpAny_bind (wpAny_field en1 rfl (x := .none) rfl ?_)
  show wpAny _ _ (mkInt n >>= _) _ _ ⟨g1, gs, dd, tk, os⟩
  refine wpAny_bind (wpAny_mkInt ?_)
  show wpAny _ _ (setField (.ref e) 3 (rawInt ((n : Int) + 1)) >>= _) _ _ ⟨g1, gs, dd, tk + 1, os⟩
  refine wpAny_bind (wpAny_setField_rec en1 (by simp) fun g2 en2 b2 => ?_)
  replace b2 : Heap.SameBut e g1 g2 := b2
  replace en2 : IsEnum g2 e ji ((n : Int) + 1) old := en2
  show wpAny _ _ (setField (.ref e) 4 .none >>= _) _ _ ⟨g2, gs, dd, tk + 1, os⟩
  refine wpAny_bind (wpAny_setField_rec en2 (by simp) fun g3 en3 b3 => ?_)
  replace b3 : Heap.SameBut e g2 g3 := b3
  replace en3 : IsEnum g3 e ji ((n : Int) + 1) old := en3
  show wpAny _ _ (newTuple [.int n tk, z] >>= _) _ _ ⟨g3, gs, dd, tk + 1, os⟩
  refine wpAny_bind (wpAny_newTuple ?_)
  have en4 : IsEnum (g3.push { cls := .type "tuple", data := .seq #[.int n tk, z] }) e ji ((n : Int) + 1) old := Heap.get?_push_of_some _ en3
  have i4 : I (g3.push { cls := .type "tuple", data := .seq #[.int n tk, z] }) := keep g1 _ i1 fun o h => Heap.get?_push_of_some _ (b3.extBut _ o ne.symm (b2.extBut _ o ne.symm h))
  have z3 : g3.objs.size = hp.objs.size := by rw [b3.1, b2.1, b1.1]
  have le : e < hp.objs.size := Heap.lt_size en
  have t4 : (g3.push { cls := .type "tuple", data := .seq #[.int n tk, z] }).get? hp.objs.size = some { cls := .type "tuple", data := .seq #[.int n tk, z] } := by rw [← z3]; exact Heap.get?_push_size _ rfl
  have z4 : (g3.push { cls := .type "tuple", data := .seq #[.int n tk, z] }).objs.size = hp.objs.size + 1 := by rw [Heap.size_push, z3]
  have k4 : ∀ b o, b ≠ e → b ≠ ji → hp.get? b = some o → (g3.push { cls := .type "tuple", data := .seq #[.int n tk, z] }).get? b = some o := fun b o be bj hb =>
    Heap.get?_push_of_some _ (b3.extBut b o be (b2.extBut b o be (b1.extBut b o bj hb)))
  generalize g3.push { cls := .type "tuple", data := .seq #[.int n tk, z] } = g4 at en4 i4 t4 z4 k4
  show wpAny _ _ (Builtin.SmallTypes.ownedTupleIsFree (.ref e) >>= _) _ _ ⟨g4, gs, dd, tk + 1, os⟩
  rw [z3]
  clear en3 b3 en2 b2 en1 b1 i1 z3 g3 g2 g1
  unfold Builtin.SmallTypes.ownedTupleIsFree
  refine wpAny_bind (wpAny_bind (wpAny_field en4 rfl (x := .none) rfl (wpAny_pure ?_)))
  simp only [if_true]
  refine wpAny_bind (wpAny_rule (wpAny_bind (wpAny_field en4 rfl (x := old) rfl (wpAny_bind (wpAny_setField_rec en4 (by simp) fun g5 en5 b5 => ?_)))))
  replace b5 : Heap.SameBut e g4 g5 := b5
  replace en5 : IsEnum g5 e ji ((n : Int) + 1) z := en5
  show wpAny _ _ (Builtin.SmallTypes.ownedTupleHandOut (.ref e) (.ref hp.objs.size) >>= _) _ _ ⟨g5, gs, dd, tk + 1, os⟩
  unfold Builtin.SmallTypes.ownedTupleHandOut
  refine wpAny_bind (wpAny_bind (wpAny_setField_rec en5 (by simp) fun g6 en6 b6 => ?_))
  replace b6 : Heap.SameBut e g5 g6 := b6
  replace en6 : IsEnumOut g6 e ji ((n : Int) + 1) z hp.objs.size := en6
  refine wpAny_setField_rec en6 (by simp) fun g7 en7 b7 => ?_
  replace b7 : Heap.SameBut e g6 g7 := b7
  replace en7 : IsEnumOut g7 e ji ((n : Int) + 1) z hp.objs.size := en7
  have up : ∀ b o, b ≠ e → g4.get? b = some o → g7.get? b = some o := fun b o be h => b7.extBut b o be (b6.extBut b o be (b5.extBut b o be h))
  exact wpAny_bind (wpAny_letGo (wpAny_pure ⟨_, rfl, q g7 en7 (keep g4 g7 i4 fun o h => up ji o ne.symm h) (up _ _ (Nat.ne_of_gt le) t4) (by rw [b7.1, b6.1, b5.1, z4]) fun b o be bj hb => up b o be (k4 b o be bj hb)⟩))
end
end G

set_option maxRecDepth 100000
namespace G
open PySem L2 PySem.Spec PyProof.Rows
open AutoSeq1 (wpAny_loadPart')
theorem enum_made (tp : Addr) (zs : Array Value) (n : Nat) (dct : Option Addr) (sl : Array (Option Value)) :
    Meets (Builtin.«enumerate.__new__» ⟨[.type "enumerate", .ref tp], []⟩) (fun _ R s => s.heap.get? tp = some { cls := .type "tuple", dict := dct, data := .seq zs n, slots := sl } ∧
      R (.ok (.ret (.ref (s.heap.push { cls := .type "tuple_iterator", data := .fields #[.ref tp, .int 0 0] }).objs.size)))
        { s with heap := (s.heap.push { cls := .type "tuple_iterator", data := .fields #[.ref tp, .int 0 0] }).push { cls := .type "enumerate", data := .fields #[.none, .bool false, .ref s.heap.objs.size, rawInt 0, .none, .none] } }) :=
  .of_wp fun prog w A R s hh => by
    obtain ⟨hp, gs, dd, tk, os⟩ := s; obtain ⟨at_, ans⟩ := hh
    have below := sub_enumerate
    have tup : Heap.IsTuple (Shared.heap ⟨hp, gs, dd, tk, os⟩) tp zs := ⟨_, at_, rfl, n, rfl⟩
    wp_walk using wpAny_loadPart' at_
    refine wpAny_stack_any fun st => wpAny_pure ?_
    split
    · rename_i c _ _ _ _ _
      cases (c == Value.type "enumerate")
      all_goals
        wp_walk using wpAny_loadPart' at_, wpAny_pyIter_tuple tup
        exact ⟨_, rfl, ans⟩
    · wp_walk using wpAny_loadPart' at_, wpAny_pyIter_tuple tup
      exact ⟨_, rfl, ans⟩
section
variable {prog : Program} {w : World} {A : Around} {E : Value → Shared → Prop} {s : Shared}
theorem enum_of {tp : Addr} {zs : Array Value} {Q : Value → Shared → Prop} (tup : s.heap.IsTuple tp zs)
    (q : ∀ g, IsEnum g (s.heap.objs.size + 1) s.heap.objs.size 0 .none → g.IsTupleIter s.heap.objs.size tp 0 → g.objs.size = s.heap.objs.size + 2 →
      (∀ b o, s.heap.get? b = some o → g.get? b = some o) → Q (.ref (s.heap.objs.size + 1)) { s with heap := g }) : wpAny (model prog w) A (call (.type "enumerate") [.ref tp]) Q E s := by
  obtain ⟨⟨c, dct, dt, sl⟩, at_, (rfl : c = .type "tuple"), n, (rfl : dt = .seq zs n)⟩ := tup
  refine callType_new F.called_enumerate (by decide) (F.typeCall_enumerate_1 _) (F.newCall_enumerate_1 _) (fun obj => F.args_object_init_2 obj _) F.entry_enumerate_new (enum_made tp zs n dct sl) ⟨at_, ?_⟩
  have siz : (s.heap.push { cls := .type "tuple_iterator", data := .fields #[.ref tp, .int 0 0] }).objs.size = s.heap.objs.size + 1 := Heap.size_push ..
  show _ ∧ _
  rw [siz]
  have en : IsEnum ((s.heap.push { cls := .type "tuple_iterator", data := .fields #[.ref tp, .int 0 0] }).push { cls := .type "enumerate", data := .fields #[.none, .bool false, .ref s.heap.objs.size, rawInt 0, .none, .none] })
      (s.heap.objs.size + 1) s.heap.objs.size 0 .none := by
    have z := Heap.get?_push_size (s.heap.push { cls := .type "tuple_iterator", data := .fields #[.ref tp, .int 0 0] }) (o := { cls := .type "enumerate", data := .fields #[.none, .bool false, .ref s.heap.objs.size, rawInt 0, .none, .none] }) rfl
    rw [siz] at z
    exact z
  exact ⟨⟨_, en, rfl⟩, q _ en ⟨_, Heap.get?_push_of_some _ (Heap.get?_push_size _ rfl), rfl, rfl⟩ (by rw [Heap.size_push, siz]) fun b o z => Heap.get?_push_of_some _ (Heap.get?_push_of_some _ z)⟩
theorem enum_next {e ji tp : Addr} {n : Nat} {zs : Array Value} {z old : Value} {Q : Option Value → Shared → Prop} (en : IsEnum s.heap e ji n old) (si : s.heap.IsTupleIter ji tp n) (st : s.heap.IsTuple tp zs) (hz : zs[n]? = some z) (ne : e ≠ ji)
    (q : ∀ g, IsEnumOut g e ji ((n : Int) + 1) z s.heap.objs.size → g.IsTupleIter ji tp (n + 1) → g.get? s.heap.objs.size = some { cls := .type "tuple", data := .seq #[.int n s.toks, z] } → g.objs.size = s.heap.objs.size + 1 →
      (∀ b o, b ≠ e → b ≠ ji → s.heap.get? b = some o → g.get? b = some o) → Q (some (.ref s.heap.objs.size)) { s with heap := g, toks := s.toks + 1 }) : wpAny (model prog w) A (pyNext (.ref e)) Q E s := by
  have ty : s.TypeIs (.ref e) "enumerate" := ⟨_, en, rfl⟩
  unfold pyNext
  refine wpAny_bind (wpAny_attempt (wpAny_callSpecial?_slot (name := Str.ofString "__next__") ty F.slot_enumerate_next (wpAny_call_entry F.slot_enumerate_next ty F.entry_enumerate_next ?_ (F.args_enumerate_next_1 _))))
  exact enum_step (I := fun g => g.IsTupleIter ji tp (n + 1)) en ne (fun Q' h => next_tup si st hz fun g a b => h g a b) (fun g g' i k => i.at k) fun g a b c d k => wpAny_pure (q g a b c d k)
theorem enum_end {e ji tp : Addr} {n : Nat} {zs : Array Value} {old : Value} {Q : Option Value → Shared → Prop} (hh : A.handled = none) (en : IsEnum s.heap e ji n old) (si : s.heap.IsTupleIter ji tp n) (st : s.heap.IsTuple tp zs) (hz : zs[n]? = none)
    (q : ∀ g, Heap.ExtBut ji s.heap g → Q none { s with heap := g }) : wpAny (model prog w) A (pyNext (.ref e)) Q E s := by
  have ty : s.TypeIs (.ref e) "enumerate" := ⟨_, en, rfl⟩
  unfold pyNext
  refine wpAny_bind (wpAny_attempt (wpAny_callSpecial?_slot (name := Str.ofString "__next__") ty F.slot_enumerate_next (wpAny_call_entry F.slot_enumerate_next ty F.entry_enumerate_next ?_ (F.args_enumerate_next_1 _))))
  show wpAny _ _ (field (.ref e) 2 >>= _) _ _ _
  refine wpAny_bind (wpAny_field en rfl (x := .ref ji) rfl (wpAny_bind (next_tup_end hh si st hz fun g x k ⟨o, ho, hc⟩ => ?_)))
  exact wpAny_bind (wpAny_isInstance (T := "StopIteration") (b := true) ⟨o, ho, hc⟩ isSubtype_stop (wpAny_pure (q _ k)))
end
/-- the tuple at a, each item in a new pair -/
def IteT (K : PySem.W.Frag) (a : Addr) : It :=
  ⟨fun i H => ∃ (xs : List V) (x : V), SqT K H a xs ∧ xs[i]? = some x, fun i H v H' => ∃ T x, v = .ref T ∧ H T = none ∧ H' = upd H T (.tup [.int (i : Nat), x]) ∧ ∀ xs, SqT K H a xs → xs[i]? = some x, fun i H => ∃ xs : List V, SqT K H a xs ∧ xs.length ≤ i⟩
theorem isTuple_of {h : Heap} {a : Addr} {zs : Array Value} (t : IsTup h a zs) : h.IsTuple a zs := t
theorem turn_enumT {P : Program} {w : World} {K : PySem.W.Frag} {elts : List Expr} {kk : Nat} {tpos : Pos} (a e it : Addr) :
    Turn P w K (.Tuple elts kk tpos) (IteT K a) [e, it] e (fun i h => (∃ old, IsEnum h e it ((i : Nat) : Int) old) ∧ h.IsTupleIter it a i ∧ e ≠ it) where
  mem := List.mem_cons_self ..
  obj := by
    rintro i h ⟨⟨old, he⟩, ⟨o, ho, _, hd⟩, _⟩ b hb
    rcases (show b = e ∨ b = it by simpa using hb) with rfl | rfl
    · exact ⟨_, he, fun v q => nomatch q⟩
    · exact ⟨o, ho, fun v q => by rw [hd] at q; cases q⟩
  keep := fun i h h' ⟨⟨old, he⟩, hi, ne⟩ k => ⟨⟨old, k e (by simp) _ he⟩, hi.at fun o q => k it (by simp) o q, ne⟩
  item := by
    rintro X rfl rfl rfl hc i pins s σ H E I hf ⟨⟨old, he⟩, hit, ne⟩ ⟨xs, x, hq, hx⟩
    obtain ⟨its, rv, p, hz⟩ := I.tuple hq
    obtain ⟨u, hu, ru⟩ := rv.get hx
    have le : e < s.heap.objs.size := Heap.lt_size he
    have li : it < s.heap.objs.size := let ⟨_, z, _⟩ := hit; Heap.lt_size z
    refine enum_next he hit (isTuple_of p) (z := u) (by simpa using hu) ne fun g out hit2 hT siz hk => ⟨_, rfl, wpAny_letOwnedTupleGo_enum (s := { s with heap := g, toks := s.toks + 1 }) out fun g2 he2 sb => ?_⟩
    have new : ObjOk X.prog X.w (upd H s.heap.objs.size (.tup [.int (i : Nat), x])) g2 s.heap.objs.size (.tup [.int (i : Nat), x]) :=
      ⟨thousand (by show 2 ≤ 1000; decide), [.int i s.toks, u], .cons ⟨_, rfl⟩ (.cons ru .nil), ⟨_, (sb.2 _ (Nat.ne_of_gt le)).trans hT, rfl, _, rfl⟩⟩
    have I1 : Inv X pins σ (upd H s.heap.objs.size (.tup [.int (i : Nat), x])) { s with heap := g2, toks := s.toks + 1 } :=
      I.turnedNew (ch := [e, it]) (fun b ob hb q => (sb.2 b (fun z => hb (by simp [z]))).trans (hk b ob (fun z => hb (by simp [z])) (fun z => hb (by simp [z])) q)) hf (Nat.le_refl _) new
    refine ⟨.ref s.heap.objs.size, _, I1, rfl, ⟨_, x, rfl, I.hok.fresh (Nat.le_refl _), rfl, fun ys hy => ?_⟩, ⟨⟨u, ?_⟩, hit2.at fun o q => (sb.2 it (Ne.symm ne)).trans q, ne⟩, fun b hb => ?_⟩
    · rw [I.tuple_inj hy hq]
      exact hx
    · rw [show ((i + 1 : Nat) : Int) = (i : Int) + 1 by omega]
      exact he2
    · have lb : b < s.heap.objs.size := by
        rcases (show b = e ∨ b = it by simpa using hb) with rfl | rfl
        · exact le
        · exact li
      rw [upd_ne (Nat.ne_of_lt lb)]
      exact (hf b hb).1
  done := by
    rintro X rfl rfl rfl hc i pins s σ H E I hf ⟨⟨old, he⟩, hit, ne⟩ ⟨xs, hq, hx⟩
    obtain ⟨its, rv, p, hz⟩ := I.tuple hq
    obtain ⟨f0, f1, f2, f3, f4, f5⟩ := hf it (by simp)
    have hl := rv.length
    exact enum_end (I.ok.hd hc) he hit (isTuple_of p) (by simp; omega) fun g k => ⟨rfl, I.turned (t' := s.toks) (fun b o hb q => k b o hb q) f0 f1 f3 f4 f5⟩
  self := fun A i s Q E ⟨⟨_, he⟩, _⟩ h => wpAny_pyIter_enum he h
def iEnumT (K : PySem.W.Frag) (ta : TA) : TI := fun σ H R => ta σ H fun vs H1 => ∃ a xs, vs = [.ref a] ∧ SqT K H1 a xs ∧ R (IteT K a) H1
theorem pi_enumT {X : Cx} {e : Expr} {ta : TA} {p pos tpos : Pos} {elts : List Expr} {kk : Nat} (hg : Gl X "enumerate") (hm : X.mg "enumerate" = none) (ha : PA X [e] ta) (hs : starEach [e] X.env = [(false, eval e X.env)] := by rfl) :
    PI X (.Tuple elts kk tpos) (.Call (.Name "enumerate" p) [e] [] pos) (iEnumT X.K ta) := by
  refine ⟨fun pins s σ H R I h => Call_ (ld_blt I hg hm boot_enumerate (PyProof.Rows.callWith_type1 (thn (ha.run pos pins s σ H _ I h) ?_) hs rfl))⟩
  rintro us s1 ⟨vs, H1, I1, r1, a, xs, rfl, hq, q⟩
  cases r1 with
  | cons r rr =>
    cases rr
    cases r
    obtain ⟨its, rv, tu, hz⟩ := I1.tuple hq
    refine enum_of (isTuple_of tu) fun g he hit siz hk => wpAny_pyIter_enum he ?_
    have I2 : Inv X pins σ H1 { s1 with heap := g } := I1.kept (t' := s1.toks) hk
    refine ⟨s1.heap.objs.size + 1, [s1.heap.objs.size + 1, s1.heap.objs.size], _, _, H1, rfl, I2, turn_enumT a (s1.heap.objs.size + 1) s1.heap.objs.size, ⟨⟨.none, he⟩, hit, Nat.succ_ne_self _⟩, fun b hb => ?_, q⟩
    have le : s1.heap.objs.size ≤ b := by
      rcases (show b = s1.heap.objs.size + 1 ∨ b = s1.heap.objs.size by simpa using hb) with rfl | rfl
      · exact Nat.le_add_right _ _
      · exact Nat.le_refl _
    exact I1.fpOk le (I1.hok.fresh le)
theorem walk_enumT {K : PySem.W.Frag} {a : Addr} {xs : List V} : Walk (IteT K a) xs.length (fun H => SqT K H a xs) (YPair (fun i => some (.int (i : Nat))) (fun i => xs[i]?)) := by
  refine ⟨fun i _ hi q => ⟨xs, xs[i], q, by simp [hi]⟩, fun _ q => ⟨xs, q, Nat.le_refl _⟩, ?_⟩
  rintro i H v H' _ q ⟨T, x, h1, h2, h3, h4⟩
  exact ⟨T, .int (i : Nat), x, h1, h2, h3, rfl, h4 xs q⟩
end G

set_option maxRecDepth 100000
namespace G
open PySem L2 PySem.Spec PyProof.Rows
/-! ### defs that show nothing: called anywhere -/
structure CalO (P : Program) (w : World) (K : PySem.W.Frag) (mg : Str → Option Value) (base : Heap) (k : Nat) (x : Str) (ps : List Str) (sp : Sp) : Prop where
  ex : ∃ f fd, FnOk P w K mg base CX0 k f fd ps sp ∧ mg x = some (.ref f) ∧ PySem.W.keepIn K (.ref f) = true ∧ Binds K fd ps [] ∧ ∃ st, Fun K x x st f fd
section
variable {P : Program} {w : World} {K : PySem.W.Frag} {mg : Str → Option Value} {base : Heap} {k : Nat} {sp : Sp} {x : Str} {st : Stmt} {ps : List Str}
theorem CalO.g (c : CalO P w K mg base k x ps sp) : CalG P w K mg base k x sp := let ⟨f, fd, F, m, kp, b, _⟩ := c.ex; ⟨⟨f, fd, ps, FnG.lift F, m, kp, b⟩⟩
theorem calO_of (i : Is K mg x st) {N : List Str} (S : FnScope N ps (defScope st)) (len : ∀ vs H Q E, sp vs H Q E → vs.length = ps.length)
    (args : ∀ (kV doc pm : Value) (an : Option Addr) (cdv ct : Value) (us : List Value), us.length = ps.length → bindArgs (PySem.W.fnOf x x (defArgs st) (defBody st) (defScope st) .none kV doc pm an cdv ct) ⟨us, []⟩ = pure (ps.zip us))
    (bd : ∀ (f : Addr) (cdv : Value) (A : Around) (outer : List Env) (s : Shared) (H : Hp) (vs : List V) (Q : VK) (E : XK), Room k (A.deeper (envOfC x (defScope st) s.heap.objs.size f cdv)) → sp vs H Q E →
      ∃ t, PSs (cxOf CX0 P w K mg base N x (defScope st) f cdv A outer s H E).nox (defBody st) t ∧ t { nx := fun _ H' => Q .non H', rt := Q } (start N vs) H) : CalO P w K mg base (k + 1) x ps sp := by
  obtain ⟨f, fd, F, m⟩ := i
  exact ⟨⟨f, fd, F.ok S len (bd f), m, F.kp, F.binds args, st, F⟩⟩
end
section
variable {X : Cx} {k j : Nat} {sp : Sp} {x : Str} {p pos : Pos} {e : Expr} {es : List Expr} {t : TA} {ps : List Str}
theorem pe_o (c : CalO X.prog X.w X.K X.mg X.base k x ps sp) (hr : Room j X.A) (hk : k ≤ j) (hg : Gl X x) (ha : PA X (e :: es) t) (hdb : (x == ("__debug__" : Str)) = false := by decide)
    (he : starEach (e :: es) X.env = (false, eval e X.env) :: starEach es X.env := by rfl) (hpl : (backTo pos (starEach es X.env)).any (·.1) = false := by rfl) :
    PE X (.Call (.Name x p) (e :: es) [] pos) (fun σ H Q => t σ H fun vs H1 => sp vs H1 Q E0) := by
  obtain ⟨f, fd, F, m, kp, b, _⟩ := c.ex
  refine pe_weak (pe_call F (hr.mono hk) hg m kp b .nil pass0 ha hdb he hpl) fun σ H Q q => ?_
  show t σ H fun vs H1 => sp (vs ++ []) H1 Q E0
  simpa only [List.append_nil] using q
end
structure CalOK (P : Program) (w : World) (K : PySem.W.Frag) (mg : Str → Option Value) (base : Heap) (k : Nat) (x y : Str) (sp : Sp) : Prop where
  ex : ∃ f fd, FnOk P w K mg base CX0 k f fd [y] sp ∧ mg x = some (.ref f) ∧ PySem.W.keepIn K (.ref f) = true ∧ KBinds K fd [y] [y] (fun us ws => us ++ ws) (fun vs zs => vs ++ zs)
section
variable {P : Program} {w : World} {K : PySem.W.Frag} {mg : Str → Option Value} {base : Heap} {k : Nat} {sp : Sp} {x y : Str} {st : Stmt}
theorem calOK_of (i : Is K mg x st) {N : List Str} (S : FnScope N [y] (defScope st)) (len : ∀ vs H Q E, sp vs H Q E → vs.length = 1)
    (hp : ∀ (kV doc pm : Value) (an : Option Addr) (cdv ct u : Value), bindArgs (PySem.W.fnOf x x (defArgs st) (defBody st) (defScope st) .none kV doc pm an cdv ct) ⟨[u], []⟩ = pure [(y, u)])
    (hk : ∀ (kV doc pm : Value) (an : Option Addr) (cdv ct u : Value), bindArgs (PySem.W.fnOf x x (defArgs st) (defBody st) (defScope st) .none kV doc pm an cdv ct) ⟨[], [(y, u)]⟩ = pure [(y, u)])
    (bd : ∀ (f : Addr) (cdv : Value) (A : Around) (outer : List Env) (s : Shared) (H : Hp) (vs : List V) (Q : VK) (E : XK), Room k (A.deeper (envOfC x (defScope st) s.heap.objs.size f cdv)) → sp vs H Q E →
      ∃ t, PSs (cxOf CX0 P w K mg base N x (defScope st) f cdv A outer s H E).nox (defBody st) t ∧ t { nx := fun _ H' => Q .non H', rt := Q } (start N vs) H) : CalO P w K mg base (k + 1) x [y] sp ∧ CalOK P w K mg base (k + 1) x y sp := by
  obtain ⟨f, fd, F, m⟩ := i
  have ok := F.ok S len (bd f)
  have b : Binds K fd [y] [] := F.binds fun kV doc pm an cdv ct us hl => match us, hl with | [u], _ => hp kV doc pm an cdv ct u
  refine ⟨⟨⟨f, fd, ok, m, F.kp, b, st, F⟩⟩, ⟨⟨f, fd, ok, m, F.kp, ?_, fun r rz => r.append rz⟩⟩⟩
  obtain ⟨oc, od, kV, doc, pm, an, cdv, ct, osl, rfl, lk, hcd⟩ := F.ex
  intro s us ws _ hl
  match us, ws, hl with
  | [u], [], _ => exact .of_eq (hp kV doc pm an cdv ct u)
  | [], [u], _ => exact .of_eq (hk kV doc pm an cdv ct u)
theorem CalOK.g (c : CalOK P w K mg base k x y sp) : CalGK P w K mg base k x y sp := let ⟨f, fd, F, m, kp, b⟩ := c.ex; ⟨⟨f, fd, FnG.lift F, m, kp, b⟩⟩
end
end G

set_option maxRecDepth 100000
namespace G
open PySem L2 PySem.Spec PyProof.Rows
/-! ### an own error class with fields: what the text says of it -/
structure Err (K : PySem.W.Frag) (mg : Str → Option Value) (x : Str) (st : Stmt) (fields : List Str) (C : Addr) : Prop where
  mgC : mg x = some (.ref C)
  oex : OexC K C
  init : ∃ fI fd, PySem.W.findIn K (.ref C) "__init__" = some (some (.ref fI)) ∧ PySem.W.typeIn K (.ref fI) = some (.type "function") ∧ Fun K "__init__" (x ++ ".__init__") st fI fd
  noF : ∀ f ∈ fields, PySem.W.findIn K (.ref C) f = some none
  xf : XfC K C
  exc : ExcC K C
/-- __init__(self, a, b): self.a = a; self.b = b -/
def spInit2 (C : Addr) (fa fb : Str) : Sp := fun vs H Q _ => ∃ (a : Addr) (x y : V), vs = [.ref a, x, y] ∧ H a = some (exo a C none) ∧
  ∀ d, H d = none → d ≠ a → Q .non (upd (upd (upd H d (exd d [(fa, x)])) a (exo a C (some d))) d (exd d [(fb, y), (fa, x)]))
theorem spInit2_len {C : Addr} {fa fb : Str} : ∀ vs H Q E, spInit2 C fa fb vs H Q E → vs.length = 3 := by
  rintro vs H Q E ⟨a, x, y, rfl, _⟩
  rfl
theorem spInit2_read {X : Cx} {C : Addr} {fa fb : Str} {H : Hp} {a : Addr} {x y : V} {D : Ends} {σ : L2.St} (oex : OexC X.K C) (nA : PySem.W.findIn X.K (.ref C) fa = some none) (nB : PySem.W.findIn X.K (.ref C) fb = some none)
    (h0 : σ[0]? = some (some (.ref a))) (h1 : σ[1]? = some (some x)) (h2 : σ[2]? = some (some y)) (ha : H a = some (exo a C none))
    (q : ∀ d, H d = none → d ≠ a → D.nx σ (upd (upd (upd H d (exd d [(fa, x)])) a (exo a C (some d))) d (exd d [(fb, y), (fa, x)]))) :
    tSeq (tOst X.K fa (tVar 0) (tVar 1)) (tOst X.K fb (tVar 0) (tVar 2)) D σ H := by
  refine ⟨x, h1, _, h0, a, C, rfl, oex, nA, .inl ⟨ha, fun d hd ne => ?_⟩⟩
  refine ⟨y, h2, _, h0, a, C, rfl, oex, nB, .inr ⟨d, [(fa, x)], upd_same, ?_, (by show 1 ≤ 900; decide), q d hd ne⟩⟩
  rw [upd_ne ne, upd_same]
end G

set_option maxRecDepth 100000
namespace PySem.W
open PySem PySem.Spec PySem.Calls PyProof.Rows
section
variable {prog : Program} {w : World} {A : Around} {E : Value → Shared → Prop} {s : Shared} {K : Frag} {x D : Addr} {ox : Obj} {od : Option Obj}
theorem g_data {C : Addr} {name : Str} {a g : Value} (own : (clsIn K C).isSome = true) (fa : findIn K (.ref C) name = some (some a)) (fg : specialIn K a "__get__" = some (some g)) (ft : takesIn K a = some true) : findObj K C od name = some (.bind g a) := by
  obtain ⟨cd, hc⟩ := Option.isSome_iff_exists.mp own
  unfold findObj
  rw [hc, Option.bind_some, fa, Option.bind_some]
  simp [fg, ft]
/-- e.__class__ of an error whatever its dict is -/
theorem g_class {Q : Option Value → Shared → Prop} (c : L2.ExcC K D) (X : K.In s.heap) (I : InstAt s.heap x ox D od) (h : Q (some (.ref D)) { s with toks := s.toks + 1 }) : wpAny (model prog w) A (getAttr? (.ref x) "__class__") Q E s := by
  have found : findObj K D od "__class__" = some (.bind (.builtin "getset_descriptor.__get__") (.builtin "object.__class__")) := g_data (by obtain ⟨cd, hc, _⟩ := any_some c.hd; rw [hc]; rfl) c.ha c.hn c.ht
  obtain ⟨hp, gs, dd, tk, os⟩ := s
  have ty := I.type (M := model prog w)
  have l1 := looks_findIn (M := model prog w) X c.hg
  have l2 := looks_findIn (M := model prog w) X c.hk
  have l3 := looks_find (M := model prog w) X I found
  have below : Looks (model prog w) hp (isInstance (.ref x) (.type "BaseException")) true := ty.andThen (looks_subIn X c.hs)
  have n0 : (false && onTheHeap (Value.builtin "BaseException.__getattribute__")) = false := rfl
  have n2 : (Value.builtin "BaseException.__getattribute__" == Value.builtin "object.__getattribute__") = false := by decide +kernel
  have n1 : (onTheHeap (Value.ref D) && Value.builtin "BaseException.__getattribute__" == Value.builtin "object.__getattribute__") = false := by rw [n2]; rfl
  unfold getAttr? getAttrBy? getAttrBy
  refine wpAny_bind (wpAny_mkText (wpAny_bind (wpAny_attempt (wpAny_holding (wpAny_bind (ty.at (wpAny_bind (l1.at ?_))))))))
  show wpAny _ _ (if (onTheHeap (Value.ref D) && Value.builtin "BaseException.__getattribute__" == Value.builtin "object.__getattribute__") = true then _ else _) _ _ _
  rw [n1, if_neg Bool.false_ne_true]
  unfold getAttrByItsOwn hookBefore
  refine wpAny_bind ?_
  rw [if_pos (show onTheHeap (Value.ref D) = true from rfl)]
  refine l2.at (wpAny_bind (wpAny_attempt (wpAny_holding ?_)))
  unfold callGetattribute
  rw [n0, if_neg Bool.false_ne_true]
  unfold boundAndCalled
  rw [PySem.F.excAttr_ValueError.ga.bind (.ref x)]
  refine wpAny_bind (wpAny_pure ?_)
  show wpAny _ _ (call (.builtin "BaseException.__getattribute__") [.ref x, .str "__class__" tk]) _ _ _
  refine wpAny_call (codeAny_call_builtin PySem.F.excAttr_ValueError.ga.plain PySem.F.entry_bexc_ga (@check_slot (model prog w) _ _ ⟨hp, gs, dd, tk + 1, os⟩ "BaseException.__getattribute__" "BaseException" "__getattribute__" (.ref x) [.str "__class__" tk] [] _
    (by decide +kernel) (by decide +kernel) below (PySem.F.args_bexc_ga (.ref x) (.str "__class__" tk)) ?_))
  unfold Builtin.«object.__getattribute__»
  refine wpAny_bind (wpAny_of_eq (a := ((Value.ref x : Value), [Value.str "__class__" tk])) (by first | rfl | (simp only [slotArgs]; rfl)) (wpAny_bind (wpAny_pure (wpAny_bind (ty.at (wpAny_bind (l3.at ?_)))))))
  show wpAny _ _ (holding [Value.builtin "object.__class__"] (call (.builtin "getset_descriptor.__get__") [.builtin "object.__class__", .ref x, .ref D]) >>= ret) _ _ _
  refine wpAny_bind (wpAny_holding (wpAny_call (class_get (s := ⟨hp, gs, dd, tk + 1, os⟩) (ox := ox) (od := od) X I c.hm (wpAny_pure ?_))))
  show wpAny _ _ (handedOut (.ref D)) _ _ _
  rw [handedOut_of (v := .ref D) rfl]
  first
    | exact wpAny_pure (wpAny_pure h)
    | exact wpAny_pure h
    | exact wpAny_pure (wpAny_bind (wpAny_pure (wpAny_pure h)))
theorem g_kit (c : L2.ExcC K D) : KitX K (.ref x) (.ref D) (fun h => InstAt h x ox D od) where
  ty := fun _ _ _ I => I.type
  it := fun _ _ X _ => by
    obtain ⟨cdD, hcD, _⟩ := any_some c.hd
    unfold clsIn at hcD
    split at hcD
    · rename_i ho
      intro A' Q' E' s' k q
      unfold isType loadHead
      exact wpAny_bind (wpAny_loadPart (k _ _ (X _ _ ho)) (wpAny_pure q))
    · cases hcD
  ne := fun h tp dd its n sl X htp => by
    obtain ⟨cdD, hcD, _⟩ := any_some c.hd
    refine Bool.eq_false_iff.mpr fun q => ?_
    obtain rfl : D = tp := Value.ref.inj (beq_iff_eq.mp q)
    unfold clsIn at hcD
    split at hcD
    · rename_i ho
      cases (X _ _ ho).symm.trans htp
    · cases hcD
  ca := fun X I k => g_class c X I k
end
end PySem.W
namespace G
open PySem L2 PySem.Spec PyProof.Rows
/-- isinstance(e, c), e an error with fields that the suite holds -/
theorem call_isF {X : Cx} {a D dd : Addr} {oe : Obj} {pn : List (Addr × Obj)} (C : ExcC X.K D) (hz : Zc (.ref D) (some dd) oe) (hf : ∃ vs, oe.data = .fields vs) :
    CallR (X.suite a ((a, oe) :: pn)) (.builtin "isinstance") (fun xs H Q => (∃ fs, H dd = some (.xd fs)) ∧ rIsE X.K D a xs H Q) := by
  intro pins s σ H xs us Q I r h
  obtain ⟨⟨fs, hx⟩, c, cv, b, rfl, hcv, e, q⟩ := h
  match us, r with
  | [_, u2], .cons rx (.cons rt .nil) =>
    cases rx
    obtain rfl := hcv _ rt
    obtain ⟨hget, _⟩ := I.pin (a, oe) (List.mem_append.mpr (.inl List.mem_cons_self))
    obtain ⟨vs, hv⟩ := hf
    obtain ⟨mA, hns, _⟩ := (show ObjOk X.prog X.w H s.heap dd (.xd fs) from I.hok dd _ hx)
    obtain ⟨od, ho, _⟩ := lookIn_ns hns
    have J : PySem.W.InstAt s.heap a oe D (some od) := by
      obtain ⟨oc, odx, oda, osl⟩ := oe
      obtain ⟨h1, h2⟩ := hz
      dsimp only at h1 h2 hv
      subst h1 h2 hv
      exact ⟨hget, rfl, rfl, ho⟩
    exact PySem.W.kia_one (PySem.W.g_kit C) I.kIn J e (fun z => nomatch z) fun tk => ⟨.bl b, H, I.kept (t' := tk) fun _ _ z => z, rfl, q⟩
end G

set_option maxRecDepth 100000
namespace G
open PySem L2 PySem.Spec PyProof.Rows
section
variable {X : Cx}
/-- l.count(x), data -/
theorem mt_countD (hu : X.A.units + 66 < cLine) : MtR X "list.count" (fun x xs H Q => ∃ a y d ds, x = .ref a ∧ xs = [y] ∧ Dp X.K H (.ref a) (.list ds) ∧ Dp X.K H y d ∧ PyData.plainAll ds = true ∧ d.plain = true ∧ PyData.depthAll ds ≤ 64 ∧
    Q (.int (ds.countP fun z => PyData.eqv z d : Nat)) H) := by
  intro pins s σ H x xs v us Q I rx rxs h
  obtain ⟨a, y, d, ds, rfl, rfl, hl, hy, p1, p2, dep, q⟩ := h
  cases rx
  match us, rxs with
  | [u], .cons ru .nil =>
    obtain ⟨bs, r2⟩ := Dp.reads I d y u hy ru
    cases hl with
    | lst hs ha =>
      obtain ⟨its, rv, tl, hz⟩ := I.list hs
      obtain ⟨as, r1⟩ := Dp.readsAll I ds _ its ha rv
      refine PySem.SeqAt.count_list_data (vs := its.toArray) tl.isList r1 r2 p1 p2 (by omega) ?_
      exact ⟨.int _, H, I.tok _, ⟨_, rfl⟩, q⟩
end
end G

set_option maxRecDepth 100000
set_option maxHeartbeats 2000000
namespace G
open PySem L2 PySem.Spec PyProof.Rows LamX

/-- the law's run where no guard stands, some defs of it holding lambdas: tb, their code objects, each with its table -/
theorem run_lawT {P : Program} {w : World} {K : PySem.W.Frag} {mg mb : Str → Option Value} {k : Nat} {fa a : Addr} {fd : FuncData} {x : Str} {sp : Sp} {s1 : Shared} {vs : List Value} {ns : List Int} {tb : List (Addr × Addr)}
    (kin : K.In s1.heap) (nsg : s1.heap.Ns mainGlobals mg) (nsb : s1.heap.Ns builtinsNs mb) (bb : ∀ x : Str, x ≠ "__name__" → mb x = bootBuiltins x) (lim : s1.heap.NoLimit) (gs : s1.gens = #[])
    (tE : ∀ p ∈ tb, s1.heap.get? p.2 = some { cls := .none, data := .fields #[] }) (tK : ∀ p ∈ tb, K.lookup p.2 = none) (tC : ∀ p ∈ tb, PySem.W.CodeHd s1.heap p.1 p.2)
    (bm : ∃ (bm : Addr) (ob : Obj), mg "__builtins__" = some (.ref bm) ∧ bm ≠ builtinsNs ∧ s1.heap.get? bm = some ob ∧ ob.cls = .type "module" ∧ ob.dict = some builtinsNs ∧ ob.data = .plain)
    (at_ : s1.heap.get? a = some { cls := .type "list", data := .seq vs.toArray }) (are : IntsAre vs ns) (fit : ns.length ≤ sizeLine) (room : Room k callerA)
    (F : ∀ base : Heap, K.In base → base.Ns mainGlobals mg → (∀ p ∈ tb, TabB base mg p.1 p.2) → FnG P w K mg base CX0 k fa fd [x] sp) (bind : ∀ (s : Shared) (u : Value), BindsTo s fd ⟨[u], []⟩ [(x, u)])
    (say : ∀ H : Hp, (∀ p ∈ tb, H p.2 = some (.tbl #[])) → SqL K H a (ns.map V.int) → sp [.ref a] H (fun v _ => v = .bl true) fun _ _ _ => False) :
    codeAny (model P w) callerA (.call (.ref fa) ⟨[.ref a], []⟩) (fun r s' => r = .ok (.ret (.bool true)) ∧ OldK s1.heap s'.heap ∧ s'.os = s1.os ∧ AllBare s'.gens) s1 := by
  have rel := vals_ints are
  have siz := are.length
  have ofT : ∀ b : Addr, (∃ p ∈ tb, p.2 = b) → s1.heap.get? b = some { cls := .none, data := .fields #[] } := by
    rintro b ⟨p, hp, rfl⟩
    exact tE p hp
  have aT : ¬ ∃ p ∈ tb, p.2 = a := fun z => by
    have q := ofT a z
    rw [at_] at q
    injection q with q
    injection q with _ _ q
    cases q
  have main : ∀ H : Hp, (∀ p ∈ tb, H p.2 = some (.tbl #[])) → (∀ b u, H b = some u → (∃ p ∈ tb, p.2 = b) ∨ (b = a ∧ ∃ o xs, u = .frz o (.lst xs))) → SqL K H a (ns.map V.int) → HOk P w H s1.heap → (H a ≠ none → K.lookup a = none) →
      codeAny (model P w) callerA (.call (.ref fa) ⟨[.ref a], []⟩) (fun r s' => r = .ok (.ret (.bool true)) ∧ OldK s1.heap s'.heap ∧ s'.os = s1.os ∧ AllBare s'.gens) s1 := by
    intro H hT only sq ok unk
    -- what is neither a list nor an empty row is not tracked
    have bare_ : ∀ {b : Addr} {o : Obj}, s1.heap.get? b = some o → (∀ vs n, o.data ≠ .seq vs n) → o.data ≠ .fields #[] → H b = none := by
      intro b o e n1 n2
      cases q : H b with
      | none => rfl
      | some u =>
        rcases only b u q with z | ⟨rfl, _⟩
        · rw [ofT b z] at e
          cases e
          exact absurd rfl n2
        · rw [at_] at e
          cases e
          exact absurd rfl (n1 _ _)
    have dicts : ∀ {b : Addr} {m : Str → Option Value}, s1.heap.Ns b m → (hidT s1.heap H).Ns b m := by
      rintro b m ⟨o, es, ep, e, d, r⟩
      exact ⟨o, es, ep, hidT_get e (bare_ e (fun _ _ z => by rw [d] at z; cases z) fun z => by rw [d] at z; cases z), d, r⟩
    have kin2 : K.In (hidT s1.heap H) := by
      intro b o e
      refine hidT_get (kin b o e) ?_
      cases q : H b with
      | none => rfl
      | some u =>
        rcases only b u q with ⟨p, hp, rfl⟩ | ⟨rfl, _⟩
        · cases (tK p hp).symm.trans e
        · cases (unk (by rw [q]; simp)).symm.trans e
    have mod : Mod K mg (hidT s1.heap H) := ⟨kin2, dicts nsg, ⟨mb, dicts nsb, bb⟩, let ⟨mc, h1, h2⟩ := lim; ⟨mc, dicts h1, h2⟩⟩
    have tabs : ∀ p ∈ tb, TabB (hidT s1.heap H) mg p.1 p.2 := by
      intro p hp
      obtain ⟨o, us, file, tf, flags, tg, inF, text, tt, e1, r1, r2, r3, r4⟩ := tC p hp
      obtain ⟨m, ob, b1, b2, b3, b4, b5, b6⟩ := bm
      have dm := bare_ b3 (fun _ _ z => by rw [b6] at z; cases z) fun z => by rw [b6] at z; cases z
      refine ⟨⟨o, us, file, tf, flags, tg, inF, text, tt, hidT_get e1 (bare_ e1 (fun _ _ z => ?_) fun z => ?_), r1, r2, r3, r4⟩, ⟨m, ob, b1, b2, fun z => ?_, fun z => ?_, hidT_get b3 dm, b4, b5, b6⟩, fun z => ?_⟩
      · rw [r2] at z
        cases z
      · rw [r2] at z
        cases z
        simp at r3
      · obtain ⟨o2, es, ep, e, d, _⟩ := nsg
        rw [z, e] at b3
        cases b3
        rw [d] at b6
        cases b6
      · rw [z, tE p hp] at b3
        cases b3
        cases b6
      · obtain ⟨o2, es, ep, e, d, _⟩ := nsg
        rw [z, tE p hp] at e
        cases e
        cases d
    have env : Env0 P w K mg (hidT s1.heap H) callerA [] s1 H := ⟨rfl, mod, fun b o e => of_hidT e, Nat.le_of_eq (hidT_size _ _), trivial, fun b hb => absurd (show b ∈ ([] : List Addr) from hb) (by simp), ok, .of_eq gs⟩
    refine codeAny_mono ((F _ kin2 (dicts nsg) tabs).go callerA [] s1 H ⟨[.ref a], []⟩ [.ref a] [.ref a] _ _ rfl room env (bind s1 (.ref a)) (.cons rfl .nil) (say H hT sq)) fun r s' h => ?_
    match r, h with
    | .error e, h => exact h.elim
    | .ok (.ret u), ⟨v, H', os, bare, un, ok', rv, (q : v = .bl true)⟩ =>
      subst q
      obtain rfl : u = Value.bool true := rv
      have stay : ∀ b o, ¬ (∃ p ∈ tb, p.2 = b) → s1.heap.get? b = some o → s'.heap.get? b = some o := by
        intro b o nb e
        cases q : H b with
        | none => exact un.keep b o e q (by intro z; exact absurd (show b ∈ ([] : List Addr) from z) (by simp)) (by simp)
        | some u =>
          rcases only b u q with z | ⟨rfl, ob, xs, rfl⟩
          · exact absurd z nb
          · obtain ⟨e1, _⟩ := ok b _ q
            obtain ⟨e2, _⟩ := ok' b _ (un.frzs b ob _ q)
            rw [e] at e1
            cases e1
            exact e2
      have grown : ∀ p ∈ tb, ∃ more : Array Value, s'.heap.get? p.2 = some { cls := .none, data := .fields more } := by
        intro p hp
        obtain ⟨more, z⟩ := un.tbls p.2 #[] (hT p hp)
        exact ⟨_, ok' p.2 _ z⟩
      refine ⟨rfl, ⟨fun b o e => ?_, fun b o e => ?_⟩, os, bare⟩
      all_goals by_cases hb : ∃ p ∈ tb, p.2 = b
      · obtain ⟨p, hp, rfl⟩ := hb
        obtain ⟨more, hm⟩ := grown p hp
        cases (tE p hp).symm.trans e
        exact .inr (.inl ⟨((tC p hp).tab (tE p hp)).isCodeTable, rfl, #[], more, rfl, by rw [Array.empty_append]; exact hm⟩)
      · exact .inl (stay b o hb e)
      · obtain ⟨p, hp, rfl⟩ := hb
        obtain ⟨more, hm⟩ := grown p hp
        exact ⟨_, hm⟩
      · exact ⟨o, stay b o hb e⟩
  open Classical in
  have tabH : ∀ (b : Addr) (u : HO), (if ∃ p ∈ tb, p.2 = b then some (HO.tbl #[]) else none) = some u → (∃ p ∈ tb, p.2 = b) ∧ u = .tbl #[] := by
    intro b u z
    by_cases hb : ∃ p ∈ tb, p.2 = b
    · cases (if_pos hb).symm.trans z
      exact ⟨hb, rfl⟩
    · cases (if_neg hb).symm.trans z
  open Classical in
  cases hk : K.lookup a with
  | some o =>
    have e := kin a o hk
    rw [at_] at e
    cases e
    refine main (fun b => if ∃ p ∈ tb, p.2 = b then some (.tbl #[]) else none) (fun p hp => if_pos ⟨p, hp, rfl⟩) (fun b u z => .inl (tabH b u z).1) (.inr ⟨_, vs.toArray, _, hk, rfl, rfl, rfl, by rw [List.size_toArray, siz]; exact fit, by simpa using rel⟩)
      (fun b u z => ?_) fun z => absurd (show (if ∃ p ∈ tb, p.2 = a then some (HO.tbl #[]) else none) = none from if_neg aT) z
    obtain ⟨hb, rfl⟩ := tabH b u z
    exact ofT b hb
  | none =>
    refine main (fun b => if b = a then some (.frz { cls := .type "list", data := .seq vs.toArray } (.lst (ns.map V.int))) else if ∃ p ∈ tb, p.2 = b then some (.tbl #[]) else none) (fun p hp => ?_) (fun b u z => ?_)
      (.inl (.inr ⟨{ cls := .type "list", data := .seq vs.toArray }, if_pos rfl⟩)) (fun b u z => ?_) fun _ => hk
    · exact (if_neg fun z => aT ⟨p, hp, z⟩).trans (if_pos ⟨p, hp, rfl⟩)
    all_goals by_cases hb : b = a
    · cases (if_pos hb).symm.trans z
      exact .inr ⟨hb, _, _, rfl⟩
    · exact .inl (tabH b u ((if_neg hb).symm.trans z)).1
    · cases (if_pos hb).symm.trans z
      subst hb
      exact ⟨at_, by rw [List.length_map]; exact fit, vs, _, rel, at_⟩
    · obtain ⟨h2, rfl⟩ := tabH b u ((if_neg hb).symm.trans z)
      exact ofT b h2
/-- what the head tells of a def's code object and its table -/
abbrev Told (q : Program) (K : PySem.W.Frag) (h : Heap) : Prop := ∀ (x : Str) (e : DefRec) (c P : Addr), (recsOf q).find? (fun e => e.name == x) = some e → PySem.W.tabIn K x = some (c, P) → PySem.W.CodeHd h c P ∧ h.get? P = some { cls := .none, data := .fields #[] }
theorem walkGT {l : PySem.W.OpenLaw} {n k : Nat} {q : Program} {loose : List Str} {XP : (Str → Option Value) → Heap → Prop} {YP : World → Heap → Prop} {d : DefRec} {K : Params → PySem.W.Frag} {x : Str}
    (hn : l.most = some n) (hn2 : n ≤ sizeLine) (hdf : d.params.defaults = []) (room : Room k callerA) (hY : ∀ (w : World) (h : Heap), YP w h → (K w.params).In h)
    (F : ∀ (w : World) (mg : Str → Option Value) (fa : Addr) (h : Heap), (K w.params).In h → h.Ns mainGlobals mg → mg d.name = some (.ref fa) → Told q (K w.params) h →
      ∃ (fd : FuncData) (tb : List (Addr × Addr)) (sp : Sp), (∀ p ∈ tb, h.get? p.2 = some { cls := .none, data := .fields #[] }) ∧ (∀ p ∈ tb, (K w.params).lookup p.2 = none) ∧ (∀ p ∈ tb, PySem.W.CodeHd h p.1 p.2) ∧
        (∀ (s : Shared) (u : Value), BindsTo s fd ⟨[u], []⟩ [(x, u)]) ∧
        (∀ (H : Hp) (a : Addr) (ns : List Int), ns.length ≤ n → (∀ z ∈ ns, Builtin.Int.intBits z ≤ 1048576) → (∀ p ∈ tb, H p.2 = some (.tbl #[])) → SqL (K w.params) H a (ns.map V.int) → sp [.ref a] H (fun v _ => v = .bl true) fun _ _ _ => False) ∧
        ∀ base : Heap, (K w.params).In base → base.Ns mainGlobals mg → (∀ p ∈ tb, TabB base mg p.1 p.2) → FnG l.prog w (K w.params) mg base CX0 k fa fd [x] sp) :
    PySem.W.WalkO q loose XP YP l.row.toRowW d [] (fun f vs => PySem.call f vs) := by
  refine Att.attach_callB hn hdf fun w s₀ s₁ mg mb fa o pm cd doc a vs ns G Y ho hd hcd hmg hobj hints hlen bits hg => ?_
  have kin := hY w _ Y
  obtain ⟨fd, tb, sp, t1, t2, t3, hb, say, hF⟩ := F w mg fa _ kin G.T.g hmg fun x e c P h1 h2 => PySem.W.tab_of G.T kin h1 h2
  exact run_lawT kin G.T.g G.T.b G.T.builtins G.T.nolimit hg t1 t2 t3 G.T.bmain hobj hints (Nat.le_trans hlen hn2) room hF hb fun H hT hS => say H a ns hlen bits hT hS
end G

set_option maxRecDepth 100000
set_option maxHeartbeats 2000000
namespace G
open PySem L2 PySem.Spec PyProof.Rows LamX

/-- what stands but for the tables is there still -/
theorem Held.ofN {H H' : Hp} (s : ExtN H H') : Held H H' :=
  ⟨fun b xs e => s b _ e (fun ps z => nomatch z), fun b xs e => s b _ e (fun ps z => nomatch z), fun b o xs e => s b _ e (fun ps z => nomatch z), fun b o xs e => s b _ e (fun ps z => nomatch z)⟩
theorem ExtN.same {H H' : Hp} (s : Same H H') : ExtN H H' := ExtN.of s
section
variable {P : Program} {w : World} {K : PySem.W.Frag} {mg : Str → Option Value} {base : Heap} {c : Addr}
/-- a def of the text whose code object is known -/
def IsC (K : PySem.W.Frag) (mg : Str → Option Value) (x : Str) (st : Stmt) (c : Addr) : Prop := ∃ f fd, Fun K x x st f fd ∧ mg x = some (.ref f) ∧ fd.code = .ref c
/-- a def by its body, the body's code object known -/
theorem okGC {x : Str} {st : Stmt} {f : Addr} {fd : FuncData} {N ps : List Str} {k : Nat} {sp : Sp} (F : Fun K x x st f fd) (hc : fd.code = .ref c) (S : FnScope N ps (defScope st)) (len : ∀ vs H Q E, sp vs H Q E → vs.length = ps.length)
    (bd : ∀ (A : Around) (outer : List Env) (s : Shared) (H : Hp) (vs : List V) (Q : VK) (E : XK), A.guards = some [] → Room k (A.deeper (envOfC x (defScope st) s.heap.objs.size f (.ref c))) → sp vs H Q E →
      ∃ t, PSs (cxOf CX0 P w K mg base N x (defScope st) f (.ref c) A outer s H E).nox (defBody st) t ∧ t { nx := fun _ H' => Q .non H', rt := Q } (start N vs) H) :
    FnG P w K mg base CX0 (k + 1) f fd ps sp := by
  obtain ⟨oc, od, kV, doc, pm, an, cdv, ct, osl, rfl, lk, hcd⟩ := F.ex
  obtain rfl : cdv = .ref c := hc
  refine ⟨len, fun A outer s H args us vs Q E gd hr e0 hb r hsp => ?_⟩
  have kin : K.In s.heap := e0.mod.kin.keeps fun b o q => (e0.bs b o q).1
  have nolim : s.heap.NoLimit := e0.mod.nolimit.keeps fun b o q => (e0.bs b o q).1
  have kinds : ∀ y ∈ ps.zip us, (defScope st).names.lookup y.1 = some .local ∨ ((defScope st).names.lookup y.1 = some .cell ∧ ((cellsFrom (s.heap.objs.size + 1) (defScope st).names []).lookup y.1).isSome = true) := by
    rintro ⟨n, v⟩ hy
    exact (S.par n (List.of_mem_zip hy).1).elim .inl fun q => .inr ⟨q, PySem.W.cellsFrom_some _ _ _ (.inl q)⟩
  refine codeAny_call_function hr.depth (kin _ _ lk) rfl S.co S.gen rfl (PySem.W.codeRec_of kin hcd) (hb _ _ _ _ (wpAny_newFunctionEnv_cells S.kind kinds fun env he s1 x1 => ?_))
  subst he
  refine ⟨nolim.keeps x1.toInCall.keep, codeAny_func ?_⟩
  obtain ⟨t, ht, hq⟩ := bd A outer s H vs Q E gd (hr.deeper _) hsp
  have I0 : Inv (cxOf CX0 P w K mg base N x (defScope st) f (.ref c) A outer s H E) [] (start N vs) H s1 := inv_start S hr.hd e0 (len _ _ _ _ hsp) r x1
  refine wpAny_mono (ht.nox.run [] s1 (start N vs) H _ I0 hq) (fun fl s' hs => ?_) fun e s' hs => hs
  match fl, hs with
  | .ret u, ⟨v, σ', H', J, rv, q⟩ => exact ⟨v, H', J.os, J.bare, J.base, J.hok, rv, q⟩
  | .next, ⟨σ', H', J, q⟩ => exact ⟨V.non, H', J.os, J.bare, J.base, J.hok, rfl, q⟩
  | .brk, ⟨_, _, _, q⟩ => exact q.elim
  | .cont, ⟨_, _, _, q⟩ => exact q.elim
theorem cal_ofC {x : Str} {st : Stmt} {k : Nat} {sp : Sp} (i : IsC K mg x st c) {N ps : List Str} (S : FnScope N ps (defScope st)) (len : ∀ vs H Q E, sp vs H Q E → vs.length = ps.length)
    (args : ∀ (kV doc pm : Value) (an : Option Addr) (cdv ct : Value) (us : List Value), us.length = ps.length → bindArgs (PySem.W.fnOf x x (defArgs st) (defBody st) (defScope st) .none kV doc pm an cdv ct) ⟨us, []⟩ = pure (ps.zip us))
    (bd : ∀ (f : Addr) (A : Around) (outer : List Env) (s : Shared) (H : Hp) (vs : List V) (Q : VK) (E : XK), A.guards = some [] → Room k (A.deeper (envOfC x (defScope st) s.heap.objs.size f (.ref c))) → sp vs H Q E →
      ∃ t, PSs (cxOf CX0 P w K mg base N x (defScope st) f (.ref c) A outer s H E).nox (defBody st) t ∧ t { nx := fun _ H' => Q .non H', rt := Q } (start N vs) H) : CalG P w K mg base (k + 1) x sp := by
  obtain ⟨f, fd, F, m, hc⟩ := i
  exact ⟨⟨f, fd, ps, okGC F hc S len (bd f), m, F.kp, F.binds args⟩⟩
end
section
variable {X : Cx}
/-- x(lambda: body), x a def of the text that calls its one argument -/
theorem pe_lamF {T : List (Addr × Str)} {TT : (XK → Hp → VK → Prop) → Hp → VK → Prop} {x a : Str} {st : Stmt} {c P : Addr} {k : Nat} {Ng : List Str} {params : Arguments} {body : Expr} {scope : Scope} {t : XK → TE} {p lpos pos : Pos}
    (hg : Gl X x) (i : Is X.K X.mg x st) (one : ∀ (kV doc pm : Value) (an : Option Addr) (cdv ct : Value) (us : List Value), us.length = [a].length → bindArgs (PySem.W.fnOf x x (defArgs st) (defBody st) (defScope st) .none kV doc pm an cdv ct) ⟨us, []⟩ = pure ([a].zip us))
    (Sg : FnScope Ng [a] (defScope st)) (hN : Ng[0]? = some a) (hv : Vis (defScope st) a) (gv : ∀ (g : Addr) (cdv : Value), GivesTo X Ng x (defScope st) g cdv (defBody st) a (X.env.qual ++ "<lambda>") TT)
    (TB : TabB X.base X.mg c P) (code : X.env.code = .ref c) (inT : (P, X.env.qual ++ "<lambda>") ∈ T) (un : ∀ p ∈ T, p.1 = P → p.2 = X.env.qual ++ "<lambda>") (hr : Room (k + 2) X.A) (L : LamS X.env.scope scope) (df : defaultsOf params X.env = ([], []))
    (bnd : ∀ (q : Str) (cl : List (Str × Addr)) (pm cv ctv : Value), bindArgs (PySem.W.kla_fn "<lambda>" q params body scope cl pm cv ctv) ⟨[], []⟩ = pure [])
    (bod : ∀ (A : Around) (outer : List Env) (s : Shared) (H : Hp) (E : XK) (f c' : Addr), Room k (A.deeper (lamEnv X scope s.heap.objs.size f c')) → PE (lamCx X A outer s H E scope f c') body (t E))
    (hdb : (x == ("__debug__" : Str)) = false := by decide) (hd : (a == ("__debug__" : Str)) = false := by decide) (hcd : (a == ("__classdict__" : Str)) = false := by decide) :
    PE X (.Call (.Name x p) [.Lambda params body scope lpos] [] pos) (tLam T TT t) := by
  obtain ⟨g, fd, F, m⟩ := i
  have bs := F.binds one
  obtain ⟨oc, od, kV, doc, pm, an, cdv, ct, osl, rfl, lk, cin⟩ := F.ex
  exact pe_lamcall hg m F.kp lk cin bs Sg hN hv (gv g cdv) TB code inT un hr L df bnd bod hdb hd hcd
/-- what a lambda's body lets out -/
theorem lam_pass {A : Around} {outer : List Env} {s : Shared} {H : Hp} {E : XK} {scope : Scope} {f c' : Addr} : Passes (L2.CX X.prog X.w) (lamCx X A outer s H E scope f c') E :=
  passes_call (X := lamCx X A outer s H E scope f c') (takes_of rfl rfl rfl rfl) fun _ _ _ _ h => h
end
/-! ### defs that may raise, called by place and by name -/
/-- a def of one parameter y whose promise lets errors out -/
structure CalX (P : Program) (w : World) (K : PySem.W.Frag) (mg : Str → Option Value) (base : Heap) (k : Nat) (x y : Str) (sp : Sp) : Prop where
  ex : ∃ f fd, FnOk P w K mg base (L2.CX P w) k f fd [y] sp ∧ mg x = some (.ref f) ∧ PySem.W.keepIn K (.ref f) = true ∧ Binds K fd [y] [] ∧ KBinds K fd [y] [y] (fun us ws => us ++ ws) (fun vs zs => vs ++ zs)
section
variable {P : Program} {w : World} {K : PySem.W.Frag} {mg : Str → Option Value} {base : Heap} {k : Nat} {sp : Sp} {x y : Str} {st : Stmt}
theorem calX_of (i : Is K mg x st) (ok : ∀ f fd, Fun K x x st f fd → FnOk P w K mg base (L2.CX P w) k f fd [y] sp)
    (hp : ∀ (kV doc pm : Value) (an : Option Addr) (cdv ct u : Value), bindArgs (PySem.W.fnOf x x (defArgs st) (defBody st) (defScope st) .none kV doc pm an cdv ct) ⟨[u], []⟩ = pure [(y, u)])
    (hk : ∀ (kV doc pm : Value) (an : Option Addr) (cdv ct u : Value), bindArgs (PySem.W.fnOf x x (defArgs st) (defBody st) (defScope st) .none kV doc pm an cdv ct) ⟨[], [(y, u)]⟩ = pure [(y, u)]) : CalX P w K mg base k x y sp := by
  obtain ⟨f, fd, F, m⟩ := i
  have o := ok f fd F
  have b : Binds K fd [y] [] := F.binds fun kV doc pm an cdv ct us hl => match us, hl with | [u], _ => hp kV doc pm an cdv ct u
  refine ⟨f, fd, o, m, F.kp, b, ?_, fun r rz => r.append rz⟩
  obtain ⟨oc, od, kV, doc, pm, an, cdv, ct, osl, rfl, lk, hcd⟩ := F.ex
  intro s us ws _ hl
  match us, ws, hl with
  | [u], [], _ => exact .of_eq (hp kV doc pm an cdv ct u)
  | [], [u], _ => exact .of_eq (hk kV doc pm an cdv ct u)
end
section
variable {X : Cx} {k j : Nat} {sp : Sp} {x y : Str} {p pos kpos : Pos} {e : Expr} {te : TE} {E : XK}
theorem pe_x (c : CalX X.prog X.w X.K X.mg X.base k x y sp) (hr : Room j X.A) (hk : k ≤ j) (hg : Gl X x) (hx : Passes (L2.CX X.prog X.w) X E) (he : PE X e te) (hdb : (x == ("__debug__" : Str)) = false := by decide)
    (h1 : starEach [e] X.env = (false, eval e X.env) :: starEach [] X.env := by rfl) (hpl : (backTo pos (starEach [] X.env)).any (·.1) = false := by rfl) :
    PE X (.Call (.Name x p) [e] [] pos) (fun σ H Q => te σ H fun v H1 => sp [v] H1 Q E) := by
  obtain ⟨f, fd, F, m, kp, b, _⟩ := c.ex
  exact pe_call F (hr.mono hk) hg m kp b .nil hx (pa_cons (hs := h1) he pa_nil) hdb h1 hpl
theorem pe_xK (c : CalX X.prog X.w X.K X.mg X.base k x y sp) (hr : Room j X.A) (hk : k ≤ j) (hg : Gl X x) (hx : Passes (L2.CX X.prog X.w) X E) (he : PE X e te)
    (hall : (backToKw pos (keywordEach [⟨some y, e, kpos⟩] X.env)).all (·.1.isSome) = true := by rfl)
    (hks : (backToKw pos (keywordEach [⟨some y, e, kpos⟩] X.env)).filterMap (·.1) = [y] := by rfl) (hdb : (x == ("__debug__" : Str)) = false := by decide)
    (hpl : ((backTo pos (starEach [] X.env)).any (·.1) || (backToKw pos (keywordEach [⟨some y, e, kpos⟩] X.env)).any (·.1.isNone)) = false := by rfl) :
    PE X (.Call (.Name x p) [] [⟨some y, e, kpos⟩] pos) (fun σ H Q => te σ H fun v H1 => sp [v] H1 Q E) := by
  obtain ⟨f, fd, F, m, kp, _, b⟩ := c.ex
  have hkw : PK X [⟨some y, e, kpos⟩] _ := pk_cons he pk_nil
  refine ⟨fun pins s σ H Q I h => wpAny_Call_Name_kw (ld_glob I hg m (PySem.W.callWith_KW0 (h₀ := X.base) I.ok.mod.kin kp hall (thn (hkw.run pos pins s σ H (fun zs H2 => sp zs H2 Q E) I h) fun ws s2 ⟨zs, H2, I2, rz, q2⟩ => ⟨I2.kIn, ?_⟩) hpl) hdb)⟩
  rw [hks]
  exact run_fnk (us := []) (vs := []) F (hr.mono hk) b hx I2 .nil rz q2
end
end G

set_option maxRecDepth 100000
namespace F
open PySem L2 G PySem.Spec PyProof.Rows
/-! ### tuples that are told to be plain -/
section
variable {X : Cx} {es : List Expr} {t : TA} {pos : Pos}
def tTupF (t : TA) : TE := fun σ H Q => t σ H fun ys H1 => ys.length ≤ sizeLine ∧ ∀ p o, H1 p = none → o.dict = none → Q (.ref p) (upd H1 p (.frz o (.tup ys)))
theorem pe_tupF {k} (h : PA X es t) : PE X (.Tuple es k pos) (tTupF t) :=
  ⟨fun pins s σ H Q I ask => wpAny_Tuple_spliced (thn (h.run pos pins s σ H _ I ask) fun vals s1 got => by
    obtain ⟨ys, Hn, J, rel, short, next⟩ := got
    have free := J.hok.fresh (Nat.le_refl s1.heap.objs.size)
    refine ⟨by rw [← rel.length]; exact short, ?_⟩
    exact ⟨.ref s1.heap.objs.size, _, J.laid (o := .frz { cls := .type "tuple", data := .seq vals.toArray } (.tup ys)) (t' := s1.toks) (fun _ _ old => Heap.get?_push_of_some _ old) (Nat.le_refl _)
      ⟨Heap.get?_push_size _ rfl, short, vals, rel, _, Heap.get?_push_size _ rfl, rfl, _, rfl⟩, rfl, next _ _ free rfl⟩)⟩
def rTupF (K : PySem.W.Frag) : List V → Hp → VK → Prop := fun xs H Q => ∃ p ys, xs = [.ref p] ∧ ((SqL K H p ys ∧ ∀ l o, H l = none → o.dict = none → Q (.ref l) (upd H l (.frz o (.tup ys)))) ∨ (SqT K H p ys ∧ Q (.ref p) H))
theorem call_tupF : CallR X (.type "tuple") (rTupF X.K) := by
  intro pins s σ H xs us Q I rel ask
  obtain ⟨p, ys, rfl, ask⟩ := ask
  obtain ⟨u, rfl, one⟩ := vals1 rel
  cases one
  cases ask with
  | inr same =>
    obtain ⟨vals, _, at_, _⟩ := I.tuple same.1
    exact call_tuple_same at_ ⟨.ref p, H, I, rfl, same.2⟩
  | inl made =>
    obtain ⟨vals, rv, at_, short⟩ := I.list made.1
    have eqLen := rv.length
    refine call_tuple_list at_.isList (fun hp kept => ?_) (by simp only [List.size_toArray]; omega)
    have J : Inv X pins σ H { s with heap := hp } := I.kept (t' := s.toks) kept
    have free : H hp.objs.size = none := J.hok.fresh (Nat.le_refl _)
    exact ⟨.ref hp.objs.size, _, J.laid (o := .frz { cls := .type "tuple", data := .seq vals.toArray } (.tup ys)) (t' := s.toks) (fun _ _ old => Heap.get?_push_of_some _ old) (Nat.le_refl _)
      ⟨Heap.get?_push_size _ rfl, short, vals, rv, IsTup.new _ _⟩, rfl, made.2 _ _ free rfl⟩
def rCatF (K : PySem.W.Frag) : R2 := fun x y H Q => ∃ a b xs ys, x = .ref a ∧ y = .ref b ∧ SqT K H a xs ∧ SqT K H b ys ∧ xs.length + ys.length ≤ sizeLine ∧ (xs = [] → Q (.ref b) H) ∧ (xs ≠ [] → ys = [] → Q (.ref a) H) ∧
  (xs ≠ [] → ys ≠ [] → ∀ p o, H p = none → o.dict = none → Q (.ref p) (upd H p (.frz o (.tup (xs ++ ys)))))
theorem op_catF : OpR X (binaryOp .Add) (rCatF X.K) := by
  intro pins s σ H x y v u Q I rx ry ask
  obtain ⟨a, b, xs, ys, rfl, rfl, sa, sb, short, qa, qb, qn⟩ := ask
  cases rx
  cases ry
  obtain ⟨vals, rv, at_, _⟩ := I.tuple sa
  obtain ⟨vals2, rv2, at2, _⟩ := I.tuple sb
  by_cases e : xs = []
  · subst e
    cases rv
    exact cat_tup0 at_ at2 ⟨.ref b, H, I, rfl, qa rfl⟩
  · refine HT.cat_tup at_ at2 (fun z => e (rv.nil_iff.mp z)) (fun z => ⟨.ref a, H, I, rfl, qb e (rv2.nil_iff.mp z)⟩) (fun z => ?_) (by rw [← rv.length, ← rv2.length]; exact short)
    exact ⟨.ref s.heap.objs.size, _, I.laid (t' := s.toks) (o := .frz _ (.tup (xs ++ ys))) (fun _ _ old => Heap.get?_push_of_some _ old) (Nat.le_refl _)
      ⟨Heap.get?_push_size _ rfl, List.length_append ▸ short, _, rv.append rv2, IsTup.new _ _⟩, rfl, qn e (fun w => z (rv2.nil_iff.mpr w)) _ _ (I.hok.fresh (Nat.le_refl _)) rfl⟩
def rSlF (K : PySem.W.Frag) : V → Option Int → Option Int → Hp → VK → Prop := fun x lo hi H Q => ∃ a xs, x = .ref a ∧ SqT K H a xs ∧
  (HT.sIx xs.length 0 lo = 0 ∧ HT.sIx xs.length xs.length hi = xs.length → Q (.ref a) H) ∧ (¬ (HT.sIx xs.length 0 lo = 0 ∧ HT.sIx xs.length xs.length hi = xs.length) → ∀ p o, H p = none → o.dict = none → Q (.ref p) (upd H p (.frz o (.tup (cutV xs lo hi)))))
theorem sl_tupF : SlR X (rSlF X.K) := by
  intro pins s σ H x v vl vu lo hi sl Q I rx hs pl pu ask
  obtain ⟨a, xs, rfl, sa, whole, part⟩ := ask
  by_cases w : HT.sIx xs.length 0 lo = 0 ∧ HT.sIx xs.length xs.length hi = xs.length
  · exact sl_tupA pins s σ H _ v vl vu lo hi sl Q I rx hs pl pu ⟨a, xs, rfl, sa, whole, fun z => absurd w z⟩
  · cases rx
    obtain ⟨vals, rv, at_, short⟩ := I.tuple sa
    have n : vals.toArray.size = xs.length := by rw [List.size_toArray]; exact rv.length.symm
    refine ⟨"tuple", _, PyProof.Rows.slot_tuple_getitem.lookup, at_.typeIs, HT.getItem_tuple_cut at_ hs pl pu (by rw [n]; exact w) ?_ (by rw [n]; exact short)⟩
    rw [n]
    exact ⟨.ref s.heap.objs.size, _, I.laid (t' := s.toks) (o := .frz _ (.tup (cutV xs lo hi))) (fun _ _ old => Heap.get?_push_of_some _ old) (Nat.le_refl _)
      ⟨Heap.get?_push_size _ rfl, Nat.le_trans (cutV_length xs lo hi) short, _, (rv.drop (HT.sIx xs.length 0 lo)).take (HT.sIx xs.length xs.length hi - HT.sIx xs.length 0 lo), IsTup.new _ _⟩, rfl, part w _ _ (I.hok.fresh (Nat.le_refl _)) rfl⟩
end
end F

set_option maxRecDepth 100000
namespace D
open PySem L2 G PySem.Spec PyProof.Rows

/-! ### the calculus: data, objects of one's own, what may come -/
/-- the tables of code objects that lambdas are written into -/
class Tbs where
  T : List (Addr × Str)
  /-- whether all tuples of the data are known to be plain -/
  plain : Bool
class NP [Tbs] : Prop where
  h : Tbs.plain = false
variable [Tbs]
theorem NP.no [NP] {P : Prop} : Tbs.plain = true → P := fun z => by rw [NP.h] at z; cases z
omit [Tbs] in
def plainO : HO → Prop
  | .tbl _ => False
  | .ext _ => False
  | _ => True
omit [Tbs] in
/-- a tuple with a number ahead, or a plain one -/
def okP : HO → Prop
  | .tup vs => ∃ i p, vs = [V.int i, V.ref p]
  | .frz oo (.tup _) => oo.dict = none
  | _ => True
omit [Tbs] in
theorem pl_upd {P : Prop} {H0 : Hp} {p : Addr} {o : HO} (h : P → ∀ b o, H0 b = some o → okP o) (po : P → okP o) : P → ∀ b u, upd H0 p o b = some u → okP u := fun hp b u e => by
  by_cases hb : b = p
  · subst hb
    rw [upd_same] at e
    cases e
    exact po hp
  · rw [upd_ne hb] at e
    exact h hp b u e
omit [Tbs] in
theorem plainO.nt {o : HO} (h : plainO o) : ∀ ps, o ≠ .tbl ps := fun ps e => by subst e; exact h
omit [Tbs] in
theorem tabs_upd {T : List (Addr × Str)} {H : Hp} {p : Addr} {o o' : HO} (t : LamX.Tabs T H) (e : H p = some o) (po : plainO o) : LamX.Tabs T (upd H p o') := fun q hq => by
  obtain ⟨ps, h1, h2, h3⟩ := t q hq
  refine ⟨ps, ?_, h2, fun pos cv hc => ?_⟩
  · rw [upd_ne (fun z => by rw [z, e] at h1; cases h1; exact po)]
    exact h1
  · obtain ⟨c, e1, e2⟩ := h3 pos cv hc
    refine ⟨c, e1, ?_⟩
    rw [upd_ne (fun z => by rw [z, e] at e2; cases e2; exact po)]
    exact e2
omit [Tbs] in
theorem tabs_same {T : List (Addr × Str)} {H H' : Hp} (t : LamX.Tabs T H) (s : Same H H') : LamX.Tabs T H' := t.ext s
omit [Tbs] in
theorem nt_upd {H0 : Hp} {p : Addr} {o : HO} (h : ∀ b ps, H0 b ≠ some (.tbl ps)) (no : ∀ ps, o ≠ .tbl ps) : ∀ b ps, upd H0 p o b ≠ some (.tbl ps) := fun b ps e => by
  by_cases hb : b = p
  · subst hb
    rw [upd_same] at e
    exact no ps (Option.some.inj e)
  · rw [upd_ne hb] at e
    exact h b ps e
omit [Tbs] in
inductive Ob where
  | lst (xs : List PyData)
  | frz (xs : List PyData)
  | dct (kvs : List (Key × PyData))
  | fdc (kvs : List (Key × PyData))
omit [Tbs] in
def Ob.own : Ob → Bool
  | .frz _ => false
  | .fdc _ => false
  | _ => true
omit [Tbs] in
inductive Val where
  | d (x : PyData)
  | o (n : Nat)
omit [Tbs] in
abbrev Om := List Ob
omit [Tbs] in
abbrev Rho := List (Option Val)
omit [Tbs] in
structure Exn where
  cls : Str
  fs : List (Str × PyData)
omit [Tbs] in
inductive R (α : Type) where
  | bad
  | ok (a : α) (w : Om)
  | exn (x : Exn) (w : Om)
omit [Tbs] in
abbrev M (α : Type) := Om → R α
omit [Tbs] in
def R.then {α β : Type} : R α → (α → M β) → R β
  | .bad, _ => .bad
  | .ok a w, k => k a w
  | .exn x w, _ => .exn x w
omit [Tbs] in
def bnd {α β : Type} (m : M α) (k : α → M β) : M β := fun w => (m w).then k
omit [Tbs] in
def ret {α : Type} (a : α) : M α := fun w => .ok a w

omit [Tbs] in
structure Ctx where
  H0 : Hp
  al : List Addr
  ex : List (Addr × HO)
omit [Tbs] in
inductive KD (K : PySem.W.Frag) (H : Hp) : List (Key × V) → List (Key × PyData) → Prop
  | nil : KD K H [] []
  | cons {k : Key} {v : V} {d : PyData} {r : List (Key × V)} {s : List (Key × PyData)} : Dp K H v d → KD K H r s → KD K H ((k, v) :: r) ((k, d) :: s)
omit [Tbs] in
def ObR (K : PySem.W.Frag) (H : Hp) (c : Ctx) (a : Addr) : Ob → Prop
  | .lst xs => c.H0 a = none ∧ ∃ vs, H a = some (.lst vs) ∧ DpAll K c.H0 vs xs
  | .frz xs => ∃ vs, c.H0 a = some (.lst vs) ∧ DpAll K c.H0 vs xs
  | .dct kvs => c.H0 a = none ∧ ∃ ws, H a = some (.dK ws) ∧ KD K c.H0 ws kvs
  | .fdc kvs => ∃ oo ws, c.H0 a = some (.frz oo (.dK ws)) ∧ KD K c.H0 ws kvs
structure Hold (K : PySem.W.Frag) (H : Hp) (c : Ctx) (w : Om) : Prop where
  sub : Same c.H0 H
  nd : c.al.Nodup
  len : c.al.length = w.length
  obs : ∀ (n : Nat) (a : Addr) (o : Ob), c.al[n]? = some a → w[n]? = some o → ObR K H c a o
  pin : ∀ p ∈ c.ex, H p.1 = some p.2 ∧ c.H0 p.1 = none ∧ p.1 ∉ c.al
  pnd : (c.ex.map (·.1)).Nodup
  tab : LamX.Tabs Tbs.T H
  nt : (∀ b ps, c.H0 b ≠ some (.tbl ps)) ∧ ∀ p ∈ c.ex, plainO p.2
  pl : Tbs.plain = true → ∀ b o, c.H0 b = some o → okP o
omit [Tbs] in
structure Grow (c c' : Ctx) : Prop where
  h : Same c.H0 c'.H0
  a : ∃ r, c'.al = c.al ++ r
  e : c'.ex = c.ex
omit [Tbs] in
theorem Grow.refl (c : Ctx) : Grow c c := ⟨.refl _, ⟨[], by simp⟩, rfl⟩
omit [Tbs] in
theorem Grow.trans {a b c : Ctx} (x : Grow a b) (y : Grow b c) : Grow a c := by
  obtain ⟨r, e1⟩ := x.a
  obtain ⟨r', e2⟩ := y.a
  exact ⟨x.h.trans y.h, ⟨r ++ r', by rw [e2, e1, List.append_assoc]⟩, y.e.trans x.e⟩
omit [Tbs] in
def VR (K : PySem.W.Frag) (c : Ctx) (v : V) : Val → Prop
  | .d x => Dp K c.H0 v x
  | .o n => ∃ a, v = .ref a ∧ c.al[n]? = some a
omit [Tbs] in
theorem VR.mono {K : PySem.W.Frag} {c c' : Ctx} {v : V} {x : Val} (g : Grow c c') (h : VR K c v x) : VR K c' v x := by
  cases x with
  | d x => exact (Held.of g.h).dp _ _ h
  | o n =>
    obtain ⟨a, rfl, e⟩ := h
    obtain ⟨r, e2⟩ := g.a
    refine ⟨a, rfl, ?_⟩
    rw [e2, List.getElem?_append_left (List.getElem?_eq_some_iff.mp e).1]
    exact e
omit [Tbs] in
inductive VRs (K : PySem.W.Frag) (c : Ctx) : List V → List Val → Prop
  | nil : VRs K c [] []
  | cons {v : V} {x : Val} {vs : List V} {xs : List Val} : VR K c v x → VRs K c vs xs → VRs K c (v :: vs) (x :: xs)
omit [Tbs] in
theorem VRs.mono {K : PySem.W.Frag} {c c' : Ctx} (g : Grow c c') : ∀ {vs : List V} {xs : List Val}, VRs K c vs xs → VRs K c' vs xs
  | _, _, .nil => .nil
  | _, _, .cons h t => .cons (h.mono g) (VRs.mono g t)
omit [Tbs] in
theorem VRs.length {K : PySem.W.Frag} {c : Ctx} : ∀ {vs : List V} {xs : List Val}, VRs K c vs xs → vs.length = xs.length
  | _, _, .nil => rfl
  | _, _, .cons _ t => congrArg (· + 1) (VRs.length t)
omit [Tbs] in
structure ER (K : PySem.W.Frag) (c : Ctx) (σ : L2.St) (ρ : Rho) : Prop where
  len : σ.length = ρ.length
  at_ : ∀ (i : Nat) (x : Val), ρ[i]? = some (some x) → ∃ v, σ[i]? = some (some v) ∧ VR K c v x
omit [Tbs] in
theorem ER.mono {K : PySem.W.Frag} {c c' : Ctx} {σ : L2.St} {ρ : Rho} (g : Grow c c') (h : ER K c σ ρ) : ER K c' σ ρ :=
  ⟨h.len, fun i x e => let ⟨v, e1, r⟩ := h.at_ i x e; ⟨v, e1, r.mono g⟩⟩
omit [Tbs] in
theorem ER.set {K : PySem.W.Frag} {c : Ctx} {σ : L2.St} {ρ : Rho} {v : V} {x : Val} (h : ER K c σ ρ) (i : Nat) (r : VR K c v x) : ER K c (σ.set i (some v)) (ρ.set i (some x)) := by
  refine ⟨by simp [h.len], fun j y e => ?_⟩
  by_cases hj : i = j
  · subst hj
    have hl : i < ρ.length := by
      have z := (List.getElem?_eq_some_iff.mp e).1
      simpa using z
    rw [List.getElem?_set_self hl] at e
    cases e
    exact ⟨v, List.getElem?_set_self (by rw [h.len]; exact hl), r⟩
  · rw [List.getElem?_set_ne hj] at e
    obtain ⟨u, e1, q⟩ := h.at_ j y e
    exact ⟨u, by rw [List.getElem?_set_ne hj]; exact e1, q⟩
omit [Tbs] in
def wipeR (ρ : Rho) : List Nat → Rho
  | [] => ρ
  | v :: vs => (wipeR ρ vs).set v none
omit [Tbs] in
theorem wipeR_length (ρ : Rho) : ∀ vs : List Nat, (wipeR ρ vs).length = ρ.length
  | [] => rfl
  | v :: vs => by simp [wipeR, wipeR_length ρ vs]
omit [Tbs] in
theorem ER.wipe {K : PySem.W.Frag} {c : Ctx} {σ : L2.St} {ρ : Rho} (h : ER K c σ ρ) : ∀ vs : List Nat, ER K c (L2.wipe σ vs) (wipeR ρ vs)
  | [] => h
  | v :: vs => by
    have ih := ER.wipe h vs
    refine ⟨by simp [L2.wipe, wipeR, ih.len], fun j y e => ?_⟩
    by_cases hj : v = j
    · subst hj
      have hl : v < (wipeR ρ vs).length := by
        have z := (List.getElem?_eq_some_iff.mp e).1
        simpa [wipeR] using z
      rw [wipeR, List.getElem?_set_self hl] at e
      cases e
    · rw [wipeR, List.getElem?_set_ne hj] at e
      obtain ⟨u, e1, q⟩ := ih.at_ j y e
      exact ⟨u, by rw [L2.wipe, List.getElem?_set_ne hj]; exact e1, q⟩

/-! ### data that is read now -/
omit [Tbs] in
def Dq (K : PySem.W.Frag) (H H0 : Hp) (v : V) (a : PyData) : Prop :=
  Dp K H0 v a ∨ ∃ p vs xs, v = .ref p ∧ a = .list xs ∧ H p = some (.lst vs) ∧ DpAll K H0 vs xs
section
variable {K : PySem.W.Frag} {H H0 : Hp} {v : V} {xs : List PyData} {a : PyData}
omit [Tbs] in
theorem Dq.dp (s : Same H0 H) (h : Dq K H H0 v a) : Dp K H v a := by
  rcases h with h | ⟨p, vs, xs, rfl, rfl, e, al⟩
  · exact (Held.of s).dp _ _ h
  · exact .lst (.inl (.inl e)) ((Held.of s).dpAll _ _ al)
omit [Tbs] in
theorem Dq.list (s : Same H0 H) (h : Dq K H H0 v (.list xs)) : ∃ p vs, v = .ref p ∧ SqL K H p vs ∧ DpAll K H0 vs xs := by
  rcases h with h | ⟨p, vs, xs', rfl, e0, e, al⟩
  · cases h with
    | lst q al => exact ⟨_, _, rfl, (Held.of s).sql q, al⟩
  · cases e0
    exact ⟨p, vs, rfl, .inl (.inl e), al⟩
omit [Tbs] in
theorem Dq.tuple (s : Same H0 H) (h : Dq K H H0 v (.tuple xs)) : ∃ p vs, v = .ref p ∧ SqT K H p vs ∧ DpAll K H0 vs xs := by
  rcases h with h | ⟨p, vs, xs', rfl, e0, e, al⟩
  · cases h with
    | tup q al => exact ⟨_, _, rfl, (Held.of s).sqt q, al⟩
  · cases e0
omit [Tbs] in
theorem Dq.int {i : Int} (h : Dq K H H0 v (.int i)) : v = .int i := by
  rcases h with h | ⟨p, vs, xs', rfl, e0, e, al⟩
  · cases h; rfl
  · cases e0
omit [Tbs] in
theorem Dq.bool {i : Bool} (h : Dq K H H0 v (.bool i)) : v = .bl i := by
  rcases h with h | ⟨p, vs, xs', rfl, e0, e, al⟩
  · cases h; rfl
  · cases e0
omit [Tbs] in
theorem Dq.str {i : Str} (h : Dq K H H0 v (.str i)) : v = .str i := by
  rcases h with h | ⟨p, vs, xs', rfl, e0, e, al⟩
  · cases h; rfl
  · cases e0
omit [Tbs] in
theorem Dq.non (h : Dq K H H0 v .none) : v = .non := by
  rcases h with h | ⟨p, vs, xs', rfl, e0, e, al⟩
  · cases h; rfl
  · cases e0
end
omit [Tbs] in
/-- a plain new tuple -/
theorem Dp.newF {K : PySem.W.Frag} {H0 : Hp} {p : Addr} {o : Obj} {vs : List V} {ds : List PyData} (al : DpAll K H0 vs ds) (n : H0 p = none) : Dp K (upd H0 p (.frz o (.tup vs))) (.ref p) (.tuple ds) :=
  .tup (.inl (.inr ⟨o, upd_same⟩)) ((Held.of (Same.upd n)).dpAll _ _ al)
omit [Tbs] in
def look (w : Om) : Val → Option PyData
  | .d x => some x
  | .o n => match w[n]? with
    | some (.lst xs) => some (.list xs)
    | some (.frz xs) => some (.list xs)
    | _ => none
section
variable {K : PySem.W.Frag} {H : Hp} {c : Ctx} {w : Om} {v : V} {x : Val} {a : PyData}
theorem Hold.dq (hd : Hold K H c w) (r : VR K c v x) (e : look w x = some a) : Dq K H c.H0 v a := by
  cases x with
  | d x => cases e; exact .inl r
  | o n =>
    obtain ⟨p, rfl, ep⟩ := r
    unfold look at e
    cases q : w[n]? with
    | none => simp [q] at e
    | some o =>
      cases o with
      | lst xs =>
        simp [q] at e
        subst e
        obtain ⟨_, vs, h1, h2⟩ := hd.obs n p _ ep q
        exact .inr ⟨p, vs, xs, rfl, rfl, h1, h2⟩
      | frz xs =>
        simp [q] at e
        subst e
        obtain ⟨vs, h1, h2⟩ := hd.obs n p _ ep q
        exact .inl (.lst (.inl (.inl h1)) h2)
      | dct kvs => simp [q] at e
      | fdc kvs => simp [q] at e
omit [Tbs] in
theorem KD.mono {K : PySem.W.Frag} {H H' : Hp} (s : Same H H') : ∀ {r : List (Key × V)} {q : List (Key × PyData)}, KD K H r q → KD K H' r q
  | _, _, .nil => .nil
  | _, _, .cons h t => .cons ((Held.of s).dp _ _ h) (KD.mono s t)
/-- a new object that never changes -/
theorem Hold.new {p : Addr} {o : HO} (hd : Hold K H c w) (np : H p = none) (po : Tbs.plain = true → okP o := by exact fun _ => trivial) (no : ∀ ps, o ≠ .tbl ps := by intro _ z; cases z) : Hold K (upd H p o) { c with H0 := upd c.H0 p o } w := by
  have n0 : c.H0 p = none := by
    cases q : c.H0 p with
    | none => rfl
    | some u => rw [hd.sub p u q] at np; cases np
  have sm : Same c.H0 (upd c.H0 p o) := Same.upd n0
  refine ⟨fun b u e => ?_, hd.nd, hd.len, fun n a ob ea eo => ?_, fun q hq => ?_, hd.pnd, tabs_same hd.tab (Same.upd np), ⟨nt_upd hd.nt.1 no, hd.nt.2⟩, pl_upd hd.pl po⟩
  · by_cases hb : b = p
    · subst hb
      have z : upd c.H0 b o b = some u := e
      rw [upd_same] at z
      cases z
      exact upd_same
    · rw [upd_ne hb]; exact hd.sub b u (by rw [← e]; exact (upd_ne hb).symm)
  · have z := hd.obs n a ob ea eo
    cases ob with
    | lst xs =>
      obtain ⟨h1, vs, h2, h3⟩ := z
      have ne : a ≠ p := ne_of_none h2 np
      exact ⟨by show upd c.H0 p o a = none; rw [upd_ne ne]; exact h1, vs, by rw [upd_ne ne]; exact h2, (Held.of sm).dpAll _ _ h3⟩
    | frz xs =>
      obtain ⟨vs, h2, h3⟩ := z
      exact ⟨vs, sm _ _ h2, (Held.of sm).dpAll _ _ h3⟩
    | dct kvs =>
      obtain ⟨h1, vs, h2, h3⟩ := z
      have ne : a ≠ p := ne_of_none h2 np
      exact ⟨by show upd c.H0 p o a = none; rw [upd_ne ne]; exact h1, vs, by rw [upd_ne ne]; exact h2, h3.mono sm⟩
    | fdc kvs =>
      obtain ⟨oo, vs, h2, h3⟩ := z
      exact ⟨oo, vs, sm _ _ h2, h3.mono sm⟩
  · obtain ⟨h1, h2, h3⟩ := hd.pin q hq
    have ne : q.1 ≠ p := ne_of_none h1 np
    exact ⟨by rw [upd_ne ne]; exact h1, by show upd c.H0 p o q.1 = none; rw [upd_ne ne]; exact h2, h3⟩
theorem Hold.free (hd : Hold K H c w) {p : Addr} (np : H p = none) : c.H0 p = none := by
  cases q : c.H0 p with
  | none => rfl
  | some u => rw [hd.sub p u q] at np; cases np
theorem Hold.grow {p : Addr} {o : HO} (hd : Hold K H c w) (np : H p = none) : Grow c { c with H0 := upd c.H0 p o } :=
  ⟨Same.upd (hd.free np), ⟨[], by simp⟩, rfl⟩
theorem Hold.notin (hd : Hold K H c w) {p : Addr} (np : H p = none) : p ∉ c.al := by
  intro hm
  obtain ⟨n, hn, e⟩ := List.getElem_of_mem hm
  have e1 : c.al[n]? = some p := by rw [List.getElem?_eq_getElem hn, e]
  have hw : n < w.length := by rw [← hd.len]; exact hn
  have z := hd.obs n p _ e1 (List.getElem?_eq_getElem hw)
  cases q : w[n] with
  | lst xs => rw [q] at z; obtain ⟨_, vs, h2, _⟩ := z; rw [h2] at np; cases np
  | frz xs => rw [q] at z; obtain ⟨vs, h2, _⟩ := z; rw [hd.sub _ _ h2] at np; cases np
  | dct kvs => rw [q] at z; obtain ⟨_, vs, h2, _⟩ := z; rw [h2] at np; cases np
  | fdc kvs => rw [q] at z; obtain ⟨_, vs, h2, _⟩ := z; rw [hd.sub _ _ h2] at np; cases np
omit [Tbs] in
theorem ObR.al {a : Addr} {ob : Ob} {l : List Addr} {ex : List (Addr × HO)} (h : ObR K H c a ob) : ObR K H ⟨c.H0, l, ex⟩ a ob := by
  cases ob <;> exact h
/-- a new object of one's own -/
theorem Hold.newO {p : Addr} {o : HO} {ob : Ob} (hd : Hold K H c w) (np : H p = none) (h : ObR K (upd H p o) c p ob) :
    Hold K (upd H p o) { c with al := c.al ++ [p] } (w ++ [ob]) := by
  have nal := hd.notin np
  refine ⟨hd.sub.trans (Same.upd np), ?_, ?_, fun n a ob2 ea eo => ?_, fun q hq => ?_, hd.pnd, tabs_same hd.tab (Same.upd np), hd.nt, hd.pl⟩
  · rw [List.nodup_append]
    refine ⟨hd.nd, by simp, ?_⟩
    intro x hx y hy e
    simp at hy
    subst hy
    subst e
    exact nal hx
  · simp [hd.len]
  · by_cases hn : n < c.al.length
    · rw [show ({ c with al := c.al ++ [p] } : Ctx).al = c.al ++ [p] from rfl, List.getElem?_append_left hn] at ea
      rw [List.getElem?_append_left (by rw [← hd.len]; exact hn)] at eo
      have z := hd.obs n a ob2 ea eo
      have ne : a ≠ p := fun e => nal (by rw [← e]; exact List.mem_of_getElem? ea)
      cases ob2 with
      | lst xs =>
        obtain ⟨h1, vs, h2, h3⟩ := z
        exact ⟨h1, vs, by rw [upd_ne ne]; exact h2, h3⟩
      | frz xs => exact z
      | fdc kvs => exact z
      | dct kvs =>
        obtain ⟨h1, vs, h2, h3⟩ := z
        exact ⟨h1, vs, by rw [upd_ne ne]; exact h2, h3⟩
    · have e1 : n = c.al.length := by
        have z := (List.getElem?_eq_some_iff.mp ea).1
        simp at z
        omega
      subst e1
      rw [show ({ c with al := c.al ++ [p] } : Ctx).al = c.al ++ [p] from rfl] at ea
      have ea2 : p = a := by simpa using ea
      have eo2 : ob = ob2 := by
        rw [hd.len] at eo
        simpa using eo
      subst ea2
      subst eo2
      exact h.al
  · obtain ⟨h1, h2, h3⟩ := hd.pin q hq
    have ne : q.1 ≠ p := ne_of_none h1 np
    refine ⟨by rw [upd_ne ne]; exact h1, h2, ?_⟩
    intro hm
    rcases List.mem_append.mp hm with hm | hm
    · exact h3 hm
    · simp at hm; exact ne hm
theorem Hold.growO {p : Addr} : Grow c { c with al := c.al ++ [p] } := ⟨.refl _, ⟨[p], rfl⟩, rfl⟩
/-- an object of one's own is changed -/
theorem Hold.put {n : Nat} {p : Addr} {o : HO} {ob : Ob} (hd : Hold K H c w) (ep : c.al[n]? = some p) (n0 : c.H0 p = none) (h : ObR K (upd H p o) c p ob) :
    Hold K (upd H p o) c (w.set n ob) := by
  have sm : Same c.H0 (upd H p o) := fun b u e => by
    have ne : b ≠ p := fun z => by rw [z, n0] at e; cases e
    rw [upd_ne ne]; exact hd.sub b u e
  refine ⟨sm, hd.nd, by simp [hd.len], fun m a ob2 ea eo => ?_, fun q hq => ?_, hd.pnd, ?_, hd.nt, hd.pl⟩
  · by_cases hm : n = m
    · subst hm
      rw [ep] at ea
      cases ea
      have hl : n < w.length := by rw [← hd.len]; exact (List.getElem?_eq_some_iff.mp ep).1
      rw [List.getElem?_set_self hl] at eo
      cases eo
      exact h
    · rw [List.getElem?_set_ne hm] at eo
      have z := hd.obs m a ob2 ea eo
      have ne : a ≠ p := fun e => hm (by
        subst e
        exact (List.getElem?_inj (List.getElem?_eq_some_iff.mp ep).1 hd.nd).mp (ep.trans ea.symm))
      cases ob2 with
      | lst xs =>
        obtain ⟨h1, vs, h2, h3⟩ := z
        exact ⟨h1, vs, by rw [upd_ne ne]; exact h2, h3⟩
      | frz xs => exact z
      | fdc kvs => exact z
      | dct kvs =>
        obtain ⟨h1, vs, h2, h3⟩ := z
        exact ⟨h1, vs, by rw [upd_ne ne]; exact h2, h3⟩
  · obtain ⟨h1, h2, h3⟩ := hd.pin q hq
    have ne : q.1 ≠ p := fun e => h3 (by rw [e]; exact List.mem_of_getElem? ep)
    exact ⟨by rw [upd_ne ne]; exact h1, h2, h3⟩
  · have hl : n < w.length := by rw [← hd.len]; exact (List.getElem?_eq_some_iff.mp ep).1
    have z := hd.obs n p _ ep (List.getElem?_eq_getElem hl)
    cases q : w[n] with
    | lst xs => rw [q] at z; obtain ⟨_, vs, h2, _⟩ := z; exact tabs_upd hd.tab h2 trivial
    | frz xs => rw [q] at z; obtain ⟨vs, h2, _⟩ := z; rw [n0] at h2; cases h2
    | dct kvs => rw [q] at z; obtain ⟨_, vs, h2, _⟩ := z; exact tabs_upd hd.tab h2 trivial
    | fdc kvs => rw [q] at z; obtain ⟨_, vs, h2, _⟩ := z; rw [n0] at h2; cases h2
/-- a list of one's own becomes data -/
theorem Hold.freeze {n : Nat} {p : Addr} {xs : List PyData} (hd : Hold K H c w) (ep : c.al[n]? = some p) (e : w[n]? = some (.lst xs)) :
    ∃ c', Grow c c' ∧ Hold K H c' (w.set n (.frz xs)) ∧ Dp K c'.H0 (.ref p) (.list xs) := by
  obtain ⟨h1, vs, h2, h3⟩ := hd.obs n p _ ep e
  have sm : Same c.H0 (upd c.H0 p (.lst vs)) := Same.upd h1
  have al3 := (Held.of sm).dpAll _ _ h3
  refine ⟨{ c with H0 := upd c.H0 p (.lst vs) }, ⟨sm, ⟨[], by simp⟩, rfl⟩, ⟨fun b u eb => ?_, hd.nd, by simp [hd.len], fun m a ob2 ea eo => ?_, fun q hq => ?_, hd.pnd, hd.tab, ⟨nt_upd hd.nt.1 (fun _ z => by cases z), hd.nt.2⟩, pl_upd hd.pl (fun _ => trivial)⟩, .lst (.inl (.inl upd_same)) al3⟩
  · by_cases hb : b = p
    · subst hb
      rw [show ({ c with H0 := upd c.H0 b (.lst vs) } : Ctx).H0 b = some (.lst vs) from upd_same] at eb
      cases eb
      exact h2
    · exact hd.sub b u (by rw [← eb]; exact (upd_ne hb).symm)
  · by_cases hm : n = m
    · subst hm
      rw [show ({ c with H0 := upd c.H0 p (.lst vs) } : Ctx).al = c.al from rfl, ep] at ea
      cases ea
      have hl : n < w.length := by rw [← hd.len]; exact (List.getElem?_eq_some_iff.mp ep).1
      rw [List.getElem?_set_self hl] at eo
      cases eo
      exact ⟨vs, upd_same, al3⟩
    · rw [List.getElem?_set_ne hm] at eo
      have z := hd.obs m a ob2 ea eo
      have ne : a ≠ p := fun e => hm (by
        subst e
        exact (List.getElem?_inj (List.getElem?_eq_some_iff.mp ep).1 hd.nd).mp (ep.trans ea.symm))
      cases ob2 with
      | lst ys =>
        obtain ⟨k1, ws, k2, k3⟩ := z
        exact ⟨by show upd c.H0 p (.lst vs) a = none; rw [upd_ne ne]; exact k1, ws, k2, (Held.of sm).dpAll _ _ k3⟩
      | frz ys =>
        obtain ⟨ws, k2, k3⟩ := z
        exact ⟨ws, sm _ _ k2, (Held.of sm).dpAll _ _ k3⟩
      | dct kvs =>
        obtain ⟨k1, ws, k2, k3⟩ := z
        exact ⟨by show upd c.H0 p (.lst vs) a = none; rw [upd_ne ne]; exact k1, ws, k2, k3.mono sm⟩
      | fdc kvs =>
        obtain ⟨oo, ws, k2, k3⟩ := z
        exact ⟨oo, ws, sm _ _ k2, k3.mono sm⟩
  · obtain ⟨k1, k2, k3⟩ := hd.pin q hq
    have ne : q.1 ≠ p := fun e => k3 (by rw [e]; exact List.mem_of_getElem? ep)
    exact ⟨k1, by show upd c.H0 p (.lst vs) q.1 = none; rw [upd_ne ne]; exact k2, k3⟩
end
omit [Tbs] in
/-- a value as data: a list of one's own is frozen -/
def frz : Val → M PyData
  | .d x => fun w => .ok x w
  | .o n => fun w => match w[n]? with
    | some (.lst xs) => .ok (.list xs) (w.set n (.frz xs))
    | some (.frz xs) => .ok (.list xs) w
    | _ => .bad
omit [Tbs] in
def frzs : List Val → M (List PyData)
  | [] => ret []
  | x :: xs => bnd (frz x) fun d => bnd (frzs xs) fun ds => ret (d :: ds)
theorem frz_ok {K : PySem.W.Frag} {H : Hp} {c : Ctx} {w w' : Om} {v : V} {x : Val} {a : PyData} (hd : Hold K H c w) (r : VR K c v x) (e : frz x w = .ok a w') :
    ∃ c', Grow c c' ∧ Hold K H c' w' ∧ Dp K c'.H0 v a := by
  cases x with
  | d x => cases e; exact ⟨c, .refl _, hd, r⟩
  | o n =>
    obtain ⟨p, rfl, ep⟩ := r
    unfold frz at e
    cases q : w[n]? with
    | none => simp [q] at e
    | some o =>
      cases o with
      | lst xs =>
        simp [q] at e
        obtain ⟨rfl, rfl⟩ := e
        exact hd.freeze ep q
      | frz xs =>
        simp [q] at e
        obtain ⟨rfl, rfl⟩ := e
        obtain ⟨vs, h1, h2⟩ := hd.obs n p _ ep q
        exact ⟨c, .refl _, hd, .lst (.inl (.inl h1)) h2⟩
      | dct kvs => simp [q] at e
      | fdc kvs => simp [q] at e
omit [Tbs] in
theorem frz_noexn {w w' : Om} {x : Val} {y : Exn} : frz x w ≠ .exn y w' := by
  cases x with
  | d x => intro e; cases e
  | o n =>
    unfold frz
    cases q : w[n]? with
    | none => intro e; simp [q] at e
    | some o => cases o <;> intro e <;> simp [q] at e
theorem frzs_ok {K : PySem.W.Frag} {H : Hp} : ∀ {xs : List Val} {c : Ctx} {w w' : Om} {vs : List V} {as : List PyData}, Hold K H c w → VRs K c vs xs → frzs xs w = .ok as w' →
    ∃ c', Grow c c' ∧ Hold K H c' w' ∧ DpAll K c'.H0 vs as
  | [], c, w, w', vs, as, hd, r, e => by
    cases r
    cases e
    exact ⟨c, .refl _, hd, .nil⟩
  | x :: xs, c, w, w', vs, as, hd, r, e => by
    cases r with
    | cons r1 r2 =>
      simp only [frzs, bnd] at e
      cases q : frz x w with
      | bad => rw [q] at e; cases e
      | exn y w1 => rw [q] at e; cases e
      | ok a w1 =>
        rw [q] at e
        simp only [R.then, bnd] at e
        cases q2 : frzs xs w1 with
        | bad => rw [q2] at e; cases e
        | exn y w2 => rw [q2] at e; cases e
        | ok bs w2 =>
          rw [q2] at e
          simp only [R.then, bnd, ret] at e
          cases e
          obtain ⟨c1, g1, h1, d1⟩ := frz_ok hd r1 q
          obtain ⟨c2, g2, h2, d2⟩ := frzs_ok h1 (r2.mono g1) q2
          exact ⟨c2, g1.trans g2, h2, .cons ((Held.of g2.h).dp _ _ d1) d2⟩
omit [Tbs] in
theorem frzs_noexn {xs : List Val} : ∀ {w w' : Om} {y : Exn}, frzs xs w ≠ .exn y w' := by
  induction xs with
  | nil => intro w w' y e; cases e
  | cons x xs ih =>
    intro w w' y e
    simp only [frzs, bnd] at e
    cases q : frz x w with
    | bad => rw [q] at e; cases e
    | exn y w1 => exact frz_noexn q
    | ok a w1 =>
      rw [q] at e
      simp only [R.then, bnd] at e
      cases q2 : frzs xs w1 with
      | bad => rw [q2] at e; cases e
      | exn y w2 => exact ih q2
      | ok bs w2 => rw [q2] at e; cases e
end D

set_option maxRecDepth 100000
namespace D
open PySem L2 G PySem.Spec PyProof.Rows
variable [Tbs]

omit [Tbs] in
theorem lineOk {n : Nat} (h : n ≤ 100000) : n ≤ sizeLine := by rw [sizeLine_eq]; omega
omit [Tbs] in
theorem lineOk2 {n : Nat} (h : n < 100000) : n < sizeLine := by rw [sizeLine_eq]; omega
omit [Tbs] in
/-- an error and its fields -/
def ExR (K : PySem.W.Frag) (mg : Str → Option Value) (c : Ctx) (x : Exn) (cls : Value) (d : Option Addr) (H : Hp) : Prop :=
  ∃ C dd ws, cls = .ref C ∧ mg x.cls = some (.ref C) ∧ d = some dd ∧ H dd = some (.xd ws) ∧ Paired (fun (p : Str × V) (q : Str × PyData) => p.1 = q.1 ∧ Dp K c.H0 p.2 q.2) ws x.fs
/-- what is left to be shown, from what the calculus tells -/
def Post (K : PySem.W.Frag) (mg : Str → Option Value) (E : XK) (c : Ctx) {α β : Type} (rel : Ctx → β → α → Prop) (r : R α) (Q : β → Hp → Prop) : Prop :=
  match r with
  | .bad => False
  | .ok x w => ∀ v H' c', Grow c c' → Hold K H' c' w → rel c' v x → Q v H'
  | .exn x w => ∀ cls d H' c', Grow c c' → Hold K H' c' w → ExR K mg c' x cls d H' → E cls d H'
section
variable {K : PySem.W.Frag} {mg : Str → Option Value} {E : XK} {c c' : Ctx} {α β γ δ : Type} {rel : Ctx → β → α → Prop} {rel2 : Ctx → δ → γ → Prop}
theorem Post.mono {r : R α} {Q : β → Hp → Prop} (g : Grow c c') (h : Post K mg E c rel r Q) : Post K mg E c' rel r Q := by
  cases r with
  | bad => exact h
  | ok x w => exact fun v H' c2 g2 hd r => h v H' c2 (g.trans g2) hd r
  | exn x w => exact fun cls d H' c2 g2 hd r => h cls d H' c2 (g.trans g2) hd r
theorem Post.bind {r : R α} {k : α → M γ} {Q : β → Hp → Prop} {Q2 : δ → Hp → Prop} (h : Post K mg E c rel2 (r.then k) Q2)
    (q : ∀ v H' c' x w', Grow c c' → Hold K H' c' w' → rel c' v x → Post K mg E c' rel2 (k x w') Q2 → Q v H') : Post K mg E c rel r Q := by
  cases r with
  | bad => exact h
  | ok x w => exact fun v H' c2 g2 hd r => q v H' c2 x w g2 hd r (Post.mono g2 h)
  | exn x w => exact h
end

structure DE (X : Cx) (E : XK) (e : Expr) (t : TE) (m : Rho → M Val) : Prop where
  pe : PE X e t
  rd : ∀ (σ : L2.St) (ρ : Rho) (H : Hp) (c : Ctx) (w : Om) (Q : VK), ER X.K c σ ρ → Hold X.K H c w → Post X.K X.mg E c (VR X.K) (m ρ w) Q → t σ H Q
structure DA (X : Cx) (E : XK) (es : List Expr) (t : TA) (m : Rho → M (List Val)) : Prop where
  pa : PA X es t
  rd : ∀ (σ : L2.St) (ρ : Rho) (H : Hp) (c : Ctx) (w : Om) (Q : List V → Hp → Prop), ER X.K c σ ρ → Hold X.K H c w → Post X.K X.mg E c (VRs X.K) (m ρ w) Q → t σ H Q
omit [Tbs] in
def BB : Ctx → Bool → Bool → Prop := fun _ a b => a = b
structure DT (X : Cx) (E : XK) (e : Expr) (t : TT) (m : Rho → M Bool) : Prop where
  pt : PT X e t
  rd : ∀ (σ : L2.St) (ρ : Rho) (H : Hp) (c : Ctx) (w : Om) (Q : Bool → Hp → Prop), ER X.K c σ ρ → Hold X.K H c w → Post X.K X.mg E c BB (m ρ w) Q → t σ H Q
structure DW (X : Cx) (E : XK) (e : Expr) (t : TT) (m : Rho → M Bool) : Prop where
  pw : PW X e t
  rd : ∀ (σ : L2.St) (ρ : Rho) (H : Hp) (c : Ctx) (w : Om) (Q : Bool → Hp → Prop), ER X.K c σ ρ → Hold X.K H c w → Post X.K X.mg E c BB (m ρ w) Q → t σ H Q
section
variable {X : Cx} {E : XK} {e a b : Expr} {es : List Expr} {te ta tb tc : TE} {t : TA} {tt tA tB : TT} {m m1 m2 m3 : Rho → M Val} {ms : Rho → M (List Val)} {mb mb1 mb2 : Rho → M Bool} {pos : Pos}

/-! ### names, constants -/
omit [Tbs] in
def mVar (i : Nat) : Rho → M Val := fun ρ w => match ρ[i]? with
  | some (some v) => .ok v w
  | _ => .bad
theorem de_var {i : Nat} (h : PE X e (tVar i)) : DE X E e (tVar i) (mVar i) := ⟨h, fun σ ρ H c w Q er hd p => by
  unfold mVar at p
  match q : ρ[i]? with
  | none => simp only [q] at p; exact p.elim
  | some none => simp only [q] at p; exact p.elim
  | some (some x) =>
    simp only [q] at p
    obtain ⟨v, e1, r⟩ := er.at_ i x q
    exact ⟨v, e1, p v H c (.refl _) hd r⟩⟩
omit [Tbs] in
def mC (d : PyData) : Rho → M Val := fun _ w => .ok (.d d) w
theorem de_c {v : V} {d : PyData} (h : PE X e (tC v)) (hv : ∀ (K : PySem.W.Frag) (H : Hp), Dp K H v d) : DE X E e (tC v) (mC d) :=
  ⟨h, fun σ ρ H c w Q er hd p => p v H c (.refl _) hd (hv _ _)⟩
theorem de_int {i : Int} {j pos} : DE X E (.Constant (.int i) j pos) (tC (.int i)) (mC (.int i)) := de_c pe_int fun _ _ => .int i
theorem de_str {i : Str} {j pos} : DE X E (.Constant (.str i) j pos) (tC (.str i)) (mC (.str i)) := de_c pe_str fun _ _ => .str i
theorem de_bl {i : Bool} {j pos} : DE X E (.Constant (.bool i) j pos) (tC (.bl i)) (mC (.bool i)) := de_c pe_bl fun _ _ => .bl i
theorem de_non {j pos} : DE X E (.Constant .none j pos) (tC .non) (mC .none) := de_c pe_non fun _ _ => .non
theorem de_weak {u : TE} (h : DE X E e te m) (i : ∀ σ H Q, u σ H Q → te σ H Q) (j : ∀ (σ : L2.St) (ρ : Rho) (H : Hp) (c : Ctx) (w : Om) (Q : VK), ER X.K c σ ρ → Hold X.K H c w → Post X.K X.mg E c (VR X.K) (m ρ w) Q → u σ H Q) : DE X E e u m :=
  ⟨pe_weak h.pe i, j⟩

/-! ### argument lists -/
omit [Tbs] in
def mNil : Rho → M (List Val) := fun _ w => .ok [] w
omit [Tbs] in
def mCons (m : Rho → M Val) (ms : Rho → M (List Val)) : Rho → M (List Val) := fun ρ => bnd (m ρ) fun x => bnd (ms ρ) fun xs => ret (x :: xs)
theorem da_nil : DA X E [] tNil mNil := ⟨pa_nil, fun σ ρ H c w Q er hd p => p [] H c (.refl _) hd .nil⟩
theorem da_cons (he : DE X E e te m) (hr : DA X E es t ms) (hs : starEach (e :: es) X.env = (false, eval e X.env) :: starEach es X.env := by rfl) : DA X E (e :: es) (tCons te t) (mCons m ms) :=
  ⟨pa_cons he.pe hr.pa hs, fun σ ρ H c w Q er hd p => he.rd σ ρ H c w _ er hd (Post.bind p fun v H1 c1 x w1 g1 hd1 r1 p1 =>
    hr.rd σ ρ H1 c1 w1 _ (er.mono g1) hd1 (Post.bind p1 fun vs H2 c2 xs w2 g2 hd2 r2 p2 => p2 (v :: vs) H2 c2 (.refl _) hd2 (.cons (r1.mono g2) r2)))⟩

/-! ### displays -/
omit [Tbs] in
def mTup (ms : Rho → M (List Val)) : Rho → M Val := fun ρ => bnd (ms ρ) fun xs => bnd (frzs xs) fun ds => if ds.length ≤ 100000 then ret (.d (.tuple ds)) else fun _ => .bad
omit [Tbs] in
def mLst (ms : Rho → M (List Val)) : Rho → M Val := fun ρ => bnd (ms ρ) fun xs => bnd (frzs xs) fun ds => if ds.length ≤ 100000 then ret (.d (.list ds)) else fun _ => .bad
omit [Tbs] in
/-- a list that its def will change -/
def mLstO (ms : Rho → M (List Val)) : Rho → M Val := fun ρ => bnd (ms ρ) fun xs => bnd (frzs xs) fun ds => if ds.length ≤ 100000 then fun w => .ok (.o w.length) (w ++ [.lst ds]) else fun _ => .bad
/-- behind the freezing of some values -/
theorem post_frzs {vs : List V} {xs : List Val} {H : Hp} {c : Ctx} {w : Om} {γ δ : Type} {rel2 : Ctx → δ → γ → Prop} {k : List PyData → M γ} {Q : δ → Hp → Prop} {K : PySem.W.Frag} {mg : Str → Option Value} (hd : Hold K H c w) (r : VRs K c vs xs) (p : Post K mg E c rel2 (bnd (frzs xs) k w) Q) :
    ∃ c' w' ds, Grow c c' ∧ Hold K H c' w' ∧ DpAll K c'.H0 vs ds ∧ Post K mg E c' rel2 (k ds w') Q := by
  unfold bnd at p
  cases q : frzs xs w with
  | bad => rw [q] at p; exact p.elim
  | exn y w1 => exact absurd q frzs_noexn
  | ok ds w1 =>
    rw [q] at p
    obtain ⟨c1, g, h1, al⟩ := frzs_ok hd r q
    exact ⟨c1, w1, ds, g, h1, al, Post.mono g p⟩
theorem post_frz {v : V} {x : Val} {H : Hp} {c : Ctx} {w : Om} {γ δ : Type} {rel2 : Ctx → δ → γ → Prop} {k : PyData → M γ} {Q : δ → Hp → Prop} {K : PySem.W.Frag} {mg : Str → Option Value} (hd : Hold K H c w) (r : VR K c v x) (p : Post K mg E c rel2 (bnd (frz x) k w) Q) :
    ∃ c' w' d, Grow c c' ∧ Hold K H c' w' ∧ Dp K c'.H0 v d ∧ Post K mg E c' rel2 (k d w') Q := by
  unfold bnd at p
  cases q : frz x w with
  | bad => rw [q] at p; exact p.elim
  | exn y w1 => exact absurd q frz_noexn
  | ok ds w1 =>
    rw [q] at p
    obtain ⟨c1, g, h1, al⟩ := frz_ok hd r q
    exact ⟨c1, w1, ds, g, h1, al, Post.mono g p⟩
theorem post_ite {C : Prop} [Decidable C] {γ δ : Type} {rel2 : Ctx → δ → γ → Prop} {k : M γ} {w : Om} {c : Ctx} {Q : δ → Hp → Prop} {K : PySem.W.Frag} {mg : Str → Option Value} (p : Post K mg E c rel2 ((if C then k else fun _ => .bad) w) Q) : C ∧ Post K mg E c rel2 (k w) Q := by
  by_cases h : C
  · rw [if_pos h] at p; exact ⟨h, p⟩
  · rw [if_neg h] at p; exact p.elim
theorem de_tup (h : DA X E es t ms) {k} : DE X E (.Tuple es k pos) (F.tTupF t) (mTup ms) :=
  ⟨F.pe_tupF h.pa, fun σ ρ H c w Q er hd p => h.rd σ ρ H c w _ er hd (Post.bind p fun vs H1 c1 xs w1 g1 hd1 r1 p1 => by
    obtain ⟨c2, w2, ds, g2, hd2, al, p2⟩ := post_frzs hd1 r1 p1
    obtain ⟨hl, p3⟩ := post_ite p2
    exact ⟨lineOk (by rw [al.length]; exact hl), fun q o nq ho => p3 _ _ _ (hd2.grow (o := .frz o (.tup vs)) nq) (hd2.new nq (fun _ => ho)) (Dp.newF al (hd2.free nq))⟩)⟩
theorem de_lst (h : DA X E es t ms) : DE X E (.List es pos) (tLst t) (mLst ms) := by
  refine ⟨?_, fun σ ρ H c w Q er hd p => h.rd σ ρ H c w _ er hd (Post.bind p fun vs H1 c1 xs w1 g1 hd1 r1 p1 => ?_)⟩
  · exact pe_lst h.pa
  · obtain ⟨c2, w2, ds, g2, hd2, al, p2⟩ := post_frzs hd1 r1 p1
    obtain ⟨hl, p3⟩ := post_ite p2
    exact ⟨lineOk (by rw [al.length]; exact hl), fun q nq => p3 _ _ _ (hd2.grow (o := .lst vs) nq) (hd2.new nq) (Dp.newL al (hd2.free nq))⟩
end
end D

set_option maxRecDepth 100000
namespace D
open PySem L2 G PySem.Spec PyProof.Rows
variable [Tbs]

/-! ### operators by data -/
def OpRd (K : PySem.W.Frag) (r : R2) (g : PyData → PyData → Option PyData) : Prop :=
  ∀ (x y : V) (H : Hp) (c : Ctx) (w : Om) (a b d : PyData) (Q : VK), Hold K H c w → Dq K H c.H0 x a → Dq K H c.H0 y b → g a b = some d →
    (∀ v H' c', Grow c c' → Hold K H' c' w → Dp K c'.H0 v d → Q v H') → r x y H Q
def UnRd (K : PySem.W.Frag) (r : V → Hp → VK → Prop) (g : PyData → Option PyData) : Prop :=
  ∀ (x : V) (H : Hp) (c : Ctx) (w : Om) (a d : PyData) (Q : VK), Hold K H c w → Dq K H c.H0 x a → g a = some d →
    (∀ v H' c', Grow c c' → Hold K H' c' w → Dp K c'.H0 v d → Q v H') → r x H Q
omit [Tbs] in
def mOp (g : PyData → PyData → Option PyData) (m1 m2 : Rho → M Val) : Rho → M Val := fun ρ => bnd (m1 ρ) fun x => bnd (m2 ρ) fun y => fun w =>
  match look w x, look w y with
  | some a, some b => (match g a b with | some d => .ok (.d d) w | none => .bad)
  | _, _ => .bad
omit [Tbs] in
def mUn (g : PyData → Option PyData) (m1 : Rho → M Val) : Rho → M Val := fun ρ => bnd (m1 ρ) fun x => fun w =>
  match look w x with
  | some a => (match g a with | some d => .ok (.d d) w | none => .bad)
  | none => .bad
section
variable {K : PySem.W.Frag} {mg : Str → Option Value} {E : XK} {H : Hp} {c : Ctx} {w : Om} {x y : V} {vx vy : Val} {Q : VK} {r : R2} {r1 : V → Hp → VK → Prop} {g : PyData → PyData → Option PyData} {g1 : PyData → Option PyData}
theorem op_end (hr : OpRd K r g) (hd : Hold K H c w) (rx : VR K c x vx) (ry : VR K c y vy)
    (p : Post K mg E c (VR K) (match look w vx, look w vy with | some a, some b => (match g a b with | some d => R.ok (.d d) w | none => .bad) | _, _ => .bad) Q) : r x y H Q := by
  cases ex : look w vx with
  | none => simp [ex] at p; exact p.elim
  | some a =>
    cases ey : look w vy with
    | none => simp [ex, ey] at p; exact p.elim
    | some b =>
      cases eg : g a b with
      | none => simp [ex, ey, eg] at p; exact p.elim
      | some d =>
        simp only [ex, ey, eg] at p
        exact hr x y H c w a b d Q hd (hd.dq rx ex) (hd.dq ry ey) eg fun v H' c' g hd' r => p v H' c' g hd' r
theorem un_end (hr : UnRd K r1 g1) (hd : Hold K H c w) (rx : VR K c x vx)
    (p : Post K mg E c (VR K) (match look w vx with | some a => (match g1 a with | some d => R.ok (.d d) w | none => .bad) | none => .bad) Q) : r1 x H Q := by
  cases ex : look w vx with
  | none => simp [ex] at p; exact p.elim
  | some a =>
    cases eg : g1 a with
    | none => simp [ex, eg] at p; exact p.elim
    | some d =>
      simp only [ex, eg] at p
      exact hr x H c w a d Q hd (hd.dq rx ex) eg fun v H' c' g hd' r => p v H' c' g hd' r
end
section
variable {X : Cx} {E : XK} {a b e : Expr} {ta tb : TE} {m1 m2 : Rho → M Val} {pos : Pos} {r : R2} {r1 : V → Hp → VK → Prop} {g : PyData → PyData → Option PyData} {g1 : PyData → Option PyData}
theorem de_2 (pe : PE X e (tOp r ta tb)) (hr : OpRd X.K r g) (ha : DE X E a ta m1) (hb : DE X E b tb m2) : DE X E e (tOp r ta tb) (mOp g m1 m2) :=
  ⟨pe, fun σ ρ H c w Q er hd p => ha.rd σ ρ H c w _ er hd (Post.bind p fun x H1 c1 vx w1 g1 hd1 r1 p1 =>
    hb.rd σ ρ H1 c1 w1 _ (er.mono g1) hd1 (Post.bind p1 fun y H2 c2 vy w2 g2 hd2 r2 p2 => op_end hr hd2 (r1.mono g2) r2 p2))⟩
theorem de_op {op : Operator} (ho : OpR X (binaryOp op) r) (hr : OpRd X.K r g) (ha : DE X E a ta m1) (hb : DE X E b tb m2) : DE X E (.BinOp a op b pos) (tOp r ta tb) (mOp g m1 m2) :=
  de_2 (pe_op ho ha.pe hb.pe) hr ha hb
theorem de_cmp {op : CmpOp} (ho : OpR X (compareOp op) r) (hr : OpRd X.K r g) (ha : DE X E a ta m1) (hb : DE X E b tb m2) (hm : behindInMarks op b = false) : DE X E (.Compare a [op] [b] pos) (tOp r ta tb) (mOp g m1 m2) :=
  de_2 (pe_cmpR ho ha.pe hb.pe hm) hr ha hb
theorem de_ix (ho : IxR X r) (hr : OpRd X.K r g) (ha : DE X E a ta m1) (hb : DE X E b tb m2) (hs : PlainIx b) : DE X E (.Subscript a b pos) (tOp r ta tb) (mOp g m1 m2) :=
  de_2 (pe_ix ho ha.pe hb.pe hs) hr ha hb
theorem de_un {op : UnaryOp} (ho : UnR X (unaryOp op) r1) (hr : UnRd X.K r1 g1) (ha : DE X E a ta m1) : DE X E (.UnaryOp op a pos) (tUn r1 ta) (mUn g1 m1) :=
  ⟨pe_un ho ha.pe, fun σ ρ H c w Q er hd p => ha.rd σ ρ H c w _ er hd (Post.bind p fun x H1 c1 vx w1 gg hd1 r1 p1 => un_end hr hd1 r1 p1)⟩
end

/-! ### + - * // % ** -/
omit [Tbs] in
theorem op_catL {X : Cx} : OpR X (binaryOp .Add) (fun x y H Q => ∃ a b xs ys, x = .ref a ∧ y = .ref b ∧ SqL X.K H a xs ∧ SqL X.K H b ys ∧ xs.length + ys.length ≤ sizeLine ∧ ∀ p, H p = none → Q (.ref p) (upd H p (.lst (xs ++ ys)))) := by
  intro pins s σ H x y v u Q I rx ry h
  obtain ⟨l, b, xs, zs, rfl, rfl, hH, hB, hz, q⟩ := h
  cases rx
  cases ry
  obtain ⟨vs, r, pl, _⟩ := I.list hH
  obtain ⟨ws, r2, pl2, _⟩ := I.list hB
  have lz : vs.length + ws.length ≤ sizeLine := by rw [← r.length, ← r2.length]; exact hz
  obtain ⟨⟨cls, dd, data, sl⟩, ho, hc, n, hd⟩ := pl.isList
  obtain ⟨⟨cls2, dd2, data2, sl2⟩, ho2, hc2, n2, hd2⟩ := pl2.isList
  simp only at hc hd hc2 hd2
  subst hc hd hc2 hd2
  have e : vs.toArray ++ ws.toArray = (vs ++ ws).toArray := by simp
  refine concat_meets ⟨_, ho, rfl⟩ ⟨_, ho2, rfl⟩ noFill_list_add seq_list_add PySem.F.slot_list_add PySem.F.entry_list_add (PySem.F.args_list_add_2 _ _) (list_addW l b vs.toArray ws.toArray n n2 dd dd2 sl sl2 (by simpa using lz)) ⟨ho, ho2, ?_⟩
  rw [e]
  exact ⟨.ref _, _, I.lnew (t' := s.toks) (r.append r2) (by rw [List.length_append]; exact hz), rfl, q _ I.fresh⟩
omit [Tbs] in
def rAddS : R2 := fun x y H Q => ∃ i j, x = .str i ∧ y = .str j ∧ i.length + j.length ≤ sizeLine ∧ Q (.str (i ++ j)) H
omit [Tbs] in
def rCatL (K : PySem.W.Frag) : R2 := fun x y H Q => ∃ a b xs ys, x = .ref a ∧ y = .ref b ∧ SqL K H a xs ∧ SqL K H b ys ∧ xs.length + ys.length ≤ sizeLine ∧ ∀ p, H p = none → Q (.ref p) (upd H p (.lst (xs ++ ys)))
omit [Tbs] in
def rAdd (K : PySem.W.Frag) : R2 := fun x y H Q => (rI0 fun i j => .int (i + j)) x y H Q ∨ rAddS x y H Q ∨ F.rCatF K x y H Q ∨ rCatL K x y H Q
omit [Tbs] in
theorem op_addA {X : Cx} : OpR X (binaryOp .Add) (rAdd X.K) := OpR.or op_add (OpR.or op_add_str (OpR.or F.op_catF op_catL))
omit [Tbs] in
def gAdd : PyData → PyData → Option PyData
  | .int i, .int j => some (.int (i + j))
  | .str i, .str j => if i.length + j.length ≤ 100000 then some (.str (i ++ j)) else none
  | .tuple xs, .tuple ys => if xs.length + ys.length ≤ 100000 then some (.tuple (xs ++ ys)) else none
  | .list xs, .list ys => if xs.length + ys.length ≤ 100000 then some (.list (xs ++ ys)) else none
  | _, _ => none
omit [Tbs] in
theorem ite_some {C : Prop} [Decidable C] {d e : PyData} (h : (if C then some d else none) = some e) : C ∧ d = e := by
  by_cases hc : C
  · rw [if_pos hc] at h; exact ⟨hc, Option.some.inj h⟩
  · rw [if_neg hc] at h; cases h
section
variable {K : PySem.W.Frag}
theorem rd_add : OpRd K (rAdd K) gAdd := by
  intro x y H c w a b d Q hd hx hy eg k
  unfold gAdd at eg
  split at eg
  · cases eg
    exact .inl ⟨_, _, hx.int, hy.int, k _ _ _ (.refl _) hd (.int _)⟩
  · obtain ⟨hl, rfl⟩ := ite_some eg
    exact .inr (.inl ⟨_, _, hx.str, hy.str, lineOk hl, k _ _ _ (.refl _) hd (.str _)⟩)
  · obtain ⟨hl, rfl⟩ := ite_some eg
    rename_i xs ys
    obtain ⟨p, vs, rfl, h1, a1⟩ := hx.tuple hd.sub
    obtain ⟨q, ws, rfl, h2, a2⟩ := hy.tuple hd.sub
    have l1 := a1.length
    have l2 := a2.length
    refine .inr (.inr (.inl ⟨p, q, vs, ws, rfl, rfl, h1, h2, lineOk (by omega), ?_, ?_, ?_⟩))
    · rintro rfl
      cases a1
      rcases hy with hy | ⟨_, _, _, _, z, _⟩
      · exact k _ _ _ (.refl _) hd hy
      · cases z
    · rintro _ rfl
      cases a2
      rw [List.append_nil] at k
      rcases hx with hx | ⟨_, _, _, _, z, _⟩
      · exact k _ _ _ (.refl _) hd hx
      · cases z
    · intro _ _ t o nt ho
      exact k _ _ _ (hd.grow (o := .frz o (.tup (vs ++ ws))) nt) (hd.new nt (fun _ => ho)) (Dp.newF (a1.append a2) (hd.free nt))
  · obtain ⟨hl, rfl⟩ := ite_some eg
    obtain ⟨p, vs, rfl, h1, a1⟩ := hx.list hd.sub
    obtain ⟨q, ws, rfl, h2, a2⟩ := hy.list hd.sub
    have l1 := a1.length
    have l2 := a2.length
    exact .inr (.inr (.inr ⟨p, q, vs, ws, rfl, rfl, h1, h2, lineOk (by omega), fun t nt => k _ _ _ (hd.grow (o := .lst (vs ++ ws)) nt) (hd.new nt) (Dp.newL (a1.append a2) (hd.free nt))⟩))
  · cases eg
omit [Tbs] in
def gSub : PyData → PyData → Option PyData
  | .int i, .int j => some (.int (i - j))
  | _, _ => none
theorem rd_sub : OpRd K (rI0 fun i j => .int (i - j)) gSub := by
  intro x y H c w a b d Q hd hx hy eg k
  unfold gSub at eg
  split at eg
  · cases eg
    exact ⟨_, _, hx.int, hy.int, k _ _ _ (.refl _) hd (.int _)⟩
  · cases eg
omit [Tbs] in
def gFdiv : PyData → PyData → Option PyData
  | .int i, .int j => if 0 < j ∧ j.natAbs.log2 < 9000 then some (.int (i / j)) else none
  | _, _ => none
theorem rd_fdiv : OpRd K (rI CDivW fun i j => .int (i / j)) gFdiv := by
  intro x y H c w a b d Q hd hx hy eg k
  unfold gFdiv at eg
  split at eg
  · obtain ⟨hl, rfl⟩ := ite_some eg
    exact ⟨_, _, hx.int, hy.int, hl, k _ _ _ (.refl _) hd (.int _)⟩
  · cases eg
omit [Tbs] in
def gMod : PyData → PyData → Option PyData
  | .int i, .int j => if 0 < j then some (.int (i % j)) else none
  | _, _ => none
theorem rd_mod : OpRd K (rI (fun _ j => 0 < j) fun i j => .int (i % j)) gMod := by
  intro x y H c w a b d Q hd hx hy eg k
  unfold gMod at eg
  split at eg
  · obtain ⟨hl, rfl⟩ := ite_some eg
    exact ⟨_, _, hx.int, hy.int, hl, k _ _ _ (.refl _) hd (.int _)⟩
  · cases eg
omit [Tbs] in
def gPow : PyData → PyData → Option PyData
  | .int i, .int j => if 0 ≤ j ∧ j ≤ 1000000 ∧ i.natAbs < 2 ^ 64 then some (.int (i ^ j.toNat)) else none
  | _, _ => none
theorem rd_pow : OpRd K (rI CPow fun i j => .int (i ^ j.toNat)) gPow := by
  intro x y H c w a b d Q hd hx hy eg k
  unfold gPow at eg
  split at eg
  · obtain ⟨hl, rfl⟩ := ite_some eg
    exact ⟨_, _, hx.int, hy.int, hl, k _ _ _ (.refl _) hd (.int _)⟩
  · cases eg
omit [Tbs] in
def rMulA (K : PySem.W.Frag) : R2 := fun x y H Q => rI CMulW (fun i j => .int (i * j)) x y H Q ∨ rRepT K x y H Q
omit [Tbs] in
theorem op_mulA {X : Cx} : OpR X (binaryOp .Mult) (rMulA X.K) := OpR.or op_mulW op_repT
omit [Tbs] in
theorem DpAll.rep {H : Hp} {vs : List V} {ds : List PyData} (h : DpAll K H vs ds) : ∀ n, DpAll K H (List.replicate n vs).flatten (List.replicate n ds).flatten
  | 0 => .nil
  | n + 1 => by
    rw [List.replicate_succ, List.replicate_succ, List.flatten_cons, List.flatten_cons]
    exact h.append (DpAll.rep h n)
omit [Tbs] in
def gMul : PyData → PyData → Option PyData
  | .int i, .int j => if i.natAbs.log2 + j.natAbs.log2 < 1000000 then some (.int (i * j)) else none
  | .tuple xs, .int k => if xs ≠ [] ∧ 2 ≤ k ∧ k ≤ 1000 ∧ xs.length ≤ 1000 then some (.tuple (List.replicate k.toNat xs).flatten) else none
  | _, _ => none
end
end D

set_option maxRecDepth 100000
namespace D
open PySem L2 G PySem.Spec PyProof.Rows
variable [Tbs]
section
variable {K : PySem.W.Frag}
theorem rd_mul [NP] : OpRd K (rMulA K) gMul := by
  intro x y H c w a b d Q hd hx hy eg k
  unfold gMul at eg
  split at eg
  · obtain ⟨hl, rfl⟩ := ite_some eg
    exact .inl ⟨_, _, hx.int, hy.int, hl, k _ _ _ (.refl _) hd (.int _)⟩
  · obtain ⟨⟨h0, h1, h2, h3⟩, rfl⟩ := ite_some eg
    obtain ⟨p, vs, rfl, q1, a1⟩ := hx.tuple hd.sub
    have l1 := a1.length
    refine .inr ⟨p, _, vs, rfl, hy.int, q1, fun z => h0 (List.length_eq_zero_iff.mp (by rw [← l1, z]; rfl)), h1, h2, by omega, fun t nt => ?_⟩
    exact k _ _ _ (hd.grow (o := .tup _) nt) (hd.new nt NP.no) (Dp.newT (DpAll.rep a1 _) (hd.free nt))
  · cases eg
/-! ### comparisons -/
omit [Tbs] in
def gEq : PyData → PyData → Option PyData
  | .int i, .int j => some (.bool (i == j))
  | a, b => if SeqAt.shaped a = true ∧ SeqAt.shaped b = true then some (.bool (PyData.eqv a b)) else none
omit [Tbs] in
def gNe : PyData → PyData → Option PyData
  | .int i, .int j => some (.bool (!(i == j)))
  | a, b => if SeqAt.shaped a = true ∧ SeqAt.shaped b = true then some (.bool (!PyData.eqv a b)) else none
omit [Tbs] in
theorem shaped_int {i : Int} : SeqAt.shaped (.int i) = true := rfl
omit [Tbs] in
theorem eqv_int {i j : Int} : PyData.eqv (.int i) (.int j) = (i == j) := by simp only [PyData.eqv]
theorem rd_eq : OpRd K (rEqD K) gEq := by
  intro x y H c w a b d Q hd hx hy eg k
  unfold gEq at eg
  split at eg
  · cases eg
    exact ⟨_, _, hx.dp hd.sub, hy.dp hd.sub, shaped_int, shaped_int, by rw [eqv_int]; exact k _ _ _ (.refl _) hd (.bl _)⟩
  · obtain ⟨⟨h1, h2⟩, rfl⟩ := ite_some eg
    exact ⟨_, _, hx.dp hd.sub, hy.dp hd.sub, h1, h2, k _ _ _ (.refl _) hd (.bl _)⟩
theorem rd_ne : OpRd K (rNeD K) gNe := by
  intro x y H c w a b d Q hd hx hy eg k
  unfold gNe at eg
  split at eg
  · cases eg
    exact ⟨_, _, hx.dp hd.sub, hy.dp hd.sub, shaped_int, shaped_int, by rw [eqv_int]; exact k _ _ _ (.refl _) hd (.bl _)⟩
  · obtain ⟨⟨h1, h2⟩, rfl⟩ := ite_some eg
    exact ⟨_, _, hx.dp hd.sub, hy.dp hd.sub, h1, h2, k _ _ _ (.refl _) hd (.bl _)⟩
omit [Tbs] in
def gCmp (p : Int → Int → Bool) : PyData → PyData → Option PyData
  | .int i, .int j => some (.bool (p i j))
  | _, _ => none
omit [Tbs] in
abbrev gLt := gCmp fun i j => decide (i < j)
omit [Tbs] in
abbrev gLe := gCmp fun i j => decide (i ≤ j)
omit [Tbs] in
abbrev gGt := gCmp fun i j => decide (j < i)
omit [Tbs] in
abbrev gGe := gCmp fun i j => decide (j ≤ i)
theorem rd_cmp {p : Int → Int → Bool} : OpRd K (rI0 fun i j => .bl (p i j)) (gCmp p) := by
  intro x y H c w a b d Q hd hx hy eg k
  unfold gCmp at eg
  split at eg
  · cases eg
    exact ⟨_, _, hx.int, hy.int, k _ _ _ (.refl _) hd (.bl _)⟩
  · cases eg
theorem rd_lt : OpRd K (rI0 fun i j => .bl (decide (i < j))) gLt := rd_cmp
theorem rd_le : OpRd K (rI0 fun i j => .bl (decide (i ≤ j))) gLe := rd_cmp
theorem rd_gt : OpRd K (rI0 fun i j => .bl (decide (j < i))) gGt := rd_cmp
theorem rd_ge : OpRd K (rI0 fun i j => .bl (decide (j ≤ i))) gGe := rd_cmp
omit [Tbs] in
/-- is None -/
def isNon : PyData → Bool
  | .none => true
  | _ => false
omit [Tbs] in
theorem isNon_v {H H0 : Hp} {v : V} {a : PyData} (h : Dq K H H0 v a) : decide (v = .non) = isNon a := by
  rcases h with h | ⟨p, vs, xs, rfl, rfl, _⟩
  · cases h <;> rfl
  · rfl
omit [Tbs] in
def gIsN : PyData → PyData → Option PyData
  | a, .none => some (.bool (isNon a))
  | _, _ => none
omit [Tbs] in
def gNotN : PyData → PyData → Option PyData
  | a, .none => some (.bool (!isNon a))
  | _, _ => none
theorem rd_isN : OpRd K (fun x y H Q => y = .non ∧ Q (.bl (decide (x = .non))) H) gIsN := by
  intro x y H c w a b d Q hd hx hy eg k
  cases b with
  | none =>
    cases eg
    exact ⟨hy.non, by rw [isNon_v hx]; exact k _ _ _ (.refl _) hd (.bl _)⟩
  | _ => cases eg
theorem rd_notN : OpRd K (fun x y H Q => y = .non ∧ Q (.bl (!decide (x = .non))) H) gNotN := by
  intro x y H c w a b d Q hd hx hy eg k
  cases b with
  | none =>
    cases eg
    exact ⟨hy.non, by rw [isNon_v hx]; exact k _ _ _ (.refl _) hd (.bl _)⟩
  | _ => cases eg
omit [Tbs] in
/-- in a list or tuple of flat items; a text in a text -/
def flatD : PyData → Bool
  | .none => true
  | .bool _ => true
  | .int _ => true
  | .str _ => true
  | _ => false
omit [Tbs] in
def eqF : PyData → PyData → Bool
  | .none, .none => true
  | .bool a, .bool b => a == b
  | .bool a, .int b => (if a then 1 else 0) == b
  | .int a, .bool b => a == (if b then 1 else 0)
  | .int a, .int b => a == b
  | .str a, .str b => a == b
  | _, _ => false
omit [Tbs] in
theorem flat_v {H : Hp} {v : V} {a : PyData} (h : Dp K H v a) (f : flatD a = true) : flatV v = true := by
  cases h <;> first | rfl | cases f
omit [Tbs] in
theorem flat_eq {H : Hp} {v u : V} {a b : PyData} (h : Dp K H v a) (q : Dp K H u b) (f : flatD a = true) (f2 : flatD b = true) : eqV v u = eqF a b := by
  cases h <;> cases q <;> first | rfl | cases f | cases f2
omit [Tbs] in
theorem flat_all {H : Hp} : ∀ {vs : List V} {ds : List PyData}, DpAll K H vs ds → ds.all flatD = true → vs.all flatV = true
  | _, _, .nil, _ => rfl
  | _, _, .cons h t, f => by
    simp only [List.all_cons, Bool.and_eq_true] at f ⊢
    exact ⟨flat_v h f.1, flat_all t f.2⟩
omit [Tbs] in
def inF (x : PyData) (xs : List PyData) : Bool := xs.any fun y => eqF y x
omit [Tbs] in
theorem in_v {H : Hp} {v : V} {a : PyData} (h : Dp K H v a) (fa : flatD a = true) : ∀ {vs : List V} {ds : List PyData}, DpAll K H vs ds → ds.all flatD = true → inV v vs = inF a ds
  | _, _, .nil, _ => rfl
  | _, _, .cons q t, f => by
    simp only [List.all_cons, Bool.and_eq_true] at f
    have ih := in_v h fa t f.2
    unfold inV inF at ih ⊢
    rw [List.any_cons, List.any_cons, ih, flat_eq q h f.1 fa]
omit [Tbs] in
def rInA (K : PySem.W.Frag) (neg : Bool) : R2 := fun x y H Q => rIn K neg x y H Q ∨ ∃ i j, x = .str i ∧ y = .str j ∧ Q (.bl (if neg then !(!(Builtin.Str.occurrences j i 0 j.length 1).isEmpty) else !(Builtin.Str.occurrences j i 0 j.length 1).isEmpty)) H
omit [Tbs] in
theorem op_inA {X : Cx} : OpR X (compareOp .In) (rInA X.K false) := OpR.or op_in_seq op_in_str
omit [Tbs] in
theorem op_notInA {X : Cx} : OpR X (compareOp .NotIn) (rInA X.K true) := OpR.or op_notIn_seq op_notIn_str
omit [Tbs] in
def gInB (neg : Bool) : PyData → PyData → Option PyData
  | a, .list xs => if flatD a = true ∧ xs.all flatD = true then some (.bool (if neg then !inF a xs else inF a xs)) else none
  | a, .tuple xs => if flatD a = true ∧ xs.all flatD = true then some (.bool (if neg then !inF a xs else inF a xs)) else none
  | .str i, .str j => some (.bool (if neg then !(!(Builtin.Str.occurrences j i 0 j.length 1).isEmpty) else !(Builtin.Str.occurrences j i 0 j.length 1).isEmpty))
  | _, _ => none
omit [Tbs] in
abbrev gIn := gInB false
omit [Tbs] in
abbrev gNotIn := gInB true
theorem rd_in {neg : Bool} : OpRd K (rInA K neg) (gInB neg) := by
  intro x y H c w a b d Q hd hx hy eg k
  unfold gInB at eg
  split at eg
  · obtain ⟨⟨f1, f2⟩, rfl⟩ := ite_some eg
    obtain ⟨p, vs, rfl, q1, a1⟩ := hy.list hd.sub
    have a2 := (Held.of hd.sub).dpAll _ _ a1
    exact .inl ⟨p, vs, rfl, .inl q1, flat_v (hx.dp hd.sub) f1, flat_all a2 f2, by rw [in_v (hx.dp hd.sub) f1 a2 f2]; exact k _ _ _ (.refl _) hd (.bl _)⟩
  · obtain ⟨⟨f1, f2⟩, rfl⟩ := ite_some eg
    obtain ⟨p, vs, rfl, q1, a1⟩ := hy.tuple hd.sub
    have a2 := (Held.of hd.sub).dpAll _ _ a1
    exact .inl ⟨p, vs, rfl, .inr q1, flat_v (hx.dp hd.sub) f1, flat_all a2 f2, by rw [in_v (hx.dp hd.sub) f1 a2 f2]; exact k _ _ _ (.refl _) hd (.bl _)⟩
  · cases eg
    exact .inr ⟨_, _, hx.str, hy.str, k _ _ _ (.refl _) hd (.bl _)⟩
  · cases eg
/-! ### items, slices -/
omit [Tbs] in
def gIx : PyData → PyData → Option PyData
  | .list xs, .int i => atI xs i
  | .tuple xs, .int i => atI xs i
  | .str z, .int i => if z.length ≤ 100000 then (atI z.cps.toList i).map fun c => .str ⟨#[c]⟩ else none
  | _, _ => none
omit [Tbs] in
theorem atI_all {H : Hp} {vs : List V} {ds : List PyData} {i : Int} {d : PyData} (h : DpAll K H vs ds) (e : atI ds i = some d) : ∃ v, atI vs i = some v ∧ Dp K H v d := by
  unfold atI at e ⊢
  rw [h.length]
  cases q : ixN ds.length i with
  | none => rw [q] at e; cases e
  | some j =>
    rw [q] at e
    obtain ⟨v, e1, r⟩ := h.get (i := j) (d := d) e
    exact ⟨v, e1, r⟩
theorem rd_ix : OpRd K (rIx K) gIx := by
  intro x y H c w a b d Q hd hx hy eg k
  unfold gIx at eg
  split at eg
  · obtain ⟨p, vs, rfl, q1, a1⟩ := hx.list hd.sub
    obtain ⟨v, e1, r⟩ := atI_all a1 eg
    exact .inl ⟨p, vs, _, v, rfl, hy.int, q1, e1, k _ _ _ (.refl _) hd r⟩
  · obtain ⟨p, vs, rfl, q1, a1⟩ := hx.tuple hd.sub
    obtain ⟨v, e1, r⟩ := atI_all a1 eg
    exact .inr (.inl ⟨p, vs, _, v, rfl, hy.int, q1, e1, k _ _ _ (.refl _) hd r⟩)
  · rename_i z i
    by_cases hl : z.length ≤ 100000
    · rw [if_pos hl] at eg
      cases q : atI z.cps.toList i with
      | none => rw [q] at eg; cases eg
      | some ch =>
        rw [q] at eg
        cases eg
        exact .inr (.inr ⟨z, i, ch, hx.str, hy.int, lineOk hl, q, k _ _ _ (.refl _) hd (.str _)⟩)
    · rw [if_neg hl] at eg; cases eg
  · cases eg
omit [Tbs] in
def gNeg : PyData → Option PyData
  | .int i => some (.int (-i))
  | _ => none
theorem rd_neg : UnRd K (rU fun i => .int (-i)) gNeg := by
  intro x H c w a d Q hd hx eg k
  cases a with
  | int i => cases eg; exact ⟨i, hx.int, k _ _ _ (.refl _) hd (.int _)⟩
  | _ => cases eg
/-- slices -/
def SlRd (K : PySem.W.Frag) (r : V → Option Int → Option Int → Hp → VK → Prop) (g : PyData → Option Int → Option Int → Option PyData) : Prop :=
  ∀ (x : V) (lo hi : Option Int) (H : Hp) (c : Ctx) (w : Om) (a d : PyData) (Q : VK), Hold K H c w → Dq K H c.H0 x a → g a lo hi = some d →
    (∀ v H' c', Grow c c' → Hold K H' c' w → Dp K c'.H0 v d → Q v H') → r x lo hi H Q
omit [Tbs] in
def cutD (xs : List PyData) (lo hi : Option Int) : List PyData := (xs.drop (HT.sIx xs.length 0 lo)).take (HT.sIx xs.length xs.length hi - HT.sIx xs.length 0 lo)
omit [Tbs] in
theorem cut_all {H : Hp} {vs : List V} {ds : List PyData} (lo hi : Option Int) (h : DpAll K H vs ds) : DpAll K H (cutV vs lo hi) (cutD ds lo hi) := by
  unfold cutV cutD
  rw [h.length]
  exact (h.drop _).take _
omit [Tbs] in
def rSlAll (K : PySem.W.Frag) : V → Option Int → Option Int → Hp → VK → Prop := fun x lo hi H Q => rSlL K x lo hi H Q ∨ F.rSlF K x lo hi H Q ∨ rSlS x lo hi H Q
omit [Tbs] in
theorem sl_all {X : Cx} : SlR X (rSlAll X.K) := sl_list.or (F.sl_tupF.or sl_str)
omit [Tbs] in
def gSl : PyData → Option Int → Option Int → Option PyData
  | .list xs, lo, hi => some (.list (cutD xs lo hi))
  | .tuple xs, lo, hi => some (.tuple (cutD xs lo hi))
  | .str z, lo, hi => if z.length ≤ 100000 then some (.str (cutS z lo hi)) else none
  | _, _, _ => none
omit [Tbs] in
theorem cut_whole {xs : List PyData} {lo hi : Option Int} (h : HT.sIx xs.length 0 lo = 0 ∧ HT.sIx xs.length xs.length hi = xs.length) : cutD xs lo hi = xs := by
  unfold cutD
  rw [h.1, h.2]
  simp
theorem rd_sl : SlRd K (rSlAll K) gSl := by
  intro x lo hi H c w a d Q hd hx eg k
  unfold gSl at eg
  split at eg
  · cases eg
    obtain ⟨p, vs, rfl, q1, a1⟩ := hx.list hd.sub
    exact .inl ⟨p, vs, rfl, q1, fun t nt => k _ _ _ (hd.grow (o := .lst _) nt) (hd.new nt) (Dp.newL (cut_all lo hi a1) (hd.free nt))⟩
  · cases eg
    obtain ⟨p, vs, rfl, q1, a1⟩ := hx.tuple hd.sub
    refine .inr (.inl ⟨p, vs, rfl, q1, fun z => ?_, fun _ t o nt ho => k _ _ _ (hd.grow (o := .frz o (.tup _)) nt) (hd.new nt (fun _ => ho)) (Dp.newF (cut_all lo hi a1) (hd.free nt))⟩)
    rw [a1.length] at z
    rw [cut_whole z] at k
    rcases hx with hx | ⟨_, _, _, _, z2, _⟩
    · exact k _ _ _ (.refl _) hd hx
    · cases z2
  · obtain ⟨hl, rfl⟩ := ite_some eg
    exact .inr (.inr ⟨_, hx.str, lineOk hl, k _ _ _ (.refl _) hd (.str _)⟩)
  · cases eg
end
/-- a part of a slice -/
structure DO (X : Cx) (E : XK) (e : Option Expr) (t : TO) (m : Rho → M (Option Int)) : Prop where
  po : PO X e t
  rd : ∀ (σ : L2.St) (ρ : Rho) (H : Hp) (c : Ctx) (w : Om) (Q : Option Int → Hp → Prop), ER X.K c σ ρ → Hold X.K H c w → Post X.K X.mg E c (fun _ (a b : Option Int) => a = b) (m ρ w) Q → t σ H Q
omit [Tbs] in
def mNoPart : Rho → M (Option Int) := fun _ w => .ok none w
omit [Tbs] in
def mPart (m : Rho → M Val) : Rho → M (Option Int) := fun ρ => bnd (m ρ) fun x => fun w => match x with
  | .d (.int i) => .ok (some i) w
  | _ => .bad
omit [Tbs] in
def mSl (m : Rho → M Val) (ml mh : Rho → M (Option Int)) : Rho → M Val := fun ρ => bnd (m ρ) fun x => bnd (ml ρ) fun lo => bnd (mh ρ) fun hi => fun w => match look w x with
  | some a => (match gSl a lo hi with | some d => .ok (.d d) w | none => .bad)
  | none => .bad
section
variable {X : Cx} {E : XK} {a b e : Expr} {te ta tb : TE} {m m1 m2 : Rho → M Val} {pos p2 : Pos} {lo hi : Option Expr} {tl th : TO} {ml mh : Rho → M (Option Int)}
theorem do_none : DO X E none tNoPart mNoPart := ⟨po_none, fun σ ρ H c w Q er hd p => p none H c (.refl _) hd rfl⟩
theorem do_some (he : DE X E e te m) : DO X E (some e) (tPart te) (mPart m) :=
  ⟨po_some he.pe, fun σ ρ H c w Q er hd p => he.rd σ ρ H c w _ er hd (Post.bind p fun v H1 c1 x w1 g1 hd1 r1 p1 => by
    cases x with
    | o n => exact p1.elim
    | d x =>
      cases x with
      | int i => cases r1; exact ⟨i, rfl, p1 (some i) H1 c1 (.refl _) hd1 rfl⟩
      | _ => exact p1.elim)⟩
theorem de_sl (he : DE X E e te m) (hl : DO X E lo tl ml) (hu : DO X E hi th mh) : DE X E (.Subscript e (.Slice lo hi none p2) pos) (tSl (rSlAll X.K) te tl th) (mSl m ml mh) :=
  ⟨pe_slice sl_all he.pe hl.po hu.po, fun σ ρ H c w Q er hd p => he.rd σ ρ H c w _ er hd (Post.bind p fun v H1 c1 x w1 g1 hd1 r1 p1 =>
    hl.rd σ ρ H1 c1 w1 _ (er.mono g1) hd1 (Post.bind p1 fun l H2 c2 l' w2 g2 hd2 r2 p2 => by
      have er2 := (er.mono g1).mono g2
      subst r2
      refine hu.rd σ ρ H2 c2 w2 _ er2 hd2 (Post.bind p2 fun h H3 c3 h' w3 g3 hd3 r3 p3 => ?_)
      subst r3
      cases ex : look w3 x with
      | none => simp [ex] at p3; exact p3.elim
      | some a =>
        cases eg : gSl a l h with
        | none => simp [ex, eg] at p3; exact p3.elim
        | some d =>
          simp only [ex, eg] at p3
          exact rd_sl v l h H3 c3 w3 a d Q hd3 (hd3.dq ((r1.mono g2).mono g3) ex) eg fun v H' c' g hd' r => p3 v H' c' g hd' r))⟩
end
end D

set_option maxRecDepth 100000
namespace D
open PySem L2 G PySem.Spec PyProof.Rows
variable [Tbs]
/-! ### tests -/
omit [Tbs] in
def mTest (m : Rho → M Val) : Rho → M Bool := fun ρ => bnd (m ρ) fun x => fun w => match x with
  | .d (.bool b) => .ok b w
  | _ => .bad
omit [Tbs] in
def mBool (m : Rho → M Bool) : Rho → M Val := fun ρ => bnd (m ρ) fun b => fun w => .ok (.d (.bool b)) w
omit [Tbs] in
def mNot (m : Rho → M Bool) : Rho → M Bool := fun ρ => bnd (m ρ) fun b => fun w => .ok (!b) w
omit [Tbs] in
def mAnd (m m' : Rho → M Bool) : Rho → M Bool := fun ρ => bnd (m ρ) fun b => if b = true then m' ρ else fun w => .ok false w
omit [Tbs] in
def mOr (m m' : Rho → M Bool) : Rho → M Bool := fun ρ => bnd (m ρ) fun b => if b = true then fun w => .ok true w else m' ρ
omit [Tbs] in
def mIf (m : Rho → M Bool) (m1 m2 : Rho → M Val) : Rho → M Val := fun ρ => bnd (m ρ) fun b => if b = true then m1 ρ else m2 ρ
section
variable {X : Cx} {E : XK} {a b e : Expr} {te ta tb tc : TE} {tt tu : TT} {m m1 m2 m3 : Rho → M Val} {mt mu : Rho → M Bool} {pos : Pos} {r r' : R2} {g g' : PyData → PyData → Option PyData}
theorem rd_test (he : DE X E e te m) : ∀ (σ : L2.St) (ρ : Rho) (H : Hp) (c : Ctx) (w : Om) (Q : Bool → Hp → Prop), ER X.K c σ ρ → Hold X.K H c w → Post X.K X.mg E c BB (mTest m ρ w) Q → te σ H fun x H' => ∃ k, x = .bl k ∧ Q k H' :=
  fun σ ρ H c w Q er hd p => he.rd σ ρ H c w _ er hd (Post.bind p fun v H1 c1 x w1 g1 hd1 r1 p1 => by
    cases x with
    | o n => exact p1.elim
    | d x =>
      cases x with
      | bool k => cases r1; exact ⟨k, rfl, p1 k H1 c1 (.refl _) hd1 rfl⟩
      | _ => exact p1.elim)
theorem dt_val (he : DE X E e te m) (h : ∀ whole, isTrue e X.env whole = (do let v ← whole; standAt e.pos; holding [v] (truthy v)) := by intro _; rfl) : DT X E e (tB te) (mTest m) := ⟨pt_val he.pe h, rd_test he⟩
theorem dt_cmp {op : CmpOp} (ho : OpR X (compareOp op) r) (hr : OpRd X.K r g) (ha : DE X E a ta m1) (hb : DE X E b tb m2) (hm : behindInMarks op b = false) : DT X E (.Compare a [op] [b] pos) (tTest (tOp r ta tb)) (mTest (mOp g m1 m2)) :=
  ⟨pt_cmpR ho ha.pe hb.pe hm, rd_test (de_cmp (pos := pos) ho hr ha hb hm)⟩
theorem dt_not (h : DT X E a tt mt) : DT X E (.UnaryOp .Not a pos) (tNot tt) (mNot mt) :=
  ⟨pt_not h.pt, fun σ ρ H c w Q er hd p => h.rd σ ρ H c w _ er hd (Post.bind p fun v H1 c1 x w1 g1 hd1 r1 p1 => by cases r1; exact p1 _ H1 c1 (.refl _) hd1 rfl)⟩
theorem DW.dt (h : DW X E e tt mt) : DT X E e tt mt := ⟨h.pw.pt, h.rd⟩
theorem dw_and1 (h : DT X E a tt mt) : DW X E (.BoolOp .And [a] pos) tt mt := ⟨pw_and1 h.pt, h.rd⟩
theorem dw_or1 (h : DT X E a tt mt) : DW X E (.BoolOp .Or [a] pos) tt mt := ⟨pw_or1 h.pt, h.rd⟩
theorem rd_and {tA tB' : TT} (h1 : ∀ (σ : L2.St) (ρ : Rho) (H : Hp) (c : Ctx) (w : Om) (Q : Bool → Hp → Prop), ER X.K c σ ρ → Hold X.K H c w → Post X.K X.mg E c BB (mt ρ w) Q → tA σ H Q)
    (h2 : ∀ (σ : L2.St) (ρ : Rho) (H : Hp) (c : Ctx) (w : Om) (Q : Bool → Hp → Prop), ER X.K c σ ρ → Hold X.K H c w → Post X.K X.mg E c BB (mu ρ w) Q → tB' σ H Q) :
    ∀ (σ : L2.St) (ρ : Rho) (H : Hp) (c : Ctx) (w : Om) (Q : Bool → Hp → Prop), ER X.K c σ ρ → Hold X.K H c w → Post X.K X.mg E c BB (mAnd mt mu ρ w) Q → tAnd tA tB' σ H Q :=
  fun σ ρ H c w Q er hd p => h1 σ ρ H c w _ er hd (Post.bind p fun v H1 c1 x w1 g1 hd1 r1 p1 => by
    cases r1
    cases v with
    | true => rw [if_pos rfl] at p1 ⊢; exact h2 σ ρ H1 c1 w1 _ (er.mono g1) hd1 p1
    | false => rw [if_neg (by decide)] at p1 ⊢; exact p1 _ H1 c1 (.refl _) hd1 rfl)
theorem rd_or {tA tB' : TT} (h1 : ∀ (σ : L2.St) (ρ : Rho) (H : Hp) (c : Ctx) (w : Om) (Q : Bool → Hp → Prop), ER X.K c σ ρ → Hold X.K H c w → Post X.K X.mg E c BB (mt ρ w) Q → tA σ H Q)
    (h2 : ∀ (σ : L2.St) (ρ : Rho) (H : Hp) (c : Ctx) (w : Om) (Q : Bool → Hp → Prop), ER X.K c σ ρ → Hold X.K H c w → Post X.K X.mg E c BB (mu ρ w) Q → tB' σ H Q) :
    ∀ (σ : L2.St) (ρ : Rho) (H : Hp) (c : Ctx) (w : Om) (Q : Bool → Hp → Prop), ER X.K c σ ρ → Hold X.K H c w → Post X.K X.mg E c BB (mOr mt mu ρ w) Q → tOr tA tB' σ H Q :=
  fun σ ρ H c w Q er hd p => h1 σ ρ H c w _ er hd (Post.bind p fun v H1 c1 x w1 g1 hd1 r1 p1 => by
    cases r1
    cases v with
    | true => rw [if_pos rfl] at p1 ⊢; exact p1 _ H1 c1 (.refl _) hd1 rfl
    | false => rw [if_neg (by decide)] at p1 ⊢; exact h2 σ ρ H1 c1 w1 _ (er.mono g1) hd1 p1)
theorem dw_and {rest : List Expr} (h : DT X E a tt mt) (h2 : DW X E (.BoolOp .And (b :: rest) pos) tu mu) : DW X E (.BoolOp .And (a :: b :: rest) pos) (tAnd tt tu) (mAnd mt mu) := ⟨pw_and h.pt h2.pw, rd_and h.rd h2.rd⟩
theorem dw_or {rest : List Expr} (h : DT X E a tt mt) (h2 : DW X E (.BoolOp .Or (b :: rest) pos) tu mu) : DW X E (.BoolOp .Or (a :: b :: rest) pos) (tOr tt tu) (mOr mt mu) := ⟨pw_or h.pt h2.pw, rd_or h.rd h2.rd⟩
omit [Tbs] in
/-- the same as values (bools) -/
def mAndV (m m' : Rho → M Val) : Rho → M Val := fun ρ => bnd (mTest m ρ) fun b => if b = true then m' ρ else fun w => .ok (.d (.bool false)) w
omit [Tbs] in
def mOrV (m m' : Rho → M Val) : Rho → M Val := fun ρ => bnd (mTest m ρ) fun b => if b = true then fun w => .ok (.d (.bool true)) w else m' ρ
theorem de_one {op} (h : DE X E a te m) : DE X E (.BoolOp op [a] pos) te m := ⟨pe_one h.pe, h.rd⟩
omit [Tbs] in
theorem tAndV_of {σ : L2.St} {H : Hp} {Q : VK} (h : ta σ H fun x H' => ∃ k, x = .bl k ∧ if k = true then tb σ H' Q else Q (.bl false) H') : tAndV ta tb σ H Q := h
theorem de_and {rest : List Expr} (h : DE X E a ta m1) (h2 : DE X E (.BoolOp .And (b :: rest) pos) tb m2) : DE X E (.BoolOp .And (a :: b :: rest) pos) (tAndV ta tb) (mAndV m1 m2) :=
  ⟨pe_and h.pe h2.pe, fun σ ρ H c w Q er hd p => rd_test h σ ρ H c w _ er hd (Post.bind p fun v H1 c1 x w1 g1 hd1 r1 p1 => by
    cases r1
    cases v with
    | true => rw [if_pos rfl] at p1 ⊢; exact h2.rd σ ρ H1 c1 w1 _ (er.mono g1) hd1 p1
    | false => rw [if_neg (by decide)] at p1 ⊢; exact p1 _ H1 c1 (.refl _) hd1 (.bl false))⟩
theorem de_or {rest : List Expr} (h : DE X E a ta m1) (h2 : DE X E (.BoolOp .Or (b :: rest) pos) tb m2) : DE X E (.BoolOp .Or (a :: b :: rest) pos) (tOrV ta tb) (mOrV m1 m2) :=
  ⟨pe_or h.pe h2.pe, fun σ ρ H c w Q er hd p => rd_test h σ ρ H c w _ er hd (Post.bind p fun v H1 c1 x w1 g1 hd1 r1 p1 => by
    cases r1
    cases v with
    | true => rw [if_pos rfl] at p1 ⊢; exact p1 _ H1 c1 (.refl _) hd1 (.bl true)
    | false => rw [if_neg (by decide)] at p1 ⊢; exact h2.rd σ ρ H1 c1 w1 _ (er.mono g1) hd1 p1)⟩
omit [Tbs] in
def mNotV (m : Rho → M Val) : Rho → M Val := fun ρ => bnd (mTest m ρ) fun b => fun w => .ok (.d (.bool (!b))) w
theorem de_not (h : DE X E a ta m1) : DE X E (.UnaryOp .Not a pos) (tNotV ta) (mNotV m1) :=
  ⟨pe_not h.pe, fun σ ρ H c w Q er hd p => rd_test h σ ρ H c w _ er hd (Post.bind p fun v H1 c1 x w1 g1 hd1 r1 p1 => by
    cases r1; exact p1 _ H1 c1 (.refl _) hd1 (.bl _))⟩
theorem de_ifExp {c : Expr} (hc : DT X E c tt mt) (ha : DE X E a ta m1) (hb : DE X E b tb m2) : DE X E (.IfExp c a b pos) (tIf tt ta tb) (mIf mt m1 m2) :=
  ⟨pe_ifExp hc.pt ha.pe hb.pe, fun σ ρ H c w Q er hd p => hc.rd σ ρ H c w _ er hd (Post.bind p fun v H1 c1 x w1 g1 hd1 r1 p1 => by
    cases r1
    cases v with
    | true => rw [if_pos rfl] at p1 ⊢; exact ha.rd σ ρ H1 c1 w1 _ (er.mono g1) hd1 p1
    | false => rw [if_neg (by decide)] at p1 ⊢; exact hb.rd σ ρ H1 c1 w1 _ (er.mono g1) hd1 p1)⟩
omit [Tbs] in
/-- a op1 b op2 c -/
def mChain (g g' : PyData → PyData → Option PyData) (m1 m2 m3 : Rho → M Val) : Rho → M Val := fun ρ => bnd (m1 ρ) fun x => bnd (m2 ρ) fun y => fun w =>
  match look w x, look w y with
  | some a, some b => (match g a b with
    | some (.bool true) => (bnd (m3 ρ) fun z => fun w => match look w y, look w z with
      | some b, some d => (match g' b d with | some e => R.ok (.d e) w | none => .bad)
      | _, _ => .bad) w
    | some (.bool false) => .ok (.d (.bool false)) w
    | _ => .bad)
  | _, _ => .bad
theorem rd_chain (hr : OpRd X.K r g) (hr' : OpRd X.K r' g') (ha : DE X E a ta m1) (hb : DE X E b tb m2) {c : Expr} (hc : DE X E c tc m3) :
    ∀ (σ : L2.St) (ρ : Rho) (H : Hp) (c : Ctx) (w : Om) (Q : VK), ER X.K c σ ρ → Hold X.K H c w → Post X.K X.mg E c (VR X.K) (mChain g g' m1 m2 m3 ρ w) Q → tChain r r' ta tb tc σ H Q :=
  fun σ ρ H c w Q er hd p => ha.rd σ ρ H c w _ er hd (Post.bind p fun x H1 c1 vx w1 g1 hd1 r1 p1 =>
    hb.rd σ ρ H1 c1 w1 _ (er.mono g1) hd1 (Post.bind p1 fun y H2 c2 vy w2 g2 hd2 r2 p2 => by
      have er2 := (er.mono g1).mono g2
      cases ex : look w2 vx with
      | none => simp [ex] at p2; exact p2.elim
      | some a' =>
        cases ey : look w2 vy with
        | none => simp [ex, ey] at p2; exact p2.elim
        | some b' =>
          cases eg : g a' b' with
          | none => simp [ex, ey, eg] at p2; exact p2.elim
          | some d =>
            simp only [ex, ey, eg] at p2
            refine hr x y H2 c2 w2 a' b' d _ hd2 (hd2.dq (r1.mono g2) ex) (hd2.dq r2 ey) eg fun v H' c' g3 hd' rr => ?_
            cases d with
            | bool k =>
              cases rr
              refine ⟨k, rfl, ?_⟩
              cases k with
              | true =>
                rw [if_pos rfl]
                refine hc.rd σ ρ H' c' w2 _ (er2.mono g3) hd' (Post.bind (Post.mono g3 p2) fun z H3 c3 vz w3 g4 hd3 r3 p3 => op_end hr' hd3 ((r2.mono g3).mono g4) r3 p3)
              | false =>
                rw [if_neg (by decide)]
                exact Post.mono g3 p2 _ H' c' (.refl _) hd' (.bl false)
            | _ => exact p2.elim))
theorem de_chain {c : Expr} {op op' : CmpOp} (ho : OpR X (compareOp op) r) (ho' : OpR X (compareOp op') r') (hr : OpRd X.K r g) (hr' : OpRd X.K r' g') (ha : DE X E a ta m1) (hb : DE X E b tb m2) (hc : DE X E c tc m3)
    (hm : lastMarks [op, op'] [b, c] = false := by with_unfolding_all rfl) : DE X E (.Compare a [op, op'] [b, c] pos) (tChain r r' ta tb tc) (mChain g g' m1 m2 m3) := ⟨pe_chain ho ho' ha.pe hb.pe hc.pe hm, rd_chain hr hr' ha hb hc⟩
theorem dt_chain {c : Expr} {op op' : CmpOp} (ho : OpR X (compareOp op) r) (ho' : OpR X (compareOp op') r') (hr : OpRd X.K r g) (hr' : OpRd X.K r' g') (ha : DE X E a ta m1) (hb : DE X E b tb m2) (hc : DE X E c tc m3)
    (hm : lastMarks [op, op'] [b, c] = false := by with_unfolding_all rfl) : DT X E (.Compare a [op, op'] [b, c] pos) (tTest (tChain r r' ta tb tc)) (mTest (mChain g g' m1 m2 m3)) :=
  ⟨pt_chain ho ho' ha.pe hb.pe hc.pe hm, rd_test (e := .Compare a [op, op'] [b, c] pos) (de_chain ho ho' hr hr' ha hb hc hm)⟩
end
/-! ### built-ins -/
omit [Tbs] in
inductive DqAll (K : PySem.W.Frag) (H H0 : Hp) : List V → List PyData → Prop
  | nil : DqAll K H H0 [] []
  | cons {v : V} {d : PyData} {vs : List V} {ds : List PyData} : Dq K H H0 v d → DqAll K H H0 vs ds → DqAll K H H0 (v :: vs) (d :: ds)
def CallRd (K : PySem.W.Frag) (r : List V → Hp → VK → Prop) (g : List PyData → Option PyData) : Prop :=
  ∀ (xs : List V) (H : Hp) (c : Ctx) (w : Om) (as : List PyData) (d : PyData) (Q : VK), Hold K H c w → DqAll K H c.H0 xs as → g as = some d →
    (∀ v H' c', Grow c c' → Hold K H' c' w → Dp K c'.H0 v d → Q v H') → r xs H Q
omit [Tbs] in
def looks (w : Om) : List Val → Option (List PyData)
  | [] => some []
  | x :: xs => match look w x, looks w xs with
    | some a, some as => some (a :: as)
    | _, _ => none
omit [Tbs] in
def mCall (g : List PyData → Option PyData) (ms : Rho → M (List Val)) : Rho → M Val := fun ρ => bnd (ms ρ) fun xs => fun w => match looks w xs with
  | some as => (match g as with | some d => .ok (.d d) w | none => .bad)
  | none => .bad
theorem looks_dq {K : PySem.W.Frag} {H : Hp} {c : Ctx} {w : Om} (hd : Hold K H c w) : ∀ {vs : List V} {xs : List Val} {as : List PyData}, VRs K c vs xs → looks w xs = some as → DqAll K H c.H0 vs as
  | _, _, _, .nil, e => by cases e; exact .nil
  | _, _, _, .cons (x := x) (xs := xs) r t, e => by
    unfold looks at e
    cases q : look w x with
    | none => simp [q] at e
    | some a =>
      cases q2 : looks w xs with
      | none => simp [q, q2] at e
      | some as => simp only [q, q2] at e; cases e; exact .cons (hd.dq r q) (looks_dq hd t q2)
section
variable {X : Cx} {E : XK} {e : Expr} {es : List Expr} {t : TA} {ms : Rho → M (List Val)} {r : List V → Hp → VK → Prop} {g : List PyData → Option PyData}
theorem de_call (pe : PE X e (tCB r t)) (hr : CallRd X.K r g) (ha : DA X E es t ms) : DE X E e (tCB r t) (mCall g ms) :=
  ⟨pe, fun σ ρ H c w Q er hd p => ha.rd σ ρ H c w _ er hd (Post.bind p fun vs H1 c1 xs w1 g1 hd1 r1 p1 => by
    cases ex : looks w1 xs with
    | none => simp [ex] at p1; exact p1.elim
    | some as =>
      cases eg : g as with
      | none => simp [ex, eg] at p1; exact p1.elim
      | some d =>
        simp only [ex, eg] at p1
        exact hr vs H1 c1 w1 as d Q hd1 (looks_dq hd1 r1 ex) eg fun v H' c' g hd' r => p1 v H' c' g hd' r)⟩
end
section
variable {K : PySem.W.Frag}
omit [Tbs] in
theorem CallR.or {X : Cx} {f : Value} {r r' : List V → Hp → VK → Prop} (h : CallR X f r) (h' : CallR X f r') : CallR X f (fun xs H Q => r xs H Q ∨ r' xs H Q) := by
  intro pins s σ H xs us Q I rr q
  rcases q with q | q
  · exact h pins s σ H xs us Q I rr q
  · exact h' pins s σ H xs us Q I rr q
omit [Tbs] in
/-- len -/
def rLen (K : PySem.W.Frag) : List V → Hp → VK → Prop := fun xs H Q => (∃ p ys, xs = [.ref p] ∧ (SqL K H p ys ∨ SqT K H p ys) ∧ Q (.int ys.length) H) ∨ ∃ z, xs = [.str z] ∧ z.length ≤ sizeLine ∧ Q (.int z.length) H
omit [Tbs] in
theorem cr_len {X : Cx} : CallR X (.builtin "len") (rLen X.K) := CallR.or call_len_seq call_len_str
omit [Tbs] in
def gLen : List PyData → Option PyData
  | [.list xs] => some (.int xs.length)
  | [.tuple xs] => some (.int xs.length)
  | [.str z] => if z.length ≤ 100000 then some (.int z.length) else none
  | _ => none
theorem rd_len : CallRd K (rLen K) gLen := by
  intro vs H c w as d Q hd hx eg k
  unfold gLen at eg
  split at eg
  · cases eg
    cases hx with
    | cons h t =>
      cases t
      obtain ⟨p, us, rfl, q1, a1⟩ := h.list hd.sub
      exact .inl ⟨p, us, rfl, .inl q1, by rw [a1.length]; exact k _ _ _ (.refl _) hd (.int _)⟩
  · cases eg
    cases hx with
    | cons h t =>
      cases t
      obtain ⟨p, us, rfl, q1, a1⟩ := h.tuple hd.sub
      exact .inl ⟨p, us, rfl, .inr q1, by rw [a1.length]; exact k _ _ _ (.refl _) hd (.int _)⟩
  · obtain ⟨hl, rfl⟩ := ite_some eg
    cases hx with
    | cons h t =>
      cases t
      cases h.str
      exact .inr ⟨_, rfl, lineOk hl, k _ _ _ (.refl _) hd (.int _)⟩
  · cases eg
omit [Tbs] in
/-- isinstance(e, T) -/
def gIsi (g : PyData → Bool) : PyData → Option PyData := fun a => some (.bool (g a))
omit [Tbs] in
def rIsi1 (K : PySem.W.Frag) (g : PyData → Bool) : V → Hp → VK → Prop := fun x H Q => ∃ d, Dp K H x d ∧ Q (.bl (g d)) H
theorem rd_isi {g : PyData → Bool} : UnRd K (rIsi1 K g) (gIsi g) := by
  intro x H c w a d Q hd hx eg k
  cases eg
  exact ⟨a, hx.dp hd.sub, k _ _ _ (.refl _) hd (.bl _)⟩
theorem de_isi {X : Cx} {E : XK} {e e2 : Expr} {te : TE} {m : Rho → M Val} {T : String} {g : PyData → Bool} (pe : PE X e2 (tCB (fun xs H Q => ∃ x d, xs = [x, .ty T] ∧ Dp X.K H x d ∧ Q (.bl (g d)) H) (tCons te (tCons (tC (.ty T)) tNil)))) (he : DE X E e te m) :
    DE X E e2 (tCB (fun xs H Q => ∃ x d, xs = [x, .ty T] ∧ Dp X.K H x d ∧ Q (.bl (g d)) H) (tCons te (tCons (tC (.ty T)) tNil))) (mUn (gIsi g) m) :=
  ⟨pe, fun σ ρ H c w Q er hd p => he.rd σ ρ H c w _ er hd (Post.bind p fun x H1 c1 vx w1 gg hd1 r1 p1 => by
    have z : rIsi1 X.K g x H1 Q := un_end rd_isi hd1 r1 p1
    obtain ⟨d, h1, h2⟩ := z
    exact ⟨x, d, rfl, h1, h2⟩)⟩
omit [Tbs] in
/-- tuple(xs), list(xs) -/
def gTuple : List PyData → Option PyData
  | [.list xs] => some (.tuple xs)
  | [.tuple xs] => some (.tuple xs)
  | _ => none
omit [Tbs] in
def gList : List PyData → Option PyData
  | [.list xs] => some (.list xs)
  | [.tuple xs] => some (.list xs)
  | _ => none
theorem rd_tuple : CallRd K (F.rTupF K) gTuple := by
  intro vs H c w as d Q hd hx eg k
  unfold gTuple at eg
  split at eg
  · cases eg
    cases hx with
    | cons h t =>
      cases t
      obtain ⟨p, us, rfl, q1, a1⟩ := h.list hd.sub
      exact ⟨p, us, rfl, .inl ⟨q1, fun t o nt ho => k _ _ _ (hd.grow (o := .frz o (.tup _)) nt) (hd.new nt (fun _ => ho)) (Dp.newF a1 (hd.free nt))⟩⟩
  · cases eg
    cases hx with
    | cons h t =>
      cases t
      obtain ⟨p, us, rfl, q1, a1⟩ := h.tuple hd.sub
      refine ⟨p, us, rfl, .inr ⟨q1, ?_⟩⟩
      rcases h with hx | ⟨_, _, _, _, z2, _⟩
      · exact k _ _ _ (.refl _) hd hx
      · cases z2
  · cases eg
theorem rd_list : CallRd K (fun xs H Q => ∃ p ys, xs = [.ref p] ∧ (SqL K H p ys ∨ SqT K H p ys) ∧ ∀ l, H l = none → Q (.ref l) (upd H l (.lst ys))) gList := by
  intro vs H c w as d Q hd hx eg k
  unfold gList at eg
  split at eg
  · cases eg
    cases hx with
    | cons h t =>
      cases t
      obtain ⟨p, us, rfl, q1, a1⟩ := h.list hd.sub
      exact ⟨p, us, rfl, .inl q1, fun t nt => k _ _ _ (hd.grow (o := .lst _) nt) (hd.new nt) (Dp.newL a1 (hd.free nt))⟩
  · cases eg
    cases hx with
    | cons h t =>
      cases t
      obtain ⟨p, us, rfl, q1, a1⟩ := h.tuple hd.sub
      exact ⟨p, us, rfl, .inr q1, fun t nt => k _ _ _ (hd.grow (o := .lst _) nt) (hd.new nt) (Dp.newL a1 (hd.free nt))⟩
  · cases eg
omit [Tbs] in
/-- int(x) -/
def gInt : List PyData → Option PyData
  | [.int i] => some (.int i)
  | [.bool b] => some (.int (if b then 1 else 0))
  | _ => none
theorem rd_int : CallRd K (fun xs H Q => (∃ i, xs = [.int i] ∧ Q (.int i) H) ∨ ∃ k, xs = [.bl k] ∧ Q (.int (if k then 1 else 0)) H) gInt := by
  intro vs H c w as d Q hd hx eg k
  unfold gInt at eg
  split at eg
  · cases eg
    cases hx with
    | cons h t => cases t; cases h.int; exact .inl ⟨_, rfl, k _ _ _ (.refl _) hd (.int _)⟩
  · cases eg
    cases hx with
    | cons h t => cases t; cases h.bool; exact .inr ⟨_, rfl, k _ _ _ (.refl _) hd (.int _)⟩
  · cases eg
omit [Tbs] in
/-- repr -/
def gRepr : List PyData → Option PyData
  | [a] => if szB 60 20000 a = true then some (.str a.shown) else none
  | _ => none
theorem rd_repr : CallRd K (fun xs H Q => ∃ x d, xs = [x] ∧ Dp K H x d ∧ SeqAt.shaped d = true ∧ d.showable = true ∧ d.shown.length ≤ sizeLine ∧ Q (.str d.shown) H) gRepr := by
  intro vs H c w as d Q hd hx eg k
  unfold gRepr at eg
  split at eg
  · obtain ⟨hl, rfl⟩ := ite_some eg
    have z := szB_of hl
    cases hx with
    | cons h t => cases t; exact ⟨_, _, rfl, h.dp hd.sub, z.shaped (by decide), z.sh, z.fits (by decide), k _ _ _ (.refl _) hd (.str _)⟩
  · cases eg
omit [Tbs] in
/-- lists of bools, of ints -/
def boolsOf : List PyData → Option (List Bool)
  | [] => some []
  | .bool b :: r => (boolsOf r).map (b :: ·)
  | _ => none
omit [Tbs] in
def intsOf : List PyData → Option (List Int)
  | [] => some []
  | .int b :: r => (intsOf r).map (b :: ·)
  | _ => none
omit [Tbs] in
theorem bools_v {H : Hp} : ∀ {vs : List V} {ds : List PyData} {bs : List Bool}, DpAll K H vs ds → boolsOf ds = some bs → vs = bs.map V.bl
  | _, _, _, .nil, e => by cases e; rfl
  | _, _, _, .cons (d := d) (ds := ds) h t, e => by
    cases d with
    | bool b =>
      simp only [boolsOf] at e
      cases q : boolsOf ds with
      | none => rw [q] at e; cases e
      | some r => rw [q] at e; cases e; cases h; rw [bools_v t q]; rfl
    | _ => cases e
omit [Tbs] in
theorem ints_v {H : Hp} : ∀ {vs : List V} {ds : List PyData} {bs : List Int}, DpAll K H vs ds → intsOf ds = some bs → vs = bs.map V.int
  | _, _, _, .nil, e => by cases e; rfl
  | _, _, _, .cons (d := d) (ds := ds) h t, e => by
    cases d with
    | int b =>
      simp only [intsOf] at e
      cases q : intsOf ds with
      | none => rw [q] at e; cases e
      | some r => rw [q] at e; cases e; cases h; rw [ints_v t q]; rfl
    | _ => cases e
omit [Tbs] in
def gAll : List PyData → Option PyData
  | [.list xs] => (boolsOf xs).map fun bs => .bool (bs.all id)
  | _ => none
omit [Tbs] in
def gAny : List PyData → Option PyData
  | [.list xs] => (boolsOf xs).map fun bs => .bool (bs.any id)
  | _ => none
omit [Tbs] in
def gSum : List PyData → Option PyData
  | [.list xs] => (intsOf xs).map fun bs => .int bs.sum
  | _ => none
theorem rd_all : CallRd K (rAll K) gAll := by
  intro vs H c w as d Q hd hx eg k
  unfold gAll at eg
  split at eg
  · cases hx with
    | cons h t =>
      cases t
      obtain ⟨p, us, rfl, q1, a1⟩ := h.list hd.sub
      rename_i xs
      cases q : boolsOf xs with
      | none => rw [q] at eg; cases eg
      | some bs => rw [q] at eg; cases eg; rw [bools_v a1 q] at q1; exact ⟨p, bs, rfl, q1, k _ _ _ (.refl _) hd (.bl _)⟩
  · cases eg
theorem rd_any : CallRd K (rAny K) gAny := by
  intro vs H c w as d Q hd hx eg k
  unfold gAny at eg
  split at eg
  · cases hx with
    | cons h t =>
      cases t
      obtain ⟨p, us, rfl, q1, a1⟩ := h.list hd.sub
      rename_i xs
      cases q : boolsOf xs with
      | none => rw [q] at eg; cases eg
      | some bs => rw [q] at eg; cases eg; rw [bools_v a1 q] at q1; exact ⟨p, bs, rfl, q1, k _ _ _ (.refl _) hd (.bl _)⟩
  · cases eg
theorem rd_sum : CallRd K (rSum K) gSum := by
  intro vs H c w as d Q hd hx eg k
  unfold gSum at eg
  split at eg
  · cases hx with
    | cons h t =>
      cases t
      obtain ⟨p, us, rfl, q1, a1⟩ := h.list hd.sub
      rename_i xs
      cases q : intsOf xs with
      | none => rw [q] at eg; cases eg
      | some bs => rw [q] at eg; cases eg; rw [ints_v a1 q] at q1; exact ⟨p, bs, rfl, q1, k _ _ _ (.refl _) hd (.int _)⟩
  · cases eg
omit [Tbs] in
def gGcd : List PyData → Option PyData
  | [.int a, .int b] => some (.int ((Nat.gcd a.natAbs b.natAbs : Nat) : Int))
  | _ => none
theorem rd_gcd : CallRd K rGcd gGcd := by
  intro vs H c w as d Q hd hx eg k
  unfold gGcd at eg
  split at eg
  · cases eg
    cases hx with
    | cons h t =>
      cases t with
      | cons h2 t =>
        cases t
        cases h.int
        cases h2.int
        exact ⟨_, _, rfl, k _ _ _ (.refl _) hd (.int _)⟩
  · cases eg
omit [Tbs] in
/-- min(i, j), max(i, j), abs(i), str(i), str(s) -/
def gMin : List PyData → Option PyData
  | [.int i, .int j] => some (.int (if j < i then j else i))
  | _ => none
omit [Tbs] in
def gMax : List PyData → Option PyData
  | [.int i, .int j] => some (.int (if j > i then j else i))
  | _ => none
theorem rd_min : CallRd K (fun xs H Q => ∃ i j, xs = [.int i, .int j] ∧ Q (.int (if j < i then j else i)) H) gMin := by
  intro vs H c w as d Q hd hx eg k
  unfold gMin at eg
  split at eg
  · cases eg
    cases hx with
    | cons h t => cases t with | cons h2 t => cases t; cases h.int; cases h2.int; exact ⟨_, _, rfl, k _ _ _ (.refl _) hd (.int _)⟩
  · cases eg
theorem rd_max : CallRd K (fun xs H Q => ∃ i j, xs = [.int i, .int j] ∧ Q (.int (if j > i then j else i)) H) gMax := by
  intro vs H c w as d Q hd hx eg k
  unfold gMax at eg
  split at eg
  · cases eg
    cases hx with
    | cons h t => cases t with | cons h2 t => cases t; cases h.int; cases h2.int; exact ⟨_, _, rfl, k _ _ _ (.refl _) hd (.int _)⟩
  · cases eg
omit [Tbs] in
def gAbs : List PyData → Option PyData
  | [.int i] => some (.int (if i < 0 then -i else i))
  | _ => none
theorem rd_abs : CallRd K (fun xs H Q => ∃ i, xs = [.int i] ∧ Q (.int (if i < 0 then -i else i)) H) gAbs := by
  intro vs H c w as d Q hd hx eg k
  unfold gAbs at eg
  split at eg
  · cases eg
    cases hx with
    | cons h t => cases t; cases h.int; exact ⟨_, rfl, k _ _ _ (.refl _) hd (.int _)⟩
  · cases eg
omit [Tbs] in
def gStr : List PyData → Option PyData
  | [.int i] => if i.natAbs.log2 < 1920 then some (.str (toString i)) else none
  | [.str z] => some (.str z)
  | _ => none
omit [Tbs] in
theorem cr_str {X : Cx} : CallR X (.type "str") (fun xs H Q => (∃ i, xs = [.int i] ∧ i.natAbs.log2 < 1920 ∧ Q (.str (toString i)) H) ∨ ∃ a, xs = [.str a] ∧ Q (.str a) H) := CallR.or call_str_int SkE.call_str_str
theorem rd_str : CallRd K (fun xs H Q => (∃ i, xs = [.int i] ∧ i.natAbs.log2 < 1920 ∧ Q (.str (toString i)) H) ∨ ∃ a, xs = [.str a] ∧ Q (.str a) H) gStr := by
  intro vs H c w as d Q hd hx eg k
  unfold gStr at eg
  split at eg
  · obtain ⟨hl, rfl⟩ := ite_some eg
    cases hx with
    | cons h t => cases t; cases h.int; exact .inl ⟨_, rfl, hl, k _ _ _ (.refl _) hd (.str _)⟩
  · cases eg
    cases hx with
    | cons h t => cases t; cases h.str; exact .inr ⟨_, rfl, k _ _ _ (.refl _) hd (.str _)⟩
  · cases eg
end
end D

set_option maxRecDepth 100000
namespace D
open PySem L2 G PySem.Spec PyProof.Rows
variable [Tbs]
/-! ### what is walked -/
omit [Tbs] in
def iSeq (K : PySem.W.Frag) (tl : TE) : TI := fun σ H R => tl σ H fun x H1 => (∃ a, x = .ref a ∧ (∃ xs, SqL K H1 a xs) ∧ R (Itl K a) H1) ∨ (∃ a, x = .ref a ∧ (∃ xs, SqT K H1 a xs) ∧ R (Itt K a) H1) ∨ ∃ z, x = .str z ∧ R (Its z) H1
omit [Tbs] in
theorem pi_seq {X : Cx} {tg l : Expr} {tl : TE} (hl : PE X l tl) : PI X tg l (iSeq X.K tl) := by
  refine ⟨fun pins s σ H R I h => ?_⟩
  refine thn (hl.run pins s σ H _ I h) fun v s1 ⟨x, H1, I1, r1, q1⟩ => ?_
  rcases q1 with ⟨a, e, ⟨xs, hq⟩, q⟩ | ⟨a, e, ⟨xs, hq⟩, q⟩ | ⟨z, e, q⟩
  · subst e
    cases r1
    obtain ⟨its, rv, p, hz⟩ := I1.list hq
    refine wpAny_pyIter_list p.isList ?_
    refine ⟨s1.heap.objs.size, [s1.heap.objs.size], _, _, H1, rfl, I1.kept (t' := s1.toks) fun b o e => Heap.get?_push_of_some _ e, turn_list a _, ⟨_, Heap.get?_push_size _ rfl, rfl, rfl⟩, fun b hb => ?_, q⟩
    have e : b = s1.heap.objs.size := by simpa using hb
    subst e
    exact I1.fpOk (Nat.le_refl _) (I1.hok.fresh (Nat.le_refl _))
  · subst e
    cases r1
    obtain ⟨its, rv, p, hz⟩ := I1.tuple hq
    refine wpAny_pyIter_tuple (show s1.heap.IsTuple a its.toArray from p) ?_
    refine ⟨s1.heap.objs.size, [s1.heap.objs.size], _, _, H1, rfl, I1.kept (t' := s1.toks) fun b o e => Heap.get?_push_of_some _ e, turn_tuple a _, ⟨_, Heap.get?_push_size _ rfl, rfl, rfl⟩, fun b hb => ?_, q⟩
    have e : b = s1.heap.objs.size := by simpa using hb
    subst e
    exact I1.fpOk (Nat.le_refl _) (I1.hok.fresh (Nat.le_refl _))
  · subst e
    obtain ⟨t, rfl⟩ := r1
    cases ha : z.cps.all (· < 128)
    · exact wpAny_pyIter_wide ha (pi_one (tk := s1.toks) I1 _ (turn_str _ z t "str_iterator" (.inr rfl)) ⟨_, Heap.get?_push_size _ rfl, rfl, rfl⟩ q)
    · exact wpAny_pyIter_ascii ha (pi_one (tk := s1.toks) I1 _ (turn_str _ z t "str_ascii_iterator" (.inl rfl)) ⟨_, Heap.get?_push_size _ rfl, rfl, rfl⟩ q)
omit [Tbs] in
def iEnumA (K : PySem.W.Frag) (ta : TA) : TI := fun σ H R => ta σ H fun vs H1 => ∃ a xs, vs = [.ref a] ∧ ((SqL K H1 a xs ∧ R (Ite K a) H1) ∨ (SqT K H1 a xs ∧ R (IteT K a) H1))
omit [Tbs] in
theorem pi_enumA {X : Cx} {e : Expr} {ta : TA} {p pos tpos : Pos} {elts : List Expr} {kk : Nat} (hg : Gl X "enumerate") (hm : X.mg "enumerate" = none) (ha : PA X [e] ta) (hs : starEach [e] X.env = [(false, eval e X.env)] := by rfl) :
    PI X (.Tuple elts kk tpos) (.Call (.Name "enumerate" p) [e] [] pos) (iEnumA X.K ta) := by
  refine ⟨fun pins s σ H R I h => Call_ (ld_blt I hg hm boot_enumerate (PyProof.Rows.callWith_type1 (thn (ha.run pos pins s σ H _ I h) ?_) hs rfl))⟩
  rintro us s1 ⟨vs, H1, I1, r1, a, xs, rfl, hq⟩
  cases r1 with
  | cons r rr =>
    cases rr
    cases r
    rcases hq with ⟨hq, q⟩ | ⟨hq, q⟩
    · obtain ⟨its, rv, p', hz⟩ := I1.list hq
      refine call_enumerate_list p'.isList fun h' he hit hsz hk => wpAny_pyIter_enum he ?_
      have I2 : Inv X pins σ H1 { s1 with heap := h' } := I1.kept (t' := s1.toks) hk
      refine ⟨s1.heap.objs.size + 1, [s1.heap.objs.size + 1, s1.heap.objs.size], _, _, H1, rfl, I2, turn_enum a (s1.heap.objs.size + 1) s1.heap.objs.size, ⟨⟨.none, he⟩, hit, Nat.succ_ne_self _⟩, fun b hb => ?_, q⟩
      have le : s1.heap.objs.size ≤ b := by
        rcases (show b = s1.heap.objs.size + 1 ∨ b = s1.heap.objs.size by simpa using hb) with rfl | rfl
        · exact Nat.le_add_right _ _
        · exact Nat.le_refl _
      exact I1.fpOk le (I1.hok.fresh le)
    · obtain ⟨its, rv, tu, hz⟩ := I1.tuple hq
      refine enum_of (isTuple_of tu) fun g he hit siz hk => wpAny_pyIter_enum he ?_
      have I2 : Inv X pins σ H1 { s1 with heap := g } := I1.kept (t' := s1.toks) hk
      refine ⟨s1.heap.objs.size + 1, [s1.heap.objs.size + 1, s1.heap.objs.size], _, _, H1, rfl, I2, turn_enumT a (s1.heap.objs.size + 1) s1.heap.objs.size, ⟨⟨.none, he⟩, hit, Nat.succ_ne_self _⟩, fun b hb => ?_, q⟩
      have le : s1.heap.objs.size ≤ b := by
        rcases (show b = s1.heap.objs.size + 1 ∨ b = s1.heap.objs.size by simpa using hb) with rfl | rfl
        · exact Nat.le_add_right _ _
        · exact Nat.le_refl _
      exact I1.fpOk le (I1.hok.fresh le)

/-- what it gives, turn by turn -/
def IterR (K : PySem.W.Frag) (c : Ctx) (J : It) (ds : List PyData) : Prop :=
  ∃ (G : Hp → Prop) (Y : Nat → Hp → V → Hp → Prop), Walk J ds.length G Y ∧ (∀ H' c' w', Same c.H0 c'.H0 → Hold K H' c' w' → G H') ∧
    ∀ i H1 c1 w1 x H2, i < ds.length → Same c.H0 c1.H0 → Hold K H1 c1 w1 → Y i H1 x H2 → ∃ c2 d, Grow c1 c2 ∧ Hold K H2 c2 w1 ∧ ds[i]? = some d ∧ Dp K c2.H0 x d
structure DI (X : Cx) (E : XK) (tg iter : Expr) (wi : TI) (mi : Rho → M (List PyData)) : Prop where
  pi : PI X tg iter wi
  rd : ∀ (σ : L2.St) (ρ : Rho) (H : Hp) (c : Ctx) (w : Om) (R : It → Hp → Prop), ER X.K c σ ρ → Hold X.K H c w → Post X.K X.mg E c (fun c' (J : It) (ds : List PyData) => IterR X.K c' J ds) (mi ρ w) R → wi σ H R
section
variable {K : PySem.W.Frag} {c : Ctx}
theorem iter_at {J : It} {ds : List PyData} {vs : List V} {G : Hp → Prop} (wk : Walk J vs.length G (YAt vs)) (al : DpAll K c.H0 vs ds) (hG : ∀ H' c' w', Same c.H0 c'.H0 → Hold K H' c' w' → G H') : IterR K c J ds := by
  rw [al.length] at wk
  refine ⟨G, _, wk, hG, fun i H1 c1 w1 x H2 hi g hd y => ?_⟩
  obtain ⟨rfl, e⟩ := y
  obtain ⟨d, e2, r⟩ := al.getV e
  exact ⟨c1, d, .refl _, hd, e2, (Held.of g).dp _ _ r⟩
theorem iter_list {p : Addr} {vs : List V} {ds : List PyData} (q : SqL K c.H0 p vs) (al : DpAll K c.H0 vs ds) : IterR K c (Itl K p) ds :=
  iter_at (walk_list (K := K) (a := p) (xs := vs)) al fun H' c' w' g hd => (Held.of (g.trans hd.sub)).sql q
theorem iter_tup {p : Addr} {vs : List V} {ds : List PyData} (q : SqT K c.H0 p vs) (al : DpAll K c.H0 vs ds) : IterR K c (Itt K p) ds :=
  iter_at (walk_tup (K := K) (a := p) (xs := vs)) al fun H' c' w' g hd => (Held.of (g.trans hd.sub)).sqt q
omit [Tbs] in
def strItems (z : Str) : List PyData := z.cps.toList.map fun ch => .str ⟨#[ch]⟩
theorem iter_str {z : Str} : IterR K c (Its z) (strItems z) := by
  have hl : (strItems z).length = z.cps.size := by simp [strItems]
  have wk := walk_str (z := z)
  rw [← hl] at wk
  refine ⟨_, _, wk, fun _ _ _ _ _ => trivial, fun i H1 c1 w1 x H2 hi g hd y => ?_⟩
  obtain ⟨rfl, ch, e, rfl⟩ := y
  refine ⟨c1, .str ⟨#[ch]⟩, .refl _, hd, ?_, .str _⟩
  unfold strItems
  rw [List.getElem?_map, Array.getElem?_toList, e]
  rfl
/-- new pairs -/
theorem iter_pair {J : It} {n : Nat} {G : Hp → Prop} {fx fy : Nat → Option V} {ds : List PyData} (po : Tbs.plain = true → ∀ i x y, fx i = some x → fy i = some y → ∃ k p, x = V.int k ∧ y = V.ref p) (wk : Walk J n G (YPair fx fy)) (hn : ds.length = n) (hG : ∀ H' c' w', Same c.H0 c'.H0 → Hold K H' c' w' → G H')
    (h : ∀ i x y, i < n → fx i = some x → fy i = some y → ∃ a b, ds[i]? = some (.tuple [a, b]) ∧ Dp K c.H0 x a ∧ Dp K c.H0 y b) : IterR K c J ds := by
  subst hn
  refine ⟨G, _, wk, hG, fun i H1 c1 w1 v H2 hi g hd y => ?_⟩
  obtain ⟨T, x, y, rfl, nT, rfl, ex, ey⟩ := y
  obtain ⟨a, b, e, da, db⟩ := h i x y hi ex ey
  exact ⟨_, _, hd.grow nT, hd.new nT (fun z => let ⟨k, p, e, e2⟩ := po z i x y ex ey; ⟨k, p, by rw [e, e2]⟩), e, Dp.newT (.cons ((Held.of g).dp _ _ da) (.cons ((Held.of g).dp _ _ db) .nil)) (hd.free nT)⟩
end
/-! ### sequences, ranges, enumerate, zip -/
omit [Tbs] in
def mSeq (m : Rho → M Val) : Rho → M (List PyData) := fun ρ => bnd (m ρ) fun x => bnd (frz x) fun d => fun w => match d with
  | .list xs => .ok xs w
  | .tuple xs => .ok xs w
  | .str z => .ok (strItems z) w
  | _ => .bad
omit [Tbs] in
def rangeD (lo : Int) (n : Nat) : List PyData := (List.range n).map fun i => .int (lo + (i : Nat))
omit [Tbs] in
def mRange1 (ms : Rho → M (List Val)) : Rho → M (List PyData) := fun ρ => bnd (ms ρ) fun xs => fun w => match xs with
  | [.d (.int j)] => if -(2 ^ 62) ≤ j ∧ j < 2 ^ 62 then .ok (rangeD 0 j.toNat) w else .bad
  | _ => .bad
omit [Tbs] in
def mRange2 (ms : Rho → M (List Val)) : Rho → M (List PyData) := fun ρ => bnd (ms ρ) fun xs => fun w => match xs with
  | [.d (.int i), .d (.int j)] => if -(2 ^ 62) ≤ i ∧ i < 2 ^ 62 ∧ -(2 ^ 62) ≤ j ∧ j < 2 ^ 62 then .ok (rangeD i (j - i).toNat) w else .bad
  | _ => .bad
omit [Tbs] in
def enumD (xs : List PyData) : List PyData := (List.range xs.length).zipWith (fun i x => .tuple [.int (i : Nat), x]) xs
omit [Tbs] in
def zipD (xs ys : List PyData) : List PyData := xs.zipWith (fun x y => .tuple [x, y]) ys
omit [Tbs] in
def mEnum (ms : Rho → M (List Val)) : Rho → M (List PyData) := fun ρ => bnd (ms ρ) fun xs => bnd (frzs xs) fun ds => fun w => match ds with
  | [.list xs] => .ok (enumD xs) w
  | [.tuple xs] => .ok (enumD xs) w
  | _ => .bad
omit [Tbs] in
def mZip (ms : Rho → M (List Val)) : Rho → M (List PyData) := fun ρ => bnd (ms ρ) fun xs => bnd (frzs xs) fun ds => fun w => match ds with
  | [.list xs, .list ys] => .ok (zipD xs ys) w
  | [.tuple xs, .tuple ys] => .ok (zipD xs ys) w
  | _ => .bad
section
variable {X : Cx} {E : XK} {tg e : Expr} {es : List Expr} {te : TE} {t : TA} {m : Rho → M Val} {ms : Rho → M (List Val)}
theorem di_seq (he : DE X E e te m) : DI X E tg e (iSeq X.K te) (mSeq m) :=
  ⟨pi_seq he.pe, fun σ ρ H c w R er hd p => he.rd σ ρ H c w _ er hd (Post.bind p fun v H1 c1 x w1 g1 hd1 r1 p1 => by
    obtain ⟨c2, w2, d, g2, hd2, rd, p2⟩ := post_frz hd1 r1 p1
    cases d with
    | list xs =>
      cases rd with
      | lst q al => exact .inl ⟨_, rfl, ⟨_, (Held.of hd2.sub).sql q⟩, p2 _ H1 c2 (.refl _) hd2 (iter_list q al)⟩
    | tuple xs =>
      cases rd with
      | tup q al => exact .inr (.inl ⟨_, rfl, ⟨_, (Held.of hd2.sub).sqt q⟩, p2 _ H1 c2 (.refl _) hd2 (iter_tup q al)⟩)
    | str z =>
      cases rd
      exact .inr (.inr ⟨z, rfl, p2 _ H1 c2 (.refl _) hd2 iter_str⟩)
    | _ => exact p2.elim)⟩
theorem iter_range {K : PySem.W.Frag} {c : Ctx} {lo : Int} {n : Nat} : IterR K c (Itr lo n) (rangeD lo n) := by
  have wk := walk_range (lo := lo) (n := n)
  have hl : (rangeD lo n).length = n := by simp [rangeD]
  refine ⟨fun _ => True, _, by rw [hl]; exact wk, fun _ _ _ _ _ => trivial, fun i H1 c1 w1 x H2 hi g hd y => ?_⟩
  obtain ⟨rfl, rfl⟩ := y
  rw [hl] at hi
  refine ⟨c1, _, .refl _, hd, ?_, .int _⟩
  simp [rangeD, hi]
theorem post_range {K : PySem.W.Frag} {mg : Str → Option Value} {C : Prop} [Decidable C] {γ δ : Type} {rel2 : Ctx → δ → γ → Prop} {a : γ} {w : Om} {c : Ctx} {Q : δ → Hp → Prop} (p : Post K mg E c rel2 (if C then R.ok a w else .bad) Q) : C ∧ Post K mg E c rel2 (R.ok a w) Q := by
  by_cases h : C
  · rw [if_pos h] at p; exact ⟨h, p⟩
  · rw [if_neg h] at p; exact p.elim
theorem di_range1 (ha : DA X E es t ms) (pi : PI X tg e (iRng1 t)) : DI X E tg e (iRng1 t) (mRange1 ms) :=
  ⟨pi, fun σ ρ H c w R er hd p => ha.rd σ ρ H c w _ er hd (Post.bind p fun vs H1 c1 xs w1 g1 hd1 r1 p1 => by
    revert p1
    split
    · intro p1
      rename_i j
      obtain ⟨h, p2⟩ := post_range p1
      cases r1 with
      | cons a b =>
        cases b
        cases a
        exact ⟨j, rfl, h.1, h.2, p2 _ H1 c1 (.refl _) hd1 iter_range⟩
    · intro p1; exact p1.elim)⟩
theorem di_range2 (ha : DA X E es t ms) (pi : PI X tg e (iRng2 t)) : DI X E tg e (iRng2 t) (mRange2 ms) :=
  ⟨pi, fun σ ρ H c w R er hd p => ha.rd σ ρ H c w _ er hd (Post.bind p fun vs H1 c1 xs w1 g1 hd1 r1 p1 => by
    revert p1
    split
    · intro p1
      rename_i i j
      obtain ⟨h, p2⟩ := post_range p1
      cases r1 with
      | cons a b =>
        cases b with
        | cons a2 b =>
          cases b
          cases a
          cases a2
          exact ⟨i, j, rfl, h, p2 _ H1 c1 (.refl _) hd1 iter_range⟩
    · intro p1; exact p1.elim)⟩
omit [Tbs] in
theorem enum_get {xs : List PyData} {i : Nat} {x : PyData} (h : xs[i]? = some x) : (enumD xs)[i]? = some (.tuple [.int (i : Nat), x]) := by
  have hi := (List.getElem?_eq_some_iff.mp h).1
  unfold enumD
  rw [List.getElem?_zipWith, h, List.getElem?_range hi]
omit [Tbs] in
theorem enum_len {xs : List PyData} : (enumD xs).length = xs.length := by simp [enumD]
theorem di_enum [NP] (ha : DA X E es t ms) (pi : PI X tg e (iEnumA X.K t)) : DI X E tg e (iEnumA X.K t) (mEnum ms) :=
  ⟨pi, fun σ ρ H c w R er hd p => ha.rd σ ρ H c w _ er hd (Post.bind p fun vs H1 c1 xs w1 g1 hd1 r1 p1 => by
    obtain ⟨c2, w2, ds, g2, hd2, rd, p2⟩ := post_frzs hd1 r1 p1
    revert p2
    split
    · intro p2
      cases rd with
      | cons a b =>
        cases b
        cases a with
        | lst q al =>
          refine ⟨_, _, rfl, .inl ⟨(Held.of hd2.sub).sql q, p2 _ H1 c2 (.refl _) hd2 ?_⟩⟩
          refine iter_pair NP.no walk_enum (by rw [enum_len, al.length]) (fun H' c' w' g hd => (Held.of (g.trans hd.sub)).sql q) fun i x y hi ex ey => ?_
          cases ex
          obtain ⟨d, e2, r⟩ := al.getV ey
          exact ⟨_, d, enum_get e2, .int _, r⟩
    · intro p2
      cases rd with
      | cons a b =>
        cases b
        cases a with
        | tup q al =>
          refine ⟨_, _, rfl, .inr ⟨(Held.of hd2.sub).sqt q, p2 _ H1 c2 (.refl _) hd2 ?_⟩⟩
          refine iter_pair NP.no walk_enumT (by rw [enum_len, al.length]) (fun H' c' w' g hd => (Held.of (g.trans hd.sub)).sqt q) fun i x y hi ex ey => ?_
          cases ex
          obtain ⟨d, e2, r⟩ := al.getV ey
          exact ⟨_, d, enum_get e2, .int _, r⟩
    · intro p2; exact p2.elim)⟩
omit [Tbs] in
def isRefD : PyData → Bool
  | .list _ => true
  | .tuple _ => true
  | _ => false
omit [Tbs] in
theorem isRefD_v {K : PySem.W.Frag} {H0 : Hp} {v : V} {d : PyData} (h : Dp K H0 v d) (e : isRefD d = true) : ∃ p, v = V.ref p := by
  cases h <;> first | exact ⟨_, rfl⟩ | cases e
omit [Tbs] in
def mEnumP (ms : Rho → M (List Val)) : Rho → M (List PyData) := fun ρ => bnd (ms ρ) fun xs => bnd (frzs xs) fun ds => fun w => match ds with
  | [.list xs] => if xs.all isRefD = true then .ok (enumD xs) w else .bad
  | [.tuple xs] => if xs.all isRefD = true then .ok (enumD xs) w else .bad
  | _ => .bad
theorem di_enumP (ha : DA X E es t ms) (pi : PI X tg e (iEnumA X.K t)) : DI X E tg e (iEnumA X.K t) (mEnumP ms) :=
  ⟨pi, fun σ ρ H c w R er hd p => ha.rd σ ρ H c w _ er hd (Post.bind p fun vs H1 c1 xs w1 g1 hd1 r1 p1 => by
    obtain ⟨c2, w2, ds, g2, hd2, rd, p2⟩ := post_frzs hd1 r1 p1
    revert p2
    split
    · intro p2
      cases rd with
      | cons a b =>
        cases b
        cases a with
        | lst q al =>
          obtain ⟨hall, p2⟩ := post_range p2
          refine ⟨_, _, rfl, .inl ⟨(Held.of hd2.sub).sql q, p2 _ H1 c2 (.refl _) hd2 ?_⟩⟩
          refine iter_pair (fun _ i x y ex ey => by
            obtain ⟨d, e2, r⟩ := al.getV ey
            obtain ⟨p, e3⟩ := isRefD_v r (List.all_eq_true.mp hall d (List.mem_of_getElem? e2))
            exact ⟨_, p, (Option.some.inj ex).symm, e3⟩) walk_enum (by rw [enum_len, al.length]) (fun H' c' w' g hd => (Held.of (g.trans hd.sub)).sql q) fun i x y hi ex ey => ?_
          cases ex
          obtain ⟨d, e2, r⟩ := al.getV ey
          exact ⟨_, d, enum_get e2, .int _, r⟩
    · intro p2
      cases rd with
      | cons a b =>
        cases b
        cases a with
        | tup q al =>
          obtain ⟨hall, p2⟩ := post_range p2
          refine ⟨_, _, rfl, .inr ⟨(Held.of hd2.sub).sqt q, p2 _ H1 c2 (.refl _) hd2 ?_⟩⟩
          refine iter_pair (fun _ i x y ex ey => by
            obtain ⟨d, e2, r⟩ := al.getV ey
            obtain ⟨p, e3⟩ := isRefD_v r (List.all_eq_true.mp hall d (List.mem_of_getElem? e2))
            exact ⟨_, p, (Option.some.inj ex).symm, e3⟩) walk_enumT (by rw [enum_len, al.length]) (fun H' c' w' g hd => (Held.of (g.trans hd.sub)).sqt q) fun i x y hi ex ey => ?_
          cases ex
          obtain ⟨d, e2, r⟩ := al.getV ey
          exact ⟨_, d, enum_get e2, .int _, r⟩
    · intro p2; exact p2.elim)⟩
omit [Tbs] in
theorem zip_get {xs ys : List PyData} {i : Nat} {x y : PyData} (h : xs[i]? = some x) (h2 : ys[i]? = some y) : (zipD xs ys)[i]? = some (.tuple [x, y]) := by
  unfold zipD
  rw [List.getElem?_zipWith, h, h2]
omit [Tbs] in
theorem zip_len {xs ys : List PyData} : (zipD xs ys).length = min xs.length ys.length := by simp [zipD]
omit [Tbs] in
theorem walk_zipT {K : PySem.W.Frag} {a b : Addr} {xs ys : List V} {n : Nat} (hn : n = min xs.length ys.length) : Walk (RZ.ItzT K a b) n (fun H => SqT K H a xs ∧ SqT K H b ys) (YPair (fun i => xs[i]?) (fun i => ys[i]?)) := by
  refine ⟨fun i H hi q => ⟨xs, ys, xs[i], ys[i], q.1, q.2, by simp, by simp⟩, fun H q => ⟨xs, ys, q.1, q.2, by omega⟩, ?_⟩
  rintro i H v H' _ q ⟨T, x, y, h1, h2, h3, h4, h5⟩
  exact ⟨T, x, y, h1, h2, h3, h4 xs q.1, h5 ys q.2⟩
theorem di_zip [NP] (ha : DA X E es t ms) (pi : PI X tg e (RZ.iZipA X.K t)) : DI X E tg e (RZ.iZipA X.K t) (mZip ms) :=
  ⟨pi, fun σ ρ H c w R er hd p => ha.rd σ ρ H c w _ er hd (Post.bind p fun vs H1 c1 xs w1 g1 hd1 r1 p1 => by
    obtain ⟨c2, w2, ds, g2, hd2, rd, p2⟩ := post_frzs hd1 r1 p1
    revert p2
    split
    · intro p2
      cases rd with
      | cons a b =>
        cases b with
        | cons a2 b =>
          cases b
          cases a with
          | lst q al =>
            cases a2 with
            | lst q2 al2 =>
              refine ⟨_, _, _, _, rfl, .inl ⟨(Held.of hd2.sub).sql q, (Held.of hd2.sub).sql q2, p2 _ H1 c2 (.refl _) hd2 ?_⟩⟩
              refine iter_pair NP.no (walk_zip rfl) (by rw [zip_len, al.length, al2.length]) (fun H' c' w' g hd => ⟨(Held.of (g.trans hd.sub)).sql q, (Held.of (g.trans hd.sub)).sql q2⟩) fun i x y hi ex ey => ?_
              obtain ⟨d, e2, r⟩ := al.getV ex
              obtain ⟨d', e2', r'⟩ := al2.getV ey
              exact ⟨_, _, zip_get e2 e2', r, r'⟩
    · intro p2
      cases rd with
      | cons a b =>
        cases b with
        | cons a2 b =>
          cases b
          cases a with
          | tup q al =>
            cases a2 with
            | tup q2 al2 =>
              refine ⟨_, _, _, _, rfl, .inr ⟨(Held.of hd2.sub).sqt q, (Held.of hd2.sub).sqt q2, p2 _ H1 c2 (.refl _) hd2 ?_⟩⟩
              refine iter_pair NP.no (walk_zipT rfl) (by rw [zip_len, al.length, al2.length]) (fun H' c' w' g hd => ⟨(Held.of (g.trans hd.sub)).sqt q, (Held.of (g.trans hd.sub)).sqt q2⟩) fun i x y hi ex ey => ?_
              obtain ⟨d, e2, r⟩ := al.getV ex
              obtain ⟨d', e2', r'⟩ := al2.getV ey
              exact ⟨_, _, zip_get e2 e2', r, r'⟩
    · intro p2; exact p2.elim)⟩
end
end D

set_option maxRecDepth 100000
namespace D
open PySem L2 G PySem.Spec PyProof.Rows
variable [Tbs]
/-! ### targets -/
structure DG (X : Cx) (tg : Expr) (g : TG) (tm : Val → Rho → M Rho) : Prop where
  pg : PG X tg g
  rd : ∀ (mg : Str → Option Value) (E : XK) (v : V) (x : Val) (σ : L2.St) (ρ : Rho) (H : Hp) (c : Ctx) (w : Om) (Q : L2.St → Hp → Prop), VR X.K c v x → ER X.K c σ ρ → Hold X.K H c w → Post X.K mg E c (ER X.K) (tm x ρ w) Q → g v σ H Q
structure DGs (X : Cx) (tgs : List Expr) (g : TGs) (tm : List PyData → Rho → M Rho) : Prop where
  pg : PGs X tgs g
  rd : ∀ (mg : Str → Option Value) (E : XK) (vs : List V) (xs : List PyData) (σ : L2.St) (ρ : Rho) (H : Hp) (c : Ctx) (w : Om) (Q : L2.St → Hp → Prop), DpAll X.K c.H0 vs xs → ER X.K c σ ρ → Hold X.K H c w → Post X.K mg E c (ER X.K) (tm xs ρ w) Q → g vs σ H Q
omit [Tbs] in
def mName (i : Nat) : Val → Rho → M Rho := fun x ρ w => .ok (ρ.set i (some x)) w
omit [Tbs] in
def mTNil : List PyData → Rho → M Rho := fun xs ρ w => match xs with
  | [] => .ok ρ w
  | _ => .bad
omit [Tbs] in
def mTCons (tm : Val → Rho → M Rho) (tms : List PyData → Rho → M Rho) : List PyData → Rho → M Rho := fun xs ρ => match xs with
  | d :: r => bnd (tm (.d d) ρ) fun ρ' => tms r ρ'
  | [] => fun _ => .bad
omit [Tbs] in
def mTTup (n : Nat) (tms : List PyData → Rho → M Rho) : Val → Rho → M Rho := fun x ρ w => match x with
  | .d (.tuple ds) => if ds.length = n then tms ds ρ w else .bad
  | _ => .bad
section
variable {X : Cx}
theorem dg_name {e : Expr} {i : Nat} (h : PG X e (gName i)) : DG X e (gName i) (mName i) :=
  ⟨h, fun mg E v x σ ρ H c w Q r er hd p => p _ H c (.refl _) hd (er.set i r)⟩
theorem dgs_nil : DGs X [] gNil mTNil := ⟨pgs_nil, fun mg E vs xs σ ρ H c w Q al er hd p => by
  cases xs with
  | nil => cases al; exact ⟨rfl, p _ H c (.refl _) hd er⟩
  | cons d r => exact p.elim⟩
theorem dgs_cons {e : Expr} {es : List Expr} {t : TG} {u : TGs} {tm : Val → Rho → M Rho} {tms : List PyData → Rho → M Rho} (h1 : DG X e t tm) (h2 : DGs X es u tms)
    (hs : (assignEach (e :: es) X.env).map (·.2) = assign e X.env :: (assignEach es X.env).map (·.2) := by rfl) : DGs X (e :: es) (gCons t u) (mTCons tm tms) :=
  ⟨pgs_cons h1.pg h2.pg hs, fun mg E vs xs σ ρ H c w Q al er hd p => by
    cases xs with
    | nil => exact p.elim
    | cons d r =>
      cases al with
      | cons a b => exact ⟨_, _, rfl, h1.rd mg E _ (.d d) σ ρ H c w _ a er hd (Post.bind p fun σ1 H1 c1 ρ1 w1 g1 hd1 er1 p1 => h2.rd mg E _ r σ1 ρ1 H1 c1 w1 _ ((Held.of g1.h).dpAll _ _ b) er1 hd1 p1)⟩⟩
theorem dg_tup {es : List Expr} {k : Nat} {t : TGs} {n : Nat} {tpos : Pos} {tms : List PyData → Rho → M Rho} (h : PGs X es t → PG X (.Tuple es k tpos) (gTup X.K n t)) (hs : DGs X es t tms) : DG X (.Tuple es k tpos) (gTup X.K n t) (mTTup n tms) :=
  ⟨h hs.pg, fun mg E v x σ ρ H c w Q r er hd p => by
    cases x with
    | o m => exact p.elim
    | d d =>
      cases d with
      | tuple ds =>
        obtain ⟨hl, p2⟩ := post_range (a := ρ) (w := w) (C := ds.length = n) (K := X.K) (mg := mg) (E := E) (c := c) (rel2 := fun _ (_ : Unit) (_ : Rho) => True) (Q := fun _ _ => True) (by
          by_cases hl : ds.length = n
          · rw [if_pos hl]; exact fun _ _ _ _ _ _ => trivial
          · simp only [mTTup] at p; rw [if_neg hl] at p; exact p.elim)
        have p3 : Post X.K mg E c (ER X.K) (tms ds ρ w) Q := by simp only [mTTup] at p; rw [if_pos hl] at p; exact p
        cases r with
        | tup q al => exact ⟨_, _, rfl, (Held.of hd.sub).sqt q, by rw [al.length]; exact hl, hs.rd mg E _ ds σ ρ H c w Q al er hd p3⟩
      | _ => exact p.elim⟩
end
omit [Tbs] in
/-- a target that sets the slots vs alone -/
def GIn (g : TG) (vs : List Nat) : Prop := ∀ v σ H (Q : L2.St → Hp → Prop), g v σ H Q → g v σ H fun σ' H' => L2.wipe σ' vs = L2.wipe σ vs ∧ Q σ' H'
omit [Tbs] in
def GIns (g : TGs) (vs : List Nat) : Prop := ∀ v σ H (Q : L2.St → Hp → Prop), g v σ H Q → g v σ H fun σ' H' => L2.wipe σ' vs = L2.wipe σ vs ∧ Q σ' H'
omit [Tbs] in
theorem wipe_set {σ : L2.St} {i : Nat} {x : Option V} : ∀ {vs : List Nat}, i ∈ vs → L2.wipe (σ.set i x) vs = L2.wipe σ vs
  | v :: vs, h => by
    by_cases hv : i ∈ vs
    · simp only [L2.wipe]; rw [wipe_set hv]
    · have e : i = v := by simpa [hv] using h
      subst e
      simp only [L2.wipe]
      have : ∀ (us : List Nat), i ∉ us → L2.wipe (σ.set i x) us = (L2.wipe σ us).set i x := by
        intro us hu
        induction us with
        | nil => rfl
        | cons u us ih =>
          simp only [List.mem_cons, not_or] at hu
          simp only [L2.wipe]
          rw [ih hu.2, List.set_comm _ _ hu.1]
      rw [this vs hv, List.set_set]
omit [Tbs] in
theorem gin_name {i : Nat} {vs : List Nat} (h : i ∈ vs) : GIn (gName i) vs := fun v σ H Q q => ⟨wipe_set h, q⟩
omit [Tbs] in
theorem gin_nil {vs : List Nat} : GIns gNil vs := fun v σ H Q q => ⟨q.1, rfl, q.2⟩
omit [Tbs] in
theorem gins_mono {g : TGs} {vs : List Nat} (h : GIns g vs) (mono : ∀ v σ H (Q Q' : L2.St → Hp → Prop), (∀ σ' H', Q σ' H' → Q' σ' H') → g v σ H Q → g v σ H Q') : True := trivial
omit [Tbs] in
def GMono (g : TG) : Prop := ∀ v σ H (Q Q' : L2.St → Hp → Prop), (∀ σ' H', Q σ' H' → Q' σ' H') → g v σ H Q → g v σ H Q'
omit [Tbs] in
def GMonos (g : TGs) : Prop := ∀ v σ H (Q Q' : L2.St → Hp → Prop), (∀ σ' H', Q σ' H' → Q' σ' H') → g v σ H Q → g v σ H Q'
omit [Tbs] in
theorem gm_name {i : Nat} : GMono (gName i) := fun v σ H Q Q' i q => i _ _ q
omit [Tbs] in
theorem gm_nil : GMonos gNil := fun v σ H Q Q' i q => ⟨q.1, i _ _ q.2⟩
omit [Tbs] in
theorem gm_cons {t : TG} {u : TGs} (h1 : GMono t) (h2 : GMonos u) : GMonos (gCons t u) := fun v σ H Q Q' i ⟨a, r, e, q⟩ => ⟨a, r, e, h1 _ _ _ _ _ (fun σ' H' q2 => h2 _ _ _ _ _ i q2) q⟩
omit [Tbs] in
theorem gm_tup {K : PySem.W.Frag} {n : Nat} {u : TGs} (h : GMonos u) : GMono (gTup K n u) := fun v σ H Q Q' i ⟨a, xs, e, s, l, q⟩ => ⟨a, xs, e, s, l, h _ _ _ _ _ i q⟩
omit [Tbs] in
theorem gin_cons {t : TG} {u : TGs} {vs : List Nat} (m1 : GMono t) (m2 : GMonos u) (h1 : GIn t vs) (h2 : GIns u vs) : GIns (gCons t u) vs := fun v σ H Q ⟨a, r, e, q⟩ =>
  ⟨a, r, e, m1 _ _ _ _ _ (fun σ' H' ⟨e1, q2⟩ => m2 _ _ _ _ _ (fun σ2 H2 ⟨e2, q3⟩ => ⟨e2.trans e1, q3⟩) (h2 _ _ _ _ q2)) (h1 _ _ _ _ q)⟩
omit [Tbs] in
theorem gin_tup {K : PySem.W.Frag} {n : Nat} {u : TGs} {vs : List Nat} (h : GIns u vs) : GIn (gTup K n u) vs := fun v σ H Q ⟨a, xs, e, s, l, q⟩ => ⟨a, xs, e, s, l, h _ _ _ _ q⟩

/-! ### statements -/
omit [Tbs] in
inductive Fl where
  | bad
  | nx (ρ : Rho) (w : Om)
  | rt (v : Val) (w : Om)
  | bk (ρ : Rho) (w : Om)
  | ct (ρ : Rho) (w : Om)
  | exn (x : Exn) (w : Om)
omit [Tbs] in
abbrev B := Rho → Om → Fl
def FPost (K : PySem.W.Frag) (mg : Str → Option Value) (E : XK) (c : Ctx) (D : Ends) : Fl → Prop
  | .bad => False
  | .nx ρ w => ∀ σ H c', Grow c c' → Hold K H c' w → ER K c' σ ρ → D.nx σ H
  | .rt x w => ∀ v H c', Grow c c' → Hold K H c' w → VR K c' v x → D.rt v H
  | .bk ρ w => ∀ σ H c', Grow c c' → Hold K H c' w → ER K c' σ ρ → D.bk σ H
  | .ct ρ w => ∀ σ H c', Grow c c' → Hold K H c' w → ER K c' σ ρ → D.ct σ H
  | .exn x w => ∀ cls d H' c', Grow c c' → Hold K H' c' w → ExR K mg c' x cls d H' → E cls d H'
section
variable {K : PySem.W.Frag} {mg : Str → Option Value} {E : XK} {c c' : Ctx} {D : Ends}
theorem FPost.mono {f : Fl} (g : Grow c c') (h : FPost K mg E c D f) : FPost K mg E c' D f := by
  cases f with
  | bad => exact h
  | nx ρ w => exact fun a b c2 g2 => h a b c2 (g.trans g2)
  | rt ρ w => exact fun a b c2 g2 => h a b c2 (g.trans g2)
  | bk ρ w => exact fun a b c2 g2 => h a b c2 (g.trans g2)
  | ct ρ w => exact fun a b c2 g2 => h a b c2 (g.trans g2)
  | exn x w => exact fun a d b c2 g2 => h a d b c2 (g.trans g2)
end
omit [Tbs] in
def R.thenF {α : Type} : R α → (α → Om → Fl) → Fl
  | .bad, _ => .bad
  | .ok a w, k => k a w
  | .exn x w, _ => .exn x w
theorem FPost.bind {K : PySem.W.Frag} {mg : Str → Option Value} {E : XK} {c : Ctx} {D : Ends} {α β : Type} {rel : Ctx → β → α → Prop} {r : R α} {k : α → Om → Fl} {Q : β → Hp → Prop} (h : FPost K mg E c D (r.thenF k))
    (q : ∀ v H' c' x w', Grow c c' → Hold K H' c' w' → rel c' v x → FPost K mg E c' D (k x w') → Q v H') : Post K mg E c rel r Q := by
  cases r with
  | bad => exact h
  | ok x w => exact fun v H' c2 g2 hd r => q v H' c2 x w g2 hd r (FPost.mono g2 h)
  | exn x w => exact h
structure DS (X : Cx) (E : XK) (s : Stmt) (t : TS) (b : B) : Prop where
  ps : PS X s t
  rd : ∀ (σ : L2.St) (ρ : Rho) (H : Hp) (c : Ctx) (w : Om) (D : Ends), ER X.K c σ ρ → Hold X.K H c w → FPost X.K X.mg E c D (b ρ w) → t D σ H
structure DSs (X : Cx) (E : XK) (s : List Stmt) (t : TS) (b : B) : Prop where
  ps : PSs X s t
  rd : ∀ (σ : L2.St) (ρ : Rho) (H : Hp) (c : Ctx) (w : Om) (D : Ends), ER X.K c σ ρ → Hold X.K H c w → FPost X.K X.mg E c D (b ρ w) → t D σ H
omit [Tbs] in
def fNext : B := fun ρ w => .nx ρ w
omit [Tbs] in
def fSeq (b b' : B) : B := fun ρ w => match b ρ w with
  | .nx ρ' w' => b' ρ' w'
  | r => r
omit [Tbs] in
def fAsg (m : Rho → M Val) (tm : Val → Rho → M Rho) : B := fun ρ w => (m ρ w).thenF fun x w => (tm x ρ w).thenF fun ρ' w => .nx ρ' w
omit [Tbs] in
def fRet (m : Rho → M Val) : B := fun ρ w => (m ρ w).thenF fun x w => .rt x w
omit [Tbs] in
def fRetN : B := fun _ w => .rt (.d .none) w
omit [Tbs] in
def fDrop (m : Rho → M Val) : B := fun ρ w => (m ρ w).thenF fun _ w => .nx ρ w
omit [Tbs] in
def fIf (mt : Rho → M Bool) (b b' : B) : B := fun ρ w => (mt ρ w).thenF fun k w => if k = true then b ρ w else b' ρ w
omit [Tbs] in
def fPar (i j : Nat) (ms : Rho → M (List Val)) : B := fun ρ w => (ms ρ w).thenF fun xs w => match xs with
  | [x, y] => .nx ((ρ.set i (some x)).set j (some y)) w
  | _ => .bad
omit [Tbs] in
def fPar3 (i j l : Nat) (ms : Rho → M (List Val)) : B := fun ρ w => (ms ρ w).thenF fun xs w => match xs with
  | [x, y, z] => .nx (((ρ.set i (some x)).set j (some y)).set l (some z)) w
  | _ => .bad
section
variable {X : Cx} {E : XK} {s : Stmt} {ss : List Stmt} {t u : TS} {b b' : B} {e tg : Expr} {es : List Expr} {te : TE} {ta : TA} {tt : TT} {g : TG} {m : Rho → M Val} {ms : Rho → M (List Val)} {mt : Rho → M Bool} {tm : Val → Rho → M Rho} {pos : Pos}
theorem dss_nil : DSs X E [] tNext fNext := ⟨pss_nil, fun σ ρ H c w D er hd p => p σ H c (.refl _) hd er⟩
theorem dss_one (h : DS X E s t b) : DSs X E [s] t b := ⟨pss_one h.ps, h.rd⟩
theorem dss_cons (h : DS X E s t b) (h2 : DSs X E ss u b') : DSs X E (s :: ss) (tSeq t u) (fSeq b b') :=
  ⟨pss_cons h.ps h2.ps, fun σ ρ H c w D er hd p => by
    refine h.rd σ ρ H c w _ er hd ?_
    unfold fSeq at p
    cases q : b ρ w with
    | nx ρ' w' => rw [q] at p; exact fun σ1 H1 c1 g1 hd1 er1 => h2.rd σ1 ρ' H1 c1 w' D er1 hd1 (FPost.mono g1 p)
    | bad => rw [q] at p; exact p
    | rt _ _ => rw [q] at p; exact p
    | bk _ _ => rw [q] at p; exact p
    | ct _ _ => rw [q] at p; exact p
    | exn _ _ => rw [q] at p; exact p⟩
theorem ds_asg (hp : PE X e te → PG X tg g → PS X s (tAsg te g)) (he : DE X E e te m) (hg : DG X tg g tm) : DS X E s (tAsg te g) (fAsg m tm) :=
  ⟨hp he.pe hg.pg, fun σ ρ H c w D er hd p => he.rd σ ρ H c w _ er hd (FPost.bind p fun v H1 c1 x w1 g1 hd1 r1 p1 =>
    hg.rd X.mg E v x σ ρ H1 c1 w1 _ r1 (er.mono g1) hd1 (FPost.bind p1 fun σ2 H2 c2 ρ2 w2 g2 hd2 er2 p2 => p2 σ2 H2 c2 (.refl _) hd2 er2))⟩
theorem ds_set {i : Nat} (hp : PE X e te → PS X s (tAsg te (gName i))) (he : DE X E e te m) : DS X E s (tAsg te (gName i)) (fAsg m (mName i)) :=
  ⟨hp he.pe, fun σ ρ H c w D er hd p => he.rd σ ρ H c w _ er hd (FPost.bind p fun v H1 c1 x w1 g1 hd1 r1 p1 => p1 _ H1 c1 (.refl _) hd1 ((er.mono g1).set i r1))⟩
theorem ds_par {i j : Nat} (hp : PA X es ta → PS X s (tPar i j ta)) (ha : DA X E es ta ms) : DS X E s (tPar i j ta) (fPar i j ms) :=
  ⟨hp ha.pa, fun σ ρ H c w D er hd p => ha.rd σ ρ H c w _ er hd (FPost.bind p fun vs H1 c1 xs w1 g1 hd1 r1 p1 => by
    revert p1
    split
    · intro p1
      cases r1 with
      | cons a r1 => cases r1 with
        | cons a2 r1 =>
          cases r1
          exact ⟨_, _, rfl, p1 _ H1 c1 (.refl _) hd1 (((er.mono g1).set i a).set j a2)⟩
    · intro p1; exact p1.elim)⟩
theorem ds_par3 {i j l : Nat} (hp : PA X es ta → PS X s (tPar3 i j l ta)) (ha : DA X E es ta ms) : DS X E s (tPar3 i j l ta) (fPar3 i j l ms) :=
  ⟨hp ha.pa, fun σ ρ H c w D er hd p => ha.rd σ ρ H c w _ er hd (FPost.bind p fun vs H1 c1 xs w1 g1 hd1 r1 p1 => by
    revert p1
    split
    · intro p1
      cases r1 with
      | cons a r1 => cases r1 with
        | cons a2 r1 => cases r1 with
          | cons a3 r1 =>
            cases r1
            exact ⟨_, _, _, rfl, p1 _ H1 c1 (.refl _) hd1 ((((er.mono g1).set i a).set j a2).set l a3)⟩
    · intro p1; exact p1.elim)⟩
theorem ds_ret (h : DE X E e te m) : DS X E (.Return (some e) pos) (tRet te) (fRet m) :=
  ⟨ps_ret h.pe, fun σ ρ H c w D er hd p => h.rd σ ρ H c w _ er hd (FPost.bind p fun v H1 c1 x w1 g1 hd1 r1 p1 => p1 v H1 c1 (.refl _) hd1 r1)⟩
theorem ds_retN : DS X E (.Return none pos) tRetN fRetN := ⟨ps_retN, fun σ ρ H c w D er hd p => p _ H c (.refl _) hd .non⟩
theorem ds_expr (hp : PE X e te → PS X s (tDrop te)) (h : DE X E e te m) : DS X E s (tDrop te) (fDrop m) :=
  ⟨hp h.pe, fun σ ρ H c w D er hd p => h.rd σ ρ H c w _ er hd (FPost.bind p fun v H1 c1 x w1 g1 hd1 r1 p1 => p1 σ H1 c1 (.refl _) hd1 (er.mono g1))⟩
theorem ds_if {a b2 : List Stmt} (hc : DT X E e tt mt) (ha : DSs X E a t b) (hb : DSs X E b2 u b') : DS X E (.If e a b2 pos) (tIfS tt t u) (fIf mt b b') :=
  ⟨ps_if hc.pt ha.ps hb.ps, fun σ ρ H c w D er hd p => hc.rd σ ρ H c w _ er hd (FPost.bind p fun v H1 c1 x w1 g1 hd1 r1 p1 => by
    cases r1
    cases v with
    | true => rw [if_pos rfl] at p1 ⊢; exact ha.rd σ ρ H1 c1 w1 D (er.mono g1) hd1 p1
    | false => rw [if_neg (by decide)] at p1 ⊢; exact hb.rd σ ρ H1 c1 w1 D (er.mono g1) hd1 p1)⟩
theorem ds_pass : DS X E (.Pass pos) tNext fNext := ⟨ps_pass, fun σ ρ H c w D er hd p => p σ H c (.refl _) hd er⟩
theorem ds_break : DS X E (.Break pos) tBreak (fun ρ w => .bk ρ w) := ⟨ps_break, fun σ ρ H c w D er hd p => p σ H c (.refl _) hd er⟩
theorem ds_cont : DS X E (.Continue pos) tCont (fun ρ w => .ct ρ w) := ⟨ps_continue, fun σ ρ H c w D er hd p => p σ H c (.refl _) hd er⟩
end
/-! ### loops -/
omit [Tbs] in
def whl (mt : Rho → M Bool) (b : B) : Nat → B
  | 0, _, _ => .bad
  | n + 1, ρ, w => match mt ρ w with
    | .bad => .bad
    | .exn x w => .exn x w
    | .ok false w => .nx ρ w
    | .ok true w => match b ρ w with
      | .nx ρ w => whl mt b n ρ w
      | .ct ρ w => whl mt b n ρ w
      | .bk ρ w => .nx ρ w
      | r => r
omit [Tbs] in
/-- more turns than any loop here takes -/
def fuel : Nat := 1000000000
omit [Tbs] in
def forL (tm : Val → Rho → M Rho) (b : B) : List PyData → B
  | [], ρ, w => .nx ρ w
  | d :: ds, ρ, w => match tm (.d d) ρ w with
    | .bad => .bad
    | .exn x w => .exn x w
    | .ok ρ w => match b ρ w with
      | .nx ρ w => forL tm b ds ρ w
      | .ct ρ w => forL tm b ds ρ w
      | .bk ρ w => .nx ρ w
      | r => r
omit [Tbs] in
def fFor (mi : Rho → M (List PyData)) (tm : Val → Rho → M Rho) (b : B) : B := fun ρ w => (mi ρ w).thenF fun ds w => forL tm b ds ρ w
section
variable {X : Cx} {E : XK} {t : TS} {b : B} {e tg iter : Expr} {tt : TT} {g : TG} {mt : Rho → M Bool} {mi : Rho → M (List PyData)} {tm : Val → Rho → M Rho} {pos : Pos} {body : List Stmt} {wi : TI}
theorem ds_while (hp : PassesOwn (model X.prog X.w) X.A X.env X.xe) (hc : DT X E e tt mt) (hb : DSs X E body t b) : DS X E (.While e body [] pos) (tWhile tt t) (whl mt b fuel) := by
  refine ⟨ps_while hp hc.pt hb.ps, fun σ ρ H c w D er hd p => ?_⟩
  refine ⟨fun m σ H => ∃ ρ c' w', Grow c c' ∧ ER X.K c' σ ρ ∧ Hold X.K H c' w' ∧ FPost X.K X.mg E c' D (whl mt b m ρ w'), ⟨fuel, ρ, c, w, .refl _, er, hd, p⟩, ?_⟩
  rintro m σ H ⟨ρ, c1, w1, g1, er, hd, p⟩
  cases m with
  | zero => exact p.elim
  | succ n =>
    refine hc.rd σ ρ H c1 w1 _ er hd ?_
    unfold whl at p
    cases q : mt ρ w1 with
    | bad => rw [q] at p; exact p.elim
    | exn x w2 => rw [q] at p; exact p
    | ok k w2 =>
      rw [q] at p
      intro k' H2 c2 g2 hd2 ek
      cases ek
      cases k with
      | false => rw [if_neg (by decide)]; exact FPost.mono g2 p σ H2 c2 (.refl _) hd2 (er.mono g2)
      | true =>
        rw [if_pos rfl]
        refine ⟨fun σ H => ∃ ρ c' w', Grow c c' ∧ ER X.K c' σ ρ ∧ Hold X.K H c' w' ∧ FPost X.K X.mg E c' D (whl mt b n ρ w'), fun σ' H' h => ⟨n, Nat.lt_succ_self _, h⟩, ?_⟩
        refine hb.rd σ ρ H2 c2 w2 _ (er.mono g2) hd2 ?_
        have p2 := FPost.mono g2 p
        dsimp only at p2
        cases q2 : b ρ w2 with
        | bad => rw [q2] at p2; exact p2.elim
        | nx ρ3 w3 => rw [q2] at p2; exact fun σ3 H3 c3 g3 hd3 er3 => ⟨ρ3, c3, w3, (g1.trans g2).trans g3, er3, hd3, FPost.mono g3 p2⟩
        | ct ρ3 w3 => rw [q2] at p2; exact fun σ3 H3 c3 g3 hd3 er3 => ⟨ρ3, c3, w3, (g1.trans g2).trans g3, er3, hd3, FPost.mono g3 p2⟩
        | bk ρ3 w3 => rw [q2] at p2; exact p2
        | rt v w3 => rw [q2] at p2; exact p2
        | exn x w3 => rw [q2] at p2; exact p2
theorem ds_for (hp : PassesOwn (model X.prog X.w) X.A X.env X.xe) (hc : X.calm = true) (hi : DI X E tg iter wi mi) (hg : DG X tg g tm) (hb : DSs X E body t b) (hs : ∀ x, foldedSetIterable iter X.env x = pure x := by intro _; rfl) :
    DS X E (.For tg iter body [] pos) (tFor wi g t) (fFor mi tm b) := by
  refine ⟨ps_for hp hc hi.pi hg.pg hb.ps hs, fun σ ρ H c w D er hd p => ?_⟩
  refine hi.rd σ ρ H c w _ er hd (FPost.bind p fun J H1 c1 ds w1 g1 hd1 it p1 => ?_)
  obtain ⟨G, Y, wk, hG, hY⟩ := it
  refine for_it wk (fun i σ H => ∃ ρ c' w', Grow c1 c' ∧ ER X.K c' σ ρ ∧ Hold X.K H c' w' ∧ FPost X.K X.mg E c' D (forL tm b (ds.drop i) ρ w')) ⟨ρ, c1, w1, .refl _, er.mono g1, hd1, p1⟩ ?_ ?_ ?_
  · rintro i σ H _ ⟨ρ, c', w', gg, _, hd', _⟩
    exact hG H c' w' gg.h hd'
  · rintro i x σ H H' hi' ⟨ρ, c', w', gg, er', hd', p'⟩ y
    obtain ⟨c2, d, g2, hd2, ed, rd⟩ := hY i H c' w' x H' hi' gg.h hd' y
    rw [show ds.drop i = d :: ds.drop (i + 1) by rw [List.drop_eq_getElem_cons hi']; congr 1; exact Option.some.inj ((List.getElem?_eq_getElem hi').symm.trans ed)] at p'
    unfold forL at p'
    refine hg.rd X.mg E x (.d d) σ ρ H' c2 w' _ rd (er'.mono g2) hd2 ?_
    have p2 := FPost.mono g2 p'
    cases q : tm (.d d) ρ w' with
    | bad => rw [q] at p2; exact p2.elim
    | exn y w3 => rw [q] at p2; exact p2
    | ok ρ3 w3 =>
      rw [q] at p2
      intro σ3 H3 c3 g3 hd3 er3
      refine hb.rd σ3 ρ3 H3 c3 w3 _ er3 hd3 ?_
      have p3 := FPost.mono g3 p2
      dsimp only at p3
      cases q2 : b ρ3 w3 with
      | bad => rw [q2] at p3; exact p3.elim
      | nx ρ4 w4 => rw [q2] at p3; exact fun σ4 H4 c4 g4 hd4 er4 => ⟨ρ4, c4, w4, ((gg.trans g2).trans g3).trans g4, er4, hd4, FPost.mono g4 p3⟩
      | ct ρ4 w4 => rw [q2] at p3; exact fun σ4 H4 c4 g4 hd4 er4 => ⟨ρ4, c4, w4, ((gg.trans g2).trans g3).trans g4, er4, hd4, FPost.mono g4 p3⟩
      | bk ρ4 w4 => rw [q2] at p3; exact p3
      | rt v w4 => rw [q2] at p3; exact p3
      | exn x w4 => rw [q2] at p3; exact p3
  · rintro σ H ⟨ρ, c', w', gg, er', hd', p'⟩
    rw [List.drop_length] at p'
    exact p' σ H c' (.refl _) hd' er'
end
end D

set_option maxRecDepth 100000
namespace D
open PySem L2 G PySem.Spec PyProof.Rows
variable [Tbs]
section
variable {K : PySem.W.Frag} {H : Hp} {c : Ctx} {w : Om}
theorem Hold.pinNew {p : Addr} {o : HO} (hd : Hold K H c w) (np : H p = none) (po : plainO o := by trivial) : Hold K (upd H p o) { c with ex := (p, o) :: c.ex } w := by
  have nal := hd.notin np
  refine ⟨hd.sub.trans (Same.upd np), hd.nd, hd.len, fun n a ob ea eo => ?_, fun q hq => ?_, ?_, tabs_same hd.tab (Same.upd np), ⟨hd.nt.1, fun q hq => ?_⟩, hd.pl⟩
  · have z := hd.obs n a ob ea eo
    have ne : a ≠ p := fun e => nal (by rw [← e]; exact List.mem_of_getElem? ea)
    cases ob with
    | lst xs => obtain ⟨h1, vs, h2, h3⟩ := z; exact ⟨h1, vs, by rw [upd_ne ne]; exact h2, h3⟩
    | frz xs => exact z
    | fdc kvs => exact z
    | dct kvs => obtain ⟨h1, vs, h2, h3⟩ := z; exact ⟨h1, vs, by rw [upd_ne ne]; exact h2, h3⟩
  · rcases List.mem_cons.mp hq with rfl | hq
    · exact ⟨upd_same, hd.free np, nal⟩
    · obtain ⟨h1, h2, h3⟩ := hd.pin q hq
      exact ⟨by rw [upd_ne (ne_of_none h1 np)]; exact h1, h2, h3⟩
  · rw [List.map_cons, List.nodup_cons]
    refine ⟨fun hm => ?_, hd.pnd⟩
    obtain ⟨q, hq, e⟩ := List.mem_map.mp hm
    obtain ⟨h1, _, _⟩ := hd.pin q hq
    rw [e, np] at h1
    cases h1
  · rcases List.mem_cons.mp hq with rfl | hq
    · exact po
    · exact hd.nt.2 q hq
theorem Hold.rePin {p : Addr} {o o' : HO} {ex : List (Addr × HO)} {H0 : Hp} {al : List Addr} (hd : Hold K H ⟨H0, al, (p, o) :: ex⟩ w) (po : plainO o' := by trivial) : Hold K (upd H p o') ⟨H0, al, (p, o') :: ex⟩ w := by
  obtain ⟨hp, h0, nal⟩ := hd.pin (p, o) (List.mem_cons_self ..)
  have nd := hd.pnd
  rw [List.map_cons, List.nodup_cons] at nd
  refine ⟨fun b u e => ?_, hd.nd, hd.len, fun n a ob ea eo => ?_, fun q hq => ?_, ?_, tabs_upd hd.tab hp (hd.nt.2 (p, o) (List.mem_cons_self ..)), ⟨hd.nt.1, fun q hq => ?_⟩, hd.pl⟩
  · have ne : b ≠ p := fun z => by subst z; rw [show (Ctx.mk H0 al ((b, o') :: ex)).H0 b = none from h0] at e; cases e
    rw [upd_ne ne]
    exact hd.sub b u e
  · have z := hd.obs n a ob ea eo
    have ne : a ≠ p := fun e => nal (by rw [← e]; exact List.mem_of_getElem? ea)
    cases ob with
    | lst xs => obtain ⟨h1, vs, h2, h3⟩ := z; exact ⟨h1, vs, by rw [upd_ne ne]; exact h2, h3⟩
    | frz xs => exact z
    | fdc kvs => exact z
    | dct kvs => obtain ⟨h1, vs, h2, h3⟩ := z; exact ⟨h1, vs, by rw [upd_ne ne]; exact h2, h3⟩
  · rcases List.mem_cons.mp hq with rfl | hq
    · exact ⟨upd_same, h0, nal⟩
    · obtain ⟨h1, h2, h3⟩ := hd.pin q (List.mem_cons_of_mem _ hq)
      have ne : q.1 ≠ p := fun e => nd.1 (by rw [← e]; exact List.mem_map.mpr ⟨q, hq, rfl⟩)
      exact ⟨by rw [upd_ne ne]; exact h1, h2, h3⟩
  · rw [List.map_cons, List.nodup_cons]; exact nd
  · rcases List.mem_cons.mp hq with rfl | hq
    · exact po
    · exact hd.nt.2 q (List.mem_cons_of_mem _ hq)
/-- the pinned list becomes data -/
theorem Hold.unPin {p : Addr} {vs : List V} {xs : List PyData} {ex : List (Addr × HO)} {H0 : Hp} {al : List Addr} (hd : Hold K H ⟨H0, al, (p, .lst vs) :: ex⟩ w) (al3 : DpAll K H0 vs xs) :
    Hold K H ⟨upd H0 p (.lst vs), al, ex⟩ w ∧ Same H0 (upd H0 p (.lst vs)) ∧ Dp K (upd H0 p (.lst vs)) (.ref p) (.list xs) := by
  obtain ⟨hp, h0, nal⟩ := hd.pin (p, .lst vs) (List.mem_cons_self ..)
  have nd := hd.pnd
  rw [List.map_cons, List.nodup_cons] at nd
  have sm : Same H0 (upd H0 p (.lst vs)) := Same.upd h0
  refine ⟨⟨fun b u e => ?_, hd.nd, hd.len, fun n a ob ea eo => ?_, fun q hq => ?_, nd.2, hd.tab, ⟨nt_upd hd.nt.1 (fun _ z => by cases z), fun q hq => hd.nt.2 q (List.mem_cons_of_mem _ hq)⟩, pl_upd hd.pl (fun _ => trivial)⟩, sm, .lst (.inl (.inl upd_same)) ((Held.of sm).dpAll _ _ al3)⟩
  · by_cases hb : b = p
    · subst hb
      have z : upd H0 b (.lst vs) b = some u := e
      rw [upd_same] at z
      cases z
      exact hp
    · exact hd.sub b u (by rw [← e]; exact (upd_ne hb).symm)
  · have z := hd.obs n a ob ea eo
    have ne : a ≠ p := fun e => nal (by rw [← e]; exact List.mem_of_getElem? ea)
    cases ob with
    | lst ys => obtain ⟨k1, ws, k2, k3⟩ := z; exact ⟨by show upd H0 p (.lst vs) a = none; rw [upd_ne ne]; exact k1, ws, k2, (Held.of sm).dpAll _ _ k3⟩
    | frz ys => obtain ⟨ws, k2, k3⟩ := z; exact ⟨ws, sm _ _ k2, (Held.of sm).dpAll _ _ k3⟩
    | fdc ys => obtain ⟨oo, ws, k2, k3⟩ := z; exact ⟨oo, ws, sm _ _ k2, k3.mono sm⟩
    | dct kvs => obtain ⟨k1, ws, k2, k3⟩ := z; exact ⟨by show upd H0 p (.lst vs) a = none; rw [upd_ne ne]; exact k1, ws, k2, k3.mono sm⟩
  · obtain ⟨k1, k2, k3⟩ := hd.pin q (List.mem_cons_of_mem _ hq)
    have ne : q.1 ≠ p := fun e => nd.1 (by rw [← e]; exact List.mem_map.mpr ⟨q, hq, rfl⟩)
    exact ⟨k1, by show upd H0 p (.lst vs) q.1 = none; rw [upd_ne ne]; exact k2, k3⟩
/-- the pinned object becomes one of one's own -/
theorem Hold.unPinO {p : Addr} {o : HO} {ob : Ob} {ex : List (Addr × HO)} {H0 : Hp} {al : List Addr} (hd : Hold K H ⟨H0, al, (p, o) :: ex⟩ w) (h : ObR K H ⟨H0, al, ex⟩ p ob) :
    Hold K H ⟨H0, al ++ [p], ex⟩ (w ++ [ob]) := by
  obtain ⟨hp, h0, nal⟩ := hd.pin (p, o) (List.mem_cons_self ..)
  have nd := hd.pnd
  rw [List.map_cons, List.nodup_cons] at nd
  refine ⟨hd.sub, ?_, by simp [show al.length = w.length from hd.len], fun n a ob2 ea eo => ?_, fun q hq => ?_, nd.2, hd.tab, ⟨hd.nt.1, fun q hq => hd.nt.2 q (List.mem_cons_of_mem _ hq)⟩, hd.pl⟩
  · rw [List.nodup_append]
    refine ⟨hd.nd, by simp, ?_⟩
    intro x hx y hy e
    simp at hy
    subst hy
    subst e
    exact nal hx
  · by_cases hn : n < al.length
    · rw [show (Ctx.mk H0 (al ++ [p]) ex).al = al ++ [p] from rfl, List.getElem?_append_left hn] at ea
      rw [List.getElem?_append_left (by rw [← hd.len]; exact hn)] at eo
      exact (hd.obs n a ob2 ea eo).al
    · have e1 : n = al.length := by
        have z := (List.getElem?_eq_some_iff.mp ea).1
        simp at z
        omega
      subst e1
      rw [show (Ctx.mk H0 (al ++ [p]) ex).al = al ++ [p] from rfl] at ea
      have ea2 : p = a := by simpa using ea
      have eo2 : ob = ob2 := by
        rw [show al.length = w.length from hd.len] at eo
        simpa using eo
      subst ea2
      subst eo2
      exact h.al
  · obtain ⟨k1, k2, k3⟩ := hd.pin q (List.mem_cons_of_mem _ hq)
    have ne : q.1 ≠ p := fun e => nd.1 (by rw [← e]; exact List.mem_map.mpr ⟨q, hq, rfl⟩)
    refine ⟨k1, k2, ?_⟩
    intro hm
    rcases List.mem_append.mp hm with hm | hm
    · exact k3 hm
    · simp at hm; exact ne hm
/-- a pin less -/
theorem Hold.dropPin {q : Addr × HO} {ex : List (Addr × HO)} {H0 : Hp} {al : List Addr} (hd : Hold K H ⟨H0, al, q :: ex⟩ w) : Hold K H ⟨H0, al, ex⟩ w := by
  have nd := hd.pnd
  rw [List.map_cons, List.nodup_cons] at nd
  exact ⟨hd.sub, hd.nd, hd.len, fun n a ob ea eo => (hd.obs n a ob ea eo).al, fun p hp => hd.pin p (List.mem_cons_of_mem _ hp), nd.2, hd.tab, ⟨hd.nt.1, fun p hp => hd.nt.2 p (List.mem_cons_of_mem _ hp)⟩, hd.pl⟩
omit [Tbs] in
theorem VR.ex {v : V} {x : Val} {H0 : Hp} {al : List Addr} {e1 e2 : List (Addr × HO)} (h : VR K ⟨H0, al, e1⟩ v x) : VR K ⟨H0, al, e2⟩ v x := by cases x <;> exact h
omit [Tbs] in
theorem ER.ex {σ : L2.St} {ρ : Rho} {H0 : Hp} {al : List Addr} {e1 e2 : List (Addr × HO)} (h : ER K ⟨H0, al, e1⟩ σ ρ) : ER K ⟨H0, al, e2⟩ σ ρ :=
  ⟨h.len, fun i x e => let ⟨v, e1, r⟩ := h.at_ i x e; ⟨v, e1, r.ex⟩⟩
end
omit [Tbs] in
theorem bnd_ok {α β : Type} {m : M α} {k : α → M β} {w w' : Om} {b : β} (h : bnd m k w = .ok b w') : ∃ a w1, m w = .ok a w1 ∧ k a w1 = .ok b w' := by
  unfold bnd at h
  cases q : m w with
  | bad => rw [q] at h; cases h
  | exn x w1 => rw [q] at h; cases h
  | ok a w1 => rw [q] at h; exact ⟨a, w1, rfl, h⟩
theorem post_ok {K : PySem.W.Frag} {mg : Str → Option Value} {E : XK} {c : Ctx} {α β : Type} {rel : Ctx → β → α → Prop} {r : R α} {a : α} {w : Om} {Q : β → Hp → Prop} (e : r = .ok a w) (h : ∀ v H' c', Grow c c' → Hold K H' c' w → rel c' v a → Q v H') : Post K mg E c rel r Q := by
  subst e
  exact h
/-- a clause's tests -/
structure DPT (X : Cx) (E : XK) (ifs : List Expr) (t : TT) (m : Rho → M Bool) : Prop where
  pt : PTs X ifs t
  rd : ∀ (σ : L2.St) (ρ : Rho) (H : Hp) (c : Ctx) (w : Om) (Q : Bool → Hp → Prop), ER X.K c σ ρ → Hold X.K H c w → Post X.K X.mg E c BB (m ρ w) Q → t σ H Q
omit [Tbs] in
def mYes : Rho → M Bool := fun _ w => .ok true w
theorem dpt_nil {X : Cx} {E : XK} : DPT X E [] tYes mYes := ⟨pts_nil, fun σ ρ H c w Q er hd p => p true H c (.refl _) hd rfl⟩
theorem dpt_one {X : Cx} {E : XK} {e : Expr} {t : TT} {m : Rho → M Bool} (h : DT X E e t m) : DPT X E [e] t m := ⟨pts_one h.pt, h.rd⟩
omit [Tbs] in
theorem wipe_set2 {σ : L2.St} {i : Nat} {x y : Option V} : ∀ {vs : List Nat}, (L2.wipe (σ.set i x) vs).set i y = (L2.wipe σ vs).set i y
  | [] => by simp [L2.wipe]
  | v :: vs => by
    by_cases hv : i = v
    · subst hv
      have ih := wipe_set2 (σ := σ) (i := i) (x := x) (y := y) (vs := vs)
      simp only [L2.wipe, List.set_set]
      exact ih
    · simp only [L2.wipe]
      rw [List.set_comm _ _ (fun z => hv z.symm), wipe_set2 (vs := vs), List.set_comm _ _ hv]
omit [Tbs] in
theorem wipe_wipe (σ : L2.St) : ∀ vs : List Nat, L2.wipe (L2.wipe σ vs) vs = L2.wipe σ vs
  | [] => rfl
  | v :: vs => by
    show (L2.wipe ((L2.wipe σ vs).set v none) vs).set v none = (L2.wipe σ vs).set v none
    rw [wipe_set2, wipe_wipe σ vs]
omit [Tbs] in
theorem gin_w {g : TG} {vs : List Nat} (h : GIn g vs) {v : V} {σ : L2.St} {H : Hp} {Q : L2.St → Hp → Prop} (q : g v (L2.wipe σ vs) H Q) : g v (L2.wipe σ vs) H fun σ' H' => L2.wipe σ' vs = L2.wipe σ vs ∧ Q σ' H' := by
  have z := h v _ H Q q
  simp only [wipe_wipe] at z
  exact z
omit [Tbs] in
def lcL (tm : Val → Rho → M Rho) (mt : Rho → M Bool) (me : Rho → M Val) (ρ0 : Rho) : List PyData → M (List PyData)
  | [] => ret []
  | d :: ds => bnd (tm (.d d) ρ0) fun ρ => bnd (mt ρ) fun k => if k = true then bnd (me ρ) fun x => bnd (frz x) fun a => bnd (lcL tm mt me ρ0 ds) fun r => ret (a :: r) else lcL tm mt me ρ0 ds
omit [Tbs] in
def noX {α : Type} (m : M α) : M α := fun w => match m w with
  | .exn _ _ => .bad
  | r => r
omit [Tbs] in
theorem noX_ok {α : Type} {m : M α} {w w' : Om} {a : α} (h : noX m w = .ok a w') : m w = .ok a w' := by
  unfold noX at h
  cases q : m w with
  | bad => rw [q] at h; cases h
  | exn x w1 => rw [q] at h; cases h
  | ok b w1 => rw [q] at h; exact h
omit [Tbs] in
theorem noX_exn {α : Type} {m : M α} {w w' : Om} {x : Exn} : noX m w ≠ .exn x w' := by
  unfold noX
  cases q : m w <;> intro h <;> simp at h
omit [Tbs] in
def mLcP (mi : Rho → M (List PyData)) (tm : Val → Rho → M Rho) (mt : Rho → M Bool) (me : Rho → M Val) (vs : List Nat) : Rho → M (List PyData) := fun ρ => bnd (mi ρ) fun ds => bnd (noX (lcL tm mt me (wipeR ρ vs) ds)) fun r =>
  if r.length ≤ 100000 then ret r else fun _ => .bad
omit [Tbs] in
def mLc (mi : Rho → M (List PyData)) (tm : Val → Rho → M Rho) (mt : Rho → M Bool) (me : Rho → M Val) (vs : List Nat) : Rho → M Val := fun ρ => bnd (mLcP mi tm mt me vs ρ) fun r => ret (.d (.list r))
omit [Tbs] in
/-- a list that its def will change -/
def mLcO (mi : Rho → M (List PyData)) (tm : Val → Rho → M Rho) (mt : Rho → M Bool) (me : Rho → M Val) (vs : List Nat) : Rho → M Val := fun ρ => bnd (mLcP mi tm mt me vs ρ) fun r w => .ok (.o w.length) (w ++ [.lst r])
section
variable {X : Cx} {E : XK} {elt tg iter : Expr} {ifs : List Expr} {scope : Scope} {own : List (Str × Nat)} {pos : Pos} {wi : TI} {g : TG} {tt : TT} {te : TE} {mi : Rho → M (List PyData)} {tm : Val → Rho → M Rho} {mt : Rho → M Bool} {me : Rho → M Val}
theorem lc_rd (hi : DI X E tg iter wi mi) (hg : ∀ (mg : Str → Option Value) (E : XK) (v : V) (x : Val) (σ : L2.St) (ρ : Rho) (H : Hp) (c : Ctx) (w : Om) (Q : L2.St → Hp → Prop), VR X.K c v x → ER X.K c σ ρ → Hold X.K H c w → Post X.K mg E c (ER X.K) (tm x ρ w) Q → g v σ H Q)
    (gi : GIn g (own.map (·.2)))
    (ht : ∀ (σ : L2.St) (ρ : Rho) (H : Hp) (c : Ctx) (w : Om) (Q : Bool → Hp → Prop), ER X.K c σ ρ → Hold X.K H c w → Post X.K X.mg E0 c BB (mt ρ w) Q → tt σ H Q)
    (he : ∀ (σ : L2.St) (ρ : Rho) (H : Hp) (c : Ctx) (w : Om) (Q : VK), ER X.K c σ ρ → Hold X.K H c w → Post X.K X.mg E0 c (VR X.K) (me ρ w) Q → te σ H Q)
    {α : Type} {k : List PyData → M α} {rel : Ctx → V → α → Prop}
    (fin : ∀ (D : Addr) (vs : List V) (r : List PyData) (H : Hp) (c : Ctx) (w : Om) (Q : VK), Hold X.K H { c with ex := (D, .lst vs) :: c.ex } w → DpAll X.K c.H0 vs r → Post X.K X.mg E c rel (k r w) Q → Q (.ref D) H) :
    ∀ (σ : L2.St) (ρ : Rho) (H : Hp) (c : Ctx) (w : Om) (Q : VK), ER X.K c σ ρ → Hold X.K H c w → Post X.K X.mg E c rel (bnd (mLcP mi tm mt me (own.map (·.2)) ρ) k w) Q → tLc wi g tt te (own.map (·.2)) σ H Q := by
  intro σ ρ H c w Q er hd p
  unfold mLcP at p
  have p' : Post X.K X.mg E c rel ((mi ρ w).then fun ds => bnd (bnd (noX (lcL tm mt me (wipeR ρ (own.map (·.2))) ds)) fun r => if r.length ≤ 100000 then ret r else fun _ => .bad) k) Q := by
    unfold bnd at p ⊢
    cases q : mi ρ w <;> rw [q] at p <;> exact p
  refine hi.rd σ ρ H c w _ er hd (Post.bind p' fun J H1 c1 ds w1 g1 hd1 it p1 => ?_)
  intro D nD
  have er1 := er.mono g1
  cases ql : noX (lcL tm mt me (wipeR ρ (own.map (·.2))) ds) w1 with
  | bad => unfold bnd at p1; rw [ql] at p1; exact p1.elim
  | exn x w2 => exact absurd ql noX_exn
  | ok r w2 =>
    have ql2 := noX_ok ql
    unfold bnd at p1
    rw [ql] at p1
    simp only [R.then] at p1
    by_cases hl : r.length ≤ 100000
    · rw [if_pos hl] at p1
      have p2 : Post X.K X.mg E c1 rel (k r w2) Q := p1
      obtain ⟨G, Y, wk, hG, hY⟩ := it
      have hd1p := hd1.pinNew (o := .lst []) nD
      refine lc_it wk (fun i H => ∃ H0 al w' vs acc rest, Same c1.H0 H0 ∧ (∃ q, al = c1.al ++ q) ∧ Hold X.K H ⟨H0, al, (D, .lst vs) :: c1.ex⟩ w' ∧ DpAll X.K H0 vs acc ∧ acc ++ rest = r ∧ lcL tm mt me (wipeR ρ (own.map (·.2))) (ds.drop i) w' = .ok rest w2) ?_ ?_ ?_ ?_
      · exact ⟨c1.H0, c1.al, w1, [], [], r, .refl _, ⟨[], by simp⟩, hd1p, .nil, rfl, ql2⟩
      · rintro i H2 _ ⟨H0, al, w', vs, acc, rest, sm, pa, hd', al', ea, el⟩
        exact hG H2 ⟨H0, al, _⟩ w' sm hd'
      · rintro i x H2 H3 hi' ⟨H0, al, w', vs, acc, rest, sm, ⟨pq, pa⟩, hd', al', ea, el⟩ y
        obtain ⟨c3, d, g3, hd3, ed, rd⟩ := hY i H2 ⟨H0, al, (D, .lst vs) :: c1.ex⟩ w' x H3 hi' sm hd' y
        obtain ⟨c3h, c3a, c3e⟩ := c3
        obtain rfl : c3e = (D, .lst vs) :: c1.ex := g3.e
        rw [show ds.drop i = d :: ds.drop (i + 1) by rw [List.drop_eq_getElem_cons hi']; congr 1; exact Option.some.inj ((List.getElem?_eq_getElem hi').symm.trans ed)] at el
        simp only [lcL] at el
        obtain ⟨ρ4, w4, e4, el⟩ := bnd_ok el
        obtain ⟨kk, w5, e5, el⟩ := bnd_ok el
        have erw : ER X.K ⟨c3h, c3a, (D, .lst vs) :: c1.ex⟩ (L2.wipe σ (own.map (·.2))) (wipeR ρ (own.map (·.2))) := by
          have z : ER X.K c1 σ ρ := er1
          obtain ⟨q3, e3⟩ := g3.a
          have gg : Grow c1 ⟨c3h, c3a, c1.ex⟩ := ⟨sm.trans g3.h, ⟨pq ++ q3, by show c3a = _; rw [show c3a = al ++ q3 from e3, pa, List.append_assoc]⟩, rfl⟩
          exact (z.mono gg).ex.wipe _
        refine gin_w gi (hg X.mg E0 x (.d d) _ _ H3 _ w' _ rd erw hd3 (post_ok e4 fun σ4 H4 c4 g4 hd4 er4 => ?_))
        refine ht σ4 ρ4 H4 c4 w4 _ er4 hd4 (post_ok e5 fun b H5 c5 g5 hd5 eb => ?_)
        cases eb
        obtain ⟨c5h, c5a, c5e⟩ := c5
        obtain rfl : c5e = (D, .lst vs) :: c1.ex := (g4.trans g5).e
        have er5 := er4.mono g5
        have gall := (g3.trans g4).trans g5
        obtain ⟨q5, e5a⟩ := gall.a
        cases kk with
        | false =>
          rw [if_neg (by decide)] at el ⊢
          exact ⟨c5h, c5a, w5, vs, acc, rest, sm.trans gall.h, ⟨pq ++ q5, by rw [show c5a = al ++ q5 from e5a, pa, List.append_assoc]⟩, hd5, (Held.of gall.h).dpAll _ _ al', ea, el⟩
        | true =>
          rw [if_pos rfl] at el ⊢
          obtain ⟨xv, w6, e6, el⟩ := bnd_ok el
          obtain ⟨a, w7, e7, el⟩ := bnd_ok el
          obtain ⟨r8, w8, e8, el⟩ := bnd_ok el
          cases el
          refine he σ4 ρ4 H5 _ w5 _ er5 hd5 (post_ok e6 fun v H6 c6 g6 hd6 r6 => ?_)
          obtain ⟨c7, g7, hd7, r7⟩ := frz_ok hd6 r6 e7
          obtain ⟨c7h, c7a, c7e⟩ := c7
          obtain rfl : c7e = (D, .lst vs) :: c1.ex := (g6.trans g7).e
          have gal2 := (gall.trans g6).trans g7
          obtain ⟨q7, e7a⟩ := gal2.a
          have al7 := (Held.of gal2.h).dpAll _ _ al'
          refine ⟨vs, (hd7.pin _ (List.mem_cons_self ..)).1, lineOk2 ?_, c7h, c7a, w7, vs ++ [v], acc ++ [a], r8, sm.trans gal2.h, ⟨pq ++ q7, by rw [show c7a = al ++ q7 from e7a, pa, List.append_assoc]⟩, hd7.rePin, al7.append (.cons r7 .nil), by rw [← ea]; simp, e8⟩
          rw [al'.length]
          rw [← ea, List.length_append, List.length_cons] at hl
          omega
      · rintro H2 ⟨H0, al, w', vs, acc, rest, sm, ⟨pq, pa⟩, hd', al', ea, el⟩
        rw [List.drop_length] at el
        cases el
        rw [List.append_nil] at ea
        subst ea
        have gg : Grow c1 ⟨H0, al, c1.ex⟩ := ⟨sm, ⟨pq, pa⟩, rfl⟩
        exact fin D vs acc H2 ⟨H0, al, c1.ex⟩ w2 Q hd' al' (Post.mono gg p2)
    · rw [if_neg hl] at p1; exact p1.elim
theorem de_lc (hc : X.calm = true) (hN : X.N.Nodup) (hi : DI X E tg iter wi mi) (ok : BlkOk X.N X.env.scope scope own)
    (hg : ∀ (s : Shared) (H : Hp) (C : Addr) (cl : List (Str × Addr)) (fp : List Addr), DG (X.blk s H scope (compEnvC scope cl C X.env) fp) tg g tm) (gi : GIn g (own.map (·.2)))
    (ht : ∀ (s : Shared) (H : Hp) (C : Addr) (cl : List (Str × Addr)) (fp : List Addr), DPT (X.blk s H scope (compEnvC scope cl C X.env) fp) E0 ifs tt mt)
    (he : ∀ (s : Shared) (H : Hp) (C : Addr) (cl : List (Str × Addr)) (fp : List Addr), DE (X.blk s H scope (compEnvC scope cl C X.env) fp) E0 elt te me) (hs : ∀ x, foldedSetIterable iter X.env x = pure x := by intro _; rfl) :
    DE X E (.ListComp elt [⟨tg, iter, ifs, 0⟩] scope pos) (tLc wi g tt te (own.map (·.2))) (mLc mi tm mt me (own.map (·.2))) :=
  ⟨pe_lc hc hN hi.pi ok (fun s H C cl fp => (hg s H C cl fp).pg) (fun s H C cl fp => (ht s H C cl fp).pt) (fun s H C cl fp => (he s H C cl fp).pe) hs,
    lc_rd hi (hg {} (fun _ => none) 0 [] []).rd gi (ht {} (fun _ => none) 0 [] []).rd (he {} (fun _ => none) 0 [] []).rd fun D vs r H c w Q hd al p => by
      obtain ⟨h1, h2, h3⟩ := hd.unPin al
      exact p (.ref D) H ⟨upd c.H0 D (.lst vs), c.al, c.ex⟩ ⟨h2, ⟨[], by simp⟩, rfl⟩ h1 h3⟩
theorem de_lcO (hc : X.calm = true) (hN : X.N.Nodup) (hi : DI X E tg iter wi mi) (ok : BlkOk X.N X.env.scope scope own)
    (hg : ∀ (s : Shared) (H : Hp) (C : Addr) (cl : List (Str × Addr)) (fp : List Addr), DG (X.blk s H scope (compEnvC scope cl C X.env) fp) tg g tm) (gi : GIn g (own.map (·.2)))
    (ht : ∀ (s : Shared) (H : Hp) (C : Addr) (cl : List (Str × Addr)) (fp : List Addr), DPT (X.blk s H scope (compEnvC scope cl C X.env) fp) E0 ifs tt mt)
    (he : ∀ (s : Shared) (H : Hp) (C : Addr) (cl : List (Str × Addr)) (fp : List Addr), DE (X.blk s H scope (compEnvC scope cl C X.env) fp) E0 elt te me) (hs : ∀ x, foldedSetIterable iter X.env x = pure x := by intro _; rfl) :
    DE X E (.ListComp elt [⟨tg, iter, ifs, 0⟩] scope pos) (tLc wi g tt te (own.map (·.2))) (mLcO mi tm mt me (own.map (·.2))) :=
  ⟨pe_lc hc hN hi.pi ok (fun s H C cl fp => (hg s H C cl fp).pg) (fun s H C cl fp => (ht s H C cl fp).pt) (fun s H C cl fp => (he s H C cl fp).pe) hs,
    lc_rd hi (hg {} (fun _ => none) 0 [] []).rd gi (ht {} (fun _ => none) 0 [] []).rd (he {} (fun _ => none) 0 [] []).rd fun D vs r H c w Q hd al p => by
      have hp := hd.pin _ (List.mem_cons_self ..)
      refine p (.ref D) H ⟨c.H0, c.al ++ [D], c.ex⟩ ⟨.refl _, ⟨[D], rfl⟩, rfl⟩ (hd.unPinO (ob := .lst r) ⟨hp.2.1, vs, hp.1, al⟩) ⟨D, rfl, ?_⟩
      have z : c.al.length = w.length := hd.len
      simp [← z]⟩
end
end D

set_option maxRecDepth 100000
namespace D
open PySem L2 G PySem.Spec PyProof.Rows
variable [Tbs]
theorem ob_at {K : PySem.W.Frag} {H : Hp} {c : Ctx} {w : Om} {v : V} {n : Nat} {o : Ob} (hd : Hold K H c w) (r : VR K c v (.o n)) (e : w[n]? = some o) : ∃ a, v = .ref a ∧ c.al[n]? = some a ∧ ObR K H c a o := by
  obtain ⟨a, rfl, ea⟩ := r
  exact ⟨a, rfl, ea, hd.obs n a o ea e⟩
/-! ### xs.append(e), xs.pop(i) -/
omit [Tbs] in
def isL (w : Om) : Val → Bool
  | .o n => match w[n]? with
    | some (.lst _) => true
    | _ => false
  | _ => false
omit [Tbs] in
def mAppend (mo me : Rho → M Val) : Rho → M Val := fun ρ => bnd (mo ρ) fun x => fun w => if isL w x = true then (bnd (me ρ) fun y => bnd (frz y) fun a => fun w => match x with
    | .o n => (match w[n]? with
      | some (.lst xs) => if xs.length < 100000 then .ok (.d .none) (w.set n (.lst (xs ++ [a]))) else .bad
      | _ => .bad)
    | _ => .bad) w else .bad
omit [Tbs] in
def mPopAt (mo me : Rho → M Val) : Rho → M Val := fun ρ => bnd (mo ρ) fun x => fun w => if isL w x = true then (bnd (me ρ) fun y => fun w => match x, y with
    | .o n, .d (.int i) => (match w[n]? with
      | some (.lst xs) => if -(2 ^ 63) ≤ i ∧ i < 2 ^ 63 then (match seqIndex? i xs.length with
        | some k => (match xs[k]? with
          | some d => .ok (.d d) (w.set n (.lst (xs.eraseIdx k)))
          | none => .bad)
        | none => .bad) else .bad
      | _ => .bad)
    | _, _ => .bad) w else .bad
section
variable {K : PySem.W.Frag} {H : Hp} {c : Ctx} {w : Om}
theorem isL_ty {v : V} {x : Val} (hd : Hold K H c w) (r : VR K c v x) (h : isL w x = true) : tyV K "list" v H := by
  cases x with
  | d x => cases h
  | o n =>
    cases q : w[n]? with
    | none => simp [isL, q] at h
    | some o =>
      cases o with
      | lst xs =>
        obtain ⟨a, rfl, ea, _, vs, e, _⟩ := ob_at hd r q
        exact .inl ⟨rfl, vs, .inl (.inl e)⟩
      | frz xs => simp [isL, q] at h
      | dct xs => simp [isL, q] at h
      | fdc xs => simp [isL, q] at h
omit [Tbs] in
theorem DpAll.eraseIdx : ∀ {vs : List V} {ds : List PyData} (k : Nat), DpAll K H vs ds → DpAll K H (vs.eraseIdx k) (ds.eraseIdx k)
  | _, _, _, .nil => .nil
  | _, _, 0, .cons _ t => t
  | _, _, k + 1, .cons a t => .cons a (DpAll.eraseIdx k t)
end
section
variable {X : Cx} {E : XK} {o e call : Expr} {to te : TE} {mo me : Rho → M Val}
theorem de_append (pe : PE X call (tBM X.K "list" rAppend to (tCons te tNil))) (ho : DE X E o to mo) (he : DE X E e te me) : DE X E call (tBM X.K "list" rAppend to (tCons te tNil)) (mAppend mo me) :=
  ⟨pe, fun σ ρ H c w Q er hd p => ho.rd σ ρ H c w _ er hd (Post.bind p fun v H1 c1 x w1 g1 hd1 r1 p1 => by
    by_cases hl : isL w1 x = true
    · rw [if_pos hl] at p1
      refine ⟨isL_ty hd1 r1 hl, he.rd σ ρ H1 c1 w1 _ (er.mono g1) hd1 (Post.bind p1 fun u H2 c2 y w2 g2 hd2 r2 p2 => ?_)⟩
      obtain ⟨c3, w3, a, g3, hd3, rd, p3⟩ := post_frz hd2 r2 p2
      have r13 := (r1.mono g2).mono g3
      cases x with
      | d x => exact p3.elim
      | o n =>
        dsimp only at p3
        cases q : w3[n]? with
        | none => rw [q] at p3; exact p3.elim
        | some ob =>
          rw [q] at p3
          cases ob with
          | lst xs =>
            obtain ⟨hl2, p4⟩ := post_range p3
            obtain ⟨a1, e1, ea, n0, vs, eh, al⟩ := ob_at hd3 r13 q
            subst e1
            refine ⟨a1, vs, u, rfl, rfl, eh, lineOk2 (by rw [al.length]; exact hl2), p4 _ _ c3 (.refl _) (hd3.put ea n0 (ob := .lst (xs ++ [a])) ⟨n0, _, upd_same, al.append (.cons rd .nil)⟩) .non⟩
          | frz xs => exact p3.elim
          | dct xs => exact p3.elim
          | fdc xs => exact p3.elim
    · rw [if_neg hl] at p1; exact p1.elim)⟩
theorem de_popAt (pe : PE X call (tBM X.K "list" rPopAt to (tCons te tNil))) (ho : DE X E o to mo) (he : DE X E e te me) : DE X E call (tBM X.K "list" rPopAt to (tCons te tNil)) (mPopAt mo me) :=
  ⟨pe, fun σ ρ H c w Q er hd p => ho.rd σ ρ H c w _ er hd (Post.bind p fun v H1 c1 x w1 g1 hd1 r1 p1 => by
    by_cases hl : isL w1 x = true
    · rw [if_pos hl] at p1
      refine ⟨isL_ty hd1 r1 hl, he.rd σ ρ H1 c1 w1 _ (er.mono g1) hd1 (Post.bind p1 fun u H2 c2 y w2 g2 hd2 r2 p2 => ?_)⟩
      have r13 := r1.mono g2
      cases x with
      | d x => exact p2.elim
      | o n =>
        cases y with
        | o m => exact p2.elim
        | d y =>
          cases y with
          | int i =>
            cases r2
            dsimp only at p2
            cases q : w2[n]? with
            | none => rw [q] at p2; exact p2.elim
            | some ob =>
              rw [q] at p2
              cases ob with
              | lst xs =>
                dsimp only at p2
                by_cases hb : -(2 ^ 63) ≤ i ∧ i < 2 ^ 63
                · rw [if_pos hb] at p2
                  obtain ⟨a1, e1, ea, n0, vs, eh, al⟩ := ob_at hd2 r13 q
                  subst e1
                  cases qs : seqIndex? i xs.length with
                  | none => rw [qs] at p2; exact p2.elim
                  | some k =>
                    rw [qs] at p2
                    dsimp only at p2
                    cases qk : xs[k]? with
                    | none => rw [qk] at p2; exact p2.elim
                    | some d =>
                      rw [qk] at p2
                      obtain ⟨v2, ev, rv⟩ := al.get qk
                      refine ⟨a1, vs, i, k, v2, rfl, rfl, eh, hb.1, hb.2, by rw [al.length]; exact qs, ev, ?_⟩
                      exact p2 _ _ c2 (.refl _) (hd2.put ea n0 (ob := .lst (xs.eraseIdx k)) ⟨n0, _, upd_same, D.DpAll.eraseIdx k al⟩) rv
                · rw [if_neg hb] at p2; exact p2.elim
              | frz xs => exact p2.elim
              | dct xs => exact p2.elim
              | fdc xs => exact p2.elim
          | _ => exact p2.elim
    · rw [if_neg hl] at p1; exact p1.elim)⟩
end
/-! ### lists that their def will change: [..], xs + ys, list(xs) -/
omit [Tbs] in
def ownV (d : PyData) : M Val := fun w => match d with
  | .list xs => .ok (.o w.length) (w ++ [.lst xs])
  | _ => .bad
omit [Tbs] in
def mOpO (g : PyData → PyData → Option PyData) (m1 m2 : Rho → M Val) : Rho → M Val := fun ρ => bnd (m1 ρ) fun x => bnd (m2 ρ) fun y => fun w =>
  match look w x, look w y with
  | some a, some b => (match g a b with | some d => ownV d w | none => .bad)
  | _, _ => .bad
section
variable {X : Cx} {E : XK} {a b e : Expr} {es : List Expr} {ta tb : TE} {t : TA} {m1 m2 : Rho → M Val} {ms : Rho → M (List Val)} {pos : Pos}
theorem de_lstO (h : DA X E es t ms) : DE X E (.List es pos) (tLst t) (mLstO ms) := by
  refine ⟨pe_lst h.pa, fun σ ρ H c w Q er hd p => h.rd σ ρ H c w _ er hd (Post.bind p fun vs H1 c1 xs w1 g1 hd1 r1 p1 => ?_)⟩
  obtain ⟨c2, w2, ds, g2, hd2, al, p2⟩ := post_frzs hd1 r1 p1
  obtain ⟨hl, p3⟩ := post_ite p2
  refine ⟨lineOk (by rw [al.length]; exact hl), fun q nq => p3 _ _ _ Hold.growO (hd2.newO nq (ob := .lst ds) ⟨hd2.free nq, vs, upd_same, al⟩) ⟨q, rfl, ?_⟩⟩
  simp [hd2.len]
theorem de_catO (ha : DE X E a ta m1) (hb : DE X E b tb m2) : DE X E (.BinOp a .Add b pos) (tOp (rAdd X.K) ta tb) (mOpO gAdd m1 m2) :=
  ⟨pe_op op_addA ha.pe hb.pe, fun σ ρ H c w Q er hd p => ha.rd σ ρ H c w _ er hd (Post.bind p fun x H1 c1 vx w1 g1 hd1 r1 p1 =>
    hb.rd σ ρ H1 c1 w1 _ (er.mono g1) hd1 (Post.bind p1 fun y H2 c2 vy w2 g2 hd2 r2 p2 => by
      cases ex : look w2 vx with
      | none => simp [ex] at p2; exact p2.elim
      | some da =>
        cases ey : look w2 vy with
        | none => simp [ex, ey] at p2; exact p2.elim
        | some db =>
          have hx := hd2.dq (r1.mono g2) ex
          have hy := hd2.dq r2 ey
          cases da with
          | list xs =>
            cases db with
            | list ys =>
              simp only [ex, ey, gAdd] at p2
              by_cases hl : xs.length + ys.length ≤ 100000
              · rw [if_pos hl] at p2
                obtain ⟨p', vs, rfl, h1, a1⟩ := hx.list hd2.sub
                obtain ⟨q', ws, rfl, h2, a2⟩ := hy.list hd2.sub
                have l1 := a1.length
                have l2 := a2.length
                refine .inr (.inr (.inr ⟨p', q', vs, ws, rfl, rfl, h1, h2, lineOk (by omega), fun t nt => ?_⟩))
                refine p2 _ _ _ Hold.growO (hd2.newO nt (ob := .lst (xs ++ ys)) ⟨hd2.free nt, _, upd_same, a1.append a2⟩) ⟨t, rfl, ?_⟩
                simp [hd2.len]
              · rw [if_neg hl] at p2; exact p2.elim
            | _ => simp [ex, ey, gAdd] at p2; exact p2.elim
          | str i =>
            cases db with
            | str j =>
              simp only [ex, ey, gAdd] at p2
              by_cases hl : i.length + j.length ≤ 100000
              · rw [if_pos hl] at p2; exact p2.elim
              · rw [if_neg hl] at p2; exact p2.elim
            | _ => simp [ex, ey, gAdd] at p2; exact p2.elim
          | tuple xs =>
            cases db with
            | tuple ys =>
              simp only [ex, ey, gAdd] at p2
              by_cases hl : xs.length + ys.length ≤ 100000
              · rw [if_pos hl] at p2; exact p2.elim
              · rw [if_neg hl] at p2; exact p2.elim
            | _ => simp [ex, ey, gAdd] at p2; exact p2.elim
          | int i =>
            cases db with
            | int j => simp only [ex, ey, gAdd] at p2; exact p2.elim
            | _ => simp [ex, ey, gAdd] at p2; exact p2.elim
          | _ => cases db <;> (simp [ex, ey, gAdd] at p2; exact p2.elim)))⟩
omit [Tbs] in
/-- list(xs) -/
def mListO (ms : Rho → M (List Val)) : Rho → M Val := fun ρ => bnd (ms ρ) fun xs => fun w => match looks w xs with
  | some as => (match gList as with | some d => ownV d w | none => .bad)
  | none => .bad
end
/-! ### dicts with ints and texts as keys -/
omit [Tbs] in
def keyOf : PyData → Option Key
  | .int i => some (.inl i)
  | .str s => some (.inr s)
  | _ => none
omit [Tbs] in
def valD (kvs : List (Key × PyData)) (k : Key) : Option PyData := (kvs.find? fun kv => decide (kv.1 = k)).map (·.2)
omit [Tbs] in
def putD (kvs : List (Key × PyData)) (k : Key) (v : PyData) : List (Key × PyData) :=
  if (kvs.any fun kv => decide (kv.1 = k)) = true then kvs.map (fun kv => if kv.1 = k then (kv.1, v) else kv) else kvs ++ [(k, v)]
omit [Tbs] in
def mergeD (kvs more : List (Key × PyData)) : List (Key × PyData) := more.foldl (fun acc kv => putD acc kv.1 kv.2) kvs
section
variable {K : PySem.W.Frag} {H : Hp}
omit [Tbs] in
theorem key_v {H0 : Hp} {v : V} {d : PyData} {k : Key} (h : Dp K H0 v d) (e : keyOf d = some k) : v = kV k := by
  cases h <;> first | (cases e; rfl) | cases e
omit [Tbs] in
theorem KD.val {k : Key} : ∀ {r : List (Key × V)} {q : List (Key × PyData)}, KD K H r q → (∀ d, valD q k = some d → ∃ v, valV r k = some v ∧ Dp K H v d) ∧ (valD q k = none → valV r k = none)
  | _, _, .nil => ⟨fun d h => (by cases h), fun _ => rfl⟩
  | _, _, .cons (k := k') (v := v) (d := d') (r := r) (s := s) h t => by
    have ih := KD.val (k := k) t
    by_cases e : k' = k
    · have e1 : valD ((k', d') :: s) k = some d' := by simp [valD, List.find?_cons, e]
      have e2 : valV ((k', v) :: r) k = some v := valV_pos e
      rw [e1, e2]
      exact ⟨fun d hd => (by cases hd; exact ⟨v, rfl, h⟩), fun hn => (by cases hn)⟩
    · have e1 : valD ((k', d') :: s) k = valD s k := by simp [valD, List.find?_cons, e]
      have e2 : valV ((k', v) :: r) k = valV r k := valV_neg e
      rw [e1, e2]
      exact ih
omit [Tbs] in
theorem KD.any {k : Key} : ∀ {r : List (Key × V)} {q : List (Key × PyData)}, KD K H r q → (r.any fun kv => decide (kv.1 = k)) = (q.any fun kv => decide (kv.1 = k))
  | _, _, .nil => rfl
  | _, _, .cons h t => by rw [List.any_cons, List.any_cons, KD.any t]
omit [Tbs] in
theorem KD.map {k : Key} {v : V} {d : PyData} (h : Dp K H v d) : ∀ {r : List (Key × V)} {q : List (Key × PyData)}, KD K H r q → KD K H (r.map fun kv => if kv.1 = k then (kv.1, v) else kv) (q.map fun kv => if kv.1 = k then (kv.1, d) else kv)
  | _, _, .nil => .nil
  | _, _, .cons (k := k') h2 t => by
    by_cases e : k' = k
    · simp only [List.map_cons, if_pos e]; exact .cons h (KD.map h t)
    · simp only [List.map_cons, if_neg e]; exact .cons h2 (KD.map h t)
omit [Tbs] in
theorem KD.append : ∀ {r r' : List (Key × V)} {q q' : List (Key × PyData)}, KD K H r q → KD K H r' q' → KD K H (r ++ r') (q ++ q')
  | _, _, _, _, .nil, t => t
  | _, _, _, _, .cons h t, t' => .cons h (KD.append t t')
omit [Tbs] in
theorem KD.length : ∀ {r : List (Key × V)} {q : List (Key × PyData)}, KD K H r q → r.length = q.length
  | _, _, .nil => rfl
  | _, _, .cons h t => congrArg (· + 1) (KD.length t)
omit [Tbs] in
theorem KD.put {k : Key} {v : V} {d : PyData} (h : Dp K H v d) {r : List (Key × V)} {q : List (Key × PyData)} (t : KD K H r q) : KD K H (putK r k v) (putD q k d) := by
  unfold putK putD
  rw [KD.any t]
  by_cases e : (q.any fun kv => decide (kv.1 = k)) = true
  · rw [if_pos e, if_pos e]; exact KD.map h t
  · rw [if_neg e, if_neg e]; exact t.append (.cons h .nil)
omit [Tbs] in
theorem KD.merge : ∀ {more : List (Key × V)} {mq : List (Key × PyData)} {r : List (Key × V)} {q : List (Key × PyData)}, KD K H more mq → KD K H r q → KD K H (mergeK r more) (mergeD q mq)
  | _, _, _, _, .nil, t => t
  | _, _, _, _, .cons h tm, t => by
    simp only [mergeK, mergeD, List.foldl_cons]
    exact KD.merge tm (t.put h)
end
omit [Tbs] in
def mDGet (m1 m2 : Rho → M Val) : Rho → M Val := fun ρ => bnd (m1 ρ) fun x => bnd (m2 ρ) fun y => fun w => match x, y with
  | .o n, .d k => (match w[n]? with
    | some (.dct kvs) => (match (keyOf k).bind (valD kvs) with
      | some d => .ok (.d d) w
      | none => .bad)
    | _ => .bad)
  | _, _ => .bad
omit [Tbs] in
def fDPut (m1 m2 mv : Rho → M Val) : B := fun ρ w => ((bnd (mv ρ) fun v => bnd (m1 ρ) fun x => bnd (m2 ρ) fun y => bnd (frz v) fun d => fun w => match x, y with
  | .o n, .d k => (match w[n]? with
    | some (.dct kvs) => (match keyOf k with
      | some key => if kvs.length < 100000 then R.ok () (w.set n (.dct (putD kvs key d))) else .bad
      | none => .bad)
    | _ => .bad)
  | _, _ => .bad) w).thenF fun _ w => .nx ρ w
section
variable {X : Cx} {E : XK} {o i e : Expr} {to ti te : TE} {mo mi me : Rho → M Val} {s : Stmt}
theorem de_dget (pe : PE X e (tDGet to ti)) (ho : DE X E o to mo) (hi : DE X E i ti mi) : DE X E e (tDGet to ti) (mDGet mo mi) :=
  ⟨pe, fun σ ρ H c w Q er hd p => ho.rd σ ρ H c w _ er hd (Post.bind p fun v H1 c1 x w1 g1 hd1 r1 p1 =>
    hi.rd σ ρ H1 c1 w1 _ (er.mono g1) hd1 (Post.bind p1 fun u H2 c2 y w2 g2 hd2 r2 p2 => by
      cases x with
      | d x => exact p2.elim
      | o n =>
        cases y with
        | o m => exact p2.elim
        | d k =>
          dsimp only at p2
          cases q : w2[n]? with
          | none => rw [q] at p2; exact p2.elim
          | some ob =>
            rw [q] at p2
            cases ob with
            | dct kvs =>
              dsimp only at p2
              cases qk : keyOf k with
              | none => rw [qk] at p2; exact p2.elim
              | some key =>
                rw [qk] at p2
                dsimp only [Option.bind] at p2
                cases qv : valD kvs key with
                | none => rw [qv] at p2; exact p2.elim
                | some d =>
                  rw [qv] at p2
                  obtain ⟨a1, e1, ea, n0, ws, eh, al⟩ := ob_at hd2 (r1.mono g2) q
                  subst e1
                  obtain ⟨v2, ev, rv⟩ := (KD.val (k := key) al).1 d qv
                  have eu := key_v r2 qk
                  subst eu
                  refine ⟨a1, v2, rfl, ?_, p2 v2 H2 c2 (.refl _) hd2 rv⟩
                  rw [← ev]
                  exact DGet.k eh
            | lst xs => exact p2.elim
            | fdc xs => exact p2.elim
            | frz xs => exact p2.elim))⟩
theorem ds_dput (ps : PS X s (sDPut to ti te)) (ho : DE X E o to mo) (hi : DE X E i ti mi) (he : DE X E e te me) : DS X E s (sDPut to ti te) (fDPut mo mi me) := by
  refine ⟨ps, fun σ ρ H c w D er hd p => ?_⟩
  have p' := FPost.bind (rel := fun _ (_ : Unit) (_ : Unit) => True) (Q := fun _ _ => True) p fun _ _ _ _ _ _ _ _ _ => trivial
  have pp : ∀ (r : R Unit), FPost X.K X.mg E c D (r.thenF fun _ w => .nx ρ w) → Post X.K X.mg E c (fun _ (_ : Unit) (_ : Unit) => True) r (fun _ H' => ∀ c' w', Grow c c' → Hold X.K H' c' w' → True) := fun r h => FPost.bind h fun _ _ _ _ _ _ _ _ _ _ _ _ _ => trivial
  -- evaluate
  have q0 : ∃ f, f = fDPut mo mi me ρ w ∧ FPost X.K X.mg E c D f := ⟨_, rfl, p⟩
  unfold fDPut at p
  refine he.rd σ ρ H c w _ er hd ?_
  unfold bnd at p
  cases qe : me ρ w with
  | bad => rw [qe] at p; exact p.elim
  | exn x w1 => rw [qe] at p; exact p
  | ok xv w1 =>
    rw [qe] at p
    intro v H1 c1 g1 hd1 r1
    have p1 := FPost.mono g1 p
    refine ho.rd σ ρ H1 c1 w1 _ (er.mono g1) hd1 ?_
    simp only [R.then] at p1
    cases qo : mo ρ w1 with
    | bad => rw [qo] at p1; exact p1.elim
    | exn x w2 => rw [qo] at p1; exact p1
    | ok xo w2 =>
      rw [qo] at p1
      intro u H2 c2 g2 hd2 r2
      have p2 := FPost.mono g2 p1
      refine hi.rd σ ρ H2 c2 w2 _ ((er.mono g1).mono g2) hd2 ?_
      simp only at p2
      cases qi : mi ρ w2 with
      | bad => rw [qi] at p2; exact p2.elim
      | exn x w3 => rw [qi] at p2; exact p2
      | ok xi w3 =>
        rw [qi] at p2
        intro k H3 c3 g3 hd3 r3
        have p3 := FPost.mono g3 p2
        simp only at p3
        cases qf : frz xv w3 with
        | bad => rw [qf] at p3; exact p3.elim
        | exn x w4 => exact absurd qf frz_noexn
        | ok d w4 =>
          rw [qf] at p3
          obtain ⟨c4, g4, hd4, rd⟩ := frz_ok hd3 ((r1.mono g2).mono g3) qf
          have p4 := FPost.mono g4 p3
          have r24 := (r2.mono g3).mono g4
          have r34 := r3.mono g4
          simp only at p4
          cases xo with
          | d x => exact p4.elim
          | o n =>
            cases xi with
            | o m => exact p4.elim
            | d kd =>
              dsimp only at p4
              cases q : w4[n]? with
              | none => rw [q] at p4; exact p4.elim
              | some ob =>
                rw [q] at p4
                cases ob with
                | dct kvs =>
                  dsimp only at p4
                  cases qk : keyOf kd with
                  | none => rw [qk] at p4; exact p4.elim
                  | some key =>
                    rw [qk] at p4
                    dsimp only at p4
                    by_cases hl : kvs.length < 100000
                    · rw [if_pos hl] at p4
                      obtain ⟨a1, e1, ea, n0, ws, eh, al⟩ := ob_at hd4 r24 q
                      subst e1
                      have eu := key_v r34 qk
                      subst eu
                      refine ⟨a1, _, rfl, DPut.k eh (lineOk2 (by rw [al.length]; exact hl)), ?_⟩
                      exact p4 σ _ c4 (.refl _) (hd4.put ea n0 (ob := .dct (putD kvs key d)) ⟨n0, _, upd_same, al.put rd⟩) ((((er.mono g1).mono g2).mono g3).mono g4)
                    · rw [if_neg hl] at p4; exact p4.elim
                | lst xs => exact p4.elim
                | frz xs => exact p4.elim
                | fdc xs => exact p4.elim
end
/-! ### {k: v, ..} -/
structure DPP (X : Cx) (E : XK) (pos : Pos) (keys : List (Option Expr)) (values : List Expr) (trs : List (TE × TE)) (ms : Rho → M (List (Key × PyData))) : Prop where
  pp : PPs X pos keys values trs
  rd : ∀ (σ : L2.St) (ρ : Rho) (H : Hp) (c : Ctx) (w : Om) (Q : List (V × V) → Hp → Prop), ER X.K c σ ρ → Hold X.K H c w →
    Post X.K X.mg E c (fun c' ps kds => ∃ kvs : List (Key × V), ps = kvs.map (fun kv => (kV kv.1, kv.2)) ∧ KD X.K c'.H0 kvs kds) (ms ρ w) Q → tPairs trs σ H Q
omit [Tbs] in
def mPNil : Rho → M (List (Key × PyData)) := fun _ w => .ok [] w
omit [Tbs] in
def mPCons (mk mv : Rho → M Val) (ms : Rho → M (List (Key × PyData))) : Rho → M (List (Key × PyData)) := fun ρ => bnd (mk ρ) fun k => bnd (mv ρ) fun v => bnd (frz v) fun d => bnd (ms ρ) fun r => fun w => match k with
  | .d kd => (match keyOf kd with | some key => .ok ((key, d) :: r) w | none => .bad)
  | _ => .bad
omit [Tbs] in
def mDisp (ms : Rho → M (List (Key × PyData))) : Rho → M Val := fun ρ => bnd (noX (ms ρ)) fun r => fun w => if r.length ≤ 15 then .ok (.o w.length) (w ++ [.dct (mergeD [] r)]) else .bad
section
variable {X : Cx} {E : XK} {pos : Pos} {keys : List (Option Expr)} {values : List Expr} {trs : List (TE × TE)} {ms : Rho → M (List (Key × PyData))} {k v e : Expr} {tk tv : TE} {mk mv : Rho → M Val}
theorem dpp_nil : DPP X E pos [] [] [] mPNil := ⟨pps_nil, fun σ ρ H c w Q er hd p => p [] H c (.refl _) hd ⟨[], rfl, .nil⟩⟩
theorem dpp_cons (hk : DE X E k tk mk) (hv : DE X E v tv mv) (hr : DPP X E pos keys values trs ms) : DPP X E pos (some k :: keys) (v :: values) ((tk, tv) :: trs) (mPCons mk mv ms) :=
  ⟨pps_cons hk.pe hv.pe hr.pp, fun σ ρ H c w Q er hd p => hk.rd σ ρ H c w _ er hd (Post.bind p fun kv H1 c1 xk w1 g1 hd1 r1 p1 =>
    hv.rd σ ρ H1 c1 w1 _ (er.mono g1) hd1 (Post.bind p1 fun vv H2 c2 xv w2 g2 hd2 r2 p2 => by
      obtain ⟨c3, w3, d, g3, hd3, rd, p3⟩ := post_frz hd2 r2 p2
      refine hr.rd σ ρ H2 c3 w3 _ (((er.mono g1).mono g2).mono g3) hd3 (Post.bind p3 fun ps H4 c4 r w4 g4 hd4 r4 p4 => ?_)
      cases xk with
      | o n => exact p4.elim
      | d kd =>
        dsimp only at p4
        cases qk : keyOf kd with
        | none => rw [qk] at p4; exact p4.elim
        | some key =>
          rw [qk] at p4
          obtain ⟨kvs, rfl, al⟩ := r4
          have ek := key_v (((r1.mono g2).mono g3).mono g4 : VR X.K c4 kv (.d kd)) qk
          subst ek
          exact p4 _ H4 c4 (.refl _) hd4 ⟨(key, vv) :: kvs, rfl, .cons ((Held.of g4.h).dp _ _ rd) al⟩))⟩
theorem de_disp (pe : PE X e (tDisp trs)) (h : DPP X E0 pos keys values trs ms) : DE X E e (tDisp trs) (mDisp ms) :=
  ⟨pe, fun σ ρ H c w Q er hd p => by
    unfold mDisp bnd at p
    cases q : noX (ms ρ) w with
    | bad => rw [q] at p; exact p.elim
    | exn x w1 => exact absurd q noX_exn
    | ok r w1 =>
      rw [q] at p
      obtain ⟨hl, p1⟩ := post_range p
      intro a na
      refine h.rd σ ρ _ { c with ex := (a, .dK []) :: c.ex } w _ er.ex (hd.pinNew na) (post_ok (noX_ok q) fun ps H' c' g hd' rr => ?_)
      obtain ⟨kvs, rfl, al⟩ := rr
      obtain ⟨ch, ca, ce⟩ := c'
      obtain rfl : ce = (a, .dK []) :: c.ex := g.e
      have hp := hd'.pin _ (List.mem_cons_self ..)
      refine ⟨hp.1, kvs, rfl, by rw [al.length]; exact hl, ?_⟩
      have hd2 : Hold X.K (upd H' a (.dK (mergeK [] kvs))) ⟨ch, ca, (a, .dK (mergeK [] kvs)) :: c.ex⟩ w1 := hd'.rePin
      obtain ⟨qa, ea⟩ := g.a
      refine p1 _ _ ⟨ch, ca ++ [a], c.ex⟩ ⟨g.h, ⟨qa ++ [a], by show ca ++ [a] = _; rw [show ca = c.al ++ qa from ea, List.append_assoc]⟩, rfl⟩ (hd2.unPinO (ob := .dct (mergeD [] r)) ⟨hp.2.1, _, upd_same, KD.merge al .nil⟩) ⟨a, rfl, ?_⟩
      have z : ca.length = w1.length := hd'.len
      simp [← z]⟩
end
end D

set_option maxRecDepth 100000
namespace D
open PySem L2 G PySem.Spec PyProof.Rows
variable [Tbs]
omit [Tbs] in
/-- what a def hands back: data, an object of its caller's, or a new object of one's own (own) -/
def fin (own : Bool) (n0 : Nat) : Fl → R Val
  | .rt v w => match v with
    | .d x => .ok (.d x) (w.take n0)
    | .o n => if n < n0 then .ok (.o n) (w.take n0) else if own = true then (match w[n]? with
        | some (.lst xs) => .ok (.o n0) (w.take n0 ++ [.lst xs])
        | some (.dct kvs) => .ok (.o n0) (w.take n0 ++ [.dct kvs])
        | _ => .bad)
      else (match frz (.o n) w with
        | .ok d w' => .ok (.d d) (w'.take n0)
        | _ => .bad)
  | .nx _ w => .ok (.d .none) (w.take n0)
  | .exn x w => .exn x (w.take n0)
  | _ => .bad
omit [Tbs] in
def startR (N : List Str) (xs : List Val) : Rho := xs.map some ++ List.replicate (N.length - xs.length) none
section
variable {K : PySem.W.Frag} {H : Hp} {c : Ctx} {w : Om}
theorem Hold.trim {al : List Addr} {H0 : Hp} {ex : List (Addr × HO)} (hd : Hold K H ⟨H0, al, ex⟩ w) (n : Nat) : Hold K H ⟨H0, al.take n, ex⟩ (w.take n) := by
  refine ⟨hd.sub, hd.nd.sublist (List.take_sublist _ _), by simp [show al.length = w.length from hd.len], fun m a ob ea eo => ?_, fun p hp => ?_, hd.pnd, hd.tab, hd.nt, hd.pl⟩
  · have e1 : al[m]? = some a := by
      rw [show (Ctx.mk H0 (al.take n) ex).al = al.take n from rfl, List.getElem?_take] at ea
      split at ea
      · exact ea
      · cases ea
    have e2 : w[m]? = some ob := by
      rw [List.getElem?_take] at eo
      split at eo
      · exact eo
      · cases eo
    exact (hd.obs m a ob e1 e2).al
  · obtain ⟨h1, h2, h3⟩ := hd.pin p hp
    exact ⟨h1, h2, fun hm => h3 (List.mem_of_mem_take hm)⟩
theorem Hold.pick {al : List Addr} {H0 : Hp} {ex : List (Addr × HO)} {n m : Nat} {a : Addr} {ob : Ob} (hd : Hold K H ⟨H0, al, ex⟩ w) (hm : n ≤ m) (ea : al[m]? = some a) (eo : w[m]? = some ob) :
    Hold K H ⟨H0, al.take n ++ [a], ex⟩ (w.take n ++ [ob]) := by
  have ht := hd.trim n
  have ml : m < al.length := (List.getElem?_eq_some_iff.mp ea).1
  have nal : a ∉ al.take n := by
    intro h
    obtain ⟨i, hi, e⟩ := List.getElem_of_mem h
    have hi2 : i < n ∧ i < al.length := by
      rw [List.length_take] at hi
      omega
    have e2 : al[i]? = some a := by
      rw [List.getElem?_eq_getElem hi2.2]
      rw [List.getElem_take] at e
      rw [e]
    have := (List.getElem?_inj hi2.2 hd.nd).mp (e2.trans ea.symm)
    omega
  refine ⟨hd.sub, ?_, by simp [show al.length = w.length from hd.len], fun i b o2 eb eo2 => ?_, fun p hp => ?_, hd.pnd, hd.tab, hd.nt, hd.pl⟩
  · rw [List.nodup_append]
    refine ⟨ht.nd, by simp, ?_⟩
    intro x hx y hy e
    simp at hy
    subst hy
    subst e
    exact nal hx
  · by_cases hn : i < (al.take n).length
    · rw [show (Ctx.mk H0 (al.take n ++ [a]) ex).al = al.take n ++ [a] from rfl, List.getElem?_append_left hn] at eb
      have hl : (al.take n).length = (w.take n).length := ht.len
      rw [List.getElem?_append_left (by rw [← hl]; exact hn)] at eo2
      exact (ht.obs i b o2 eb eo2).al
    · have hl : (al.take n).length = (w.take n).length := ht.len
      have e1 : i = (al.take n).length := by
        have z := (List.getElem?_eq_some_iff.mp eb).1
        rw [show (Ctx.mk H0 (al.take n ++ [a]) ex).al = al.take n ++ [a] from rfl, List.length_append, List.length_singleton] at z
        omega
      subst e1
      rw [show (Ctx.mk H0 (al.take n ++ [a]) ex).al = al.take n ++ [a] from rfl] at eb
      have ea2 : a = b := by simpa using eb
      have eo3 : ob = o2 := by
        rw [hl] at eo2
        simpa using eo2
      subst ea2
      subst eo3
      exact (hd.obs m a ob ea eo).al
  · obtain ⟨h1, h2, h3⟩ := hd.pin p hp
    refine ⟨h1, h2, fun hmem => ?_⟩
    rcases List.mem_append.mp hmem with h | h
    · exact h3 (List.mem_of_mem_take h)
    · simp at h
      exact h3 (by rw [h]; exact List.mem_of_getElem? ea)
omit [Tbs] in
theorem start_er {vs : List V} {xs : List Val} (N : List Str) (r : VRs K c vs xs) : ER K c (L2.start N vs) (startR N xs) := by
  refine ⟨by simp [L2.start, startR, r.length], fun i x e => ?_⟩
  unfold startR at e
  unfold L2.start
  by_cases hi : i < xs.length
  · rw [List.getElem?_append_left (by simpa using hi), List.getElem?_map] at e
    rw [List.getElem?_append_left (by rw [List.length_map, r.length]; exact hi), List.getElem?_map]
    have : ∀ {vs : List V} {xs : List Val} {i : Nat} {x : Val}, VRs K c vs xs → xs[i]? = some x → ∃ v, vs[i]? = some v ∧ VR K c v x := by
      intro vs xs i x r
      induction r generalizing i with
      | nil => intro e; simp at e
      | cons h t ih =>
        intro e
        cases i with
        | zero => simp at e; subst e; exact ⟨_, rfl, h⟩
        | succ j => simp at e; obtain ⟨v, e1, q⟩ := ih e; exact ⟨v, by simpa using e1, q⟩
    cases q : xs[i]? with
    | none => rw [q] at e; cases e
    | some y =>
      rw [q] at e
      cases e
      obtain ⟨v, e1, rv⟩ := this r q
      exact ⟨v, by rw [e1]; rfl, rv⟩
  · rw [List.getElem?_append_right (by simp; omega)] at e
    rw [List.getElem?_replicate] at e
    split at e <;> cases e
end
/-- a def's end -/
theorem fin_post {K : PySem.W.Frag} {mg : Str → Option Value} {E : XK} {c : Ctx} {w : Om} {H : Hp} {own : Bool} {f : Fl} {Q : VK} (hd : Hold K H c w) (p : Post K mg E c (VR K) (fin own w.length f) Q) :
    FPost K mg E c { nx := fun _ H' => Q .non H', rt := Q } f := by
  have hl : c.al.length = w.length := hd.len
  have tk : ∀ {c' : Ctx}, Grow c c' → c'.al.take w.length = c.al := fun g => by
    obtain ⟨r, e⟩ := g.a
    rw [e, ← hl]
    simp
  have gt : ∀ {c' : Ctx}, Grow c c' → Grow c ⟨c'.H0, c'.al.take w.length, c'.ex⟩ := fun g => ⟨g.h, ⟨[], by show List.take _ _ = _; rw [tk g]; simp⟩, g.e⟩
  cases f with
  | bad => exact p
  | bk _ _ => exact p.elim
  | ct _ _ => exact p.elim
  | nx ρ w' => exact fun σ H' c' g hd' er => p .non H' _ (gt g) (hd'.trim _) .non
  | exn x w' => exact fun cls d H' c' g hd' er => p cls d H' _ (gt g) (hd'.trim _) er
  | rt v w' =>
    intro u H' c' g hd' r
    cases v with
    | d x => exact p u H' _ (gt g) (hd'.trim _) r
    | o n =>
      unfold fin at p
      dsimp only at p
      obtain ⟨a, rfl, ea⟩ := r
      by_cases hn : n < w.length
      · rw [if_pos hn] at p
        exact p _ H' _ (gt g) (hd'.trim _) ⟨a, rfl, by show (List.take _ _)[n]? = _; rw [List.getElem?_take, if_pos hn]; exact ea⟩
      · rw [if_neg hn] at p
        have tl : (c'.al.take w.length).length = w.length := by rw [tk g, hl]
        cases own with
        | true =>
          rw [if_pos rfl] at p
          have last : ∀ (z : Addr), (c'.al.take w.length ++ [z])[w.length]? = some z := fun z => by
            rw [List.getElem?_append_right (by rw [tl]; exact Nat.le_refl _), tl, Nat.sub_self]
            rfl
          have gp : ∀ z, Grow c ⟨c'.H0, c'.al.take w.length ++ [z], c'.ex⟩ := fun z => ⟨g.h, ⟨[z], by show _ ++ _ = _; rw [tk g]⟩, g.e⟩
          cases q : w'[n]? with
          | none => rw [q] at p; exact p.elim
          | some ob =>
            rw [q] at p
            cases ob with
            | lst xs => exact p _ H' _ (gp a) (hd'.pick (by omega) ea q) ⟨a, rfl, last a⟩
            | dct xs => exact p _ H' _ (gp a) (hd'.pick (by omega) ea q) ⟨a, rfl, last a⟩
            | frz xs => exact p.elim
            | fdc xs => exact p.elim
        | false =>
          rw [if_neg (by decide)] at p
          cases q : frz (.o n) w' with
          | bad => rw [q] at p; exact p.elim
          | exn x w2 => exact absurd q frz_noexn
          | ok d w2 =>
            rw [q] at p
            obtain ⟨c2, g2, hd2, rd⟩ := frz_ok hd' (show VR K c' (.ref a) (.o n) from ⟨a, rfl, ea⟩) q
            exact p _ H' _ (gt (g.trans g2)) (hd2.trim _) rd
/-! ### defs, mode 0: nothing is let out -/
def spD (K : PySem.W.Frag) (mg : Str → Option Value) (n : Nat) (F : List Val → M Val) : Sp := fun vs H Q _ => vs.length = n ∧ ∃ c w xs, Hold K H c w ∧ VRs K c vs xs ∧ Post K mg E0 c (VR K) (F xs w) Q
structure FnD (P : Program) (w : World) (K : PySem.W.Frag) (mg : Str → Option Value) (base : Heap) (k : Nat) (x : Str) (st : Stmt) (ps : List Str) (F : List Val → M Val) : Prop where
  ex : ∃ f fd, FnG P w K mg base CX0 k f fd ps (spD K mg ps.length F) ∧ Fun K x x st f fd ∧ mg x = some (.ref f) ∧ Binds K fd ps []
section
variable {P : Program} {w : World} {K : PySem.W.Frag} {mg : Str → Option Value} {base : Heap} {k : Nat} {x : Str} {st : Stmt} {ps N : List Str}
omit [Tbs] in
/-- a def by its body -/
def mBody (own : Bool) (N : List Str) (b : B) : List Val → M Val := fun xs w => fin own w.length (b (startR N xs) w)
theorem fnd_of {b : B} {own : Bool} (i : Is K mg x st) (S : FnScope N ps (defScope st))
    (args : ∀ (kV doc pm : Value) (an : Option Addr) (cdv ct : Value) (us : List Value), us.length = ps.length → bindArgs (PySem.W.fnOf x x (defArgs st) (defBody st) (defScope st) .none kV doc pm an cdv ct) ⟨us, []⟩ = pure (ps.zip us))
    (bd : ∀ (f : Addr) (cdv : Value) (A : Around) (outer : List Env) (s : Shared) (H : Hp) (E : XK), A.guards = some [] → Room k (A.deeper (envOfC x (defScope st) s.heap.objs.size f cdv)) →
      ∃ t, DSs (cxOf CX0 P w K mg base N x (defScope st) f cdv A outer s H E).nox E0 (defBody st) t b) : FnD P w K mg base (k + 1) x st ps (mBody own N b) := by
  obtain ⟨f, fd, F, m⟩ := i
  refine ⟨f, fd, okG F S (fun vs H Q E h => h.1) (fun cdv A outer s H vs Q E gd hr h => ?_), F, m, F.binds args⟩
  obtain ⟨t, ht⟩ := bd f cdv A outer s H E gd hr
  obtain ⟨hl, c, w', xs, hd, r, p⟩ := h
  exact ⟨t, ht.ps, ht.rd _ _ _ c w' _ (start_er N r) hd (fin_post hd p)⟩
theorem FnD.imp {F F' : List Val → M Val} (c : FnD P w K mg base k x st ps F) (h : ∀ xs, xs.length = ps.length → F xs = F' xs) : FnD P w K mg base k x st ps F' := by
  obtain ⟨f, fd, Z, Fu, m, b⟩ := c.ex
  refine ⟨f, fd, ⟨fun vs H Q E h => h.1, fun A outer s H args us vs Q E gd hr e0 hb r hsp => ?_⟩, Fu, m, b⟩
  obtain ⟨hl, c, w', xs, hd, rr, p⟩ := hsp
  exact Z.go A outer s H args us vs Q E gd hr e0 hb r ⟨hl, c, w', xs, hd, rr, by rw [h xs (by rw [← rr.length]; exact hl)]; exact p⟩
end
omit [Tbs] in
def mFn (n : Nat) (F : List Val → M Val) (ms : Rho → M (List Val)) : Rho → M Val := fun ρ => bnd (ms ρ) fun xs => if xs.length = n then F xs else fun _ => .bad
omit [Tbs] in
def pickK {α : Type} (a b : Nat) (perm : List Nat) (us ws : List α) : List α := if us.length = a ∧ ws.length = b then perm.filterMap fun i => (us ++ ws)[i]? else []
omit [Tbs] in
def mFnK (n a b : Nat) (perm : List Nat) (F : List Val → M Val) (ms mk : Rho → M (List Val)) : Rho → M Val := fun ρ => bnd (ms ρ) fun xs => bnd (mk ρ) fun ys => if (pickK a b perm xs ys).length = n then F (pickK a b perm xs ys) else fun _ => .bad
structure DK (X : Cx) (E : XK) (kws : List Keyword) (t : TA) (m : Rho → M (List Val)) : Prop where
  pk : PK X kws t
  rd : ∀ (σ : L2.St) (ρ : Rho) (H : Hp) (c : Ctx) (w : Om) (Q : List V → Hp → Prop), ER X.K c σ ρ → Hold X.K H c w → Post X.K X.mg E c (VRs X.K) (m ρ w) Q → t σ H Q
section
variable {X : Cx} {E : XK} {k j : Nat} {x : Str} {st : Stmt} {ps ks : List Str} {F : List Val → M Val} {e : Expr} {es : List Expr} {kws : List Keyword} {t tk : TA} {te : TE} {m : Rho → M Val} {ms mk : Rho → M (List Val)} {p pos kpos : Pos} {nm : Option Str} {a b : Nat} {perm : List Nat}
theorem dk_nil : DK X E [] tNil mNil := ⟨pk_nil, fun σ ρ H c w Q er hd p => p [] H c (.refl _) hd .nil⟩
theorem dk_cons (he : DE X E e te m) (hr : DK X E kws t ms) : DK X E (⟨nm, e, kpos⟩ :: kws) (tCons te t) (mCons m ms) :=
  ⟨pk_cons he.pe hr.pk, fun σ ρ H c w Q er hd p => he.rd σ ρ H c w _ er hd (Post.bind p fun v H1 c1 x w1 g1 hd1 r1 p1 =>
    hr.rd σ ρ H1 c1 w1 _ (er.mono g1) hd1 (Post.bind p1 fun vs H2 c2 xs w2 g2 hd2 r2 p2 => p2 (v :: vs) H2 c2 (.refl _) hd2 (.cons (r1.mono g2) r2)))⟩
theorem fn_end {K : PySem.W.Frag} {mg : Str → Option Value} {H : Hp} {c : Ctx} {w : Om} {vs : List V} {xs : List Val} {Q : VK} {E' : XK} {n : Nat} (hd : Hold K H c w) (r : VRs K c vs xs) (p : Post K mg E c (VR K) ((if xs.length = n then F xs else fun _ => .bad) w) Q)
    (hE : ∀ cls d H', E cls d H' → False) : spD K mg n F vs H Q E' := by
  obtain ⟨hl, p2⟩ := post_ite p
  refine ⟨by rw [r.length]; exact hl, c, w, xs, hd, r, ?_⟩
  cases q : F xs w with
  | bad => rw [q] at p2; exact p2
  | ok v w' => rw [q] at p2; exact p2
  | exn y w' => rw [q] at p2; exact fun cls d H' c' g h' er => (hE _ _ _ (p2 cls d H' c' g h' er))
theorem de_fn (Fd : FnD X.prog X.w X.K X.mg X.base k x st ps F) (gd : X.A.guards = some []) (hr : Room j X.A) (hk : k ≤ j) (hg : Gl X x) (ha : DA X E0 (e :: es) t ms) (hdb : (x == ("__debug__" : Str)) = false := by decide)
    (he : starEach (e :: es) X.env = (false, eval e X.env) :: starEach es X.env := by rfl) (hpl : (backTo pos (starEach es X.env)).any (·.1) = false := by rfl) :
    DE X E0 (.Call (.Name x p) (e :: es) [] pos) (fun σ H Q => t σ H fun vs H1 => spD X.K X.mg ps.length F vs H1 Q E0) (mFn ps.length F ms) := by
  refine ⟨?_, fun σ ρ H c w Q er hd p => ha.rd σ ρ H c w _ er hd (Post.bind p fun vs H1 c1 xs w1 g1 hd1 r1 p1 => fn_end hd1 r1 p1 fun _ _ _ h => h)⟩
  obtain ⟨f, fd, Z, Fu, m, b⟩ := Fd.ex
  refine pe_weak (pe_cg Z gd (hr.mono hk) hg m Fu.kp b .nil pass0 ha.pa hdb he hpl) fun σ H Q q => ?_
  show t σ H fun vs H1 => spD X.K X.mg ps.length F (vs ++ []) H1 Q E0
  simpa only [List.append_nil] using q
theorem de_fn0 (Fd : FnD X.prog X.w X.K X.mg X.base k x st [] F) (gd : X.A.guards = some []) (hr : Room j X.A) (hk : k ≤ j) (hg : Gl X x) (hdb : (x == ("__debug__" : Str)) = false := by decide) :
    DE X E0 (.Call (.Name x p) [] [] pos) (fun σ H Q => spD X.K X.mg 0 F [] H Q E0) (fun _ => F []) := by
  refine ⟨?_, fun σ ρ H c w Q er hd p => ⟨rfl, c, w, [], hd, .nil, p⟩⟩
  obtain ⟨f, fd, Z, Fu, m, b⟩ := Fd.ex
  exact pe_cg0 Z gd (hr.mono hk) hg m Fu.kp b .nil pass0 hdb
omit [Tbs] in
theorem pick_rel {β γ : Type} {rel : β → γ → Prop} : ∀ (perm : List Nat) {vs : List β} {us : List γ}, Paired rel vs us → Paired rel (perm.filterMap fun i => vs[i]?) (perm.filterMap fun i => us[i]?)
  | [], _, _, _ => .nil
  | i :: perm, vs, us, r => by
    have ih := pick_rel perm r
    have key : (∃ a b, vs[i]? = some a ∧ us[i]? = some b ∧ rel a b) ∨ (vs[i]? = none ∧ us[i]? = none) := by
      clear ih
      induction r generalizing i with
      | nil => right; simp
      | cons h t ih =>
        cases i with
        | zero => left; exact ⟨_, _, rfl, rfl, h⟩
        | succ j => simpa using ih j
    rcases key with ⟨a, b, e1, e2, q⟩ | ⟨e1, e2⟩
    · rw [List.filterMap_cons, List.filterMap_cons, e1, e2]; exact .cons q ih
    · rw [List.filterMap_cons, List.filterMap_cons, e1, e2]; exact ih
omit [Tbs] in
theorem paired_app {β γ : Type} {rel : β → γ → Prop} : ∀ {a : List β} {b : List γ} {c : List β} {d : List γ}, Paired rel a b → Paired rel c d → Paired rel (a ++ c) (b ++ d)
  | _, _, _, _, .nil, q => q
  | _, _, _, _, .cons h t, q => .cons h (paired_app t q)
omit [Tbs] in
theorem vrs_paired {K : PySem.W.Frag} {c : Ctx} : ∀ {vs : List V} {xs : List Val}, VRs K c vs xs ↔ Paired (VR K c) vs xs
  | vs, xs => by
    constructor
    · intro h
      induction h with
      | nil => exact .nil
      | cons a b ih => exact .cons a ih
    · intro h
      induction h with
      | nil => exact .nil
      | cons a b ih => exact .cons a ih
omit [Tbs] in
theorem pickK_vrs {K : PySem.W.Frag} {c : Ctx} {vs zs : List V} {xs ys : List Val} (r : VRs K c vs xs) (r2 : VRs K c zs ys) : VRs K c (pickK a b perm vs zs) (pickK a b perm xs ys) := by
  unfold pickK
  rw [r.length, r2.length]
  split
  · exact vrs_paired.mpr (pick_rel perm (paired_app (vrs_paired.mp r) (vrs_paired.mp r2)))
  · exact .nil
omit [Tbs] in
/-- how a call with keywords binds -/
theorem kb_of {K : PySem.W.Frag} {f : Addr} {fd : FuncData} (Z : Fun K x x st f fd)
    (h : ∀ (kV doc pm : Value) (an : Option Addr) (cdv ct : Value) (us ws : List Value), us.length = a → ws.length = b → bindArgs (PySem.W.fnOf x x (defArgs st) (defBody st) (defScope st) .none kV doc pm an cdv ct) ⟨us, ks.zip ws⟩ = pure (ps.zip (perm.filterMap fun i => (us ++ ws)[i]?)))
    (hp : 0 < ps.length) : KBinds K fd ps ks (pickK a b perm) (pickK a b perm) := by
  obtain ⟨oc, od, kV, doc, pm, an, cdv, ct, osl, rfl, lk, hcd⟩ := Z.ex
  refine ⟨fun s us ws _ hl => ?_, fun r rz => ?_⟩
  · by_cases hc : us.length = a ∧ ws.length = b
    · have e : pickK a b perm us ws = perm.filterMap fun i => (us ++ ws)[i]? := if_pos hc
      rw [e]
      exact .of_eq (h kV doc pm an cdv ct us ws hc.1 hc.2)
    · have e : pickK a b perm us ws = [] := if_neg hc
      rw [e] at hl
      simp at hl
      omega
  · unfold pickK
    rw [r.length, rz.length]
    split
    · exact pick_rel perm (paired_app r rz)
    · exact .nil
theorem de_fnK0 {kw : Keyword} (Fd : FnD X.prog X.w X.K X.mg X.base k x st ps F) (gd : X.A.guards = some []) (hr : Room j X.A) (hk : k ≤ j) (hg : Gl X x)
    (hb : ∀ (kV doc pm : Value) (an : Option Addr) (cdv ct : Value) (us ws : List Value), us.length = 0 → ws.length = b → bindArgs (PySem.W.fnOf x x (defArgs st) (defBody st) (defScope st) .none kV doc pm an cdv ct) ⟨us, ks.zip ws⟩ = pure (ps.zip (perm.filterMap fun i => (us ++ ws)[i]?)))
    (hp : 0 < ps.length) (hkw : DK X E0 (kw :: kws) tk mk) (hall : (backToKw pos (keywordEach (kw :: kws) X.env)).all (·.1.isSome) = true := by rfl) (hks : (backToKw pos (keywordEach (kw :: kws) X.env)).filterMap (·.1) = ks := by rfl)
    (hdb : (x == ("__debug__" : Str)) = false := by decide)
    (hpl : ((backTo pos (starEach [] X.env)).any (·.1) || (backToKw pos (keywordEach (kw :: kws) X.env)).any (·.1.isNone)) = false := by rfl) :
    DE X E0 (.Call (.Name x p) [] (kw :: kws) pos) (fun σ H Q => tk σ H fun zs H2 => spD X.K X.mg ps.length F (pickK 0 b perm [] zs) H2 Q E0) (mFnK ps.length 0 b perm F mNil mk) := by
  refine ⟨?_, fun σ ρ H c w Q er hd p => ?_⟩
  · obtain ⟨f, fd, Z, Fu, m, _⟩ := Fd.ex
    exact pe_cgK0 Z gd (hr.mono hk) hg m Fu.kp (kb_of Fu hb hp) pass0 hkw.pk hall hks hdb hpl
  · exact hkw.rd σ ρ H c w _ er hd (Post.bind (r := mk ρ w) (k := fun ys => if (pickK 0 b perm [] ys).length = ps.length then F (pickK 0 b perm [] ys) else fun _ => .bad) p fun zs H1 c1 ys w1 g1 hd1 r1 p1 =>
      fn_end hd1 (pickK_vrs .nil r1) p1 fun _ _ _ h => h)
theorem de_fnK (Fd : FnD X.prog X.w X.K X.mg X.base k x st ps F) (gd : X.A.guards = some []) (hr : Room j X.A) (hk : k ≤ j) (hg : Gl X x)
    (hb : ∀ (kV doc pm : Value) (an : Option Addr) (cdv ct : Value) (us ws : List Value), us.length = a → ws.length = b → bindArgs (PySem.W.fnOf x x (defArgs st) (defBody st) (defScope st) .none kV doc pm an cdv ct) ⟨us, ks.zip ws⟩ = pure (ps.zip (perm.filterMap fun i => (us ++ ws)[i]?)))
    (hp : 0 < ps.length) (ha : DA X E0 (e :: es) t ms) (hkw : DK X E0 kws tk mk) (hall : (backToKw pos (keywordEach kws X.env)).all (·.1.isSome) = true := by rfl) (hks : (backToKw pos (keywordEach kws X.env)).filterMap (·.1) = ks := by rfl)
    (hdb : (x == ("__debug__" : Str)) = false := by decide) (he : starEach (e :: es) X.env = (false, eval e X.env) :: starEach es X.env := by rfl)
    (hpl : ((backTo pos (starEach (e :: es) X.env)).any (·.1) || (backToKw pos (keywordEach kws X.env)).any (·.1.isNone)) = false := by rfl) :
    DE X E0 (.Call (.Name x p) (e :: es) kws pos) (fun σ H Q => t σ H fun vs H1 => tk σ H1 fun zs H2 => spD X.K X.mg ps.length F (pickK a b perm vs zs) H2 Q E0) (mFnK ps.length a b perm F ms mk) := by
  refine ⟨?_, fun σ ρ H c w Q er hd p => ?_⟩
  · obtain ⟨f, fd, Z, Fu, m, _⟩ := Fd.ex
    exact pe_cgK Z gd (hr.mono hk) hg m Fu.kp (kb_of Fu hb hp) pass0 ha.pa hkw.pk hall hks hdb he hpl
  · exact ha.rd σ ρ H c w _ er hd (Post.bind p fun vs H1 c1 xs w1 g1 hd1 r1 p1 =>
      hkw.rd σ ρ H1 c1 w1 _ (er.mono g1) hd1 (Post.bind p1 fun zs H2 c2 ys w2 g2 hd2 r2 p2 => fn_end hd2 (pickK_vrs (r1.mono g2) r2) p2 fun _ _ _ h => h))
/-- code that is never come to -/
theorem ds_never {s : Stmt} : DS X E s tNever (fun _ _ => .bad) := ⟨ps_never, fun _ _ _ _ _ _ _ _ p => p⟩
end
end D

set_option maxRecDepth 100000
namespace D
open PySem L2 G PySem.Spec PyProof.Rows
variable [Tbs]
omit [Tbs] in
/-- a module's constant -/
def Con (K : PySem.W.Frag) (mg : Str → Option Value) (x : Str) (d : PyData) : Prop := ∃ u v, mg x = some u ∧ RelV v u ∧ ∀ H, Dp K H v d
omit [Tbs] in
def tGl (K : PySem.W.Frag) (d : PyData) : TE := fun _ H Q => ∀ v, (∀ H, Dp K H v d) → Q v H
section
variable {X : Cx} {E : XK} {x : Str} {d : PyData} {pos : Pos}
theorem de_gl (h : Con X.K X.mg x d) (hg : Gl X x) (hn : (x == ("__debug__" : Str)) = false := by decide) : DE X E (.Name x pos) (tGl X.K d) (mC d) := by
  obtain ⟨u, v, h1, h2, h3⟩ := h
  exact ⟨pe_weak (pe_glob hg h1 h2 hn) fun σ H Q q => q v h3, fun σ ρ H c w Q er hd p => fun v hv => p v H c (.refl _) hd (hv _)⟩
end
end D

set_option maxRecDepth 100000
namespace D
open PySem L2 G PySem.Spec PyProof.Rows
/-- a module's dict of texts and ints -/
def ConD (w : World) (K : PySem.W.Frag) (mg : Str → Option Value) (x : Str) (c : List (Str × Int)) : Prop :=
  ∃ d es n, mg x = some (.ref d) ∧ K.lookup d = some ⟨.type "dict", none, .dict es n, #[]⟩ ∧ PySem.W.KeysLit w.params es.toList ∧ (d == sysModules) = false ∧
    Paired (fun (e : DictEntry) (p : Str × Int) => (∃ t, e.key = .str p.1 t) ∧ ∃ t, e.val = .int p.2 t) es.toList c
def lookD (c : List (Str × Int)) (z : Str) : Option Int := (c.find? fun p => decide (p.1 = z)).map (·.2)
theorem find_con {z : Str} : ∀ {es : List DictEntry} {c : List (Str × Int)}, Paired (fun (e : DictEntry) (p : Str × Int) => (∃ t, e.key = .str p.1 t) ∧ ∃ t, e.val = .int p.2 t) es c →
    (∀ i, lookD c z = some i → ∃ t, (es.find? fun e => Value.isStrOf z e.key).map (·.val) = some (.int i t)) ∧ (lookD c z = none → (es.find? fun e => Value.isStrOf z e.key).map (·.val) = none)
  | _, _, .nil => ⟨fun i h => (by cases h), fun _ => rfl⟩
  | _, _, .cons (a := e) (b := p) (l₁ := es) (l₂ := c) h t => by
    have ih := find_con (z := z) t
    obtain ⟨⟨t1, e1⟩, t2, e2⟩ := h
    by_cases hz : p.1 = z
    · have a1 : Value.isStrOf z e.key = true := by rw [e1, hz]; simp [Value.isStrOf]
      have a2 : lookD (p :: c) z = some p.2 := by simp [lookD, List.find?_cons, hz]
      rw [a2, List.find?_cons, a1]
      refine ⟨fun i h => ?_, fun h => (by cases h)⟩
      cases h
      exact ⟨t2, by rw [← e2]; rfl⟩
    · have a1 : Value.isStrOf z e.key = false := by
        rw [e1]
        simp only [Value.isStrOf]
        first | (rw [beq_eq_false_iff_ne]; exact hz) | (rw [decide_eq_false_iff_not]; exact hz) | (simp; exact hz)
      have a2 : lookD (p :: c) z = lookD c z := by simp [lookD, List.find?_cons, hz]
      rw [a2, List.find?_cons, a1]
      exact ih
end D

set_option maxRecDepth 100000
/-! zip of several tuples, drawn by list(..), at the library's level (own work) -/
namespace N
open PySem PySem.Spec PyProof.Rows
section
variable {prog : Program} {w : World} {A : Around} {E : Value → Shared → Prop} {s : Shared}
theorem wp_alive {a : Addr} {Q : Option Obj → Shared → Prop} (h : Q (s.heap.get? a) s) : wpAny (model prog w) A (loadIfAlive a) Q E s := fun Γ p _ => by
  unfold loadIfAlive
  rw [Sem.wp_loadIfAlive]
  exact h
/-- a for over a list, the carried value told turn by turn -/
theorem forIn_inv {α β : Type} {f : α → β → Sem (ForInStep β)} (b : Nat → β) (P : Nat → Shared → Prop) : ∀ (l : List α) (k : Nat) (s : Shared) (Q : β → Shared → Prop),
    (∀ j x s (Q : ForInStep β → Shared → Prop), l[j]? = some x → P (k + j) s → (∀ s', P (k + j + 1) s' → Q (.yield (b (k + j + 1))) s') → wpAny (model prog w) A (f x (b (k + j))) Q E s) →
    P k s → (∀ s', P (k + l.length) s' → Q (b (k + l.length)) s') → wpAny (model prog w) A (forIn l (b k) f) Q E s
  | [], k, s, Q, _, h0, hd => by
    rw [List.forIn_nil]
    exact wpAny_pure (hd s h0)
  | x :: l, k, s, Q, hs, h0, hd => by
    rw [List.forIn_cons]
    refine wpAny_bind (hs 0 x s _ rfl h0 fun s' h' => ?_)
    dsimp only
    refine forIn_inv b P l (k + 1) s' Q (fun j y s2 Q2 e h2 q2 => ?_) h' fun s2 h2 => ?_
    · have z := hs (j + 1) y s2 Q2 (by simpa using e)
      rw [show k + (j + 1) = k + 1 + j by omega] at z
      exact z h2 q2
    · have z := hd s2
      rw [show k + (x :: l).length = k + 1 + l.length by simp; omega] at z
      exact z h2
end
/-- a tuple or a list of these items at t, its iterator at a, at i -/
def SI (h : Heap) (a t : Addr) (r : Array Value) (i : Nat) : Prop := (h.IsTupleIter a t i ∧ h.IsTuple t r) ∨ (h.IsListIter a t i ∧ h.IsList t r)
def SS (h : Heap) (t : Addr) (r : Array Value) : Prop := h.IsTuple t r ∨ h.IsList t r
theorem SS.at {h h' : Heap} {t : Addr} {r : Array Value} (s : SS h t r) (kt : ∀ o, h.get? t = some o → h'.get? t = some o) : SS h' t r := by
  rcases s with s | s
  · exact .inl (s.at kt)
  · exact .inr (s.at kt)
theorem SI.ss {h : Heap} {a t : Addr} {r : Array Value} {i : Nat} (s : SI h a t r i) : SS h t r := by
  rcases s with s | s
  · exact .inl s.2
  · exact .inr s.2
theorem SI.at {h h' : Heap} {a t : Addr} {r : Array Value} {i : Nat} (s : SI h a t r i) (ka : ∀ o, h.get? a = some o → h'.get? a = some o) (kt : ∀ o, h.get? t = some o → h'.get? t = some o) : SI h' a t r i := by
  rcases s with ⟨s1, s2⟩ | ⟨s1, s2⟩
  · exact .inl ⟨s1.at ka, s2.at kt⟩
  · exact .inr ⟨s1.at ka, s2.at kt⟩
theorem SI.extBut {h h' : Heap} {x a t : Addr} {r : Array Value} {i : Nat} (s : SI h a t r i) (hs : Heap.ExtBut x h h') (ax : a ≠ x) (tx : t ≠ x) : SI h' a t r i := s.at (fun o e => hs a o ax e) (fun o e => hs t o tx e)
theorem SI.lt {h : Heap} {a t : Addr} {r : Array Value} {i : Nat} (s : SI h a t r i) : a < h.objs.size ∧ t < h.objs.size := by
  rcases s with ⟨⟨_, e, _⟩, ⟨_, e2, _⟩⟩ | ⟨⟨_, e, _⟩, ⟨_, e2, _⟩⟩ <;> exact ⟨Heap.lt_size e, Heap.lt_size e2⟩
theorem SI.obj {h : Heap} {a t : Addr} {r : Array Value} {i : Nat} (s : SI h a t r i) : ∃ o, h.get? a = some o ∧ ∀ v, o.data ≠ .cell v := by
  rcases s with ⟨⟨o, e, _, d⟩, _⟩ | ⟨⟨o, e, _, d⟩, _⟩ <;> exact ⟨o, e, fun v q => by rw [d] at q; cases q⟩
section
variable {prog : Program} {w : World} {A : Around} {E : Value → Shared → Prop} {s : Shared}
theorem SI.item {a t : Addr} {r : Array Value} {i : Nat} {x : Value} {Q : Value → Shared → Prop} (si : SI s.heap a t r i) (ta : t ≠ a) (hx : r[i]? = some x) (hQ : ∀ h', SI h' a t r (i + 1) → Heap.SameBut a s.heap h' → Q x { s with heap := h' }) :
    wpAny (model prog w) A (Builtin.SmallTypes.nextOf (.ref a)) Q E s := by
  rcases si with ⟨s1, s2⟩ | ⟨s1, s2⟩
  · exact wpAny_nextOf_tuple_item s1 s2 hx fun h' it sb => hQ h' (.inl ⟨it, s2.extBut sb.extBut ta⟩) sb
  · exact wpAny_nextOf_list_item s1 s2 hx fun h' it sb => hQ h' (.inr ⟨it, s2.extBut sb.extBut ta⟩) sb
theorem SI.endd {a t : Addr} {r : Array Value} {i : Nat} {Q : Value → Shared → Prop} (hh : A.handled = none) (si : SI s.heap a t r i) (hx : r[i]? = none)
    (hE : ∀ h' e, Heap.ExtBut a s.heap h' → (∃ o, h'.get? e = some o ∧ o.cls = .type "StopIteration") → E (.ref e) { s with heap := h' }) : wpAny (model prog w) A (Builtin.SmallTypes.nextOf (.ref a)) Q E s := by
  rcases si with ⟨s1, s2⟩ | ⟨s1, s2⟩
  · exact wpAny_nextOf_tuple_end hh s1 s2 hx hE
  · exact wpAny_nextOf_list_end hh s1 s2 hx hE
end
/-- the zip at z: its iterators' tuple at TI, its own tuple at TO, the iterators its over the tuples tps, whose items are rows, each at i -/
structure ZSt (h : Heap) (z TI TO : Addr) (its tps : List Addr) (rows : List (Array Value)) (i : Nat) : Prop where
  zz : ∃ f0 f1, h.get? z = some { cls := .type "zip", dict := none, data := .fields #[f0, f1, .bool false, .ref TI, .ref TO], slots := #[] } ∧ (f0 = .none ∨ ∃ a t, f0 = .int a t)
  tI : h.get? TI = some { cls := .type "tuple", data := .seq (its.map Value.ref).toArray }
  tO : ∃ arr : Array Value, h.get? TO = some { cls := .type "tuple", data := .seq arr } ∧ arr.size = its.length
  it : ∀ (j : Nat) (a t : Addr) (r : Array Value), its[j]? = some a → tps[j]? = some t → rows[j]? = some r → SI h a t r i
structure ZAp (z TI TO : Addr) (its tps : List Addr) (rows : List (Array Value)) : Prop where
  l1 : its.length = tps.length
  l2 : its.length = rows.length
  l0 : 0 < its.length
  ls : its.length ≤ sizeLine
  TIz : TI ≠ z
  TOz : TO ≠ z
  TITO : TI ≠ TO
  TIi : TI ∉ its
  TOi : TO ∉ its
  zi : z ∉ its
  nd : its.Nodup
  tz : ∀ t ∈ tps, t ≠ z ∧ t ≠ TO ∧ t ∉ its
/-- the i-th of each row -/
def colA (rows : List (Array Value)) (i : Nat) : List Value := rows.map fun r => r.getD i .none
section
variable {prog : Program} {w : World} {A : Around} {E : Value → Shared → Prop} {s : Shared} {z TI TO : Addr} {its tps : List Addr} {rows : List (Array Value)} {i m : Nat}
abbrev wrs (z TO : Addr) (its : List Addr) : List Addr := z :: TO :: its
/-- behind the zip's own doings: what is not its own is kept -/
structure Kep (z TO : Addr) (its : List Addr) (s s' : Shared) : Prop where
  k : ∀ c o, c ∉ wrs z TO its → s.heap.get? c = some o → s'.heap.get? c = some o
  g : s'.gens = s.gens
  d : s'.drawn = s.drawn
  o : s'.os = s.os
theorem Kep.refl : Kep z TO its s s := ⟨fun _ _ _ e => e, rfl, rfl, rfl⟩
theorem Kep.trans {a b c : Shared} (x : Kep z TO its a b) (y : Kep z TO its b c) : Kep z TO its a c := ⟨fun p o hp e => y.k p o hp (x.k p o hp e), y.g.trans x.g, y.d.trans x.d, y.o.trans x.o⟩
/-- within a turn: k iterators have been drawn (ow: into the zip's own tuple) -/
structure Mid (h : Heap) (z TI TO : Addr) (its tps : List Addr) (rows : List (Array Value)) (i k : Nat) (f0 f1 : Value) (ow : Bool) : Prop where
  zz : h.get? z = some { cls := .type "zip", dict := none, data := .fields #[f0, f1, .bool false, .ref TI, .ref TO], slots := #[] }
  tI : h.get? TI = some { cls := .type "tuple", data := .seq (its.map Value.ref).toArray }
  tO : ∃ arr : Array Value, h.get? TO = some { cls := .type "tuple", data := .seq arr } ∧ arr.size = its.length ∧ (ow = true → ∀ j, j < k → arr[j]? = (colA rows i)[j]?)
  it : ∀ (j : Nat) (a t : Addr) (r : Array Value), its[j]? = some a → tps[j]? = some t → rows[j]? = some r → SI h a t r (if j < k then i + 1 else i)
theorem idx_at {j : Nat} {x : Value × Nat} (h : ((its.map Value.ref).zipIdx)[j]? = some x) : ∃ a, its[j]? = some a ∧ x = (.ref a, j) := by
  rw [List.getElem?_zipIdx, List.getElem?_map] at h
  cases q : its[j]? with
  | none => rw [q] at h; cases h
  | some a => rw [q] at h; simp at h; exact ⟨a, rfl, h.symm⟩
theorem get_of {α : Type} {l : List α} {j : Nat} (h : j < l.length) : ∃ a, l[j]? = some a := ⟨l[j], List.getElem?_eq_getElem h⟩
theorem col_at {r : Array Value} {j : Nat} {x : Value} (e : rows[j]? = some r) (hx : r[i]? = some x) : (colA rows i)[j]? = some x := by
  unfold colA
  rw [List.getElem?_map, e]
  show some (r.getD i .none) = some x
  rw [Array.getD_eq_getD_getElem?, hx]
  rfl
/-- the j-th iterator is drawn -/
theorem draw (D : ZAp z TI TO its tps rows) (hm : ∀ r ∈ rows, r.size = m) (hi : i < m) {k : Nat} {f0 f1 : Value} {ow : Bool} {a : Addr} (ea : its[k]? = some a) (M : Mid s.heap z TI TO its tps rows i k f0 f1 ow) {Q : Value → Shared → Prop}
    (hQ : ∀ x s', (colA rows i)[k]? = some x → Kep z TO its s s' → s'.heap.objs.size = s.heap.objs.size →
      (s'.heap.get? z = s.heap.get? z) → (s'.heap.get? TO = s.heap.get? TO) → s'.heap.get? TI = s.heap.get? TI →
      (∀ (j : Nat) (a t : Addr) (r : Array Value), its[j]? = some a → tps[j]? = some t → rows[j]? = some r → SI s'.heap a t r (if j < k + 1 then i + 1 else i)) → Q x s') :
    wpAny (model prog w) A (Builtin.SmallTypes.nextOf (.ref a)) Q E s := by
  have hk : k < its.length := (List.getElem?_eq_some_iff.mp ea).1
  obtain ⟨t, et⟩ := get_of (l := tps) (j := k) (by rw [← D.l1]; exact hk)
  obtain ⟨r, er⟩ := get_of (l := rows) (j := k) (by rw [← D.l2]; exact hk)
  have h1 := M.it k a t r ea et er
  rw [if_neg (Nat.lt_irrefl k)] at h1
  have rs : r.size = m := hm r (List.mem_of_getElem? er)
  have hx : r[i]? = some r[i] := by simp [rs, hi]
  have am : a ∈ its := List.mem_of_getElem? ea
  have az : z ≠ a := fun e => D.zi (by rw [e]; exact am)
  have aO : TO ≠ a := fun e => D.TOi (by rw [e]; exact am)
  have aI : TI ≠ a := fun e => D.TIi (by rw [e]; exact am)
  refine SI.item h1 ((D.tz t (List.mem_of_getElem? et)).2.2 <| · ▸ am) hx fun h' hit hs => hQ r[i] { s with heap := h' } (col_at er hx) ⟨fun c o hc e => hs.extBut _ _ (fun q => hc (by rw [q]; simp [am])) e, rfl, rfl, rfl⟩ hs.1 (hs.2 _ az) (hs.2 _ aO) (hs.2 _ aI) ?_
  intro j b u r2 eb eu er2
  have g1 := M.it j b u r2 eb eu er2
  have ut : u ≠ a := fun q => (D.tz u (List.mem_of_getElem? eu)).2.2 (by rw [q]; exact am)
  by_cases hj : j = k
  · subst hj
    rw [ea] at eb
    cases eb
    rw [et] at eu
    cases eu
    rw [if_pos (Nat.lt_succ_self j)]
    rw [er] at er2
    cases er2
    exact hit
  · have ba : b ≠ a := fun q => by
      subst q
      exact hj ((List.getElem?_inj hk D.nd).mp (ea.trans eb.symm)).symm
    have e1 : (if j < k + 1 then i + 1 else i) = (if j < k then i + 1 else i) := by
      by_cases h : j < k
      · rw [if_pos h, if_pos (by omega)]
      · rw [if_neg h, if_neg (by omega)]
    rw [e1]
    exact g1.extBut hs.extBut ba ut
theorem kept_push {h : Heap} {o : Obj} {c : Addr} {u : Obj} (e : h.get? c = some u) : (h.push o).get? c = some u := Heap.get?_push_of_some _ e
theorem Mid.field0 {f0 f1 : Value} {k : Nat} {ow : Bool} {h h' : Heap} (D : ZAp z TI TO its tps rows) (M : Mid h z TI TO its tps rows i k f0 f1 ow) {g0 g1 : Value}
    (hz : h'.get? z = some { cls := .type "zip", dict := none, data := .fields #[g0, g1, .bool false, .ref TI, .ref TO], slots := #[] }) (hs : Heap.SameBut z h h') : Mid h' z TI TO its tps rows i k g0 g1 ow :=
  ⟨hz, hs.extBut _ _ D.TIz M.tI, (let ⟨arr, h1, h2⟩ := M.tO; ⟨arr, hs.extBut _ _ D.TOz h1, h2⟩), fun j a t r e1 e2 e3 => by
    exact (M.it j a t r e1 e2 e3).extBut hs.extBut (fun q => D.zi (by rw [← q]; exact List.mem_of_getElem? e1)) (D.tz t (List.mem_of_getElem? e2)).1⟩
theorem Kep.sameZ {h' : Heap} (hs : Heap.SameBut z s.heap h') : Kep z TO its s { s with heap := h' } := ⟨fun c o hc e => hs.extBut _ _ (fun q => hc (by rw [q]; simp)) e, rfl, rfl, rfl⟩
theorem is_free (D : ZAp z TI TO its tps rows) {f0 f1 : Value} (hf : f0 = .none ∨ ∃ a t, f0 = .int a t) (M : Mid s.heap z TI TO its tps rows i 0 f0 f1 true) :
    wpAny (model prog w) A (Builtin.SmallTypes.ownedTupleIsFree (.ref z)) (fun _ s' => Kep z TO its s s' ∧ s'.heap.objs.size = s.heap.objs.size ∧ ∃ g1, Mid s'.heap z TI TO its tps rows i 0 f0 g1 true) E s := by
  unfold Builtin.SmallTypes.ownedTupleIsFree
  refine wpAny_bind (wpAny_field M.zz rfl (x := f0) rfl ?_)
  rcases hf with rfl | ⟨a, t, rfl⟩
  · exact wpAny_pure ⟨.refl, rfl, f1, M⟩
  · dsimp only
    refine wpAny_bind (wp_alive ?_)
    cases q : s.heap.get? a.toNat with
    | none => exact wpAny_pure ⟨.refl, rfl, f1, M⟩
    | some o =>
      simp only [Option.isNone_some, Bool.false_eq_true, if_false]
      refine wpAny_bind (wpAny_field M.zz rfl (x := f1) rfl ?_)
      by_cases hb : (f1 != Value.bool true) = true
      · rw [if_pos hb]
        refine wpAny_bind (wpAny_setField_rec M.zz (by simp) fun h' hz hs => wpAny_pure ⟨.sameZ hs, hs.1, .bool true, M.field0 D hz hs⟩)
      · rw [if_neg hb]
        first
          | exact wpAny_pure ⟨.refl, rfl, f1, M⟩
          | exact wpAny_bind (wpAny_pure (wpAny_pure ⟨.refl, rfl, f1, M⟩))
/-- one turn -/
theorem next_item (D : ZAp z TI TO its tps rows) (hm : ∀ r ∈ rows, r.size = m) (hi : i < m) (st : ZSt s.heap z TI TO its tps rows i) {Q : Value → Shared → Prop}
    (hQ : ∀ T s', Kep z TO its s s' → s.heap.objs.size ≤ T → ZSt s'.heap z TI TO its tps rows (i + 1) → s'.heap.get? T = some { cls := .type "tuple", data := .seq (colA rows i).toArray } → Q (.ref T) s') :
    wpAny (model prog w) A (Builtin.«zip.__next__» ⟨[.ref z], []⟩) (fun fin s' => ∃ v, fin = .done (.ret v) ∧ Q v s') E s := by
  obtain ⟨f0, f1, hz, hf⟩ := st.zz
  have hTI := st.tI
  have colL : (colA rows i).length = its.length := by unfold colA; rw [List.length_map, D.l2]
  have colS : (colA rows i).length ≤ sizeLine := by rw [colL]; exact D.ls
  show wpAny _ _ (field (.ref z) 2 >>= _) _ _ _
  refine wpAny_bind (wpAny_field hz rfl (x := .bool false) rfl ?_)
  show wpAny _ _ (field (.ref z) 3 >>= _) _ _ _
  refine wpAny_bind (wpAny_field hz rfl (x := .ref TI) rfl ?_)
  refine wpAny_bind (wpAny_seqItems st.tI rfl ?_)
  have ne : (its.map Value.ref).toArray.isEmpty = false := by
    cases its with
    | nil => exact absurd D.l0 (by simp)
    | cons a b => rfl
  simp only [ne]
  rw [if_neg (by decide)]
  have M0 : Mid s.heap z TI TO its tps rows i 0 f0 f1 true := ⟨hz, hTI, (let ⟨arr, h1, h2⟩ := st.tO; ⟨arr, h1, h2, fun _ j hj => absurd hj (Nat.not_lt_zero j)⟩), fun j a t r e1 e2 e3 => by
    rw [if_neg (Nat.not_lt_zero j)]
    exact st.it j a t r e1 e2 e3⟩
  have done_ : ∀ (s1 : Shared) (g0 g1 : Value) (ow : Bool), Kep z TO its s s1 → Mid s1.heap z TI TO its tps rows i its.length g0 g1 ow → (g0 = .none ∨ ∃ a t, g0 = .int a t) →
      ∀ T, s.heap.objs.size ≤ T → s1.heap.get? T = some { cls := .type "tuple", data := .seq (colA rows i).toArray } → Q (.ref T) s1 := by
    intro s1 g0 g1 ow kp M1 hg T hT hTt
    refine hQ T s1 kp hT ⟨⟨g0, g1, M1.zz, hg⟩, M1.tI, (let ⟨arr, h1, h2, _⟩ := M1.tO; ⟨arr, h1, h2⟩), fun j a t r e1 e2 e3 => ?_⟩ hTt
    have z1 := M1.it j a t r e1 e2 e3
    rw [if_pos (List.getElem?_eq_some_iff.mp e1).1] at z1
    exact z1
  refine wpAny_bind (wpAny_mono (is_free D hf M0) (fun b s1 hs1 => ?_) (fun _ _ h => h))
  obtain ⟨kp1, hsz1, g1, M1⟩ := hs1
  cases b with
  | true =>
    rw [if_pos rfl]
    refine wpAny_bind (wpAny_rule ?_)
    refine wpAny_bind (wpAny_field M1.zz rfl (x := .ref TO) rfl ?_)
    dsimp only
    refine wpAny_bind (wpAny_setField_rec M1.zz (by simp) fun h2 hz2 hs2 => ?_)
    have M2 := M1.field0 D hz2 hs2
    refine wpAny_bind ?_
    refine forIn_inv (fun _ => (none, ())) (fun k s' => Kep z TO its s s' ∧ s'.heap.objs.size = s.heap.objs.size ∧ Mid s'.heap z TI TO its tps rows i k .ellipsis g1 true) _ 0 _ _ ?_ ⟨kp1.trans (.sameZ hs2), by rw [← hsz1]; exact hs2.1, M2⟩ ?_
    · rintro j x s3 Q3 ex ⟨kp3, hsz3, M3⟩ q3
      obtain ⟨a, ea, rfl⟩ := idx_at ex
      rw [Nat.zero_add] at M3 q3
      refine wpAny_bind (wpAny_onRaise ?_)
      show wpAny _ _ (Builtin.SmallTypes.nextOf (.ref a) >>= _) _ _ _
      refine wpAny_bind (draw D hm hi ea M3 fun xv s4 hx kp4 sz4 e1 e2 e3 hit => wpAny_pure ?_)
      dsimp only
      obtain ⟨arr, hTO, asz, apr⟩ := M3.tO
      have hTO4 : s4.heap.get? TO = some { cls := .type "tuple", data := .seq arr } := by rw [e2]; exact hTO
      refine wpAny_bind (wpAny_seqItems hTO4 rfl ?_)
      dsimp only
      have aS : arr.size ≤ sizeLine := by rw [asz]; exact D.ls
      refine wpAny_bind (wpAny_updateSeq hTO4 rfl ?_ aS (by simp; omega))
      refine wpAny_bind (wpAny_letGo (wpAny_pure (q3 _ ⟨kp3.trans (kp4.trans ⟨fun c o hc e => ?_, rfl, rfl, rfl⟩), ?_, ?_⟩)))
      · exact (Heap.get?_update_other _ _ (fun q => hc (by rw [← q]; simp))).trans e
      · show (Heap.update _ _ _).objs.size = _
        rw [(Heap.SameBut.update (h := s4.heap) (a := TO) ..).1, sz4, hsz3]
      · have hs5 : Heap.SameBut TO s4.heap (s4.heap.update TO (Obj.mapSeq fun x2 => x2.setIfInBounds j xv)) := Heap.SameBut.update ..
        refine ⟨hs5.extBut _ _ D.TOz.symm (by rw [e1]; exact M3.zz), hs5.extBut _ _ D.TITO (by rw [e3]; exact M3.tI), ⟨arr.setIfInBounds j xv, ?_, by simp [asz], fun _ p hp => ?_⟩, fun p b t r e4 e5 e6 => ?_⟩
        · have z5 := Heap.get?_update_self (Obj.mapSeq fun x2 => x2.setIfInBounds j xv) hTO4 rfl
          simpa [Obj.mapSeq] using z5
        · have jl : j < arr.size := by rw [asz]; exact (List.getElem?_eq_some_iff.mp ea).1
          by_cases hpj : p = j
          · subst hpj
            rw [hx]
            simp [jl]
          · rw [Array.getElem?_setIfInBounds_ne (fun q => hpj q.symm)]
            exact apr rfl p (by omega)
        · exact (hit p b t r e4 e5 e6).extBut hs5.extBut (fun q => D.TOi (by rw [← q]; exact List.mem_of_getElem? e4)) (D.tz t (List.mem_of_getElem? e5)).2.1
    · rintro s3 ⟨kp3, hsz3, M3⟩
      have ll : 0 + (its.map Value.ref).zipIdx.length = its.length := by simp
      rw [ll] at M3
      dsimp only
      obtain ⟨arr, hTO, asz, apr⟩ := M3.tO
      refine wpAny_bind (wpAny_seqItems hTO rfl ?_)
      dsimp only
      have ea : arr.toList = colA rows i := by
        apply List.ext_getElem?
        intro j
        rw [Array.getElem?_toList]
        by_cases hj : j < its.length
        · exact apr rfl j hj
        · rw [Array.getElem?_eq_none (by omega), List.getElem?_eq_none (by omega)]
      rw [ea]
      refine wpAny_bind (wpAny_newTuple ?_ colS)
      refine wpAny_bind ?_
      unfold Builtin.SmallTypes.ownedTupleHandOut
      dsimp only
      have hz6 : (s3.heap.push { cls := .type "tuple", data := .seq (colA rows i).toArray }).get? z = some { cls := .type "zip", dict := none, data := .fields #[.ellipsis, g1, .bool false, .ref TI, .ref TO], slots := #[] } := kept_push M3.zz
      refine wpAny_bind (wpAny_setField_rec hz6 (by simp) fun h7 hz7 hs7 => ?_)
      refine wpAny_setField_rec hz7 (by simp) fun h8 hz8 hs8 => ?_
      have zlt : z < s3.heap.objs.size := Heap.lt_size M3.zz
      have up : ∀ c o, c ≠ z → s3.heap.get? c = some o → h8.get? c = some o := fun c o c1 e => hs8.extBut _ _ c1 (hs7.extBut _ _ c1 (kept_push e))
      refine wpAny_pure ⟨_, rfl, done_ { s3 with heap := h8 } _ _ true (kp3.trans ⟨fun c o hc e => up c o (fun q => hc (by rw [q]; simp)) e, rfl, rfl, rfl⟩) ⟨hz8, up _ _ D.TIz M3.tI, ⟨arr, up _ _ D.TOz hTO, asz, apr⟩, fun j a t r e1 e2 e3 => ?_⟩ (.inr ⟨_, _, rfl⟩) _ ?_ ?_⟩
      · exact (M3.it j a t r e1 e2 e3).at (fun o e => up _ o (fun q => D.zi (by rw [← q]; exact List.mem_of_getElem? e1)) e) (fun o e => up _ o (D.tz t (List.mem_of_getElem? e2)).1 e)
      · rw [hsz3]; exact Nat.le_refl _
      · exact hs8.extBut _ _ (Nat.ne_of_gt zlt) (hs7.extBut _ _ (Nat.ne_of_gt zlt) (Heap.get?_push_size _ rfl))
  | false =>
    rw [if_neg (by decide)]
    refine wpAny_bind ?_
    rw [List.forIn_toArray]
    refine forIn_inv (fun k => (none, ((colA rows i).take k).toArray)) (fun k s' => Kep z TO its s s' ∧ s'.heap.objs.size = s.heap.objs.size ∧ Mid s'.heap z TI TO its tps rows i k f0 g1 false) _ 0 _ _ ?_ ⟨kp1, hsz1, M1.zz, M1.tI, (let ⟨arr, h1, h2, _⟩ := M1.tO; ⟨arr, h1, h2, fun q => nomatch q⟩), M1.it⟩ ?_
    · rintro j x s3 Q3 ex ⟨kp3, hsz3, M3⟩ q3
      rw [Nat.zero_add] at M3 q3 ⊢
      rw [List.getElem?_map] at ex
      cases ea : its[j]? with
      | none => rw [ea] at ex; cases ex
      | some a =>
        rw [ea] at ex
        cases ex
        refine wpAny_bind (wpAny_holding ?_)
        show wpAny _ _ (Builtin.SmallTypes.nextOf (.ref a) >>= _) _ _ _
        refine wpAny_bind (draw D hm hi ea M3 fun xv s4 hx kp4 sz4 e1 e2 e3 hit => wpAny_pure ?_)
        dsimp only
        have eb : ((colA rows i).take j).toArray.push xv = ((colA rows i).take (j + 1)).toArray := by
          rw [List.take_succ, hx]
          simp
        rw [eb]
        refine wpAny_pure (q3 _ ⟨kp3.trans kp4, by rw [sz4]; exact hsz3, by rw [e1]; exact M3.zz, by rw [e3]; exact M3.tI, (let ⟨arr, h1, h2, _⟩ := M3.tO; ⟨arr, by rw [e2]; exact h1, h2, fun q => nomatch q⟩), hit⟩)
    · rintro s3 ⟨kp3, hsz3, M3⟩
      have ll : 0 + (its.map Value.ref).length = its.length := by simp
      rw [ll] at M3 ⊢
      dsimp only
      have et : (colA rows i).take its.length = colA rows i := by rw [← colL]; exact List.take_length
      rw [et]
      refine wpAny_bind (wpAny_newTuple ?_ colS)
      have up : ∀ c o, s3.heap.get? c = some o → (s3.heap.push { cls := .type "tuple", data := .seq (colA rows i).toArray }).get? c = some o := fun c o e => kept_push e
      refine wpAny_pure ⟨_, rfl, done_ { s3 with heap := s3.heap.push { cls := .type "tuple", data := .seq (colA rows i).toArray } } f0 g1 false (kp3.trans ⟨fun c o hc e => up c o e, rfl, rfl, rfl⟩)
        ⟨up _ _ M3.zz, up _ _ M3.tI, (let ⟨arr, h1, h2⟩ := M3.tO; ⟨arr, up _ _ h1, h2⟩), fun j a t r e1 e2 e3 => ?_⟩ hf _ (by rw [hsz3]; exact Nat.le_refl _) (Heap.get?_push_size _ rfl)⟩
      exact (M3.it j a t r e1 e2 e3).at (fun o e => up _ o e) (fun o e => up _ o e)
/-- no turn is left -/
theorem next_end (hh : A.handled = none) (D : ZAp z TI TO its tps rows) (hm : ∀ r ∈ rows, r.size = m) (st : ZSt s.heap z TI TO its tps rows m) {Q : Fin → Shared → Prop}
    (hE : ∀ s' e, Kep z TO its s s' → (∃ o, s'.heap.get? e = some o ∧ o.cls = .type "StopIteration") → E (.ref e) s') :
    wpAny (model prog w) A (Builtin.«zip.__next__» ⟨[.ref z], []⟩) Q E s := by
  obtain ⟨f0, f1, hz, hf⟩ := st.zz
  have hTI := st.tI
  show wpAny _ _ (field (.ref z) 2 >>= _) _ _ _
  refine wpAny_bind (wpAny_field hz rfl (x := .bool false) rfl ?_)
  show wpAny _ _ (field (.ref z) 3 >>= _) _ _ _
  refine wpAny_bind (wpAny_field hz rfl (x := .ref TI) rfl ?_)
  refine wpAny_bind (wpAny_seqItems st.tI rfl ?_)
  have ne : (its.map Value.ref).toArray.isEmpty = false := by
    cases its with
    | nil => exact absurd D.l0 (by simp)
    | cons a b => rfl
  simp only [ne]
  rw [if_neg (by decide)]
  have M0 : Mid s.heap z TI TO its tps rows m 0 f0 f1 true := ⟨hz, hTI, (let ⟨arr, h1, h2⟩ := st.tO; ⟨arr, h1, h2, fun _ j hj => absurd hj (Nat.not_lt_zero j)⟩), fun j a t r e1 e2 e3 => by
    rw [if_neg (Nat.not_lt_zero j)]
    exact st.it j a t r e1 e2 e3⟩
  obtain ⟨a, ea⟩ := get_of (l := its) (j := 0) D.l0
  obtain ⟨t, et⟩ := get_of (l := tps) (j := 0) (by rw [← D.l1]; exact D.l0)
  obtain ⟨r, er⟩ := get_of (l := rows) (j := 0) (by rw [← D.l2]; exact D.l0)
  have am : a ∈ its := List.mem_of_getElem? ea
  have hr : r[m]? = none := by rw [Array.getElem?_eq_none]; rw [hm r (List.mem_of_getElem? er)]; exact Nat.le_refl _
  obtain ⟨its', eits⟩ : ∃ l, its = a :: l := by
    cases its with
    | nil => cases ea
    | cons b l => cases ea; exact ⟨l, rfl⟩
  refine wpAny_bind (wpAny_mono (is_free D hf M0) (fun b s1 hs1 => ?_) (fun _ _ h => h))
  obtain ⟨kp1, hsz1, g1, M1⟩ := hs1
  cases b with
  | true =>
    rw [if_pos rfl]
    refine wpAny_bind (wpAny_rule ?_)
    refine wpAny_bind (wpAny_field M1.zz rfl (x := .ref TO) rfl ?_)
    dsimp only
    refine wpAny_bind (wpAny_setField_rec M1.zz (by simp) fun h2 hz2 hs2 => ?_)
    have M2 := M1.field0 D hz2 hs2
    have q1 := M2.it 0 a t r ea et er
    rw [if_neg (Nat.not_lt_zero 0)] at q1
    refine wpAny_bind ?_
    subst eits
    simp only [List.map_cons, List.zipIdx_cons, List.forIn_cons]
    refine wpAny_bind (wpAny_bind (wpAny_onRaise ?_))
    show wpAny _ _ (Builtin.SmallTypes.nextOf (.ref a) >>= _) _ _ _
    refine wpAny_bind (SI.endd (s := { s1 with heap := h2 }) hh q1 hr fun h3 e hs3 he => ?_)
    obtain ⟨oe, hoe, hce⟩ := he
    have za : z ≠ a := fun q => D.zi (by rw [q]; exact am)
    have hz3 := hs3 _ _ za hz2
    have hez : e ≠ z := fun q => by subst q; rw [hz3] at hoe; cases hoe; simp at hce
    refine wpAny_setField_rec (s := { s1 with heap := h3 }) hz3 (by simp) fun h4 _ hs4 => hE { s1 with heap := h4 } e (kp1.trans ⟨fun c o hc x => hs4.extBut _ _ (fun q => hc (by rw [q]; simp)) (hs3 _ _ (fun q => hc (by rw [q]; simp)) (hs2.extBut _ _ (fun q => hc (by rw [q]; simp)) x)), rfl, rfl, rfl⟩) ⟨oe, hs4.extBut _ _ hez hoe, hce⟩
  | false =>
    rw [if_neg (by decide)]
    have q1 := M1.it 0 a t r ea et er
    rw [if_neg (Nat.not_lt_zero 0)] at q1
    refine wpAny_bind ?_
    rw [List.forIn_toArray]
    subst eits
    simp only [List.map_cons, List.forIn_cons]
    refine wpAny_bind (wpAny_bind (wpAny_holding ?_))
    show wpAny _ _ (Builtin.SmallTypes.nextOf (.ref a) >>= _) _ _ _
    refine wpAny_bind (SI.endd hh q1 hr fun h3 e hs3 he => hE { s1 with heap := h3 } e (kp1.trans ⟨fun c o hc x => hs3 _ _ (fun q => hc (by rw [q]; simp)) x, rfl, rfl, rfl⟩) he)
theorem pyNext_item (D : ZAp z TI TO its tps rows) (hm : ∀ r ∈ rows, r.size = m) (hi : i < m) (st : ZSt s.heap z TI TO its tps rows i) {Q : Option Value → Shared → Prop}
    (hQ : ∀ T s', Kep z TO its s s' → s.heap.objs.size ≤ T → ZSt s'.heap z TI TO its tps rows (i + 1) → s'.heap.get? T = some { cls := .type "tuple", data := .seq (colA rows i).toArray } → Q (some (.ref T)) s') :
    wpAny (model prog w) A (pyNext (.ref z)) Q E s := by
  obtain ⟨f0, f1, hz, _⟩ := st.zz
  have hT : s.TypeIs (.ref z) "zip" := ⟨_, hz, rfl⟩
  unfold pyNext
  exact wpAny_bind (wpAny_attempt (wpAny_callSpecial?_slot (name := Str.ofString "__next__") hT F.slot_zip_next
    (wpAny_call_entry F.slot_zip_next hT F.entry_zip_next
      (next_item D hm hi st fun T s' a b c d => wpAny_pure (hQ T s' a b c d)) (F.args_zip_next_1 _))))
theorem pyNext_end (hh : A.handled = none) (D : ZAp z TI TO its tps rows) (hm : ∀ r ∈ rows, r.size = m) (st : ZSt s.heap z TI TO its tps rows m) {Q : Option Value → Shared → Prop}
    (hQ : ∀ s', Kep z TO its s s' → Q none s') : wpAny (model prog w) A (pyNext (.ref z)) Q E s := by
  obtain ⟨f0, f1, hz, _⟩ := st.zz
  have hT : s.TypeIs (.ref z) "zip" := ⟨_, hz, rfl⟩
  unfold pyNext
  refine wpAny_bind (wpAny_attempt (wpAny_callSpecial?_slot (name := Str.ofString "__next__") hT F.slot_zip_next
    (wpAny_call_entry F.slot_zip_next hT F.entry_zip_next (next_end (A := A.in1) hh D hm st fun s' e hk he => ?_) (F.args_zip_next_1 _))))
  obtain ⟨o, ho, hc⟩ := he
  refine wpAny_bind (wpAny_isInstance (T := "StopIteration") (b := true) ⟨o, ho, hc⟩ isSubtype_stop ?_)
  exact wpAny_pure (hQ _ hk)
end
end N

set_option maxRecDepth 100000
namespace N
open PySem PySem.Spec PyProof.Rows
/-- each of these is a tuple of these items -/
def AllT (h : Heap) (tps : List Addr) (rows : List (Array Value)) : Prop := ∀ (j : Nat) (t : Addr) (r : Array Value), tps[j]? = some t → rows[j]? = some r → SS h t r
theorem newClass_zip (us : List Value) : Builtin.SmallTypes.newClass "zip" ⟨.type "zip" :: us, []⟩ = pure (.type "zip", us) := by
  unfold Builtin.SmallTypes.newClass
  simp only [isType, sub_zip, pure_bind, Bool.not_true, Bool.false_eq_true, if_false]
theorem typeCall_zip : ∀ {us : List Value}, 1 ≤ us.length → us.length ≤ 6 → checkTypeCall "zip" ⟨us, []⟩ = pure ()
  | [a], _, _ => by kernel_rfl
  | [a, b], _, _ => by kernel_rfl
  | [a, b, c], _, _ => by kernel_rfl
  | [a, b, c, d], _, _ => by kernel_rfl
  | [a, b, c, d, e], _, _ => by kernel_rfl
  | [a, b, c, d, e, f], _, _ => by kernel_rfl
  | [], h, _ => absurd h (by simp)
  | _ :: _ :: _ :: _ :: _ :: _ :: _ :: _, _, h => absurd h (by simp)
theorem newCall_zip : ∀ {us : List Value}, 1 ≤ us.length → us.length ≤ 6 → checkBuiltinCall "zip.__new__" ⟨.type "zip" :: us, []⟩ = pure ()
  | [a], _, _ => by kernel_rfl
  | [a, b], _, _ => by kernel_rfl
  | [a, b, c], _, _ => by kernel_rfl
  | [a, b, c, d], _, _ => by kernel_rfl
  | [a, b, c, d, e], _, _ => by kernel_rfl
  | [a, b, c, d, e, f], _, _ => by kernel_rfl
  | [], h, _ => absurd h (by simp)
  | _ :: _ :: _ :: _ :: _ :: _ :: _ :: _, _, h => absurd h (by simp)
theorem args_object_init : ∀ {us : List Value}, 1 ≤ us.length → us.length ≤ 6 → ∀ o, argsOk "object.__init__" ⟨o :: us, []⟩
  | [a], _, _, o => by unfold argsOk; rw [signature?_of (id := "object.__init__") (n := ['_', '_', 't', 'i', 'n', 'i', '_', '_']) (o := ['t', 'c', 'e', 'j', 'b', 'o']) (by kernel_rfl) F.owner_object]; kernel_rfl
  | [a, b], _, _, o => by unfold argsOk; rw [signature?_of (id := "object.__init__") (n := ['_', '_', 't', 'i', 'n', 'i', '_', '_']) (o := ['t', 'c', 'e', 'j', 'b', 'o']) (by kernel_rfl) F.owner_object]; kernel_rfl
  | [a, b, c], _, _, o => by unfold argsOk; rw [signature?_of (id := "object.__init__") (n := ['_', '_', 't', 'i', 'n', 'i', '_', '_']) (o := ['t', 'c', 'e', 'j', 'b', 'o']) (by kernel_rfl) F.owner_object]; kernel_rfl
  | [a, b, c, d], _, _, o => by unfold argsOk; rw [signature?_of (id := "object.__init__") (n := ['_', '_', 't', 'i', 'n', 'i', '_', '_']) (o := ['t', 'c', 'e', 'j', 'b', 'o']) (by kernel_rfl) F.owner_object]; kernel_rfl
  | [a, b, c, d, e], _, _, o => by unfold argsOk; rw [signature?_of (id := "object.__init__") (n := ['_', '_', 't', 'i', 'n', 'i', '_', '_']) (o := ['t', 'c', 'e', 'j', 'b', 'o']) (by kernel_rfl) F.owner_object]; kernel_rfl
  | [a, b, c, d, e, f], _, _, o => by unfold argsOk; rw [signature?_of (id := "object.__init__") (n := ['_', '_', 't', 'i', 'n', 'i', '_', '_']) (o := ['t', 'c', 'e', 'j', 'b', 'o']) (by kernel_rfl) F.owner_object]; kernel_rfl
  | [], h, _, _ => absurd h (by simp)
  | _ :: _ :: _ :: _ :: _ :: _ :: _ :: _, _, h, _ => absurd h (by simp)
/-- the iterators of n tuples, laid from b on -/
def itsFrom (b n : Nat) : List Addr := (List.range n).map fun j => b + j
theorem itsFrom_at {b n j : Nat} {a : Addr} (h : (itsFrom b n)[j]? = some a) : j < n ∧ a = b + j := by
  unfold itsFrom at h
  rw [List.getElem?_map] at h
  by_cases hj : j < n
  · rw [List.getElem?_range hj] at h
    exact ⟨hj, by cases h; rfl⟩
  · rw [List.getElem?_eq_none (by simpa using hj)] at h
    cases h
theorem itsFrom_mem {b n : Nat} {a : Addr} (h : a ∈ itsFrom b n) : b ≤ a ∧ a < b + n := by
  unfold itsFrom at h
  obtain ⟨j, hj, e⟩ := List.mem_map.mp h
  have h2 : b + j = a := e
  have := List.mem_range.mp hj
  subst h2
  exact ⟨Nat.le_add_right _ _, Nat.add_lt_add_left this _⟩
theorem itsFrom_len {b n : Nat} : (itsFrom b n).length = n := by simp [itsFrom]
section
variable {prog : Program} {w : World} {A : Around} {E : Value → Shared → Prop} {s : Shared} {tps : List Addr} {rows : List (Array Value)}
/-- the iterators are made -/
theorem iter_all (hl : tps.length = rows.length) (ht : AllT s.heap tps rows) {Q : List Value → Shared → Prop}
    (hQ : ∀ h', h'.objs.size = s.heap.objs.size + tps.length → (∀ c o, s.heap.get? c = some o → h'.get? c = some o) → (∀ (j : Nat) (t : Addr) (r : Array Value), tps[j]? = some t → rows[j]? = some r → SI h' (s.heap.objs.size + j) t r 0) →
      Q ((itsFrom s.heap.objs.size tps.length).map Value.ref) { s with heap := h' }) :
    wpAny (model prog w) A (Builtin.SmallTypes.iterAll (tps.map Value.ref)) Q E s := by
  unfold Builtin.SmallTypes.iterAll
  refine wpAny_bind ?_
  refine forIn_inv (fun k => ((itsFrom s.heap.objs.size k).map Value.ref).toArray) (fun k s' => ∃ h', s' = { s with heap := h' } ∧ h'.objs.size = s.heap.objs.size + k ∧ (∀ c o, s.heap.get? c = some o → h'.get? c = some o) ∧
    ∀ (j : Nat) (t : Addr) (r : Array Value), j < k → tps[j]? = some t → rows[j]? = some r → SI h' (s.heap.objs.size + j) t r 0) _ 0 _ _ ?_ ⟨s.heap, rfl, rfl, fun _ _ e => e, fun j _ _ hj => absurd hj (Nat.not_lt_zero j)⟩ ?_
  · rintro j x s3 Q3 ex ⟨h3, rfl, sz3, kp3, it3⟩ q3
    rw [Nat.zero_add] at *
    rw [List.getElem?_map] at ex
    cases et : tps[j]? with
    | none => rw [et] at ex; cases ex
    | some t =>
      rw [et] at ex
      cases ex
      obtain ⟨r, er⟩ := get_of (l := rows) (j := j) (by rw [← hl]; exact (List.getElem?_eq_some_iff.mp et).1)
      have tt : SS h3 t r := (ht j t r et er).at fun o e => kp3 _ o e
      have eb : ((itsFrom s.heap.objs.size j).map Value.ref).toArray.push (.ref h3.objs.size) = ((itsFrom s.heap.objs.size (j + 1)).map Value.ref).toArray := by
        unfold itsFrom
        rw [List.range_succ, sz3]
        simp
      have fin : ∀ (o : Obj), SI (h3.push o) h3.objs.size t r 0 → wpAny (model prog w) A (pure (ForInStep.yield (((itsFrom s.heap.objs.size j).map Value.ref).toArray.push (.ref h3.objs.size)))) Q3 E { s with heap := h3.push o } := fun o si => by
        rw [eb]
        refine wpAny_pure (q3 _ ⟨_, rfl, by rw [Heap.size_push, sz3]; omega, fun c o e => Heap.get?_push_of_some _ (kp3 c o e), fun p u v hp eu ev => ?_⟩)
        by_cases hpj : p = j
        · subst hpj
          rw [et] at eu
          cases eu
          rw [er] at ev
          cases ev
          rw [← sz3]
          exact si
        · exact (it3 p u v (by omega) eu ev).at (fun o e => Heap.get?_push_of_some _ e) (fun o e => Heap.get?_push_of_some _ e)
      refine wpAny_bind (wpAny_holding ?_)
      rcases tt with tt | tt
      · exact wpAny_pyIter_tuple (s := { s with heap := h3 }) tt (fin _ (.inl ⟨⟨_, Heap.get?_push_size _ rfl, rfl, rfl⟩, tt.at fun o e => Heap.get?_push_of_some _ e⟩))
      · exact wpAny_pyIter_list (s := { s with heap := h3 }) tt (fin _ (.inr ⟨⟨_, Heap.get?_push_size _ rfl, rfl, rfl⟩, tt.at fun o e => Heap.get?_push_of_some _ e⟩))
  · rintro s3 ⟨h3, rfl, sz3, kp3, it3⟩
    have ll : 0 + (tps.map Value.ref).length = tps.length := by simp
    rw [ll] at sz3 it3 ⊢
    refine wpAny_pure ?_
    simpa using hQ h3 sz3 kp3 fun j t r e e' => it3 j t r (List.getElem?_eq_some_iff.mp e).1 e e'
/-- zip(..) of these tuples -/
theorem call_zip (hl : tps.length = rows.length) (h1 : 1 ≤ tps.length) (h6 : tps.length ≤ 6) (ht : AllT s.heap tps rows) {Q : Value → Shared → Prop}
    (hQ : ∀ (z TI TO : Addr) (its : List Addr) (s' : Shared), (∀ c o, s.heap.get? c = some o → s'.heap.get? c = some o) → s'.gens = s.gens → s'.drawn = s.drawn → s'.os = s.os → (∀ a ∈ wrs z TO its, s.heap.objs.size ≤ a) → s.heap.objs.size ≤ TI →
      ZAp z TI TO its tps rows → ZSt s'.heap z TI TO its tps rows 0 → Q (.ref z) s') :
    wpAny (model prog w) A (call (.type "zip") (tps.map Value.ref)) Q E s := by
  have l1 : 1 ≤ (tps.map Value.ref).length := by simpa using h1
  have l6 : (tps.map Value.ref).length ≤ 6 := by simpa using h6
  refine callType_new F.called_zip (by decide) (typeCall_zip l1 l6) (newCall_zip l1 l6) (args_object_init l1 l6) F.entry_zip_new
    (S := fun A' R s0 => AllT s0.heap tps rows ∧ ∀ (z TI TO : Addr) (its : List Addr) (s' : Shared), (∀ c o, s0.heap.get? c = some o → s'.heap.get? c = some o) → s'.gens = s0.gens → s'.drawn = s0.drawn → s'.os = s0.os → (∀ a ∈ wrs z TO its, s0.heap.objs.size ≤ a) → s0.heap.objs.size ≤ TI →
      ZAp z TI TO its tps rows → ZSt s'.heap z TI TO its tps rows 0 → R (.ok (.ret (.ref z))) s')
    (.of_wp fun prog w A R s0 h => ?_) ⟨ht, fun z TI TO its s' k1 k2 k3 k4 k5 k6 D st => ⟨(let ⟨f0, f1, hz, _⟩ := st.zz; ⟨_, hz, rfl⟩), hQ z TI TO its s' k1 k2 k3 k4 k5 k6 D st⟩⟩
  obtain ⟨ht0, h⟩ := h
  unfold Builtin.«zip.__new__»
  refine wpAny_bind (wpAny_of_eq (newClass_zip _) ?_)
  show wpAny _ _ (Builtin.SmallTypes.iterAll (tps.map Value.ref) >>= _) _ _ _
  refine wpAny_bind (iter_all hl ht0 fun h1 sz1 kp1 it1 => ?_)
  have L : ((itsFrom s0.heap.objs.size tps.length).map Value.ref).length = tps.length := by rw [List.length_map, itsFrom_len]
  have six : (6 : Nat) ≤ sizeLine := by decide
  refine wpAny_bind (wpAny_newTuple ?_ (by rw [L]; exact Nat.le_trans h6 six))
  refine wpAny_bind (wpAny_newTuple ?_ (by rw [List.length_map, L]; exact Nat.le_trans h6 six))
  unfold Builtin.SmallTypes.newRecord
  refine wpAny_bind (wpAny_newObj_type (T := "zip") ?_ ?_)
  case refine_2 => show (5 : Nat) ≤ sizeLine + 2; decide
  refine wpAny_pure ⟨_, rfl, ?_⟩
  dsimp only
  generalize eI : h1.push { cls := .type "tuple", data := .seq ((itsFrom s0.heap.objs.size tps.length).map Value.ref).toArray } = hI
  have zI : hI.objs.size = h1.objs.size + 1 := by rw [← eI]; exact Heap.size_push ..
  have kI : ∀ c o, h1.get? c = some o → hI.get? c = some o := fun c o e => by rw [← eI]; exact Heap.get?_push_of_some _ e
  have nI : hI.get? h1.objs.size = some { cls := .type "tuple", data := .seq ((itsFrom s0.heap.objs.size tps.length).map Value.ref).toArray } := by rw [← eI]; exact Heap.get?_push_size _ rfl
  generalize eO : hI.push { cls := .type "tuple", data := .seq (((itsFrom s0.heap.objs.size tps.length).map Value.ref).map fun _ => Value.none).toArray } = hO
  have zO : hO.objs.size = hI.objs.size + 1 := by rw [← eO]; exact Heap.size_push ..
  have kO : ∀ c o, hI.get? c = some o → hO.get? c = some o := fun c o e => by rw [← eO]; exact Heap.get?_push_of_some _ e
  have nO : hO.get? hI.objs.size = some { cls := .type "tuple", data := .seq (((itsFrom s0.heap.objs.size tps.length).map Value.ref).map fun _ => Value.none).toArray } := by rw [← eO]; exact Heap.get?_push_size _ rfl
  have im : ∀ {a}, a ∈ itsFrom s0.heap.objs.size tps.length → s0.heap.objs.size ≤ a ∧ a < h1.objs.size := fun q => by
    have := itsFrom_mem q
    exact ⟨this.1, by rw [sz1]; exact this.2⟩
  have tm : ∀ {t}, t ∈ tps → t < s0.heap.objs.size := fun {t} q => by
    obtain ⟨j, hj⟩ := List.getElem?_of_mem q
    obtain ⟨r, er⟩ := get_of (l := rows) (j := j) (by rw [← hl]; exact (List.getElem?_eq_some_iff.mp hj).1)
    rcases ht0 j t r hj er with ⟨o, e, _⟩ | ⟨o, e, _⟩ <;> exact Heap.lt_size e
  have kZ : ∀ (o : Obj) c u, hO.get? c = some u → (hO.push o).get? c = some u := fun o c u e => Heap.get?_push_of_some _ e
  refine h hO.objs.size h1.objs.size hI.objs.size (itsFrom s0.heap.objs.size tps.length) _ (fun c o e => kZ _ _ _ (kO _ _ (kI _ _ (kp1 _ _ e)))) rfl rfl rfl ?_ (by omega) ?_ ?_
  · intro a ha
    rcases List.mem_cons.mp ha with rfl | ha
    · omega
    rcases List.mem_cons.mp ha with rfl | ha
    · omega
    exact (im ha).1
  · have a1 : h1.objs.size < hI.objs.size := by omega
    have a2 : hI.objs.size < hO.objs.size := by omega
    have a3 : h1.objs.size < hO.objs.size := Nat.lt_trans a1 a2
    have a4 : s0.heap.objs.size ≤ h1.objs.size := by omega
    refine ⟨itsFrom_len, by rw [itsFrom_len]; exact hl, by rw [itsFrom_len]; exact Nat.lt_of_lt_of_le (by decide) (show 1 ≤ tps.length by simpa using l1), by rw [itsFrom_len]; exact Nat.le_trans h6 six, Nat.ne_of_lt a3, Nat.ne_of_lt a2, Nat.ne_of_lt a1,
      fun q => Nat.lt_irrefl _ (im q).2, fun q => Nat.lt_irrefl _ (Nat.lt_trans (im q).2 a1), fun q => Nat.lt_irrefl _ (Nat.lt_trans (im q).2 a3), ?_, fun t q => ⟨Nat.ne_of_lt (Nat.lt_of_lt_of_le (tm q) (Nat.le_trans a4 (Nat.le_of_lt a3))), Nat.ne_of_lt (Nat.lt_of_lt_of_le (tm q) (Nat.le_trans a4 (Nat.le_of_lt a1))), fun r => Nat.lt_irrefl _ (Nat.lt_of_lt_of_le (tm q) (im r).1)⟩⟩
    unfold itsFrom
    exact List.pairwise_map.mpr (List.nodup_range.imp fun h e => h (Nat.add_left_cancel e))
  · refine ⟨⟨.none, .bool false, Heap.get?_push_size _ rfl, .inl rfl⟩, kZ _ _ _ (kO _ _ nI), ⟨_, kZ _ _ _ nO, ?_⟩, fun j a t r ea et er => ?_⟩
    · simp
    · obtain ⟨hj, rfl⟩ := itsFrom_at ea
      exact (it1 j t r et er).at (fun o e => kZ _ _ _ (kO _ _ (kI _ _ e))) (fun o e => kZ _ _ _ (kO _ _ (kI _ _ e)))
end
end N

set_option maxRecDepth 100000
namespace N
open PySem PySem.Spec PyProof.Rows
theorem zip_no_len : typeLookup (.type "zip") "__len__" = pure none := by rw [typeLookup_type, builtinLookup_eq_fast]; kernel_rfl
theorem zip_no_hint : typeLookup (.type "zip") "__length_hint__" = pure none := by rw [typeLookup_type, builtinLookup_eq_fast]; kernel_rfl
/-- what the turns gave: the columns -/
structure Got (h : Heap) (rows : List (Array Value)) (Ts : List Addr) (lo : Nat) : Prop where
  at_ : ∀ (j : Nat) (t : Addr), Ts[j]? = some t → h.get? t = some { cls := .type "tuple", data := .seq (colA rows j).toArray }
  lo : ∀ t ∈ Ts, lo ≤ t
  nd : Ts.Nodup
/-- the zip's and the list's own doings -/
structure KepS (z TO : Addr) (its : List Addr) (S : Addr) (s s' : Shared) : Prop where
  k : ∀ c o, c ∉ wrs z TO its → c ≠ S → s.heap.get? c = some o → s'.heap.get? c = some o
  g : s'.gens = s.gens
  d : s'.drawn = s.drawn
  o : s'.os = s.os
section
variable {prog : Program} {w : World} {A : Around} {E : Value → Shared → Prop} {s : Shared} {z TI TO : Addr} {its tps : List Addr} {rows : List (Array Value)} {i m : Nat} {R : Result → Shared → Prop}
theorem KepS.refl {S : Addr} : KepS z TO its S s s := ⟨fun _ _ _ _ e => e, rfl, rfl, rfl⟩
theorem KepS.trans {S : Addr} {a b c : Shared} (x : KepS z TO its S a b) (y : KepS z TO its S b c) : KepS z TO its S a c := ⟨fun p o hp hs e => y.k p o hp hs (x.k p o hp hs e), y.g.trans x.g, y.d.trans x.d, y.o.trans x.o⟩
theorem ZSt.frame {h h' : Heap} {S : Addr} (st : ZSt h z TI TO its tps rows i) (k : ∀ c o, c ≠ S → h.get? c = some o → h'.get? c = some o) (h1 : S ∉ wrs z TO its) (h2 : S ≠ TI) (h3 : S ∉ tps) : ZSt h' z TI TO its tps rows i := by
  have zS : z ≠ S := fun q => h1 (by rw [q]; simp)
  have OS : TO ≠ S := fun q => h1 (by rw [q]; simp)
  refine ⟨(let ⟨f0, f1, e, q⟩ := st.zz; ⟨f0, f1, k _ _ zS e, q⟩), k _ _ h2.symm st.tI, (let ⟨arr, e, q⟩ := st.tO; ⟨arr, k _ _ OS e, q⟩), fun j a t r ea et er => ?_⟩
  have aS : a ≠ S := fun q => h1 (by rw [← q]; simp [List.mem_of_getElem? ea])
  have tS : t ≠ S := fun q => h3 (by rw [← q]; exact List.mem_of_getElem? et)
  exact (st.it j a t r ea et er).at (fun o e => k _ o aS e) (fun o e => k _ o tS e)
abbrev lstO (xs : Array Value) (c : Nat) : Obj := { cls := .type "list", dict := none, data := .seq xs c, slots := #[] }
theorem zloop (hh : A.handled = none) (D : ZAp z TI TO its tps rows) (hm : ∀ r ∈ rows, r.size = m) (hz : m ≤ sizeLine) {S : Addr} (S1 : S ∉ wrs z TO its) (S2 : S ≠ TI) (S3 : S ∉ tps) {lo : Nat} (res : Value) :
    ∀ (k i : Nat) (s : Shared) (Ts : List Addr) (c : Nat), m - i = k → i ≤ m → ZSt s.heap z TI TO its tps rows i → s.heap.get? S = some (lstO (Ts.map Value.ref).toArray c) → Ts.length = i → Got s.heap rows Ts lo → S ∉ Ts → (∀ t ∈ Ts, t ∉ wrs z TO its) → lo ≤ s.heap.objs.size →
    (∀ s' Ts' c', KepS z TO its S s s' → s'.heap.get? S = some (lstO (Ts'.map Value.ref).toArray c') → Ts'.length = m → Got s'.heap rows Ts' lo → S ∉ Ts' → R (.ok (.ret res)) s') →
    codeAny (model prog w) A (.builtin "list.extend.loop" ⟨[.ref S, .ref z, res], []⟩) R s := by
  intro k
  induction k with
  | zero =>
    intro i s Ts c hk hi st hS hl hG hST hTw hlo hR
    have hin : i = m := by omega
    subst hin
    refine codeAny_builtin F.entry_extend_loop ?_
    rw [Around.under_plainId F.plain_extend_loop _]
    show wpAny _ A.in1 (pyNext (.ref z) >>= _) _ _ s
    refine wpAny_bind (pyNext_end (A := A.in1) hh D hm st fun s' hk => ?_)
    refine wpAny_pure (hR s' Ts c ⟨fun p o hp _ e => hk.k p o hp e, hk.g, hk.d, hk.o⟩ (hk.k _ _ S1 hS) hl ⟨fun j t e => hk.k _ _ (hTw t (List.mem_of_getElem? e)) (hG.at_ j t e), hG.lo, hG.nd⟩ hST)
  | succ k ih =>
    intro i s Ts c hk hi st hS hl hG hST hTw hlo hR
    have hlt : i < m := by omega
    have zlt : z < s.heap.objs.size := (let ⟨_, _, e, _⟩ := st.zz; Heap.lt_size e)
    have wlt : ∀ a ∈ wrs z TO its, a < s.heap.objs.size := fun a ha => by
      rcases List.mem_cons.mp ha with rfl | ha
      · exact zlt
      rcases List.mem_cons.mp ha with rfl | ha
      · exact (let ⟨_, e, _⟩ := st.tO; Heap.lt_size e)
      obtain ⟨j, ej⟩ := List.getElem?_of_mem ha
      have hj : j < its.length := (List.getElem?_eq_some_iff.mp ej).1
      obtain ⟨t, et⟩ := get_of (l := tps) (j := j) (by rw [← D.l1]; exact hj)
      obtain ⟨r, er⟩ := get_of (l := rows) (j := j) (by rw [← D.l2]; exact hj)
      exact (st.it j a t r ej et er).lt.1
    refine codeAny_builtin F.entry_extend_loop ?_
    rw [Around.under_plainId F.plain_extend_loop _]
    show wpAny _ A.in1 (pyNext (.ref z) >>= _) _ _ s
    refine wpAny_bind (pyNext_item (A := A.in1) D hm hlt st fun T s' hk' hT st' hTt => ?_)
    have hS' := hk'.k _ _ S1 hS
    have Slt : S < s.heap.objs.size := Heap.lt_size hS
    have TS : T ≠ S := fun q => absurd Slt (by rw [← q]; exact Nat.not_lt.mpr hT)
    have Tw : T ∉ wrs z TO its := fun q => absurd (wlt T q) (Nat.not_lt.mpr hT)
    have oth : ∀ b o, b ≠ S → s'.heap.get? b = some o → (s'.heap.update S (Obj.mapSeq (·.push (.ref T)))).get? b = some o := fun b o hb e => (Heap.get?_update_other _ _ (Ne.symm hb)).trans e
    show wpAny _ A.in1 (updateSeq S (·.push (.ref T)) >>= _) _ _ _
    refine wpAny_bind ?_
    have asz : ((Ts.map Value.ref).toArray).size = i := by simp [hl]
    have up := Heap.get?_update_self (Obj.mapSeq (·.push (Value.ref T))) hS' rfl
    have Tn : T ∉ Ts := fun q => by
      obtain ⟨j, ej⟩ := List.getElem?_of_mem q
      exact absurd (Heap.lt_size (hG.at_ j T ej)) (Nat.not_lt.mpr hT)
    refine wpAny_updateSeq hS' rfl (wpAny_pure ⟨plainId_quiet F.plain_extend_loop _, ih (i + 1) _ (Ts ++ [T]) (c + 1) (by omega) hlt (st'.frame oth S1 S2 S3) ?_ (by simp [hl]) ⟨fun j t e => ?_, fun t ht => ?_, ?_⟩ ?_ (fun t ht => ?_) ?_ fun s'' Ts' c' kp a1 a2 a3 a4 => ?_⟩)
      (by rw [asz]; omega) (by show ((Ts.map Value.ref).toArray.push (.ref T)).size ≤ sizeLine + 1; rw [Array.size_push, asz]; omega)
    · simpa [Obj.mapSeq] using up
    · by_cases hj : j < Ts.length
      · rw [List.getElem?_append_left hj] at e
        have tS : t ≠ S := fun q => hST (by rw [← q]; exact List.mem_of_getElem? e)
        exact oth _ _ tS (hk'.k _ _ (hTw t (List.mem_of_getElem? e)) (hG.at_ j t e))
      · have e1 : j = Ts.length := by
          have z1 := (List.getElem?_eq_some_iff.mp e).1
          simp at z1
          omega
        subst e1
        have : T = t := by simpa using e
        subst this
        rw [hl]
        exact oth _ _ TS hTt
    · rcases List.mem_append.mp ht with ht | ht
      · exact hG.lo t ht
      · simp at ht; subst ht; exact Nat.le_trans hlo hT
    · rw [List.nodup_append]
      exact ⟨hG.nd, by simp, fun a ha b hb e => by simp at hb; subst hb; subst e; exact Tn ha⟩
    · intro q
      rcases List.mem_append.mp q with q | q
      · exact hST q
      · simp at q; exact TS q.symm
    · rcases List.mem_append.mp ht with ht | ht
      · exact hTw t ht
      · simp at ht; subst ht; exact Tw
    · have z1 : T < (s'.heap.update S (Obj.mapSeq (·.push (.ref T)))).objs.size := Heap.lt_size (oth _ _ TS hTt)
      exact Nat.le_of_lt (Nat.lt_of_le_of_lt (Nat.le_trans hlo hT) z1)
    · refine hR s'' Ts' c' ⟨fun p o hp hs e => kp.k p o hp hs (oth _ _ hs (hk'.k p o hp e)), kp.g.trans hk'.g, kp.d.trans hk'.d, kp.o.trans hk'.o⟩ a1 a2 a3 a4
theorem iter_zipG {Q : Value → Shared → Prop} (hT : s.TypeIs (.ref z) "zip") (h : Q (.ref z) s) : wpAny (model prog w) A (pyIter (.ref z)) Q E s := by
  refine wpAny_pyIter_slot hT F.slot_zip_iter (wpAny_call_entry F.slot_zip_iter hT F.entry_zip_iter ?_ (F.args_zip_iter_1 _))
  show wpAny _ _ (ret (.ref z)) _ _ s
  exact wpAny_pure ⟨_, rfl, "zip", _, hT, F.slot_zip_next.lookup, h⟩
theorem extend_zip (hh : A.handled = none) (D : ZAp z TI TO its tps rows) (hm : ∀ r ∈ rows, r.size = m) (hz : m ≤ sizeLine) {S : Addr} (S1 : S ∉ wrs z TO its) (S2 : S ≠ TI) (S3 : S ∉ tps) (res : Value) (c₀ : Nat)
    (st : ZSt s.heap z TI TO its tps rows 0) (hS : s.heap.get? S = some (lstO #[] c₀))
    (hR : ∀ s' Ts' c', KepS z TO its S s s' → s'.heap.get? S = some (lstO (Ts'.map Value.ref).toArray c') → Ts'.length = m → Got s'.heap rows Ts' s.heap.objs.size → S ∉ Ts' → R (.ok (.ret res)) s') :
    wpAny (model prog w) A.in1 (Builtin.List.listExtendWith (.ref S) (.ref z) res)
      (fun fin s' => match fin with | .done f => R (.ok f) s' | .again c' => c'.quiet = true ∧ codeAny (model prog w) A c' R s') (fun e s' => R (.error e) s') s := by
  have zS : z ≠ S := fun q => S1 (by rw [q]; simp)
  have hT : s.TypeIs (.ref z) "zip" := (let ⟨_, _, e, _⟩ := st.zz; ⟨_, e, rfl⟩)
  unfold Builtin.List.listExtendWith
  refine wpAny_bind (wpAny_typeOf hT ?_)
  have h1 : Builtin.List.listSameRef (.ref S) (.ref z) = false := by simp [Builtin.List.listSameRef, zS.symm]
  have h2 : (Value.type "zip" == Value.type "list") = false := by decide
  have h3 : (Value.type "zip" == Value.type "tuple") = false := by decide
  simp only [h1, h2, h3, Bool.or_false, Bool.false_eq_true, if_false]
  refine wpAny_bind (iter_zipG hT ?_)
  refine wpAny_bind (wpAny_holding ?_)
  unfold Builtin.List.listLengthHint
  refine wpAny_bind (wpAny_specialOf hT zip_no_len ?_)
  show wpAny _ A.in1 (specialOf (Value.ref z) (Str.ofString "__length_hint__") >>= _) _ _ _
  refine wpAny_bind (wpAny_specialOf hT zip_no_hint ?_)
  refine wpAny_pure ?_
  show wpAny _ A.in1 (rule "list.extend.makes-room" >>= fun _ => Builtin.List.listTouch (.ref S) >>= fun _ =>
    again (.builtin "list.extend.loop" ⟨[.ref S, .ref z, res], []⟩)) _ _ _
  refine wpAny_bind (wpAny_rule ?_)
  refine wpAny_bind ?_
  show wpAny _ A.in1 (updateSeq S (·.push .none) >>= fun _ => updateSeq S (·.pop)) _ _ _
  refine wpAny_bind (wpAny_updateSeq hS rfl ?_)
  have hS₂ := Heap.get?_update_self (Obj.mapSeq (·.push Value.none)) hS rfl
  refine wpAny_updateSeq (hz := by seq_fits) hS₂ rfl ?_
  have hS₃ := Heap.get?_update_self (Obj.mapSeq (·.pop)) hS₂ rfl
  have oth : ∀ b o, b ≠ S → s.heap.get? b = some o → ((s.heap.update S (Obj.mapSeq (·.push Value.none))).update S (Obj.mapSeq (·.pop))).get? b = some o :=
    fun b o hb e => (Heap.get?_update_other _ _ (Ne.symm hb)).trans ((Heap.get?_update_other _ _ (Ne.symm hb)).trans e)
  have ez : ((s.heap.update S (Obj.mapSeq (·.push Value.none))).update S (Obj.mapSeq (·.pop))).objs.size = s.heap.objs.size := by
    rw [(Heap.SameBut.update (h := s.heap.update S (Obj.mapSeq (·.push Value.none))) (a := S) ..).1, (Heap.SameBut.update (h := s.heap) (a := S) ..).1]
  refine wpAny_pure ⟨plainId_quiet F.plain_extend_loop _, zloop hh D hm hz S1 S2 S3 (lo := s.heap.objs.size) res m 0 _ [] _ rfl (Nat.zero_le _) (st.frame oth S1 S2 S3) hS₃ rfl ⟨fun j t e => by simp at e, fun t ht => by simp at ht, List.nodup_nil⟩ (by simp) (fun t ht => by simp at ht) (by show _ ≤ Array.size _; exact Nat.le_of_eq ez.symm) fun s' Ts' c' kp a1 a2 a3 a4 => ?_⟩
  exact hR s' Ts' c' ⟨fun p o hp hs e => kp.k p o hp hs (oth _ _ hs e), kp.g, kp.d, kp.o⟩ a1 a2 a3 a4
theorem list_init_zip (hh : A.handled = none) (D : ZAp z TI TO its tps rows) (hm : ∀ r ∈ rows, r.size = m) (hz : m ≤ sizeLine) {S : Addr} (S1 : S ∉ wrs z TO its) (S2 : S ≠ TI) (S3 : S ∉ tps)
    (st : ZSt s.heap z TI TO its tps rows 0) (hS : s.heap.get? S = some { cls := .type "list", data := .seq #[] })
    (hR : ∀ s' Ts' c', KepS z TO its S s s' → s'.heap.get? S = some (lstO (Ts'.map Value.ref).toArray c') → Ts'.length = m → Got s'.heap rows Ts' s.heap.objs.size → S ∉ Ts' → R (.ok (.ret .none)) s') :
    wpAny (model prog w) A.in1 (Builtin.«list.__init__» ⟨[.ref S, .ref z], []⟩)
      (fun fin s' => match fin with | .done f => R (.ok f) s' | .again c' => c'.quiet = true ∧ codeAny (model prog w) A c' R s') (fun e s' => R (.error e) s') s := by
  show wpAny _ A.in1 (do let old ← Builtin.List.listItems (.ref S); Builtin.List.listUpdate (.ref S) (fun _ => #[]); letGo old.toList.reverse; Builtin.List.listExtendWith (.ref S) (.ref z) .none) _ _ s
  refine wpAny_bind ?_
  unfold Builtin.List.listItems
  refine wpAny_bind (wpAny_seqItems hS rfl (wpAny_pure ?_))
  show wpAny _ A.in1 (updateSeq S (fun _ => #[]) >>= fun _ => letGo (#[] : Array Value).toList.reverse >>= fun _ => Builtin.List.listExtendWith (.ref S) (.ref z) .none) _ _ s
  refine wpAny_bind (wpAny_updateSeq hS rfl ?_)
  have hS₂ := Heap.get?_update_self (Obj.mapSeq (fun _ => (#[] : Array Value))) hS rfl
  have oth : ∀ b o, b ≠ S → s.heap.get? b = some o → (s.heap.update S (Obj.mapSeq (fun _ => (#[] : Array Value)))).get? b = some o :=
    fun b o hb e => (Heap.get?_update_other _ _ (Ne.symm hb)).trans e
  have ez : (s.heap.update S (Obj.mapSeq (fun _ => (#[] : Array Value)))).objs.size = s.heap.objs.size := (Heap.SameBut.update (h := s.heap) (a := S) ..).1
  have zS : z ≠ S := fun q => S1 (by rw [q]; simp)
  refine wpAny_bind (wpAny_letGo ?_)
  refine extend_zip hh D hm hz S1 S2 S3 .none _ (st.frame oth S1 S2 S3) hS₂ fun s' Ts' c' kp a1 a2 a3 a4 => ?_
  refine hR s' Ts' c' ⟨fun p o hp hs e => kp.k p o hp hs (oth _ _ hs e), kp.g, kp.d, kp.o⟩ a1 a2 ⟨a3.at_, fun t ht => ?_, a3.nd⟩ a4
  have := a3.lo t ht
  rw [← ez]; exact this
theorem call_list_zip (hh : A.handled = none) (D : ZAp z TI TO its tps rows) (hm : ∀ r ∈ rows, r.size = m) (hz : m ≤ sizeLine) {Q : Value → Shared → Prop}
    (st : ZSt s.heap z TI TO its tps rows 0) (hlt : ∀ a, (a ∈ wrs z TO its ∨ a = TI ∨ a ∈ tps) → a < s.heap.objs.size)
    (hQ : ∀ s' Ts' c', (∀ c o, c ∉ wrs z TO its → s.heap.get? c = some o → s'.heap.get? c = some o) → s'.gens = s.gens → s'.drawn = s.drawn → s'.os = s.os → s'.heap.get? s.heap.objs.size = some (lstO (Ts'.map Value.ref).toArray c') → Ts'.length = m → Got s'.heap rows Ts' (s.heap.objs.size + 1) → Q (.ref s.heap.objs.size) s') :
    wpAny (model prog w) A (call (.type "list") [.ref z]) Q E s := by
  have S1 : s.heap.objs.size ∉ wrs z TO its := fun q => Nat.lt_irrefl _ (hlt _ (.inl q))
  have S2 : s.heap.objs.size ≠ TI := fun q => Nat.lt_irrefl _ (hlt s.heap.objs.size (.inr (.inl q)))
  have S3 : s.heap.objs.size ∉ tps := fun q => Nat.lt_irrefl _ (hlt _ (.inr (.inr q)))
  refine callType_codes (Q₁ := fun obj s₁ => obj = .ref s.heap.objs.size ∧ s₁ = { s with heap := s.heap.push { cls := .type "list", data := .seq #[] } }) F.called_list (F.typeCall_list_1 _) F.entry_list_init
    (code_list_new _ ⟨rfl, rfl⟩) fun obj s₁ h₁ => ?_
  obtain ⟨rfl, rfl⟩ := h₁
  have hS : (s.heap.push { cls := .type "list", data := .seq #[] }).get? s.heap.objs.size = some { cls := .type "list", data := .seq #[] } := Heap.get?_push_size _ rfl
  have oth : ∀ b o, b ≠ s.heap.objs.size → s.heap.get? b = some o → (s.heap.push { cls := .type "list", data := .seq #[] }).get? b = some o := fun b o _ e => Heap.get?_push_of_some _ e
  have zS : z ≠ s.heap.objs.size := fun q => S1 (by rw [← q]; simp)
  refine ⟨⟨_, hS, rfl⟩, F.args_list_init_2 _ _, list_init_zip (A := A.in1) hh D hm hz S1 S2 S3 (st.frame oth S1 S2 S3) hS fun s' Ts' c' kp a1 a2 a3 a4 => ?_⟩
  refine ⟨rfl, hQ s' Ts' c' (fun c o hc e => ?_) kp.g kp.d kp.o a1 a2 ⟨a3.at_, fun t ht => ?_, a3.nd⟩⟩
  · exact kp.k c o hc (Nat.ne_of_lt (Heap.lt_size e)) (Heap.get?_push_of_some _ e)
  · have := a3.lo t ht
    rw [Heap.size_push] at this
    exact this
end
end N

set_option maxRecDepth 100000
namespace N
open PySem L2 PySem.Spec PyProof.Rows
theorem callWith_starT {M : Model} {A : Around} {E : Value → Shared → Prop} {s : Shared} {env : Env} {e : Expr} {p pos : Pos} {T : String} {Q : Value → Shared → Prop}
    (h : wpAny M A (eval e env) (fun v s₁ => PySem.W.StarOf M A E v (fun vs s₂ => wpAny M A (call (.type T) vs) Q E s₂) s₁) E s) (he : starEach [.Starred e p] env = [(true, eval e env)] := by rfl) :
    wpAny M A (callWith pos (.type T) [] (backTo pos (starEach [.Starred e p] env)) []) Q E s := by
  rw [he]
  refine PySem.W.ks_call (P := fun _ => True) rfl (fun h _ => ⟨.machine, .inr (.inl rfl), PySem.W.Looks.of_pure rfl⟩) (PySem.W.ks_lone (wpAny_mono h (fun v s1 h1 => ?_) fun _ _ x => x))
  unfold PySem.W.StarOf at h1 ⊢
  exact wpAny_mono h1 (fun b s2 h2 => ⟨h2.1, wpAny_mono h2.2 (fun vs s3 h3 => ⟨trivial, h3⟩) fun _ _ x => x⟩) fun _ _ x => x
/-- what is tracked at several addresses -/
def putX : Hp → List Addr → List HO → Hp
  | H, a :: as, p :: xs => putX (upd H a p) as xs
  | H, _, _ => H
theorem putX_off {b : Addr} : ∀ (as : List Addr) (xs : List HO) (H : Hp), b ∉ as → putX H as xs b = H b
  | [], _, _, _ => rfl
  | _ :: _, [], _, _ => rfl
  | a :: as, p :: xs, H, h => by
    show putX (upd H a p) as xs b = H b
    rw [putX_off as xs _ (fun z => h (List.mem_cons_of_mem _ z)), upd_ne (fun z => h (by rw [z]; exact List.mem_cons_self))]
theorem putX_at : ∀ (as : List Addr) (xs : List HO) (H : Hp), as.length = xs.length → as.Nodup → ∀ (j : Nat) (t : Addr) (x : HO), as[j]? = some t → xs[j]? = some x → putX H as xs t = some x
  | [], _, _, _, _, j, t, x, e1, _ => by cases e1
  | _ :: _, [], _, h, _, j, t, x, _, e2 => by cases e2
  | a :: as, p :: xs, H, h, hn, j, t, x, e1, e2 => by
    have hn' := List.nodup_cons.mp hn
    cases j with
    | zero =>
      cases e1
      cases e2
      show putX (upd H a p) as xs a = some p
      rw [putX_off as xs _ hn'.1, upd_same]
    | succ j => exact putX_at as xs (upd H a p) (Nat.succ.inj h) hn'.2 j t x e1 e2
/-- the tuple of the j-th column, as its object -/
def colO (rows : List (Array Value)) (rws : List (List V)) (j : Nat) : HO := .frz { cls := .type "tuple", data := .seq (colA rows j).toArray } (.tup (rws.map fun r => r.getD j .non))
def colV (rws : List (List V)) (j : Nat) : List V := rws.map fun r => r.getD j .non
theorem vals_col {j m : Nat} : ∀ {rws : List (List V)} {rows : List (Array Value)}, Paired (fun (r : List V) (a : Array Value) => Vals r a.toList) rws rows → (∀ r ∈ rws, r.length = m) → j < m → Vals (colV rws j) (colA rows j)
  | _, _, .nil, _, _ => .nil
  | r :: rws, a :: rows, .cons h t, hl, hj => by
    have l1 : r.length = m := hl r (List.mem_cons_self ..)
    obtain ⟨u, hu, ru⟩ := h.get (show r[j]? = some r[j] from List.getElem?_eq_getElem (by omega))
    refine .cons ?_ (vals_col t (fun q hq => hl q (List.mem_cons_of_mem _ hq)) hj)
    have e1 : r.getD j .non = r[j] := by simp [List.getD_eq_getElem?_getD, List.getElem?_eq_getElem (show j < r.length by omega)]
    have e2 : a.getD j .none = u := by
      rw [Array.getElem?_toList] at hu
      rw [Array.getD_eq_getD_getElem?, hu]
      rfl
    show RelV (r.getD j .non) (a.getD j .none)
    rw [e1, e2]
    exact ru
def rZip (K : PySem.W.Frag) : V → Hp → VK → Prop := fun x H Q => ∃ (a : Addr) (tps : List Addr) (rws : List (List V)) (m : Nat), x = .ref a ∧ (SqT K H a (tps.map V.ref) ∨ SqL K H a (tps.map V.ref)) ∧ 1 ≤ tps.length ∧ tps.length ≤ 6 ∧ m ≤ sizeLine ∧ (∀ r ∈ rws, r.length = m) ∧ Paired (fun t r => SqT K H t r) tps rws ∧
  ∀ (H' : Hp) (p : Addr) (ts : List Addr), (∀ b o, H b = some o → H' b = some o) → H p = none → (∀ t ∈ ts, H t = none) → p ∉ ts → H' p = some (.lst (ts.map V.ref)) → ts.length = m → (∀ (j : Nat) (t : Addr), ts[j]? = some t → ∃ o : Obj, o.dict = none ∧ H' t = some (.frz o (.tup (colV rws j)))) → (∀ b, b ≠ p → b ∉ ts → H' b = H b) → Q (.ref p) H'
def tZip (K : PySem.W.Frag) (te : TE) : TE := fun σ H Q => te σ H fun x H1 => rZip K x H1 Q
section
variable {X : Cx} {e : Expr} {te : TE} {p p2 sp pos2 pos : Pos}
theorem rows_of {pins : List (Addr × Obj)} {σ : L2.St} {H : Hp} {s : Shared} (I : Inv X pins σ H s) : ∀ {tps : List Addr} {rws : List (List V)}, Paired (fun t r => SqT X.K H t r) tps rws → ∃ rows : List (Array Value), tps.length = rows.length ∧ AllT s.heap tps rows ∧ Paired (fun (r : List V) (a : Array Value) => Vals r a.toList) rws rows
  | _, _, .nil => ⟨[], rfl, (fun j t r e => by cases e), .nil⟩
  | t :: tps, r :: rws, .cons h rest => by
    obtain ⟨rows, hl, ha, hv⟩ := rows_of I rest
    obtain ⟨its, rv, pt, _⟩ := I.tuple h
    refine ⟨its.toArray :: rows, by simp [hl], fun j u q e1 e2 => ?_, Paired.cons (by simpa using rv) hv⟩
    cases j with
    | zero => cases e1; cases e2; exact .inl pt
    | succ j => exact ha j u q e1 e2
theorem zip_laid {pins : List (Addr × Obj)} {σ : L2.St} {H : Hp} {s : Shared} {h' : Heap} {tk : Nat} {S : Addr} {ts : List Addr} {rws : List (List V)} {rows : List (Array Value)} {m c : Nat} (I : Inv X pins σ H s) (hz : m ≤ sizeLine) (hn : rws.length ≤ sizeLine) (hv : Paired (fun (r : List V) (a : Array Value) => Vals r a.toList) rws rows) (hm : ∀ r ∈ rws, r.length = m)
    (hk : ∀ b o, s.heap.get? b = some o → h'.get? b = some o) (hS : h'.get? S = some (lstO (ts.map Value.ref).toArray c)) (hl : ts.length = m) (hG : Got h' rows ts (S + 1)) (hSz : s.heap.objs.size ≤ S) :
    ∃ H' : Hp, (∀ b o, H b = some o → H' b = some o) ∧ H S = none ∧ (∀ t ∈ ts, H t = none) ∧ S ∉ ts ∧ H' S = some (.lst (ts.map V.ref)) ∧ (∀ (j : Nat) (t : Addr), ts[j]? = some t → ∃ o : Obj, o.dict = none ∧ H' t = some (.frz o (.tup (colV rws j)))) ∧ (∀ b, b ≠ S → b ∉ ts → H' b = H b) ∧ Inv X pins σ H' { s with heap := h', toks := tk } := by
  have hSn : S ∉ ts := fun z => by
    have z1 : S + 1 ≤ S := hG.lo _ z
    exact absurd z1 (Nat.not_succ_le_self S)
  have new : ∀ t ∈ ts, H t = none := fun t ht => I.hok.fresh (Nat.le_trans hSz (Nat.le_of_succ_le (hG.lo t ht)))
  have newS : H S = none := I.hok.fresh hSz
  have ll : ts.length = ((List.range m).map (colO rows rws)).length := by simp [hl]
  have atP : ∀ (j : Nat) (t : Addr), ts[j]? = some t → putX (upd H S (.lst (ts.map V.ref))) ts ((List.range m).map (colO rows rws)) t = some (colO rows rws j) := fun j t e => by
    refine putX_at ts _ _ ll hG.nd j t _ e ?_
    have hj : j < m := by rw [← hl]; exact (List.getElem?_eq_some_iff.mp e).1
    rw [List.getElem?_map, List.getElem?_range hj]
    rfl
  have off : ∀ b, b ≠ S → b ∉ ts → putX (upd H S (.lst (ts.map V.ref))) ts ((List.range m).map (colO rows rws)) b = H b := fun b h2 h1 => by rw [putX_off ts _ _ h1, upd_ne h2]
  have low : ∀ b o, s.heap.get? b = some o → b ∉ ts ∧ b ≠ S := fun b o e => ⟨fun z => absurd (Heap.lt_size e) (Nat.not_lt.mpr (Nat.le_trans hSz (Nat.le_of_succ_le (hG.lo b z)))), Nat.ne_of_lt (Nat.lt_of_lt_of_le (Heap.lt_size e) hSz)⟩
  have kp : ∀ b u, H b = some u → (putX (upd H S (.lst (ts.map V.ref))) ts ((List.range m).map (colO rows rws))) b = some u := fun b u e => by
    rw [off b (fun z => by rw [z, newS] at e; cases e) (fun z => by rw [new b z] at e; cases e)]
    exact e
  have eS : putX (upd H S (.lst (ts.map V.ref))) ts ((List.range m).map (colO rows rws)) S = some (.lst (ts.map V.ref)) := by rw [putX_off ts _ _ hSn, upd_same]
  refine ⟨putX (upd H S (.lst (ts.map V.ref))) ts ((List.range m).map (colO rows rws)), kp, newS, new, hSn, eS, fun j t e => ⟨_, rfl, atP j t e⟩, off, ?_⟩
  refine I.call' (ch := []) rfl ⟨fun b o q _ _ _ => hk b o q, fun b o q _ _ _ => ⟨o.slots, hk b o q⟩, fun b o q n _ => ?_, fun b o q _ => ⟨o, hk b o q⟩, fun b xs q => kp b _ q, fun b o u q => kp b _ q, fun b ps q => ⟨#[], by rw [kp b _ q]; simp⟩⟩ (fun b u q => ?_) I.bare fun b z => by simp at z
  · obtain ⟨z1, z2⟩ := low b o q
    rw [off b z2 z1]
    exact n
  · by_cases hb : b ∈ ts
    · obtain ⟨j, e1⟩ := List.getElem?_of_mem hb
      have e3 := atP j b e1
      rw [e3] at q
      cases q
      have hj : j < m := by rw [← hl]; exact (List.getElem?_eq_some_iff.mp e1).1
      exact ⟨hG.at_ j b e1, by rw [List.length_map]; exact hn, colA rows j, vals_col hv hm hj, ⟨_, hG.at_ j b e1, rfl, _, rfl⟩⟩
    · by_cases hb2 : b = S
      · rw [hb2] at q ⊢
        rw [eS] at q
        cases q
        exact ⟨by rw [List.length_map]; omega, ts.map Value.ref, c, LiI.vals_refs ts, hS⟩
      · rw [off b hb2 hb] at q
        exact (I.hok b u q).stay (fun d v _ y => hk d v y) (fun d y => kp d _ y) fun d xs y => kp d _ y
theorem rows_size {m : Nat} : ∀ {rws : List (List V)} {rows : List (Array Value)}, Paired (fun (r : List V) (a : Array Value) => Vals r a.toList) rws rows → (∀ r ∈ rws, r.length = m) → ∀ r ∈ rows, r.size = m
  | _, _, .nil, _, r, hr => by cases hr
  | _ :: _, _ :: _, .cons h t, hl, r, hr => by
    rcases List.mem_cons.mp hr with rfl | hr
    · have e1 := h.length
      rw [hl _ (List.mem_cons_self ..)] at e1
      simpa using e1.symm
    · exact rows_size t (fun q hq => hl q (List.mem_cons_of_mem _ hq)) r hr
theorem zst_lt {h : Heap} {z TI TO : Addr} {its tps : List Addr} {rows : List (Array Value)} {i : Nat} (D : ZAp z TI TO its tps rows) (st : ZSt h z TI TO its tps rows i) (a : Addr) (ha : a ∈ wrs z TO its ∨ a = TI ∨ a ∈ tps) : a < h.objs.size := by
  have all : ∀ j, j < its.length → ∃ b t r, its[j]? = some b ∧ tps[j]? = some t ∧ rows[j]? = some r := fun j hj => by
    obtain ⟨b, eb⟩ := get_of hj
    obtain ⟨t, et⟩ := get_of (l := tps) (j := j) (by rw [← D.l1]; exact hj)
    obtain ⟨r, er⟩ := get_of (l := rows) (j := j) (by rw [← D.l2]; exact hj)
    exact ⟨b, t, r, eb, et, er⟩
  rcases ha with ha | rfl | ha
  · rcases List.mem_cons.mp ha with rfl | ha
    · exact (let ⟨_, _, e, _⟩ := st.zz; Heap.lt_size e)
    rcases List.mem_cons.mp ha with rfl | ha
    · exact (let ⟨_, e, _⟩ := st.tO; Heap.lt_size e)
    obtain ⟨j, ej⟩ := List.getElem?_of_mem ha
    obtain ⟨b, t, r, eb, et, er⟩ := all j (List.getElem?_eq_some_iff.mp ej).1
    rw [ej] at eb
    cases eb
    exact (st.it j a t r ej et er).lt.1
  · exact Heap.lt_size st.tI
  · obtain ⟨j, ej⟩ := List.getElem?_of_mem ha
    obtain ⟨b, t, r, eb, et, er⟩ := all j (by rw [D.l1]; exact (List.getElem?_eq_some_iff.mp ej).1)
    rw [ej] at et
    cases et
    exact (st.it j b a r eb ej er).lt.2
theorem vals_refs_inv : ∀ {tps : List Addr} {us : List Value}, Vals (tps.map V.ref) us → us = tps.map Value.ref
  | [], _, .nil => rfl
  | _ :: _, _, .cons r t => by cases r; rw [vals_refs_inv t]; rfl
theorem pe_zipStar (hc : X.calm = true) (he : PE X e te) (hg : Gl X "list") (hm : X.mg "list" = none) (hv : bootBuiltins "list" = some (.type "list")) (hg2 : Gl X "zip") (hm2 : X.mg "zip" = none)
    (hs : starEach [.Call (.Name "zip" p2) [.Starred e sp] [] pos2] X.env = (false, eval (.Call (.Name "zip" p2) [.Starred e sp] [] pos2) X.env) :: starEach [] X.env := by rfl)
    (hst : starEach [.Starred e sp] X.env = [(true, eval e X.env)] := by rfl) :
    PE X (.Call (.Name "list" p) [.Call (.Name "zip" p2) [.Starred e sp] [] pos2] [] pos) (tZip X.K te) := by
  refine ⟨fun pins s σ H Q I hq => ?_⟩
  refine wpAny_Call_Name_kw (ld_blt I hg hm hv ?_)
  refine PyProof.Rows.callWith_type1 ?_ hs rfl
  rw [hs]
  show wpAny _ _ (spliced ((false, eval (.Call (.Name "zip" p2) [.Starred e sp] [] pos2) X.env) :: backTo pos (starEach [] X.env))) _ _ s
  refine Calls.spliced_cons ?_
  refine wpAny_Call_Name_kw (ld_blt I hg2 hm2 PyProof.Rows.boot_zip ?_)
  refine callWith_starT (thn (he.run pins s σ H _ I hq) fun u s1 ⟨x, H1, I1, rx, a, tps, rws, m, ex, hx, n1, n6, hz, hm0, hp, q⟩ => ?_) hst
  subst ex
  obtain rfl : u = Value.ref a := rx
  refine StX.star_any I1 hx fun us s2 I2 rv => ?_
  obtain rfl := vals_refs_inv rv
  obtain ⟨rows, hl, ha, hvs⟩ := rows_of I2 hp
  have hrm := rows_size hvs hm0
  have hwl : rws.length ≤ sizeLine := by
    have e1 := Paired.length hp
    have e2 : (6 : Nat) ≤ sizeLine := by decide
    omega
  refine call_zip hl n1 n6 ha fun z TI TO its s3 k3 g3 d3 o3 w3 zTI D st => ?_
  refine Calls.spliced_nil ?_
  refine call_list_zip (I1.ok.hd hc) D hrm hz st (zst_lt D st) fun s4 ts c k4 g4 d4 o4 eS el eG => ?_
  have k24 : ∀ b o, s2.heap.get? b = some o → s4.heap.get? b = some o := fun b o e => k4 b o (fun hb => absurd (Heap.lt_size e) (Nat.not_lt.mpr (w3 b hb))) (k3 b o e)
  have hSz : s2.heap.objs.size ≤ s3.heap.objs.size := by
    have e1 : z < s3.heap.objs.size := zst_lt D st z (.inl (by simp))
    exact Nat.le_of_lt (Nat.lt_of_le_of_lt (w3 z (by simp)) e1)
  obtain ⟨h4, gg4, dd4, tk4, oo4⟩ := s4
  have e1 : gg4 = s2.gens := g4.trans g3
  have e2 : dd4 = s2.drawn := d4.trans d3
  have e3 : oo4 = s2.os := o4.trans o3
  subst e1 e2 e3
  obtain ⟨H', a1, a2, a3, a4, a5, a6, a7, J⟩ := zip_laid (tk := tk4) I2 hz hwl hvs hm0 k24 eS el eG hSz
  exact ⟨.ref _, H', J, rfl, q H' _ ts a1 a2 a3 a4 a5 el a6 a7⟩
end
end N

set_option maxRecDepth 100000
namespace D
open PySem L2 G PySem.Spec PyProof.Rows
variable [Tbs]
/-! ### list(zip(*rows)) -/
omit [Tbs] in
def asTups : List PyData → Option (List (List PyData))
  | [] => some []
  | .tuple r :: xs => (asTups xs).map (r :: ·)
  | _ :: _ => none
omit [Tbs] in
def colD (rws : List (List PyData)) (j : Nat) : List PyData := rws.map fun r => r.getD j .none
omit [Tbs] in
def sameLen (m : Nat) : List (List PyData) → Bool
  | [] => true
  | r :: rs => decide (r.length = m) && sameLen m rs
omit [Tbs] in
def zipS (xs : List PyData) : Option PyData := match asTups xs with
  | some (r :: rs) => if (r :: rs).length ≤ 6 ∧ sameLen r.length (r :: rs) = true ∧ r.length ≤ 100000 then some (.list ((List.range r.length).map fun j => .tuple (colD (r :: rs) j))) else none
  | _ => none
omit [Tbs] in
def gZipStar : PyData → Option PyData
  | .tuple xs => zipS xs
  | .list xs => zipS xs
  | _ => none
omit [Tbs] in
theorem sameLen_ok {m : Nat} : ∀ {rs : List (List PyData)}, sameLen m rs = true → ∀ r ∈ rs, r.length = m
  | [], _, r, hr => by cases hr
  | q :: rs, h, r, hr => by
    simp only [sameLen, Bool.and_eq_true, decide_eq_true_eq] at h
    rcases List.mem_cons.mp hr with rfl | hr
    · exact h.1
    · exact sameLen_ok h.2 r hr
section
variable {K : PySem.W.Frag} {H H' : Hp} {c : Ctx} {w : Om}
omit [Tbs] in
theorem tups_of (sm : Same c.H0 H) : ∀ {vs : List V} {xs : List PyData} {rds : List (List PyData)}, DpAll K c.H0 vs xs → asTups xs = some rds →
    ∃ (tps : List Addr) (rws : List (List V)), vs = tps.map V.ref ∧ Paired (fun t r => SqT K H t r) tps rws ∧ Paired (fun (r : List V) (d : List PyData) => DpAll K c.H0 r d) rws rds
  | _, _, _, .nil, e => by
    cases e
    exact ⟨[], [], rfl, .nil, .nil⟩
  | _, _, _, .cons (d := d) (ds := ds) h t, e => by
    cases d with
    | tuple r =>
      simp only [asTups] at e
      cases q : asTups ds with
      | none => rw [q] at e; cases e
      | some rs =>
        rw [q] at e
        cases e
        cases h with
        | tup h1 h2 =>
          obtain ⟨tps, rws, rfl, a1, a2⟩ := tups_of sm t q
          exact ⟨_ :: tps, _ :: rws, rfl, .cons ((Held.of sm).sqt h1) a1, .cons h2 a2⟩
    | _ => simp [asTups] at e
omit [Tbs] in
theorem dp_get {H0 : Hp} {vs : List V} {ds : List PyData} (h : DpAll K H0 vs ds) : ∀ j, Dp K H0 (vs.getD j .non) (ds.getD j .none) := by
  intro j
  induction j generalizing vs ds with
  | zero => cases h with
    | nil => exact .non
    | cons a b => exact a
  | succ j ih => cases h with
    | nil => exact .non
    | cons a b => exact ih b
omit [Tbs] in
theorem cols_dp {H0 : Hp} (j : Nat) : ∀ {rws : List (List V)} {rds : List (List PyData)}, Paired (fun (r : List V) (d : List PyData) => DpAll K H0 r d) rws rds → DpAll K H0 (N.colV rws j) (colD rds j)
  | _, _, .nil => .nil
  | _, _, .cons h t => .cons (dp_get h j) (cols_dp j t)
omit [Tbs] in
theorem lens_of {m : Nat} {H0 : Hp} : ∀ {rws : List (List V)} {rds : List (List PyData)}, Paired (fun (r : List V) (d : List PyData) => DpAll K H0 r d) rws rds → (∀ r ∈ rds, r.length = m) → ∀ r ∈ rws, r.length = m
  | _, _, .nil, _, r, hr => by cases hr
  | _, _, .cons h t, hl, r, hr => by
    rcases List.mem_cons.mp hr with rfl | hr
    · rw [h.length]; exact hl _ (List.mem_cons_self ..)
    · exact lens_of t (fun q hq => hl q (List.mem_cons_of_mem _ hq)) r hr
/-- several new objects that never change -/
theorem Hold.news (hd : Hold K H c w) {new : Addr → Bool} (hn : ∀ b, new b = true → H b = none) (hk : ∀ b o, H b = some o → H' b = some o) (hq : ∀ b, new b = true → ∀ ps, H' b ≠ some (.tbl ps)) (hp : Tbs.plain = true → ∀ b, new b = true → ∀ o, H' b = some o → okP o) :
    Grow c { c with H0 := fun b => if new b = true then H' b else c.H0 b } ∧ Hold K H' { c with H0 := fun b => if new b = true then H' b else c.H0 b } w := by
  have sm : Same c.H0 (fun b => if new b = true then H' b else c.H0 b) := fun b o e => by
    have nb : ¬ new b = true := fun z => by
      have e1 := hd.sub b o e
      rw [hn b z] at e1
      cases e1
    show (if new b = true then H' b else c.H0 b) = some o
    rw [if_neg nb]
    exact e
  have off : ∀ a, c.H0 a = none → (∃ o, H a = some o) → (if new a = true then H' a else c.H0 a) = none := fun a h1 ⟨o, h2⟩ => by
    have nb : ¬ new a = true := fun z => by rw [hn a z] at h2; cases h2
    rw [if_neg nb]
    exact h1
  refine ⟨⟨sm, ⟨[], by simp⟩, rfl⟩, ⟨fun b o e => ?_, hd.nd, hd.len, fun n a ob ea eo => ?_, fun q hq => ?_, hd.pnd, tabs_same hd.tab hk, ⟨fun b ps e => ?_, hd.nt.2⟩, fun z b o e => ?_⟩⟩
  · have e' : (if new b = true then H' b else c.H0 b) = some o := e
    by_cases nb : new b = true
    · rw [if_pos nb] at e'; exact e'
    · rw [if_neg nb] at e'; exact hk b o (hd.sub b o e')
  · have z := hd.obs n a ob ea eo
    cases ob with
    | lst xs => obtain ⟨h1, vs, h2, h3⟩ := z; exact ⟨off a h1 ⟨_, h2⟩, vs, hk _ _ h2, (Held.of sm).dpAll _ _ h3⟩
    | frz xs => obtain ⟨vs, h2, h3⟩ := z; exact ⟨vs, sm _ _ h2, (Held.of sm).dpAll _ _ h3⟩
    | fdc xs => obtain ⟨oo, vs, h2, h3⟩ := z; exact ⟨oo, vs, sm _ _ h2, h3.mono sm⟩
    | dct kvs => obtain ⟨h1, vs, h2, h3⟩ := z; exact ⟨off a h1 ⟨_, h2⟩, vs, hk _ _ h2, h3.mono sm⟩
  · obtain ⟨h1, h2, h3⟩ := hd.pin q hq
    exact ⟨hk _ _ h1, off _ h2 ⟨_, h1⟩, h3⟩
  · have e' : (if new b = true then H' b else c.H0 b) = some (.tbl ps) := e
    by_cases nb : new b = true
    · rw [if_pos nb] at e'; exact hq b nb ps e'
    · rw [if_neg nb] at e'; exact hd.nt.1 b ps e'
  · have e' : (if new b = true then H' b else c.H0 b) = some o := e
    by_cases nb : new b = true
    · rw [if_pos nb] at e'; exact hp z b nb o e'
    · rw [if_neg nb] at e'; exact hd.pl z b o e'
theorem rd_zip : UnRd K (N.rZip K) gZipStar := by
  intro x H c w a d Q hd hx eg k
  have main : ∀ (p : Addr) (vs : List V) (xs : List PyData), x = .ref p → (SqT K H p vs ∨ SqL K H p vs) → DpAll K c.H0 vs xs → zipS xs = some d → N.rZip K x H Q := by
    intro p vs xs ex hs al ez
    unfold zipS at ez
    cases et : asTups xs with
    | none => rw [et] at ez; cases ez
    | some rds =>
      cases rds with
      | nil => rw [et] at ez; cases ez
      | cons r rs =>
        rw [et] at ez
        dsimp only at ez
        obtain ⟨⟨h6, hsl, hm⟩, rfl⟩ := ite_some ez
        obtain ⟨tps, rws, rfl, a1, a2⟩ := tups_of hd.sub al et
        have l1 := Paired.length a1
        have l2 := Paired.length a2
        refine ⟨p, tps, rws, r.length, ex, hs, by rw [l1, l2]; simp, by rw [l1, l2]; exact h6, lineOk hm, lens_of a2 (sameLen_ok hsl), a1, fun H' q ts b1 b2 b3 b4 b5 b6 b7 b8 => ?_⟩
        obtain ⟨g, hd'⟩ := hd.news (H' := H') (new := fun b => decide (b = q ∨ b ∈ ts)) (fun b z => by
          rcases of_decide_eq_true z with rfl | z
          · exact b2
          · exact b3 b z) b1 (fun b z ps e => by
          rcases of_decide_eq_true z with rfl | z
          · rw [b5] at e; cases e
          · obtain ⟨j, hj⟩ := List.mem_iff_getElem?.mp z
            obtain ⟨oo, _, b7'⟩ := b7 j b hj
            rw [b7'] at e; cases e) (fun _ b z o e => by
          rcases of_decide_eq_true z with rfl | z
          · rw [b5] at e; cases e; exact trivial
          · obtain ⟨j, hj⟩ := List.mem_iff_getElem?.mp z
            obtain ⟨oo, no, b7'⟩ := b7 j b hj
            rw [b7'] at e; cases e; exact no)
        refine k _ _ _ g hd' ?_
        have atq : (if decide (q = q ∨ q ∈ ts) = true then H' q else c.H0 q) = some (.lst (ts.map V.ref)) := by
          rw [if_pos (by simp)]; exact b5
        refine .lst (.inl (.inl atq)) ?_
        have step : ∀ (us : List Addr) (js : List Nat), Paired (fun (t : Addr) (j : Nat) => t ∈ ts ∧ ∃ oo : Obj, H' t = some (.frz oo (.tup (N.colV rws j)))) us js →
            DpAll K (fun b => if decide (b = q ∨ b ∈ ts) = true then H' b else c.H0 b) (us.map V.ref) (js.map fun j => PyData.tuple (colD (r :: rs) j)) := by
          intro us js hp
          induction hp with
          | nil => exact .nil
          | cons h t ih =>
            obtain ⟨h1, oo, h2⟩ := h
            refine .cons (.tup (.inl (.inr ⟨oo, ?_⟩)) ((Held.of g.h).dpAll _ _ (cols_dp _ a2))) ih
            show (if decide (_ = q ∨ _ ∈ ts) = true then H' _ else c.H0 _) = _
            rw [if_pos (by simp [h1])]
            exact h2
        refine step ts (List.range r.length) ?_
        have idx : ∀ (us : List Addr) (s : Nat), (∀ (j : Nat) (t : Addr), us[j]? = some t → t ∈ ts ∧ ∃ oo : Obj, H' t = some (.frz oo (.tup (N.colV rws (s + j))))) → Paired (fun (t : Addr) (j : Nat) => t ∈ ts ∧ ∃ oo : Obj, H' t = some (.frz oo (.tup (N.colV rws j)))) us (List.range' s us.length) := by
          intro us
          induction us with
          | nil => intro s _; exact .nil
          | cons u us ih =>
            intro s hu
            rw [List.length_cons, List.range'_succ]
            refine .cons (hu 0 u rfl) (ih (s + 1) fun j t e => ?_)
            have z := hu (j + 1) t e
            rw [show s + (j + 1) = s + 1 + j by omega] at z
            exact z
        have z := idx ts 0 fun j t e => ⟨List.mem_of_getElem? e, by rw [Nat.zero_add]; obtain ⟨oo, _, z⟩ := b7 j t e; exact ⟨oo, z⟩⟩
        rw [b6, ← List.range_eq_range'] at z
        exact z
  cases a with
  | tuple xs =>
    obtain ⟨p, vs, ex, hs, al⟩ := hx.tuple hd.sub
    exact main p vs xs ex (.inl hs) al eg
  | list xs =>
    obtain ⟨p, vs, ex, hs, al⟩ := hx.list hd.sub
    exact main p vs xs ex (.inr hs) al eg
  | _ => simp [gZipStar] at eg
end
section
variable {X : Cx} {E : XK} {e e' : Expr} {te : TE} {m : Rho → M Val}
theorem de_zipStar (pe : PE X e' (N.tZip X.K te)) (h : DE X E e te m) : DE X E e' (N.tZip X.K te) (mUn gZipStar m) :=
  ⟨pe, fun σ ρ H c w Q er hd p => h.rd σ ρ H c w _ er hd (Post.bind p fun x H1 c1 vx w1 gg hd1 r1 p1 => un_end rd_zip hd1 r1 p1)⟩
end
end D

set_option maxRecDepth 100000
namespace D
open PySem L2 G PySem.Spec PyProof.Rows
variable [Tbs]
/-! ### D.get(text, x), D a module's dict of texts and ints -/
omit [Tbs] in
def mKGet (c : List (Str × Int)) (mk md : Rho → M Val) : Rho → M Val := fun ρ => bnd (mk ρ) fun x => bnd (md ρ) fun y => fun w =>
  match look w x with
  | some (.str z) => (match lookD c z with | some i => .ok (.d (.int i)) w | none => .ok y w)
  | _ => .bad
omit [Tbs] in
def tKGet (c : List (Str × Int)) (ty tx : TE) : TE := fun σ H Q => ty σ H fun y H2 => tx σ H2 fun x H3 => ∃ z, y = .str z ∧ (∀ i, lookD c z = some i → Q (.int i) H3) ∧ (lookD c z = none → Q x H3)
section
variable {X : Cx} {E : XK} {n : Str} {c : List (Str × Int)} {e f : Expr} {npos apos cpos : Pos} {ty tx : TE} {my mx : Rho → M Val}
omit [Tbs] in
theorem pe_kget (h : ConD X.w X.K X.mg n c) (hg : Gl X n) (he : PE X e ty) (hf : PE X f tx) (m : M2 X (.Name n npos) "get" apos e f cpos) (hn : (n == ("__debug__" : Str)) = false := by decide) :
    PE X (.Call (.Attribute (.Name n npos) "get" apos) [e, f] [] cpos) (tKGet c ty tx) := by
  obtain ⟨d, es, k, h1, h2, h3, h4, h5⟩ := h
  have pn : PE X (.Name n npos) (tC (.ref d)) := pe_glob hg h1 rfl hn
  refine ⟨fun pins s σ H Q I hq => ?_⟩
  refine wpAny_Call_method m.base m.few m.line PySem.F.plainAttrs_dict PySem.F.slot_dict_get PySem.F.type_dict_get (thn (pn.run pins s σ H (fun x H1 => x = .ref d ∧ ty σ H1 fun y H2 => tx σ H2 fun x H3 => ∃ z, y = .str z ∧ (∀ i, lookD c z = some i → Q (.int i) H3) ∧ (lookD c z = none → Q x H3)) I ⟨rfl, hq⟩) fun u s1 ⟨x, H1, I1, rx, ex, q1⟩ => ?_)
  subst ex
  obtain rfl : u = Value.ref d := rx
  have hm := PySem.W.mapOf_K (prog := X.prog) (w := X.w) I1.kIn h2 h3
  refine ⟨hm.typeIs, fun b q => ?_, ?_⟩
  · cases q
    exact ⟨_, I1.kIn _ _ h2, rfl⟩
  rw [m.trees]
  refine Calls.callWith_builtin rfl (Calls.evalArgs_plain (Calls.spliced_cons (thn (he.run pins s1 σ H1 _ I1 q1) fun iv s2 ⟨y, H2, I2, ry, q2⟩ =>
    Calls.spliced_cons (thn (hf.run pins s2 σ H2 _ I2 q2) fun fv s3 ⟨x, H3, I3, rx, z, ey, qa, qb⟩ => Calls.spliced_nil ?_))))
  subst ey
  obtain ⟨t, rfl⟩ := (show ∃ t, iv = Value.str z t from ry)
  have hm3 := PySem.W.mapOf_K (prog := X.prog) (w := X.w) I3.kIn h2 h3
  refine call_meetsIn PySem.F.slot_dict_get hm3.typeIs PySem.F.entry_dict_get (PySem.F.args_dict_get_3 _ _ _) (meets_dict_get_default (strKind X.prog X.w) d (strKind_is X.prog X.w z t) h4 fv) ⟨_, hm3, ?_⟩
  obtain ⟨fa, fb⟩ := find_con (z := z) h5
  have ef : findBy Value.isStrOf es z = (es.toList.find? fun e => Value.isStrOf z e.key).map (·.val) := by
    unfold findBy
    simp
  cases q : lookD c z with
  | some i =>
    obtain ⟨t2, e2⟩ := fa i q
    rw [ef, e2]
    exact ⟨.int i, H3, I3.tok _, ⟨t2, rfl⟩, qa i q⟩
  | none =>
    rw [ef, fb q]
    exact ⟨x, H3, I3.tok _, rx, qb q⟩
theorem de_kget (h : ConD X.w X.K X.mg n c) (hg : Gl X n) (he : DE X E e ty my) (hf : DE X E f tx mx) (m : M2 X (.Name n npos) "get" apos e f cpos) (hn : (n == ("__debug__" : Str)) = false := by decide) :
    DE X E (.Call (.Attribute (.Name n npos) "get" apos) [e, f] [] cpos) (tKGet c ty tx) (mKGet c my mx) :=
  ⟨pe_kget h hg he.pe hf.pe m hn, fun σ ρ H k w Q er hd p => he.rd σ ρ H k w _ er hd (Post.bind p fun y H1 c1 vy w1 g1 hd1 r1 p1 =>
    hf.rd σ ρ H1 c1 w1 _ (er.mono g1) hd1 (Post.bind p1 fun x H2 c2 vx w2 g2 hd2 r2 p2 => by
      cases ey : look w2 vy with
      | none => simp [ey] at p2; exact p2.elim
      | some a =>
        cases a with
        | str z =>
          simp only [ey] at p2
          have e1 := (hd2.dq (r1.mono g2) ey).str
          refine ⟨z, e1, fun i q => ?_, fun q => ?_⟩
          · simp only [q] at p2
            exact p2 (.int i) H2 c2 (.refl _) hd2 (.int i)
          · simp only [q] at p2
            exact p2 x H2 c2 (.refl _) hd2 r2
        | _ => simp [ey] at p2; exact p2.elim))⟩
end
end D

set_option maxRecDepth 100000
namespace D
open PySem L2 G PySem.Spec PyProof.Rows
variable [Tbs]
section
variable {X : Cx} {E : XK} {Y : Prop}
theorem wE {e : Expr} {t : TE} {m : Rho → M Val} (k : DE X E e t m → Y) (h : DE X E e t m) : Y := k h
theorem wA {es : List Expr} {t : TA} {m : Rho → M (List Val)} (k : DA X E es t m → Y) (h : DA X E es t m) : Y := k h
theorem wP {pos : Pos} {keys : List (Option Expr)} {values : List Expr} {trs : List (TE × TE)} {ms : Rho → M (List (Key × PyData))} (k : DPP X E pos keys values trs ms → Y) (h : DPP X E pos keys values trs ms) : Y := k h
end
end D

set_option maxRecDepth 100000
namespace D
open PySem L2 G PySem.Spec PyProof.Rows
variable [Tbs]
omit [Tbs] in
abbrev BT (α : Type) := Shared → Hp → Addr → List (Str × Addr) → List Addr → α
omit [Tbs] in
def eAll (te : BT TE) : TE := fun σ H' Q => ∀ s H C cl fp, te s H C cl fp σ H' Q
omit [Tbs] in
def tAll (tt : BT TT) : TT := fun σ H' Q => ∀ s H C cl fp, tt s H C cl fp σ H' Q
section
variable {X : Cx} {E : XK} {elt tg iter : Expr} {ifs : List Expr} {scope : Scope} {own : List (Str × Nat)} {pos : Pos} {wi : TI} {g : TG} {tt : BT TT} {te : BT TE} {mi : Rho → M (List PyData)} {tm : Val → Rho → M Rho} {mt : Rho → M Bool} {me : Rho → M Val}
theorem he_all (he : ∀ (s : Shared) (H : Hp) (C : Addr) (cl : List (Str × Addr)) (fp : List Addr), DE (X.blk s H scope (compEnvC scope cl C X.env) fp) E0 elt (te s H C cl fp) me) :
    ∀ (s : Shared) (H : Hp) (C : Addr) (cl : List (Str × Addr)) (fp : List Addr), DE (X.blk s H scope (compEnvC scope cl C X.env) fp) E0 elt (eAll te) me :=
  fun s H C cl fp => ⟨pe_weak (he s H C cl fp).pe fun σ H' Q h => h s H C cl fp, fun σ ρ H' c w Q er hd p s' H2 C' cl' fp' => (he s' H2 C' cl' fp').rd σ ρ H' c w Q er hd p⟩
theorem ht_all (ht : ∀ (s : Shared) (H : Hp) (C : Addr) (cl : List (Str × Addr)) (fp : List Addr), DPT (X.blk s H scope (compEnvC scope cl C X.env) fp) E0 ifs (tt s H C cl fp) mt) :
    ∀ (s : Shared) (H : Hp) (C : Addr) (cl : List (Str × Addr)) (fp : List Addr), DPT (X.blk s H scope (compEnvC scope cl C X.env) fp) E0 ifs (tAll tt) mt :=
  fun s H C cl fp => ⟨⟨fun pins s1 σ H' Q I h => (ht s H C cl fp).pt.run pins s1 σ H' Q I (h s H C cl fp)⟩, fun σ ρ H' c w Q er hd p s' H2 C' cl' fp' => (ht s' H2 C' cl' fp').rd σ ρ H' c w Q er hd p⟩
theorem de_lcD (hc : X.calm = true) (hN : X.N.Nodup) (hi : DI X E tg iter wi mi) (ok : BlkOk X.N X.env.scope scope own)
    (hg : ∀ (s : Shared) (H : Hp) (C : Addr) (cl : List (Str × Addr)) (fp : List Addr), DG (X.blk s H scope (compEnvC scope cl C X.env) fp) tg g tm) (gi : GIn g (own.map (·.2)))
    (ht : ∀ (s : Shared) (H : Hp) (C : Addr) (cl : List (Str × Addr)) (fp : List Addr), DPT (X.blk s H scope (compEnvC scope cl C X.env) fp) E0 ifs (tt s H C cl fp) mt)
    (he : ∀ (s : Shared) (H : Hp) (C : Addr) (cl : List (Str × Addr)) (fp : List Addr), DE (X.blk s H scope (compEnvC scope cl C X.env) fp) E0 elt (te s H C cl fp) me) (hs : ∀ x, foldedSetIterable iter X.env x = pure x := by intro _; rfl) :
    DE X E (.ListComp elt [⟨tg, iter, ifs, 0⟩] scope pos) (tLc wi g (tAll tt) (eAll te) (own.map (·.2))) (mLc mi tm mt me (own.map (·.2))) := de_lc hc hN hi ok hg gi (ht_all ht) (he_all he) hs
theorem de_lcOD (hc : X.calm = true) (hN : X.N.Nodup) (hi : DI X E tg iter wi mi) (ok : BlkOk X.N X.env.scope scope own)
    (hg : ∀ (s : Shared) (H : Hp) (C : Addr) (cl : List (Str × Addr)) (fp : List Addr), DG (X.blk s H scope (compEnvC scope cl C X.env) fp) tg g tm) (gi : GIn g (own.map (·.2)))
    (ht : ∀ (s : Shared) (H : Hp) (C : Addr) (cl : List (Str × Addr)) (fp : List Addr), DPT (X.blk s H scope (compEnvC scope cl C X.env) fp) E0 ifs (tt s H C cl fp) mt)
    (he : ∀ (s : Shared) (H : Hp) (C : Addr) (cl : List (Str × Addr)) (fp : List Addr), DE (X.blk s H scope (compEnvC scope cl C X.env) fp) E0 elt (te s H C cl fp) me) (hs : ∀ x, foldedSetIterable iter X.env x = pure x := by intro _; rfl) :
    DE X E (.ListComp elt [⟨tg, iter, ifs, 0⟩] scope pos) (tLc wi g (tAll tt) (eAll te) (own.map (·.2))) (mLcO mi tm mt me (own.map (·.2))) := de_lcO hc hN hi ok hg gi (ht_all ht) (he_all he) hs
end
end D

set_option maxRecDepth 100000
namespace N
open PySem L2 PySem.Spec PyProof.Rows
/-! a for over zip of several tuples and lists of one length -/
def SqK (K : PySem.W.Frag) (H : Hp) (t : Addr × Bool) (r : List V) : Prop := (t.2 = true ∧ SqL K H t.1 r) ∨ (t.2 = false ∧ SqT K H t.1 r)
def KI (h : Heap) (a : Addr) (t : Addr × Bool) (i : Nat) : Prop := (t.2 = true ∧ h.IsListIter a t.1 i) ∨ (t.2 = false ∧ h.IsTupleIter a t.1 i)
def KS (h : Heap) (t : Addr × Bool) (r : Array Value) : Prop := (t.2 = true ∧ h.IsList t.1 r) ∨ (t.2 = false ∧ h.IsTuple t.1 r)
theorem KI.at {h h' : Heap} {a : Addr} {t : Addr × Bool} {i : Nat} (x : KI h a t i) (k : ∀ o, h.get? a = some o → h'.get? a = some o) : KI h' a t i := by
  rcases x with ⟨e, x⟩ | ⟨e, x⟩
  · exact .inl ⟨e, x.at k⟩
  · exact .inr ⟨e, x.at k⟩
theorem KS.at {h h' : Heap} {t : Addr × Bool} {r : Array Value} (x : KS h t r) (k : ∀ o, h.get? t.1 = some o → h'.get? t.1 = some o) : KS h' t r := by
  rcases x with ⟨e, x⟩ | ⟨e, x⟩
  · exact .inl ⟨e, x.at k⟩
  · exact .inr ⟨e, x.at k⟩
theorem KS.ss {h : Heap} {t : Addr × Bool} {r : Array Value} (x : KS h t r) : SS h t.1 r := by
  rcases x with ⟨_, x⟩ | ⟨_, x⟩
  · exact .inr x
  · exact .inl x
theorem KI.si {h : Heap} {a : Addr} {t : Addr × Bool} {r : Array Value} {i : Nat} (x : KI h a t i) (y : KS h t r) : SI h a t.1 r i := by
  rcases x with ⟨e, x⟩ | ⟨e, x⟩ <;> rcases y with ⟨e', y⟩ | ⟨e', y⟩
  · exact .inr ⟨x, y⟩
  · rw [e] at e'; cases e'
  · rw [e] at e'; cases e'
  · exact .inl ⟨x, y⟩
theorem SI.ki {h : Heap} {a : Addr} {t : Addr × Bool} {r : Array Value} {i : Nat} (x : SI h a t.1 r i) (y : KS h t r) : KI h a t i := by
  rcases x with ⟨x, z⟩ | ⟨x, z⟩ <;> rcases y with ⟨e', y⟩ | ⟨e', y⟩
  · obtain ⟨o, e1, c1, _⟩ := z
    obtain ⟨o2, e2, c2, _⟩ := y
    rw [e1] at e2
    cases e2
    rw [c1] at c2
    exact absurd c2 (by decide)
  · exact .inr ⟨e', x⟩
  · exact .inl ⟨e', x⟩
  · obtain ⟨o, e1, c1, _⟩ := z
    obtain ⟨o2, e2, c2, _⟩ := y
    rw [e1] at e2
    cases e2
    rw [c1] at c2
    exact absurd c2 (by decide)
theorem KI.obj {h : Heap} {a : Addr} {t : Addr × Bool} {i : Nat} (x : KI h a t i) : ∃ o, h.get? a = some o ∧ ∀ v, o.data ≠ .cell v := by
  rcases x with ⟨_, ⟨o, e, _, d⟩⟩ | ⟨_, ⟨o, e, _, d⟩⟩ <;> exact ⟨o, e, fun v q => by rw [d] at q; cases q⟩
def AllK (h : Heap) (tks : List (Addr × Bool)) (rows : List (Array Value)) : Prop := ∀ (j : Nat) (t : Addr × Bool) (r : Array Value), tks[j]? = some t → rows[j]? = some r → KS h t r
theorem fst_at {tks : List (Addr × Bool)} {j : Nat} {t : Addr} (e : (tks.map (·.1))[j]? = some t) : ∃ u, tks[j]? = some u ∧ u.1 = t := by
  rw [List.getElem?_map] at e
  cases q : tks[j]? with
  | none => rw [q] at e; cases e
  | some u => rw [q] at e; exact ⟨u, rfl, Option.some.inj e⟩
theorem AllK.all {h : Heap} {tks : List (Addr × Bool)} {rows : List (Array Value)} (x : AllK h tks rows) : AllT h (tks.map (·.1)) rows := fun j t r e1 e2 => by
  obtain ⟨u, e, rfl⟩ := fst_at e1
  exact (x j u r e e2).ss
structure ZS0 (h : Heap) (z TI TO : Addr) (its : List Addr) (tks : List (Addr × Bool)) (i : Nat) : Prop where
  zz : ∃ f0 f1, h.get? z = some { cls := .type "zip", dict := none, data := .fields #[f0, f1, .bool false, .ref TI, .ref TO], slots := #[] } ∧ (f0 = .none ∨ ∃ a t, f0 = .int a t)
  tI : h.get? TI = some { cls := .type "tuple", data := .seq (its.map Value.ref).toArray }
  tO : ∃ arr : Array Value, h.get? TO = some { cls := .type "tuple", data := .seq arr } ∧ arr.size = its.length
  it : ∀ (j : Nat) (a : Addr) (t : Addr × Bool), its[j]? = some a → tks[j]? = some t → KI h a t i
theorem ZAp.rows {z TI TO : Addr} {its tps : List Addr} {rows rows' : List (Array Value)} (D : ZAp z TI TO its tps rows) (h : its.length = rows'.length) : ZAp z TI TO its tps rows' := ⟨D.l1, h, D.l0, D.ls, D.TIz, D.TOz, D.TITO, D.TIi, D.TOi, D.zi, D.nd, D.tz⟩
theorem ZS0.to {h : Heap} {z TI TO : Addr} {its : List Addr} {tks : List (Addr × Bool)} {rows : List (Array Value)} {i : Nat} (st : ZS0 h z TI TO its tks i) (ha : AllK h tks rows) : ZSt h z TI TO its (tks.map (·.1)) rows i :=
  ⟨st.zz, st.tI, st.tO, fun j a t r ea et er => by
    obtain ⟨u, e, rfl⟩ := fst_at et
    exact (st.it j a u ea e).si (ha j u r e er)⟩
theorem ZSt.to0 {h : Heap} {z TI TO : Addr} {its : List Addr} {tks : List (Addr × Bool)} {rows : List (Array Value)} {i : Nat} (D : ZAp z TI TO its (tks.map (·.1)) rows) (st : ZSt h z TI TO its (tks.map (·.1)) rows i) (ha : AllK h tks rows) : ZS0 h z TI TO its tks i :=
  ⟨st.zz, st.tI, st.tO, fun j a t ea et => by
    obtain ⟨r, er⟩ := get_of (l := rows) (j := j) (by rw [← D.l2]; exact (List.getElem?_eq_some_iff.mp ea).1)
    exact (st.it j a t.1 r ea (by rw [List.getElem?_map, et]; rfl) er).ki (ha j t r et er)⟩
section
variable {prog : Program} {w : World} {A : Around} {E : Value → Shared → Prop} {s : Shared} {z TI TO : Addr} {its : List Addr} {tks : List (Addr × Bool)} {rows : List (Array Value)} {i : Nat}
theorem letgo {elts : List Expr} {kk : Nat} {tpos : Pos} {T : Addr} {Q : Unit → Shared → Prop} (D : ZAp z TI TO its (tks.map (·.1)) rows) (st : ZS0 s.heap z TI TO its tks i)
    (hQ : ∀ h', (∀ c, c ≠ z → h'.get? c = s.heap.get? c) → ZS0 h' z TI TO its tks i → Q () { s with heap := h' }) :
    wpAny (model prog w) A (letOwnedTupleGo (.Tuple elts kk tpos) (.ref z) (.ref T)) Q E s := by
  obtain ⟨f0, f1, hz, hf⟩ := st.zz
  unfold letOwnedTupleGo
  refine wpAny_bind (wpAny_load hz ?_)
  show wpAny _ _ (if (["enumerate", "zip", "dict_itemiterator", "dict_reverseitemiterator", "odict_iterator", "itertools.zip_longest", "itertools.pairwise"].contains "zip" &&
      (#[f0, f1, .bool false, .ref TI, .ref TO] : Array Value)[0]? == some (rawInt T)) = true then _ else _) Q E s
  split
  · refine wpAny_bind (wpAny_rule ?_)
    show wpAny _ _ (setField (.ref z) 0 .none) Q E s
    refine wpAny_setField_rec hz (by simp) fun h' hz' hs' => hQ h' (fun c hc => hs'.2 c hc) ?_
    refine ⟨⟨.none, f1, hz', .inl rfl⟩, (hs'.2 _ D.TIz).trans st.tI, (let ⟨arr, e, q⟩ := st.tO; ⟨arr, (hs'.2 _ D.TOz).trans e, q⟩), fun j a t ea et => ?_⟩
    have az : a ≠ z := fun q => D.zi (by rw [← q]; exact List.mem_of_getElem? ea)
    exact (st.it j a t ea et).at fun o e => (hs'.2 a az).trans e
  · exact wpAny_pure (hQ s.heap (fun _ _ => rfl) st)
end
def ItzN (K : PySem.W.Frag) (tks : List (Addr × Bool)) : It :=
  ⟨fun i H => ∃ (rws : List (List V)) (m : Nat), Paired (fun t r => SqK K H t r) tks rws ∧ (∀ r ∈ rws, r.length = m) ∧ i < m,
    fun i H v H' => ∃ T col o, v = .ref T ∧ H T = none ∧ o.dict = none ∧ H' = upd H T (.frz o (.tup col)) ∧ ∀ rws, Paired (fun t r => SqK K H t r) tks rws → col = colV rws i,
    fun i H => ∃ rws : List (List V), Paired (fun t r => SqK K H t r) tks rws ∧ ∀ r ∈ rws, r.length = i⟩
theorem sqk_inj {X : Cx} {pins : List (Addr × Obj)} {σ : L2.St} {H : Hp} {s : Shared} (I : Inv X pins σ H s) {t : Addr × Bool} {r1 r2 : List V} (h : SqK X.K H t r1) (h' : SqK X.K H t r2) : r1 = r2 := by
  rcases h with ⟨e, h⟩ | ⟨e, h⟩ <;> rcases h' with ⟨e', h'⟩ | ⟨e', h'⟩
  · exact I.list_inj h h'
  · rw [e] at e'; cases e'
  · rw [e] at e'; cases e'
  · exact I.tuple_inj h h'
theorem rows_inj {X : Cx} {pins : List (Addr × Obj)} {σ : L2.St} {H : Hp} {s : Shared} (I : Inv X pins σ H s) : ∀ {tks : List (Addr × Bool)} {r1 r2 : List (List V)}, Paired (fun t r => SqK X.K H t r) tks r1 → Paired (fun t r => SqK X.K H t r) tks r2 → r1 = r2
  | _, _, _, .nil, .nil => rfl
  | _, _, _, .cons h t, .cons h' t' => by rw [sqk_inj I h h', rows_inj I t t']
theorem rows_ofK {X : Cx} {pins : List (Addr × Obj)} {σ : L2.St} {H : Hp} {s : Shared} (I : Inv X pins σ H s) : ∀ {tks : List (Addr × Bool)} {rws : List (List V)}, Paired (fun t r => SqK X.K H t r) tks rws →
    ∃ rows : List (Array Value), tks.length = rows.length ∧ AllK s.heap tks rows ∧ Paired (fun (r : List V) (a : Array Value) => Vals r a.toList) rws rows
  | _, _, .nil => ⟨[], rfl, (fun j t r e => by cases e), .nil⟩
  | t :: tks, r :: rws, .cons h rest => by
    obtain ⟨rows, hl, ha, hv⟩ := rows_ofK I rest
    obtain ⟨ar, ks, vs⟩ : ∃ ar : Array Value, KS s.heap t ar ∧ Vals r ar.toList := by
      rcases h with ⟨e, h⟩ | ⟨e, h⟩
      · obtain ⟨its, rv, pt, _⟩ := I.list h
        exact ⟨its.toArray, .inl ⟨e, pt.isList⟩, by simpa using rv⟩
      · obtain ⟨its, rv, pt, _⟩ := I.tuple h
        exact ⟨its.toArray, .inr ⟨e, pt⟩, by simpa using rv⟩
    refine ⟨ar :: rows, by simp [hl], fun j u q e1 e2 => ?_, Paired.cons vs hv⟩
    cases j with
    | zero => cases e1; cases e2; exact ks
    | succ j => exact ha j u q e1 e2
theorem turn_zipN {P : Program} {w : World} {K : PySem.W.Frag} {elts : List Expr} {kk : Nat} {tpos : Pos} {z TI TO : Addr} {its : List Addr} {tks : List (Addr × Bool)} {rows0 : List (Array Value)} (D : ZAp z TI TO its (tks.map (·.1)) rows0) (h6 : tks.length ≤ 6) :
    Turn P w K (.Tuple elts kk tpos) (ItzN K tks) (z :: TI :: TO :: its) z (fun i h => ZS0 h z TI TO its tks i) where
  mem := by simp
  obj := fun i h st c hc => by
    rcases List.mem_cons.mp hc with rfl | hc
    · obtain ⟨f0, f1, e, _⟩ := st.zz
      exact ⟨_, e, fun v q => nomatch q⟩
    rcases List.mem_cons.mp hc with rfl | hc
    · exact ⟨_, st.tI, fun v q => nomatch q⟩
    rcases List.mem_cons.mp hc with rfl | hc
    · obtain ⟨arr, e, _⟩ := st.tO
      exact ⟨_, e, fun v q => nomatch q⟩
    obtain ⟨j, ej⟩ := List.getElem?_of_mem hc
    obtain ⟨t, et⟩ := get_of (l := tks) (j := j) (by have := D.l1; rw [List.length_map] at this; rw [← this]; exact (List.getElem?_eq_some_iff.mp ej).1)
    exact (st.it j c t ej et).obj
  keep := fun i h h' st k => by
    refine ⟨(let ⟨f0, f1, e, q⟩ := st.zz; ⟨f0, f1, k z (by simp) _ e, q⟩), k TI (by simp) _ st.tI, (let ⟨arr, e, q⟩ := st.tO; ⟨arr, k TO (by simp) _ e, q⟩), fun j a t ea et => (st.it j a t ea et).at fun o e => k a ?_ o e⟩
    have := List.mem_of_getElem? ea
    simp [this]
  item := by
    intro X hP hw hK hc i pins s σ H E I hf st hg
    subst hP hw hK
    obtain ⟨rws, m, hp, hm, hi⟩ := hg
    obtain ⟨rows, hl, ha, hvs⟩ := rows_ofK I hp
    have D' := D.rows (rows' := rows) (D.l1.trans (by rw [List.length_map]; exact hl))
    have st' := st.to ha
    have hfl : ∀ c ∈ z :: TI :: TO :: its, c < s.heap.objs.size := fun c hcm => by
      refine zst_lt D' st' c ?_
      rcases List.mem_cons.mp hcm with rfl | hcm
      · exact .inl (by simp)
      rcases List.mem_cons.mp hcm with rfl | hcm
      · exact .inr (.inl rfl)
      exact .inl (List.mem_cons_of_mem _ hcm)
    refine pyNext_item D' (rows_size hvs hm) hi st' fun T s1 kp hT st1 hTt => ⟨_, rfl, ?_⟩
    have ha1 : AllK s1.heap tks rows := fun j u r e1 e2 => (ha j u r e1 e2).at fun o e => kp.k _ o (fun q => by
      have m := D'.tz u.1 (List.mem_map.mpr ⟨u, List.mem_of_getElem? e1, rfl⟩)
      rcases List.mem_cons.mp q with q | q
      · exact m.1 q
      rcases List.mem_cons.mp q with q | q
      · exact m.2.1 q
      exact m.2.2 q) e
    refine letgo D' (st1.to0 D' ha1) fun h2 k2 st2 => ?_
    obtain ⟨h1, g1, d1, tk1, o1⟩ := s1
    have e1 : g1 = s.gens := kp.g
    have e2 : d1 = s.drawn := kp.d
    have e3 : o1 = s.os := kp.o
    subst e1 e2 e3
    have Tz : T ≠ z := fun q => absurd (hfl z (by simp)) (by rw [← q]; exact Nat.not_lt.mpr hT)
    have hT2 : h2.get? T = some { cls := .type "tuple", data := .seq (colA rows i).toArray } := (k2 T Tz).trans hTt
    have l6 : (colV rws i).length ≤ sizeLine := by
      have e1 := Paired.length hp
      have e2 : (6 : Nat) ≤ sizeLine := by decide
      rw [show (colV rws i).length = rws.length from List.length_map ..]
      omega
    have new : ObjOk X.prog X.w (upd H T (.frz { cls := .type "tuple", data := .seq (colA rows i).toArray } (.tup (colV rws i)))) h2 T (.frz { cls := .type "tuple", data := .seq (colA rows i).toArray } (.tup (colV rws i))) := ⟨hT2, l6, colA rows i, vals_col hvs hm hi, ⟨_, hT2, rfl, _, rfl⟩⟩
    have wsub : ∀ c, c ∉ z :: TI :: TO :: its → c ∉ wrs z TO its := fun c hb q => hb (by
      rcases List.mem_cons.mp q with rfl | q
      · simp
      rcases List.mem_cons.mp q with rfl | q
      · simp
      simp [q])
    have I1 : Inv X pins σ (upd H T (.frz { cls := .type "tuple", data := .seq (colA rows i).toArray } (.tup (colV rws i)))) { s with heap := h2, toks := tk1 } :=
      I.turnedNew (t' := tk1) (ch := z :: TI :: TO :: its) (fun c o hb q => (k2 c (fun q' => hb (by simp [q']))).trans (kp.k c o (wsub c hb) q)) hf hT new
    refine ⟨.ref T, _, I1, rfl, ⟨T, colV rws i, _, rfl, I.hok.fresh hT, rfl, rfl, fun r2 hp2 => by rw [rows_inj I hp hp2]⟩, st2, fun c hcm => ?_⟩
    rw [upd_ne (fun q => absurd (hfl c hcm) (by rw [q]; exact Nat.not_lt.mpr hT))]
    exact (hf c hcm).1
  done := by
    intro X hP hw hK hc i pins s σ H E I hf st hg
    subst hP hw hK
    obtain ⟨rws, hp, hm⟩ := hg
    obtain ⟨rows, hl, ha, hvs⟩ := rows_ofK I hp
    have D' := D.rows (rows' := rows) (D.l1.trans (by rw [List.length_map]; exact hl))
    refine pyNext_end (I.ok.hd hc) D' (rows_size hvs hm) (st.to ha) fun s1 kp => ?_
    obtain ⟨h1, g1, d1, tk1, o1⟩ := s1
    have e1 : g1 = s.gens := kp.g
    have e2 : d1 = s.drawn := kp.d
    have e3 : o1 = s.os := kp.o
    subst e1 e2 e3
    refine ⟨rfl, I.turnedL (t' := tk1) (ch := z :: TI :: TO :: its) (fun c o hb q => kp.k c o (fun q' => hb ?_) q) hf⟩
    rcases List.mem_cons.mp q' with rfl | q'
    · simp
    rcases List.mem_cons.mp q' with rfl | q'
    · simp
    simp [q']
  self := fun A i s Q E st h => iter_zipG (let ⟨_, _, e, _⟩ := st.zz; ⟨_, e, rfl⟩) h
def iZipN (K : PySem.W.Frag) (ta : TA) : TI := fun σ H R => ta σ H fun vs H1 => ∃ (tks : List (Addr × Bool)) (rws : List (List V)) (m : Nat), vs = (tks.map (·.1)).map V.ref ∧ 1 ≤ tks.length ∧ tks.length ≤ 6 ∧ (∀ r ∈ rws, r.length = m) ∧ Paired (fun t r => SqK K H1 t r) tks rws ∧ R (ItzN K tks) H1
theorem pi_zipN {X : Cx} {e : Expr} {rest : List Expr} {ta : TA} {p pos tpos : Pos} {elts : List Expr} {kk : Nat} (hg : Gl X "zip") (hm : X.mg "zip" = none) (ha : PA X (e :: rest) ta)
    (hs : starEach (e :: rest) X.env = (false, eval e X.env) :: starEach rest X.env := by rfl) (hpl : (backTo pos (starEach rest X.env)).any (·.1) = false := by rfl) :
    PI X (.Tuple elts kk tpos) (.Call (.Name "zip" p) (e :: rest) [] pos) (iZipN X.K ta) := by
  refine ⟨fun pins s σ H R I h => ?_⟩
  refine Call_ (ld_blt I hg hm PyProof.Rows.boot_zip (PyProof.Rows.callWith_type1 (thn (ha.run pos pins s σ H _ I h) fun us s1 ⟨vs, H1, I1, r1, q1⟩ => ?_) hs hpl))
  obtain ⟨tks, rws, m, rfl, n1, n6, hm0, hp, q⟩ := q1
  obtain rfl := vals_refs_inv r1
  obtain ⟨rows, hl, hat, hvs⟩ := rows_ofK I1 hp
  refine call_zip (by rw [List.length_map]; exact hl) (by rw [List.length_map]; exact n1) (by rw [List.length_map]; exact n6) hat.all fun z TI TO its s3 k3 g3 d3 o3 w3 zTI D st => ?_
  refine iter_zipG (let ⟨_, _, e, _⟩ := st.zz; ⟨_, e, rfl⟩) ?_
  obtain ⟨h3, gg3, dd3, tk3, oo3⟩ := s3
  have e1 : gg3 = s1.gens := g3
  have e2 : dd3 = s1.drawn := d3
  have e3 : oo3 = s1.os := o3
  subst e1 e2 e3
  refine ⟨z, z :: TI :: TO :: its, _, _, H1, rfl, I1.kept (t' := tk3) k3, turn_zipN D n6, st.to0 D (fun j u r e1 e2 => (hat j u r e1 e2).at fun o e => k3 _ o e), fun c hcm => ?_, q⟩
  have le : s1.heap.objs.size ≤ c := by
    rcases List.mem_cons.mp hcm with rfl | hcm
    · exact w3 _ (by simp)
    rcases List.mem_cons.mp hcm with rfl | hcm
    · exact zTI
    exact w3 c (List.mem_cons_of_mem _ hcm)
  exact I1.fpOk le (I1.hok.fresh le)
end N

set_option maxRecDepth 100000
namespace D
open PySem L2 G PySem.Spec PyProof.Rows
variable [Tbs]
/-! ### for .. in zip(a, b, c) of tuples of one length -/
omit [Tbs] in
def asSeqs : List PyData → Option (List (List PyData))
  | [] => some []
  | .tuple r :: xs => (asSeqs xs).map (r :: ·)
  | .list r :: xs => (asSeqs xs).map (r :: ·)
  | _ :: _ => none
omit [Tbs] in
theorem seqs_of {K : PySem.W.Frag} {H : Hp} {c : Ctx} (sm : Same c.H0 H) : ∀ {vs : List V} {xs : List PyData} {rds : List (List PyData)}, DpAll K c.H0 vs xs → asSeqs xs = some rds →
    ∃ (tks : List (Addr × Bool)) (rws : List (List V)), vs = (tks.map (·.1)).map V.ref ∧ Paired (fun t r => N.SqK K H t r) tks rws ∧ Paired (fun (r : List V) (d : List PyData) => DpAll K c.H0 r d) rws rds
  | _, _, _, .nil, e => by
    cases e
    exact ⟨[], [], rfl, .nil, .nil⟩
  | _, _, _, .cons (d := d) (ds := ds) h t, e => by
    cases d with
    | tuple r =>
      simp only [asSeqs] at e
      cases q : asSeqs ds with
      | none => rw [q] at e; cases e
      | some rs =>
        rw [q] at e
        cases e
        cases h with
        | tup h1 h2 =>
          obtain ⟨tks, rws, rfl, a1, a2⟩ := seqs_of sm t q
          exact ⟨(_, false) :: tks, _ :: rws, rfl, .cons (.inr ⟨rfl, (Held.of sm).sqt h1⟩) a1, .cons h2 a2⟩
    | list r =>
      simp only [asSeqs] at e
      cases q : asSeqs ds with
      | none => rw [q] at e; cases e
      | some rs =>
        rw [q] at e
        cases e
        cases h with
        | lst h1 h2 =>
          obtain ⟨tks, rws, rfl, a1, a2⟩ := seqs_of sm t q
          exact ⟨(_, true) :: tks, _ :: rws, rfl, .cons (.inl ⟨rfl, (Held.of sm).sql h1⟩) a1, .cons h2 a2⟩
    | _ => simp [asSeqs] at e
omit [Tbs] in
def zipItems (xs : List PyData) : Option (List PyData) := match asSeqs xs with
  | some (r :: rs) => if (r :: rs).length ≤ 6 ∧ sameLen r.length (r :: rs) = true then some ((List.range r.length).map fun j => .tuple (colD (r :: rs) j)) else none
  | _ => none
omit [Tbs] in
def mZipN (ms : Rho → M (List Val)) : Rho → M (List PyData) := fun ρ => bnd (ms ρ) fun xs => bnd (frzs xs) fun ds => fun w => match zipItems ds with
  | some rs => .ok rs w
  | none => .bad
section
variable {X : Cx} {E : XK} {tg e : Expr} {es : List Expr} {t : TA} {ms : Rho → M (List Val)}
omit [Tbs] in
theorem walk_zipN {K : PySem.W.Frag} {tps : List (Addr × Bool)} {rws : List (List V)} {m : Nat} (hl : ∀ r ∈ rws, r.length = m) : Walk (N.ItzN K tps) m (fun H => Paired (fun t r => N.SqK K H t r) tps rws) (fun i H v H' => ∃ T o, v = .ref T ∧ H T = none ∧ o.dict = none ∧ H' = upd H T (.frz o (.tup (N.colV rws i)))) :=
  ⟨fun i H hi q => ⟨rws, m, q, hl, hi⟩, fun H q => ⟨rws, q, hl⟩, fun i H v H' hi q ⟨T, col, o, h1, h2, h3, h4, h5⟩ => ⟨T, o, h1, h2, h3, by rw [h4, h5 rws q]⟩⟩
omit [Tbs] in
theorem paired_sqt {K : PySem.W.Frag} {H H' : Hp} (s : Same H H') : ∀ {tps : List (Addr × Bool)} {rws : List (List V)}, Paired (fun t r => N.SqK K H t r) tps rws → Paired (fun t r => N.SqK K H' t r) tps rws
  | _, _, .nil => .nil
  | _, _, .cons h t => .cons (by
    rcases h with ⟨e, h⟩ | ⟨e, h⟩
    · exact .inl ⟨e, (Held.of s).sql h⟩
    · exact .inr ⟨e, (Held.of s).sqt h⟩) (paired_sqt s t)
theorem di_zipN (ha : DA X E es t ms) (pi : PI X tg e (N.iZipN X.K t)) : DI X E tg e (N.iZipN X.K t) (mZipN ms) :=
  ⟨pi, fun σ ρ H c w R er hd p => ha.rd σ ρ H c w _ er hd (Post.bind p fun vs H1 c1 xs w1 g1 hd1 r1 p1 => by
    obtain ⟨c2, w2, ds, g2, hd2, al, p2⟩ := post_frzs hd1 r1 p1
    cases ez : zipItems ds with
    | none => rw [ez] at p2; exact p2.elim
    | some rs =>
      rw [ez] at p2
      unfold zipItems at ez
      cases et : asSeqs ds with
      | none => rw [et] at ez; cases ez
      | some rds =>
        cases rds with
        | nil => rw [et] at ez; cases ez
        | cons r rr =>
          rw [et] at ez
          dsimp only at ez
          obtain ⟨⟨h6, hsl⟩, rfl⟩ : ((r :: rr).length ≤ 6 ∧ sameLen r.length (r :: rr) = true) ∧ ((List.range r.length).map fun j => PyData.tuple (colD (r :: rr) j)) = rs := by
            by_cases hC : (r :: rr).length ≤ 6 ∧ sameLen r.length (r :: rr) = true
            · rw [if_pos hC] at ez; cases ez; exact ⟨hC, rfl⟩
            · rw [if_neg hC] at ez; cases ez
          obtain ⟨tps, rws, rfl, a1, a2⟩ := seqs_of (.refl _) al et
          have l1 := Paired.length a1
          have l2 := Paired.length a2
          have hlen := lens_of a2 (sameLen_ok hsl)
          refine ⟨tps, rws, r.length, rfl, by rw [l1, l2]; simp, by rw [l1, l2]; exact h6, hlen, paired_sqt hd2.sub a1, p2 _ H1 c2 (.refl _) hd2 ?_⟩
          have wk := walk_zipN (K := X.K) (tps := tps) hlen
          refine ⟨_, _, by rw [List.length_map, List.length_range]; exact wk, fun H' c' w' g hd => paired_sqt (g.trans hd.sub) a1, fun i H1' c1' w1' v H2' hi g hd y => ?_⟩
          obtain ⟨T, o, rfl, nT, ho, rfl⟩ := y
          rw [List.length_map, List.length_range] at hi
          refine ⟨_, _, hd.grow (o := .frz o (.tup _)) nT, hd.new nT (fun _ => ho), by rw [List.getElem?_map, List.getElem?_range hi]; rfl, Dp.newF ((Held.of g).dpAll _ _ (cols_dp i a2)) (hd.free nT)⟩)⟩
end
end D

set_option maxRecDepth 100000
namespace D
open PySem L2 G PySem.Spec PyProof.Rows
variable [Tbs]
/-! ### def f(a, .., *v) -/
structure FnV (P : Program) (w : World) (K : PySem.W.Frag) (mg : Str → Option Value) (base : Heap) (k : Nat) (x : Str) (st : Stmt) (ps : List Str) (pv : Str) (F : List Val → M Val) : Prop where
  ex : ∃ f fd, Fun K x x st f fd ∧ mg x = some (.ref f) ∧
    ∀ (A : Around) (outer : List Env) (s : Shared) (H : Hp) (args : Args) (us rest : List Value) (vs zs : List V) (Q : VK) (E : XK), A.guards = some [] → Room k A → Env0 P w K mg base A outer s H → Vals vs us → Vals zs rest → vs.length = ps.length → zs.length ≤ sizeLine →
      bindArgs fd args = (newTuple rest >>= fun t => pure (ps.zip us ++ [(pv, t)])) → (∀ p, H p = none → spD K mg (ps.length + 1) F (vs ++ [.ref p]) (upd H p (.tup zs)) Q E) → codeAny (model P w) A (.call (.ref f) args) (CR CX0 outer P w H s Q E) s
section
variable {P : Program} {w : World} {K : PySem.W.Frag} {mg : Str → Option Value} {base : Heap} {k : Nat} {x : Str} {st : Stmt} {ps N : List Str} {pv : Str}
theorem fnv_of {b : B} {own : Bool} (i : Is K mg x st) (S : FnScope N (ps ++ [pv]) (defScope st))
    (bd : ∀ (f : Addr) (cdv : Value) (A : Around) (outer : List Env) (s : Shared) (H : Hp) (E : XK), A.guards = some [] → Room k (A.deeper (envOfC x (defScope st) s.heap.objs.size f cdv)) →
      ∃ t, DSs (cxOf CX0 P w K mg base N x (defScope st) f cdv A outer s H E).nox E0 (defBody st) t b) : FnV P w K mg base (k + 1) x st ps pv (mBody own N b) := by
  obtain ⟨f, fd, F, m⟩ := i
  refine ⟨f, fd, F, m, fun A outer s H args us rest vs zs Q E gd hr e0 r1 r2 hl hz hb hq => ?_⟩
  obtain ⟨oc, od, kV, doc, pm, an, cdv, ct, osl, rfl, lk, hcd⟩ := F.ex
  have hn : H s.heap.objs.size = Option.none := e0.hok.fresh (Nat.le_refl _)
  have hl1 : us.length = ps.length := by rw [← r1.length]; exact hl
  have hl2 : rest.length ≤ sizeLine := by rw [← r2.length]; exact hz
  refine StX.run_bnd lk hcd S hr e0 (G := fun xs H2 => ∃ p, H p = Option.none ∧ xs = vs ++ [V.ref p] ∧ H2 = upd H p (.tup zs)) (fun A' Ex Q' h => ?_) fun s2 H2 xs ⟨p, hp, ex, eH⟩ hr' => ?_
  · rw [hb]
    refine wpAny_bind (wpAny_newTuple (wpAny_pure ?_) hl2)
    have new : ObjOk P w (upd H s.heap.objs.size (.tup zs)) (s.heap.push ({ cls := .type "tuple", data := .seq rest.toArray } : Obj)) s.heap.objs.size (.tup zs) := ⟨hz, rest, r2, ⟨_, Heap.get?_push_size _ rfl, rfl, _, rfl⟩⟩
    have un := StX.un_laid (fs := frs outer) (s := s) (o := ({ cls := .type "tuple", data := .seq rest.toArray } : Obj)) (u := .tup zs) hn
    have z := h _ _ (vs ++ [V.ref s.heap.objs.size]) (us ++ [Value.ref s.heap.objs.size]) (StX.env0_laid e0 new) un rfl (fun e s' h => h.elim) (r1.append (.cons rfl .nil))
      (by rw [List.length_append, List.length_append, hl] <;> rfl) ⟨_, hn, rfl, rfl⟩
    rw [List.zip_append hl1.symm] at z
    exact z
  · subst ex eH
    obtain ⟨t, ht⟩ := bd f cdv A outer s2 _ E gd hr'
    obtain ⟨hl3, c, w', xs, hd, r, p2⟩ := hq p hp
    exact ⟨t, ht.ps.nox, ht.rd _ _ _ c w' _ (start_er N r) hd (fin_post hd p2)⟩
end
omit [Tbs] in
def mFnV (n : Nat) (F : List Val → M Val) (ms : Rho → M (List Val)) : Rho → M Val := fun ρ => bnd (ms ρ) fun xs => if n ≤ xs.length then bnd (frzs (xs.drop n)) fun ds => if ds.length ≤ 100000 then F (xs.take n ++ [.d (.tuple ds)]) else fun _ => .bad else fun _ => .bad
omit [Tbs] in
def mFnVK (n : Nat) (F : List Val → M Val) (mk : Rho → M (List Val)) : Rho → M Val := fun ρ => bnd (mk ρ) fun xs => if xs.length = n then F (xs ++ [.d (.tuple [])]) else fun _ => .bad
section
variable {X : Cx} {k j : Nat} {x : Str} {st : Stmt} {ps : List Str} {pv : Str} {F : List Val → M Val} {e : Expr} {es : List Expr} {kws : List Keyword} {t tk : TA} {ms mk : Rho → M (List Val)} {p pos : Pos}
def tFnV (K : PySem.W.Frag) (mg : Str → Option Value) (n : Nat) (F : List Val → M Val) (t : TA) : TE := fun σ H Q => t σ H fun vs H1 => ∃ ws zs, vs = ws ++ zs ∧ ws.length = n ∧ zs.length ≤ sizeLine ∧ ∀ p, H1 p = none → spD K mg (n + 1) F (ws ++ [.ref p]) (upd H1 p (.tup zs)) Q E0
omit [Tbs] in
theorem vrs_app {K : PySem.W.Frag} {c : Ctx} {vs ws : List V} {xs ys : List Val} (r : VRs K c vs xs) (r2 : VRs K c ws ys) : VRs K c (vs ++ ws) (xs ++ ys) := vrs_paired.mpr (paired_app (vrs_paired.mp r) (vrs_paired.mp r2))
omit [Tbs] in
theorem vrs_take {K : PySem.W.Frag} {c : Ctx} : ∀ (n : Nat) {vs : List V} {xs : List Val}, VRs K c vs xs → VRs K c (vs.take n) (xs.take n) ∧ VRs K c (vs.drop n) (xs.drop n)
  | 0, _, _, r => ⟨.nil, r⟩
  | n + 1, _, _, .nil => ⟨.nil, .nil⟩
  | n + 1, _, _, .cons h t => ⟨.cons h (vrs_take n t).1, (vrs_take n t).2⟩
theorem v_end [NP] {K : PySem.W.Frag} {mg : Str → Option Value} {H : Hp} {c : Ctx} {w : Om} {ws zs : List V} {xs : List Val} {ds : List PyData} {Q : VK} {n : Nat} (hd : Hold K H c w) (r : VRs K c ws xs) (al : DpAll K c.H0 zs ds) (hn : ws.length = n) (p2 : Post K mg E0 c (VR K) (F (xs ++ [.d (.tuple ds)]) w) Q) :
    ∀ p, H p = none → spD K mg (n + 1) F (ws ++ [.ref p]) (upd H p (.tup zs)) Q E0 := fun p hp =>
  ⟨by rw [List.length_append, hn]; rfl, _, w, _, hd.new hp NP.no, vrs_app (r.mono (hd.grow hp)) (.cons (x := .d (.tuple ds)) (Dp.newT al (hd.free hp)) .nil), Post.mono (hd.grow hp) p2⟩
theorem de_fnV [NP] (Fd : FnV X.prog X.w X.K X.mg X.base k x st ps pv F) (gd : X.A.guards = some []) (hr : Room j X.A) (hk : k ≤ j) (hg : Gl X x)
    (hb : ∀ (kV doc pm : Value) (an : Option Addr) (cdv ct : Value) (us rest : List Value), us.length = ps.length → bindArgs (PySem.W.fnOf x x (defArgs st) (defBody st) (defScope st) .none kV doc pm an cdv ct) ⟨us ++ rest, []⟩ = (newTuple rest >>= fun t => pure (ps.zip us ++ [(pv, t)])))
    (ha : DA X E0 (e :: es) t ms) (hdb : (x == ("__debug__" : Str)) = false := by decide)
    (he : starEach (e :: es) X.env = (false, eval e X.env) :: starEach es X.env := by rfl) (hpl : (backTo pos (starEach es X.env)).any (·.1) = false := by rfl) :
    DE X E0 (.Call (.Name x p) (e :: es) [] pos) (tFnV X.K X.mg ps.length F t) (mFnV ps.length F ms) := by
  refine ⟨?_, fun σ ρ H c w Q er hd p => ha.rd σ ρ H c w _ er hd (Post.bind p fun vs H1 c1 xs w1 g1 hd1 r1 p1 => ?_)⟩
  · obtain ⟨f, fd, Fu, m, go⟩ := Fd.ex
    refine ⟨fun pins s σ H Q I h => wpAny_Call_Name_kw (ld_glob I hg m (PySem.W.callWith_K (h₀ := X.base) I.ok.mod.kin Fu.kp (thn (ha.pa.run pos pins s σ H _ I h) fun us s1 ⟨vs, H1, I1, r, q⟩ => ⟨I1.kIn, ?_⟩) he hpl) hdb)⟩
    obtain ⟨ws, zs, rfl, hl, hz, q⟩ := q
    obtain ⟨u1, u2, rfl, r1, r2⟩ := StX.vals_split r
    obtain ⟨oc, od, kV, doc, pm, an, cdv, ct, osl, rfl, lk, hcd⟩ := Fu.ex
    refine wpAny_call (codeAny_mono (go X.A X.stack s1 H1 ⟨u1 ++ u2, []⟩ u1 u2 ws zs Q E0 gd (hr.mono hk) I1.env0 r1 r2 hl hz (hb kV doc pm an cdv ct u1 u2 (by rw [← r1.length]; exact hl)) q) fun rr s' hq => ?_)
    match rr, hq with
    | .error e, hq => exact hq.elim
    | .ok (.ret u), hq => exact I1.after hq
  · obtain ⟨hl, p2⟩ := post_ite p1
    obtain ⟨t1, t2⟩ := vrs_take ps.length r1
    obtain ⟨c2, w2, ds, g2, hd2, al, p3⟩ := post_frzs hd1 t2 p2
    obtain ⟨hz, p4⟩ := post_ite p3
    have ln : (vs.take ps.length).length = ps.length := by rw [List.length_take, r1.length]; omega
    exact ⟨vs.take ps.length, vs.drop ps.length, (List.take_append_drop ..).symm, ln, lineOk (by rw [al.length]; exact hz), v_end hd2 (t1.mono g2) al ln p4⟩
theorem de_fnVK [NP] {kw : Keyword} (Fd : FnV X.prog X.w X.K X.mg X.base k x st ps pv F) (gd : X.A.guards = some []) (hr : Room j X.A) (hk : k ≤ j) (hg : Gl X x)
    (hb : ∀ (kV doc pm : Value) (an : Option Addr) (cdv ct : Value) (ws : List Value), ws.length = ps.length → bindArgs (PySem.W.fnOf x x (defArgs st) (defBody st) (defScope st) .none kV doc pm an cdv ct) ⟨[], ps.zip ws⟩ = (newTuple [] >>= fun t => pure (ps.zip ws ++ [(pv, t)])))
    (hkw : DK X E0 (kw :: kws) tk mk) (hall : (backToKw pos (keywordEach (kw :: kws) X.env)).all (·.1.isSome) = true := by rfl) (hks : (backToKw pos (keywordEach (kw :: kws) X.env)).filterMap (·.1) = ps := by rfl)
    (hdb : (x == ("__debug__" : Str)) = false := by decide)
    (hpl : ((backTo pos (starEach [] X.env)).any (·.1) || (backToKw pos (keywordEach (kw :: kws) X.env)).any (·.1.isNone)) = false := by rfl) :
    DE X E0 (.Call (.Name x p) [] (kw :: kws) pos) (fun σ H Q => tk σ H fun zs H2 => zs.length = ps.length ∧ ∀ p, H2 p = none → spD X.K X.mg (ps.length + 1) F (zs ++ [.ref p]) (upd H2 p (.tup [])) Q E0) (mFnVK ps.length F mk) := by
  refine ⟨?_, fun σ ρ H c w Q er hd p => hkw.rd σ ρ H c w _ er hd (Post.bind p fun vs H1 c1 xs w1 g1 hd1 r1 p1 => ?_)⟩
  · obtain ⟨f, fd, Fu, m, go⟩ := Fd.ex
    refine ⟨fun pins s σ H Q I h => wpAny_Call_Name_kw (ld_glob I hg m (PySem.W.callWith_KW0 (h₀ := X.base) I.ok.mod.kin Fu.kp hall (thn (hkw.pk.run pos pins s σ H _ I h) fun ws s2 ⟨zs, H2, I2, rz, q2⟩ => ⟨I2.kIn, ?_⟩) hpl) hdb)⟩
    obtain ⟨hl, q⟩ := q2
    obtain ⟨oc, od, kV, doc, pm, an, cdv, ct, osl, rfl, lk, hcd⟩ := Fu.ex
    rw [hks]
    refine wpAny_call (codeAny_mono (go X.A X.stack s2 H2 ⟨[], ps.zip ws⟩ ws [] zs [] Q E0 gd (hr.mono hk) I2.env0 rz .nil hl (Nat.zero_le _) (hb kV doc pm an cdv ct ws (by rw [← rz.length]; exact hl)) q) fun rr s' hq => ?_)
    match rr, hq with
    | .error e, hq => exact hq.elim
    | .ok (.ret u), hq => exact I2.after hq
  · obtain ⟨hl, p2⟩ := post_ite p1
    have ln : vs.length = ps.length := by rw [r1.length]; exact hl
    exact ⟨ln, v_end hd1 r1 .nil ln p2⟩
end
end D

set_option maxRecDepth 100000
set_option maxHeartbeats 2000000
namespace N
open PySem L2 PySem.Spec PyProof.Rows
variable [D.Tbs]
/-! (x,) * 1 is the tuple itself -/
omit [D.Tbs] in
theorem tuple_mul1 (l : Addr) (items : Array Value) (n : Nat) (dd : Option Addr) (sl : Array (Option Value)) (u : Tok) (c1 : (items.isEmpty || (1 : Int) == 1) = true) :
    Meets (Builtin.«tuple.__mul__» ⟨[.ref l, .int 1 u], []⟩) (fun _ R s => s.heap.get? l = some { cls := .type "tuple", dict := dd, data := .seq items n, slots := sl } ∧
      R (.ok (.ret (Value.ref l))) s) :=
  .of_wp fun prog w A R s h => by
    obtain ⟨hp, g, d, tk, os⟩ := s
    obtain ⟨hl, h⟩ := h
    have f1 := AutoSeq1.idx_int
    have c0 : (decide ((1 : Int) < -(2 ^ 63)) || decide ((1 : Int) ≥ 2 ^ 63)) = false := by decide
    wp_walk using wpAny_loadPart' hl
    repeat (first
      | (refine wpAny_ite_false (decide_eq_false (by rw [c0]; exact Bool.false_ne_true)) ?_; wp_walk using wpAny_loadPart' hl)
      | (refine wpAny_ite_true (decide_eq_true (by exact c1)) ?_; wp_walk using wpAny_loadPart' hl))
    exact ⟨_, rfl, h⟩
omit [D.Tbs] in
def rRep1 (K : PySem.W.Frag) : R2 := fun x y H Q => ∃ l xs, x = .ref l ∧ y = .int 1 ∧ SqT K H l xs ∧ Q (.ref l) H
omit [D.Tbs] in
theorem op_rep1 {X : Cx} : OpR X (binaryOp .Mult) (rRep1 X.K) := by
  intro pins s σ H x y v u Q I rx ry h
  obtain ⟨l, xs, rfl, rfl, hT, q⟩ := h
  cases rx
  obtain ⟨t, rfl⟩ := ry
  obtain ⟨its, r, ⟨⟨cls, dd, data, sl⟩, ho, hc, n, hd⟩, hs⟩ := I.tuple hT
  simp only at hc hd
  subst hc hd
  refine wpAny_binaryOp_repeat_ref (T := "tuple") (U := "int") (by decide) ⟨_, ho, rfl⟩ (fun s' => typeIs_int s' 1 t) noFill_tuple_mul PySem.F.fills_int_mul PySem.F.slot_int_rmul repeat_tuple PySem.F.slot_int_index.lookup
    (call_meets PySem.F.slot_int_rmul (typeIs_int s 1 t) PySem.F.entry_int_rmul (PySem.F.args_int_rmul_2 _ _) (int_rmul_tuple 1 t l its.toArray n dd sl)
      ⟨ho, rfl, ⟨_, ho, rfl⟩, call_meets PySem.F.slot_tuple_mul ⟨_, ho, rfl⟩ PySem.F.entry_tuple_mul (PySem.F.args_tuple_mul_2 _ _) (tuple_mul1 l its.toArray n dd sl t (by simp)) ⟨ho, ?_⟩⟩)
  exact ⟨.ref l, H, I, rfl, q⟩
end N
namespace D
open PySem L2 G PySem.Spec PyProof.Rows
variable [D.Tbs]
omit [D.Tbs] in
def gMulB : PyData → PyData → Option PyData
  | .tuple xs, .int 1 => some (.tuple xs)
  | a, b => gMul a b
omit [D.Tbs] in
def rMulB (K : PySem.W.Frag) : R2 := fun x y H Q => rMulA K x y H Q ∨ N.rRep1 K x y H Q
omit [D.Tbs] in
theorem op_mulB {X : Cx} : OpR X (binaryOp .Mult) (rMulB X.K) := OpR.or op_mulA N.op_rep1
theorem rd_mulB [NP] {K : PySem.W.Frag} : OpRd K (rMulB K) gMulB := by
  intro x y H c w a b d Q hd hx hy eg k
  unfold gMulB at eg
  split at eg
  · cases eg
    obtain ⟨p, vs, rfl, q1, a1⟩ := hx.tuple hd.sub
    refine .inr ⟨p, vs, rfl, hy.int, q1, k _ _ _ (.refl _) hd ?_⟩
    rcases hx with hx | ⟨_, _, _, _, z2, _⟩
    · exact hx
    · cases z2
  · exact .inl (rd_mul x y H c w a b d Q hd hx hy eg k)
end D

set_option maxRecDepth 100000
namespace D
open PySem L2 G PySem.Spec PyProof.Rows
variable [Tbs]
/-! ### a call that gets data alone: told of an empty store -/
omit [Tbs] in
def pinsOf (H : Hp) : List Addr → Om → List (Addr × HO)
  | a :: al, .frz _ :: w => pinsOf H al w
  | a :: al, .fdc _ :: w => pinsOf H al w
  | a :: al, _ :: w => match H a with
    | some o => (a, o) :: pinsOf H al w
    | none => pinsOf H al w
  | _, _ => []
omit [Tbs] in
theorem pins_sub {H : Hp} : ∀ {al : List Addr} {w : Om}, ((pinsOf H al w).map (·.1)).Sublist al
  | [], _ => by cases ‹Om› <;> exact List.Sublist.refl _
  | a :: al, [] => List.nil_sublist _
  | a :: al, ob :: w => by
    have ih := pins_sub (H := H) (al := al) (w := w)
    cases ob with
    | frz xs => exact ih.cons _
    | fdc xs => exact ih.cons _
    | lst xs =>
      simp only [pinsOf]
      cases H a with
      | none => exact ih.cons _
      | some o => exact ih.cons_cons _
    | dct xs =>
      simp only [pinsOf]
      cases H a with
      | none => exact ih.cons _
      | some o => exact ih.cons_cons _
omit [Tbs] in
theorem pins_at {H : Hp} : ∀ {al : List Addr} {w : Om} {p : Addr × HO}, p ∈ pinsOf H al w → H p.1 = some p.2 ∧ ∃ (n : Nat) (ob : Ob), al[n]? = some p.1 ∧ w[n]? = some ob ∧ ob.own = true
  | [], w, p, h => by cases w <;> simp [pinsOf] at h
  | a :: al, [], p, h => by simp [pinsOf] at h
  | a :: al, ob :: w, p, h => by
    have up : p ∈ pinsOf H al w → H p.1 = some p.2 ∧ ∃ (n : Nat) (o : Ob), (a :: al)[n]? = some p.1 ∧ (ob :: w)[n]? = some o ∧ o.own = true := fun h => by
      obtain ⟨h1, n, o, h2, h3, h4⟩ := pins_at h
      exact ⟨h1, n + 1, o, h2, h3, h4⟩
    cases ob with
    | frz xs => exact up h
    | fdc xs => exact up h
    | lst xs =>
      simp only [pinsOf] at h
      cases q : H a with
      | none => rw [q] at h; exact up h
      | some o =>
        rw [q] at h
        rcases List.mem_cons.mp h with rfl | h
        · exact ⟨q, 0, _, rfl, rfl, rfl⟩
        · exact up h
    | dct xs =>
      simp only [pinsOf] at h
      cases q : H a with
      | none => rw [q] at h; exact up h
      | some o =>
        rw [q] at h
        rcases List.mem_cons.mp h with rfl | h
        · exact ⟨q, 0, _, rfl, rfl, rfl⟩
        · exact up h
omit [Tbs] in
theorem pins_in {H : Hp} : ∀ {al : List Addr} {w : Om} {n : Nat} {a : Addr} {ob : Ob} {o : HO}, al[n]? = some a → w[n]? = some ob → (ob.own = true) → H a = some o → (a, o) ∈ pinsOf H al w
  | [], _, n, a, ob, o, e, _, _, _ => by simp at e
  | b :: al, [], n, a, ob, o, _, e, _, _ => by simp at e
  | b :: al, ob' :: w, 0, a, ob, o, e, e2, h, q => by
    cases e
    cases e2
    cases ob' with
    | frz xs => cases h
    | fdc xs => cases h
    | lst xs => simp only [pinsOf]; rw [q]; exact List.mem_cons_self ..
    | dct xs => simp only [pinsOf]; rw [q]; exact List.mem_cons_self ..
  | b :: al, ob' :: w, n + 1, a, ob, o, e, e2, h, q => by
    have ih := pins_in (H := H) (al := al) (w := w) (n := n) e e2 h q
    cases ob' with
    | frz xs => exact ih
    | fdc xs => exact ih
    | lst xs =>
      simp only [pinsOf]
      cases H b with
      | none => exact ih
      | some o => exact List.mem_cons_of_mem _ ih
    | dct xs =>
      simp only [pinsOf]
      cases H b with
      | none => exact ih
      | some o => exact List.mem_cons_of_mem _ ih
section
variable {K : PySem.W.Frag} {mg : Str → Option Value} {H : Hp} {c : Ctx} {w : Om}
theorem Hold.alone (hd : Hold K H c w) : Hold K H ⟨c.H0, [], pinsOf H c.al w ++ c.ex⟩ [] := by
  have none0 : ∀ p ∈ pinsOf H c.al w, c.H0 p.1 = none := fun p hp => by
    obtain ⟨h1, n, ob, h2, h3, h4⟩ := pins_at hp
    have z := hd.obs n p.1 ob h2 h3
    cases ob with
    | frz xs => cases h4
    | fdc xs => cases h4
    | lst xs => exact z.1
    | dct xs => exact z.1
  refine ⟨hd.sub, List.nodup_nil, rfl, fun n a o e => by simp at e, fun p hp => ?_, ?_, hd.tab, ⟨hd.nt.1, fun p hp => ?_⟩, hd.pl⟩
  · rcases List.mem_append.mp hp with hp | hp
    · exact ⟨(pins_at hp).1, none0 p hp, by simp⟩
    · obtain ⟨h1, h2, _⟩ := hd.pin p hp
      exact ⟨h1, h2, by simp⟩
  · show List.Nodup (List.map (·.1) (pinsOf H c.al w ++ c.ex))
    rw [List.map_append, List.nodup_append]
    refine ⟨hd.nd.sublist pins_sub, hd.pnd, fun x hx y hy e => ?_⟩
    subst e
    obtain ⟨p, hp, rfl⟩ := List.mem_map.mp hy
    exact (hd.pin p hp).2.2 (pins_sub.subset hx)
  · rcases List.mem_append.mp hp with hp | hp
    · obtain ⟨h1, n, ob, h2, h3, h4⟩ := pins_at hp
      have z := hd.obs n p.1 ob h2 h3
      cases ob with
      | frz xs => cases h4
      | fdc xs => cases h4
      | lst xs => obtain ⟨_, vs, e, _⟩ := z; rw [h1] at e; rw [Option.some.inj e]; trivial
      | dct xs => obtain ⟨_, vs, e, _⟩ := z; rw [h1] at e; rw [Option.some.inj e]; trivial
    · exact hd.nt.2 p hp
theorem Hold.rejoin {H' : Hp} {c' : Ctx} {w' : Om} (hd : Hold K H c w) (g : Grow ⟨c.H0, [], pinsOf H c.al w ++ c.ex⟩ c') (hd' : Hold K H' c' w') : Grow c ⟨c'.H0, c.al, c.ex⟩ ∧ Hold K H' ⟨c'.H0, c.al, c.ex⟩ w := by
  have ge : c'.ex = pinsOf H c.al w ++ c.ex := g.e
  have gh : Same c.H0 c'.H0 := g.h
  have stay : ∀ {n : Nat} {a : Addr} {ob : Ob} {o : HO}, c.al[n]? = some a → w[n]? = some ob → (ob.own = true) → H a = some o → H' a = some o ∧ c'.H0 a = none := fun {n a ob o} e1 e2 e3 e4 => by
    have z := hd'.pin (a, o) (by rw [ge]; exact List.mem_append_left _ (pins_in e1 e2 e3 e4))
    exact ⟨z.1, z.2.1⟩
  refine ⟨⟨gh, ⟨[], by simp⟩, rfl⟩, hd'.sub, hd.nd, hd.len, fun n a ob ea eo => ?_, fun p hp => ?_, hd.pnd, hd'.tab, ⟨hd'.nt.1, hd.nt.2⟩, hd'.pl⟩
  · have z := hd.obs n a ob ea eo
    cases ob with
    | lst xs =>
      obtain ⟨h1, vs, h2, h3⟩ := z
      obtain ⟨k1, k2⟩ := stay ea eo rfl h2
      exact ⟨k2, vs, k1, (Held.of gh).dpAll _ _ h3⟩
    | frz xs => obtain ⟨vs, h2, h3⟩ := z; exact ⟨vs, gh _ _ h2, (Held.of gh).dpAll _ _ h3⟩
    | fdc xs => obtain ⟨oo, vs, h2, h3⟩ := z; exact ⟨oo, vs, gh _ _ h2, h3.mono gh⟩
    | dct kvs =>
      obtain ⟨h1, vs, h2, h3⟩ := z
      obtain ⟨k1, k2⟩ := stay ea eo rfl h2
      exact ⟨k2, vs, k1, h3.mono gh⟩
  · obtain ⟨_, _, h3⟩ := hd.pin p hp
    have z := hd'.pin p (by rw [ge]; exact List.mem_append_right _ hp)
    exact ⟨z.1, z.2.1, h3⟩
omit [Tbs] in
def onlyD (F : List Val → M Val) (ds : List PyData) : M Val := fun w => match F (ds.map .d) [] with
  | .ok (.d v) _ => .ok (.d v) w
  | _ => .bad
omit [Tbs] in
theorem vrs_d {vs : List V} {ds : List PyData} {al : List Addr} {ex : List (Addr × HO)} {H0 : Hp} : DpAll K H0 vs ds → VRs K ⟨H0, al, ex⟩ vs (ds.map .d)
  | .nil => .nil
  | .cons h t => .cons (x := .d _) h (vrs_d t)
theorem only_end {F : List Val → M Val} {vs : List V} {ds : List PyData} {n : Nat} {E E' : XK} {Q : VK} (hd : Hold K H c w) (al : DpAll K c.H0 vs ds) (hn : ds.length = n) (p : Post K mg E c (VR K) (onlyD F ds w) Q) : spD K mg n F vs H Q E' := by
  refine ⟨by rw [al.length]; exact hn, ⟨c.H0, [], pinsOf H c.al w ++ c.ex⟩, [], ds.map .d, hd.alone, vrs_d al, ?_⟩
  unfold onlyD at p
  cases q : F (ds.map .d) [] with
  | bad => rw [q] at p; exact p.elim
  | exn x w1 => rw [q] at p; exact p.elim
  | ok v w1 =>
    rw [q] at p
    cases v with
    | o m => exact p.elim
    | d x =>
      intro u H' c' g hd' r
      obtain ⟨g2, hd2⟩ := hd.rejoin g hd'
      exact p u H' _ g2 hd2 r
end
omit [Tbs] in
def mFnP (n : Nat) (F : List Val → M Val) (ms : Rho → M (List Val)) : Rho → M Val := fun ρ => bnd (ms ρ) fun xs => bnd (frzs xs) fun ds => if ds.length = n then onlyD F ds else fun _ => .bad
section
variable {X : Cx} {k j : Nat} {x : Str} {st : Stmt} {ps : List Str} {F : List Val → M Val} {e : Expr} {es : List Expr} {t : TA} {ms : Rho → M (List Val)} {p pos : Pos}
theorem de_fnP (Fd : FnD X.prog X.w X.K X.mg X.base k x st ps F) (gd : X.A.guards = some []) (hr : Room j X.A) (hk : k ≤ j) (hg : Gl X x) (ha : DA X E0 (e :: es) t ms) (hdb : (x == ("__debug__" : Str)) = false := by decide)
    (he : starEach (e :: es) X.env = (false, eval e X.env) :: starEach es X.env := by rfl) (hpl : (backTo pos (starEach es X.env)).any (·.1) = false := by rfl) :
    DE X E0 (.Call (.Name x p) (e :: es) [] pos) (fun σ H Q => t σ H fun vs H1 => spD X.K X.mg ps.length F vs H1 Q E0) (mFnP ps.length F ms) :=
  ⟨(de_fn Fd gd hr hk hg ha hdb he hpl).pe, fun σ ρ H c w Q er hd p => ha.rd σ ρ H c w _ er hd (Post.bind p fun vs H1 c1 xs w1 g1 hd1 r1 p1 => by
    obtain ⟨c2, w2, ds, g2, hd2, al, p2⟩ := post_frzs hd1 r1 p1
    obtain ⟨hl, p3⟩ := post_ite p2
    exact only_end hd2 al hl p3)⟩
theorem de_fn0P (Fd : FnD X.prog X.w X.K X.mg X.base k x st [] F) (gd : X.A.guards = some []) (hr : Room j X.A) (hk : k ≤ j) (hg : Gl X x) (hdb : (x == ("__debug__" : Str)) = false := by decide) :
    DE X E0 (.Call (.Name x p) [] [] pos) (fun σ H Q => spD X.K X.mg 0 F [] H Q E0) (fun _ => onlyD F []) :=
  ⟨(de_fn0 Fd gd hr hk hg hdb).pe, fun σ ρ H c w Q er hd p => only_end hd .nil rfl p⟩
end
end D

set_option maxRecDepth 100000
namespace D
open PySem L2 G PySem.Spec PyProof.Rows
/-! ### evaluation over scripts of dints -/
abbrev dints (cs : List Int) : List PyData := cs.map .int
theorem canLay_ints : ∀ cs : List Int, PyData.canLayAll0 (dints cs) = true
  | [] => by simp [dints, PyData.canLayAll0]
  | c :: cs => by
    have ih := canLay_ints cs
    simp only [dints, List.map_cons, PyData.canLayAll0, PyData.canLay0] at ih ⊢
    simp [ih]
theorem depth_ints : ∀ cs : List Int, PyData.depthAll (dints cs) = 0
  | [] => by simp [dints, PyData.depthAll]
  | c :: cs => by
    have ih := depth_ints cs
    simp only [dints, List.map_cons, PyData.depthAll, PyData.depth] at ih ⊢
    simp [ih]
theorem shaped_ints (cs : List Int) : SeqAt.shaped (.list (dints cs)) = true := by
  unfold SeqAt.shaped
  rw [Bool.and_eq_true]
  refine ⟨?_, decide_eq_true ?_⟩
  · simp only [PyData.canLay0]
    exact canLay_ints cs
  · simp only [PyData.depth]
    rw [depth_ints]
    decide
theorem ne_nil_ints (cs : List Int) : gNe (.list (dints cs)) (.list []) = some (.bool (!cs.isEmpty)) := by
  have h2 : SeqAt.shaped (.list []) = true := shaped_ints []
  have h1 := shaped_ints cs
  show (if SeqAt.shaped (.list (dints cs)) = true ∧ SeqAt.shaped (.list []) = true then some (PyData.bool !PyData.eqv (.list (dints cs)) (.list [])) else none) = _
  rw [if_pos ⟨h1, h2⟩]
  cases cs with
  | nil => simp [dints, PyData.eqv, PyData.eqvAll]
  | cons c cs => simp [dints, PyData.eqv, PyData.eqvAll]
def isTrueR : R Val → Bool
  | .ok (.d (.bool true)) _ => true
  | _ => false
theorem only_true {F : List Val → D.M Val} {w : Om} (h : isTrueR (F [] []) = true) : onlyD F [] w = .ok (.d (.bool true)) w := by
  unfold onlyD
  rw [List.map_nil]
  cases q : F [] [] with
  | bad => rw [q] at h; cases h
  | exn x w1 => rw [q] at h; cases h
  | ok v w1 =>
    rw [q] at h
    cases v with
    | o n => cases h
    | d x =>
      cases x with
      | bool b => cases b with
        | true => rfl
        | false => cases h
      | _ => cases h
section
variable {m m1 m2 : Rho → D.M Val} {mt : Rho → D.M Bool} {ρ ρ' : Rho} {w w' : Om} {a b d : PyData} {g : PyData → PyData → Option PyData} {i j : Int} {x v : Val} {f f' : B} {P : Fl → Prop} {n : Nat} {k : Bool}
theorem ev_op (h1 : m1 ρ w = .ok (.d a) w) (h2 : m2 ρ w = .ok (.d b) w) (hg : g a b = some d) : mOp g m1 m2 ρ w = .ok (.d d) w := by
  unfold mOp bnd
  rw [h1]
  dsimp only [R.then]
  rw [h2]
  dsimp only [R.then, look]
  rw [hg]
theorem ev_int (h : m ρ w = .ok (.d (.int i)) w) : mCall gInt (mCons m mNil) ρ w = .ok (.d (.int i)) w := by
  unfold mCall mCons mNil bnd
  rw [h]
  rfl
theorem ev_len {xs : List PyData} (h : m ρ w = .ok (.d (.list xs)) w) : mCall gLen (mCons m mNil) ρ w = .ok (.d (.int xs.length)) w := by
  unfold mCall mCons mNil bnd
  rw [h]
  rfl
theorem ev_test (h : m ρ w = .ok (.d (.bool k)) w) : mTest m ρ w = .ok k w := by
  unfold mTest bnd
  rw [h]
  rfl
theorem ev_not (h : mt ρ w = .ok k w) : mNot mt ρ w = .ok (!k) w := by
  unfold mNot bnd
  rw [h]
  rfl
theorem ev_and {mt' : Rho → D.M Bool} {k' : Bool} (h : mt ρ w = .ok k w) (h' : mt' ρ w = .ok k' w) : mAnd mt mt' ρ w = .ok (k && k') w := by
  unfold mAnd bnd
  rw [h]
  cases k
  · rfl
  · exact h'
theorem ev_or {mt' : Rho → D.M Bool} {k' : Bool} (h : mt ρ w = .ok k w) (h' : mt' ρ w = .ok k' w) : mOr mt mt' ρ w = .ok (k || k') w := by
  unfold mOr bnd
  rw [h]
  cases k
  · exact h'
  · rfl
theorem ev_ifT (h : mt ρ w = .ok true w) (h1 : m1 ρ w = .ok v w) : mIf mt m1 m2 ρ w = .ok v w := by
  unfold mIf bnd
  rw [h]
  exact h1
theorem ev_ifF (h : mt ρ w = .ok false w) (h1 : m2 ρ w = .ok v w) : mIf mt m1 m2 ρ w = .ok v w := by
  unfold mIf bnd
  rw [h]
  exact h1
theorem fl_asg (h : m ρ w = .ok v w') : fAsg m (mName n) ρ w = .nx (ρ.set n (some v)) w' := by
  unfold fAsg
  rw [h]
  rfl
theorem fl_ret (h : m ρ w = .ok v w') : fRet m ρ w = .rt v w' := by
  unfold fRet
  rw [h]
  rfl
theorem fl_seq (h : f ρ w = .nx ρ' w') (k : P (f' ρ' w')) : P (fSeq f f' ρ w) := by
  unfold fSeq
  rw [h]
  exact k
theorem fl_ifT (h : mt ρ w = .ok true w) (k : P (f ρ w)) : P (fIf mt f f' ρ w) := by
  unfold fIf
  rw [h]
  exact k
theorem fl_ifF (h : mt ρ w = .ok false w) (k : P (f' ρ w)) : P (fIf mt f f' ρ w) := by
  unfold fIf
  rw [h]
  exact k
/-- an if whose turn ends the def -/
theorem fl_seqT {f1 f2 : B} (h : mt ρ w = .ok true w) (k : ∃ v w', f1 ρ w = .rt v w' ∧ P (.rt v w')) : P (fSeq (fIf mt f1 f2) f' ρ w) := by
  obtain ⟨v, w', e, p⟩ := k
  unfold fSeq fIf
  rw [h]
  dsimp only [R.thenF]
  rw [if_pos rfl, e]
  exact p
theorem fl_seqF {f1 : B} (h : mt ρ w = .ok false w) (k : P (f' ρ w)) : P (fSeq (fIf mt f1 fNext) f' ρ w) := by
  unfold fSeq fIf
  rw [h]
  exact k
theorem mulI (h : i.natAbs < 2 ^ 64) (h' : j.natAbs < 2 ^ 64) : gMulB (.int i) (.int j) = some (.int (i * j)) := by
  have l : ∀ z : Nat, z < 2 ^ 64 → z.log2 < 64 := fun z hz => by
    by_cases h0 : z = 0
    · subst h0; decide
    · exact (Nat.log2_lt h0).mpr hz
  have h1 := l _ h
  have h2 := l _ h'
  show (if i.natAbs.log2 + j.natAbs.log2 < 1000000 then some (PyData.int (i * j)) else none) = _
  rw [if_pos (by omega)]
theorem mod_small {z q : Int} (h : 0 < q) (hq : q < 2 ^ 63) : (z % q).natAbs < 2 ^ 64 := by
  have h1 := Int.emod_nonneg z (Int.ne_of_gt h)
  have h2 := Int.emod_lt_of_pos z h
  omega
theorem mod_two (z : Int) : z % 2 = 0 ∨ z % 2 = 1 := by omega
end
end D

set_option maxRecDepth 100000
namespace D
open PySem L2 G PySem.Spec PyProof.Rows
variable [Tbs]
/-! ### the law's end -/
def spLaw (K : PySem.W.Frag) : Sp := fun vs H Q _ => ∃ (a : Addr) (ns : List Int), vs = [.ref a] ∧ SqL K H a (ns.map V.int) ∧ ns.length ≤ 63 ∧ LamX.Tabs Tbs.T H ∧ ∀ H', Q (.bl true) H'
omit [Tbs] in
theorem dp_ints {K : PySem.W.Frag} {H : Hp} : ∀ ns : List Int, DpAll K H (ns.map V.int) (dints ns)
  | [] => .nil
  | n :: ns => .cons (.int n) (dp_ints ns)
omit [Tbs] in
/-- the lists alone -/
def noT (H : Hp) : Hp := fun b => match H b with
  | some (.lst xs) => some (.lst xs)
  | some (.frz o (.lst xs)) => some (.frz o (.lst xs))
  | _ => none
omit [Tbs] in
theorem noT_sql {K : PySem.W.Frag} {H : Hp} {a : Addr} {xs : List V} (h : SqL K H a xs) : SqL K (noT H) a xs := by
  rcases h with (h | ⟨o, h⟩) | h
  · exact .inl (.inl (by unfold noT; rw [h]))
  · exact .inl (.inr ⟨o, by unfold noT; rw [h]⟩)
  · exact .inr h
omit [Tbs] in
theorem noT_same {H : Hp} : Same (noT H) H := fun b o e => by
  unfold noT at e
  split at e
  · rename_i h; cases e; exact h
  · rename_i h; cases e; exact h
  · cases e
omit [Tbs] in
theorem noT_nt {H : Hp} : ∀ b ps, noT H b ≠ some (.tbl ps) := fun b ps e => by
  unfold noT at e
  split at e <;> cases e
omit [Tbs] in
theorem noT_pl {H : Hp} : ∀ b o, noT H b = some o → okP o := fun b o e => by
  unfold noT at e
  split at e <;> cases e <;> exact trivial
theorem law_fn {P : Program} {w : World} {K : PySem.W.Frag} {mg : Str → Option Value} {base : Heap} {k : Nat} {st : Stmt} {F : List Val → D.M Val} {fa : Addr} {fd0 : FuncData} (Fd : FnD P w K mg base k "law" st ["_law_script"] F) (Fu : Fun K "law" "law" st fa fd0) (hm : mg "law" = some (.ref fa))
    (hl : ∀ ns : List Int, ns.length ≤ 63 → ∃ w', F [.d (.list (dints ns))] [] = .ok (.d (.bool true)) w') : FnG P w K mg base CX0 k fa fd0 ["_law_script"] (spLaw K) := by
  obtain ⟨f, fd, Z, Fu2, m, b⟩ := Fd.ex
  have e := hm.symm.trans m
  cases e
  obtain rfl : fd0 = fd := by
    obtain ⟨oc, od, kV, doc, pm, an, cdv, ct, osl, h1, l1, _⟩ := Fu.ex
    obtain ⟨oc', od', kV', doc', pm', an', cdv', ct', osl', h1', l1', _⟩ := Fu2.ex
    rw [l1] at l1'
    cases l1'
    rfl
  refine ⟨?_, fun A outer s H args us vs Q E gd hr e0 hb r hsp => Z.go A outer s H args us vs Q E gd hr e0 hb r ?_⟩
  · rintro vs H Q E ⟨a, ns, rfl, _⟩
    rfl
  · obtain ⟨a, ns, rfl, hS, hn, ht, q⟩ := hsp
    obtain ⟨w', ew⟩ := hl ns hn
    refine ⟨rfl, ⟨noT H, [], []⟩, [], [.d (.list (dints ns))], ⟨noT_same, List.nodup_nil, rfl, fun n a o e => by simp at e, fun p hp => by simp at hp, by simp, ht, ⟨noT_nt, fun p hp => by simp at hp⟩, fun _ => noT_pl⟩, .cons (x := .d _) (.lst (noT_sql hS) (dp_ints ns)) .nil, ?_⟩
    refine post_ok ew fun v H' c' g hd rv => ?_
    cases rv
    exact q H'
end D

set_option maxRecDepth 100000
namespace D
open PySem L2 G PySem.Spec PyProof.Rows
/-! ### evaluation over a store that is not told -/
section
variable {m m1 m2 mv : Rho → D.M Val} {mt : Rho → D.M Bool} {ρ ρ' : Rho} {w w' : Om} {a b d : PyData} {k : PyData} {key : Key} {kvs kvs' : List (Key × PyData)} {n i j : Nat} {x y v : Val} {f f' : B} {P : Fl → Prop}
theorem ev_var (h : ρ[i]? = some (some x)) : mVar i ρ w = .ok x w := by
  unfold mVar
  rw [h]
theorem ev_dget (h0 : m1 ρ w = .ok (.o n) w) (h : w[n]? = some (.dct kvs)) (hk : keyOf k = some key) (hv : valD kvs key = some d) : mDGet m1 (mC k) ρ w = .ok (.d d) w := by
  unfold mDGet mC bnd
  rw [h0]
  dsimp only [R.then]
  rw [h]
  dsimp only
  rw [hk]
  show (match valD kvs key with | some d => R.ok (Val.d d) w | none => R.bad) = _
  rw [hv]
theorem fl_dput (h0 : m1 ρ w = .ok (.o n) w) (hm : mv ρ w = .ok (.d d) w) (h : w[n]? = some (.dct kvs)) (hk : keyOf k = some key) (hl : kvs.length < 100000) (hp : putD kvs key d = kvs') : fDPut m1 (mC k) mv ρ w = .nx ρ (w.set n (.dct kvs')) := by
  unfold fDPut mC bnd
  rw [hm]
  dsimp only [R.then]
  rw [h0]
  dsimp only [R.then, frz]
  rw [h]
  dsimp only
  rw [hk]
  dsimp only
  rw [if_pos hl, hp]
  rfl
theorem ev_cons2 (h1 : m1 ρ w = .ok x w) (h2 : m2 ρ w = .ok y w) : mCons m1 (mCons m2 mNil) ρ w = .ok [x, y] w := by
  unfold mCons mNil bnd
  rw [h1]
  dsimp only [R.then]
  rw [h2]
  rfl
theorem fl_par {ms : Rho → D.M (List Val)} (h : ms ρ w = .ok [x, y] w) : fPar i j ms ρ w = .nx ((ρ.set i (some x)).set j (some y)) w := by
  unfold fPar
  rw [h]
  rfl
theorem set_at {o : Ob} {u : Ob} (h : w[n]? = some o) : (w.set n u)[n]? = some u := List.getElem?_set_self (List.getElem?_eq_some_iff.mp h).1
theorem fin_rt {u : Ob} : fin false w.length (.rt (.d d) (w.set n u)) = .ok (.d d) (w.set n u) := by
  show R.ok (Val.d d) ((w.set n u).take w.length) = _
  rw [List.take_of_length_le (by simp)]
theorem ix_ints {cs : List Int} {z : Int} (h0 : 0 ≤ z) (h1 : z < (dints cs).length) : ∃ c, gIx (.list (dints cs)) (.int z) = some (.int c) := by
  have hl : z.toNat < cs.length := by
    have e : (dints cs).length = cs.length := by simp
    rw [e] at h1
    omega
  refine ⟨cs[z.toNat], ?_⟩
  show atI (dints cs) z = _
  unfold atI ixN
  rw [if_pos h0]
  have : z.toNat < (dints cs).length := by omega
  have h2 : z < (cs.length : Int) := by omega
  simp [h2, hl]
theorem mod_ok {z m : Int} (h : 0 < m) : gMod (.int z) (.int m) = some (.int (z % m)) := by
  show (if 0 < m then some (PyData.int (z % m)) else none) = _
  rw [if_pos h]
theorem fdiv_ok {z m : Int} (h : 0 < m) (h2 : m < 2 ^ 63) : gFdiv (.int z) (.int m) = some (.int (z / m)) := by
  have l : m.natAbs.log2 < 9000 := by
    have : m.natAbs.log2 < 63 := (Nat.log2_lt (by omega)).mpr (by omega)
    omega
  show (if 0 < m ∧ m.natAbs.log2 < 9000 then some (PyData.int (z / m)) else none) = _
  rw [if_pos ⟨h, l⟩]
end
end D

set_option maxRecDepth 100000
namespace D
open PySem L2 G PySem.Spec PyProof.Rows
/-! ### loops and comprehensions, told by what stands at each turn -/
section
variable {tm : Val → Rho → D.M Rho} {b : B} {mt : Rho → D.M Bool} {me : Rho → D.M Val} {ρ ρ0 : Rho} {w : Om} {P : Fl → Prop} {mi : Rho → D.M (List PyData)} {ds : List PyData} {f' : B}
theorem forL_from (I : Nat → Rho → Om → Prop) : ∀ (ds : List PyData) (k : Nat) (ρ : Rho) (w : Om),
    (∀ i d, ds[i]? = some d → ∀ ρ w, I (k + i) ρ w → ∃ ρ1 ρ' w', tm (.d d) ρ w = .ok ρ1 w ∧ b ρ1 w = .nx ρ' w' ∧ I (k + i + 1) ρ' w') → I k ρ w → ∃ ρ' w', forL tm b ds ρ w = .nx ρ' w' ∧ I (k + ds.length) ρ' w'
  | [], k, ρ, w, _, h0 => ⟨ρ, w, rfl, h0⟩
  | d :: ds, k, ρ, w, h, h0 => by
    obtain ⟨ρ1, ρ2, w2, e1, e2, h2⟩ := h 0 d rfl ρ w h0
    obtain ⟨ρ3, w3, e3, h3⟩ := forL_from I ds (k + 1) ρ2 w2 (fun i d' e ρ w hi => by
      have z := h (i + 1) d' (by simpa using e) ρ w
      rw [show k + (i + 1) = k + 1 + i by omega] at z
      exact z hi) h2
    refine ⟨ρ3, w3, ?_, by rw [show k + (d :: ds).length = k + 1 + ds.length by simp; omega]; exact h3⟩
    unfold forL
    rw [e1]
    dsimp only
    rw [e2]
    exact e3
/-- a loop that is never left -/
theorem fl_for (I : Nat → Rho → Om → Prop) (hi : mi ρ w = .ok ds w) (h : ∀ i d, ds[i]? = some d → ∀ ρ w, I i ρ w → ∃ ρ1 ρ' w', tm (.d d) ρ w = .ok ρ1 w ∧ b ρ1 w = .nx ρ' w' ∧ I (i + 1) ρ' w') (h0 : I 0 ρ w)
    (k : ∀ ρ' w', I ds.length ρ' w' → P (f' ρ' w')) : P (fSeq (fFor mi tm b) f' ρ w) := by
  obtain ⟨ρ', w', e, h'⟩ := forL_from (tm := tm) (b := b) I ds 0 ρ w (fun i d e ρ w hi => by rw [Nat.zero_add] at *; exact h i d e ρ w hi) h0
  rw [Nat.zero_add] at h'
  refine fl_seq (ρ' := ρ') (w' := w') ?_ (k ρ' w' h')
  unfold fFor
  rw [hi]
  exact e
theorem lcL_from (I : Nat → List PyData → Om → Prop) : ∀ (ds : List PyData) (k : Nat) (acc : List PyData) (w : Om),
    (∀ i d, ds[i]? = some d → ∀ acc w, I (k + i) acc w → ∃ ρ t, tm (.d d) ρ0 w = .ok ρ w ∧ mt ρ w = .ok t w ∧ (t = false → I (k + i + 1) acc w) ∧ (t = true → ∃ x w1 a w2, me ρ w = .ok x w1 ∧ frz x w1 = .ok a w2 ∧ I (k + i + 1) (acc ++ [a]) w2)) → I k acc w →
    ∃ r w', lcL tm mt me ρ0 ds w = .ok r w' ∧ I (k + ds.length) (acc ++ r) w'
  | [], k, acc, w, _, h0 => ⟨[], w, rfl, by rw [List.append_nil]; exact h0⟩
  | d :: ds, k, acc, w, h, h0 => by
    obtain ⟨ρ, t, e1, e2, hf, ht⟩ := h 0 d rfl acc w h0
    have tl : ∀ acc w, I (k + 1) acc w → ∃ r w', lcL tm mt me ρ0 ds w = .ok r w' ∧ I (k + (d :: ds).length) (acc ++ r) w' := fun acc w hi => by
      rw [show k + (d :: ds).length = k + 1 + ds.length by simp; omega]
      exact lcL_from I ds (k + 1) acc w (fun i d' e acc w hi => by
        have z := h (i + 1) d' (by simpa using e) acc w
        rw [show k + (i + 1) = k + 1 + i by omega] at z
        exact z hi) hi
    cases t with
    | false =>
      obtain ⟨r, w', e3, h3⟩ := tl acc w (hf rfl)
      refine ⟨r, w', ?_, h3⟩
      unfold lcL bnd
      rw [e1]
      dsimp only [R.then]
      rw [e2]
      exact e3
    | true =>
      obtain ⟨x, w1, a, w2, e3, e4, h3⟩ := ht rfl
      obtain ⟨r, w', e5, h5⟩ := tl (acc ++ [a]) w2 h3
      refine ⟨a :: r, w', ?_, by rw [List.append_assoc] at h5; exact h5⟩
      unfold lcL bnd
      rw [e1]
      dsimp only [R.then]
      rw [e2]
      dsimp only [R.then]
      rw [if_pos rfl, e3]
      dsimp only [R.then]
      rw [e4]
      dsimp only [R.then]
      rw [e5]
      rfl
/-- a comprehension -/
theorem ev_lc {vs : List Nat} (I : Nat → List PyData → Om → Prop) {E : D.R Val → Prop} (hi : mi ρ w = .ok ds w) (hl : ds.length ≤ 100000)
    (h : ∀ i d, ds[i]? = some d → ∀ acc w, I i acc w → ∃ ρ1 t, tm (.d d) (wipeR ρ vs) w = .ok ρ1 w ∧ mt ρ1 w = .ok t w ∧ (t = false → I (i + 1) acc w) ∧ (t = true → ∃ x w1 a w2, me ρ1 w = .ok x w1 ∧ frz x w1 = .ok a w2 ∧ I (i + 1) (acc ++ [a]) w2)) (h0 : I 0 [] w)
    (hz : ∀ r w', I ds.length r w' → r.length ≤ 100000) (k : ∀ r w', I ds.length r w' → E (.ok (.d (.list r)) w')) : E (mLc mi tm mt me vs ρ w) := by
  obtain ⟨r, w', e, h'⟩ := lcL_from (tm := tm) (mt := mt) (me := me) (ρ0 := wipeR ρ vs) I ds 0 [] w (fun i d e acc w hi => by rw [Nat.zero_add] at *; exact h i d e acc w hi) h0
  rw [Nat.zero_add, List.nil_append] at h'
  have e2 : mLc mi tm mt me vs ρ w = .ok (.d (.list r)) w' := by
    unfold mLc mLcP noX bnd
    rw [hi]
    dsimp only [R.then]
    rw [e]
    dsimp only [R.then]
    rw [if_pos (hz r w' h')]
    rfl
  rw [e2]
  exact k r w' h'
end
end D

set_option maxRecDepth 100000
namespace D
open PySem L2 G PySem.Spec PyProof.Rows
variable [Tbs]
/-! ### methods of texts: join, split -/
omit [Tbs] in
def strsOf : List PyData → Option (List Str)
  | [] => some []
  | .str z :: xs => (strsOf xs).map (z :: ·)
  | _ :: _ => none
omit [Tbs] in
def joinD (a : Str) (ys : List PyData) : Option PyData := match strsOf ys with
  | some zs => if (zs.map (·.length)).sum + zs.length * a.length ≤ 16777216 then some (.str (Txt.join a zs)) else none
  | none => none
omit [Tbs] in
def gJoin (a : Str) : PyData → Option PyData
  | .list ys => joinD a ys
  | .tuple ys => joinD a ys
  | _ => none
omit [Tbs] in
def gSplit (a : Str) : PyData → Option PyData
  | .str b => if (b.length == 0) = false ∧ a.length ≤ 100000 then some (.list ((Txt.split a b).map .str)) else none
  | _ => none
def MtRd (K : PySem.W.Frag) (r : V → List V → Hp → VK → Prop) (g : Str → PyData → Option PyData) : Prop :=
  ∀ (a : Str) (y : V) (H : Hp) (c : Ctx) (w : Om) (b d : PyData) (Q : VK), Hold K H c w → Dq K H c.H0 y b → g a b = some d →
    (∀ v H' c', Grow c c' → Hold K H' c' w → Dp K c'.H0 v d → Q v H') → r (.str a) [y] H Q
omit [Tbs] in
def mM1 (g : Str → PyData → Option PyData) (m1 m2 : Rho → M Val) : Rho → M Val := fun ρ => bnd (m1 ρ) fun x w => match look w x with
  | some (.str a) => bnd (m2 ρ) (fun y w => match look w y with
    | some b => (match g a b with | some d => .ok (.d d) w | none => .bad)
    | none => .bad) w
  | _ => .bad
section
variable {K : PySem.W.Frag}
omit [Tbs] in
theorem strs_dp {H : Hp} : ∀ {vs : List V} {ys : List PyData} {zs : List Str}, DpAll K H vs ys → strsOf ys = some zs → vs = zs.map V.str
  | _, _, _, .nil, e => by cases e; rfl
  | _, _, _, .cons (d := d) (ds := ds) h t, e => by
    cases d with
    | str z =>
      simp only [strsOf] at e
      cases q : strsOf ds with
      | none => rw [q] at e; cases e
      | some zs =>
        rw [q] at e
        cases e
        cases h
        rw [strs_dp t q]
        rfl
    | _ => simp [strsOf] at e
omit [Tbs] in
theorem dp_strs {H : Hp} : ∀ zs : List Str, DpAll K H (zs.map V.str) (zs.map .str)
  | [] => .nil
  | z :: zs => .cons (.str z) (dp_strs zs)
theorem rd_join : MtRd K (fun x xs H Q => ∃ a p, ∃ ys : List Str, x = .str a ∧ xs = [.ref p] ∧ (SqL K H p (ys.map V.str) ∨ SqT K H p (ys.map V.str)) ∧ (ys.map (·.length)).sum + ys.length * a.length ≤ 16777216 ∧ Q (.str (Txt.join a ys)) H) gJoin := by
  intro a y H c w b d Q hd hy eg k
  have main : ∀ ys, joinD a ys = some d → ∃ zs, strsOf ys = some zs ∧ (zs.map (·.length)).sum + zs.length * a.length ≤ 16777216 ∧ d = .str (Txt.join a zs) := fun ys e => by
    unfold joinD at e
    cases q : strsOf ys with
    | none => rw [q] at e; cases e
    | some zs =>
      rw [q] at e
      dsimp only at e
      obtain ⟨h1, rfl⟩ := ite_some e
      exact ⟨zs, rfl, h1, rfl⟩
  cases b with
  | list ys =>
    obtain ⟨zs, e1, e2, rfl⟩ := main ys eg
    obtain ⟨p, vs, rfl, h, al⟩ := hy.list hd.sub
    obtain rfl := strs_dp al e1
    exact ⟨a, p, zs, rfl, rfl, .inl h, e2, k _ _ _ (.refl _) hd (.str _)⟩
  | tuple ys =>
    obtain ⟨zs, e1, e2, rfl⟩ := main ys eg
    obtain ⟨p, vs, rfl, h, al⟩ := hy.tuple hd.sub
    obtain rfl := strs_dp al e1
    exact ⟨a, p, zs, rfl, rfl, .inr h, e2, k _ _ _ (.refl _) hd (.str _)⟩
  | _ => simp [gJoin] at eg
theorem rd_split : MtRd K (fun x xs H Q => ∃ a b, x = .str a ∧ xs = [.str b] ∧ (b.length == 0) = false ∧ a.length + 2 ≤ sizeLine ∧ rNewStrs (Txt.split a b) H Q) gSplit := by
  intro a y H c w b d Q hd hy eg k
  cases b with
  | str b =>
    obtain ⟨⟨h1, h2⟩, rfl⟩ := ite_some eg
    obtain rfl := hy.str
    exact ⟨a, b, rfl, rfl, h1, by rw [sizeLine_eq]; omega, fun p np => k _ _ _ (hd.grow np) (hd.new np) (Dp.newL (dp_strs _) (hd.free np))⟩
  | _ => simp [gSplit] at eg
end
section
variable {X : Cx} {E : XK} {e o e' : Expr} {te to : TE} {m1 m2 : Rho → M Val} {r : V → List V → Hp → VK → Prop} {g : Str → PyData → Option PyData}
theorem de_m1 (pe : PE X e (tM1 r to te)) (hr : MtRd X.K r g) (ho : DE X E o to m1) (he : DE X E e' te m2) : DE X E e (tM1 r to te) (mM1 g m1 m2) :=
  ⟨pe, fun σ ρ H c w Q er hd p => ho.rd σ ρ H c w _ er hd (Post.bind p fun x H1 c1 vx w1 g1 hd1 r1 p1 => by
    cases ex : look w1 vx with
    | none => simp [ex] at p1; exact p1.elim
    | some ad =>
      cases ad with
      | str a =>
        simp only [ex] at p1
        obtain rfl := (hd1.dq r1 ex).str
        refine ⟨⟨a, rfl⟩, he.rd σ ρ H1 c1 w1 _ (er.mono g1) hd1 (Post.bind (r := m2 ρ w1) p1 fun y H2 c2 vy w2 g2 hd2 r2 p2 => ?_)⟩
        cases ey : look w2 vy with
        | none => simp [ey] at p2; exact p2.elim
        | some b =>
          cases eg : g a b with
          | none => simp [ey, eg] at p2; exact p2.elim
          | some d =>
            simp only [ey, eg] at p2
            exact hr a y H2 c2 w2 b d Q hd2 (hd2.dq r2 ey) eg fun v H' c' g hd' r => p2 v H' c' g hd' r
      | _ => simp [ex] at p1; exact p1.elim)⟩
end
/-! ### f-strings -/
omit [Tbs] in
def gFmt : PyData → Option PyData
  | .str y => if y.length ≤ 100000 then some (.str y) else none
  | .int i => if i.natAbs.log2 < 1920 then some (.str (Str.ofString (toString i))) else none
  | _ => none
omit [Tbs] in
def mJNil : Str → Rho → M Str := fun acc _ w => .ok acc w
omit [Tbs] in
def mJCons (m : Rho → M Val) (ms : Str → Rho → M Str) : Str → Rho → M Str := fun acc ρ => bnd (m ρ) fun x w => match look w x with
  | some (.str y) => if (acc ++ y).length ≤ 100000 then ms (acc ++ y) ρ w else .bad
  | _ => .bad
omit [Tbs] in
def mJoined (ms : Str → Rho → M Str) : Rho → M Val := fun ρ => bnd (ms Str.empty ρ) fun z => ret (.d (.str z))
structure DJ (X : Cx) (E : XK) (es : List Expr) (ts : List TE) (m : Str → Rho → M Str) : Prop where
  pj : PJ X es ts
  rd : ∀ (acc : Str) (σ : L2.St) (ρ : Rho) (H : Hp) (c : Ctx) (w : Om) (Q : Str → Hp → Prop), ER X.K c σ ρ → Hold X.K H c w → Post X.K X.mg E c (fun _ (a b : Str) => a = b) (m acc ρ w) Q → tJs ts acc σ H Q
section
variable {X : Cx} {E : XK} {e v1 v2 : Expr} {es rest : List Expr} {te : TE} {ts : List TE} {m : Rho → M Val} {ms : Str → Rho → M Str} {pos : Pos}
theorem rd_fmt {K : PySem.W.Frag} : UnRd K (fun x H1 Q => (∃ y : Str, x = .str y ∧ y.length ≤ sizeLine ∧ Q (.str y) H1) ∨ ∃ i : Int, x = .int i ∧ i.natAbs.log2 < 1920 ∧ Q (.str (toString i)) H1) gFmt := by
  intro x H c w a d Q hd hx eg k
  cases a with
  | str y =>
    obtain ⟨h1, rfl⟩ := ite_some eg
    exact .inl ⟨y, hx.str, lineOk h1, k _ _ _ (.refl _) hd (.str _)⟩
  | int i =>
    obtain ⟨h1, rfl⟩ := ite_some eg
    exact .inr ⟨i, hx.int, h1, k _ _ _ (.refl _) hd (.str _)⟩
  | _ => simp [gFmt] at eg
theorem de_fmt (he : DE X E e te m) : DE X E (.FormattedValue e (-1) none pos) (tFmt te) (mUn gFmt m) :=
  ⟨pe_fmt he.pe, fun σ ρ H c w Q er hd p => he.rd σ ρ H c w _ er hd (Post.bind p fun x H1 c1 vx w1 gg hd1 r1 p1 => un_end rd_fmt hd1 r1 p1)⟩
theorem dj_nil : DJ X E [] [] mJNil := ⟨.nil, fun acc σ ρ H c w Q er hd p => p acc H c (.refl _) hd rfl⟩
theorem dj_cons (he : DE X E e te m) (hr : DJ X E es ts ms) : DJ X E (e :: es) (te :: ts) (mJCons m ms) :=
  ⟨.cons he.pe hr.pj, fun acc σ ρ H c w Q er hd p => he.rd σ ρ H c w _ er hd (Post.bind p fun x H1 c1 vx w1 g1 hd1 r1 p1 => by
    cases ex : look w1 vx with
    | none => simp [ex] at p1; exact p1.elim
    | some a =>
      cases a with
      | str y =>
        simp only [ex] at p1
        by_cases hl : (acc ++ y).length ≤ 100000
        · rw [if_pos hl] at p1
          exact ⟨y, (hd1.dq r1 ex).str, lineOk hl, hr.rd _ σ ρ H1 c1 w1 _ (er.mono g1) hd1 p1⟩
        · rw [if_neg hl] at p1; exact p1.elim
      | _ => simp [ex] at p1; exact p1.elim)⟩
theorem de_joined (h : DJ X E (v1 :: v2 :: rest) ts ms) : DE X E (.JoinedStr (v1 :: v2 :: rest) pos) (fun σ H Q => tJs ts Str.empty σ H fun out H1 => Q (.str out) H1) (mJoined ms) :=
  ⟨pe_joined h.pj, fun σ ρ H c w Q er hd p => h.rd _ σ ρ H c w _ er hd (Post.bind p fun y H1 c1 z w1 g1 hd1 r1 p1 => by
    subst r1
    exact p1 _ H1 c1 (.refl _) hd1 (.str _))⟩
theorem de_joined1 (he : DE X E e te m) : DE X E (.JoinedStr [e] pos) te m := ⟨pe_joined1 he.pe, he.rd⟩
end
end D

set_option maxRecDepth 100000
namespace D
open PySem L2 G PySem.Spec PyProof.Rows
variable [Tbs]
section
variable {X : Cx} {E : XK} {elt tg iter : Expr} {ifs : List Expr} {scope : Scope} {own : List (Str × Nat)} {pos spos py : Pos} {wi : TI} {g : TG} {tt : BT TT} {te : BT TE} {mi : Rho → M (List PyData)} {tm : Val → Rho → M Rho} {mt : Rho → M Bool} {me : Rho → M Val} {i : Nat} {y : Str}
/-- x = [..] of a def's own name -/
theorem ds_setLc (hc : X.calm = true) (hN : X.N.Nodup) (hy : X.N[i]? = some y) (hyl : X.env.scope.names.lookup y = some .local)
    (hsw : swapsWith (.ListComp elt [⟨tg, iter, ifs, 0⟩] scope pos) (some (.Name y py)) spos.line X.env = pure true) (hi : DI X E tg iter wi mi) (ok : BlkOk X.N X.env.scope scope own)
    (hg : ∀ (s : Shared) (H : Hp) (C : Addr) (cl : List (Str × Addr)) (fp : List Addr), DG (X.blk s H scope (compEnvC scope cl C X.env) fp) tg g tm) (gi : GIn g (own.map (·.2)))
    (ht : ∀ (s : Shared) (H : Hp) (C : Addr) (cl : List (Str × Addr)) (fp : List Addr), DPT (X.blk s H scope (compEnvC scope cl C X.env) fp) E0 ifs (tt s H C cl fp) mt)
    (he : ∀ (s : Shared) (H : Hp) (C : Addr) (cl : List (Str × Addr)) (fp : List Addr), DE (X.blk s H scope (compEnvC scope cl C X.env) fp) E0 elt (te s H C cl fp) me) (hs : ∀ x, foldedSetIterable iter X.env x = pure x := by intro _; rfl) :
    DS X E (.Assign [.Name y py] (.ListComp elt [⟨tg, iter, ifs, 0⟩] scope pos) spos) (tAsg (tLc wi g (tAll tt) (eAll te) (own.map (·.2))) (gName i)) (fAsg (mLc mi tm mt me (own.map (·.2))) (mName i)) :=
  ds_set (fun _ => ps_setLc hc hN hy hyl hsw hi.pi ok (fun s H C cl fp => (hg s H C cl fp).pg) (fun s H C cl fp => (ht_all ht s H C cl fp).pt) (fun s H C cl fp => (he_all he s H C cl fp).pe) hs) (de_lcD (pos := pos) hc hN hi ok hg gi ht he hs)
theorem ds_setLcO (hc : X.calm = true) (hN : X.N.Nodup) (hy : X.N[i]? = some y) (hyl : X.env.scope.names.lookup y = some .local)
    (hsw : swapsWith (.ListComp elt [⟨tg, iter, ifs, 0⟩] scope pos) (some (.Name y py)) spos.line X.env = pure true) (hi : DI X E tg iter wi mi) (ok : BlkOk X.N X.env.scope scope own)
    (hg : ∀ (s : Shared) (H : Hp) (C : Addr) (cl : List (Str × Addr)) (fp : List Addr), DG (X.blk s H scope (compEnvC scope cl C X.env) fp) tg g tm) (gi : GIn g (own.map (·.2)))
    (ht : ∀ (s : Shared) (H : Hp) (C : Addr) (cl : List (Str × Addr)) (fp : List Addr), DPT (X.blk s H scope (compEnvC scope cl C X.env) fp) E0 ifs (tt s H C cl fp) mt)
    (he : ∀ (s : Shared) (H : Hp) (C : Addr) (cl : List (Str × Addr)) (fp : List Addr), DE (X.blk s H scope (compEnvC scope cl C X.env) fp) E0 elt (te s H C cl fp) me) (hs : ∀ x, foldedSetIterable iter X.env x = pure x := by intro _; rfl) :
    DS X E (.Assign [.Name y py] (.ListComp elt [⟨tg, iter, ifs, 0⟩] scope pos) spos) (tAsg (tLc wi g (tAll tt) (eAll te) (own.map (·.2))) (gName i)) (fAsg (mLcO mi tm mt me (own.map (·.2))) (mName i)) :=
  ds_set (fun _ => ps_setLc hc hN hy hyl hsw hi.pi ok (fun s H C cl fp => (hg s H C cl fp).pg) (fun s H C cl fp => (ht_all ht s H C cl fp).pt) (fun s H C cl fp => (he_all he s H C cl fp).pe) hs) (de_lcOD (pos := pos) hc hN hi ok hg gi ht he hs)
end
/-! ### is True, tuple[::-1], sorted -/
omit [Tbs] in
def gIsB : PyData → PyData → Option PyData
  | .bool a, .bool b => some (.bool (decide (a = b)))
  | _, _ => none
omit [Tbs] in
def gNotB : PyData → PyData → Option PyData
  | .bool a, .bool b => some (.bool (!decide (a = b)))
  | _, _ => none
omit [Tbs] in
def gRev : PyData → Option PyData
  | .tuple xs => some (.tuple xs.reverse)
  | _ => none
omit [Tbs] in
def insI (n : Int) : List Int → List Int
  | [] => [n]
  | m :: ms => if n ≤ m then n :: m :: ms else m :: insI n ms
omit [Tbs] in
def sortI : List Int → List Int
  | [] => []
  | n :: ns => insI n (sortI ns)
omit [Tbs] in
def gSorted : List PyData → Option PyData
  | [.list xs] => match intsOf xs with
    | some ns => if ns.length < 64 then some (.list ((sortI ns).map .int)) else none
    | none => none
  | _ => none
omit [Tbs] in
theorem insI_perm (n : Int) : ∀ ms : List Int, (insI n ms).Perm (n :: ms)
  | [] => .refl _
  | m :: ms => by
    unfold insI
    split
    · exact .refl _
    · exact ((insI_perm n ms).cons m).trans (.swap n m ms)
omit [Tbs] in
theorem sortI_perm : ∀ ns : List Int, (sortI ns).Perm ns
  | [] => .refl _
  | n :: ns => (insI_perm n _).trans ((sortI_perm ns).cons n)
omit [Tbs] in
theorem insI_sorted {n : Int} : ∀ {ms : List Int}, ms.Pairwise (· ≤ ·) → (insI n ms).Pairwise (· ≤ ·)
  | [], _ => by simp [insI]
  | m :: ms, h => by
    have h' := List.pairwise_cons.mp h
    unfold insI
    split
    · rename_i hn
      refine List.pairwise_cons.mpr ⟨fun x hx => ?_, h⟩
      rcases List.mem_cons.mp hx with rfl | hx
      · exact hn
      · exact Int.le_trans hn (h'.1 x hx)
    · rename_i hn
      refine List.pairwise_cons.mpr ⟨fun x hx => ?_, insI_sorted h'.2⟩
      rcases List.mem_cons.mp ((insI_perm n ms).mem_iff.mp hx) with rfl | hx
      · omega
      · exact h'.1 x hx
omit [Tbs] in
theorem sortI_sorted : ∀ ns : List Int, (sortI ns).Pairwise (· ≤ ·)
  | [] => .nil
  | n :: ns => insI_sorted (sortI_sorted ns)
omit [Tbs] in
theorem sorted_one : ∀ {as bs : List Int}, as.Perm bs → as.Pairwise (· ≤ ·) → bs.Pairwise (· ≤ ·) → as = bs
  | [], bs, p, _, _ => (List.Perm.nil_eq p)
  | a :: as, [], p, _, _ => absurd p.length_eq (by simp)
  | a :: as, b :: bs, p, h1, h2 => by
    have q1 := List.pairwise_cons.mp h1
    have q2 := List.pairwise_cons.mp h2
    have e : a = b := by
      have m1 : a ∈ b :: bs := p.mem_iff.mp (List.mem_cons_self ..)
      have m2 : b ∈ a :: as := p.mem_iff.mpr (List.mem_cons_self ..)
      rcases List.mem_cons.mp m1 with h | h
      · exact h
      · rcases List.mem_cons.mp m2 with h' | h'
        · exact h'.symm
        · have := q1.1 b h'
          have := q2.1 a h
          omega
    subst e
    rw [sorted_one (List.Perm.cons_inv p) q1.2 q2.2]
section
variable {K : PySem.W.Frag}
theorem rd_isB : OpRd K rIsB gIsB := by
  intro x y H c w a b d Q hd hx hy eg k
  unfold gIsB at eg
  split at eg
  · cases eg
    exact ⟨_, _, hx.bool, hy.bool, k _ _ _ (.refl _) hd (.bl _)⟩
  · cases eg
theorem rd_notB : OpRd K rNotB gNotB := by
  intro x y H c w a b d Q hd hx hy eg k
  unfold gNotB at eg
  split at eg
  · cases eg
    exact ⟨_, _, hx.bool, hy.bool, k _ _ _ (.refl _) hd (.bl _)⟩
  · cases eg
omit [Tbs] in
theorem DpAll.rev {H : Hp} : ∀ {vs : List V} {ds : List PyData}, DpAll K H vs ds → DpAll K H vs.reverse ds.reverse
  | _, _, .nil => .nil
  | _, _, .cons h t => by
    rw [List.reverse_cons, List.reverse_cons]
    exact (DpAll.rev t).append (.cons h .nil)
theorem rd_rev [NP] : UnRd K (fun x H1 Q => ∃ a xs, x = .ref a ∧ SqT K H1 a xs ∧ ∀ p, H1 p = none → Q (.ref p) (upd H1 p (.tup xs.reverse))) gRev := by
  intro x H c w a d Q hd hx eg k
  unfold gRev at eg
  split at eg
  · cases eg
    obtain ⟨p, vs, rfl, q1, a1⟩ := hx.tuple hd.sub
    exact ⟨p, vs, rfl, q1, fun t nt => k _ _ _ (hd.grow (o := .tup _) nt) (hd.new nt NP.no) (Dp.newT (DpAll.rev a1) (hd.free nt))⟩
  · cases eg
theorem rd_sorted : CallRd K (rSorted K) gSorted := by
  intro vs H c w as d Q hd hx eg k
  unfold gSorted at eg
  split at eg
  · rename_i xs
    cases hx with
    | cons h t =>
      cases t
      obtain ⟨p, us, rfl, q1, a1⟩ := h.list hd.sub
      cases q : intsOf xs with
      | none => rw [q] at eg; cases eg
      | some ns =>
        rw [q] at eg
        dsimp only at eg
        obtain ⟨hl, rfl⟩ := ite_some eg
        rw [ints_v a1 q] at q1
        refine ⟨p, ns, rfl, q1, hl, fun ns' z hp hs nz => ?_⟩
        obtain rfl : ns' = sortI ns := sorted_one (hp.trans (sortI_perm ns).symm) hs (sortI_sorted ns)
        exact k _ _ _ (hd.grow nz) (hd.new nz) (Dp.newL (dp_ints _) (hd.free nz))
  · cases eg
end
section
variable {X : Cx} {E : XK} {e : Expr} {te : TE} {m : Rho → M Val} {k : Nat} {p1 p2 p3 pos : Pos}
theorem de_rev [NP] (he : DE X E e te m) : DE X E (.Subscript e (.Slice none none (some (.UnaryOp .USub (.Constant (.int 1) k p1) p2)) p3) pos) (tRevT X.K te) (mUn gRev m) :=
  ⟨pe_revT he.pe, fun σ ρ H c w Q er hd p => he.rd σ ρ H c w _ er hd (Post.bind p fun x H1 c1 vx w1 gg hd1 r1 p1 => un_end rd_rev hd1 r1 p1)⟩
end
end D

set_option maxRecDepth 100000
set_option maxHeartbeats 2000000
namespace N
open PySem L2 PySem.Spec PyProof.Rows
variable [D.Tbs]
/-! a list times an int, whatever list -/
omit [D.Tbs] in
def rRepL (K : PySem.W.Frag) : R2 := fun x y H Q => ∃ l k xs, x = .ref l ∧ y = .int k ∧ SqL K H l xs ∧ 0 ≤ k ∧ k ≤ 1000 ∧ xs.length ≤ 1000 ∧ ∀ p, H p = none → Q (.ref p) (upd H p (.lst (List.replicate k.toNat xs).flatten))
omit [D.Tbs] in
theorem op_repL {X : Cx} : OpR X (binaryOp .Mult) (rRepL X.K) := by
  intro pins s σ H x y v u Q I rx ry h
  obtain ⟨l, k, xs, rfl, rfl, hT, h1, h2, hz, q⟩ := h
  cases rx
  obtain ⟨t, rfl⟩ := ry
  obtain ⟨its, r, pl, hs⟩ := I.list hT
  obtain ⟨⟨cls, dd, data, sl⟩, n, ho, hc, hdn, hd⟩ := pl
  simp only at hc hd hdn
  obtain ⟨hd, hsl⟩ : data = .seq its.toArray n ∧ True := ⟨by first | exact hd | exact hd.1, trivial⟩
  subst hc hd
  have hle : its.length = xs.length := r.length.symm
  have hm : its.toArray.size * k.toNat ≤ 1000000 := by
    rw [List.size_toArray, hle]
    have a1 : xs.length * k.toNat ≤ 1000 * 1000 := Nat.mul_le_mul hz (by omega)
    omega
  refine wpAny_binaryOp_repeat_ref (T := "list") (U := "int") (by decide) ⟨_, ho, rfl⟩ (fun s' => typeIs_int s' k t) noFill_list_mul PySem.F.fills_int_mul PySem.F.slot_int_rmul repeat_list PySem.F.slot_int_index.lookup
    (call_meets PySem.F.slot_int_rmul (typeIs_int s k t) PySem.F.entry_int_rmul (PySem.F.args_int_rmul_2 _ _) (lm_int_rmul_list_any k t l its.toArray n dd sl)
      ⟨ho, rfl, ⟨_, ho, rfl⟩, call_meets PySem.F.slot_list_mul ⟨_, ho, rfl⟩ PySem.F.entry_list_mul (PySem.F.args_list_mul_2 _ _)
        (lm_list_mul_any l its.toArray n dd sl k t (by simp [Builtin.List.listFitsIndex]; omega) (by omega) (by simp [Builtin.List.listTooLong, sizeLine]; simp at hm; omega)) ⟨ho, ?_⟩⟩)
  rw [listMul_foldl_if]
  refine ⟨.ref s.heap.objs.size, _, I.laid (t' := s.toks) (o := .lst (List.replicate k.toNat xs).flatten) (fun b ob q => Heap.get?_push_of_some _ q) (Nat.le_refl _) ?_, rfl, q _ (I.hok.fresh (Nat.le_refl _))⟩
  refine ⟨by rw [PyProof.Rows.lm_len_rep_flat, sizeLine_eq]; have a1 : k.toNat * xs.length ≤ 1000 * 1000 := Nat.mul_le_mul (by omega) hz; omega, (List.replicate k.toNat its).flatten, 0, r.rep k.toNat, ?_⟩
  exact Heap.get?_push_size _ rfl
end N
namespace D
open PySem L2 G PySem.Spec PyProof.Rows
variable [D.Tbs]
omit [D.Tbs] in
def gMulC : PyData → PyData → Option PyData
  | .list xs, .int k => if 0 ≤ k ∧ k ≤ 1000 ∧ xs.length ≤ 1000 then some (.list (List.replicate k.toNat xs).flatten) else none
  | a, b => gMulB a b
omit [D.Tbs] in
def rMulC (K : PySem.W.Frag) : R2 := fun x y H Q => rMulB K x y H Q ∨ N.rRepL K x y H Q
omit [D.Tbs] in
theorem op_mulC {X : Cx} : OpR X (binaryOp .Mult) (rMulC X.K) := OpR.or op_mulB N.op_repL
theorem rd_mulC [NP] {K : PySem.W.Frag} : OpRd K (rMulC K) gMulC := by
  intro x y H c w a b d Q hd hx hy eg k
  unfold gMulC at eg
  split at eg
  · obtain ⟨⟨h1, h2, h3⟩, rfl⟩ := ite_some eg
    obtain ⟨p, vs, rfl, q1, a1⟩ := hx.list hd.sub
    have l1 := a1.length
    exact .inr ⟨p, _, vs, rfl, hy.int, q1, h1, h2, by omega, fun t nt => k _ _ _ (hd.grow (o := .lst _) nt) (hd.new nt) (Dp.newL (DpAll.rep a1 _) (hd.free nt))⟩
  · exact .inl (rd_mulB x y H c w a b d Q hd hx hy eg k)
omit [D.Tbs] in
/-- a number, or a list, times a number -/
def gMulQ : PyData → PyData → Option PyData
  | .int i, .int j => if i.natAbs.log2 + j.natAbs.log2 < 1000000 then some (.int (i * j)) else none
  | .list xs, .int k => if 0 ≤ k ∧ k ≤ 1000 ∧ xs.length ≤ 1000 then some (.list (List.replicate k.toNat xs).flatten) else none
  | _, _ => none
theorem rd_mulQ {K : PySem.W.Frag} : OpRd K (rMulC K) gMulQ := by
  intro x y H c w a b d Q hd hx hy eg k
  unfold gMulQ at eg
  split at eg
  · obtain ⟨hl, rfl⟩ := ite_some eg
    exact .inl (.inl (.inl ⟨_, _, hx.int, hy.int, hl, k _ _ _ (.refl _) hd (.int _)⟩))
  · obtain ⟨⟨h1, h2, h3⟩, rfl⟩ := ite_some eg
    obtain ⟨p, vs, rfl, q1, a1⟩ := hx.list hd.sub
    have l1 := a1.length
    exact .inr ⟨p, _, vs, rfl, hy.int, q1, h1, h2, by omega, fun t nt => k _ _ _ (hd.grow (o := .lst _) nt) (hd.new nt) (Dp.newL (DpAll.rep a1 _) (hd.free nt))⟩
  · cases eg
end D

set_option maxRecDepth 100000
namespace D
open PySem L2 G PySem.Spec PyProof.Rows
/-! ### primes below ten thousand -/
/-- no divisor whose square is within -/
def clean (i : Int) : Bool := (List.range 98).all fun k => !(decide (((k : Int) + 2) * ((k : Int) + 2) ≤ i) && decide (i % ((k : Int) + 2) = 0))
def primeI (i : Int) : Bool := decide (0 ≤ i) && decide (i < 10000) && !decide (i < 2) && clean i
theorem clean_no {i f : Int} (h0 : i < 10000) (h2 : 2 ≤ f) (hf : f * f ≤ i) (hd : i % f = 0) : clean i = false := by
  have h100 : f < 100 := by
    apply Int.lt_of_not_ge
    intro hge
    have : 100 * 100 ≤ f * f := Int.mul_le_mul hge hge (by decide) (by omega)
    omega
  unfold clean
  rw [List.all_eq_false]
  refine ⟨(f - 2).toNat, by rw [List.mem_range]; omega, ?_⟩
  have e : (((f - 2).toNat : Nat) : Int) + 2 = f := by omega
  rw [e, decide_eq_true hf, decide_eq_true hd]
  decide
theorem clean_yes {i : Int} (h : ∀ f : Int, 2 ≤ f → f * f ≤ i → i % f ≠ 0) : clean i = true := by
  unfold clean
  rw [List.all_eq_true]
  intro k _
  rw [Bool.not_eq_true', Bool.and_eq_false_iff]
  by_cases c : ((k : Int) + 2) * ((k : Int) + 2) ≤ i
  · exact .inr (decide_eq_false (h _ (by omega) c))
  · exact .inl (decide_eq_false c)
def small25 : List Nat := [2, 3, 5, 7, 11, 13, 17, 19, 23, 29, 31, 37, 41, 43, 47, 53, 59, 61, 67, 71, 73, 79, 83, 89, 97]
def cleanN (n : Nat) : Bool := small25.all fun p => !(decide (p < n) && decide (n % p = 0))
theorem small_in : ∀ f : Nat, f < 100 → 2 ≤ f → ∃ p ∈ small25, p ≤ f ∧ f % p = 0 := by
  have z : (List.range 100).all (fun f => f < 2 || small25.any fun p => decide (p ≤ f) && decide (f % p = 0)) = true := by decide +kernel
  intro f h h2
  have q := List.all_eq_true.mp z f (List.mem_range.mpr h)
  rw [decide_eq_false (show ¬ f < 2 by omega), Bool.false_or] at q
  obtain ⟨p, hp, e⟩ := List.any_eq_true.mp q
  rw [Bool.and_eq_true] at e
  exact ⟨p, hp, of_decide_eq_true e.1, of_decide_eq_true e.2⟩
theorem small_lo : ∀ p ∈ small25, 2 ≤ p ∧ p < 100 := by decide
theorem cleans {n : Nat} (h : n < 10000) (h2 : 2 ≤ n) : cleanN n = clean (n : Int) := by
  cases c : cleanN n with
  | false =>
    unfold cleanN at c
    rw [List.all_eq_false] at c
    obtain ⟨p, hp, e⟩ := c
    rw [Bool.not_eq_true, Bool.not_eq_false', Bool.and_eq_true] at e
    have hlt : p < n := of_decide_eq_true e.1
    have hd : n % p = 0 := of_decide_eq_true e.2
    obtain ⟨lo, hi⟩ := small_lo p hp
    obtain ⟨m, hm⟩ := Nat.dvd_of_mod_eq_zero hd
    symm
    by_cases sq : p * p ≤ n
    · exact clean_no (f := (p : Int)) (by omega) (by omega) (by exact_mod_cast sq) (by exact_mod_cast hd)
    · have m1 : m < p := Nat.lt_of_not_le fun q => sq (by rw [hm]; exact Nat.mul_le_mul_left p q)
      have m2 : 2 ≤ m := by
        match m, hm with
        | 0, hm => omega
        | 1, hm => omega
        | _ + 2, _ => omega
      have mm : m * m ≤ n := by rw [hm]; exact Nat.mul_le_mul_right m (Nat.le_of_lt m1)
      have md : n % m = 0 := by rw [hm]; exact Nat.mul_mod_left p m
      exact clean_no (f := (m : Int)) (by omega) (by omega) (by exact_mod_cast mm) (by exact_mod_cast md)
  | true =>
    symm
    refine clean_yes fun f hf hq hz => ?_
    obtain ⟨k, rfl⟩ : ∃ k : Nat, f = (k : Int) := ⟨f.toNat, by omega⟩
    have k2 : 2 ≤ k := by omega
    have kq : k * k ≤ n := by exact_mod_cast hq
    have kd : n % k = 0 := by exact_mod_cast hz
    have k1 : k < 100 := Nat.lt_of_not_le fun q => by
      have := Nat.mul_le_mul q q
      omega
    obtain ⟨p, hp, ple, pd⟩ := small_in k k1 k2
    have knk : 2 * k ≤ k * k := Nat.mul_le_mul_right k k2
    have pn : p < n := by omega
    have pdn : n % p = 0 := Nat.mod_eq_zero_of_dvd (Nat.dvd_trans (Nat.dvd_of_mod_eq_zero pd) (Nat.dvd_of_mod_eq_zero kd))
    unfold cleanN at c
    have z := List.all_eq_true.mp c p hp
    rw [decide_eq_true pn, decide_eq_true pdn] at z
    cases z
section
variable {m m1 m2 : Rho → D.M Val} {mt : Rho → D.M Bool} {ρ : Rho} {w : Om} {b : B} {n : Nat} {d : PyData} {a c : PyData} {F : List Val → D.M Val} {x : Val}
theorem fin_keep : fin false w.length (.rt (.d d) w) = .ok (.d d) w := by
  show R.ok (Val.d d) (w.take w.length) = _
  rw [List.take_length]
theorem mulC {i j : Int} (h : i.natAbs < 2 ^ 64) (h' : j.natAbs < 2 ^ 64) : gMulC (.int i) (.int j) = some (.int (i * j)) := mulI h h'
theorem ev_fnP1 (h : m ρ w = .ok (.d a) w) (hF : F [.d a] [] = .ok (.d d) []) : mFnP 1 F (mCons m mNil) ρ w = .ok (.d d) w := by
  unfold mFnP mCons mNil bnd
  rw [h]
  dsimp only [R.then, bnd, frzs, frz, D.ret]
  rw [if_pos (show [a].length = 1 from rfl)]
  unfold onlyD
  show (match F [.d a] [] with | .ok (.d v) _ => R.ok (Val.d v) w | _ => R.bad) = _
  rw [hF]
theorem ev_fnP2 (h : m1 ρ w = .ok (.d a) w) (h2 : m2 ρ w = .ok (.d c) w) (hF : F [.d a, .d c] [] = .ok (.d d) []) : mFnP 2 F (mCons m1 (mCons m2 mNil)) ρ w = .ok (.d d) w := by
  unfold mFnP mCons mNil bnd
  rw [h]
  dsimp only [R.then, bnd, frzs, frz, D.ret]
  rw [h2]
  dsimp only [R.then, bnd, frzs, frz, D.ret]
  rw [if_pos (show [a, c].length = 2 from rfl)]
  unfold onlyD
  show (match F [.d a, .d c] [] with | .ok (.d v) _ => R.ok (Val.d v) w | _ => R.bad) = _
  rw [hF]
theorem ev_andV {k : Bool} {m' : Rho → D.M Val} {k' : Bool} (h : mTest m ρ w = .ok k w) (h' : m' ρ w = .ok (.d (.bool k')) w) : mAndV m m' ρ w = .ok (.d (.bool (k && k'))) w := by
  unfold mAndV bnd
  rw [h]
  cases k
  · rfl
  · exact h'
theorem ev_andT {m' : Rho → D.M Val} {k' : Bool} (h : mTest m ρ w = .ok true w) (h' : m' ρ w = .ok (.d (.bool k')) w) : mAndV m m' ρ w = .ok (.d (.bool k')) w := ev_andV h h'
theorem whl_stop (h : mt ρ w = .ok false w) : whl mt b (n + 1) ρ w = .nx ρ w := by
  unfold whl
  rw [h]
theorem whl_go {ρ' : Rho} {w' : Om} (h : mt ρ w = .ok true w) (hb : b ρ w = .nx ρ' w') : whl mt b (n + 1) ρ w = whl mt b n ρ' w' := by
  rw [whl]
  rw [h]
  dsimp only
  rw [hb]
theorem whl_rt {v : Val} {w' : Om} (h : mt ρ w = .ok true w) (hb : b ρ w = .rt v w') : whl mt b (n + 1) ρ w = .rt v w' := by
  rw [whl]
  rw [h]
  dsimp only
  rw [hb]
end
end D

set_option maxRecDepth 100000
namespace D
open PySem L2 G PySem.Spec PyProof.Rows
section
variable {m m1 m2 : Rho → D.M Val} {ms : Rho → D.M (List Val)} {mt : Rho → D.M Bool} {ρ : Rho} {w : Om} {b : B} {n : Nat} {a c d : PyData} {xs : List PyData} {F : List Val → D.M Val} {x v : Val}
theorem frzs_d : ∀ (xs : List PyData) (w : Om), frzs (xs.map .d) w = .ok xs w
  | [], _ => rfl
  | x :: xs, w => by
    show (R.ok x w).then (fun d => bnd (frzs (xs.map .d)) fun ds => D.ret (d :: ds)) = _
    dsimp only [R.then]
    unfold bnd
    rw [frzs_d xs w]
    rfl
theorem ev_nil : mNil ρ w = .ok (([] : List PyData).map .d) w := rfl
theorem ev_cons (h : m ρ w = .ok (.d a) w) (hs : ms ρ w = .ok (xs.map .d) w) : mCons m ms ρ w = .ok ((a :: xs).map .d) w := by
  unfold mCons bnd
  rw [h]
  dsimp only [R.then]
  rw [hs]
  rfl
theorem ev_lst (h : ms ρ w = .ok (xs.map .d) w) (hl : xs.length ≤ 100000) : mLst ms ρ w = .ok (.d (.list xs)) w := by
  unfold mLst bnd
  rw [h]
  dsimp only [R.then]
  rw [frzs_d]
  dsimp only [R.then]
  rw [if_pos hl]
  rfl
theorem ev_tup (h : ms ρ w = .ok (xs.map .d) w) (hl : xs.length ≤ 100000) : mTup ms ρ w = .ok (.d (.tuple xs)) w := by
  unfold mTup bnd
  rw [h]
  dsimp only [R.then]
  rw [frzs_d]
  dsimp only [R.then]
  rw [if_pos hl]
  rfl
theorem ev_call1 {g : List PyData → Option PyData} (h : m ρ w = .ok (.d a) w) (hg : g [a] = some d) : mCall g (mCons m mNil) ρ w = .ok (.d d) w := by
  unfold mCall mCons mNil bnd
  rw [h]
  dsimp only [R.then, D.ret, looks, look]
  rw [hg]
theorem ev_fnK1 (h : m ρ w = .ok (.d a) w) (hF : F [.d a] w = .ok v w) : mFnK 1 0 1 [0] F mNil (mCons m mNil) ρ w = .ok v w := by
  unfold mFnK mCons mNil bnd
  dsimp only [R.then]
  rw [h]
  exact hF
theorem ev_fn1 (h : m ρ w = .ok (.d a) w) (hF : F [.d a] w = .ok v w) : mFn 1 F (mCons m mNil) ρ w = .ok v w := by
  unfold mFn mCons mNil bnd
  rw [h]
  exact hF
end
end D

set_option maxRecDepth 100000
namespace D
open PySem L2 G PySem.Spec PyProof.Rows
variable [Tbs]
/-! ### == and != of texts, whatever signs they hold -/
omit [Tbs] in
def gEqB : PyData → PyData → Option PyData
  | .str a, .str b => some (.bool (decide (a = b)))
  | a, b => gEq a b
omit [Tbs] in
def gNeB : PyData → PyData → Option PyData
  | .str a, .str b => some (.bool (!decide (a = b)))
  | a, b => gNe a b
omit [Tbs] in
def rEqB (K : PySem.W.Frag) : R2 := fun x y H Q => rEqD K x y H Q ∨ rEq x y H Q
omit [Tbs] in
def rNeB (K : PySem.W.Frag) : R2 := fun x y H Q => rNeD K x y H Q ∨ rNe x y H Q
section
variable {X : Cx} {K : PySem.W.Frag}
omit [Tbs] in
theorem op_eqB (hu : X.A.units + 64 < cLine) : OpR X (compareOp .Eq) (rEqB X.K) := OpR.or (op_eqD hu) op_eq
omit [Tbs] in
theorem op_neB (hu : X.A.units + 64 < cLine) : OpR X (compareOp .NotEq) (rNeB X.K) := OpR.or (op_neD hu) op_ne
omit [Tbs] in
theorem dec_s {a b : Str} : decide (V.str a = V.str b) = decide (a = b) := by
  by_cases h : a = b
  · subst h; simp
  · simp [h]
theorem rd_eqB : OpRd K (rEqB K) gEqB := by
  intro x y H c w a b d Q hd hx hy eg k
  unfold gEqB at eg
  split at eg
  · cases eg
    obtain rfl := hx.str
    obtain rfl := hy.str
    exact .inr ⟨rfl, by rw [dec_s]; exact k _ _ _ (.refl _) hd (.bl _)⟩
  · exact .inl (rd_eq x y H c w a b d Q hd hx hy eg k)
theorem rd_neB : OpRd K (rNeB K) gNeB := by
  intro x y H c w a b d Q hd hx hy eg k
  unfold gNeB at eg
  split at eg
  · cases eg
    obtain rfl := hx.str
    obtain rfl := hy.str
    exact .inr ⟨rfl, by rw [dec_s]; exact k _ _ _ (.refl _) hd (.bl _)⟩
  · exact .inl (rd_ne x y H c w a b d Q hd hx hy eg k)
omit [Tbs] in
theorem eq_same (s : Str) : gEqB (.str s) (.str s) = some (.bool true) := by
  show some (PyData.bool (decide (s = s))) = _
  rw [decide_eq_true rfl]
omit [Tbs] in
theorem ne_nil_intsB (cs : List Int) : gNeB (.list (dints cs)) (.list []) = some (.bool (!cs.isEmpty)) := ne_nil_ints cs
end
end D

set_option maxRecDepth 100000
namespace D
open PySem L2 G PySem.Spec PyProof.Rows
section
variable {tm : Val → Rho → D.M Rho} {mt : Rho → D.M Bool} {me : Rho → D.M Val} {ρ0 ρ : Rho} {w : Om} {mi : Rho → D.M (List PyData)} {vs : List Nat}
/-- [x for x in ints if ..] -/
theorem lcL_ints (g : Int → Bool) : ∀ ns : List Int, (∀ i ∈ ns, ∃ ρ1, tm (.d (.int i)) ρ0 w = .ok ρ1 w ∧ mt ρ1 w = .ok (g i) w ∧ me ρ1 w = .ok (.d (.int i)) w) → lcL tm mt me ρ0 (dints ns) w = .ok (dints (ns.filter g)) w
  | [], _ => rfl
  | n :: ns, h => by
    obtain ⟨ρ1, e1, e2, e3⟩ := h n (List.mem_cons_self ..)
    have ih := lcL_ints g ns fun i hi => h i (List.mem_cons_of_mem _ hi)
    show lcL tm mt me ρ0 (.int n :: dints ns) w = _
    unfold lcL bnd
    rw [e1]
    dsimp only [R.then]
    rw [e2]
    dsimp only [R.then]
    cases hg : g n with
    | false =>
      rw [if_neg (by decide), List.filter_cons_of_neg (by rw [hg]; decide)]
      exact ih
    | true =>
      rw [if_pos rfl, e3, List.filter_cons_of_pos hg]
      dsimp only [R.then, frz]
      rw [ih]
      rfl
theorem ev_lcI (g : Int → Bool) {ns : List Int} (hi : mi ρ w = .ok (dints ns) w) (hl : ns.length ≤ 100000) (h : ∀ i ∈ ns, ∃ ρ1, tm (.d (.int i)) (wipeR ρ vs) w = .ok ρ1 w ∧ mt ρ1 w = .ok (g i) w ∧ me ρ1 w = .ok (.d (.int i)) w) :
    mLc mi tm mt me vs ρ w = .ok (.d (.list (dints (ns.filter g)))) w := by
  unfold mLc mLcP noX bnd
  rw [hi]
  dsimp only [R.then]
  rw [lcL_ints g ns h]
  dsimp only [R.then]
  have := List.length_filter_le g ns
  rw [if_pos (by rw [List.length_map]; omega)]
  rfl
theorem eq_nil_ints (cs : List Int) : gEqB (.list (dints cs)) (.list []) = some (.bool cs.isEmpty) := by
  have h1 := shaped_ints cs
  have h2 : SeqAt.shaped (.list []) = true := shaped_ints []
  show (if SeqAt.shaped (.list (dints cs)) = true ∧ SeqAt.shaped (.list []) = true then some (PyData.bool (PyData.eqv (.list (dints cs)) (.list []))) else none) = _
  rw [if_pos ⟨h1, h2⟩]
  cases cs with
  | nil => simp [PyData.eqv, PyData.eqvAll]
  | cons c cs => simp [PyData.eqv, PyData.eqvAll]
end
end D

set_option maxRecDepth 100000
namespace D
open PySem L2 G PySem.Spec PyProof.Rows
section
variable {mi : Rho → D.M (List PyData)} {tm : Val → Rho → D.M Rho} {b f' : B} {ρ ρ1 ρ2 : Rho} {w w' : Om} {d : PyData} {P : Fl → Prop} {v : Val}
/-- a loop of one turn -/
theorem fl_one (hi : mi ρ w = .ok [d] w) (ht : tm (.d d) ρ w = .ok ρ1 w) (hb : b ρ1 w = .nx ρ2 w') (k : P (f' ρ2 w')) : P (fSeq (fFor mi tm b) f' ρ w) := by
  unfold fSeq fFor
  rw [hi]
  dsimp only [R.thenF]
  unfold forL
  rw [ht]
  dsimp only
  rw [hb]
  dsimp only
  unfold forL
  exact k
theorem fl_oneR (hi : mi ρ w = .ok [d] w) (ht : tm (.d d) ρ w = .ok ρ1 w) (hb : b ρ1 w = .rt v w') (k : P (.rt v w')) : P (fSeq (fFor mi tm b) f' ρ w) := by
  unfold fSeq fFor
  rw [hi]
  dsimp only [R.thenF]
  unfold forL
  rw [ht]
  dsimp only
  rw [hb]
  exact k
end
end D

set_option maxRecDepth 100000
namespace D
open PySem L2 G PySem.Spec PyProof.Rows
section
variable {tm : Val → Rho → D.M Rho} {mt : Rho → D.M Bool} {me : Rho → D.M Val} {ρ0 ρ : Rho} {w : Om} {mi : Rho → D.M (List PyData)} {vs : List Nat}
/-- [f(x) for x in ..] -/
theorem lcL_map (f : PyData → PyData) : ∀ ds : List PyData, (∀ d ∈ ds, ∃ ρ1, tm (.d d) ρ0 w = .ok ρ1 w ∧ mt ρ1 w = .ok true w ∧ me ρ1 w = .ok (.d (f d)) w) → lcL tm mt me ρ0 ds w = .ok (ds.map f) w
  | [], _ => rfl
  | d :: ds, h => by
    obtain ⟨ρ1, e1, e2, e3⟩ := h d (List.mem_cons_self ..)
    have ih := lcL_map f ds fun i hi => h i (List.mem_cons_of_mem _ hi)
    unfold lcL bnd
    rw [e1]
    dsimp only [R.then]
    rw [e2]
    dsimp only [R.then]
    rw [if_pos rfl, e3]
    dsimp only [R.then, frz]
    rw [ih]
    rfl
theorem ev_lcM (f : PyData → PyData) {ds : List PyData} (hi : mi ρ w = .ok ds w) (hl : ds.length ≤ 100000) (h : ∀ d ∈ ds, ∃ ρ1, tm (.d d) (wipeR ρ vs) w = .ok ρ1 w ∧ mt ρ1 w = .ok true w ∧ me ρ1 w = .ok (.d (f d)) w) :
    mLc mi tm mt me vs ρ w = .ok (.d (.list (ds.map f))) w := by
  unfold mLc mLcP noX bnd
  rw [hi]
  dsimp only [R.then]
  rw [lcL_map f ds h]
  dsimp only [R.then]
  rw [if_pos (by rw [List.length_map]; exact hl)]
  rfl
/-- what is asked of a store is asked of the empty one -/
theorem only_ok {F : List Val → D.M Val} {ds : List PyData} {v : PyData} {w' : Om} (h : F (ds.map .d) [] = .ok (.d v) w') : onlyD F ds w = .ok (.d v) w := by
  unfold onlyD
  rw [h]
theorem only_isTrue {F : List Val → D.M Val} {ds : List PyData} (h : isTrueR (F (ds.map .d) []) = true) : onlyD F ds w = .ok (.d (.bool true)) w := by
  unfold onlyD
  cases q : F (ds.map .d) [] with
  | bad => rw [q] at h; cases h
  | exn x w1 => rw [q] at h; cases h
  | ok v w1 =>
    rw [q] at h
    cases v with
    | o n => cases h
    | d x =>
      cases x with
      | bool b => cases b with
        | true => rfl
        | false => cases h
      | _ => cases h
end
end D

set_option maxRecDepth 100000
namespace D
open PySem L2 G PySem.Spec PyProof.Rows
section
variable {m m1 m2 m3 : Rho → D.M Val} {ρ : Rho} {w : Om} {a b c : PyData} {g g' : PyData → PyData → Option PyData} {k k' : Bool}
theorem ev_chain (h1 : m1 ρ w = .ok (.d a) w) (h2 : m2 ρ w = .ok (.d b) w) (h3 : m3 ρ w = .ok (.d c) w) (hg : g a b = some (.bool k)) (hg' : g' b c = some (.bool k')) : mChain g g' m1 m2 m3 ρ w = .ok (.d (.bool (k && k'))) w := by
  unfold mChain bnd
  rw [h1]
  dsimp only [R.then]
  rw [h2]
  dsimp only [R.then, look]
  rw [hg]
  cases k
  · rfl
  · dsimp only
    rw [h3]
    dsimp only [R.then, look]
    rw [hg']
    rfl
end
end D

set_option maxRecDepth 100000
namespace D
open PySem L2 G PySem.Spec PyProof.Rows
variable [Tbs]
/-! ### [e for a in xs for b in ys] -/
omit [Tbs] in
def iAll (wi : BT TI) : TI := fun σ H' R => ∀ s H C cl fp, wi s H C cl fp σ H' R
omit [Tbs] in
def lcL2 (tm : Val → Rho → M Rho) (mt : Rho → M Bool) (mi1 : Rho → M (List PyData)) (tm1 : Val → Rho → M Rho) (mt1 : Rho → M Bool) (me : Rho → M Val) (vs1 : List Nat) (ρ0 : Rho) : List PyData → M (List PyData)
  | [] => ret []
  | d :: ds => bnd (tm (.d d) ρ0) fun ρ => bnd (mt ρ) fun k => if k = true then bnd (mi1 ρ) fun es => bnd (lcL tm1 mt1 me (wipeR ρ vs1) es) fun r1 => bnd (lcL2 tm mt mi1 tm1 mt1 me vs1 ρ0 ds) fun r => ret (r1 ++ r) else lcL2 tm mt mi1 tm1 mt1 me vs1 ρ0 ds
omit [Tbs] in
def mLcP2 (mi : Rho → M (List PyData)) (tm : Val → Rho → M Rho) (mt : Rho → M Bool) (mi1 : Rho → M (List PyData)) (tm1 : Val → Rho → M Rho) (mt1 : Rho → M Bool) (me : Rho → M Val) (vs vs1 : List Nat) : Rho → M (List PyData) := fun ρ => bnd (mi ρ) fun ds => bnd (noX (lcL2 tm mt mi1 tm1 mt1 me vs1 (wipeR ρ vs) ds)) fun r =>
  if r.length ≤ 100000 then ret r else fun _ => .bad
omit [Tbs] in
def mLc2 (mi : Rho → M (List PyData)) (tm : Val → Rho → M Rho) (mt : Rho → M Bool) (mi1 : Rho → M (List PyData)) (tm1 : Val → Rho → M Rho) (mt1 : Rho → M Bool) (me : Rho → M Val) (vs vs1 : List Nat) : Rho → M Val := fun ρ => bnd (mLcP2 mi tm mt mi1 tm1 mt1 me vs vs1 ρ) fun r => ret (.d (.list r))
section
variable {X : Cx} {E : XK} {elt tg iter tg1 iter1 : Expr} {ifs ifs1 : List Expr} {scope : Scope} {own : List (Str × Nat)} {vs1 : List Nat} {pos : Pos} {wi wi1 : TI} {g g1 : TG} {tt tt1 : TT} {te : TE} {mi mi1 : Rho → M (List PyData)} {tm tm1 : Val → Rho → M Rho} {mt mt1 : Rho → M Bool} {me : Rho → M Val}
theorem lc2_rd (hi : DI X E tg iter wi mi) (hg : ∀ (mg : Str → Option Value) (E : XK) (v : V) (x : Val) (σ : L2.St) (ρ : Rho) (H : Hp) (c : Ctx) (w : Om) (Q : L2.St → Hp → Prop), VR X.K c v x → ER X.K c σ ρ → Hold X.K H c w → Post X.K mg E c (ER X.K) (tm x ρ w) Q → g v σ H Q)
    (gi : GIn g (own.map (·.2)))
    (ht : ∀ (σ : L2.St) (ρ : Rho) (H : Hp) (c : Ctx) (w : Om) (Q : Bool → Hp → Prop), ER X.K c σ ρ → Hold X.K H c w → Post X.K X.mg E0 c BB (mt ρ w) Q → tt σ H Q)
    (hi1 : ∀ (σ : L2.St) (ρ : Rho) (H : Hp) (c : Ctx) (w : Om) (R : It → Hp → Prop), ER X.K c σ ρ → Hold X.K H c w → Post X.K X.mg E0 c (fun c' (J : It) (ds : List PyData) => IterR X.K c' J ds) (mi1 ρ w) R → wi1 σ H R)
    (hg1 : ∀ (mg : Str → Option Value) (E : XK) (v : V) (x : Val) (σ : L2.St) (ρ : Rho) (H : Hp) (c : Ctx) (w : Om) (Q : L2.St → Hp → Prop), VR X.K c v x → ER X.K c σ ρ → Hold X.K H c w → Post X.K mg E c (ER X.K) (tm1 x ρ w) Q → g1 v σ H Q)
    (gi1 : GIn g1 vs1)
    (ht1 : ∀ (σ : L2.St) (ρ : Rho) (H : Hp) (c : Ctx) (w : Om) (Q : Bool → Hp → Prop), ER X.K c σ ρ → Hold X.K H c w → Post X.K X.mg E0 c BB (mt1 ρ w) Q → tt1 σ H Q)
    (he : ∀ (σ : L2.St) (ρ : Rho) (H : Hp) (c : Ctx) (w : Om) (Q : VK), ER X.K c σ ρ → Hold X.K H c w → Post X.K X.mg E0 c (VR X.K) (me ρ w) Q → te σ H Q)
    {α : Type} {k : List PyData → M α} {rel : Ctx → V → α → Prop}
    (fin : ∀ (D : Addr) (vs : List V) (r : List PyData) (H : Hp) (c : Ctx) (w : Om) (Q : VK), Hold X.K H { c with ex := (D, .lst vs) :: c.ex } w → DpAll X.K c.H0 vs r → Post X.K X.mg E c rel (k r w) Q → Q (.ref D) H) :
    ∀ (σ : L2.St) (ρ : Rho) (H : Hp) (c : Ctx) (w : Om) (Q : VK), ER X.K c σ ρ → Hold X.K H c w → Post X.K X.mg E c rel (bnd (mLcP2 mi tm mt mi1 tm1 mt1 me (own.map (·.2)) vs1 ρ) k w) Q → tLc2 wi g tt wi1 g1 tt1 te (own.map (·.2)) vs1 σ H Q := by
  intro σ ρ H c w Q er hd p
  unfold mLcP2 at p
  have p' : Post X.K X.mg E c rel ((mi ρ w).then fun ds => bnd (bnd (noX (lcL2 tm mt mi1 tm1 mt1 me vs1 (wipeR ρ (own.map (·.2))) ds)) fun r => if r.length ≤ 100000 then ret r else fun _ => .bad) k) Q := by
    unfold bnd at p ⊢
    cases q : mi ρ w <;> rw [q] at p <;> exact p
  refine hi.rd σ ρ H c w _ er hd (Post.bind p' fun J H1 c1 ds w1 gr1 hd1 it p1 => ?_)
  intro D nD
  have er1 := er.mono gr1
  cases ql : noX (lcL2 tm mt mi1 tm1 mt1 me vs1 (wipeR ρ (own.map (·.2))) ds) w1 with
  | bad => unfold bnd at p1; rw [ql] at p1; exact p1.elim
  | exn x w2 => exact absurd ql noX_exn
  | ok r w2 =>
    have ql2 := noX_ok ql
    unfold bnd at p1
    rw [ql] at p1
    simp only [R.then] at p1
    by_cases hl : r.length ≤ 100000
    · rw [if_pos hl] at p1
      have p2 : Post X.K X.mg E c1 rel (k r w2) Q := p1
      obtain ⟨G, Y, wk, hG, hY⟩ := it
      have hd1p := hd1.pinNew (o := .lst []) nD
      let Pv : Nat → Hp → Prop := fun i H => ∃ H0 al w' vs acc rest, Same c1.H0 H0 ∧ (∃ q, al = c1.al ++ q) ∧ Hold X.K H ⟨H0, al, (D, .lst vs) :: c1.ex⟩ w' ∧ DpAll X.K H0 vs acc ∧ acc ++ rest = r ∧ lcL2 tm mt mi1 tm1 mt1 me vs1 (wipeR ρ (own.map (·.2))) (ds.drop i) w' = .ok rest w2
      refine ⟨fun i m H => m = ds.length - i ∧ i ≤ ds.length ∧ Pv i H, ⟨ds.length, by simp, Nat.zero_le _, c1.H0, c1.al, w1, [], [], r, .refl _, ⟨[], by simp⟩, hd1p, .nil, rfl, ql2⟩, ?_⟩
      rintro i m H2 ⟨rfl, hi', H0, al, w', vs, acc, rest, sm, ⟨pq, pa⟩, hd', al', ea, el⟩
      have hGH := hG H2 ⟨H0, al, _⟩ w' sm hd'
      by_cases hlt : i < ds.length
      · refine .inr ⟨wk.goes i H2 hlt hGH, Pv (i + 1), fun H' p' => ⟨ds.length - (i + 1), by omega, rfl, hlt, p'⟩, fun x H3 y => ?_⟩
        have y := wk.yields i H2 x H3 hlt hGH y
        obtain ⟨c3, d, g3, hd3, ed, rd⟩ := hY i H2 ⟨H0, al, (D, .lst vs) :: c1.ex⟩ w' x H3 hlt sm hd' y
        obtain ⟨c3h, c3a, c3e⟩ := c3
        obtain rfl : c3e = (D, .lst vs) :: c1.ex := g3.e
        rw [show ds.drop i = d :: ds.drop (i + 1) by rw [List.drop_eq_getElem_cons hlt]; congr 1; exact Option.some.inj ((List.getElem?_eq_getElem hlt).symm.trans ed)] at el
        simp only [lcL2] at el
        obtain ⟨ρ4, w4, e4, el⟩ := bnd_ok el
        obtain ⟨kk, w5, e5, el⟩ := bnd_ok el
        have erw : ER X.K ⟨c3h, c3a, (D, .lst vs) :: c1.ex⟩ (L2.wipe σ (own.map (·.2))) (wipeR ρ (own.map (·.2))) := by
          have z : ER X.K c1 σ ρ := er1
          obtain ⟨q3, e3⟩ := g3.a
          have gg : Grow c1 ⟨c3h, c3a, c1.ex⟩ := ⟨sm.trans g3.h, ⟨pq ++ q3, by show c3a = _; rw [show c3a = al ++ q3 from e3, pa, List.append_assoc]⟩, rfl⟩
          exact (z.mono gg).ex.wipe _
        refine gin_w gi (hg X.mg E0 x (.d d) _ _ H3 _ w' _ rd erw hd3 (post_ok e4 fun σ4 H4 c4 g4 hd4 er4 => ?_))
        refine ht σ4 ρ4 H4 c4 w4 _ er4 hd4 (post_ok e5 fun b H5 c5 g5 hd5 eb => ?_)
        cases eb
        obtain ⟨c5h, c5a, c5e⟩ := c5
        obtain rfl : c5e = (D, .lst vs) :: c1.ex := (g4.trans g5).e
        have er5 := er4.mono g5
        have gall := (g3.trans g4).trans g5
        obtain ⟨q5, e5a⟩ := gall.a
        cases kk with
        | false =>
          rw [if_neg (by decide)] at el ⊢
          exact ⟨c5h, c5a, w5, vs, acc, rest, sm.trans gall.h, ⟨pq ++ q5, by rw [show c5a = al ++ q5 from e5a, pa, List.append_assoc]⟩, hd5, (Held.of gall.h).dpAll _ _ al', ea, el⟩
        | true =>
          rw [if_pos rfl] at el ⊢
          obtain ⟨es, w6, e6, el⟩ := bnd_ok el
          obtain ⟨r1, w7, e7, el⟩ := bnd_ok el
          obtain ⟨r2, w8, e8, el⟩ := bnd_ok el
          cases el
          refine hi1 σ4 ρ4 H5 _ w5 _ er5 hd5 (post_ok e6 fun J1 H6 c6 g6 hd6 it6 => ?_)
          obtain ⟨c6h, c6a, c6e⟩ := c6
          obtain rfl : c6e = (D, .lst vs) :: c1.ex := g6.e
          have gal6 := gall.trans g6
          obtain ⟨q6, e6a⟩ := gal6.a
          have er6 := er5.mono g6
          obtain ⟨G1, Y1, wk1, hG1, hY1⟩ := it6
          let Pv1 : Nat → Hp → Prop := fun j H => ∃ H0 al w' vs acc rest, Same c6h H0 ∧ (∃ q, al = c6a ++ q) ∧ Hold X.K H ⟨H0, al, (D, .lst vs) :: c1.ex⟩ w' ∧ DpAll X.K H0 vs acc ∧ acc ++ (rest ++ r2) = r ∧ lcL tm1 mt1 me (wipeR ρ4 vs1) (es.drop j) w' = .ok rest w7
          refine ⟨fun j m H => m = es.length - j ∧ j ≤ es.length ∧ Pv1 j H, ⟨es.length, by simp, Nat.zero_le _, c6h, c6a, w6, vs, acc, r1, .refl _, ⟨[], by simp⟩, hd6, (Held.of gal6.h).dpAll _ _ al', ea, e7⟩, ?_⟩
          rintro j m1 H7 ⟨rfl, hj', H0', al2, w9, vs', acc', rest', sm', ⟨pq', pa'⟩, hd9, al9, ea', el'⟩
          have hGH1 := hG1 H7 ⟨H0', al2, _⟩ w9 sm' hd9
          by_cases hlt1 : j < es.length
          · refine .inr ⟨wk1.goes j H7 hlt1 hGH1, Pv1 (j + 1), fun H' p' => ⟨es.length - (j + 1), by omega, rfl, hlt1, p'⟩, fun x1 H8 y1 => ?_⟩
            have y1 := wk1.yields j H7 x1 H8 hlt1 hGH1 y1
            obtain ⟨c10, d1, g10, hd10, ed1, rd1⟩ := hY1 j H7 ⟨H0', al2, (D, .lst vs') :: c1.ex⟩ w9 x1 H8 hlt1 sm' hd9 y1
            obtain ⟨c10h, c10a, c10e⟩ := c10
            obtain rfl : c10e = (D, .lst vs') :: c1.ex := g10.e
            rw [show es.drop j = d1 :: es.drop (j + 1) by rw [List.drop_eq_getElem_cons hlt1]; congr 1; exact Option.some.inj ((List.getElem?_eq_getElem hlt1).symm.trans ed1)] at el'
            simp only [lcL] at el'
            obtain ⟨ρ11, w11, e11, el'⟩ := bnd_ok el'
            obtain ⟨kk1, w12, e12, el'⟩ := bnd_ok el'
            have erw1 : ER X.K ⟨c10h, c10a, (D, .lst vs') :: c1.ex⟩ (L2.wipe σ4 vs1) (wipeR ρ4 vs1) := by
              obtain ⟨q10, e10⟩ := g10.a
              have gg : Grow ⟨c6h, c6a, c1.ex⟩ ⟨c10h, c10a, c1.ex⟩ := ⟨sm'.trans g10.h, ⟨pq' ++ q10, by show c10a = _; rw [show c10a = al2 ++ q10 from e10, pa', List.append_assoc]⟩, rfl⟩
              exact ((er6.ex (e2 := c1.ex)).mono gg).ex.wipe _
            refine gin_w gi1 (hg1 X.mg E0 x1 (.d d1) _ _ H8 _ w9 _ rd1 erw1 hd10 (post_ok e11 fun σ11 H11 c11 g11 hd11 er11 => ?_))
            refine ht1 σ11 ρ11 H11 c11 w11 _ er11 hd11 (post_ok e12 fun b1 H12 c12 g12 hd12 eb1 => ?_)
            cases eb1
            obtain ⟨c12h, c12a, c12e⟩ := c12
            obtain rfl : c12e = (D, .lst vs') :: c1.ex := (g11.trans g12).e
            have er12 := er11.mono g12
            have gal12 := (g10.trans g11).trans g12
            obtain ⟨q12, e12a⟩ := gal12.a
            cases kk1 with
            | false =>
              rw [if_neg (by decide)] at el' ⊢
              exact ⟨c12h, c12a, w12, vs', acc', rest', sm'.trans gal12.h, ⟨pq' ++ q12, by rw [show c12a = al2 ++ q12 from e12a, pa', List.append_assoc]⟩, hd12, (Held.of gal12.h).dpAll _ _ al9, ea', el'⟩
            | true =>
              rw [if_pos rfl] at el' ⊢
              obtain ⟨xv, w13, e13, el'⟩ := bnd_ok el'
              obtain ⟨a, w14, e14, el'⟩ := bnd_ok el'
              obtain ⟨r15, w15, e15, el'⟩ := bnd_ok el'
              cases el'
              refine he σ11 ρ11 H12 _ w12 _ er12 hd12 (post_ok e13 fun v H13 c13 g13 hd13 r13 => ?_)
              obtain ⟨c14, g14, hd14, r14⟩ := frz_ok hd13 r13 e14
              obtain ⟨c14h, c14a, c14e⟩ := c14
              obtain rfl : c14e = (D, .lst vs') :: c1.ex := (g13.trans g14).e
              have gal2 := (gal12.trans g13).trans g14
              obtain ⟨q14, e14a⟩ := gal2.a
              have al14 := (Held.of gal2.h).dpAll _ _ al9
              refine ⟨vs', (hd14.pin _ (List.mem_cons_self ..)).1, lineOk2 ?_, c14h, c14a, w14, vs' ++ [v], acc' ++ [a], r15, sm'.trans gal2.h, ⟨pq' ++ q14, by rw [show c14a = al2 ++ q14 from e14a, pa', List.append_assoc]⟩, hd14.rePin, al14.append (.cons r14 .nil), by rw [← ea']; simp, e15⟩
              rw [al9.length]
              rw [← ea', List.length_append, List.length_append, List.length_cons] at hl
              omega
          · have ej : j = es.length := by omega
            subst ej
            rw [List.drop_length] at el'
            cases el'
            rw [List.nil_append] at ea'
            refine .inl ⟨wk1.stops H7 hGH1, H0', al2, _, vs', acc', r2, (sm.trans gal6.h).trans sm', ⟨pq ++ (q6 ++ pq'), ?_⟩, hd9, al9, ea', e8⟩
            rw [pa', show c6a = al ++ q6 from e6a, pa]
            simp
      · have ei : i = ds.length := by omega
        subst ei
        rw [List.drop_length] at el
        cases el
        rw [List.append_nil] at ea
        subst ea
        have gg : Grow c1 ⟨H0, al, c1.ex⟩ := ⟨sm, ⟨pq, pa⟩, rfl⟩
        exact .inl ⟨wk.stops H2 hGH, fin D vs acc H2 ⟨H0, al, c1.ex⟩ w2 Q hd' al' (Post.mono gg p2)⟩
    · rw [if_neg hl] at p1; exact p1.elim
end
section
variable {X : Cx} {E : XK} {elt tg iter tg1 iter1 : Expr} {ifs ifs1 : List Expr} {scope : Scope} {own : List (Str × Nat)} {vs1 : List Nat} {pos : Pos} {wi : TI} {wi1 : BT TI} {g g1 : TG} {tt tt1 : BT TT} {te : BT TE} {mi mi1 : Rho → M (List PyData)} {tm tm1 : Val → Rho → M Rho} {mt mt1 : Rho → M Bool} {me : Rho → M Val}
theorem hi_all (hi : ∀ (s : Shared) (H : Hp) (C : Addr) (cl : List (Str × Addr)) (fp : List Addr), DI (X.blk s H scope (compEnvC scope cl C X.env) fp) E0 tg1 iter1 (wi1 s H C cl fp) mi1) :
    ∀ (s : Shared) (H : Hp) (C : Addr) (cl : List (Str × Addr)) (fp : List Addr), DI (X.blk s H scope (compEnvC scope cl C X.env) fp) E0 tg1 iter1 (iAll wi1) mi1 :=
  fun s H C cl fp => ⟨⟨fun pins s1 σ H' R I h => (hi s H C cl fp).pi.run pins s1 σ H' R I (h s H C cl fp)⟩, fun σ ρ H' c w R er hd p s' H2 C' cl' fp' => (hi s' H2 C' cl' fp').rd σ ρ H' c w R er hd p⟩
theorem de_lc2D (hc : X.calm = true) (hN : X.N.Nodup) (hi : DI X E tg iter wi mi) (ok : BlkOk X.N X.env.scope scope own) (hv : ∀ i ∈ vs1, i ∈ own.map (·.2))
    (hg : ∀ (s : Shared) (H : Hp) (C : Addr) (cl : List (Str × Addr)) (fp : List Addr), DG (X.blk s H scope (compEnvC scope cl C X.env) fp) tg g tm) (gi : GIn g (own.map (·.2)))
    (ht : ∀ (s : Shared) (H : Hp) (C : Addr) (cl : List (Str × Addr)) (fp : List Addr), DPT (X.blk s H scope (compEnvC scope cl C X.env) fp) E0 ifs (tt s H C cl fp) mt)
    (hi1 : ∀ (s : Shared) (H : Hp) (C : Addr) (cl : List (Str × Addr)) (fp : List Addr), DI (X.blk s H scope (compEnvC scope cl C X.env) fp) E0 tg1 iter1 (wi1 s H C cl fp) mi1)
    (hg1 : ∀ (s : Shared) (H : Hp) (C : Addr) (cl : List (Str × Addr)) (fp : List Addr), DG (X.blk s H scope (compEnvC scope cl C X.env) fp) tg1 g1 tm1) (gi1 : GIn g1 vs1)
    (ht1 : ∀ (s : Shared) (H : Hp) (C : Addr) (cl : List (Str × Addr)) (fp : List Addr), DPT (X.blk s H scope (compEnvC scope cl C X.env) fp) E0 ifs1 (tt1 s H C cl fp) mt1)
    (he : ∀ (s : Shared) (H : Hp) (C : Addr) (cl : List (Str × Addr)) (fp : List Addr), DE (X.blk s H scope (compEnvC scope cl C X.env) fp) E0 elt (te s H C cl fp) me) (hs : ∀ x, foldedSetIterable iter X.env x = pure x := by intro _; rfl) (hs1 : ∀ env x, foldedSetIterable iter1 env x = pure x := by intro _ _; rfl) :
    DE X E (.ListComp elt [⟨tg, iter, ifs, 0⟩, ⟨tg1, iter1, ifs1, 0⟩] scope pos) (tLc2 wi g (tAll tt) (iAll wi1) g1 (tAll tt1) (eAll te) (own.map (·.2)) vs1) (mLc2 mi tm mt mi1 tm1 mt1 me (own.map (·.2)) vs1) :=
  ⟨pe_lc2 hc hN hi.pi ok hv (fun s H C cl fp => (hg s H C cl fp).pg) (fun s H C cl fp => (ht_all ht s H C cl fp).pt) (fun s H C cl fp => (hi_all hi1 s H C cl fp).pi) (fun s H C cl fp => (hg1 s H C cl fp).pg) (fun s H C cl fp => (ht_all ht1 s H C cl fp).pt) (fun s H C cl fp => (he_all he s H C cl fp).pe) hs hs1,
    lc2_rd hi (hg {} (fun _ => none) 0 [] []).rd gi (ht_all ht {} (fun _ => none) 0 [] []).rd (hi_all hi1 {} (fun _ => none) 0 [] []).rd (hg1 {} (fun _ => none) 0 [] []).rd gi1 (ht_all ht1 {} (fun _ => none) 0 [] []).rd (he_all he {} (fun _ => none) 0 [] []).rd fun D vs r H c w Q hd al p => by
      obtain ⟨h1, h2, h3⟩ := hd.unPin al
      exact p (.ref D) H ⟨upd c.H0 D (.lst vs), c.al, c.ex⟩ ⟨h2, ⟨[], by simp⟩, rfl⟩ h1 h3⟩
end
end D

set_option maxRecDepth 100000
namespace D
open PySem L2 G PySem.Spec PyProof.Rows StX
variable [Tbs]
/-! ### math.lcm -/
omit [Tbs] in
def rLcm : List V → Hp → VK → Prop := fun vs H Q => ∃ a b : Int, vs = [.int a, .int b] ∧ a.natAbs < 2 ^ 64 ∧ b.natAbs < 2 ^ 64 ∧ Q (.int ((Nat.lcm a.natAbs b.natAbs : Nat) : Int)) H
omit [Tbs] in
theorem cr_lcm {X : Cx} : CallR X (.builtin "math.lcm") rLcm := by
  intro pins s σ H vs us Q I r h
  obtain ⟨a, b, rfl, ha, hb, q⟩ := h
  obtain ⟨t, u, rfl⟩ := Vals.int2 r
  exact PySem.W.mc_lcm ha hb fun _ => ⟨.int _, H, I.tok _, ⟨_, rfl⟩, q⟩
omit [Tbs] in
def gLcm : List PyData → Option PyData
  | [.int a, .int b] => if a.natAbs < 2 ^ 64 ∧ b.natAbs < 2 ^ 64 then some (.int ((Nat.lcm a.natAbs b.natAbs : Nat) : Int)) else none
  | _ => none
theorem rd_lcm {K : PySem.W.Frag} : CallRd K rLcm gLcm := by
  intro vs H c w as d Q hd hx eg k
  unfold gLcm at eg
  split at eg
  · obtain ⟨hl, rfl⟩ := ite_some eg
    cases hx with
    | cons h t =>
      cases t with
      | cons h2 t =>
        cases t
        cases h.int
        cases h2.int
        exact ⟨_, _, rfl, hl.1, hl.2, k _ _ _ (.refl _) hd (.int _)⟩
  · cases eg
/-! ### a def of which nothing is told -/
theorem dss_never {X : Cx} {E : XK} {ss : List Stmt} : DSs X E ss tNever (fun _ _ => .bad) := ⟨⟨fun _ _ _ _ _ _ h => h.elim⟩, fun _ _ _ _ _ _ _ _ p => p⟩
theorem fnd_bad {P : Program} {w : World} {K : PySem.W.Frag} {mg : Str → Option Value} {base : Heap} {x : Str} {st : Stmt} {ps N : List Str} {own : Bool} (i : Is K mg x st) (S : FnScope N ps (defScope st))
    (args : ∀ (kV doc pm : Value) (an : Option Addr) (cdv ct : Value) (us : List Value), us.length = ps.length → bindArgs (PySem.W.fnOf x x (defArgs st) (defBody st) (defScope st) .none kV doc pm an cdv ct) ⟨us, []⟩ = pure (ps.zip us)) :
    FnD P w K mg base 1 x st ps (mBody own N (fun _ _ => .bad)) :=
  fnd_of i S args fun f cdv A outer s H E gd hr => ⟨_, dss_never⟩
/-! ### primes, quickly -/
omit [Tbs] in
def primeQ : Int → Bool
  | .ofNat n => decide (2 ≤ n) && (decide (n < 10000) && cleanN n)
  | .negSucc _ => false
omit [Tbs] in
theorem primeQ_eq (z : Int) : primeQ z = primeI z := by
  cases z with
  | ofNat n =>
    show (decide (2 ≤ n) && (decide (n < 10000) && cleanN n)) = (decide (0 ≤ (n : Int)) && decide ((n : Int) < 10000) && !decide ((n : Int) < 2) && clean (n : Int))
    by_cases h2 : 2 ≤ n
    · by_cases h : n < 10000
      · rw [cleans h h2, decide_eq_true h2, decide_eq_true h, decide_eq_true (show 0 ≤ (n : Int) by omega), decide_eq_true (show (n : Int) < 10000 by omega), decide_eq_false (show ¬ (n : Int) < 2 by omega)]
        simp
      · rw [decide_eq_true h2, decide_eq_false h, decide_eq_true (show 0 ≤ (n : Int) by omega), decide_eq_false (show ¬ (n : Int) < 10000 by omega)]
        simp
    · rw [decide_eq_false h2, decide_eq_true (show (n : Int) < 2 by omega)]
      simp
  | negSucc n =>
    show false = (decide (0 ≤ Int.negSucc n) && decide (Int.negSucc n < 10000) && !decide (Int.negSucc n < 2) && clean (Int.negSucc n))
    rw [decide_eq_false (show ¬ 0 ≤ Int.negSucc n by omega)]
    simp
/-! ### (*xs, y) -/
omit [Tbs] in
def mStarC (m : Rho → M Val) (ms : Rho → M (List Val)) : Rho → M (List Val) := fun ρ => bnd (m ρ) fun x => fun w => match look w x with
  | some (.list ds) => bnd (ms ρ) (fun xs => ret (ds.map .d ++ xs)) w
  | some (.tuple ds) => bnd (ms ρ) (fun xs => ret (ds.map .d ++ xs)) w
  | _ => .bad
omit [Tbs] in
theorem VRs.append {K : PySem.W.Frag} {c : Ctx} : ∀ {a : List V} {x : List Val} {b : List V} {y : List Val}, VRs K c a x → VRs K c b y → VRs K c (a ++ b) (x ++ y)
  | _, _, _, _, .nil, q => q
  | _, _, _, _, .cons h t, q => .cons h (VRs.append t q)
section
variable {X : Cx} {E : XK} {e : Expr} {es : List Expr} {te : TE} {t : TA} {m : Rho → M Val} {ms : Rho → M (List Val)} {p : Pos}
theorem da_star (he : DE X E e te m) (hr : DA X E es t ms) (hs : starEach (.Starred e p :: es) X.env = (true, eval e X.env) :: starEach es X.env := by rfl) : DA X E (.Starred e p :: es) (tStar X.K te t) (mStarC m ms) :=
  ⟨pa_star he.pe hr.pa hs, fun σ ρ H c w Q er hd pp => he.rd σ ρ H c w _ er hd (Post.bind pp fun v H1 c1 x w1 g1 hd1 r1 p1 => by
    cases q : look w1 x with
    | none => simp only [q] at p1; exact p1.elim
    | some d =>
      have hq := hd1.dq r1 q
      cases d with
      | list ds =>
        simp only [q] at p1
        obtain ⟨a, vs, rfl, h1, al⟩ := hq.list hd1.sub
        refine ⟨a, vs, rfl, .inr h1, hr.rd σ ρ H1 c1 w1 _ (er.mono g1) hd1 (Post.bind p1 fun ys H2 c2 xs w2 g2 hd2 r2 p2 => ?_)⟩
        exact p2 _ H2 c2 (.refl _) hd2 (VRs.append (VRs.mono g2 (by obtain ⟨h0, al0, ex0⟩ := c1; exact vrs_d al)) r2)
      | tuple ds =>
        simp only [q] at p1
        obtain ⟨a, vs, rfl, h1, al⟩ := hq.tuple hd1.sub
        refine ⟨a, vs, rfl, .inl h1, hr.rd σ ρ H1 c1 w1 _ (er.mono g1) hd1 (Post.bind p1 fun ys H2 c2 xs w2 g2 hd2 r2 p2 => ?_)⟩
        exact p2 _ H2 c2 (.refl _) hd2 (VRs.append (VRs.mono g2 (by obtain ⟨h0, al0, ex0⟩ := c1; exact vrs_d al)) r2)
      | _ => simp only [q] at p1; exact p1.elim)⟩
end
end D

set_option maxRecDepth 100000
namespace D
open PySem L2 G PySem.Spec PyProof.Rows
/-! ### told by the kernel: a closed call's answer -/
def isB (r : R Val) (b : Bool) : Bool := match r with
  | .ok (.d (.bool c)) [] => c == b
  | _ => false
theorem isB_ok {r : R Val} {b : Bool} (h : isB r b = true) : r = .ok (.d (.bool b)) [] := by
  unfold isB at h
  split at h
  · rw [beq_iff_eq] at h
    rw [h]
  · cases h
def listR : R Val → Option (List PyData)
  | .ok (.d (.list xs)) _ => some xs
  | _ => none
theorem only_list {F : List Val → D.M Val} {w : Om} {xs : List PyData} (h : listR (F [] []) = some xs) : onlyD F [] w = .ok (.d (.list xs)) w := by
  unfold onlyD
  rw [List.map_nil]
  unfold listR at h
  split at h
  · rename_i e
    cases h
    rw [e]
  · cases h
theorem ne_same (s : Str) : gNeB (.str s) (.str s) = some (.bool false) := by
  show some (PyData.bool (!decide (s = s))) = _
  rw [decide_eq_true rfl]
  rfl
theorem repr_sz {d : PyData} (h : szB 60 20000 d = true) : gRepr [d] = some (.str d.shown) := by
  show (if szB 60 20000 d = true then some (PyData.str d.shown) else none) = _
  rw [if_pos h]
section
variable {tm : Val → Rho → D.M Rho} {b : B} {ρ : Rho} {w : Om} {P : Fl → Prop} {mi : Rho → D.M (List PyData)} {ds : List PyData} {f' : B}
/-- a loop's inner body that is itself a loop -/
theorem fl_forB (I : Nat → Rho → Om → Prop) (hi : mi ρ w = .ok ds w) (h : ∀ i d, ds[i]? = some d → ∀ ρ w, I i ρ w → ∃ ρ1 ρ' w', tm (.d d) ρ w = .ok ρ1 w ∧ b ρ1 w = .nx ρ' w' ∧ I (i + 1) ρ' w') (h0 : I 0 ρ w) :
    ∃ ρ' w', fFor mi tm b ρ w = .nx ρ' w' ∧ I ds.length ρ' w' := by
  obtain ⟨ρ', w', e, h'⟩ := forL_from (tm := tm) (b := b) I ds 0 ρ w (fun i d e ρ w hi => by rw [Nat.zero_add] at *; exact h i d e ρ w hi) h0
  rw [Nat.zero_add] at h'
  refine ⟨ρ', w', ?_, h'⟩
  unfold fFor
  rw [hi]
  exact e
theorem ev_seqL {m : Rho → D.M Val} {xs : List PyData} (h : m ρ w = .ok (.d (.list xs)) w) : mSeq m ρ w = .ok xs w := by
  unfold mSeq bnd
  rw [h]
  rfl
end
end D
namespace D
open PySem L2 G PySem.Spec PyProof.Rows
/-! ### repr of lists of truths -/
theorem szB_iff {k m : Nat} {d : PyData} (h : Sz k m d) : szB k m d = true := by
  unfold szB
  rw [h.lay, h.sh, h.sl, decide_eq_true h.dep, decide_eq_true h.wt]
  rfl
theorem sz_bools {bs : List Bool} (h : bs.length ≤ 100) : Sz 1 200 (.list (bs.map .bool)) :=
  (Sz.list (k := 0) (m := 1) (n := 100) (M := 200) (fun d hd => by
    obtain ⟨b, _, rfl⟩ := List.mem_map.mp hd
    exact Sz.bool b) (by rw [List.length_map]; exact h) (by decide))
theorem bools_eq : ∀ {xs : List PyData} {bs : List Bool}, boolsOf xs = some bs → xs = bs.map .bool
  | [], _, e => by cases e; rfl
  | d :: xs, bs, e => by
    cases d with
    | bool b =>
      simp only [boolsOf] at e
      cases q : boolsOf xs with
      | none => rw [q] at e; cases e
      | some r => rw [q] at e; cases e; rw [bools_eq q]; rfl
    | _ => cases e
def boolsR (r : R Val) : Option (List Bool) := match r with
  | .ok (.d (.list xs)) [] => boolsOf xs
  | _ => none
theorem boolsR_ok {r : R Val} {bs : List Bool} (h : boolsR r = some bs) : r = .ok (.d (.list (bs.map .bool))) [] := by
  unfold boolsR at h
  split at h
  · rw [bools_eq h]
  · cases h
end D

set_option maxRecDepth 100000
namespace D
open PySem L2 G PySem.Spec PyProof.Rows
variable [Tbs]
/-! ### defs that may raise, free of guards -/
def spX (K : PySem.W.Frag) (mg : Str → Option Value) (n : Nat) (F : List Val → M Val) : Sp := fun vs H Q E => vs.length = n ∧ ∃ c w xs, Hold K H c w ∧ VRs K c vs xs ∧ Post K mg E c (VR K) (F xs w) Q
structure FnX (P : Program) (w : World) (K : PySem.W.Frag) (mg : Str → Option Value) (base : Heap) (k : Nat) (x : Str) (st : Stmt) (ps : List Str) (F : List Val → M Val) : Prop where
  ex : ∃ f fd, FnOk P w K mg base (L2.CX P w) k f fd ps (spX K mg ps.length F) ∧ Fun K x x st f fd ∧ mg x = some (.ref f) ∧ Binds K fd ps []
omit [Tbs] in
theorem passE0 {X : Cx} : Passes (L2.CX X.prog X.w) X E0 := fun _ _ _ _ _ _ _ ⟨_, _, _, _, _, _, _, _, _, _, _, _, h⟩ => h.elim
section
variable {P : Program} {w : World} {K : PySem.W.Frag} {mg : Str → Option Value} {base : Heap} {k : Nat} {x : Str} {st : Stmt} {ps N : List Str}
theorem fnx_of {b : B} {own : Bool} (i : Is K mg x st) (S : FnScope N ps (defScope st))
    (args : ∀ (kV doc pm : Value) (an : Option Addr) (cdv ct : Value) (us : List Value), us.length = ps.length → bindArgs (PySem.W.fnOf x x (defArgs st) (defBody st) (defScope st) .none kV doc pm an cdv ct) ⟨us, []⟩ = pure (ps.zip us))
    (bd : ∀ (f : Addr) (cdv : Value) (A : Around) (outer : List Env) (s : Shared) (H : Hp) (E : XK), Room k (A.deeper (envOfC x (defScope st) s.heap.objs.size f cdv)) →
      ∃ t, DSs (cxOf (L2.CX P w) P w K mg base N x (defScope st) f cdv A outer s H E) E (defBody st) t b) : FnX P w K mg base (k + 1) x st ps (mBody own N b) := by
  obtain ⟨f, fd, F, m⟩ := i
  refine ⟨f, fd, F.okX S (fun vs H Q E h => h.1) (fun cdv A outer s H vs Q E hr h => ?_), F, m, F.binds args⟩
  obtain ⟨t, ht⟩ := bd f cdv A outer s H E hr
  obtain ⟨hl, c, w', xs, hd, r, p⟩ := h
  exact ⟨t, ht.ps, ht.rd _ _ _ c w' _ (start_er N r) hd (fin_post hd p)⟩
theorem FnX.imp {F F' : List Val → M Val} (c : FnX P w K mg base k x st ps F) (h : ∀ xs, xs.length = ps.length → F xs = F' xs) : FnX P w K mg base k x st ps F' := by
  obtain ⟨f, fd, Z, Fu, m, b⟩ := c.ex
  refine ⟨f, fd, Z.imp fun vs H Q E hsp => ?_, Fu, m, b⟩
  obtain ⟨hl, c, w', xs, hd, rr, p⟩ := hsp
  exact ⟨hl, c, w', xs, hd, rr, by rw [h xs (by rw [← rr.length]; exact hl)]; exact p⟩
end
omit [Tbs] in
/-- a call that gets data alone -/
def onlyX (F : List Val → M Val) (ds : List PyData) : M Val := fun w => match F (ds.map .d) [] with
  | .ok (.d v) _ => .ok (.d v) w
  | .exn x _ => .exn x w
  | _ => .bad
omit [Tbs] in
def mFnX (n : Nat) (F : List Val → M Val) (ms : Rho → M (List Val)) : Rho → M Val := fun ρ => bnd (ms ρ) fun xs => bnd (frzs xs) fun ds => if ds.length = n then onlyX F ds else fun _ => .bad
omit [Tbs] in
def mFnXK (n a b : Nat) (perm : List Nat) (F : List Val → M Val) (ms mk : Rho → M (List Val)) : Rho → M Val := fun ρ => bnd (ms ρ) fun xs => bnd (mk ρ) fun ys => bnd (frzs (pickK a b perm xs ys)) fun ds => if ds.length = n then onlyX F ds else fun _ => .bad
section
variable {K : PySem.W.Frag} {mg : Str → Option Value} {H : Hp} {c : Ctx} {w : Om} {E : XK}
theorem only_endX {F : List Val → M Val} {vs : List V} {ds : List PyData} {n : Nat} {Q : VK} (hd : Hold K H c w) (al : DpAll K c.H0 vs ds) (hn : ds.length = n) (p : Post K mg E c (VR K) (onlyX F ds w) Q) : spX K mg n F vs H Q E := by
  refine ⟨by rw [al.length]; exact hn, ⟨c.H0, [], pinsOf H c.al w ++ c.ex⟩, [], ds.map .d, hd.alone, vrs_d al, ?_⟩
  unfold onlyX at p
  cases q : F (ds.map .d) [] with
  | bad => rw [q] at p; exact p.elim
  | exn x w1 =>
    rw [q] at p
    intro cls d H' c' g hd' er
    obtain ⟨g2, hd2⟩ := hd.rejoin g hd'
    exact p cls d H' _ g2 hd2 er
  | ok v w1 =>
    rw [q] at p
    cases v with
    | o m => exact p.elim
    | d x =>
      intro u H' c' g hd' r
      obtain ⟨g2, hd2⟩ := hd.rejoin g hd'
      exact p u H' _ g2 hd2 r
end
section
variable {X : Cx} {E : XK} {k j : Nat} {x : Str} {st : Stmt} {ps ks : List Str} {F : List Val → M Val} {e : Expr} {es : List Expr} {kws : List Keyword} {t tk : TA} {ms mk : Rho → M (List Val)} {p pos : Pos} {a b : Nat} {perm : List Nat}
theorem de_fnX (Fd : FnX X.prog X.w X.K X.mg X.base k x st ps F) (hx : Passes (L2.CX X.prog X.w) X E) (hr : Room j X.A) (hk : k ≤ j) (hg : Gl X x) (ha : DA X E (e :: es) t ms) (hdb : (x == ("__debug__" : Str)) = false := by decide)
    (he : starEach (e :: es) X.env = (false, eval e X.env) :: starEach es X.env := by rfl) (hpl : (backTo pos (starEach es X.env)).any (·.1) = false := by rfl) :
    DE X E (.Call (.Name x p) (e :: es) [] pos) (fun σ H Q => t σ H fun vs H1 => spX X.K X.mg ps.length F vs H1 Q E) (mFnX ps.length F ms) := by
  refine ⟨?_, fun σ ρ H c w Q er hd p => ha.rd σ ρ H c w _ er hd (Post.bind p fun vs H1 c1 xs w1 g1 hd1 r1 p1 => ?_)⟩
  · obtain ⟨f, fd, Z, Fu, m, b⟩ := Fd.ex
    refine pe_weak (pe_call Z (hr.mono hk) hg m Fu.kp b .nil hx ha.pa hdb he hpl) fun σ H Q q => ?_
    show t σ H fun vs H1 => spX X.K X.mg ps.length F (vs ++ []) H1 Q E
    simpa only [List.append_nil] using q
  · obtain ⟨c2, w2, ds, g2, hd2, al, p2⟩ := post_frzs hd1 r1 p1
    obtain ⟨hl, p3⟩ := post_ite p2
    exact only_endX hd2 al hl p3
theorem de_fnXK0 {kw : Keyword} (Fd : FnX X.prog X.w X.K X.mg X.base k x st ps F) (hx : Passes (L2.CX X.prog X.w) X E) (hr : Room j X.A) (hk : k ≤ j) (hg : Gl X x)
    (hb : ∀ (kV doc pm : Value) (an : Option Addr) (cdv ct : Value) (us ws : List Value), us.length = 0 → ws.length = b → bindArgs (PySem.W.fnOf x x (defArgs st) (defBody st) (defScope st) .none kV doc pm an cdv ct) ⟨us, ks.zip ws⟩ = pure (ps.zip (perm.filterMap fun i => (us ++ ws)[i]?)))
    (hp : 0 < ps.length) (hkw : DK X E (kw :: kws) tk mk) (hall : (backToKw pos (keywordEach (kw :: kws) X.env)).all (·.1.isSome) = true := by rfl) (hks : (backToKw pos (keywordEach (kw :: kws) X.env)).filterMap (·.1) = ks := by rfl)
    (hdb : (x == ("__debug__" : Str)) = false := by decide)
    (hpl : ((backTo pos (starEach [] X.env)).any (·.1) || (backToKw pos (keywordEach (kw :: kws) X.env)).any (·.1.isNone)) = false := by rfl) :
    DE X E (.Call (.Name x p) [] (kw :: kws) pos) (fun σ H Q => tk σ H fun zs H2 => spX X.K X.mg ps.length F (pickK 0 b perm [] zs) H2 Q E) (mFnXK ps.length 0 b perm F mNil mk) := by
  refine ⟨?_, fun σ ρ H c w Q er hd p => ?_⟩
  · obtain ⟨f, fd, Z, Fu, m, _⟩ := Fd.ex
    have kb := kb_of Fu hb hp
    refine ⟨fun pins s σ H Q I h => wpAny_Call_Name_kw (ld_glob I hg m (PySem.W.callWith_KW0 (h₀ := X.base) I.ok.mod.kin Fu.kp hall (thn (hkw.pk.run pos pins s σ H _ I h) fun ws s2 ⟨zs, H2, I2, rz, q2⟩ => ⟨I2.kIn, ?_⟩) hpl) hdb)⟩
    subst hks
    exact run_fnk (us := []) (vs := []) Z (hr.mono hk) kb hx I2 .nil rz q2
  · exact hkw.rd σ ρ H c w _ er hd (Post.bind (r := mk ρ w) (k := fun ys => bnd (frzs (pickK 0 b perm [] ys)) fun ds => if ds.length = ps.length then onlyX F ds else fun _ => .bad) p fun zs H1 c1 ys w1 g1 hd1 r1 p1 => by
      obtain ⟨c2, w2, ds, g2, hd2, al, p2⟩ := post_frzs hd1 (pickK_vrs (a := 0) (b := b) (perm := perm) .nil r1) p1
      obtain ⟨hl, p3⟩ := post_ite p2
      exact only_endX hd2 al hl p3)
/-- code that is never come to, by any def -/
theorem fnx_bad {P : Program} {w : World} {K : PySem.W.Frag} {mg : Str → Option Value} {base : Heap} {N : List Str} {own : Bool} (i : Is K mg x st) (S : FnScope N ps (defScope st))
    (args : ∀ (kV doc pm : Value) (an : Option Addr) (cdv ct : Value) (us : List Value), us.length = ps.length → bindArgs (PySem.W.fnOf x x (defArgs st) (defBody st) (defScope st) .none kV doc pm an cdv ct) ⟨us, []⟩ = pure (ps.zip us)) :
    FnX P w K mg base 1 x st ps (mBody own N (fun _ _ => .bad)) :=
  fnx_of i S args fun f cdv A outer s H E hr => ⟨_, dss_never⟩
end
end D

set_option maxRecDepth 100000
namespace D
open PySem L2 G PySem.Spec PyProof.Rows
variable [Tbs]
/-- a heap that has more -/
theorem Hold.same {K : PySem.W.Frag} {H H' : Hp} {c : Ctx} {w : Om} (hd : Hold K H c w) (s : Same H H') : Hold K H' c w := by
  refine ⟨hd.sub.trans s, hd.nd, hd.len, fun n a ob ea eo => ?_, fun q hq => ?_, hd.pnd, tabs_same hd.tab s, hd.nt, hd.pl⟩
  · have z := hd.obs n a ob ea eo
    cases ob with
    | lst xs => obtain ⟨h1, vs, h2, h3⟩ := z; exact ⟨h1, vs, s _ _ h2, h3⟩
    | frz xs => exact z
    | fdc xs => exact z
    | dct kvs => obtain ⟨h1, vs, h2, h3⟩ := z; exact ⟨h1, vs, s _ _ h2, h3⟩
  · obtain ⟨h1, h2, h3⟩ := hd.pin q hq
    exact ⟨s _ _ h1, h2, h3⟩
/-- a heap whose tables have more -/
theorem Hold.extN {K : PySem.W.Frag} {H H' : Hp} {c : Ctx} {w : Om} (hd : Hold K H c w) (s : LamX.ExtN H H') (t : LamX.Tabs Tbs.T H') : Hold K H' c w := by
  have sub : Same c.H0 H' := fun b o e => s b o (hd.sub b o e) fun ps z => hd.nt.1 b ps (by rw [← z]; exact e)
  refine ⟨sub, hd.nd, hd.len, fun n a ob ea eo => ?_, fun q hq => ?_, hd.pnd, t, hd.nt, hd.pl⟩
  · have z := hd.obs n a ob ea eo
    cases ob with
    | lst xs => obtain ⟨h1, vs, h2, h3⟩ := z; exact ⟨h1, vs, s _ _ h2 (fun ps z => by cases z), h3⟩
    | frz xs => exact z
    | fdc xs => exact z
    | dct kvs => obtain ⟨h1, vs, h2, h3⟩ := z; exact ⟨h1, vs, s _ _ h2 (fun ps z => by cases z), h3⟩
  · obtain ⟨h1, h2, h3⟩ := hd.pin q hq
    exact ⟨s _ _ h1 (hd.nt.2 q hq).nt, h2, h3⟩
/-! ### raise C(a, b), C a class of two fields -/
omit [Tbs] in
/-- what the text says of such a class -/
structure ErrI (P : Program) (w : World) (K : PySem.W.Frag) (mg : Str → Option Value) (base : Heap) (x fa fb : Str) (C : Addr) : Prop where
  mgC : mg x = some (.ref C)
  oex : OexC K C
  init : ∃ fI fd, PySem.W.findIn K (.ref C) "__init__" = some (some (.ref fI)) ∧ PySem.W.typeIn K (.ref fI) = some (.type "function") ∧ FnOk P w K mg base CX0 1 fI fd ["self", fa, fb] (spInit2 C fa fb) ∧ Binds K fd ["self", fa, fb] []
omit [Tbs] in
def fRaise (x fa fb : Str) (ms : Rho → M (List Val)) : B := fun ρ w => ((bnd (ms ρ) fun xs => frzs xs) w).thenF fun ds w => match ds with
  | [a, b] => .exn ⟨x, [(fb, b), (fa, a)]⟩ w
  | _ => .bad
section
variable {X : Cx} {E : XK} {x fa fb : Str} {C : Addr} {e : Expr} {es : List Expr} {t : TA} {ms : Rho → M (List Val)} {p pos rpos : Pos}
theorem ds_raise (er0 : ErrI X.prog X.w X.K X.mg X.base x fa fb C) (hc : X.calm = true) (tk : Takes X (fun cls d _ H => E cls d H)) (hr : Room 2 X.A) (hg : Gl X x) (ha : DA X E (e :: es) t ms) (hdb : (x == ("__debug__" : Str)) = false := by decide)
    (he : starEach (e :: es) X.env = (false, eval e X.env) :: starEach es X.env := by rfl) (hpl : (backTo pos (starEach es X.env)).any (·.1) = false := by rfl) :
    DS X E (.Raise (some (.Call (.Name x p) (e :: es) [] pos)) none rpos) (fun _ σ H => tMkO C (spInit2 C fa fb) [] t σ H fun cls d H' => E cls d H') (fRaise x fa fb ms) := by
  obtain ⟨fI, fd, h1, h2, FI, bI⟩ := er0.init
  refine ⟨ps_raise hc tk (pmk_oex er0.oex h1 h2 FI hr bI .nil pass0 hg er0.mgC ha.pa hdb he hpl), fun σ ρ H c w D er hd p => ?_⟩
  unfold fRaise at p
  refine ha.rd σ ρ H c w _ er hd ?_
  unfold bnd at p
  cases q : ms ρ w with
  | bad => rw [q] at p; exact p.elim
  | exn y w1 => rw [q] at p; exact p
  | ok xs w1 =>
    rw [q] at p
    intro vs H1 c1 g1 hd1 r1
    have p1 := FPost.mono g1 p
    simp only [R.then] at p1
    cases q2 : frzs xs w1 with
    | bad => rw [q2] at p1; exact p1.elim
    | exn y w2 => exact absurd q2 frzs_noexn
    | ok ds w2 =>
      rw [q2] at p1
      obtain ⟨c2, g2, hd2, al⟩ := frzs_ok hd1 r1 q2
      have p2 := FPost.mono g2 p1
      simp only [R.thenF] at p2
      match ds, al, p2 with
      | [da, db], .cons (v := va) a1 (.cons (v := vb) a2 .nil), p2 =>
        refine ⟨by show 2 ≤ 1000; decide, fun a na => ⟨a, va, vb, rfl, upd_same, fun dd hdd ne => ⟨rfl, dd, _, ?_, upd_same, ?_, ?_⟩⟩⟩
        · rw [upd_ne ne.symm, upd_same]
        · rw [upd_ne ne] at hdd
          exact hdd
        · rw [upd_ne ne] at hdd
          have sm : Same H1 (upd (del (upd (upd (upd (upd H1 a (exo a C none)) dd (exd dd [(fa, va)])) a (exo a C (some dd))) dd (exd dd [(fb, vb), (fa, va)])) a) dd (.xd [(fb, vb), (fa, va)])) := fun b o hb1 => by
            have na' := ne_of_none hb1 na
            have nd' := ne_of_none hb1 hdd
            rw [upd_ne nd', del_ne na', upd_ne nd', upd_ne na', upd_ne nd', upd_ne na']
            exact hb1
          exact p2 _ _ _ c2 (.refl _) (hd2.same sm) ⟨C, dd, _, rfl, er0.mgC, rfl, upd_same, .cons ⟨rfl, a2⟩ (.cons ⟨rfl, a1⟩ .nil)⟩
      | [], _, p2 => exact p2.elim
      | [_], _, p2 => exact p2.elim
      | _ :: _ :: _ :: _, _, p2 => exact p2.elim
end
end D

set_option maxRecDepth 100000
namespace D
open PySem L2 G PySem.Spec PyProof.Rows LamX
variable [Tbs]
/-! ### heard(lambda: ..) -/
/-- what heard makes of what is asked: what is returned, told; of an error what hc says -/
def TTd (K : PySem.W.Frag) (mg : Str → Option Value) (hc : Exn → Option PyData) : (XK → Hp → VK → Prop) → Hp → VK → Prop := fun tl H Q =>
  tl (fun cls d H' => ∃ (x : Exn) (c : Ctx) (w : Om) (a : PyData), Hold K H' c w ∧ ExR K mg c x cls d H' ∧ hc x = some a ∧ ∀ v H2 c2, Grow c c2 → Hold K H2 c2 w → Dp K c2.H0 v a → Q v H2) H
    (fun v H' => ∃ (c : Ctx) (w : Om) (a : PyData), Hold K H' c w ∧ Dp K c.H0 v a ∧ ∀ v2 H2 c2, Grow c c2 → Hold K H2 c2 w → Dp K c2.H0 v2 (.tuple [.str "told", a]) → Q v2 H2)
omit [Tbs] in
def mHeard (hc : Exn → Option PyData) (m : Rho → M Val) : Rho → M Val := fun ρ w => match m ρ w with
  | .bad => .bad
  | .exn x w1 => match hc x with
    | some a => .ok (.d a) w1
    | none => .bad
  | .ok v w1 => match frz v w1 with
    | .ok a w2 => .ok (.d (.tuple [.str "told", a])) w2
    | _ => .bad
section
variable {X : Cx}
theorem de_heard {x a : Str} {st : Stmt} {c P : Addr} {k : Nat} {Ng : List Str} {params : Arguments} {body : Expr} {scope : Scope} {t : XK → TE} {m : Rho → M Val} {hc : Exn → Option PyData} {p lpos pos : Pos}
    (hg : Gl X x) (i : Is X.K X.mg x st) (one : ∀ (kV doc pm : Value) (an : Option Addr) (cdv ct : Value) (us : List Value), us.length = [a].length → bindArgs (PySem.W.fnOf x x (defArgs st) (defBody st) (defScope st) .none kV doc pm an cdv ct) ⟨us, []⟩ = pure ([a].zip us))
    (Sg : FnScope Ng [a] (defScope st)) (hN : Ng[0]? = some a) (hv : Vis (defScope st) a) (gv : ∀ (g : Addr) (cdv : Value), GivesTo X Ng x (defScope st) g cdv (defBody st) a (X.env.qual ++ "<lambda>") (TTd X.K X.mg hc))
    (TB : TabB X.base X.mg c P) (code : X.env.code = .ref c) (inT : (P, X.env.qual ++ "<lambda>") ∈ Tbs.T) (un : ∀ p ∈ Tbs.T, p.1 = P → p.2 = X.env.qual ++ "<lambda>") (hr : Room (k + 2) X.A) (L : LamS X.env.scope scope) (df : defaultsOf params X.env = ([], []))
    (bnd : ∀ (q : Str) (cl : List (Str × Addr)) (pm cv ctv : Value), bindArgs (PySem.W.kla_fn "<lambda>" q params body scope cl pm cv ctv) ⟨[], []⟩ = pure [])
    (he : ∀ (A : Around) (outer : List Env) (s : Shared) (H : Hp) (E : XK) (f c' : Addr), Room k (A.deeper (lamEnv X scope s.heap.objs.size f c')) → DE (lamCx X A outer s H E scope f c') E body (t E) m)
    (hdb : (x == ("__debug__" : Str)) = false := by decide) (hd : (a == ("__debug__" : Str)) = false := by decide) (hcd : (a == ("__classdict__" : Str)) = false := by decide) :
    DE X E0 (.Call (.Name x p) [.Lambda params body scope lpos] [] pos) (tLam Tbs.T (TTd X.K X.mg hc) t) (mHeard hc m) := by
  refine ⟨pe_lamF hg i one Sg hN hv gv TB code inT un hr L df bnd (fun A outer s H E f c' hr2 => (he A outer s H E f c' hr2).pe) hdb hd hcd, fun σ ρ H c0 w Q er hd0 p => ?_⟩
  refine ⟨hd0.tab, fun H1 e1 t1 => ?_⟩
  have hd1 := hd0.extN e1 t1
  have hr2 : Room k (X.A.deeper (lamEnv X scope ({} : Shared).heap.objs.size 0 0)) := (hr.mono (by omega) : Room (k + 1) X.A).deeper _
  refine (he X.A [] {} (fun _ => none) _ 0 0 hr2).rd σ ρ H1 c0 w _ er hd1 ?_
  unfold mHeard at p
  cases q : m ρ w with
  | bad => rw [q] at p; exact p.elim
  | exn y w1 =>
    rw [q] at p
    dsimp only at p
    cases q2 : hc y with
    | none => rw [q2] at p; exact p.elim
    | some dd =>
      rw [q2] at p
      exact fun cls d H' c' g hd' er' => ⟨y, c', w1, dd, hd', er', q2, fun v H2 c2 g2 hd2 dp => p v H2 c2 (g.trans g2) hd2 dp⟩
  | ok v w1 =>
    rw [q] at p
    dsimp only at p
    cases q2 : frz v w1 with
    | bad => rw [q2] at p; exact p.elim
    | exn y w2 => exact absurd q2 frz_noexn
    | ok dd w2 =>
      rw [q2] at p
      intro u H' c' g hd' r
      obtain ⟨c3, g3, hd3, r3⟩ := frz_ok hd' r q2
      exact ⟨c3, w2, dd, hd3, r3, fun v2 H2 c2 g2 hd2 dp => p v2 H2 c2 ((g.trans g3).trans g2) hd2 dp⟩
end
end D

set_option maxRecDepth 100000
namespace D
open PySem L2 G PySem.Spec PyProof.Rows
variable [Tbs]
/-! ### tuples without a dict of their own -/
omit [Tbs] in
def kPlainB (K : PySem.W.Frag) : Bool := K.all fun p => match p.2.data with
  | .seq _ _ => p.2.dict.isNone
  | _ => true
omit [Tbs] in
def KPlain (K : PySem.W.Frag) : Prop := ∀ a o its n, List.lookup a K = some o → o.data = .seq its n → o.dict = none
omit [Tbs] in
theorem lookup_mem {α : Type} {a : Addr} {o : α} : ∀ {K : List (Addr × α)}, List.lookup a K = some o → (a, o) ∈ K
  | (b, u) :: K, e => by
    simp only [List.lookup] at e
    split at e
    · rename_i h
      cases e
      have := eq_of_beq h
      subst this
      exact List.mem_cons_self ..
    · exact List.mem_cons_of_mem _ (lookup_mem e)
omit [Tbs] in
theorem kPlain_of {K : PySem.W.Frag} (h : kPlainB K = true) : KPlain K := fun a o its n e d => by
  have := List.all_eq_true.mp h _ (lookup_mem e)
  simp only [d] at this
  exact Option.isNone_iff_eq_none.mp this
omit [Tbs] in
def plT (K : PySem.W.Frag) (H : Hp) (a : Addr) (vs : List V) : Prop := (∃ o, H a = some (.frz o (.tup vs)) ∧ o.dict = none) ∨
  ∃ o its n, List.lookup a K = some o ∧ o.cls = .type "tuple" ∧ o.dict = none ∧ o.data = .seq its n ∧ its.size ≤ sizeLine ∧ Vals vs its.toList
omit [Tbs] in
theorem plT_at {X : Cx} {pins : List (Addr × Obj)} {σ : L2.St} {H : Hp} {s : Shared} {a : Addr} {vs : List V} (I : Inv X pins σ H s) (h : plT X.K H a vs) :
    ∃ its : List Value, Vals vs its ∧ (∃ o n, s.heap.get? a = some o ∧ o.cls = .type "tuple" ∧ o.dict = none ∧ o.data = .seq its.toArray n) ∧ its.length ≤ sizeLine := by
  rcases h with ⟨o, e, d⟩ | ⟨o, its, n, e, c, d, dt, sz, r⟩
  · obtain ⟨e1, hz, its, rv, ⟨o', e2, c, n, dt⟩⟩ := I.hok a _ e
    rw [e1] at e2
    cases e2
    exact ⟨its, rv, ⟨o, n, e1, c, d, dt⟩, by rw [← rv.length]; exact hz⟩
  · exact ⟨its.toList, r, ⟨o, n, I.kIn a o e, c, d, by simpa using dt⟩, by simpa using sz⟩
omit [Tbs] in
theorem plT.sqt {K : PySem.W.Frag} {H : Hp} {a : Addr} {vs : List V} (h : plT K H a vs) : SqT K H a vs := by
  rcases h with ⟨o, e, d⟩ | ⟨o, its, n, e, c, d, dt, sz, r⟩
  · exact .inl (.inr ⟨o, e⟩)
  · exact .inr ⟨o, its, n, e, c, dt, sz, r⟩
/-- of plain data -/
theorem plT_of {K : PySem.W.Frag} {H : Hp} {c : Ctx} {w : Om} {a : Addr} {vs : List V} (hd : Hold K H c w) (tp : Tbs.plain = true) (kp : KPlain K) (h : SqT K c.H0 a vs) (ni : ∀ i p, vs ≠ [V.int i, V.ref p]) : plT K H a vs := by
  rcases h with (h | ⟨o, h⟩) | ⟨o, its, n, e, cl, dt, sz, r⟩
  · obtain ⟨i, p, e⟩ := hd.pl tp a _ h
    exact absurd e (ni i p)
  · exact .inl ⟨o, hd.sub _ _ h, hd.pl tp a _ h⟩
  · exact .inr ⟨o, its, n, e, cl, kp a o its n e dt, dt, sz, r⟩
/-! ### dict(ps), ps a tuple of pairs -/
omit [Tbs] in
def pairsD : List PyData → Option (List (Key × PyData))
  | [] => some []
  | .tuple [k, v] :: r => match keyOf k, pairsD r with
    | some key, some q => some ((key, v) :: q)
    | _, _ => none
  | _ :: _ => none
omit [Tbs] in
theorem pairs_dp {K : PySem.W.Frag} {H0 : Hp} : ∀ {vs : List V} {ds : List PyData} {kvs : List (Key × PyData)}, DpAll K H0 vs ds → pairsD ds = some kvs →
    ∃ (ps : List Addr) (ws : List (Key × V)), vs = ps.map V.ref ∧ Paired (fun p kv => SqT K H0 p [kV kv.1, kv.2]) ps ws ∧ KD K H0 ws kvs
  | _, _, _, .nil, e => by cases e; exact ⟨[], [], rfl, .nil, .nil⟩
  | _, _, kvs, .cons (d := d) (ds := ds) h t, e => by
    unfold pairsD at e
    split at e
    · rename_i e0; cases e0
    · rename_i k v r e0
      cases e0
      cases qk : keyOf k with
      | none => simp [qk] at e
      | some key =>
        cases qr : pairsD ds with
        | none => simp [qk, qr] at e
        | some q =>
          simp only [qk, qr] at e
          cases e
          obtain ⟨ps, ws, rfl, a1, a2⟩ := pairs_dp t qr
          cases h with
          | tup h1 h2 =>
            cases h2 with
            | cons hk h2 =>
              cases h2 with
              | cons hv h2 =>
                cases h2
                have := key_v hk qk
                subst this
                exact ⟨_ :: ps, (key, _) :: ws, rfl, .cons h1 a1, .cons hv a2⟩
    · cases e
section
variable {X : Cx}
omit [Tbs] in
def rDictT (K : PySem.W.Frag) : List V → Hp → VK → Prop := fun xs H Q => ∃ (a : Addr) (ps : List Addr) (kvs : List (Key × V)), xs = [.ref a] ∧ plT K H a (ps.map V.ref) ∧ Paired (fun p kv => SqT K H p [kV kv.1, kv.2]) ps kvs ∧
    ∀ p, H p = none → Q (.ref p) (upd H p (.dK (mergeK [] kvs)))
omit [Tbs] in
theorem pairs2 {pins : List (Addr × Obj)} {σ : L2.St} {H : Hp} {s : Shared} (I : Inv X pins σ H s) : ∀ {ps : List Addr} {kvs : List (Key × V)}, Paired (fun p kv => SqT X.K H p [kV kv.1, kv.2]) ps kvs →
    ∃ (prs : List (Key × Value)) (vps : List (Value × Value)), KV kvs prs ∧ prs.length = ps.length ∧ vps.length = ps.length ∧ ∀ (j : Nat) (k v : Value), vps[j]? = some (k, v) → ∃ b key, ps[j]? = some b ∧ PySem.PairAt s.heap b k v ∧ prs[j]? = some (key, v) ∧ (mixKind X.prog X.w).is key k = true
  | _, _, .nil => ⟨[], [], .nil, rfl, rfl, fun j k v e => by simp at e⟩
  | _, _, .cons (a := p) (b := kv) h t => by
    obtain ⟨prs, vps, r, hl, hl2, hp⟩ := pairs2 I t
    obtain ⟨its, rv, ht, _⟩ := I.tuple h
    obtain ⟨u, y, ei, ru, ry⟩ := vals2 rv
    subst ei
    refine ⟨(kv.1, y) :: prs, (u, y) :: vps, .cons ⟨rfl, ry⟩ r, by rw [List.length_cons, List.length_cons, hl], by rw [List.length_cons, List.length_cons, hl2], fun j k v e => ?_⟩
    cases j with
    | zero =>
      have e' : (u, y) = (k, v) := Option.some.inj e
      cases e'
      exact ⟨p, kv.1, rfl, .inl ht, rfl, kV_is (P := X.prog) (w := X.w) ru⟩
    | succ j =>
      obtain ⟨b, key, e1, e2, e3, e4⟩ := hp j k v (by simpa using e)
      exact ⟨b, key, by simpa using e1, e2, by simpa using e3, e4⟩
omit [Tbs] in
theorem call_dictT (hcalm : X.calm = true) : CallR X (.type "dict") (rDictT X.K) := by
  intro pins s σ H xs us Q I r q
  obtain ⟨a, ps, kvs, ex, hq, hp, q⟩ := q
  subst ex
  obtain ⟨u, eu, rx⟩ := vals1 r
  subst eu
  cases rx
  obtain ⟨its, rv, pl, hz⟩ := plT_at I hq
  have ei := refs_at rv
  subst ei
  rw [List.length_map] at hz
  obtain ⟨prs, vps, rel, hl, hl2, hpr⟩ := pairs2 I hp
  refine PySem.call_dict_pairs (knd := mixKind X.prog X.w) (kvs := prs) (PySem.PairArg.tuple a (ps.map Value.ref).toArray (fun j => ps.getD j 0) vps) (I.ok.hd hcalm) ⟨pl, ?_, fun j k v e => ?_⟩ ⟨by omega, fun i k v e => ?_⟩ (by omega) fun h' tk hd' k => ?_
  · simp [hl2]
  · obtain ⟨b, key, e1, e2, e3, e4⟩ := hpr j k v e
    have eb : ps.getD j 0 = b := by rw [List.getD_eq_getElem?_getD, e1]; rfl
    exact ⟨by simp [e1, List.getD_eq_getElem?_getD], by show PySem.PairAt _ (ps.getD j 0) _ _; rw [eb]; exact e2⟩
  · obtain ⟨b, key, e1, e2, e3, e4⟩ := hpr i k v e
    exact ⟨key, e3, e4⟩
  · have hm : (s.heap.objs.size == sysModules) = false := beq_eq_false_iff_ne.mpr (Nat.ne_of_gt I.big)
    have hlen : (mergeK [] kvs).length ≤ sizeLine := by
      refine Nat.le_trans (length_mergeK kvs []) ?_
      rw [List.length_nil, Nat.zero_add, rel.length, hl]
      exact hz
    exact ⟨.ref s.heap.objs.size, upd H s.heap.objs.size (.dK (mergeK [] kvs)), I.laid (t' := tk) (fun b o e => k b o (by simp) e) (Nat.le_refl _) (show ObjOk X.prog X.w _ _ _ (.dK (mergeK [] kvs)) from ⟨hlen, hm, merged [] prs, KV.merge rel .nil, hd'⟩), rfl, q _ (I.hok.fresh (Nat.le_refl _))⟩
end
omit [Tbs] in
def mDictT (m : Rho → M (List Val)) : Rho → M Val := fun ρ => bnd (m ρ) fun xs => fun w => match xs with
  | [.d (.tuple ps)] => (match pairsD ps with
    | some kvs => .ok (.o w.length) (w ++ [.dct (mergeD [] kvs)])
    | none => .bad)
  | _ => .bad
section
variable {X : Cx} {E : XK} {e : Expr} {es : List Expr} {t : TA} {m : Rho → M (List Val)}
theorem de_dictT (tp : Tbs.plain = true) (kp : KPlain X.K) (pe : PE X e (tCB (rDictT X.K) t)) (h : DA X E es t m) : DE X E e (tCB (rDictT X.K) t) (mDictT m) :=
  ⟨pe, fun σ ρ H c w Q er hd p => h.rd σ ρ H c w _ er hd (Post.bind p fun vs H1 c1 xs w1 g1 hd1 r1 p1 => by
    split at p1
    · rename_i ps
      cases q : pairsD ps with
      | none => rw [q] at p1; exact p1.elim
      | some kvs =>
        rw [q] at p1
        cases r1 with
        | cons r1 rn =>
          cases rn
          cases (show Dp X.K c1.H0 _ (.tuple ps) from r1) with
          | tup h1 h2 =>
            obtain ⟨pas, ws, rfl, a1, a2⟩ := pairs_dp h2 q
            refine ⟨_, pas, ws, rfl, plT_of hd1 tp kp h1 (fun i p e => by cases pas <;> simp at e), ?_, fun p np => ?_⟩
            · exact L2.Paired.mapP a1 fun p kv z => (Held.of hd1.sub).sqt z
            · have hd2 : Hold X.K (upd H1 p (.dK (mergeK [] ws))) ⟨c1.H0, c1.al, (p, .dK (mergeK [] ws)) :: c1.ex⟩ w1 := hd1.pinNew np
              refine p1 _ _ ⟨c1.H0, c1.al ++ [p], c1.ex⟩ ⟨.refl _, ⟨[p], rfl⟩, rfl⟩ (hd2.unPinO (ob := .dct (mergeD [] kvs)) ⟨hd1.free np, _, upd_same, KD.merge a2 .nil⟩) ⟨p, rfl, ?_⟩
              have z : c1.al.length = w1.length := hd1.len
              simp [← z]
    · exact p1.elim)⟩
end
/-! ### t.index(x), t a tuple of flat items -/
omit [Tbs] in
def idxD : List PyData → PyData → Option Nat
  | [], _ => none
  | d :: ds, b => if eqF d b = true then some 0 else (idxD ds b).map (· + 1)
omit [Tbs] in
theorem idxD_at : ∀ {ds : List PyData} {b : PyData} {j : Nat}, idxD ds b = some j → (∃ d, ds[j]? = some d ∧ eqF d b = true) ∧ ∀ m d, m < j → ds[m]? = some d → eqF d b = false
  | d :: ds, b, j, e => by
    unfold idxD at e
    by_cases h : eqF d b = true
    · rw [if_pos h] at e
      cases e
      exact ⟨⟨d, rfl, h⟩, fun m d hm => absurd hm (Nat.not_lt_zero m)⟩
    · rw [if_neg h] at e
      cases q : idxD ds b with
      | none => rw [q] at e; cases e
      | some i =>
        rw [q] at e
        cases e
        obtain ⟨⟨d', e1, e2⟩, e3⟩ := idxD_at q
        refine ⟨⟨d', by simpa using e1, e2⟩, fun m u hm eu => ?_⟩
        cases m with
        | zero => cases eu; simpa using h
        | succ m => exact e3 m u (Nat.lt_of_succ_lt_succ hm) (by simpa using eu)
omit [Tbs] in
def rIdxT (K : PySem.W.Frag) : V → List V → Hp → VK → Prop := fun x xs H Q => ∃ (a : Addr) (ys : List V) (y : V) (j : Nat) (z : V), x = V.ref a ∧ xs = [y] ∧ SqT K H a ys ∧ flatV y = true ∧ ys.all flatV = true ∧ ys[j]? = some z ∧ eqV z y = true ∧
  (∀ (m : Nat) (z' : V), m < j → ys[m]? = some z' → eqV z' y = false) ∧ Q (.int (j : Nat)) H
section
variable {X : Cx}
omit [Tbs] in
theorem mt_idxT : MtR X "tuple.index" (rIdxT X.K) := by
  intro pins s σ H x xs v us Q I rx rxs h
  obtain ⟨a, ys, y, j, z, rfl, rfl, hs, fy, fys, hz, hzj, hno, q⟩ := h
  cases rx
  cases rxs with
  | cons ry rt =>
    rename_i uy ut
    cases rt
    obtain ⟨its, rv, ⟨⟨cls, dd, data, sl⟩, ho, hc, n, hd⟩, hlen⟩ := I.tuple hs
    simp only at hc hd
    subst hc hd
    obtain ⟨u, hu, ru⟩ := rv.get hz
    obtain ⟨hjl, hje⟩ := List.getElem?_eq_some_iff.mp hu
    have hvl := rv.length
    have hj : j < its.toArray.size := by simpa using hjl
    have hsl := sizeLine_eq
    refine call_meets PySem.F.slot_tuple_index ⟨_, ho, rfl⟩ PySem.F.entry_tuple_index (PySem.F.args_tuple_index_2 _ _)
      (TI.tuple_indexAt a its.toArray n dd sl uy (eqU y) j hj ?_ ?_) ⟨ho, fun u' hu' => mem_eqAt ry fy rv fys u' (by simpa using hu'), ?_⟩
    · have e1 : its.toArray[j] = u := by simpa using hje
      rw [e1, eqU_of ru (flat_at fys hz)]
      exact hzj
    · intro m hm hmj
      have hml : m < its.length := by simpa using hm
      have hmy : m < ys.length := by omega
      have hy' : ys[m]? = some ys[m] := List.getElem?_eq_getElem hmy
      obtain ⟨u2, hu2, ru2⟩ := rv.get hy'
      obtain ⟨_, hme⟩ := List.getElem?_eq_some_iff.mp hu2
      have e1 : its.toArray[m] = u2 := by simpa using hme
      rw [e1, eqU_of ru2 (flat_at fys hy')]
      exact hno m _ hmj hy'
    · exact ⟨.int (j : Nat), H, I.tok _, ⟨_, rfl⟩, q⟩
omit [Tbs] in
/-- a method of a plain tuple -/
def tTM (K : PySem.W.Frag) (r : V → List V → Hp → VK → Prop) (to : TE) (t : TA) : TE := fun σ H Q => to σ H fun x H1 => (∃ p ys, x = .ref p ∧ plT K H1 p ys) ∧ t σ H1 fun xs H2 => r x xs H2 Q
variable {o e : Expr} {es : List Expr} {to : TE} {t : TA} {name : Str} {apos cpos : Pos} {id : String} {r : V → List V → Hp → VK → Prop}
omit [Tbs] in
theorem pe_tm (pa : PlainAttrs "tuple") (slot : Slot "tuple" name id) (hty : typeOf (.builtin id) = pure (.type "method_descriptor")) (hm : MtR X id r) (ho : PE X o to) (ha : PA X (e :: es) t)
    (hbase : attributeBase o name X.env (eval o X.env) = eval o X.env := by rfl)
    (hfew : ((backTo cpos (starEach (e :: es) X.env)).all (fun x => !x.1) && (backToKw cpos (keywordEach [] X.env)).all (fun x => x.1.isSome)
      && decide ((e :: es).length + ([] : List Keyword).length + (if ([] : List Keyword).isEmpty then 0 else 1) < 30)) = true := by rfl)
    (hline : (apos.endLine == cpos.line) = true := by rfl) (hs : starEach (e :: es) X.env = (false, eval e X.env) :: starEach es X.env := by rfl) (hplain : (backTo cpos (starEach es X.env)).any (·.1) = false := by rfl) :
    PE X (.Call (.Attribute o name apos) (e :: es) [] cpos) (tTM X.K r to t) := by
  refine ⟨fun pins s σ H Q I h => ?_⟩
  refine wpAny_Call_method_late hbase hfew hline rfl (thn (ho.run pins s σ H _ I h) fun v s1 ⟨x, H1, I1, r1, ⟨p, ys, ex, pl⟩, q1⟩ => ?_)
  subst ex
  obtain rfl : v = Value.ref p := r1
  obtain ⟨its, rv, ⟨ob, n, e1, e2, e3, e4⟩, _⟩ := plT_at I1 pl
  refine ⟨"tuple", id, pa, slot, hty, ⟨ob, e1, e2⟩, fun a q => ?_, ?_⟩
  · cases q
    exact ⟨ob, e1, e3⟩
  have hA := ha.run cpos pins s1 σ H1 _ I1 q1
  rw [hs] at hA ⊢
  refine Calls.callWith_builtin (by show (false || (backTo cpos (starEach es X.env)).any (·.1)) = false; rw [hplain] <;> rfl) (Calls.evalArgs_plain ?_)
  exact thn hA fun us s2 ⟨vs, H2, I2, r2, q2⟩ => hm pins s2 σ H2 _ vs _ us Q I2 (show RelV (.ref p) (.ref p) from rfl) r2 q2
end
omit [Tbs] in
def mTIdx (m1 m2 : Rho → M Val) : Rho → M Val := fun ρ => bnd (m1 ρ) fun x => match x with
  | .d (.tuple ds) => if ds.all flatD = true then bnd (m2 ρ) (fun y w => match look w y with
      | some b => if flatD b = true then (match idxD ds b with | some j => .ok (.d (.int (j : Nat))) w | none => .bad) else .bad
      | none => .bad) else fun _ => .bad
  | _ => fun _ => .bad
section
variable {X : Cx} {E : XK} {o e call : Expr} {to te : TE} {mo me : Rho → M Val}
theorem de_tidx (tp : Tbs.plain = true) (kp : KPlain X.K) (pe : PE X call (tTM X.K (rIdxT X.K) to (tCons te tNil))) (ho : DE X E o to mo) (he : DE X E e te me) : DE X E call (tTM X.K (rIdxT X.K) to (tCons te tNil)) (mTIdx mo me) :=
  ⟨pe, fun σ ρ H c w Q er hd p => ho.rd σ ρ H c w _ er hd (Post.bind p fun v H1 c1 x w1 g1 hd1 r1 p1 => by
    split at p1
    · rename_i ds
      by_cases hf : ds.all flatD = true
      · rw [if_pos hf] at p1
        cases (show Dp X.K c1.H0 _ (.tuple ds) from r1) with
        | tup h1 h2 =>
          have fv := flat_all h2 hf
          refine ⟨⟨_, _, rfl, plT_of hd1 tp kp h1 (fun i p e => by rw [e] at fv; simp [flatV] at fv)⟩, he.rd σ ρ H1 c1 w1 _ (er.mono g1) hd1 (Post.bind (r := me ρ w1) p1 fun u H2 c2 y w2 g2 hd2 r2 p2 => ?_)⟩
          cases ey : look w2 y with
          | none => rw [ey] at p2; exact p2.elim
          | some b =>
            rw [ey] at p2
            dsimp only at p2
            by_cases hb : flatD b = true
            · rw [if_pos hb] at p2
              cases q : idxD ds b with
              | none => rw [q] at p2; exact p2.elim
              | some j =>
                rw [q] at p2
                obtain ⟨⟨d, e1, e2⟩, e3⟩ := idxD_at q
                have ry := (hd2.dq r2 ey).dp hd2.sub
                obtain ⟨z, ez, rz⟩ := h2.get e1
                refine ⟨_, _, u, j, z, rfl, rfl, (Held.of (g2.h.trans hd2.sub)).sqt h1, flat_v ry hb, fv, ez, ?_, fun m z' hm ez' => ?_, p2 _ H2 c2 (.refl _) hd2 (.int _)⟩
                · rw [flat_eq ((Held.of (g2.h.trans hd2.sub)).dp _ _ rz) ry (List.all_eq_true.mp hf d (List.mem_of_getElem? e1)) hb]; exact e2
                · obtain ⟨d', e1', rz'⟩ := h2.getV ez'
                  rw [flat_eq ((Held.of (g2.h.trans hd2.sub)).dp _ _ rz') ry (List.all_eq_true.mp hf d' (List.mem_of_getElem? e1')) hb]; exact e3 m d' hm e1'
            · rw [if_neg hb] at p2; exact p2.elim
      · rw [if_neg hf] at p1; exact p1.elim
    · exact p1.elim)⟩
end
/-! ### D[text], D a module's dict of texts and ints -/
omit [Tbs] in
def mKIx (c : List (Str × Int)) (mk : Rho → M Val) : Rho → M Val := fun ρ => bnd (mk ρ) fun x w => match look w x with
  | some (.str z) => (match lookD c z with | some i => .ok (.d (.int i)) w | none => .bad)
  | _ => .bad
omit [Tbs] in
def tKIx (c : List (Str × Int)) (ty : TE) : TE := fun σ H Q => ty σ H fun y H2 => ∃ z i, y = .str z ∧ lookD c z = some i ∧ Q (.int i) H2
section
variable {X : Cx} {E : XK} {n : Str} {c : List (Str × Int)} {i : Expr} {npos pos : Pos} {ty : TE} {my : Rho → M Val}
omit [Tbs] in
theorem pe_kix (h : ConD X.w X.K X.mg n c) (hg : Gl X n) (hi : PE X i ty) (hs : NoSl i) (hn : (n == ("__debug__" : Str)) = false := by decide) : PE X (.Subscript (.Name n npos) i pos) (tKIx c ty) := by
  obtain ⟨d, es, k, h1, h2, h3, h4, h5⟩ := h
  have pn : PE X (.Name n npos) (tC (.ref d)) := pe_glob hg h1 rfl hn
  refine ⟨fun pins s σ H Q I hq => ?_⟩
  refine subD_of PySem.F.slot_dict_getitem.lookup hs (thn (pn.run pins s σ H (fun x H1 => x = .ref d ∧ ty σ H1 fun y H2 => ∃ z i, y = .str z ∧ lookD c z = some i ∧ Q (.int i) H2) I ⟨rfl, hq⟩) fun u s1 ⟨x, H1, I1, rx, ex, q1⟩ =>
    thn (hi.run pins s1 σ H1 _ I1 q1) fun iv s2 ⟨y, H2, I2, ry, z, k', ey, el, q2⟩ => ?_)
  subst ex
  obtain rfl : u = Value.ref d := rx
  subst ey
  obtain ⟨t, rfl⟩ := (show ∃ t, iv = Value.str z t from ry)
  have hm := PySem.W.mapOf_K (prog := X.prog) (w := X.w) I2.kIn h2 h3
  obtain ⟨t2, e2⟩ := (find_con (z := z) h5).1 k' el
  refine ⟨hm.typeIs, wpAny_getItem_of (PySem.strKind_is X.prog X.w z t) hm (v := .int k' t2) ?_ ⟨.int k', H2, I2.tok _, ⟨t2, rfl⟩, q2⟩⟩
  unfold findBy
  simpa using e2
theorem de_kix (h : ConD X.w X.K X.mg n c) (hg : Gl X n) (hi : DE X E i ty my) (hs : NoSl i) (hn : (n == ("__debug__" : Str)) = false := by decide) : DE X E (.Subscript (.Name n npos) i pos) (tKIx c ty) (mKIx c my) :=
  ⟨pe_kix h hg hi.pe hs hn, fun σ ρ H k w Q er hd p => hi.rd σ ρ H k w _ er hd (Post.bind p fun y H1 c1 vy w1 g1 hd1 r1 p1 => by
    cases ey : look w1 vy with
    | none => simp [ey] at p1; exact p1.elim
    | some a =>
      cases a with
      | str z =>
        simp only [ey] at p1
        cases q : lookD c z with
        | none => simp only [q] at p1; exact p1.elim
        | some i =>
          simp only [q] at p1
          exact ⟨z, i, (hd1.dq r1 ey).str, q, p1 (.int i) H1 c1 (.refl _) hd1 (.int i)⟩
      | _ => simp [ey] at p1; exact p1.elim)⟩
end
/-! ### repr(x) != repr(y), told quickly -/
omit [Tbs] in
mutual
def eqB : PyData → PyData → Bool
  | .none, .none => true
  | .bool a, .bool b => a == b
  | .int a, .int b => decide (a = b)
  | .str a, .str b => decide (a = b)
  | .list xs, .list ys => eqBs xs ys
  | .tuple xs, .tuple ys => eqBs xs ys
  | _, _ => false
def eqBs : List PyData → List PyData → Bool
  | [], [] => true
  | x :: xs, y :: ys => eqB x y && eqBs xs ys
  | _, _ => false
end
omit [Tbs] in
mutual
theorem eqB_ok : ∀ (a b : PyData), eqB a b = true → a = b
  | .none, b, h => by cases b <;> first | rfl | (simp [eqB] at h)
  | .bool a, b, h => by cases b <;> simp_all [eqB]
  | .int a, b, h => by cases b <;> simp_all [eqB]
  | .str a, b, h => by cases b <;> simp_all [eqB]
  | .list xs, b, h => by
    cases b with
    | list ys => rw [eqBs_ok xs ys (by simpa [eqB] using h)]
    | _ => simp [eqB] at h
  | .tuple xs, b, h => by
    cases b with
    | tuple ys => rw [eqBs_ok xs ys (by simpa [eqB] using h)]
    | _ => simp [eqB] at h
  | .dict _, b, h => by simp [eqB] at h
theorem eqBs_ok : ∀ (a b : List PyData), eqBs a b = true → a = b
  | [], b, h => by cases b <;> first | rfl | (simp [eqBs] at h)
  | x :: xs, b, h => by
    cases b with
    | nil => simp [eqBs] at h
    | cons y ys =>
      simp only [eqBs, Bool.and_eq_true] at h
      rw [eqB_ok x y h.1, eqBs_ok xs ys h.2]
end
omit [Tbs] in
abbrev mRepS (m1 m2 : Rho → M Val) : Rho → M Val := mOp gNeB (mCall gRepr (mCons m1 mNil)) (mCall gRepr (mCons m2 mNil))
omit [Tbs] in
def mRepNe (m1 m2 : Rho → M Val) : Rho → M Val := fun ρ w => match m1 ρ w with
  | .ok x w1 => (match look w1 x, m2 ρ w1 with
    | some a, .ok y w2 => (match look w2 y with
      | some b => if eqB a b = true ∧ szB 60 20000 a = true then .ok (.d (.bool false)) w2 else mRepS m1 m2 ρ w
      | none => mRepS m1 m2 ρ w)
    | _, _ => mRepS m1 m2 ρ w)
  | _ => mRepS m1 m2 ρ w
omit [Tbs] in
theorem repNe_eq (m1 m2 : Rho → M Val) : mRepNe m1 m2 = mRepS m1 m2 := by
  funext ρ w
  unfold mRepNe
  split
  · rename_i x w1 e1
    split
    · rename_i a y w2 ea e2
      split
      · rename_i b eb
        split
        · rename_i h
          obtain ⟨h1, h2⟩ := h
          have := eqB_ok a b h1
          subst this
          have hr := repr_sz h2
          have c1 : mCall gRepr (mCons m1 mNil) ρ w = .ok (.d (.str a.shown)) w1 := by
            unfold mCall mCons mNil bnd
            rw [e1]
            dsimp only [R.then, D.ret, looks]
            rw [ea]
            dsimp only
            rw [hr]
          have c2 : mCall gRepr (mCons m2 mNil) ρ w1 = .ok (.d (.str a.shown)) w2 := by
            unfold mCall mCons mNil bnd
            rw [e2]
            dsimp only [R.then, D.ret, looks]
            rw [eb]
            dsimp only
            rw [hr]
          unfold mRepS mOp
          show _ = bnd (mCall gRepr (mCons m1 mNil) ρ) _ w
          unfold bnd
          rw [c1]
          dsimp only [R.then]
          rw [c2]
          dsimp only [R.then, look]
          rw [ne_same]
        · rfl
      · rfl
    · rfl
  · rfl
theorem de_repNe {X : Cx} {E : XK} {e : Expr} {t : TE} {m1 m2 : Rho → M Val} (h : DE X E e t (mRepS m1 m2)) : DE X E e t (mRepNe m1 m2) := by
  rw [repNe_eq]
  exact h
theorem dt_repNe {X : Cx} {E : XK} {e : Expr} {t : TT} {m1 m2 : Rho → M Val} (h : DT X E e t (mTest (mRepS m1 m2))) : DT X E e t (mTest (mRepNe m1 m2)) := by
  rw [repNe_eq]
  exact h
omit [Tbs] in
theorem mulQ {i j : Int} (h : i.natAbs < 2 ^ 64) (h' : j.natAbs < 2 ^ 64) : gMulQ (.int i) (.int j) = some (.int (i * j)) := mulI h h'
end D

set_option maxRecDepth 100000
namespace F
open PySem L2 G PySem.Spec PyProof.Rows HT
/-- the tuple at a, each item in a new pair -/
def IteTF (K : PySem.W.Frag) (a : Addr) : It :=
  ⟨fun i H => ∃ (xs : List V) (x : V), SqT K H a xs ∧ xs[i]? = some x, fun i H v H' => ∃ T x o, v = .ref T ∧ H T = none ∧ o.dict = none ∧ H' = upd H T (.frz o (.tup [.int (i : Nat), x])) ∧ ∀ xs, SqT K H a xs → xs[i]? = some x, fun i H => ∃ xs : List V, SqT K H a xs ∧ xs.length ≤ i⟩
theorem turn_enumTF {P : Program} {w : World} {K : PySem.W.Frag} {elts : List Expr} {kk : Nat} {tpos : Pos} (a e it : Addr) :
    Turn P w K (.Tuple elts kk tpos) (IteTF K a) [e, it] e (fun i h => (∃ old, IsEnum h e it ((i : Nat) : Int) old) ∧ h.IsTupleIter it a i ∧ e ≠ it) where
  mem := List.mem_cons_self ..
  obj := by
    rintro i h ⟨⟨old, he⟩, ⟨o, ho, _, hd⟩, _⟩ b hb
    rcases (show b = e ∨ b = it by simpa using hb) with rfl | rfl
    · exact ⟨_, he, fun v q => nomatch q⟩
    · exact ⟨o, ho, fun v q => by rw [hd] at q; cases q⟩
  keep := fun i h h' ⟨⟨old, he⟩, hi, ne⟩ k => ⟨⟨old, k e (by simp) _ he⟩, hi.at fun o q => k it (by simp) o q, ne⟩
  item := by
    rintro X rfl rfl rfl hc i pins s σ H E I hf ⟨⟨old, he⟩, hit, ne⟩ ⟨xs, x, hq, hx⟩
    obtain ⟨its, rv, p, hz⟩ := I.tuple hq
    obtain ⟨u, hu, ru⟩ := rv.get hx
    have le : e < s.heap.objs.size := Heap.lt_size he
    have li : it < s.heap.objs.size := let ⟨_, z, _⟩ := hit; Heap.lt_size z
    refine enum_next he hit (isTuple_of p) (z := u) (by simpa using hu) ne fun g out hit2 hT siz hk => ⟨_, rfl, wpAny_letOwnedTupleGo_enum (s := { s with heap := g, toks := s.toks + 1 }) out fun g2 he2 sb => ?_⟩
    have new : ObjOk X.prog X.w (upd H s.heap.objs.size (.frz { cls := .type "tuple", data := .seq #[.int i s.toks, u] } (.tup [.int (i : Nat), x]))) g2 s.heap.objs.size (.frz { cls := .type "tuple", data := .seq #[.int i s.toks, u] } (.tup [.int (i : Nat), x])) :=
      ⟨(sb.2 _ (Nat.ne_of_gt le)).trans hT, thousand (by show 2 ≤ 1000; decide), [.int i s.toks, u], .cons ⟨_, rfl⟩ (.cons ru .nil), ⟨_, (sb.2 _ (Nat.ne_of_gt le)).trans hT, rfl, _, rfl⟩⟩
    have I1 : Inv X pins σ (upd H s.heap.objs.size (.frz { cls := .type "tuple", data := .seq #[.int i s.toks, u] } (.tup [.int (i : Nat), x]))) { s with heap := g2, toks := s.toks + 1 } :=
      I.turnedNew (ch := [e, it]) (fun b ob hb q => (sb.2 b (fun z => hb (by simp [z]))).trans (hk b ob (fun z => hb (by simp [z])) (fun z => hb (by simp [z])) q)) hf (Nat.le_refl _) new
    refine ⟨.ref s.heap.objs.size, _, I1, rfl, ⟨_, x, _, rfl, I.hok.fresh (Nat.le_refl _), rfl, rfl, fun ys hy => ?_⟩, ⟨⟨u, ?_⟩, hit2.at fun o q => (sb.2 it (Ne.symm ne)).trans q, ne⟩, fun b hb => ?_⟩
    · rw [I.tuple_inj hy hq]
      exact hx
    · rw [show ((i + 1 : Nat) : Int) = (i : Int) + 1 by omega]
      exact he2
    · have lb : b < s.heap.objs.size := by
        rcases (show b = e ∨ b = it by simpa using hb) with rfl | rfl
        · exact le
        · exact li
      rw [upd_ne (Nat.ne_of_lt lb)]
      exact (hf b hb).1
  done := by
    rintro X rfl rfl rfl hc i pins s σ H E I hf ⟨⟨old, he⟩, hit, ne⟩ ⟨xs, hq, hx⟩
    obtain ⟨its, rv, p, hz⟩ := I.tuple hq
    obtain ⟨f0, f1, f2, f3, f4, f5⟩ := hf it (by simp)
    have hl := rv.length
    exact enum_end (I.ok.hd hc) he hit (isTuple_of p) (by simp; omega) fun g k => ⟨rfl, I.turned (t' := s.toks) (fun b o hb q => k b o hb q) f0 f1 f3 f4 f5⟩
  self := fun A i s Q E ⟨⟨_, he⟩, _⟩ h => wpAny_pyIter_enum he h
/-- the list at a, each item in a new pair -/
def IteF (K : PySem.W.Frag) (a : Addr) : It :=
  ⟨fun i H => ∃ (xs : List V) (x : V), SqL K H a xs ∧ xs[i]? = some x, fun i H v H' => ∃ T x o, v = .ref T ∧ H T = none ∧ o.dict = none ∧ H' = upd H T (.frz o (.tup [.int (i : Nat), x])) ∧ ∀ xs, SqL K H a xs → xs[i]? = some x, fun i H => ∃ xs : List V, SqL K H a xs ∧ xs.length ≤ i⟩
theorem turn_enumF {P : Program} {w : World} {K : PySem.W.Frag} {elts : List Expr} {kk : Nat} {tpos : Pos} (a e it : Addr) :
    Turn P w K (.Tuple elts kk tpos) (IteF K a) [e, it] e (fun i h => (∃ old, IsEnum h e it ((i : Nat) : Int) old) ∧ h.IsListIter it a i ∧ e ≠ it) where
  mem := List.mem_cons_self ..
  obj := by
    rintro i h ⟨⟨old, he⟩, ⟨o, ho, _, hd⟩, _⟩ b hb
    rcases (show b = e ∨ b = it by simpa using hb) with rfl | rfl
    · exact ⟨_, he, fun v q => nomatch q⟩
    · exact ⟨o, ho, fun v q => by rw [hd] at q; cases q⟩
  keep := fun i h h' ⟨⟨old, he⟩, hi, ne⟩ k => ⟨⟨old, k e (by simp) _ he⟩, hi.at fun o q => k it (by simp) o q, ne⟩
  item := by
    rintro X rfl rfl rfl hc i pins s σ H E I hf ⟨⟨old, he⟩, hit, ne⟩ ⟨xs, x, hq, hx⟩
    obtain ⟨its, rv, p, hz⟩ := I.list hq
    obtain ⟨u, hu, ru⟩ := rv.get hx
    have le : e < s.heap.objs.size := Heap.lt_size he
    have li : it < s.heap.objs.size := let ⟨_, z, _⟩ := hit; Heap.lt_size z
    refine wpAny_pyNext_enum_item he hit p.isList (x := u) (by simpa using hu) ne fun g out hit2 hT siz hk => ⟨_, rfl, wpAny_letOwnedTupleGo_enum (s := { s with heap := g, toks := s.toks + 1 }) out fun g2 he2 sb => ?_⟩
    have new : ObjOk X.prog X.w (upd H s.heap.objs.size (.frz { cls := .type "tuple", data := .seq #[.int i s.toks, u] } (.tup [.int (i : Nat), x]))) g2 s.heap.objs.size (.frz { cls := .type "tuple", data := .seq #[.int i s.toks, u] } (.tup [.int (i : Nat), x])) :=
      ⟨(sb.2 _ (Nat.ne_of_gt le)).trans hT, thousand (by show 2 ≤ 1000; decide), [.int i s.toks, u], .cons ⟨_, rfl⟩ (.cons ru .nil), ⟨_, (sb.2 _ (Nat.ne_of_gt le)).trans hT, rfl, _, rfl⟩⟩
    have I1 : Inv X pins σ (upd H s.heap.objs.size (.frz { cls := .type "tuple", data := .seq #[.int i s.toks, u] } (.tup [.int (i : Nat), x]))) { s with heap := g2, toks := s.toks + 1 } :=
      I.turnedNew (ch := [e, it]) (fun b ob hb q => (sb.2 b (fun z => hb (by simp [z]))).trans (hk b ob (fun z => hb (by simp [z])) (fun z => hb (by simp [z])) q)) hf (Nat.le_refl _) new
    refine ⟨.ref s.heap.objs.size, _, I1, rfl, ⟨_, x, _, rfl, I.hok.fresh (Nat.le_refl _), rfl, rfl, fun ys hy => ?_⟩, ⟨⟨u, ?_⟩, hit2.at fun o q => (sb.2 it (Ne.symm ne)).trans q, ne⟩, fun b hb => ?_⟩
    · rw [I.list_inj hy hq]
      exact hx
    · rw [show ((i + 1 : Nat) : Int) = (i : Int) + 1 by omega]
      exact he2
    · have lb : b < s.heap.objs.size := by
        rcases (show b = e ∨ b = it by simpa using hb) with rfl | rfl
        · exact le
        · exact li
      rw [upd_ne (Nat.ne_of_lt lb)]
      exact (hf b hb).1
  done := by
    rintro X rfl rfl rfl hc i pins s σ H E I hf ⟨⟨old, he⟩, hit, ne⟩ ⟨xs, hq, hx⟩
    obtain ⟨its, rv, p, hz⟩ := I.list hq
    obtain ⟨f0, f1, f2, f3, f4, f5⟩ := hf it (by simp)
    have hl := rv.length
    exact wpAny_pyNext_enum_end (I.ok.hd hc) he hit p.isList (by simp; omega) fun g k => ⟨rfl, I.turned (t' := s.toks) (fun b o hb q => k b o hb q) f0 f1 f3 f4 f5⟩
  self := fun A i s Q E ⟨⟨_, he⟩, _⟩ h => wpAny_pyIter_enum he h
section
variable {X : Cx}
def tRevF (K : PySem.W.Frag) (te : TE) : TE := fun σ H Q => te σ H fun x H1 => ∃ a xs, x = .ref a ∧ SqT K H1 a xs ∧ ∀ p o, H1 p = none → o.dict = none → Q (.ref p) (upd H1 p (.frz o (.tup xs.reverse)))
theorem pe_revF {e : Expr} {te : TE} {k : Nat} {p1 p2 p3 pos : Pos} (he : PE X e te) : PE X (.Subscript e (.Slice none none (some (.UnaryOp .USub (.Constant (.int 1) k p1) p2)) p3) pos) (tRevF X.K te) := by
  refine ⟨fun pins s σ H Q I h => Subscript_ (thn (he.run pins s σ H _ I h) fun v s1 ⟨x, H1, I1, r1, q1⟩ => ?_)⟩
  obtain ⟨a, xs, rfl, hx, q⟩ := q1
  cases r1
  have hst : PO X (some (.UnaryOp .USub (.Constant (.int 1) k p1) p2)) (tPart (tUn (rU fun i => .int (-i)) (tC (.int 1)))) := po_some (pe_un un_neg pe_int)
  refine wpAny_Slice (thn (po_none.run pins s1 σ H1 (fun o H2 => o = none ∧ H2 = H1) I1 ⟨rfl, rfl⟩) ?_)
  rintro vl s2 ⟨_, H2, I2, pl, rfl, rfl⟩
  refine thn (po_none.run pins s2 σ H2 (fun o H3 => o = none ∧ H3 = H2) I2 ⟨rfl, rfl⟩) ?_
  rintro vu s3 ⟨_, H3, I3, pu, rfl, rfl⟩
  refine thn (hst.run pins s3 σ H3 (fun o H4 => o = some (-1) ∧ H4 = H3) I3 ⟨1, rfl, -1, rfl, rfl, rfl⟩) ?_
  rintro vs s4 ⟨_, H4, I4, ps, rfl, rfl⟩
  have I5 : Inv X pins σ H4 { s4 with heap := s4.heap.push { cls := .type "slice", data := .fields #[vl, vu, vs] } } := I4.kept (t' := s4.toks) fun b ob z => Heap.get?_push_of_some _ z
  obtain ⟨its, r, ht, hz⟩ := I5.tuple hx
  have hlen := r.length
  cases pl
  cases pu
  show wpAny (model X.prog X.w) X.A (subscriptTail e (.Slice none none (some (.UnaryOp .USub (.Constant (.int 1) k p1) p2)) p3) (.ref a) (.ref s4.heap.objs.size)) (EP X pins σ Q) X.xe { s4 with heap := s4.heap.push { cls := .type "slice", data := .fields #[.none, .none, vs] } }
  refine tail_any (ops := [.ref a, .ref s4.heap.objs.size]) ht.typeIs (PyProof.Rows.slot_tuple_getitem.lookup) (item_back ht (Heap.IsSliceOf.new _ .none .none vs) ps ?_ (by rw [List.size_toArray]; omega)) (by with_unfolding_all rfl)
  exact ⟨.ref _, _, I5.laid (t' := s4.toks) (o := .frz _ (.tup xs.reverse)) (fun b ob z => Heap.get?_push_of_some _ z) (Nat.le_refl _) ⟨Heap.get?_push_size _ rfl, by rw [List.length_reverse]; exact hz, its.reverse, r.reverse, ⟨_, Heap.get?_push_size _ rfl, rfl, _, rfl⟩⟩, rfl, q _ _ (I5.hok.fresh (Nat.le_refl _)) rfl⟩
def rRepF (K : PySem.W.Frag) : R2 := fun x y H Q => ∃ l k xs, x = .ref l ∧ y = .int k ∧ SqT K H l xs ∧ xs ≠ [] ∧ 2 ≤ k ∧ k ≤ 1000 ∧ xs.length ≤ 1000 ∧ ∀ p o, H p = none → o.dict = none → Q (.ref p) (upd H p (.frz o (.tup (List.replicate k.toNat xs).flatten)))
theorem op_repF : OpR X (binaryOp .Mult) (rRepF X.K) := by
  intro pins s σ H x y v u Q I rx ry ask
  obtain ⟨l, k, xs, rfl, rfl, hT, some_, two, most, short, q⟩ := ask
  cases rx
  obtain ⟨t, rfl⟩ := ry
  obtain ⟨its, r, ⟨⟨cls, dd, data, sl⟩, ho, hc, n, hd⟩, hs⟩ := I.tuple hT
  simp only at hc hd
  subst hc hd
  have same : its.length = xs.length := r.length.symm
  have full : its.toArray.isEmpty = false := by
    cases its with
    | nil => exact absurd (List.eq_nil_of_length_eq_zero same.symm) some_
    | cons a b => rfl
  have much : ((its.toArray.size : Nat) : Int) * k ≤ 1000000 := by
    rw [List.size_toArray, same]
    have : ((xs.length : Nat) : Int) * k ≤ 1000 * k := Int.mul_le_mul_of_nonneg_right (by omega) (by omega)
    omega
  have long : (List.replicate k.toNat its).flatten.length ≤ sizeLine := by
    rw [PyProof.Rows.lm_len_rep_flat, same, sizeLine_eq]
    have : k.toNat * xs.length ≤ 1000 * 1000 := Nat.mul_le_mul (by omega) short
    omega
  have i0 : (decide (k < -(2 ^ 63)) || decide (k ≥ 2 ^ 63)) = false := by rw [decide_eq_false (by omega), decide_eq_false (by omega)] <;> rfl
  have i1 : (its.toArray.isEmpty || k == 1) = false := by rw [full, Bool.false_or]; exact beq_eq_false_iff_ne.mpr (by omega)
  have i2 : (decide (k ≤ 0) || its.toArray.isEmpty) = false := by rw [full, Bool.or_false]; exact decide_eq_false (by omega)
  have i4 : Builtin.Tuple.tupleTooMany (((its.toArray.size : Nat) : Int) * k) = false := by
    show decide _ = false
    rw [sizeLine_eq]
    exact decide_eq_false (by omega)
  refine wpAny_binaryOp_repeat_ref (T := "tuple") (U := "int") (by decide) ⟨_, ho, rfl⟩ (fun s' => typeIs_int s' k t) noFill_tuple_mul PySem.F.fills_int_mul PySem.F.slot_int_rmul repeat_tuple PySem.F.slot_int_index.lookup
    (call_meets PySem.F.slot_int_rmul (typeIs_int s k t) PySem.F.entry_int_rmul (PySem.F.args_int_rmul_2 _ _) (int_rmul_tuple k t l its.toArray n dd sl)
      ⟨ho, rfl, ⟨_, ho, rfl⟩, call_meets PySem.F.slot_tuple_mul ⟨_, ho, rfl⟩ PySem.F.entry_tuple_mul (PySem.F.args_tuple_mul_2 _ _) (tuple_mulW l its.toArray n dd sl k t i0 i1 i2 (by omega) i4 (by rw [size_rep, List.size_toArray]; exact long)) ⟨ho, ?_⟩⟩)
  rw [size_rep]
  exact ⟨.ref s.heap.objs.size, _, I.laid (t' := s.toks) (o := .frz _ (.tup (List.replicate k.toNat xs).flatten)) (fun b ob q => Heap.get?_push_of_some _ q) (Nat.le_refl _)
    ⟨Heap.get?_push_size _ rfl, by rw [PyProof.Rows.lm_len_rep_flat, sizeLine_eq]; have : k.toNat * xs.length ≤ 1000 * 1000 := Nat.mul_le_mul (by omega) short; omega, _, r.rep k.toNat, IsTup.new _ _⟩, rfl, q _ _ (I.hok.fresh (Nat.le_refl _)) rfl⟩
end
def iEnumF (K : PySem.W.Frag) (ta : TA) : TI := fun σ H R => ta σ H fun vs H1 => ∃ a xs, vs = [.ref a] ∧ ((SqL K H1 a xs ∧ R (IteF K a) H1) ∨ (SqT K H1 a xs ∧ R (IteTF K a) H1))
theorem pi_enumF {X : Cx} {e : Expr} {ta : TA} {p pos tpos : Pos} {elts : List Expr} {kk : Nat} (hg : Gl X "enumerate") (hm : X.mg "enumerate" = none) (ha : PA X [e] ta) (hs : starEach [e] X.env = [(false, eval e X.env)] := by rfl) :
    PI X (.Tuple elts kk tpos) (.Call (.Name "enumerate" p) [e] [] pos) (iEnumF X.K ta) := by
  refine ⟨fun pins s σ H R I h => Call_ (ld_blt I hg hm boot_enumerate (PyProof.Rows.callWith_type1 (thn (ha.run pos pins s σ H _ I h) ?_) hs rfl))⟩
  rintro us s1 ⟨vs, H1, I1, r1, a, xs, rfl, hq⟩
  cases r1 with
  | cons r rr =>
    cases rr
    cases r
    rcases hq with ⟨hq, q⟩ | ⟨hq, q⟩
    · obtain ⟨its, rv, p', hz⟩ := I1.list hq
      refine call_enumerate_list p'.isList fun h' he hit hsz hk => wpAny_pyIter_enum he ?_
      have I2 : Inv X pins σ H1 { s1 with heap := h' } := I1.kept (t' := s1.toks) hk
      refine ⟨s1.heap.objs.size + 1, [s1.heap.objs.size + 1, s1.heap.objs.size], _, _, H1, rfl, I2, turn_enumF a (s1.heap.objs.size + 1) s1.heap.objs.size, ⟨⟨.none, he⟩, hit, Nat.succ_ne_self _⟩, fun b hb => ?_, q⟩
      have le : s1.heap.objs.size ≤ b := by
        rcases (show b = s1.heap.objs.size + 1 ∨ b = s1.heap.objs.size by simpa using hb) with rfl | rfl
        · exact Nat.le_add_right _ _
        · exact Nat.le_refl _
      exact I1.fpOk le (I1.hok.fresh le)
    · obtain ⟨its, rv, tu, hz⟩ := I1.tuple hq
      refine enum_of (isTuple_of tu) fun g he hit siz hk => wpAny_pyIter_enum he ?_
      have I2 : Inv X pins σ H1 { s1 with heap := g } := I1.kept (t' := s1.toks) hk
      refine ⟨s1.heap.objs.size + 1, [s1.heap.objs.size + 1, s1.heap.objs.size], _, _, H1, rfl, I2, turn_enumTF a (s1.heap.objs.size + 1) s1.heap.objs.size, ⟨⟨.none, he⟩, hit, Nat.succ_ne_self _⟩, fun b hb => ?_, q⟩
      have le : s1.heap.objs.size ≤ b := by
        rcases (show b = s1.heap.objs.size + 1 ∨ b = s1.heap.objs.size by simpa using hb) with rfl | rfl
        · exact Nat.le_add_right _ _
        · exact Nat.le_refl _
      exact I1.fpOk le (I1.hok.fresh le)

theorem walk_enumF {K : PySem.W.Frag} {a : Addr} {xs : List V} : Walk (IteF K a) xs.length (fun H => SqL K H a xs) (fun i H v H' => ∃ T x o, v = .ref T ∧ H T = none ∧ o.dict = none ∧ H' = upd H T (.frz o (.tup [.int (i : Nat), x])) ∧ xs[i]? = some x) := by
  refine ⟨fun i _ hi q => ⟨xs, xs[i], q, by simp [hi]⟩, fun _ q => ⟨xs, q, Nat.le_refl _⟩, ?_⟩
  rintro i H v H' _ q ⟨T, x, o, h1, h2, h3, h4, h5⟩
  exact ⟨T, x, o, h1, h2, h3, h4, h5 xs q⟩
theorem walk_enumTF {K : PySem.W.Frag} {a : Addr} {xs : List V} : Walk (IteTF K a) xs.length (fun H => SqT K H a xs) (fun i H v H' => ∃ T x o, v = .ref T ∧ H T = none ∧ o.dict = none ∧ H' = upd H T (.frz o (.tup [.int (i : Nat), x])) ∧ xs[i]? = some x) := by
  refine ⟨fun i _ hi q => ⟨xs, xs[i], q, by simp [hi]⟩, fun _ q => ⟨xs, q, Nat.le_refl _⟩, ?_⟩
  rintro i H v H' _ q ⟨T, x, o, h1, h2, h3, h4, h5⟩
  exact ⟨T, x, o, h1, h2, h3, h4, h5 xs q⟩
end F

set_option maxRecDepth 100000
namespace D
open PySem L2 G PySem.Spec PyProof.Rows
variable [Tbs]
/-! ### plain tuples by enumerate, xs[::-1], xs * n -/
section
variable {K : PySem.W.Frag} {H : Hp} {c : Ctx} {w : Om} {E : XK}
theorem iter_frz {J : It} {n : Nat} {G : Hp → Prop} {f : Nat → Option V} {ds : List PyData} (wk : Walk J n G (fun i H v H' => ∃ T x o, v = .ref T ∧ H T = none ∧ o.dict = none ∧ H' = upd H T (.frz o (.tup [.int (i : Nat), x])) ∧ f i = some x)) (hn : ds.length = n) (hG : ∀ H' c' w', Same c.H0 c'.H0 → Hold K H' c' w' → G H')
    (h : ∀ (i : Nat) x, i < n → f i = some x → ∃ b, ds[i]? = some (.tuple [.int (i : Nat), b]) ∧ Dp K c.H0 x b) : IterR K c J ds := by
  subst hn
  refine ⟨G, _, wk, hG, fun i H1 c1 w1 v H2 hi g hd y => ?_⟩
  obtain ⟨T, x, o, rfl, nT, no, rfl, ex⟩ := y
  obtain ⟨b, e, db⟩ := h i x hi ex
  exact ⟨_, _, hd.grow (o := .frz o (.tup _)) nT, hd.new nT (fun _ => no), e, Dp.newF (.cons (.int _) (.cons ((Held.of g).dp _ _ db) .nil)) (hd.free nT)⟩
end
section
variable {X : Cx} {E : XK} {e tg : Expr} {es : List Expr} {te : TE} {t : TA} {m : Rho → M Val} {ms : Rho → M (List Val)}
theorem di_enumF (ha : DA X E es t ms) (pi : PI X tg e (F.iEnumF X.K t)) : DI X E tg e (F.iEnumF X.K t) (mEnum ms) :=
  ⟨pi, fun σ ρ H c w R er hd p => ha.rd σ ρ H c w _ er hd (Post.bind p fun vs H1 c1 xs w1 g1 hd1 r1 p1 => by
    obtain ⟨c2, w2, ds, g2, hd2, rd, p2⟩ := post_frzs hd1 r1 p1
    revert p2
    split
    · intro p2
      cases rd with
      | cons a b =>
        cases b
        cases a with
        | lst q al =>
          refine ⟨_, _, rfl, .inl ⟨(Held.of hd2.sub).sql q, p2 _ H1 c2 (.refl _) hd2 ?_⟩⟩
          refine iter_frz F.walk_enumF (by rw [enum_len, al.length]) (fun H' c' w' g hd => (Held.of (g.trans hd.sub)).sql q) fun i x hi ex => ?_
          obtain ⟨d, e2, r⟩ := al.getV ex
          exact ⟨d, enum_get e2, r⟩
    · intro p2
      cases rd with
      | cons a b =>
        cases b
        cases a with
        | tup q al =>
          refine ⟨_, _, rfl, .inr ⟨(Held.of hd2.sub).sqt q, p2 _ H1 c2 (.refl _) hd2 ?_⟩⟩
          refine iter_frz F.walk_enumTF (by rw [enum_len, al.length]) (fun H' c' w' g hd => (Held.of (g.trans hd.sub)).sqt q) fun i x hi ex => ?_
          obtain ⟨d, e2, r⟩ := al.getV ex
          exact ⟨d, enum_get e2, r⟩
    · intro p2; exact p2.elim)⟩
end
section
variable {K : PySem.W.Frag}
theorem rd_revF : UnRd K (fun x H1 Q => ∃ a xs, x = .ref a ∧ SqT K H1 a xs ∧ ∀ p o, H1 p = none → o.dict = none → Q (.ref p) (upd H1 p (.frz o (.tup xs.reverse)))) gRev := by
  intro x H c w a d Q hd hx eg k
  unfold gRev at eg
  split at eg
  · cases eg
    obtain ⟨p, vs, rfl, q1, a1⟩ := hx.tuple hd.sub
    exact ⟨p, vs, rfl, q1, fun t o nt no => k _ _ _ (hd.grow (o := .frz o (.tup _)) nt) (hd.new nt (fun _ => no)) (Dp.newF (DpAll.rev a1) (hd.free nt))⟩
  · cases eg
omit [Tbs] in
/-- a number, a list or a plain tuple, times a number -/
def gMulF : PyData → PyData → Option PyData
  | .tuple xs, .int k => if k = 1 then some (.tuple xs) else if xs ≠ [] ∧ 2 ≤ k ∧ k ≤ 1000 ∧ xs.length ≤ 1000 then some (.tuple (List.replicate k.toNat xs).flatten) else none
  | a, b => gMulQ a b
omit [Tbs] in
def rMulF (K : PySem.W.Frag) : R2 := fun x y H Q => rMulC K x y H Q ∨ F.rRepF K x y H Q
omit [Tbs] in
theorem op_mulF {X : Cx} : OpR X (binaryOp .Mult) (rMulF X.K) := OpR.or op_mulC F.op_repF
theorem rd_mulF : OpRd K (rMulF K) gMulF := by
  intro x y H c w a b d Q hd hx hy eg k
  unfold gMulF at eg
  split at eg
  · rename_i xs z
    by_cases h1 : z = 1
    · rw [if_pos h1] at eg
      subst h1
      cases eg
      obtain ⟨p, vs, rfl, q1, a1⟩ := hx.tuple hd.sub
      refine .inl (.inl (.inr ⟨p, vs, rfl, hy.int, q1, k _ _ _ (.refl _) hd ?_⟩))
      rcases hx with hx | ⟨_, _, _, _, z2, _⟩
      · exact hx
      · cases z2
    · rw [if_neg h1] at eg
      obtain ⟨⟨h2, h3, h4, h5⟩, rfl⟩ := ite_some eg
      obtain ⟨p, vs, rfl, q1, a1⟩ := hx.tuple hd.sub
      have l1 := a1.length
      refine .inr ⟨p, _, vs, rfl, hy.int, q1, fun e => h2 (List.eq_nil_of_length_eq_zero (by rw [← l1, e]; rfl)), h3, h4, by omega, fun t o nt no => k _ _ _ (hd.grow (o := .frz o (.tup _)) nt) (hd.new nt (fun _ => no)) (Dp.newF (DpAll.rep a1 _) (hd.free nt))⟩
  · exact .inl (rd_mulQ x y H c w a b d Q hd hx hy eg k)
end
section
variable {X : Cx} {E : XK} {e : Expr} {te : TE} {m : Rho → M Val} {k : Nat} {p1 p2 p3 pos : Pos}
theorem de_revF (he : DE X E e te m) : DE X E (.Subscript e (.Slice none none (some (.UnaryOp .USub (.Constant (.int 1) k p1) p2)) p3) pos) (F.tRevF X.K te) (mUn gRev m) :=
  ⟨F.pe_revF he.pe, fun σ ρ H c w Q er hd p => he.rd σ ρ H c w _ er hd (Post.bind p fun x H1 c1 vx w1 gg hd1 r1 p1 => un_end rd_revF hd1 r1 p1)⟩
end
/-! ### d.get(k, x), d of one's own -/
omit [Tbs] in
def mDGet2 (mo mk mx : Rho → M Val) : Rho → M Val := fun ρ => bnd (mo ρ) fun x => fun w => match x with
  | .o n => (match w[n]? with
    | some (.dct _) => bnd (mk ρ) (fun y => bnd (mx ρ) fun z => fun w => match y, w[n]? with
      | .d k, some (.dct kvs) => (match keyOf k with
        | some key => (match valD kvs key with | some d => .ok (.d d) w | none => .ok z w)
        | none => .bad)
      | _, _ => .bad) w
    | _ => .bad)
  | _ => .bad
section
variable {X : Cx} {E : XK} {o i f call : Expr} {to ti tf : TE} {mo mi mf : Rho → M Val}
theorem de_dget2 (pe : PE X call (tDGet2 to ti tf)) (ho : DE X E o to mo) (hi : DE X E i ti mi) (hf : DE X E f tf mf) : DE X E call (tDGet2 to ti tf) (mDGet2 mo mi mf) :=
  ⟨pe, fun σ ρ H c w Q er hd p => ho.rd σ ρ H c w _ er hd (Post.bind p fun v H1 c1 x w1 g1 hd1 r1 p1 => by
    cases x with
    | d x => exact p1.elim
    | o n =>
      dsimp only at p1
      cases q : w1[n]? with
      | none => rw [q] at p1; exact p1.elim
      | some ob =>
        rw [q] at p1
        cases ob with
        | lst xs => exact p1.elim
        | frz xs => exact p1.elim
        | fdc xs => exact p1.elim
        | dct kvs0 =>
          try dsimp only at p1
          obtain ⟨a1, e1, ea, n0, ws, eh, al⟩ := ob_at hd1 r1 q
          subst e1
          refine ⟨a1, rfl, .inl ⟨ws, .inl eh⟩, hi.rd σ ρ H1 c1 w1 _ (er.mono g1) hd1 (Post.bind (r := mi ρ w1) p1 fun u H2 c2 y w2 g2 hd2 r2 p2 =>
            hf.rd σ ρ H2 c2 w2 _ ((er.mono g1).mono g2) hd2 (Post.bind (r := mf ρ w2) p2 fun z H3 c3 vz w3 g3 hd3 r3 p3 => ?_))⟩
          cases y with
          | o m => exact p3.elim
          | d k =>
            try dsimp only at p3
            cases q3 : w3[n]? with
            | none => rw [q3] at p3; exact p3.elim
            | some ob3 =>
              rw [q3] at p3
              cases ob3 with
              | lst xs => exact p3.elim
              | frz xs => exact p3.elim
              | fdc xs => exact p3.elim
              | dct kvs =>
                dsimp only at p3
                cases qk : keyOf k with
                | none => rw [qk] at p3; exact p3.elim
                | some key =>
                  rw [qk] at p3
                  dsimp only at p3
                  obtain ⟨a3, e3, ea3, n3, ws3, eh3, al3⟩ := ob_at hd3 ((r1.mono g2).mono g3) q3
                  cases e3
                  have eu := key_v (r2.mono g3) qk
                  subst eu
                  have kd := KD.val (k := key) al3
                  cases qv : valD kvs key with
                  | some d =>
                    rw [qv] at p3
                    obtain ⟨v2, ev, rv⟩ := kd.1 d qv
                    refine ⟨_, DGet.k eh3, ?_⟩
                    rw [ev]
                    exact p3 v2 H3 c3 (.refl _) hd3 rv
                  | none =>
                    rw [qv] at p3
                    refine ⟨_, DGet.k eh3, ?_⟩
                    rw [kd.2 qv]
                    exact p3 z H3 c3 (.refl _) hd3 r3)⟩
end
omit [Tbs] in
theorem mulF {i j : Int} (h : i.natAbs < 2 ^ 64) (h' : j.natAbs < 2 ^ 64) : gMulF (.int i) (.int j) = some (.int (i * j)) := mulI h h'
/-! ### xs[::-1] of a list or a plain tuple -/
omit [Tbs] in
def gRevL : PyData → Option PyData
  | .list xs => some (.list xs.reverse)
  | _ => none
omit [Tbs] in
def gRevA : PyData → Option PyData
  | .list xs => some (.list xs.reverse)
  | d => gRev d
theorem rd_revL {K : PySem.W.Frag} : UnRd K (fun x H1 Q => ∃ a xs, x = .ref a ∧ SqL K H1 a xs ∧ ∀ p, H1 p = none → Q (.ref p) (upd H1 p (.lst xs.reverse))) gRevL := by
  intro x H c w a d Q hd hx eg k
  unfold gRevL at eg
  split at eg
  · cases eg
    obtain ⟨p, vs, rfl, q1, a1⟩ := hx.list hd.sub
    exact ⟨p, vs, rfl, q1, fun t nt => k _ _ _ (hd.grow (o := .lst _) nt) (hd.new nt) (Dp.newL (DpAll.rev a1) (hd.free nt))⟩
  · cases eg
omit [Tbs] in
def tOr (t1 t2 : TE) : TE := fun σ H Q => t1 σ H Q ∨ t2 σ H Q
section
variable {X : Cx} {E : XK} {e : Expr} {te t1 t2 : TE} {m : Rho → M Val} {k : Nat} {p1 p2 p3 pos : Pos}
omit [Tbs] in
theorem pe_or2 (h1 : PE X e t1) (h2 : PE X e t2) : PE X e (tOr t1 t2) := ⟨fun pins s σ H Q I h => h.elim (h1.run pins s σ H Q I) (h2.run pins s σ H Q I)⟩
theorem de_revA (he : DE X E e te m) : DE X E (.Subscript e (.Slice none none (some (.UnaryOp .USub (.Constant (.int 1) k p1) p2)) p3) pos) (tOr (F.tRevF X.K te) (tRevL X.K te)) (mUn gRevA m) := by
  refine ⟨pe_or2 (F.pe_revF he.pe) (pe_revL he.pe), fun σ ρ H c w Q er hd p => ?_⟩
  by_cases hl : ∃ x w1 xs, m ρ w = .ok x w1 ∧ look w1 x = some (.list xs)
  · obtain ⟨x, w1, xs, q1, q2⟩ := hl
    have e2 : mUn gRevA m ρ w = mUn gRevL m ρ w := by
      unfold mUn bnd
      rw [q1]
      dsimp only [R.then]
      rw [q2]
      rfl
    rw [e2] at p
    exact .inr (he.rd σ ρ H c w _ er hd (Post.bind p fun x H1 c1 vx w1 gg hd1 r1 p1 => un_end rd_revL hd1 r1 p1))
  · have e1 : mUn gRevA m ρ w = mUn gRev m ρ w := by
      unfold mUn bnd
      cases q1 : m ρ w with
      | bad => rfl
      | exn x w1 => rfl
      | ok x w1 =>
        dsimp only [R.then]
        cases q2 : look w1 x with
        | none => rfl
        | some d =>
          cases d with
          | list xs => exact absurd ⟨x, w1, xs, q1, q2⟩ hl
          | _ => rfl
    rw [e1] at p
    exact .inl (he.rd σ ρ H c w _ er hd (Post.bind p fun x H1 c1 vx w1 gg hd1 r1 p1 => un_end rd_revF hd1 r1 p1))
end
end D

set_option maxRecDepth 100000
namespace D
open PySem L2 G PySem.Spec PyProof.Rows
variable [Tbs]
/-! ### the suite of a handler: slot 1 holds the exception -/
omit [Tbs] in
structure GX where
  K : PySem.W.Frag
  a : Addr
  dd : Addr
  ws : List (Str × V)
  fs : List (Str × PyData)
omit [Tbs] in
structure Gd (g : GX) (σ : L2.St) (c : Ctx) : Prop where
  s : σ[1]? = some (some (.ref g.a))
  p : (g.dd, HO.xd g.ws) ∈ c.ex ∨ c.H0 g.dd = some (.xd g.ws)
  f : Paired (fun (p : Str × V) (q : Str × PyData) => p.1 = q.1 ∧ Dp g.K c.H0 p.2 q.2) g.ws g.fs
omit [Tbs] in
theorem paired_mono {K : PySem.W.Frag} {H H' : Hp} (s : Same H H') : ∀ {ws : List (Str × V)} {fs : List (Str × PyData)}, Paired (fun (p : Str × V) (q : Str × PyData) => p.1 = q.1 ∧ Dp K H p.2 q.2) ws fs → Paired (fun (p : Str × V) (q : Str × PyData) => p.1 = q.1 ∧ Dp K H' p.2 q.2) ws fs
  | _, _, .nil => .nil
  | _, _, .cons h t => .cons ⟨h.1, (Held.of s).dp _ _ h.2⟩ (paired_mono s t)
omit [Tbs] in
theorem paired_look {K : PySem.W.Frag} {H : Hp} {n : Str} {d : PyData} : ∀ {ws : List (Str × V)} {fs : List (Str × PyData)}, Paired (fun (p : Str × V) (q : Str × PyData) => p.1 = q.1 ∧ Dp K H p.2 q.2) ws fs → fs.lookup n = some d → ∃ v, ws.lookup n = some v ∧ Dp K H v d
  | _, _, .nil, e => by cases e
  | (k, v) :: ws, (k', d') :: fs, .cons h t, e => by
    obtain ⟨h1, h2⟩ := h
    cases h1
    rw [List.lookup_cons] at e ⊢
    cases q : n == k with
    | true => rw [q] at e; cases e; exact ⟨v, rfl, h2⟩
    | false => rw [q] at e; exact paired_look t e
section
variable {g : GX} {σ : L2.St} {c c' : Ctx}
omit [Tbs] in
theorem Gd.mono (q : Grow c c') (h : Gd g σ c) : Gd g σ c' := ⟨h.s, h.p.imp (fun z => by rw [q.e]; exact z) fun z => q.h _ _ z, paired_mono q.h h.f⟩
omit [Tbs] in
theorem Gd.set {i : Nat} {v : Option V} (h : Gd g σ c) (hi : i ≠ 1) : Gd g (σ.set i v) c := ⟨by rw [List.getElem?_set_ne hi]; exact h.s, h.p, h.f⟩
theorem Gd.xd {K : PySem.W.Frag} {H : Hp} {w : Om} (h : Gd g σ c) (hd : Hold K H c w) : H g.dd = some (.xd g.ws) := h.p.elim (fun z => (hd.pin _ z).1) fun z => hd.sub _ _ z
end
structure HE (g : GX) (X : Cx) (E : XK) (e : Expr) (t : TE) (m : Rho → M Val) : Prop where
  pe : PE X e t
  rd : ∀ (σ : L2.St) (ρ : Rho) (H : Hp) (c : Ctx) (w : Om) (Q : VK), Gd g σ c → ER X.K c σ ρ → Hold X.K H c w → Post X.K X.mg E c (VR X.K) (m ρ w) Q → t σ H Q
structure HA (g : GX) (X : Cx) (E : XK) (es : List Expr) (t : TA) (m : Rho → M (List Val)) : Prop where
  pa : PA X es t
  rd : ∀ (σ : L2.St) (ρ : Rho) (H : Hp) (c : Ctx) (w : Om) (Q : List V → Hp → Prop), Gd g σ c → ER X.K c σ ρ → Hold X.K H c w → Post X.K X.mg E c (VRs X.K) (m ρ w) Q → t σ H Q
structure HT (g : GX) (X : Cx) (E : XK) (e : Expr) (t : TT) (m : Rho → M Bool) : Prop where
  pt : PT X e t
  rd : ∀ (σ : L2.St) (ρ : Rho) (H : Hp) (c : Ctx) (w : Om) (Q : Bool → Hp → Prop), Gd g σ c → ER X.K c σ ρ → Hold X.K H c w → Post X.K X.mg E c BB (m ρ w) Q → t σ H Q
structure HW (g : GX) (X : Cx) (E : XK) (e : Expr) (t : TT) (m : Rho → M Bool) : Prop where
  pw : PW X e t
  rd : ∀ (σ : L2.St) (ρ : Rho) (H : Hp) (c : Ctx) (w : Om) (Q : Bool → Hp → Prop), Gd g σ c → ER X.K c σ ρ → Hold X.K H c w → Post X.K X.mg E c BB (m ρ w) Q → t σ H Q
def HPost (g : GX) (K : PySem.W.Frag) (c : Ctx) (D : Ends) : Fl → Prop
  | .nx ρ w => ∀ σ H c', Grow c c' → Gd g σ c' → Hold K H c' w → ER K c' σ ρ → D.nx σ H
  | .rt x w => ∀ v H c', Grow c c' → Hold K H c' w → VR K c' v x → D.rt v H
  | _ => False
theorem HPost.mono {g : GX} {K : PySem.W.Frag} {c c' : Ctx} {D : Ends} {f : Fl} (q : Grow c c') (h : HPost g K c D f) : HPost g K c' D f := by
  cases f with
  | nx ρ w => exact fun a b c2 g2 => h a b c2 (q.trans g2)
  | rt ρ w => exact fun a b c2 g2 => h a b c2 (q.trans g2)
  | _ => exact h
theorem HPost.bind {g : GX} {K : PySem.W.Frag} {mg : Str → Option Value} {c : Ctx} {D : Ends} {α β : Type} {rel : Ctx → β → α → Prop} {r : R α} {k : α → Om → Fl} {Q : β → Hp → Prop} (h : HPost g K c D (r.thenF k))
    (q : ∀ v H' c' x w', Grow c c' → Hold K H' c' w' → rel c' v x → HPost g K c' D (k x w') → Q v H') : Post K mg E0 c rel r Q := by
  cases r with
  | bad => exact h
  | ok x w => exact fun v H' c2 g2 hd r => q v H' c2 x w g2 hd r (HPost.mono g2 h)
  | exn x w => exact h.elim
structure HS (g : GX) (X : Cx) (s : Stmt) (t : TS) (b : B) : Prop where
  ps : PS X s t
  rd : ∀ (σ : L2.St) (ρ : Rho) (H : Hp) (c : Ctx) (w : Om) (D : Ends), Gd g σ c → ER X.K c σ ρ → Hold X.K H c w → HPost g X.K c D (b ρ w) → t D σ H
structure HSs (g : GX) (X : Cx) (s : List Stmt) (t : TS) (b : B) : Prop where
  ps : PSs X s t
  rd : ∀ (σ : L2.St) (ρ : Rho) (H : Hp) (c : Ctx) (w : Om) (D : Ends), Gd g σ c → ER X.K c σ ρ → Hold X.K H c w → HPost g X.K c D (b ρ w) → t D σ H
section
variable {g : GX} {X : Cx} {E : XK} {e a b : Expr} {es : List Expr} {te ta tb tc : TE} {t : TA} {tt tu : TT} {m m1 m2 m3 : Rho → M Val} {ms : Rho → M (List Val)} {mt mu : Rho → M Bool} {pos : Pos} {r : R2} {gg : PyData → PyData → Option PyData}
theorem he_of (h : DE X E e te m) : HE g X E e te m := ⟨h.pe, fun σ ρ H c w Q _ er hd p => h.rd σ ρ H c w Q er hd p⟩
theorem ha_nil : HA g X E [] tNil mNil := ⟨pa_nil, fun σ ρ H c w Q _ er hd p => p [] H c (.refl _) hd .nil⟩
theorem ha_cons (he : HE g X E e te m) (hr : HA g X E es t ms) (hs : starEach (e :: es) X.env = (false, eval e X.env) :: starEach es X.env := by rfl) : HA g X E (e :: es) (tCons te t) (mCons m ms) :=
  ⟨pa_cons he.pe hr.pa hs, fun σ ρ H c w Q gd er hd p => he.rd σ ρ H c w _ gd er hd (Post.bind p fun v H1 c1 x w1 g1 hd1 r1 p1 =>
    hr.rd σ ρ H1 c1 w1 _ (gd.mono g1) (er.mono g1) hd1 (Post.bind p1 fun vs H2 c2 xs w2 g2 hd2 r2 p2 => p2 (v :: vs) H2 c2 (.refl _) hd2 (.cons (r1.mono g2) r2)))⟩
theorem he_tup (h : HA g X E es t ms) {k} : HE g X E (.Tuple es k pos) (F.tTupF t) (mTup ms) :=
  ⟨F.pe_tupF h.pa, fun σ ρ H c w Q gd er hd p => h.rd σ ρ H c w _ gd er hd (Post.bind p fun vs H1 c1 xs w1 g1 hd1 r1 p1 => by
    obtain ⟨c2, w2, ds, g2, hd2, al, p2⟩ := post_frzs hd1 r1 p1
    obtain ⟨hl, p3⟩ := post_ite p2
    exact ⟨lineOk (by rw [al.length]; exact hl), fun q o nq ho => p3 _ _ _ (hd2.grow (o := .frz o (.tup vs)) nq) (hd2.new nq (fun _ => ho)) (Dp.newF al (hd2.free nq))⟩)⟩
theorem he_lst (h : HA g X E es t ms) : HE g X E (.List es pos) (tLst t) (mLst ms) := by
  refine ⟨?_, fun σ ρ H c w Q gd er hd p => h.rd σ ρ H c w _ gd er hd (Post.bind p fun vs H1 c1 xs w1 g1 hd1 r1 p1 => ?_)⟩
  · exact pe_lst h.pa
  · obtain ⟨c2, w2, ds, g2, hd2, al, p2⟩ := post_frzs hd1 r1 p1
    obtain ⟨hl, p3⟩ := post_ite p2
    exact ⟨lineOk (by rw [al.length]; exact hl), fun q nq => p3 _ _ _ (hd2.grow (o := .lst vs) nq) (hd2.new nq) (Dp.newL al (hd2.free nq))⟩
theorem he_2 (pe : PE X e (tOp r ta tb)) (hr : OpRd X.K r gg) (ha : HE g X E a ta m1) (hb : HE g X E b tb m2) : HE g X E e (tOp r ta tb) (mOp gg m1 m2) :=
  ⟨pe, fun σ ρ H c w Q gd er hd p => ha.rd σ ρ H c w _ gd er hd (Post.bind p fun x H1 c1 vx w1 g1 hd1 r1 p1 =>
    hb.rd σ ρ H1 c1 w1 _ (gd.mono g1) (er.mono g1) hd1 (Post.bind p1 fun y H2 c2 vy w2 g2 hd2 r2 p2 => op_end hr hd2 (r1.mono g2) r2 p2))⟩
theorem he_op {op : Operator} (ho : OpR X (binaryOp op) r) (hr : OpRd X.K r gg) (ha : HE g X E a ta m1) (hb : HE g X E b tb m2) : HE g X E (.BinOp a op b pos) (tOp r ta tb) (mOp gg m1 m2) :=
  he_2 (pe_op ho ha.pe hb.pe) hr ha hb
theorem he_cmp {op : CmpOp} (ho : OpR X (compareOp op) r) (hr : OpRd X.K r gg) (ha : HE g X E a ta m1) (hb : HE g X E b tb m2) (hm : behindInMarks op b = false) : HE g X E (.Compare a [op] [b] pos) (tOp r ta tb) (mOp gg m1 m2) :=
  he_2 (pe_cmpR ho ha.pe hb.pe hm) hr ha hb
theorem he_ix (ho : IxR X r) (hr : OpRd X.K r gg) (ha : HE g X E a ta m1) (hb : HE g X E b tb m2) (hs : PlainIx b) : HE g X E (.Subscript a b pos) (tOp r ta tb) (mOp gg m1 m2) :=
  he_2 (pe_ix ho ha.pe hb.pe hs) hr ha hb
theorem hrd_test (he : HE g X E e te m) : ∀ (σ : L2.St) (ρ : Rho) (H : Hp) (c : Ctx) (w : Om) (Q : Bool → Hp → Prop), Gd g σ c → ER X.K c σ ρ → Hold X.K H c w → Post X.K X.mg E c BB (mTest m ρ w) Q → te σ H fun x H' => ∃ k, x = .bl k ∧ Q k H' :=
  fun σ ρ H c w Q gd er hd p => he.rd σ ρ H c w _ gd er hd (Post.bind p fun v H1 c1 x w1 g1 hd1 r1 p1 => by
    cases x with
    | o n => exact p1.elim
    | d x =>
      cases x with
      | bool k => cases r1; exact ⟨k, rfl, p1 k H1 c1 (.refl _) hd1 rfl⟩
      | _ => exact p1.elim)
theorem ht_val (he : HE g X E e te m) (h : ∀ whole, isTrue e X.env whole = (do let v ← whole; standAt e.pos; holding [v] (truthy v)) := by intro _; rfl) : HT g X E e (tB te) (mTest m) := ⟨pt_val he.pe h, hrd_test he⟩
theorem ht_cmp {op : CmpOp} (ho : OpR X (compareOp op) r) (hr : OpRd X.K r gg) (ha : HE g X E a ta m1) (hb : HE g X E b tb m2) (hm : behindInMarks op b = false) : HT g X E (.Compare a [op] [b] pos) (tTest (tOp r ta tb)) (mTest (mOp gg m1 m2)) :=
  ⟨pt_cmpR ho ha.pe hb.pe hm, hrd_test (he_cmp (pos := pos) ho hr ha hb hm)⟩
theorem ht_not (h : HT g X E a tt mt) : HT g X E (.UnaryOp .Not a pos) (tNot tt) (mNot mt) :=
  ⟨pt_not h.pt, fun σ ρ H c w Q gd er hd p => h.rd σ ρ H c w _ gd er hd (Post.bind p fun v H1 c1 x w1 g1 hd1 r1 p1 => by cases r1; exact p1 _ H1 c1 (.refl _) hd1 rfl)⟩
theorem HW.ht (h : HW g X E e tt mt) : HT g X E e tt mt := ⟨h.pw.pt, h.rd⟩
theorem hw_and1 (h : HT g X E a tt mt) : HW g X E (.BoolOp .And [a] pos) tt mt := ⟨pw_and1 h.pt, h.rd⟩
theorem hw_or1 (h : HT g X E a tt mt) : HW g X E (.BoolOp .Or [a] pos) tt mt := ⟨pw_or1 h.pt, h.rd⟩
theorem hw_and {rest : List Expr} (h : HT g X E a tt mt) (h2 : HW g X E (.BoolOp .And (b :: rest) pos) tu mu) : HW g X E (.BoolOp .And (a :: b :: rest) pos) (tAnd tt tu) (mAnd mt mu) :=
  ⟨pw_and h.pt h2.pw, fun σ ρ H c w Q gd er hd p => h.rd σ ρ H c w _ gd er hd (Post.bind p fun v H1 c1 x w1 g1 hd1 r1 p1 => by
    cases r1
    cases v with
    | true => rw [if_pos rfl] at p1 ⊢; exact h2.rd σ ρ H1 c1 w1 _ (gd.mono g1) (er.mono g1) hd1 p1
    | false => rw [if_neg (by decide)] at p1 ⊢; exact p1 _ H1 c1 (.refl _) hd1 rfl)⟩
theorem hw_or {rest : List Expr} (h : HT g X E a tt mt) (h2 : HW g X E (.BoolOp .Or (b :: rest) pos) tu mu) : HW g X E (.BoolOp .Or (a :: b :: rest) pos) (L2.tOr tt tu) (mOr mt mu) :=
  ⟨pw_or h.pt h2.pw, fun σ ρ H c w Q gd er hd p => h.rd σ ρ H c w _ gd er hd (Post.bind p fun v H1 c1 x w1 g1 hd1 r1 p1 => by
    cases r1
    cases v with
    | true => rw [if_pos rfl] at p1 ⊢; exact p1 _ H1 c1 (.refl _) hd1 rfl
    | false => rw [if_neg (by decide)] at p1 ⊢; exact h2.rd σ ρ H1 c1 w1 _ (gd.mono g1) (er.mono g1) hd1 p1)⟩
theorem he_ifExp {c : Expr} (hc : HT g X E c tt mt) (ha : HE g X E a ta m1) (hb : HE g X E b tb m2) : HE g X E (.IfExp c a b pos) (tIf tt ta tb) (mIf mt m1 m2) :=
  ⟨pe_ifExp hc.pt ha.pe hb.pe, fun σ ρ H c w Q gd er hd p => hc.rd σ ρ H c w _ gd er hd (Post.bind p fun v H1 c1 x w1 g1 hd1 r1 p1 => by
    cases r1
    cases v with
    | true => rw [if_pos rfl] at p1 ⊢; exact ha.rd σ ρ H1 c1 w1 _ (gd.mono g1) (er.mono g1) hd1 p1
    | false => rw [if_neg (by decide)] at p1 ⊢; exact hb.rd σ ρ H1 c1 w1 _ (gd.mono g1) (er.mono g1) hd1 p1)⟩
/-- isinstance(e, C) -/
theorem he_is {D : Addr} {cv : V} {val : Value} {k : Bool} (pe : PE X e (tCB (fun xs H Q => (∃ fs, H g.dd = some (.xd fs)) ∧ rIsE X.K D g.a xs H Q) (tCons (tVar 1) (tCons (tC cv) tNil)))) (hcv : ∀ u, RelV cv u → u = val) (hk : PySem.W.kitOne X.K (.ref D) val = some k) :
    HE g X E e (tCB (fun xs H Q => (∃ fs, H g.dd = some (.xd fs)) ∧ rIsE X.K D g.a xs H Q) (tCons (tVar 1) (tCons (tC cv) tNil))) (mC (.bool k)) :=
  ⟨pe, fun σ ρ H c w Q gd er hd p => ⟨_, gd.s, ⟨_, gd.xd hd⟩, cv, val, k, rfl, hcv, hk, p _ H c (.refl _) hd (.bl k)⟩⟩
/-- e.f -/
theorem he_fld {D : Addr} {n : Str} {d : PyData} (pe : PE X e (tXf g.a (.ref D) (some g.dd) D n (tVar 1))) (hK : g.K = X.K) (l : g.fs.lookup n = some d) : HE g X E e (tXf g.a (.ref D) (some g.dd) D n (tVar 1)) (mC d) :=
  ⟨pe, fun σ ρ H c w Q gd er hd p => by
    obtain ⟨v, e1, dp⟩ := paired_look gd.f l
    exact ⟨_, gd.s, rfl, rfl, g.dd, _, v, rfl, gd.xd hd, e1, p v H c (.refl _) hd (by rw [← hK]; exact dp)⟩⟩
/-! statements -/
theorem hss_nil : HSs g X [] tNext fNext := ⟨pss_nil, fun σ ρ H c w D gd er hd p => p σ H c (.refl _) gd hd er⟩
variable {s : Stmt} {ss : List Stmt} {u v : TS} {f f' : B}
theorem hss_one (h : HS g X s u f) : HSs g X [s] u f := ⟨pss_one h.ps, h.rd⟩
theorem hss_cons (h : HS g X s u f) (h2 : HSs g X ss v f') : HSs g X (s :: ss) (tSeq u v) (fSeq f f') :=
  ⟨pss_cons h.ps h2.ps, fun σ ρ H c w D gd er hd p => by
    refine h.rd σ ρ H c w _ gd er hd ?_
    unfold fSeq at p
    cases q : f ρ w with
    | nx ρ' w' => rw [q] at p; exact fun σ1 H1 c1 g1 gd1 hd1 er1 => h2.rd σ1 ρ' H1 c1 w' D gd1 er1 hd1 (HPost.mono g1 p)
    | bad => rw [q] at p; exact p
    | rt _ _ => rw [q] at p; exact p
    | bk _ _ => rw [q] at p; exact p
    | ct _ _ => rw [q] at p; exact p
    | exn _ _ => rw [q] at p; exact p⟩
theorem hs_set {i : Nat} (hp : PE X e te → PS X s (tAsg te (gName i))) (he : HE g X E0 e te m) (hi : i ≠ 1 := by decide) : HS g X s (tAsg te (gName i)) (fAsg m (mName i)) :=
  ⟨hp he.pe, fun σ ρ H c w D gd er hd p => he.rd σ ρ H c w _ gd er hd (HPost.bind p fun v H1 c1 x w1 g1 hd1 r1 p1 => p1 _ H1 c1 (.refl _) ((gd.mono g1).set hi) hd1 ((er.mono g1).set i r1))⟩
theorem hs_ret (h : HE g X E0 e te m) : HS g X (.Return (some e) pos) (tRet te) (fRet m) :=
  ⟨ps_ret h.pe, fun σ ρ H c w D gd er hd p => h.rd σ ρ H c w _ gd er hd (HPost.bind p fun v H1 c1 x w1 g1 hd1 r1 p1 => p1 v H1 c1 (.refl _) hd1 r1)⟩
theorem hs_if {a b2 : List Stmt} (hc : HT g X E0 e tt mt) (ha : HSs g X a u f) (hb : HSs g X b2 v f') : HS g X (.If e a b2 pos) (tIfS tt u v) (fIf mt f f') :=
  ⟨ps_if hc.pt ha.ps hb.ps, fun σ ρ H c w D gd er hd p => hc.rd σ ρ H c w _ gd er hd (HPost.bind p fun v H1 c1 x w1 g1 hd1 r1 p1 => by
    cases r1
    cases v with
    | true => rw [if_pos rfl] at p1 ⊢; exact ha.rd σ ρ H1 c1 w1 D (gd.mono g1) (er.mono g1) hd1 p1
    | false => rw [if_neg (by decide)] at p1 ⊢; exact hb.rd σ ρ H1 c1 w1 D (gd.mono g1) (er.mono g1) hd1 p1)⟩
/-- code of a handler that is not come to -/
theorem he_never (pe : PE X e te) : HE g X E e te (fun _ _ => .bad) := ⟨pe, fun _ _ _ _ _ _ _ _ _ p => p.elim⟩
theorem hss_never : HSs g X ss tNever (fun _ _ => .bad) := ⟨⟨fun _ _ _ _ _ _ h => h.elim⟩, fun _ _ _ _ _ _ _ _ _ p => p.elim⟩
end
end D

set_option maxRecDepth 100000
namespace D
open PySem L2 G PySem.Spec PyProof.Rows LamX
variable [Tbs]
omit [Tbs] in
theorem pe_mono {X : Cx} {e : Expr} {t : TE} (h : PE X e t) : PE X e (fun σ H Q => ∃ Q' : VK, t σ H Q' ∧ ∀ v H', Q' v H' → Q v H') :=
  ⟨fun pins s σ H Q I ⟨Q', h1, h2⟩ => thn (h.run pins s σ H Q' I h1) fun u s1 ⟨v, H1, I1, r, q⟩ => ⟨v, H1, I1, r, h2 _ _ q⟩⟩
/-- a thing of the heap is set down as one that never changes -/
theorem Hold.note {K : PySem.W.Frag} {H : Hp} {c : Ctx} {w : Om} {p : Addr} {ws : List (Str × V)} (hd : Hold K H c w) (e : H p = some (.xd ws)) :
    ∃ c', Grow c c' ∧ Hold K H c' w ∧ ((p, HO.xd ws) ∈ c'.ex ∨ c'.H0 p = some (.xd ws)) := by
  cases q0 : c.H0 p with
  | some u =>
    have z := hd.sub p u q0
    rw [e] at z
    exact ⟨c, .refl _, hd, .inr (by rw [q0]; exact z.symm)⟩
  | none =>
    by_cases hq : ∃ q ∈ c.ex, q.1 = p
    · obtain ⟨q, hq, rfl⟩ := hq
      have z := (hd.pin q hq).1
      rw [e] at z
      exact ⟨c, .refl _, hd, .inl (by rw [Option.some.inj z]; exact hq)⟩
    · have nal : ∀ n : Nat, ∀ a ob, c.al[n]? = some a → w[n]? = some ob → a ≠ p := fun n a ob ea eo ne => by
        subst ne
        have z := hd.obs n a ob ea eo
        cases ob with
        | lst xs => obtain ⟨_, vs, h2, _⟩ := z; rw [e] at h2; cases h2
        | frz xs => obtain ⟨vs, h2, _⟩ := z; rw [q0] at h2; cases h2
        | fdc xs => obtain ⟨_, vs, h2, _⟩ := z; rw [q0] at h2; cases h2
        | dct kvs => obtain ⟨_, vs, h2, _⟩ := z; rw [e] at h2; cases h2
      have sm : Same c.H0 (upd c.H0 p (.xd ws)) := Same.upd q0
      refine ⟨{ c with H0 := upd c.H0 p (.xd ws) }, ⟨sm, ⟨[], by simp⟩, rfl⟩, ⟨fun b u z => ?_, hd.nd, hd.len, fun n a ob ea eo => ?_, fun q hq2 => ?_, hd.pnd, hd.tab, ⟨nt_upd hd.nt.1 (by intro _ z; cases z), hd.nt.2⟩, pl_upd hd.pl (fun _ => trivial)⟩, .inr upd_same⟩
      · by_cases hb : b = p
        · subst hb
          have z' : upd c.H0 b (.xd ws) b = some u := z
          rw [upd_same] at z'
          cases z'
          exact e
        · have z' : upd c.H0 p (.xd ws) b = some u := z
          rw [upd_ne hb] at z'
          exact hd.sub b u z'
      · have z := hd.obs n a ob ea eo
        have ne := nal n a ob ea eo
        cases ob with
        | lst xs => obtain ⟨h1, vs, h2, h3⟩ := z; exact ⟨by show upd c.H0 p _ a = none; rw [upd_ne ne]; exact h1, vs, h2, (Held.of sm).dpAll _ _ h3⟩
        | frz xs => obtain ⟨vs, h2, h3⟩ := z; exact ⟨vs, sm _ _ h2, (Held.of sm).dpAll _ _ h3⟩
        | fdc xs => obtain ⟨oo, vs, h2, h3⟩ := z; exact ⟨oo, vs, sm _ _ h2, h3.mono sm⟩
        | dct kvs => obtain ⟨h1, vs, h2, h3⟩ := z; exact ⟨by show upd c.H0 p _ a = none; rw [upd_ne ne]; exact h1, vs, h2, h3.mono sm⟩
      · obtain ⟨h1, h2, h3⟩ := hd.pin q hq2
        have ne : q.1 ≠ p := fun z => hq ⟨q, hq2, z⟩
        exact ⟨h1, by show upd c.H0 p _ q.1 = none; rw [upd_ne ne]; exact h2, h3⟩
section
variable {X : Cx} {Ng : List Str} {x ask e cn : Str} {sg : Scope} {g GE : Addr} {cdg : Value} {q : Str} {hc : Exn → Option PyData} {p1 p2 p3 p4 p5 p6 p7 np : Pos} {k6 : Nat} {b₀ : Stmt} {suite : List Stmt} {cx}
abbrev ChX (X : Cx) (Ng : List Str) (x : Str) (sg : Scope) (g : Addr) (cdg : Value) (s : Shared) (H : Hp) : Cx := (cxOf C8.CX0 X.prog X.w X.K X.mg X.base Ng x sg g cdg X.A X.stack s H C8.E0).nox
theorem gives_of (nd : Ng.Nodup) (hN1 : Ng[1]? = some e) (len : 2 ≤ Ng.length) (kind : ∀ s H, (ChX X Ng x sg g cdg s H).env.kindOf e = some .local) (gl : ∀ s H, Gl (ChX X Ng x sg g cdg s H) cn) (hcd : (cn == ("__debug__" : Str)) = false)
    (hN0 : ∀ f : Addr, (L2.start Ng [V.ref f])[0]? = some (some (V.ref f))) (mGE : X.mg cn = some (.ref GE))
    (caught : ∀ y dt C, hc y = some dt → X.mg y.cls = some (.ref C) → PySem.W.exmOne X.K (.ref C) (.ref GE) = some true)
    (hand : ∀ (s : Shared) (H : Hp) (a : Addr) (oe : Obj) (pn : List (Addr × Obj)) (C dd : Addr) (ws : List (Str × V)) (y : Exn) (dt : PyData), Zc (.ref C) (some dd) oe → (∃ vs, oe.data = .fields vs) → X.mg y.cls = some (.ref C) → hc y = some dt →
      ∃ t b, HSs ⟨X.K, a, dd, ws, y.fs⟩ ((ChX X Ng x sg g cdg s H).suite a ((a, oe) :: pn)) (b₀ :: suite) t b ∧ ∀ w, b (List.replicate Ng.length none) w = .rt (.d dt) w) :
    GivesTo X Ng x sg g cdg [.Try [.Return (some (.Tuple [.Constant (.str "told") k6 p4, .Call (.Name ask p1) [] [] p2] cx p5)) p3] [.ExceptHandler (some (.Name cn np)) (some e) (b₀ :: suite) p6] [] [] p7] ask q (TTd X.K X.mg hc) := by
  intro f c' s H Q tl act hcd2 h
  refine ⟨_, pss_one (ps_try_as (X := ChX X Ng x sg g cdg s H) (c := .ref GE) (i := 1)
      (tb := fun W D σ H => ∃ Ech : XK, (∀ cls d σ' H', Ech cls d H' → W cls d σ' H') ∧ F.tTupF (tCons (tC (.str "told")) (tCons (fun σZ HZ Q => ∃ Q' : VK, (σZ[0]? = some (some (.ref f)) ∧ HZ c' = some (CodeO c' q) ∧ tl Ech HZ Q') ∧ ∀ v H', Q' v H' → Q v H') tNil)) σ H D.rt)
      (ts := fun a cls d D σ H => ∃ y c w dt σ0, Hold X.K H c w ∧ ExR X.K X.mg c y cls d H ∧ hc y = some dt ∧ σ = List.set σ0 1 (some (.ref a)) ∧ ∀ v H2 c2, Grow c c2 → Hold X.K H2 c2 w → Dp X.K c2.H0 v dt → D.rt v H2)
      rfl rfl nd hN1 (kind s H) ⟨gl s H, hcd, .inl mGE⟩ L2.takes0 (fun W pn xe tk _ => ?_) (fun a oe cls d pn hz hf => ?_)), ?_⟩
  · refine ⟨fun pins s' σ H' D I h' => ?_⟩
    obtain ⟨Ech, hW, h1⟩ := h'
    exact (pss_one (ps_ret (F.pe_tupF (pa_cons pe_str (pa_cons (pe_mono (act W pn xe Ech _ _ tk hW)) pa_nil))))).run pins s' σ H' D I h1
  · refine ⟨fun pins s' σ H' D I h' => ?_⟩
    obtain ⟨y, c, w, dt, σ0, hd, ⟨C, dd, ws, rfl, mC, rfl, hx, pr⟩, e1, rfl, k⟩ := h'
    obtain ⟨t, b, hs, hb⟩ := hand s H a oe pn C dd ws y dt hz hf mC e1
    obtain ⟨c2, g2, hd2, pin⟩ := hd.note hx
    have len1 : (σ0.set 1 (some (V.ref a))).length = Ng.length := I.len
    have l0 : σ0.length = Ng.length := by rw [List.length_set] at len1; exact len1
    refine (hs.ps.run pins s' _ H' D I ?_ : _)
    refine hs.rd _ (List.replicate Ng.length none) H' c2 w D ⟨List.getElem?_set_self (by omega), pin, paired_mono g2.h pr⟩ ⟨by rw [len1, List.length_replicate], fun i z ez => ?_⟩ hd2 ?_
    · rw [List.getElem?_replicate] at ez
      split at ez
      · cases ez
      · cases ez
    · rw [hb w]
      exact fun v H2 c3 g3 hd3 r3 => k v H2 c3 (g2.trans g3) hd3 r3
  · refine ⟨fun cls d H' => ∃ y c w dt, Hold X.K H' c w ∧ ExR X.K X.mg c y cls d H' ∧ hc y = some dt ∧ ∀ v H2 c2, Grow c c2 → Hold X.K H2 c2 w → Dp X.K c2.H0 v dt → Q v H2, fun cls d σ' H' hh => ?_, ?_⟩
    · obtain ⟨y, c, w, dt, hd, er, e1, k⟩ := hh
      obtain ⟨C, dd, ws, rfl, mC, rfl, hx, pr⟩ := er
      exact ⟨true, caught y dt C e1 mC, fun _ a ha => ⟨y, c, w, dt, σ', hd, ⟨C, dd, ws, rfl, mC, rfl, hx, pr⟩, e1, rfl, k⟩, fun e => by cases e⟩
    · refine ⟨_, ⟨hN0 f, hcd2, h⟩, fun v H' hv => ?_⟩
      obtain ⟨c, w, dt, hd, dp, k⟩ := hv
      refine ⟨by simp [sizeLine], fun p o np ho => ?_⟩
      exact k _ _ _ (hd.grow (o := .frz o (.tup [.str "told", v])) np) (hd.new np (fun _ => ho)) (Dp.newF (.cons (.str _) (.cons dp .nil)) (hd.free np))
end
end D

set_option maxRecDepth 100000
namespace D
open PySem L2 G PySem.Spec PyProof.Rows
variable [Tbs]
section
variable {X : Cx} {E : XK} {elt tg iter tg1 iter1 : Expr} {ifs ifs1 : List Expr} {scope : Scope} {own : List (Str × Nat)} {vs1 : List Nat} {pos spos py : Pos} {wi : TI} {wi1 : BT TI} {g g1 : TG} {tt tt1 : BT TT} {te : BT TE} {mi mi1 : Rho → M (List PyData)} {tm tm1 : Val → Rho → M Rho} {mt mt1 : Rho → M Bool} {me : Rho → M Val} {i : Nat} {y : Str}
/-- x = [.. for .. for ..] of a def's own name -/
theorem ds_setLc2 (hc : X.calm = true) (hN : X.N.Nodup) (hy : X.N[i]? = some y) (hyl : X.env.scope.names.lookup y = some .local)
    (hsw : swapsWith (.ListComp elt [⟨tg, iter, ifs, 0⟩, ⟨tg1, iter1, ifs1, 0⟩] scope pos) (some (.Name y py)) spos.line X.env = pure true) (hi : DI X E tg iter wi mi) (ok : BlkOk X.N X.env.scope scope own) (hv : ∀ i ∈ vs1, i ∈ own.map (·.2))
    (hg : ∀ (s : Shared) (H : Hp) (C : Addr) (cl : List (Str × Addr)) (fp : List Addr), DG (X.blk s H scope (compEnvC scope cl C X.env) fp) tg g tm) (gi : GIn g (own.map (·.2)))
    (ht : ∀ (s : Shared) (H : Hp) (C : Addr) (cl : List (Str × Addr)) (fp : List Addr), DPT (X.blk s H scope (compEnvC scope cl C X.env) fp) E0 ifs (tt s H C cl fp) mt)
    (hi1 : ∀ (s : Shared) (H : Hp) (C : Addr) (cl : List (Str × Addr)) (fp : List Addr), DI (X.blk s H scope (compEnvC scope cl C X.env) fp) E0 tg1 iter1 (wi1 s H C cl fp) mi1)
    (hg1 : ∀ (s : Shared) (H : Hp) (C : Addr) (cl : List (Str × Addr)) (fp : List Addr), DG (X.blk s H scope (compEnvC scope cl C X.env) fp) tg1 g1 tm1) (gi1 : GIn g1 vs1)
    (ht1 : ∀ (s : Shared) (H : Hp) (C : Addr) (cl : List (Str × Addr)) (fp : List Addr), DPT (X.blk s H scope (compEnvC scope cl C X.env) fp) E0 ifs1 (tt1 s H C cl fp) mt1)
    (he : ∀ (s : Shared) (H : Hp) (C : Addr) (cl : List (Str × Addr)) (fp : List Addr), DE (X.blk s H scope (compEnvC scope cl C X.env) fp) E0 elt (te s H C cl fp) me) (hs : ∀ x, foldedSetIterable iter X.env x = pure x := by intro _; rfl) (hs1 : ∀ env x, foldedSetIterable iter1 env x = pure x := by intro _ _; rfl) :
    DS X E (.Assign [.Name y py] (.ListComp elt [⟨tg, iter, ifs, 0⟩, ⟨tg1, iter1, ifs1, 0⟩] scope pos) spos) (tAsg (tLc2 wi g (tAll tt) (iAll wi1) g1 (tAll tt1) (eAll te) (own.map (·.2)) vs1) (gName i)) (fAsg (mLc2 mi tm mt mi1 tm1 mt1 me (own.map (·.2)) vs1) (mName i)) :=
  ds_set (fun _ => ps_setLc2 hc hN hy hyl hsw hi.pi ok hv (fun s H C cl fp => (hg s H C cl fp).pg) (fun s H C cl fp => (ht_all ht s H C cl fp).pt) (fun s H C cl fp => (hi_all hi1 s H C cl fp).pi) (fun s H C cl fp => (hg1 s H C cl fp).pg) (fun s H C cl fp => (ht_all ht1 s H C cl fp).pt) (fun s H C cl fp => (he_all he s H C cl fp).pe) hs hs1)
    (de_lc2D (pos := pos) hc hN hi ok hv hg gi ht hi1 hg1 gi1 ht1 he hs hs1)
end
end D

set_option maxRecDepth 100000
namespace D
open PySem L2 G PySem.Spec PyProof.Rows LamX
variable [Tbs]
section
variable {P : Program} {w : World} {K : PySem.W.Frag} {mg : Str → Option Value} {base : Heap} {k : Nat} {x : Str} {st : Stmt} {ps N : List Str} {c : Addr}
/-- a def whose code object is known -/
theorem fnd_ofC {b : B} {own : Bool} (i : IsC K mg x st c) (S : FnScope N ps (defScope st))
    (args : ∀ (kV doc pm : Value) (an : Option Addr) (cdv ct : Value) (us : List Value), us.length = ps.length → bindArgs (PySem.W.fnOf x x (defArgs st) (defBody st) (defScope st) .none kV doc pm an cdv ct) ⟨us, []⟩ = pure (ps.zip us))
    (bd : ∀ (f : Addr) (A : Around) (outer : List Env) (s : Shared) (H : Hp) (E : XK), A.guards = some [] → Room k (A.deeper (envOfC x (defScope st) s.heap.objs.size f (.ref c))) →
      ∃ t, DSs (cxOf CX0 P w K mg base N x (defScope st) f (.ref c) A outer s H E).nox E0 (defBody st) t b) : FnD P w K mg base (k + 1) x st ps (mBody own N b) := by
  obtain ⟨f, fd, F, m, hc⟩ := i
  refine ⟨f, fd, okGC F hc S (fun vs H Q E h => h.1) (fun A outer s H vs Q E gd hr h => ?_), F, m, F.binds args⟩
  obtain ⟨t, ht⟩ := bd f A outer s H E gd hr
  obtain ⟨hl, c', w', xs, hd, r, p⟩ := h
  exact ⟨t, ht.ps, ht.rd _ _ _ c' w' _ (start_er N r) hd (fin_post hd p)⟩
omit [Tbs] in
theorem tabs_nil {T : List (Addr × Str)} {H : Hp} (h : ∀ p ∈ T, H p.1 = some (.tbl #[])) : Tabs T H := fun p hp => ⟨#[], h p hp, by first | exact trivial | exact ⟨rfl⟩ | simp [TriplesOk] | trivial, fun pos cv hc => by cases hc⟩
end
section
variable {X : Cx} {k j : Nat} {x : Str} {st : Stmt} {ps ks : List Str} {F : List Val → M Val} {e : Expr} {es : List Expr} {kws : List Keyword} {t tk : TA} {ms mk : Rho → M (List Val)} {p pos : Pos} {a b : Nat} {perm : List Nat}
  {A : Around} {outer : List Env} {s : Shared} {H : Hp} {E : XK} {scope : Scope} {f c' : Addr}
/-- a call that is all of a lambda's body -/
theorem de_lamX (Fd : FnX X.prog X.w X.K X.mg X.base k x st ps F) (hr : Room j (lamCx X A outer s H E scope f c').A) (hk : k ≤ j) (hg : Gl (lamCx X A outer s H E scope f c') x) (ha : DA (lamCx X A outer s H E scope f c') E (e :: es) t ms) (hdb : (x == ("__debug__" : Str)) = false := by decide)
    (he : starEach (e :: es) (lamCx X A outer s H E scope f c').env = (false, eval e (lamCx X A outer s H E scope f c').env) :: starEach es (lamCx X A outer s H E scope f c').env := by rfl) (hpl : (backTo pos (starEach es (lamCx X A outer s H E scope f c').env)).any (·.1) = false := by rfl) :
    DE (lamCx X A outer s H E scope f c') E (.Call (.Name x p) (e :: es) [] pos) (fun σ H Q => t σ H fun vs H1 => spX X.K X.mg ps.length F vs H1 Q E) (mFnX ps.length F ms) :=
  de_fnX (X := lamCx X A outer s H E scope f c') Fd (G.lam_pass (X := X) (A := A) (outer := outer) (s := s) (H := H) (E := E) (scope := scope) (f := f) (c' := c')) hr hk hg ha hdb he hpl
theorem de_lamXK0 {kw : Keyword} (Fd : FnX X.prog X.w X.K X.mg X.base k x st ps F) (hr : Room j (lamCx X A outer s H E scope f c').A) (hk : k ≤ j) (hg : Gl (lamCx X A outer s H E scope f c') x)
    (hb : ∀ (kV doc pm : Value) (an : Option Addr) (cdv ct : Value) (us ws : List Value), us.length = 0 → ws.length = b → bindArgs (PySem.W.fnOf x x (defArgs st) (defBody st) (defScope st) .none kV doc pm an cdv ct) ⟨us, ks.zip ws⟩ = pure (ps.zip (perm.filterMap fun i => (us ++ ws)[i]?)))
    (hp : 0 < ps.length) (hkw : DK (lamCx X A outer s H E scope f c') E (kw :: kws) tk mk) (hall : (backToKw pos (keywordEach (kw :: kws) (lamCx X A outer s H E scope f c').env)).all (·.1.isSome) = true := by rfl) (hks : (backToKw pos (keywordEach (kw :: kws) (lamCx X A outer s H E scope f c').env)).filterMap (·.1) = ks := by rfl)
    (hdb : (x == ("__debug__" : Str)) = false := by decide)
    (hpl : ((backTo pos (starEach [] (lamCx X A outer s H E scope f c').env)).any (·.1) || (backToKw pos (keywordEach (kw :: kws) (lamCx X A outer s H E scope f c').env)).any (·.1.isNone)) = false := by rfl) :
    DE (lamCx X A outer s H E scope f c') E (.Call (.Name x p) [] (kw :: kws) pos) (fun σ H Q => tk σ H fun zs H2 => spX X.K X.mg ps.length F (pickK 0 b perm [] zs) H2 Q E) (mFnXK ps.length 0 b perm F mNil mk) :=
  de_fnXK0 (X := lamCx X A outer s H E scope f c') Fd (G.lam_pass (X := X) (A := A) (outer := outer) (s := s) (H := H) (E := E) (scope := scope) (f := f) (c' := c')) hr hk hg hb hp hkw hall hks hdb hpl
end
end D

set_option maxRecDepth 100000
namespace D
open PySem L2 G PySem.Spec PyProof.Rows
variable [Tbs]
/-! ### min(xs), max(xs) of a list of ints -/
omit [Tbs] in
def minI : Int → List Int → Int
  | m, [] => m
  | m, x :: xs => minI (if x < m then x else m) xs
omit [Tbs] in
def maxI : Int → List Int → Int
  | m, [] => m
  | m, x :: xs => maxI (if m < x then x else m) xs
omit [Tbs] in
def gMinL : List PyData → Option PyData
  | [.list xs] => (intsOf xs).bind fun bs => match bs with
    | [] => none
    | b :: bs => some (.int (minI b bs))
  | _ => none
omit [Tbs] in
def gMaxL : List PyData → Option PyData
  | [.list xs] => (intsOf xs).bind fun bs => match bs with
    | [] => none
    | b :: bs => some (.int (maxI b bs))
  | _ => none
omit [Tbs] in
theorem minI_spec : ∀ (xs : List Int) (m : Int), minI m xs ∈ m :: xs ∧ ∀ y ∈ m :: xs, minI m xs ≤ y
  | [], m => ⟨List.mem_cons_self .., fun y hy => by rw [List.mem_singleton.mp hy]; exact Int.le_refl _⟩
  | x :: xs, m => by
    obtain ⟨h1, h2⟩ := minI_spec xs (if x < m then x else m)
    unfold minI
    have a : (if x < m then x else m) ≤ x ∧ (if x < m then x else m) ≤ m := by split <;> omega
    have z := h2 _ (List.mem_cons_self ..)
    refine ⟨?_, fun y hy => ?_⟩
    · rcases List.mem_cons.mp h1 with e | e
      · rw [e]; split
        · exact List.mem_cons_of_mem _ (List.mem_cons_self ..)
        · exact List.mem_cons_self ..
      · exact List.mem_cons_of_mem _ (List.mem_cons_of_mem _ e)
    · rcases List.mem_cons.mp hy with e | e
      · rw [e]; omega
      · rcases List.mem_cons.mp e with e | e
        · rw [e]; omega
        · exact h2 y (List.mem_cons_of_mem _ e)
omit [Tbs] in
theorem maxI_spec : ∀ (xs : List Int) (m : Int), maxI m xs ∈ m :: xs ∧ ∀ y ∈ m :: xs, y ≤ maxI m xs
  | [], m => ⟨List.mem_cons_self .., fun y hy => by rw [List.mem_singleton.mp hy]; exact Int.le_refl _⟩
  | x :: xs, m => by
    obtain ⟨h1, h2⟩ := maxI_spec xs (if m < x then x else m)
    unfold maxI
    have a : x ≤ (if m < x then x else m) ∧ m ≤ (if m < x then x else m) := by split <;> omega
    have z := h2 _ (List.mem_cons_self ..)
    refine ⟨?_, fun y hy => ?_⟩
    · rcases List.mem_cons.mp h1 with e | e
      · rw [e]; split
        · exact List.mem_cons_of_mem _ (List.mem_cons_self ..)
        · exact List.mem_cons_self ..
      · exact List.mem_cons_of_mem _ (List.mem_cons_of_mem _ e)
    · rcases List.mem_cons.mp hy with e | e
      · rw [e]; omega
      · rcases List.mem_cons.mp e with e | e
        · rw [e]; omega
        · exact h2 y (List.mem_cons_of_mem _ e)
theorem rd_minL {K : PySem.W.Frag} : CallRd K (rMin K) gMinL := by
  intro vs H c w as d Q hd hx eg k
  unfold gMinL at eg
  split at eg
  · cases hx with
    | cons h t =>
      cases t
      obtain ⟨p, us, rfl, q1, a1⟩ := h.list hd.sub
      rename_i xs
      cases q : intsOf xs with
      | none => rw [q] at eg; cases eg
      | some bs =>
        rw [q] at eg
        cases bs with
        | nil => cases eg
        | cons b bs =>
          cases eg
          rw [ints_v a1 q] at q1
          obtain ⟨h1, h2⟩ := minI_spec bs b
          refine ⟨p, b :: bs, rfl, q1, by simp, fun m hm hle => ?_⟩
          have e : m = minI b bs := Int.le_antisymm (hle _ h1) (h2 _ hm)
          rw [e]
          exact k _ _ _ (.refl _) hd (.int _)
  · cases eg
theorem rd_maxL {K : PySem.W.Frag} : CallRd K (rMax K) gMaxL := by
  intro vs H c w as d Q hd hx eg k
  unfold gMaxL at eg
  split at eg
  · cases hx with
    | cons h t =>
      cases t
      obtain ⟨p, us, rfl, q1, a1⟩ := h.list hd.sub
      rename_i xs
      cases q : intsOf xs with
      | none => rw [q] at eg; cases eg
      | some bs =>
        rw [q] at eg
        cases bs with
        | nil => cases eg
        | cons b bs =>
          cases eg
          rw [ints_v a1 q] at q1
          obtain ⟨h1, h2⟩ := maxI_spec bs b
          refine ⟨p, b :: bs, rfl, q1, by simp, fun m hm hle => ?_⟩
          have e : m = maxI b bs := Int.le_antisymm (h2 _ hm) (hle _ h1)
          rw [e]
          exact k _ _ _ (.refl _) hd (.int _)
  · cases eg
end D

set_option maxRecDepth 100000
namespace D
open PySem L2 G PySem.Spec PyProof.Rows
variable [Tbs]
omit [Tbs] in
def okV (n : Nat) : Option Val → Bool
  | some (.o m) => decide (m < n)
  | _ => true
omit [Tbs] in
/-- behind a turn: some names are forgotten, and the objects of one's own that the turn made -/
def fTrim (vs : List Nat) (b : B) : B := fun ρ w => match b ρ w with
  | .nx ρ' w' => if (wipeR ρ' vs).all (okV w.length) = true then .nx (wipeR ρ' vs) (w'.take w.length) else .bad
  | r => r
omit [Tbs] in
theorem wipeR_some {i : Nat} {x : Val} : ∀ {vs : List Nat} {ρ : Rho}, (wipeR ρ vs)[i]? = some (some x) → ρ[i]? = some (some x)
  | [], _, h => h
  | v :: vs, ρ, h => by
    unfold wipeR at h
    by_cases hv : v = i
    · subst hv
      by_cases hl : v < (wipeR ρ vs).length
      · rw [List.getElem?_set_self hl] at h; cases h
      · rw [List.getElem?_eq_none (by simpa using hl)] at h; cases h
    · rw [List.getElem?_set_ne hv] at h
      exact wipeR_some h
section
variable {X : Cx} {E : XK} {ss : List Stmt} {t : TS} {b : B}
theorem dss_trim (vs : List Nat) (h : DSs X E ss t b) : DSs X E ss t (fTrim vs b) := ⟨h.ps, fun σ ρ H c w D er hd p => by
  refine h.rd σ ρ H c w D er hd ?_
  unfold fTrim at p
  cases q : b ρ w with
  | bad => rw [q] at p; exact p
  | rt _ _ => rw [q] at p; exact p
  | bk _ _ => rw [q] at p; exact p
  | ct _ _ => rw [q] at p; exact p
  | exn _ _ => rw [q] at p; exact p
  | nx ρ' w' =>
    rw [q] at p
    dsimp only at p
    split at p
    · rename_i ok
      have hl : c.al.length = w.length := hd.len
      intro σ' H' c' g hd' er'
      have tk : c'.al.take w.length = c.al := by
        obtain ⟨r, e⟩ := g.a
        rw [e, ← hl]
        simp
      refine p σ' H' ⟨c'.H0, c'.al.take w.length, c'.ex⟩ ⟨g.h, ⟨[], by show List.take _ _ = _; rw [tk]; simp⟩, g.e⟩ (hd'.trim _) ⟨by rw [er'.len, wipeR_length], fun i x ex => ?_⟩
      obtain ⟨v, e1, r⟩ := er'.at_ i x (wipeR_some ex)
      refine ⟨v, e1, ?_⟩
      cases x with
      | d x => exact r
      | o m =>
        have z := List.all_eq_true.mp ok _ (List.mem_of_getElem? ex)
        have hm : m < w.length := of_decide_eq_true z
        obtain ⟨a, rfl, ea⟩ := r
        exact ⟨a, rfl, by show (List.take _ _)[m]? = _; rw [List.getElem?_take, if_pos hm]; exact ea⟩
    · exact p.elim⟩
end
omit [Tbs] in
/-- a turn that ends where it began -/
def turnOk (tm : Val → Rho → M Rho) (b : B) (ρ : Rho) (w : Om) (d : PyData) : Prop := ∃ ρ1, tm (.d d) ρ w = .ok ρ1 w ∧ b ρ1 w = .nx ρ w
omit [Tbs] in
theorem forL_mem {tm : Val → Rho → M Rho} {b : B} {ρ : Rho} {w : Om} : ∀ {ds : List PyData}, (∀ d ∈ ds, turnOk tm b ρ w d) → forL tm b ds ρ w = .nx ρ w
  | [], _ => rfl
  | d :: ds, h => by
    obtain ⟨ρ1, h1, h2⟩ := h d (List.mem_cons_self ..)
    have ih := forL_mem (ds := ds) fun e he => h e (List.mem_cons_of_mem _ he)
    unfold forL
    rw [h1]
    dsimp only
    rw [h2]
    exact ih
section
variable {tm : Val → Rho → M Rho} {b : B} {ρ : Rho} {w : Om} {mi : Rho → M (List PyData)} {ds : List PyData} {f' : B} {P : Fl → Prop}
omit [Tbs] in
theorem fl_forM (hi : mi ρ w = .ok ds w) (h : ∀ d ∈ ds, turnOk tm b ρ w d) (k : P (f' ρ w)) : P (fSeq (fFor mi tm b) f' ρ w) := by
  refine fl_seq (ρ' := ρ) (w' := w) ?_ k
  unfold fFor
  rw [hi]
  exact forL_mem h
omit [Tbs] in
theorem mem_rot {xs : List PyData} {k : Nat} {d : PyData} (h : d ∈ xs.drop k ++ xs.take k) : d ∈ xs := by
  rcases List.mem_append.mp h with h | h
  · exact List.mem_of_mem_drop h
  · exact List.mem_of_mem_take h
end
end D

set_option maxRecDepth 100000
namespace D
open PySem L2 G PySem.Spec PyProof.Rows
variable [Tbs]
omit [Tbs] in
/-- l.count(x) of data, in the suite of a handler -/
def mCount (m1 m2 : Rho → M Val) : Rho → M Val := fun ρ => bnd (m1 ρ) fun x => match x with
  | .d (.list ds) => bnd (m2 ρ) fun y => fun w => match y with
    | .d d => if PyData.plainAll ds = true ∧ d.plain = true ∧ PyData.depthAll ds ≤ 64 then .ok (.d (.int (ds.countP (fun z => PyData.eqv z d) : Nat))) w else .bad
    | _ => .bad
  | _ => fun _ => .bad
omit [Tbs] in
def rCnt (K : PySem.W.Frag) : V → List V → Hp → VK → Prop := fun x xs H Q => ∃ a y d ds, x = .ref a ∧ xs = [y] ∧ Dp K H (.ref a) (.list ds) ∧ Dp K H y d ∧ PyData.plainAll ds = true ∧ d.plain = true ∧ PyData.depthAll ds ≤ 64 ∧
    Q (.int (ds.countP fun z => PyData.eqv z d : Nat)) H
omit [Tbs] in
theorem dl_ty {K : PySem.W.Frag} {H : Hp} {v : V} {ds : List PyData} (h : Dp K H v (.list ds)) : tyV K "list" v H := by
  cases h with
  | lst hs ha => exact .inl ⟨rfl, _, hs⟩
section
variable {X : Cx} {E : XK} {g : GX} {o e call : Expr} {to te : TE} {m1 m2 : Rho → M Val}
theorem he_count (pe : PE X call (tBM X.K "list" (rCnt X.K) to (tCons te tNil))) (ho : HE g X E o to m1) (he : HE g X E e te m2) : HE g X E call (tBM X.K "list" (rCnt X.K) to (tCons te tNil)) (mCount m1 m2) :=
  ⟨pe, fun σ ρ H c w Q gd er hd p => ho.rd σ ρ H c w _ gd er hd (Post.bind p fun v H1 c1 x w1 g1 hd1 r1 p1 => by
    cases x with
    | o n => exact p1.elim
    | d x =>
      cases x with
      | list ds =>
        have hv : Dp X.K H1 v (.list ds) := (Held.of hd1.sub).dp _ _ r1
        refine ⟨dl_ty hv, he.rd σ ρ H1 c1 w1 _ (gd.mono g1) (er.mono g1) hd1 (Post.bind p1 fun u H2 c2 y w2 g2 hd2 r2 p2 => ?_)⟩
        cases y with
        | o n => exact p2.elim
        | d d =>
          dsimp only at p2
          by_cases hk : PyData.plainAll ds = true ∧ d.plain = true ∧ PyData.depthAll ds ≤ 64
          · rw [if_pos hk] at p2
            have hv2 : Dp X.K H2 v (.list ds) := (Held.of hd2.sub).dp _ _ (r1.mono g2)
            cases hv2 with
            | lst hs ha => exact ⟨_, u, d, ds, rfl, rfl, .lst hs ha, (Held.of hd2.sub).dp _ _ r2, hk.1, hk.2.1, hk.2.2, p2 _ H2 c2 (.refl _) hd2 (Dp.int _)⟩
          · rw [if_neg hk] at p2
            exact p2.elim
      | _ => exact p1.elim)⟩
end
theorem wH {Y : Prop} {g : GX} {X : Cx} {E : XK} {e : Expr} {t : TE} {m : Rho → M Val} (k : HE g X E e t m → Y) (h : HE g X E e t m) : Y := k h
omit [Tbs] in
theorem pe_never {X : Cx} {e : Expr} : PE X e (fun _ _ _ => False) := ⟨fun _ _ _ _ _ _ h => h.elim⟩
theorem de_never {X : Cx} {E : XK} {e : Expr} : DE X E e (fun _ _ _ => False) (fun _ _ => .bad) := ⟨pe_never, fun _ _ _ _ _ _ _ _ p => p.elim⟩
end D

set_option maxRecDepth 100000
namespace D
open PySem L2 G PySem.Spec PyProof.Rows
variable [Tbs]
/-! ### D[text], D a module's dict of texts and data -/
omit [Tbs] in
def ConT (w : World) (K : PySem.W.Frag) (mg : Str → Option Value) (x : Str) (c : List (Str × PyData)) : Prop :=
  ∃ d es n, mg x = some (.ref d) ∧ K.lookup d = some ⟨.type "dict", none, .dict es n, #[]⟩ ∧ PySem.W.KeysLit w.params es.toList ∧ (d == sysModules) = false ∧
    Paired (fun (e : DictEntry) (p : Str × PyData) => (∃ t, e.key = .str p.1 t) ∧ ∃ v : V, RelV v e.val ∧ ∀ H, Dp K H v p.2) es.toList c
omit [Tbs] in
def lookT (c : List (Str × PyData)) (z : Str) : Option PyData := (c.find? fun p => decide (p.1 = z)).map (·.2)
omit [Tbs] in
theorem find_conT {K : PySem.W.Frag} {z : Str} : ∀ {es : List DictEntry} {c : List (Str × PyData)}, Paired (fun (e : DictEntry) (p : Str × PyData) => (∃ t, e.key = .str p.1 t) ∧ ∃ v : V, RelV v e.val ∧ ∀ H, Dp K H v p.2) es c →
    ∀ i, lookT c z = some i → ∃ v u, (es.find? fun e => Value.isStrOf z e.key).map (·.val) = some u ∧ RelV v u ∧ ∀ H, Dp K H v i
  | _, _, .nil => fun i h => (by cases h)
  | _, _, .cons (a := e) (b := p) (l₁ := es) (l₂ := c) h t => by
    have ih := find_conT (z := z) t
    obtain ⟨⟨t1, e1⟩, v, rv, dv⟩ := h
    by_cases hz : p.1 = z
    · have a1 : Value.isStrOf z e.key = true := by rw [e1, hz]; simp [Value.isStrOf]
      have a2 : lookT (p :: c) z = some p.2 := by simp [lookT, List.find?_cons, hz]
      rw [a2, List.find?_cons, a1]
      intro i h
      cases h
      exact ⟨v, e.val, rfl, rv, dv⟩
    · have a1 : Value.isStrOf z e.key = false := by
        rw [e1]
        simp [Value.isStrOf, hz]
      have a2 : lookT (p :: c) z = lookT c z := by simp [lookT, List.find?_cons, hz]
      rw [a2, List.find?_cons, a1]
      exact ih
omit [Tbs] in
def mKIxT (c : List (Str × PyData)) (mk : Rho → M Val) : Rho → M Val := fun ρ => bnd (mk ρ) fun x w => match look w x with
  | some (.str z) => (match lookT c z with | some i => .ok (.d i) w | none => .bad)
  | _ => .bad
omit [Tbs] in
def tKIxT (K : PySem.W.Frag) (c : List (Str × PyData)) (ty : TE) : TE := fun σ H Q => ty σ H fun y H2 => ∃ z i, y = .str z ∧ lookT c z = some i ∧ ∀ v : V, (∀ H, Dp K H v i) → Q v H2
section
variable {X : Cx} {E : XK} {n : Str} {c : List (Str × PyData)} {i : Expr} {npos pos : Pos} {ty : TE} {my : Rho → M Val}
omit [Tbs] in
theorem pe_kixT (h : ConT X.w X.K X.mg n c) (hg : Gl X n) (hi : PE X i ty) (hs : NoSl i) (hn : (n == ("__debug__" : Str)) = false := by decide) : PE X (.Subscript (.Name n npos) i pos) (tKIxT X.K c ty) := by
  obtain ⟨d, es, k, h1, h2, h3, h4, h5⟩ := h
  have pn : PE X (.Name n npos) (tC (.ref d)) := pe_glob hg h1 rfl hn
  refine ⟨fun pins s σ H Q I hq => ?_⟩
  refine subD_of PySem.F.slot_dict_getitem.lookup hs (thn (pn.run pins s σ H (fun x H1 => x = .ref d ∧ ty σ H1 fun y H2 => ∃ z i, y = .str z ∧ lookT c z = some i ∧ ∀ v : V, (∀ H, Dp X.K H v i) → Q v H2) I ⟨rfl, hq⟩) fun u s1 ⟨x, H1, I1, rx, ex, q1⟩ =>
    thn (hi.run pins s1 σ H1 _ I1 q1) fun iv s2 ⟨y, H2, I2, ry, z, k', ey, el, q2⟩ => ?_)
  subst ex
  obtain rfl : u = Value.ref d := rx
  subst ey
  obtain ⟨t, rfl⟩ := (show ∃ t, iv = Value.str z t from ry)
  have hm := PySem.W.mapOf_K (prog := X.prog) (w := X.w) I2.kIn h2 h3
  obtain ⟨v, uv, e2, rv, dv⟩ := find_conT (z := z) h5 k' el
  refine ⟨hm.typeIs, wpAny_getItem_of (PySem.strKind_is X.prog X.w z t) hm (v := uv) ?_ ⟨v, H2, I2.tok _, rv, q2 v dv⟩⟩
  unfold findBy
  simpa using e2
theorem de_kixT (h : ConT X.w X.K X.mg n c) (hg : Gl X n) (hi : DE X E i ty my) (hs : NoSl i) (hn : (n == ("__debug__" : Str)) = false := by decide) : DE X E (.Subscript (.Name n npos) i pos) (tKIxT X.K c ty) (mKIxT c my) :=
  ⟨pe_kixT h hg hi.pe hs hn, fun σ ρ H k w Q er hd p => hi.rd σ ρ H k w _ er hd (Post.bind p fun y H1 c1 vy w1 g1 hd1 r1 p1 => by
    cases ey : look w1 vy with
    | none => simp [ey] at p1; exact p1.elim
    | some a =>
      cases a with
      | str z =>
        simp only [ey] at p1
        cases q : lookT c z with
        | none => simp only [q] at p1; exact p1.elim
        | some i =>
          simp only [q] at p1
          exact ⟨z, i, (hd1.dq r1 ey).str, q, fun v dv => p1 v H1 c1 (.refl _) hd1 (dv _)⟩
      | _ => simp [ey] at p1; exact p1.elim)⟩
end
end D

set_option maxRecDepth 100000
namespace PySem.SeqAt
open PySem PySem.Calls PyProof.Rows
section
variable {A : Around} {s : Shared}
theorem call_tuple_lt {prog : Program} {w : World} {E : Value → Shared → Prop} {Q : Value → Shared → Prop} {l b : Addr} {items items2 : Array Value} {e r : Nat → Bool} (hl : s.heap.IsTuple l items) (hb : s.heap.IsTuple b items2)
    (he : ∀ j (h1 : j < items.size) (h2 : j < items2.size), EqAt A.in1 s items[j] items2[j] (e j)) (hr : ∀ j (h1 : j < items.size) (h2 : j < items2.size), e j = false → RcLt A.in1 s items[j] items2[j] (r j))
    (h : Q (.bool (firstLt e r (decide (items.size < items2.size)) (List.range (min items.size items2.size)))) s) : wpAny (model prog w) A (call (.builtin "tuple.__lt__") [.ref l, .ref b]) Q E s := by
  obtain ⟨⟨cls, dd, data, sl⟩, ho, hc, n, hd⟩ := id hl
  obtain ⟨⟨cls2, dd2, data2, sl2⟩, ho2, hc2, n2, hd2⟩ := id hb
  simp only at hc hd hc2 hd2
  subst hc hd hc2 hd2
  exact call_meets F.slot_tuple_lt ⟨_, ho, rfl⟩ F.entry_tuple_lt (F.args_tuple_lt_2 _ _) (tuple_ltAt l b items items2 n n2 dd dd2 sl sl2 e r) ⟨ho, ho2, he, hr, h⟩
end
end PySem.SeqAt
namespace PySem.W
open PySem PySem.Calls PyProof.Rows PySem.SeqAt
section
variable {prog : Program} {w : World} {A : Around} {s : Shared} {E : Value → Shared → Prop}
theorem oneLt_tup {xs ys : List PyData} {a b : Value} {as bs : List Addr} {Q : Bool → Shared → Prop} (ra : Reads s.heap a (.tuple xs) as) (rb : Reads s.heap b (.tuple ys) bs) (h : alike (.tuple xs) (.tuple ys) = true)
    (hu : A.units + min (PyData.tuple xs).depth (PyData.tuple ys).depth < cLine) (hq : Q (dataLt (.tuple xs) (.tuple ys)) s) : wpAny (model prog w) A (oneLt' true a b) Q E s := by
  have hal : alikeAll xs ys = true := by simpa [alike] using h
  cases ra with
  | @tuple l o vs n _ as₁ h1 h2 h3 h4 =>
    cases rb with
    | @tuple l' o' vs' n' _ bs₁ k1 k2 k3 k4 =>
      have n1 : vs.size = xs.length := by simpa using ReadsAll.length _ _ _ h4
      have n2 : vs'.size = ys.length := by simpa using ReadsAll.length _ _ _ k4
      rw [dataLt_tuple, ← firstLt_toks xs ys hal, ← n1, ← n2] at hq
      rw [oneLt'_eq]
      simp only [if_true]
      refine wpAny_bind (wpAny_cRoomFor (room_here hu) ?_)
      refine wpAny_bind (wpAny_callSpecialIfBound?_slot (T := "tuple") ⟨_, h1, h2⟩ F.slot_tuple_lt (call_tuple_lt (e := pairEq xs ys) (r := fun j => dataLt (xs.getD j .none) (ys.getD j .none)) ⟨_, h1, h2, _, h3⟩ ⟨_, k1, k2, _, k3⟩ (fun j j1 j2 => ?_) (fun j j1 j2 hj => ?_) ?_))
      · have := eqAt_alikeAll xs ys A.in1 s vs.toList vs'.toList _ _ h4 k4 hal (room_in hu) j (by simpa using j1) (by simpa using j2)
        simpa using this
      · have := rcLt_alikeAll xs ys A.in1 s vs.toList vs'.toList _ _ h4 k4 hal (room_in hu) j (by simpa using j1) (by simpa using j2) hj
        simpa using this
      · exact wpAny_truthy_bool hq
def KatOpt (h : Heap) : List Value → List (Option Value) → Prop
  | [], [] => True
  | v :: vs, f :: fs => (∃ a o xs n, v = .ref a ∧ h.get? a = some o ∧ o.cls = .type "tuple" ∧ o.data = .seq xs n ∧ xs[0]? = f) ∧ KatOpt h vs fs
  | _, _ => False
theorem kat_firstsO {M : Model} : ∀ (vs : List Value) (fs : List (Option Value)) {Q : List (Option Value) → Shared → Prop}, KatOpt s.heap vs fs → Q fs s → wpAny M A (vs.mapM firstOfTuple') Q E s
  | [], [], _, _, h => by rw [List.mapM_nil]; exact wpAny_pure h
  | [], _ :: _, _, t, _ => t.elim
  | _ :: _, [], _, t, _ => t.elim
  | v :: vs, f :: fs, Q, t, h => by
    obtain ⟨⟨a, o, xs, n, rfl, ho, hc, hd, hf⟩, t⟩ := t
    rw [List.mapM_cons]
    refine wpAny_bind ?_
    rw [kas_first_eq]
    refine wpAny_bind (Looks.here (show Looks M s.heap (typeOf (.ref a)) o.cls from (Looks.ld ho).andThen .now) ?_)
    rw [hc, if_neg (by first | decide | simp)]
    refine wpAny_bind (listItems_at ho hd (wpAny_pure ?_))
    rw [hf]
    exact wpAny_bind (kat_firstsO vs fs (Q := fun bs s' => wpAny M A (pure (f :: bs)) Q E s') t (wpAny_pure h))
theorem katOpt_type {M : Model} {h : Heap} : ∀ {vs : List Value} {fs : List (Option Value)}, KatOpt h vs fs → ∀ v ∈ vs, Looks M h (typeOf v) (Value.type "tuple")
  | [], _, _, v, hv => by cases hv
  | _ :: _, [], t, _, _ => t.elim
  | u :: vs, f :: fs, t, v, hv => by
    obtain ⟨⟨a, o, xs, n, rfl, ho, hc, hd, hf⟩, t⟩ := t
    rcases List.mem_cons.mp hv with rfl | hv
    · rw [← hc]
      exact (Looks.ld ho).andThen .now
    · exact katOpt_type t v hv
theorem kind0 {M : Model} {v₁ : Value} {vs : List Value} {fs : List (Option Value)} {Q : SortKind → Shared → Prop} (t : KatOpt s.heap (v₁ :: vs) (none :: fs)) (h : Q oneType' s) :
    wpAny M A (keyKind' (v₁ :: vs).toArray) Q E s := by
  rw [kat_kind_eq, List.mapM_toArray, map_eq_pure_bind]
  refine wpAny_bind (wpAny_bind (kat_firstsO _ _ t (wpAny_pure ?_)))
  rw [if_neg (by simp), if_neg (by simp)]
  rw [oneTypeOnly'_eq, List.mapM_toArray, map_eq_pure_bind]
  refine wpAny_bind (wpAny_bind (wpAny_bind (kas_mapM (r := Value.type "tuple") _ (fun v hv Q' hq => (katOpt_type t v hv).here hq) (wpAny_pure ?_))))
  have hall : ((List.map (fun _ => Value.type "tuple") (v₁ :: vs)).toArray.all fun x => x == Value.type "tuple") = true := by
    simp only [List.all_toArray, List.all_map, List.all_eq_true]
    intro _ _
    exact beq_self_eq_true _
  have h0 : (List.map (fun _ => Value.type "tuple") (v₁ :: vs)).toArray[0]? = some (Value.type "tuple") := by simp
  rw [h0]
  simp only [hall, if_true]
  exact wpAny_pure (wpAny_pure h)
theorem each_katOpt {h : Heap} : ∀ {vs : List Value} {ds : List PyData}, EachIs (fun v d => ∃ as, Reads h v d as) vs ds → (∀ d, d ∈ ds → ∃ xs, d = .tuple xs) → ∃ fs, KatOpt h vs fs ∧ ∀ (d : PyData) (ds' : List PyData), ds = .tuple [] :: ds' → ∃ fs', fs = none :: fs'
  | _, _, .nil, _ => ⟨[], trivial, fun d ds' (z : _) => by cases z⟩
  | _, _, .cons (b := d) ⟨as, r⟩ t, ht => by
    obtain ⟨fs, h1, h2⟩ := each_katOpt t fun d hd => ht d (List.mem_cons_of_mem _ hd)
    obtain ⟨xs0, rfl⟩ := ht d (List.mem_cons_self ..)
    cases r with
    | @tuple a o xs n _ _ ho hc hd hr =>
      refine ⟨xs[0]? :: fs, ⟨⟨a, o, xs, n, rfl, ho, hc, hd, rfl⟩, h1⟩, fun d ds' z => ?_⟩
      cases z
      refine ⟨fs, ?_⟩
      have n1 : xs.size = 0 := by simpa using ReadsAll.length _ _ _ hr
      rw [Array.getElem?_eq_none (by omega)]
/-- tuples, the first of them empty -/
theorem SortsAt.data0 {vs : List Value} {ds ds' : List PyData} (e : EachIs (fun v d => ∃ as, Reads s.heap v d as) vs ds) (hal : AllAlike ds) (h0 : ds = .tuple [] :: ds') (ht : ∀ d, d ∈ ds → ∃ xs, d = .tuple xs) (hu : ∀ d, d ∈ ds → A.units + d.depth < cLine) : SortsAt prog w A s (dataKind s.heap ds) vs := by
  have room : ∀ {d d' : PyData}, d ∈ ds → A.units + min d.depth d'.depth < cLine := fun {d d'} hd => Nat.lt_of_le_of_lt (Nat.add_le_add_left (Nat.min_le_left _ _) _) (hu d hd)
  refine ⟨fun v hv => ?_, ?_⟩
  · obtain ⟨d, hd, as, r⟩ := e.left v hv
    exact ⟨_, dataKind_some hal hd r⟩
  · refine ⟨oneType', ?_, fun h2 E Q hq => ?_⟩
    · intro E x y a b Q ha hb hq
      obtain ⟨d, as, hd, ra, rfl⟩ := dataKind_inv ha
      obtain ⟨d', as', hd', rb, rfl⟩ := dataKind_inv hb
      rw [keyLt'_oneType]
      obtain ⟨xs, rfl⟩ := ht d hd
      obtain ⟨ys, rfl⟩ := ht d' hd'
      exact oneLt_tup ra rb (hal _ hd _ hd') (room hd) hq
    · obtain ⟨fs, k1, k2⟩ := each_katOpt e ht
      obtain ⟨fs', rfl⟩ := k2 (.tuple []) ds' h0
      cases vs with
      | nil => exact k1.elim
      | cons v₁ vs => exact kind0 k1 hq
end
end PySem.W

set_option maxRecDepth 100000
namespace D
open PySem L2 G PySem.Spec PyProof.Rows
/-! ### sorted(xs) of data -/
def leD (x y : PyData) : Bool := PySem.W.dataLe false (id : PyData → PyData) x y
def insT (x : PyData) : List PyData → List PyData
  | [] => [x]
  | y :: ys => if leD x y = true then x :: y :: ys else y :: insT x ys
def sortT : List PyData → List PyData
  | [] => []
  | x :: xs => insT x (sortT xs)
theorem leD_total : PySem.W.TotalLe leD := PySem.W.sortLe_total _ false _
theorem insT_mem {x z : PyData} : ∀ {ys : List PyData}, z ∈ insT x ys → z = x ∨ z ∈ ys
  | [], h => by
    rcases List.mem_cons.mp h with h | h
    · exact .inl h
    · cases h
  | y :: ys, h => by
    unfold insT at h
    split at h
    · rcases List.mem_cons.mp h with h | h
      · exact .inl h
      · exact .inr h
    · rcases List.mem_cons.mp h with h | h
      · exact .inr (by rw [h]; exact List.mem_cons_self ..)
      · rcases insT_mem h with h | h
        · exact .inl h
        · exact .inr (List.mem_cons_of_mem _ h)
theorem insT_sorted {x : PyData} : ∀ {ys : List PyData}, ys.Pairwise (fun a b => leD a b = true) → (insT x ys).Pairwise (fun a b => leD a b = true)
  | [], _ => by simp [insT]
  | y :: ys, h => by
    obtain ⟨h1, h2⟩ := List.pairwise_cons.mp h
    unfold insT
    split
    · rename_i hx
      refine List.pairwise_cons.mpr ⟨fun z hz => ?_, h⟩
      rcases List.mem_cons.mp hz with rfl | hz
      · exact hx
      · exact leD_total.trans _ _ _ hx (h1 z hz)
    · rename_i hx
      refine List.pairwise_cons.mpr ⟨fun z hz => ?_, insT_sorted h2⟩
      rcases insT_mem hz with rfl | hz
      · rcases leD_total.total y z with q | q
        · exact q
        · exact absurd q hx
      · exact h1 z hz
theorem sortT_sorted : ∀ xs : List PyData, (sortT xs).Pairwise (fun a b => leD a b = true)
  | [] => .nil
  | x :: xs => insT_sorted (sortT_sorted xs)
theorem insT_filter {x c : PyData} : ∀ ys : List PyData, (insT x ys).filter (PySem.W.sameRank leD c) = (x :: ys).filter (PySem.W.sameRank leD c)
  | [] => rfl
  | y :: ys => by
    unfold insT
    split
    · rfl
    · rename_i hx
      have ih := insT_filter (x := x) (c := c) ys
      rw [List.filter_cons (x := y) (xs := insT x ys), ih]
      cases px : PySem.W.sameRank leD c x with
      | false => simp [List.filter_cons, px]
      | true =>
        cases py : PySem.W.sameRank leD c y with
        | false => simp [List.filter_cons, px, py]
        | true =>
          exfalso
          unfold PySem.W.sameRank at px py
          rw [Bool.and_eq_true] at px py
          exact hx (leD_total.trans _ _ _ px.2 py.1)
theorem sortT_filter {c : PyData} : ∀ xs : List PyData, (sortT xs).filter (PySem.W.sameRank leD c) = xs.filter (PySem.W.sameRank leD c)
  | [] => rfl
  | x :: xs => by
    show (insT x (sortT xs)).filter _ = _
    rw [insT_filter, List.filter_cons, List.filter_cons, sortT_filter xs]
theorem sortT_eq (xs : List PyData) : sortT xs = xs.mergeSort leD := PySem.W.sort_unique leD_total (sortT_sorted xs) fun c => sortT_filter xs
def tupB : PyData → Bool
  | .tuple _ => true
  | _ => false
def tup1B : PyData → Bool
  | .tuple (_ :: _) => true
  | _ => false
def oneB : PyData → Bool
  | .tuple _ => false
  | .none => false
  | _ => true
def first0 : List PyData → Bool
  | .tuple [] :: _ => true
  | _ => false
def sortOk (ds : List PyData) : Bool := (ds.all fun d => ds.all fun e => PySem.W.alike d e) && ((ds.all tup1B || (ds.all tupB && first0 ds)) || ds.all oneB) && (ds.all fun d => decide (d.depth ≤ 32)) && decide (ds.length ≤ 100000)
def gSortT : List PyData → Option PyData
  | [.list ds] => if sortOk ds = true then some (.list (sortT ds)) else none
  | _ => none
def rSortT (K : PySem.W.Frag) : List V → Hp → VK → Prop := fun vs H Q => ∃ (a : Addr) (us : List V) (ds : List PyData), vs = [.ref a] ∧ SqL K H a us ∧ DpAll K H us ds ∧ sortOk ds = true ∧
  ∀ (ps : List (V × PyData)) (p : Addr), ps.map Prod.snd = sortT ds → (∀ q ∈ ps, q ∈ us.zip ds) → H p = none → Q (.ref p) (upd H p (.lst (ps.map Prod.fst)))
theorem sortOk_alike {ds : List PyData} (h : sortOk ds = true) : PySem.W.AllAlike ds := by
  unfold sortOk at h
  simp only [Bool.and_eq_true] at h
  intro d hd d' hd'
  exact List.all_eq_true.mp (List.all_eq_true.mp h.1.1.1 d hd) d' hd'
theorem sortOk_kind {ds : List PyData} (h : sortOk ds = true) : PySem.W.Sortable ds ∨ ((∃ ds', ds = .tuple [] :: ds') ∧ ∀ d, d ∈ ds → ∃ xs, d = .tuple xs) := by
  unfold sortOk at h
  simp only [Bool.and_eq_true, Bool.or_eq_true] at h
  rcases h.1.1.2 with (h | ⟨h, h0⟩) | h
  · refine .inl (.inl fun d hd => ?_)
    have z := List.all_eq_true.mp h d hd
    cases d with
    | tuple xs => cases xs with
      | nil => cases z
      | cons x r => exact ⟨x, r, rfl⟩
    | _ => cases z
  · refine .inr ⟨?_, fun d hd => ?_⟩
    · match ds, h0 with
      | .tuple [] :: ds', _ => exact ⟨ds', rfl⟩
    · have z := List.all_eq_true.mp h d hd
      cases d with
      | tuple xs => exact ⟨xs, rfl⟩
      | _ => cases z
  · refine .inl (.inr fun d hd => ?_)
    have z := List.all_eq_true.mp h d hd
    cases d with
    | tuple xs => cases z
    | none => cases z
    | _ => exact ⟨(fun q => by cases q), fun xs q => by cases q⟩
theorem sortOk_depth {ds : List PyData} (h : sortOk ds = true) : ∀ d ∈ ds, d.depth ≤ 32 := by
  unfold sortOk at h
  simp only [Bool.and_eq_true] at h
  intro d hd
  exact of_decide_eq_true (List.all_eq_true.mp h.1.2 d hd)
theorem sortOk_len {ds : List PyData} (h : sortOk ds = true) : ds.length ≤ 100000 := by
  unfold sortOk at h
  simp only [Bool.and_eq_true] at h
  exact of_decide_eq_true h.2
end D

set_option maxRecDepth 100000
namespace D
open PySem L2 G PySem.Spec PyProof.Rows
theorem each_pairs {K : PySem.W.Frag} {H : Hp} : ∀ {us : List V} {ds : List PyData} {its : List Value}, Vals us its → DpAll K H us ds → ∀ (all : List (V × PyData)), (∀ q ∈ us.zip ds, q ∈ all) →
    PySem.W.EachIs (fun (u : Value) (b : V × PyData) => RelV b.1 u ∧ b ∈ all ∧ Dp K H b.1 b.2) its (us.zip ds)
  | [], [], _, .nil, .nil, _, _ => .nil
  | u :: us, d :: ds, _ :: its, .cons r rv, .cons a al, all, h => .cons ⟨r, h _ (List.mem_cons_self ..), a⟩ (each_pairs rv al all fun q hq => h q (List.mem_cons_of_mem _ hq))
theorem zip_snd {K : PySem.W.Frag} {H : Hp} : ∀ {us : List V} {ds : List PyData}, DpAll K H us ds → (us.zip ds).map Prod.snd = ds
  | [], [], .nil => rfl
  | u :: us, d :: ds, .cons _ al => by
    show d :: (us.zip ds).map Prod.snd = d :: ds
    rw [zip_snd al]
theorem each_vals {all : List (V × PyData)} {K : PySem.W.Frag} {H : Hp} : ∀ {out : List Value} {ps : List (V × PyData)}, PySem.W.EachIs (fun (u : Value) (b : V × PyData) => RelV b.1 u ∧ b ∈ all ∧ Dp K H b.1 b.2) out ps → Vals (ps.map Prod.fst) out
  | _, _, .nil => .nil
  | _, _, .cons h t => .cons h.1 (each_vals t)
section
variable {X : Cx}
theorem cr_sortT (hu : X.A.units + 64 < cLine) : CallR X (.builtin "sorted") (rSortT X.K) := by
  intro pins s σ H vs us0 Q I r h
  obtain ⟨a, us, ds, rfl, hs, al, ok, q⟩ := h
  obtain ⟨its, rv, hl, _⟩ := I.list hs
  rw [Vals.ref1 r]
  have lu : us.length = ds.length := al.length
  have li : us.length = its.length := rv.length
  have e := each_pairs rv al (us.zip ds) fun _ h => h
  have hal := sortOk_alike ok
  have hsnd := zip_snd al
  have er : PySem.W.EachIs (fun (v : Value) (b : V × PyData) => ∃ as, Reads s.heap v b.2 as) its (us.zip ds) := e.mono fun v b ⟨h1, _, h3⟩ => Dp.reads I b.2 b.1 v h3 h1
  have er' : PySem.W.EachIs (fun (v : Value) (b : V × PyData) => ∃ as, Reads (PySem.W.sortingHeap (PySem.W.copyHeap s.heap its) (s.heap.objs.size + 1) its) v b.2 as) its (us.zip ds) := er.mono fun _ _ ⟨as, r⟩ => ⟨as, PyProof.Rows.Reads.keeps (fun _ _ => PySem.W.sorting_copy_old) r⟩
  have em := PySem.W.each_map (R := fun v d => ∃ as, Reads (PySem.W.sortingHeap (PySem.W.copyHeap s.heap its) (s.heap.objs.size + 1) its) v d as) Prod.snd er'
  rw [hsnd] at em
  have hu2 : ∀ d, d ∈ ds → X.A.in1.in1.units + d.depth < cLine := fun d hd => by
    have := sortOk_depth ok d hd
    show X.A.units + 1 + 1 + d.depth < cLine
    omega
  have S : PySem.W.SortsAt X.prog X.w X.A.in1.in1 { s with heap := PySem.W.sortingHeap (PySem.W.copyHeap s.heap its) (s.heap.objs.size + 1) its } (PySem.W.dataKind (PySem.W.sortingHeap (PySem.W.copyHeap s.heap its) (s.heap.objs.size + 1) its) ds) its := by
    rcases sortOk_kind ok with hk | ⟨⟨ds', h0⟩, ht⟩
    · exact PySem.W.SortsAt.data (s := { s with heap := PySem.W.sortingHeap (PySem.W.copyHeap s.heap its) (s.heap.objs.size + 1) its }) em hal hk hu2
    · exact PySem.W.SortsAt.data0 (s := { s with heap := PySem.W.sortingHeap (PySem.W.copyHeap s.heap its) (s.heap.objs.size + 1) its }) em hal h0 ht hu2
  have hlen := sortOk_len ok
  refine PySem.W.sorted_vals hl.isList S (by rw [sizeLine_eq]; omega) ?_
  have hds : PySem.W.dataKind (PySem.W.sortingHeap (PySem.W.copyHeap s.heap its) (s.heap.objs.size + 1) its) ds = PySem.W.dataKind (PySem.W.sortingHeap (PySem.W.copyHeap s.heap its) (s.heap.objs.size + 1) its) ((us.zip ds).map Prod.snd) := by rw [hsnd]
  rw [hds]
  have eo := PySem.W.sortVals_data (enc := Prod.snd) false e er' (by rw [hsnd]; exact hal)
  generalize PySem.W.sortVals _ false its its = out at *
  have ev := each_vals eo
  have hps : ((us.zip ds).mergeSort (PySem.W.dataLe false Prod.snd)).map Prod.snd = sortT ds := by
    have z := PySem.W.sort_maps (r := PySem.W.dataLe false (Prod.snd : V × PyData → PyData)) (s := leD) Prod.snd (l := us.zip ds) (fun _ _ _ _ => rfl)
    rw [z, hsnd, sortT_eq]
  obtain ⟨ep, he'⟩ := PyProof.Rows.sortedAll_at s.heap its out.toArray
  have ln : (((us.zip ds).mergeSort (PySem.W.dataLe false Prod.snd)).map Prod.fst).length ≤ sizeLine := by
    rw [List.length_map, List.length_mergeSort, List.length_zip, sizeLine_eq]
    omega
  exact ⟨.ref _, upd H (s.heap.objs.size + 1) (.lst (((us.zip ds).mergeSort (PySem.W.dataLe false Prod.snd)).map Prod.fst)), I.laid (t' := s.toks) (fun _ _ => PyProof.Rows.sortedAll_old) (Nat.le_succ _) ⟨ln, out, ep, ev, he'⟩, rfl,
    q _ _ hps (fun p hp => List.mem_mergeSort.mp hp) (I.hok.fresh (Nat.le_succ _))⟩
end
variable [Tbs]
theorem dpAll_of {K : PySem.W.Frag} {H : Hp} : ∀ {us : List V} {ds : List PyData}, DpAll K H us ds → ∀ q ∈ us.zip ds, Dp K H q.1 q.2
  | [], [], .nil, q, hq => by cases hq
  | u :: us, d :: ds, .cons a al, q, hq => by
    rcases List.mem_cons.mp hq with rfl | hq
    · exact a
    · exact dpAll_of al q hq
theorem dpAll_ps {K : PySem.W.Frag} {H : Hp} : ∀ {ps : List (V × PyData)}, (∀ q ∈ ps, Dp K H q.1 q.2) → DpAll K H (ps.map Prod.fst) (ps.map Prod.snd)
  | [], _ => .nil
  | p :: ps, h => .cons (h p (List.mem_cons_self ..)) (dpAll_ps fun q hq => h q (List.mem_cons_of_mem _ hq))
theorem rd_sortT {K : PySem.W.Frag} : CallRd K (rSortT K) gSortT := by
  intro vs H c w as d Q hd hx eg k
  unfold gSortT at eg
  split at eg
  · rename_i xs
    cases hx with
    | cons h t =>
      cases t
      obtain ⟨p, us, rfl, q1, a1⟩ := h.list hd.sub
      obtain ⟨ok, rfl⟩ := ite_some eg
      refine ⟨p, us, xs, rfl, q1, (Held.of hd.sub).dpAll _ _ a1, ok, fun ps z h1 h2 nz => ?_⟩
      have al := dpAll_ps (fun q hq => dpAll_of a1 q (h2 q hq))
      rw [h1] at al
      exact k _ _ _ (hd.grow nz) (hd.new nz) (Dp.newL al (hd.free nz))
  · cases eg
end D

set_option maxRecDepth 100000
namespace D
open PySem L2 G PySem.Spec PyProof.Rows
variable [Tbs]
/-! ### x in xs, data of any kind -/
omit [Tbs] in
def inD (a : PyData) (ds : List PyData) : Bool := ds.any fun y => PyData.eqv y a
omit [Tbs] in
def rInX (K : PySem.W.Frag) (neg : Bool) : R2 := fun x y H Q => rInA K neg x y H Q ∨ ∃ a ds, Dp K H x a ∧ (Dp K H y (.list ds) ∨ Dp K H y (.tuple ds)) ∧ PyData.plainAll ds = true ∧ a.plain = true ∧ PyData.depthAll ds ≤ 32 ∧ Q (.bl (if neg then !inD a ds else inD a ds)) H
omit [Tbs] in
theorem op_inX {X : Cx} (hu : X.A.units + 64 < cLine) : OpR X (compareOp .In) (rInX X.K false) := by
  intro pins s σ H x y v u Q I rx ry h
  rcases h with h | ⟨a, ds, dx, dy, p1, p2, dep, q⟩
  · exact op_inA pins s σ H x y v u Q I rx ry h
  · obtain ⟨as, r1⟩ := Dp.reads I a x v dx rx
    rcases dy with dy | dy
    · obtain ⟨bs, r2⟩ := Dp.reads I _ y u dy ry
      exact SeqAt.in_list_data r2 r1 p1 p2 (by omega) ⟨.bl _, H, I, rfl, q⟩
    · obtain ⟨bs, r2⟩ := Dp.reads I _ y u dy ry
      exact SeqAt.in_tuple_data r2 r1 p1 p2 (by omega) ⟨.bl _, H, I, rfl, q⟩
omit [Tbs] in
theorem op_notInX {X : Cx} (hu : X.A.units + 64 < cLine) : OpR X (compareOp .NotIn) (rInX X.K true) := by
  intro pins s σ H x y v u Q I rx ry h
  rcases h with h | ⟨a, ds, dx, dy, p1, p2, dep, q⟩
  · exact op_notInA pins s σ H x y v u Q I rx ry h
  · obtain ⟨as, r1⟩ := Dp.reads I a x v dx rx
    rcases dy with dy | dy
    · obtain ⟨bs, r2⟩ := Dp.reads I _ y u dy ry
      exact SeqAt.notIn_list_data r2 r1 p1 p2 (by omega) ⟨.bl _, H, I, rfl, q⟩
    · obtain ⟨bs, r2⟩ := Dp.reads I _ y u dy ry
      exact SeqAt.notIn_tuple_data r2 r1 p1 p2 (by omega) ⟨.bl _, H, I, rfl, q⟩
omit [Tbs] in
def gInY (neg : Bool) (a : PyData) (ds : List PyData) : Option PyData := if PyData.plainAll ds = true ∧ a.plain = true ∧ PyData.depthAll ds ≤ 32 then some (.bool (if neg then !inD a ds else inD a ds)) else none
omit [Tbs] in
def gInX (neg : Bool) (a b : PyData) : Option PyData := match gInB neg a b with
  | some d => some d
  | none => match b with
    | .list ds => gInY neg a ds
    | .tuple ds => gInY neg a ds
    | _ => none
theorem rd_inX {K : PySem.W.Frag} {neg : Bool} : OpRd K (rInX K neg) (gInX neg) := by
  intro x y H c w a b d Q hd hx hy eg k
  unfold gInX at eg
  split at eg
  · rename_i d' e1
    cases eg
    exact .inl (rd_in x y H c w a b d Q hd hx hy e1 k)
  · split at eg
    · unfold gInY at eg
      obtain ⟨⟨f1, f2, f3⟩, rfl⟩ := ite_some eg
      exact .inr ⟨a, _, hx.dp hd.sub, .inl (hy.dp hd.sub), f1, f2, f3, k _ _ _ (.refl _) hd (.bl _)⟩
    · unfold gInY at eg
      obtain ⟨⟨f1, f2, f3⟩, rfl⟩ := ite_some eg
      exact .inr ⟨a, _, hx.dp hd.sub, .inr (hy.dp hd.sub), f1, f2, f3, k _ _ _ (.refl _) hd (.bl _)⟩
    · cases eg
end D

set_option maxRecDepth 100000
namespace F
open PySem L2 G PySem.Spec PyProof.Rows
theorem tuple_mul0 (l : Addr) (items : Array Value) (n : Nat) (dd : Option Addr) (sl : Array (Option Value)) (x : Int) (u : Tok) (c0 : (decide (x < -(2 ^ 63)) || decide (x ≥ 2 ^ 63)) = false) (c1 : (items.isEmpty || x == 1) = false) (c2 : (decide (x ≤ 0) || items.isEmpty) = true) :
    Meets (Builtin.«tuple.__mul__» ⟨[.ref l, .int x u], []⟩) (fun _ R s => s.heap.get? l = some { cls := .type "tuple", dict := dd, data := .seq items n, slots := sl } ∧
      R (.ok (.ret (Value.ref s.heap.objs.size))) { s with heap := s.heap.push { cls := Value.type "tuple", data := Data.seq #[] }, toks := s.toks }) :=
  .of_wp fun prog w A R s h => by
    obtain ⟨hp, g, d, tk, os⟩ := s
    obtain ⟨hl, h⟩ := h
    have f1 := AutoSeq1.idx_int
    wp_walk using wpAny_loadPart' hl
    repeat (first
      | (refine wpAny_ite_false (decide_eq_false (by rw [c0]; exact Bool.false_ne_true)) ?_; wp_walk using wpAny_loadPart' hl)
      | (refine wpAny_ite_false (decide_eq_false (by rw [c1]; exact Bool.false_ne_true)) ?_; wp_walk using wpAny_loadPart' hl)
      | (refine wpAny_ite_true (decide_eq_true c2) ?_; wp_walk using wpAny_loadPart' hl))
    exact ⟨_, rfl, h⟩
def rRep0 (K : PySem.W.Frag) : R2 := fun x y H Q => ∃ l xs, x = .ref l ∧ y = .int 0 ∧ SqT K H l xs ∧ xs ≠ [] ∧ ∀ p o, H p = none → o.dict = none → Q (.ref p) (upd H p (.frz o (.tup [])))
section
variable {X : Cx}
theorem op_rep0 : OpR X (binaryOp .Mult) (rRep0 X.K) := by
  intro pins s σ H x y v u Q I rx ry ask
  obtain ⟨l, xs, rfl, rfl, hT, some_, q⟩ := ask
  cases rx
  obtain ⟨t, rfl⟩ := ry
  obtain ⟨its, r, ⟨⟨cls, dd, data, sl⟩, ho, hc, n, hd⟩, hs⟩ := I.tuple hT
  simp only at hc hd
  subst hc hd
  have same : its.length = xs.length := r.length.symm
  have full : its.toArray.isEmpty = false := by
    cases its with
    | nil => exact absurd (List.eq_nil_of_length_eq_zero same.symm) some_
    | cons a b => rfl
  have i1 : (its.toArray.isEmpty || (0 : Int) == 1) = false := by rw [full]; rfl
  refine wpAny_binaryOp_repeat_ref (T := "tuple") (U := "int") (by decide) ⟨_, ho, rfl⟩ (fun s' => typeIs_int s' 0 t) noFill_tuple_mul PySem.F.fills_int_mul PySem.F.slot_int_rmul repeat_tuple PySem.F.slot_int_index.lookup
    (call_meets PySem.F.slot_int_rmul (typeIs_int s 0 t) PySem.F.entry_int_rmul (PySem.F.args_int_rmul_2 _ _) (int_rmul_tuple 0 t l its.toArray n dd sl)
      ⟨ho, rfl, ⟨_, ho, rfl⟩, call_meets PySem.F.slot_tuple_mul ⟨_, ho, rfl⟩ PySem.F.entry_tuple_mul (PySem.F.args_tuple_mul_2 _ _) (tuple_mul0 l its.toArray n dd sl 0 t (by decide) i1 (by rw [full]; rfl)) ⟨ho, ?_⟩⟩)
  exact ⟨.ref s.heap.objs.size, _, I.laid (t' := s.toks) (o := .frz _ (.tup [])) (fun b ob q => Heap.get?_push_of_some _ q) (Nat.le_refl _)
    ⟨Heap.get?_push_size _ rfl, Nat.zero_le _, [], .nil, IsTup.new _ _⟩, rfl, q _ _ (I.hok.fresh (Nat.le_refl _)) rfl⟩
end
end F
namespace D
open PySem L2 G PySem.Spec PyProof.Rows
variable [Tbs]
omit [Tbs] in
def gMulG : PyData → PyData → Option PyData
  | .tuple (x :: xs), .int 0 => some (.tuple [])
  | a, b => gMulF a b
omit [Tbs] in
def rMulG (K : PySem.W.Frag) : R2 := fun x y H Q => rMulF K x y H Q ∨ F.rRep0 K x y H Q
omit [Tbs] in
theorem op_mulG {X : Cx} : OpR X (binaryOp .Mult) (rMulG X.K) := OpR.or op_mulF F.op_rep0
theorem rd_mulG {K : PySem.W.Frag} : OpRd K (rMulG K) gMulG := by
  intro x y H c w a b d Q hd hx hy eg k
  unfold gMulG at eg
  split at eg
  · cases eg
    obtain ⟨p, vs, rfl, q1, a1⟩ := hx.tuple hd.sub
    have l1 := a1.length
    refine .inr ⟨p, vs, rfl, hy.int, q1, fun e => ?_, fun t o nt no => k _ _ _ (hd.grow (o := .frz o (.tup _)) nt) (hd.new nt (fun _ => no)) (Dp.newF .nil (hd.free nt))⟩
    rw [e] at l1
    cases l1
  · exact .inl (rd_mulF x y H c w a b d Q hd hx hy eg k)
end D
namespace D
theorem mulG {i j : Int} (h : i.natAbs < 2 ^ 64) (h' : j.natAbs < 2 ^ 64) : gMulG (.int i) (.int j) = some (.int (i * j)) := mulF h h'
end D

set_option maxRecDepth 100000
namespace D
open PySem L2 G PySem.Spec PyProof.Rows
section
variable {m m1 m2 : Rho → D.M Val} {ms : Rho → D.M (List Val)} {mt : Rho → D.M Bool} {tm : Val → Rho → D.M Rho} {ρ ρ' : Rho} {w w1 w2 : Om} {a b d : PyData} {x y v : Val} {xs : List Val} {ds : List PyData} {k : Bool} {F : List Val → D.M Val}
theorem ev_consW (h1 : m ρ w = .ok x w1) (h2 : ms ρ w1 = .ok xs w2) : mCons m ms ρ w = .ok (x :: xs) w2 := by
  unfold mCons bnd
  rw [h1]
  dsimp only [R.then, bnd]
  rw [h2]
  rfl
theorem ev_opW {g : PyData → PyData → Option PyData} (h1 : m1 ρ w = .ok (.d a) w1) (h2 : m2 ρ w1 = .ok (.d b) w2) (hg : g a b = some d) : mOp g m1 m2 ρ w = .ok (.d d) w2 := by
  unfold mOp bnd
  rw [h1]
  dsimp only [R.then, bnd]
  rw [h2]
  dsimp only [R.then, look]
  rw [hg]
theorem ev_testW (h : m ρ w = .ok (.d (.bool k)) w1) : mTest m ρ w = .ok k w1 := by
  unfold mTest bnd
  rw [h]
  rfl
theorem ev_notW (h : mt ρ w = .ok k w1) : mNot mt ρ w = .ok (!k) w1 := by
  unfold mNot bnd
  rw [h]
  rfl
theorem ev_lstW (h : ms ρ w = .ok (ds.map .d) w1) (hl : ds.length ≤ 100000) : mLst ms ρ w = .ok (.d (.list ds)) w1 := by
  unfold mLst bnd
  rw [h]
  dsimp only [R.then, bnd]
  rw [frzs_d]
  dsimp only [R.then]
  rw [if_pos hl]
  rfl
theorem ev_tupW (h : ms ρ w = .ok (ds.map .d) w1) (hl : ds.length ≤ 100000) : mTup ms ρ w = .ok (.d (.tuple ds)) w1 := by
  unfold mTup bnd
  rw [h]
  dsimp only [R.then, bnd]
  rw [frzs_d]
  dsimp only [R.then]
  rw [if_pos hl]
  rfl
theorem ev_call1W {g : List PyData → Option PyData} (h : m ρ w = .ok (.d a) w1) (hg : g [a] = some d) : mCall g (mCons m mNil) ρ w = .ok (.d d) w1 := by
  unfold mCall mCons mNil bnd
  rw [h]
  dsimp only [R.then, bnd, D.ret, looks, look]
  rw [hg]
theorem ev_fn1W (h : m ρ w = .ok x w1) (hF : F [x] w1 = .ok v w2) : mFn 1 F (mCons m mNil) ρ w = .ok v w2 := by
  unfold mFn mCons mNil bnd
  rw [h]
  dsimp only [R.then, bnd, D.ret]
  exact hF
theorem ev_fn2W (h : m1 ρ w = .ok x w1) (h2 : m2 ρ w1 = .ok y w2) {w3 : Om} (hF : F [x, y] w2 = .ok v w3) : mFn 2 F (mCons m1 (mCons m2 mNil)) ρ w = .ok v w3 := by
  unfold mFn mCons mNil bnd
  rw [h]
  dsimp only [R.then, bnd, D.ret]
  rw [h2]
  dsimp only [R.then, bnd, D.ret]
  exact hF
theorem ev_fnP1W (h : m ρ w = .ok (.d a) w1) (hF : isTrueR (F [.d a] []) = true) : mFnP 1 F (mCons m mNil) ρ w = .ok (.d (.bool true)) w1 := by
  unfold mFnP mCons mNil bnd
  rw [h]
  dsimp only [R.then, bnd, frzs, frz, D.ret]
  rw [if_pos (show [a].length = 1 from rfl)]
  exact only_isTrue (ds := [a]) hF
theorem fl_asgW (h : m ρ w = .ok v w1) (ht : tm v ρ w1 = .ok ρ' w2) : fAsg m tm ρ w = .nx ρ' w2 := by
  unfold fAsg
  rw [h]
  dsimp only [R.thenF]
  rw [ht]
theorem fl_ifFW {P : Fl → Prop} {f f' : B} (h : mt ρ w = .ok false w1) (k : P (f' ρ w1)) : P (fIf mt f f' ρ w) := by
  unfold fIf
  rw [h]
  exact k
theorem mem_dints {d : PyData} : ∀ {es : List Int}, d ∈ es.map PyData.int → ∃ e ∈ es, d = .int e := fun h => by
  obtain ⟨e, h1, h2⟩ := List.mem_map.mp h
  exact ⟨e, h1, h2.symm⟩
theorem gIx_at {xs : List PyData} {z : Int} (h0 : 0 ≤ z) (h1 : z < xs.length) : ∃ d ∈ xs, gIx (.list xs) (.int z) = some d := by
  have hz : ixN xs.length z = some z.toNat := by
    unfold ixN
    rw [if_pos h0, if_pos h1]
  refine ⟨xs[z.toNat]'(by omega), List.getElem_mem _, ?_⟩
  show atI xs z = _
  unfold atI
  rw [hz]
  exact List.getElem?_eq_getElem _
def subsD : List PyData → List (List PyData)
  | [] => [[]]
  | x :: xs => subsD xs ++ (subsD xs).map (x :: ·)
def pwD (es : List Int) : List PyData → List (List PyData)
  | [] => [[]]
  | x :: xs => es.flatMap fun e => (pwD es xs).map (.tuple [x, .int e] :: ·)
theorem subs_len : ∀ {xs r : List PyData}, r ∈ subsD xs → r.length ≤ xs.length
  | [], r, h => by
    rw [List.mem_singleton.mp h]
    exact Nat.le_refl _
  | x :: xs, r, h => by
    rcases List.mem_append.mp h with h | h
    · exact Nat.le_succ_of_le (subs_len h)
    · obtain ⟨r', h1, rfl⟩ := List.mem_map.mp h
      exact Nat.succ_le_succ (subs_len h1)
end
end D

set_option maxRecDepth 100000
namespace D
open PySem L2 G PySem.Spec PyProof.Rows
variable [Tbs]
/-! ### xs[i] = v of a list of one's own -/
omit [Tbs] in
def mLSet (mo mi : Rho → M Val) : Val → Rho → M Rho := fun x ρ w => match frz x w with
  | .ok d w1 => (match mo ρ w1 with
    | .ok (.o n) w2 => (match mi ρ w2 with
      | .ok (.d (.int k)) w3 => (match w3[n]? with
        | some (.lst xs) => (match ixN xs.length k with
          | some j => .ok ρ (w3.set n (.lst (xs.set j d)))
          | none => .bad)
        | _ => .bad)
      | _ => .bad)
    | _ => .bad)
  | _ => .bad
omit [Tbs] in
theorem DpAll.setAt {K : PySem.W.Frag} {H : Hp} {v : V} {d : PyData} (h : Dp K H v d) : ∀ {vs : List V} {ds : List PyData} (k : Nat), DpAll K H vs ds → DpAll K H (vs.set k v) (ds.set k d)
  | _, _, _, .nil => .nil
  | _, _, 0, .cons _ t => .cons h t
  | _, _, k + 1, .cons a t => .cons a (DpAll.setAt h k t)
section
variable {X : Cx} {E1 E2 : XK} {o i : Expr} {to ti : TE} {mo mi : Rho → M Val} {pos : Pos}
theorem dg_set (ho : DE X E1 o to mo) (hi : DE X E2 i ti mi) (pg : PG X (.Subscript o i pos) (L2.gSub to ti rSetL)) : DG X (.Subscript o i pos) (L2.gSub to ti rSetL) (mLSet mo mi) := by
  refine ⟨pg, fun mg E v x σ ρ H c w Q r er hd p => ?_⟩
  unfold mLSet at p
  cases qf : frz x w with
  | bad => rw [qf] at p; exact p.elim
  | exn x1 w1 => rw [qf] at p; exact p.elim
  | ok d w1 =>
    rw [qf] at p
    obtain ⟨c1, g1, hd1, r1⟩ := frz_ok hd r qf
    dsimp only at p
    cases qo : mo ρ w1 with
    | bad => rw [qo] at p; exact p.elim
    | exn x1 w2 => rw [qo] at p; exact p.elim
    | ok xo w2 =>
      rw [qo] at p
      cases xo with
      | d _ => exact p.elim
      | o n =>
        dsimp only at p
        cases qi : mi ρ w2 with
        | bad => rw [qi] at p; exact p.elim
        | exn x1 w3 => rw [qi] at p; exact p.elim
        | ok xi w3 =>
          rw [qi] at p
          cases xi with
          | o _ => exact p.elim
          | d y =>
            cases y with
            | int k =>
              dsimp only at p
              refine ho.rd σ ρ H c1 w1 _ (er.mono g1) hd1 (post_ok qo fun u H2 c2 g2 hd2 r2 => ?_)
              refine hi.rd σ ρ H2 c2 w2 _ ((er.mono g1).mono g2) hd2 (post_ok qi fun z H3 c3 g3 hd3 r3 => ?_)
              cases r3
              cases q : w3[n]? with
              | none => rw [q] at p; exact p.elim
              | some ob =>
                rw [q] at p
                cases ob with
                | frz xs => exact p.elim
                | dct xs => exact p.elim
                | fdc xs => exact p.elim
                | lst xs =>
                  dsimp only at p
                  cases qk : ixN xs.length k with
                  | none => rw [qk] at p; exact p.elim
                  | some j =>
                    rw [qk] at p
                    obtain ⟨a1, e1, ea, n0, vs, eh, al⟩ := ob_at hd3 (r2.mono g3) q
                    subst e1
                    have gg := (g1.trans g2).trans g3
                    have rd : Dp X.K c3.H0 v d := (Held.of g3.h).dp _ _ ((Held.of g2.h).dp _ _ r1)
                    refine ⟨a1, vs, k, j, rfl, rfl, eh, by rw [al.length]; exact qk, ?_⟩
                    exact p σ _ c3 gg (hd3.put ea n0 (ob := .lst (xs.set j d)) ⟨n0, _, upd_same, DpAll.setAt rd j al⟩) (er.mono gg)
            | _ => exact p.elim
end
/-! ### a, b = e1, e2 where a name is caught by a comprehension: a tuple is made -/
section
variable {X : Cx} {E : XK} {s : Stmt} {es : List Expr} {t : TA} {ms : Rho → M (List Val)} {i j : Nat}
theorem ds_parC (hp : PA X es t → PS X s (L2.tAsg (F.tTupF t) (L2.gTup X.K 2 (L2.gCons (L2.gName i) (L2.gCons (L2.gName j) L2.gNil))))) (ha : DA X E es t ms) :
    DS X E s (L2.tAsg (F.tTupF t) (L2.gTup X.K 2 (L2.gCons (L2.gName i) (L2.gCons (L2.gName j) L2.gNil)))) (fPar i j ms) :=
  ⟨hp ha.pa, fun σ ρ H c w D er hd p => ha.rd σ ρ H c w _ er hd (FPost.bind p fun vs H1 c1 xs w1 g1 hd1 r1 p1 => by
    revert p1
    split
    · intro p1
      cases r1 with
      | cons a r1 => cases r1 with
        | cons a2 r1 =>
          cases r1
          refine ⟨lineOk (by simp), fun q o nq ho => ?_⟩
          refine ⟨q, _, rfl, .inl (.inr ⟨o, upd_same⟩), rfl, _, _, rfl, _, _, rfl, rfl, ?_⟩
          exact p1 _ _ _ (hd1.grow nq) (hd1.new nq fun _ => ho) ((((er.mono g1).set i a).set j a2).mono (hd1.grow nq))
    · intro p1; exact p1.elim)⟩
end
end D

set_option maxRecDepth 100000
set_option maxHeartbeats 4000000
namespace D
open PySem L2 G PySem.Spec PyProof.Rows
/-! ### str of a tuple of data -/
section
variable {X : Cx}
theorem call_strD (gd : X.A.guards = some []) (hu : X.A.units + 80 < cLine) : CallR X (.type "str") (fun xs H Q => ∃ x d, xs = [x] ∧ Dp X.K H x d ∧ (∃ l, d = .tuple l) ∧ SeqAt.shaped d = true ∧ d.showable = true ∧ d.shown.length ≤ sizeLine ∧ Q (.str d.shown) H) := by
  intro pins s σ H xs us Q I r h
  obtain ⟨x, d, rfl, hd, ⟨l, rfl⟩, sh, sw, sz, q⟩ := h
  match us, r with
  | [u], .cons ru .nil =>
    have fin : ∀ h' t tk, (∀ b o, s.heap.get? b = some o → h'.get? b = some o) → EP X pins σ Q (.str (PyData.tuple l).shown t) { s with heap := h', toks := tk } := fun h' t tk kk => ⟨.str _, H, I.kept kk, ⟨_, rfl⟩, q⟩
    have dep : (PyData.tuple l).depth ≤ 64 := by
      have z : ((PyData.tuple l).canLay0 && decide ((PyData.tuple l).depth ≤ 64)) = true := sh
      rw [Bool.and_eq_true] at z
      exact of_decide_eq_true z.2
    have can : (PyData.tuple l).canLay0 = true := SeqAt.canLay_of_shaped sh
    have no := PyData.hasDict_of_canLay _ can
    obtain ⟨as, rd⟩ := Dp.reads I _ x u hd ru
    cases hd with
    | tup hs ha =>
      cases (show u = Value.ref _ from ru)
      exact str_of_reads rd sw (PyData.noDict_hsm no) gd (by omega) (fun _ _ q => q) (fun h' u tk kk => fin h' u tk kk) sz
end
def gStrT : List PyData → Option PyData
  | [.tuple l] => if szB 60 20000 (.tuple l) = true then some (.str (PyData.tuple l).shown) else none
  | a => gStr a
section
variable {K : PySem.W.Frag} [Tbs]
def rStrT (K : PySem.W.Frag) : List V → Hp → VK → Prop := fun xs H Q => ((∃ i, xs = [.int i] ∧ i.natAbs.log2 < 1920 ∧ Q (.str (toString i)) H) ∨ ∃ a, xs = [.str a] ∧ Q (.str a) H) ∨ ∃ x d, xs = [x] ∧ Dp K H x d ∧ (∃ l, d = .tuple l) ∧ SeqAt.shaped d = true ∧ d.showable = true ∧ d.shown.length ≤ sizeLine ∧ Q (.str d.shown) H
theorem cr_strT {X : Cx} (gd : X.A.guards = some []) (hu : X.A.units + 80 < cLine) : CallR X (.type "str") (rStrT X.K) := CallR.or cr_str (call_strD gd hu)
theorem rd_strT : CallRd K (rStrT K) gStrT := by
  intro vs H c w as d Q hd hx eg k
  unfold gStrT at eg
  split at eg
  · obtain ⟨hl, rfl⟩ := ite_some eg
    have z := szB_of hl
    cases hx with
    | cons h t => cases t; exact .inr ⟨_, _, rfl, h.dp hd.sub, ⟨_, rfl⟩, z.shaped (by decide), z.sh, z.fits (by decide), k _ _ _ (.refl _) hd (.str _)⟩
  · exact .inl (rd_str _ _ _ _ _ _ _ hd hx eg k)
end
end D

set_option maxRecDepth 100000
set_option maxHeartbeats 4000000
namespace D
open PySem L2 G PySem.Spec PyProof.Rows
/-! ### list(range(n)), list(range(a, b)) -/
def gLR : PyData → Option PyData
  | .int n => if n < 16777216 ∧ -(2 ^ 62) ≤ n then some (.list (rangeD 0 n.toNat)) else none
  | _ => none
def gLR2 : PyData → PyData → Option PyData
  | .int a, .int b => if (-(2 ^ 62) ≤ a ∧ a < 2 ^ 62 ∧ -(2 ^ 62) ≤ b ∧ b < 2 ^ 62) ∧ (b - a).toNat ≤ 2 ^ 24 then some (.list (rangeD a (b - a).toNat)) else none
  | _, _ => none
theorem rg_dp {K : PySem.W.Frag} {H : Hp} : ∀ (xs : List Nat) (a : Int), DpAll K H (xs.map fun i => V.int (a + (i : Nat))) (xs.map fun i => PyData.int (a + (i : Nat)))
  | [], _ => .nil
  | _ :: xs, a => .cons (.int _) (rg_dp xs a)
section
variable {K : PySem.W.Frag} [Tbs]
theorem rd_lr : UnRd K (fun x H Q => ∃ n, x = .int n ∧ RgOk 0 n ∧ ∀ q, H q = none → Q (.ref q) (upd H q (.lst (rgV 0 n)))) gLR := by
  intro x H c w a d Q hd hx eg k
  cases a with
  | int n =>
    obtain ⟨⟨h1, h2⟩, rfl⟩ := ite_some eg
    obtain rfl := hx.int
    refine ⟨n, rfl, ⟨by decide, by decide, h2, by omega, by omega⟩, fun q nq => ?_⟩
    refine k _ _ _ (hd.grow (o := .lst _) nq) (hd.new nq) (Dp.newL (p := q) ?_ (hd.free nq))
    have z := rg_dp (K := K) (H := c.H0) (List.range (n - 0).toNat) 0
    rw [Int.sub_zero] at z
    unfold rgV rangeD
    rw [Int.sub_zero]
    exact z
  | _ => simp [gLR] at eg
theorem rd_lr2 : OpRd K (fun x y H Q => ∃ i j, x = .int i ∧ y = .int j ∧ RgOk i j ∧ ∀ q, H q = none → Q (.ref q) (upd H q (.lst (rgV i j)))) gLR2 := by
  intro x y H c w a b d Q hd hx hy eg k
  unfold gLR2 at eg
  split at eg
  · rename_i i j
    obtain ⟨⟨⟨h1, h2, h3, h4⟩, h5⟩, rfl⟩ := ite_some eg
    obtain rfl := hx.int
    obtain rfl := hy.int
    refine ⟨i, j, rfl, rfl, ⟨h1, h2, h3, h4, h5⟩, fun q nq => ?_⟩
    refine k _ _ _ (hd.grow (o := .lst _) nq) (hd.new nq) (Dp.newL (p := q) ?_ (hd.free nq))
    exact rg_dp (K := K) (H := c.H0) (List.range (j - i).toNat) i
  · cases eg
end
section
variable [Tbs] {X : Cx} {E : XK} {e1 e2 e' : Expr} {te t1 t2 : TE} {m m1 m2 : Rho → M Val}
theorem de_lr (pe : PE X e' (tLstRg (tRg1 te))) (h : DE X E e1 te m) : DE X E e' (tLstRg (tRg1 te)) (mUn gLR m) :=
  ⟨pe, fun σ ρ H c w Q er hd p => h.rd σ ρ H c w _ er hd (Post.bind p fun x H1 c1 vx w1 gg hd1 r1 p1 => un_end rd_lr hd1 r1 p1)⟩
theorem de_lr2 (pe : PE X e' (tLstRg (tRg2 t1 t2))) (h1 : DE X E e1 t1 m1) (h2 : DE X E e2 t2 m2) : DE X E e' (tLstRg (tRg2 t1 t2)) (mOp gLR2 m1 m2) :=
  de_2 (r := fun x y H Q => ∃ i j, x = .int i ∧ y = .int j ∧ RgOk i j ∧ ∀ q, H q = none → Q (.ref q) (upd H q (.lst (rgV i j)))) pe rd_lr2 h1 h2
end
end D

set_option maxRecDepth 100000
set_option maxHeartbeats 4000000
namespace D
open PySem L2 G PySem.Spec PyProof.Rows
/-! ### d = dict(pairs), a dict that its def never changes: list(d), for k in d, k in d, d.get(k, x) -/
section
variable {X : Cx}
def rDictF (K : PySem.W.Frag) : List V → Hp → VK → Prop := fun xs H Q => ∃ (a : Addr) (ps : List Addr) (kvs : List (Key × V)), xs = [.ref a] ∧ plT K H a (ps.map V.ref) ∧ Paired (fun p kv => SqT K H p [kV kv.1, kv.2]) ps kvs ∧
    ∀ p o, H p = none → Q (.ref p) (upd H p (.frz o (.dK (mergeK [] kvs))))
theorem call_dictF (hcalm : X.calm = true) : CallR X (.type "dict") (rDictF X.K) := by
  intro pins s σ H xs us Q I r q
  obtain ⟨a, ps, kvs, ex, hq, hp, q⟩ := q
  subst ex
  obtain ⟨u, eu, rx⟩ := vals1 r
  subst eu
  cases rx
  obtain ⟨its, rv, pl, hz⟩ := plT_at I hq
  have ei := refs_at rv
  subst ei
  rw [List.length_map] at hz
  obtain ⟨prs, vps, rel, hl, hl2, hpr⟩ := pairs2 I hp
  refine PySem.call_dict_pairs (knd := mixKind X.prog X.w) (kvs := prs) (PySem.PairArg.tuple a (ps.map Value.ref).toArray (fun j => ps.getD j 0) vps) (I.ok.hd hcalm) ⟨pl, ?_, fun j k v e => ?_⟩ ⟨by omega, fun i k v e => ?_⟩ (by omega) fun h' tk hd' k => ?_
  · simp [hl2]
  · obtain ⟨b, key, e1, e2, e3, e4⟩ := hpr j k v e
    have eb : ps.getD j 0 = b := by rw [List.getD_eq_getElem?_getD, e1]; rfl
    exact ⟨by simp [e1, List.getD_eq_getElem?_getD], by show PySem.PairAt _ (ps.getD j 0) _ _; rw [eb]; exact e2⟩
  · obtain ⟨b, key, e1, e2, e3, e4⟩ := hpr i k v e
    exact ⟨key, e3, e4⟩
  · have hm : (s.heap.objs.size == sysModules) = false := beq_eq_false_iff_ne.mpr (Nat.ne_of_gt I.big)
    have hlen : (mergeK [] kvs).length ≤ sizeLine := by
      refine Nat.le_trans (length_mergeK kvs []) ?_
      rw [List.length_nil, Nat.zero_add, rel.length, hl]
      exact hz
    obtain ⟨oo, es, ep, go, rest⟩ := id hd'
    exact ⟨.ref s.heap.objs.size, upd H s.heap.objs.size (.frz oo (.dK (mergeK [] kvs))), I.laid (t' := tk) (fun b o e => k b o (by simp) e) (Nat.le_refl _) (show ObjOk X.prog X.w _ _ _ (.frz oo (.dK (mergeK [] kvs))) from ⟨go, hlen, hm, merged [] prs, KV.merge rel .nil, hd'⟩), rfl, q _ _ (I.hok.fresh (Nat.le_refl _))⟩
end
def keyD : Key → PyData
  | .inl i => .int i
  | .inr s => .str s
def keysD (kvs : List (Key × PyData)) : List PyData := kvs.map fun kv => keyD kv.1
def mDictF (m : Rho → M (List Val)) : Rho → M Val := fun ρ => bnd (m ρ) fun xs => fun w => match xs with
  | [.d (.tuple ps)] => (match pairsD ps with
    | some kvs => .ok (.o w.length) (w ++ [.fdc (mergeD [] kvs)])
    | none => .bad)
  | _ => .bad
variable [Tbs]
/-- a new object of one's own that never changes -/
theorem Hold.newF {K : PySem.W.Frag} {H : Hp} {c : Ctx} {w : Om} {p : Addr} {oo : Obj} {ws : List (Key × V)} {kvs : List (Key × PyData)} (hd : Hold K H c w) (np : H p = none) (al : KD K c.H0 ws kvs) :
    ∃ c', Grow c c' ∧ Hold K (upd H p (.frz oo (.dK ws))) c' (w ++ [.fdc kvs]) ∧ c'.al[w.length]? = some p := by
  have hd2 := hd.new (o := .frz oo (.dK ws)) np
  have g2 := hd.grow (o := .frz oo (.dK ws)) np
  have nal := hd.notin np
  have z : c.al.length = w.length := hd.len
  refine ⟨⟨upd c.H0 p (.frz oo (.dK ws)), c.al ++ [p], c.ex⟩, ⟨g2.h, ⟨[p], rfl⟩, rfl⟩, ⟨hd2.sub, ?_, ?_, fun n a ob ea eo => ?_, fun q hq => ?_, hd2.pnd, hd2.tab, hd2.nt, hd2.pl⟩, by simp [← z]⟩
  · show (c.al ++ [p]).Nodup
    rw [List.nodup_append]
    exact ⟨hd.nd, by simp, fun x hx y hy e => nal (by rw [List.mem_singleton.mp hy] at e; rw [← e]; exact hx)⟩
  · show (c.al ++ [p]).length = (w ++ [Ob.fdc kvs]).length
    rw [List.length_append, List.length_append, z]
    rfl
  · by_cases hn : n < c.al.length
    · have ea' : c.al[n]? = some a := by
        rw [← ea]
        exact (List.getElem?_append_left hn).symm
      have eo' : w[n]? = some ob := by
        rw [← eo]
        exact (List.getElem?_append_left (by omega)).symm
      exact (hd2.obs n a ob ea' eo').al
    · have e1 : n = c.al.length := by
        have y := (List.getElem?_eq_some_iff.mp ea).1
        simp at y
        omega
      subst e1
      have ep : a = p := by
        have y : (c.al ++ [p])[c.al.length]? = some a := ea
        rw [List.getElem?_append_right (Nat.le_refl _)] at y
        simp at y
        exact y.symm
      have eb : ob = .fdc kvs := by
        rw [z, List.getElem?_append_right (Nat.le_refl _)] at eo
        simp at eo
        exact eo.symm
      subst ep
      subst eb
      exact ⟨oo, ws, upd_same, al.mono g2.h⟩
  · obtain ⟨h1, h2, h3⟩ := hd2.pin q hq
    refine ⟨h1, h2, fun hm => ?_⟩
    rcases List.mem_append.mp hm with hm | hm
    · exact h3 hm
    · rw [List.mem_singleton.mp hm] at h1
      have k := (hd.pin q hq).1
      rw [List.mem_singleton.mp hm, np] at k
      cases k
theorem keys_dp {K : PySem.W.Frag} {H : Hp} : ∀ {ws : List (Key × V)} {kvs : List (Key × PyData)}, KD K H ws kvs → DpAll K H (ws.map fun kv => kV kv.1) (keysD kvs)
  | _, _, .nil => .nil
  | _, _, .cons (k := k) h t => .cons (by cases k with | inl i => exact .int i | inr s => exact .str s) (keys_dp t)
def mLstD (m : Rho → M Val) : Rho → M Val := fun ρ => bnd (m ρ) fun x => fun w => match x with
  | .o n => (match w[n]? with
    | some (.fdc kvs) => .ok (.d (.list (keysD kvs))) w
    | _ => .bad)
  | _ => .bad
def mKeysF (m : Rho → M Val) : Rho → M (List PyData) := fun ρ => bnd (m ρ) fun x => fun w => match x with
  | .o n => (match w[n]? with
    | some (.fdc kvs) => .ok (keysD kvs) w
    | _ => .bad)
  | _ => .bad
def mInF (neg : Bool) (mk mo : Rho → M Val) : Rho → M Val := fun ρ => bnd (mk ρ) fun y => bnd (mo ρ) fun x => fun w => match y, x with
  | .d k, .o n => (match w[n]?, keyOf k with
    | some (.fdc kvs), some key => .ok (.d (.bool (neg != (valD kvs key).isSome))) w
    | _, _ => .bad)
  | _, _ => .bad
def mGetF (mo mk mx : Rho → M Val) : Rho → M Val := fun ρ => bnd (mo ρ) fun x => fun w => match x with
  | .o n => (match w[n]? with
    | some (.fdc _) => bnd (mk ρ) (fun y => bnd (mx ρ) fun z => fun w => match y, w[n]? with
      | .d k, some (.fdc kvs) => (match keyOf k with
        | some key => (match valD kvs key with | some d => .ok (.d d) w | none => .ok z w)
        | none => .bad)
      | _, _ => .bad) w
    | _ => .bad)
  | _ => .bad
section
variable {X : Cx} {E : XK} {e e1 tg o i f call : Expr} {es : List Expr} {t : TA} {te to ti tf : TE} {ms : Rho → M (List Val)} {m mo mi mf : Rho → M Val} {pos : Pos}
theorem de_dictF (tp : Tbs.plain = true) (kp : KPlain X.K) (pe : PE X e (tCB (rDictF X.K) t)) (h : DA X E es t ms) : DE X E e (tCB (rDictF X.K) t) (mDictF ms) :=
  ⟨pe, fun σ ρ H c w Q er hd p => h.rd σ ρ H c w _ er hd (Post.bind p fun vs H1 c1 xs w1 g1 hd1 r1 p1 => by
    split at p1
    · rename_i ps
      cases q : pairsD ps with
      | none => rw [q] at p1; exact p1.elim
      | some kvs =>
        rw [q] at p1
        cases r1 with
        | cons r1 rn =>
          cases rn
          cases (show Dp X.K c1.H0 _ (.tuple ps) from r1) with
          | tup h1 h2 =>
            obtain ⟨pas, ws, rfl, a1, a2⟩ := pairs_dp h2 q
            refine ⟨_, pas, ws, rfl, plT_of hd1 tp kp h1 (fun i p e => by cases pas <;> simp at e), ?_, fun p oo np => ?_⟩
            · exact L2.Paired.mapP a1 fun p kv z => (Held.of hd1.sub).sqt z
            · obtain ⟨c2, g2, hd2, ea⟩ := hd1.newF (oo := oo) np (KD.merge a2 .nil)
              exact p1 _ _ c2 g2 hd2 ⟨p, rfl, ea⟩
    · exact p1.elim)⟩
theorem de_lstD (pe : PE X e (tCB (fun xs H Q => ∃ (a : Addr) (kvs : List (Key × V)), xs = [.ref a] ∧ Rd H a (.dK kvs) ∧ ∀ p, H p = none → Q (.ref p) (upd H p (.lst (kvs.map fun kv => kV kv.1)))) (tCons te tNil))) (h : DE X E e1 te m) :
    DE X E e (tCB (fun xs H Q => ∃ (a : Addr) (kvs : List (Key × V)), xs = [.ref a] ∧ Rd H a (.dK kvs) ∧ ∀ p, H p = none → Q (.ref p) (upd H p (.lst (kvs.map fun kv => kV kv.1)))) (tCons te tNil)) (mLstD m) :=
  ⟨pe, fun σ ρ H c w Q er hd p => h.rd σ ρ H c w _ er hd (Post.bind p fun v H1 c1 x w1 g1 hd1 r1 p1 => by
    cases x with
    | d x => exact p1.elim
    | o n =>
      dsimp only at p1
      cases q : w1[n]? with
      | none => rw [q] at p1; exact p1.elim
      | some ob =>
        rw [q] at p1
        cases ob with
        | lst xs => exact p1.elim
        | frz xs => exact p1.elim
        | dct xs => exact p1.elim
        | fdc kvs =>
          obtain ⟨a1, rfl, ea, oo, ws, eh, al⟩ := ob_at hd1 r1 q
          exact ⟨a1, ws, rfl, .inr ⟨oo, hd1.sub _ _ eh⟩, fun p np => p1 _ _ _ (hd1.grow (o := .lst _) np) (hd1.new np) (Dp.newL (keys_dp al) (hd1.free np))⟩)⟩
theorem di_keysF (he : DE X E e te m) : DI X E tg e (iKeys te) (mKeysF m) :=
  ⟨pi_keys he.pe, fun σ ρ H c w R er hd p => he.rd σ ρ H c w _ er hd (Post.bind p fun v H1 c1 x w1 g1 hd1 r1 p1 => by
    cases x with
    | d x => exact p1.elim
    | o n =>
      dsimp only at p1
      cases q : w1[n]? with
      | none => rw [q] at p1; exact p1.elim
      | some ob =>
        rw [q] at p1
        cases ob with
        | lst xs => exact p1.elim
        | frz xs => exact p1.elim
        | dct xs => exact p1.elim
        | fdc kvs =>
          obtain ⟨a1, rfl, ea, oo, ws, eh, al⟩ := ob_at hd1 r1 q
          refine ⟨a1, oo, rfl, .inl ⟨ws, hd1.sub _ _ eh, p1 _ H1 c1 (.refl _) hd1 ?_⟩⟩
          have ks := keys_dp al
          have hl : (keysD kvs).length = ws.length := by rw [← ks.length, List.length_map]
          refine ⟨_, _, by rw [hl]; exact walk_keys, fun H' c' w' s hd' => hd'.sub _ _ (s _ _ eh), fun i H2 c2 w2 y H3 hi g hd3 yy => ?_⟩
          obtain ⟨rfl, k, v, e1, rfl⟩ := yy
          obtain ⟨d, e2, r2⟩ := ks.getV (i := i) (v := kV k) (by rw [List.getElem?_map, e1]; rfl)
          exact ⟨c2, d, .refl _, hd3, e2, (Held.of g).dp _ _ r2⟩)⟩
theorem de_inF (pe : PE X call (tDIn ti to)) (hi : DE X E i ti mi) (ho : DE X E o to mo) : DE X E call (tDIn ti to) (mInF false mi mo) :=
  ⟨pe, fun σ ρ H c w Q er hd p => hi.rd σ ρ H c w _ er hd (Post.bind p fun y H1 c1 k w1 g1 hd1 r1 p1 => ho.rd σ ρ H1 c1 w1 _ (er.mono g1) hd1 (Post.bind p1 fun v H2 c2 x w2 g2 hd2 r2 p2 => by
    cases k with
    | o n => exact p2.elim
    | d k =>
      cases x with
      | d x => exact p2.elim
      | o n =>
        dsimp only at p2
        cases q : w2[n]? with
        | none => rw [q] at p2; exact p2.elim
        | some ob =>
          rw [q] at p2
          cases ob with
          | lst xs => exact p2.elim
          | frz xs => exact p2.elim
          | dct xs => exact p2.elim
          | fdc kvs =>
            cases qk : keyOf k with
            | none => rw [qk] at p2; exact p2.elim
            | some key =>
              rw [qk] at p2
              obtain ⟨a1, rfl, ea, oo, ws, eh, al⟩ := ob_at hd2 r2 q
              have eu := key_v (r1.mono g2) qk
              subst eu
              have kd := KD.val (k := key) al
              have es : (valV ws key).isSome = (valD kvs key).isSome := by
                cases qv : valD kvs key with
                | none => rw [kd.2 qv]; rfl
                | some d => obtain ⟨v2, ev, _⟩ := kd.1 d qv; rw [ev]; rfl
              refine ⟨a1, _, rfl, .inl ⟨ws, key, .inr ⟨oo, hd2.sub _ _ eh⟩, rfl, rfl⟩, ?_⟩
              rw [es]
              have z := p2 (.bl (false != (valD kvs key).isSome)) H2 c2 (.refl _) hd2 (.bl _)
              rw [Bool.false_bne] at z
              exact z))⟩
theorem de_notInF (pe : PE X call (tDNotIn ti to)) (hi : DE X E i ti mi) (ho : DE X E o to mo) : DE X E call (tDNotIn ti to) (mInF true mi mo) :=
  ⟨pe, fun σ ρ H c w Q er hd p => hi.rd σ ρ H c w _ er hd (Post.bind p fun y H1 c1 k w1 g1 hd1 r1 p1 => ho.rd σ ρ H1 c1 w1 _ (er.mono g1) hd1 (Post.bind p1 fun v H2 c2 x w2 g2 hd2 r2 p2 => by
    cases k with
    | o n => exact p2.elim
    | d k =>
      cases x with
      | d x => exact p2.elim
      | o n =>
        dsimp only at p2
        cases q : w2[n]? with
        | none => rw [q] at p2; exact p2.elim
        | some ob =>
          rw [q] at p2
          cases ob with
          | lst xs => exact p2.elim
          | frz xs => exact p2.elim
          | dct xs => exact p2.elim
          | fdc kvs =>
            cases qk : keyOf k with
            | none => rw [qk] at p2; exact p2.elim
            | some key =>
              rw [qk] at p2
              obtain ⟨a1, rfl, ea, oo, ws, eh, al⟩ := ob_at hd2 r2 q
              have eu := key_v (r1.mono g2) qk
              subst eu
              have kd := KD.val (k := key) al
              have es : (valV ws key).isSome = (valD kvs key).isSome := by
                cases qv : valD kvs key with
                | none => rw [kd.2 qv]; rfl
                | some d => obtain ⟨v2, ev, _⟩ := kd.1 d qv; rw [ev]; rfl
              refine ⟨a1, _, rfl, .inl ⟨ws, key, .inr ⟨oo, hd2.sub _ _ eh⟩, rfl, rfl⟩, ?_⟩
              rw [es]
              have z := p2 (.bl (true != (valD kvs key).isSome)) H2 c2 (.refl _) hd2 (.bl _)
              rw [Bool.true_bne] at z
              exact z))⟩
theorem de_getF (pe : PE X call (tDGet2 to ti tf)) (ho : DE X E o to mo) (hi : DE X E i ti mi) (hf : DE X E f tf mf) : DE X E call (tDGet2 to ti tf) (mGetF mo mi mf) :=
  ⟨pe, fun σ ρ H c w Q er hd p => ho.rd σ ρ H c w _ er hd (Post.bind p fun v H1 c1 x w1 g1 hd1 r1 p1 => by
    cases x with
    | d x => exact p1.elim
    | o n =>
      dsimp only at p1
      cases q : w1[n]? with
      | none => rw [q] at p1; exact p1.elim
      | some ob =>
        rw [q] at p1
        cases ob with
        | lst xs => exact p1.elim
        | frz xs => exact p1.elim
        | dct xs => exact p1.elim
        | fdc kvs0 =>
          try dsimp only at p1
          obtain ⟨a1, e1, ea, oo0, ws, eh, al⟩ := ob_at hd1 r1 q
          subst e1
          refine ⟨a1, rfl, .inl ⟨ws, .inr ⟨oo0, hd1.sub _ _ eh⟩⟩, hi.rd σ ρ H1 c1 w1 _ (er.mono g1) hd1 (Post.bind (r := mi ρ w1) p1 fun u H2 c2 y w2 g2 hd2 r2 p2 =>
            hf.rd σ ρ H2 c2 w2 _ ((er.mono g1).mono g2) hd2 (Post.bind (r := mf ρ w2) p2 fun z H3 c3 vz w3 g3 hd3 r3 p3 => ?_))⟩
          cases y with
          | o m => exact p3.elim
          | d k =>
            try dsimp only at p3
            cases q3 : w3[n]? with
            | none => rw [q3] at p3; exact p3.elim
            | some ob3 =>
              rw [q3] at p3
              cases ob3 with
              | lst xs => exact p3.elim
              | frz xs => exact p3.elim
              | dct xs => exact p3.elim
              | fdc kvs =>
                dsimp only at p3
                cases qk : keyOf k with
                | none => rw [qk] at p3; exact p3.elim
                | some key =>
                  rw [qk] at p3
                  dsimp only at p3
                  obtain ⟨a3, e3, ea3, oo3, ws3, eh3, al3⟩ := ob_at hd3 ((r1.mono g2).mono g3) q3
                  cases e3
                  have eu := key_v (r2.mono g3) qk
                  subst eu
                  have kd := KD.val (k := key) al3
                  have dg : DGet H3 a1 (kV key) (valV ws3 key) := .inl ⟨ws3, key, .inr ⟨oo3, hd3.sub _ _ eh3⟩, rfl, rfl⟩
                  cases qv : valD kvs key with
                  | some d =>
                    rw [qv] at p3
                    obtain ⟨v2, ev, rv⟩ := kd.1 d qv
                    refine ⟨_, dg, ?_⟩
                    rw [ev]
                    exact p3 v2 H3 c3 (.refl _) hd3 rv
                  | none =>
                    rw [qv] at p3
                    refine ⟨_, dg, ?_⟩
                    rw [kd.2 qv]
                    exact p3 z H3 c3 (.refl _) hd3 r3)⟩
theorem dt_inF (pt : PT X call (tB (tDIn ti to))) (h : DE X E call (tDIn ti to) m) : DT X E call (tB (tDIn ti to)) (mTest m) := ⟨pt, rd_test h⟩
theorem dt_notInF (pt : PT X call (tB (tDNotIn ti to))) (h : DE X E call (tDNotIn ti to) m) : DT X E call (tB (tDNotIn ti to)) (mTest m) := ⟨pt, rd_test h⟩
end
end D

set_option maxRecDepth 100000
set_option maxHeartbeats 4000000
namespace D
open PySem L2 G PySem.Spec PyProof.Rows LamX
variable [Tbs]
/-! ### def f(a, .., *v) that may raise -/
structure FnVX (P : Program) (w : World) (K : PySem.W.Frag) (mg : Str → Option Value) (base : Heap) (k : Nat) (x : Str) (st : Stmt) (ps : List Str) (pv : Str) (F : List Val → M Val) : Prop where
  ex : ∃ f fd, Fun K x x st f fd ∧ mg x = some (.ref f) ∧
    ∀ (A : Around) (outer : List Env) (s : Shared) (H : Hp) (args : Args) (us rest : List Value) (vs zs : List V) (Q : VK) (E : XK), Room k A → Env0 P w K mg base A outer s H → Vals vs us → Vals zs rest → vs.length = ps.length → zs.length ≤ sizeLine →
      bindArgs fd args = (newTuple rest >>= fun t => pure (ps.zip us ++ [(pv, t)])) → (∀ (p : Addr) (o : Obj), H p = none → o.dict = none → spX K mg (ps.length + 1) F (vs ++ [.ref p]) (upd H p (.frz o (.tup zs))) Q E) → codeAny (model P w) A (.call (.ref f) args) (CR (L2.CX P w) outer P w H s Q E) s
section
variable {P : Program} {w : World} {K : PySem.W.Frag} {mg : Str → Option Value} {base : Heap} {k : Nat} {x : Str} {st : Stmt} {ps N : List Str} {pv : Str}
theorem fnvx_of {b : B} {own : Bool} (i : Is K mg x st) (S : FnScope N (ps ++ [pv]) (defScope st))
    (bd : ∀ (f : Addr) (cdv : Value) (A : Around) (outer : List Env) (s : Shared) (H : Hp) (E : XK), Room k (A.deeper (envOfC x (defScope st) s.heap.objs.size f cdv)) →
      ∃ t, DSs (cxOf (L2.CX P w) P w K mg base N x (defScope st) f cdv A outer s H E) E (defBody st) t b) : FnVX P w K mg base (k + 1) x st ps pv (mBody own N b) := by
  obtain ⟨f, fd, F, m⟩ := i
  refine ⟨f, fd, F, m, fun A outer s H args us rest vs zs Q E e0x => ?_⟩
  intro e0 r1 r2 hl hz hb hq
  have hr := e0x
  obtain ⟨oc, od, kV, doc, pm, an, cdv, ct, osl, rfl, lk, hcd⟩ := F.ex
  have hn : H s.heap.objs.size = Option.none := e0.hok.fresh (Nat.le_refl _)
  have hl1 : us.length = ps.length := by rw [← r1.length]; exact hl
  have hl2 : rest.length ≤ sizeLine := by rw [← r2.length]; exact hz
  refine StX.run_bnd lk hcd S hr e0 (G := fun xs H2 => ∃ (p : Addr) (o : Obj), H p = Option.none ∧ o.dict = Option.none ∧ xs = vs ++ [V.ref p] ∧ H2 = upd H p (.frz o (.tup zs))) (fun A' Ex Q' h => ?_) fun s2 H2 xs ⟨p, o, hp, hd0, ex, eH⟩ hr' => ?_
  · rw [hb]
    refine wpAny_bind (wpAny_newTuple (wpAny_pure ?_) hl2)
    have new : ObjOk P w (upd H s.heap.objs.size (.frz ({ cls := .type "tuple", data := .seq rest.toArray } : Obj) (.tup zs))) (s.heap.push ({ cls := .type "tuple", data := .seq rest.toArray } : Obj)) s.heap.objs.size (.frz ({ cls := .type "tuple", data := .seq rest.toArray } : Obj) (.tup zs)) :=
      ⟨Heap.get?_push_size _ rfl, hz, rest, r2, ⟨_, Heap.get?_push_size _ rfl, rfl, _, rfl⟩⟩
    have un := StX.un_laid (fs := frs outer) (s := s) (o := ({ cls := .type "tuple", data := .seq rest.toArray } : Obj)) (u := .frz ({ cls := .type "tuple", data := .seq rest.toArray } : Obj) (.tup zs)) hn
    have z := h _ _ (vs ++ [V.ref s.heap.objs.size]) (us ++ [Value.ref s.heap.objs.size]) (StX.env0_laid e0 new) un rfl (fun e s' hh => by
      refine StX.cxUp outer s H _ _ E e s' ?_ ?_ ?_ hh
      · exact un
      · exact fun b o q => Heap.get?_push_of_some _ q
      · rfl) (r1.append (.cons rfl .nil))
      (by rw [List.length_append, List.length_append, hl] <;> rfl) ⟨_, _, hn, rfl, rfl, rfl⟩
    rw [List.zip_append hl1.symm] at z
    exact z
  · subst ex eH
    obtain ⟨t, ht⟩ := bd f cdv A outer s2 _ E hr'
    obtain ⟨hl3, c, w', xs, hd, r, p2⟩ := hq p o hp hd0
    exact ⟨t, ht.ps, ht.rd _ _ _ c w' _ (start_er N r) hd (fin_post hd p2)⟩
end
omit [Tbs] in
def mFnVX (n : Nat) (F : List Val → M Val) (ms : Rho → M (List Val)) : Rho → M Val := fun ρ => bnd (ms ρ) fun xs => bnd (frzs xs) fun ds => if n ≤ ds.length ∧ ds.length ≤ 100000 then onlyX F (ds.take n ++ [.tuple (ds.drop n)]) else fun _ => .bad
def tFnVX (K : PySem.W.Frag) (mg : Str → Option Value) (n : Nat) (F : List Val → M Val) (t : TA) (E : XK) : TE := fun σ H Q => t σ H fun vs H1 => ∃ ws zs, vs = ws ++ zs ∧ ws.length = n ∧ zs.length ≤ sizeLine ∧ ∀ (p : Addr) (o : Obj), H1 p = none → o.dict = none → spX K mg (n + 1) F (ws ++ [.ref p]) (upd H1 p (.frz o (.tup zs))) Q E
section
variable {X : Cx} {E : XK} {k j : Nat} {x : Str} {st : Stmt} {ps : List Str} {pv : Str} {F : List Val → M Val} {e : Expr} {es : List Expr} {t : TA} {ms : Rho → M (List Val)} {p pos : Pos}
theorem de_fnVX (Fd : FnVX X.prog X.w X.K X.mg X.base k x st ps pv F) (hx : Passes (L2.CX X.prog X.w) X E) (hr : Room j X.A) (hk : k ≤ j) (hg : Gl X x)
    (hb : ∀ (kV doc pm : Value) (an : Option Addr) (cdv ct : Value) (us rest : List Value), us.length = ps.length → bindArgs (PySem.W.fnOf x x (defArgs st) (defBody st) (defScope st) .none kV doc pm an cdv ct) ⟨us ++ rest, []⟩ = (newTuple rest >>= fun t => pure (ps.zip us ++ [(pv, t)])))
    (ha : DA X E (e :: es) t ms) (hdb : (x == ("__debug__" : Str)) = false := by decide)
    (he : starEach (e :: es) X.env = (false, eval e X.env) :: starEach es X.env := by rfl) (hpl : (backTo pos (starEach es X.env)).any (·.1) = false := by rfl) :
    DE X E (.Call (.Name x p) (e :: es) [] pos) (tFnVX X.K X.mg ps.length F t E) (mFnVX ps.length F ms) := by
  refine ⟨?_, fun σ ρ H c w Q er hd p => ha.rd σ ρ H c w _ er hd (Post.bind p fun vs H1 c1 xs w1 g1 hd1 r1 p1 => ?_)⟩
  · obtain ⟨f, fd, Fu, m, go⟩ := Fd.ex
    refine ⟨fun pins s σ H Q I h => wpAny_Call_Name_kw (ld_glob I hg m (PySem.W.callWith_K (h₀ := X.base) I.ok.mod.kin Fu.kp (thn (ha.pa.run pos pins s σ H _ I h) fun us s1 ⟨vs, H1, I1, r, q⟩ => ⟨I1.kIn, ?_⟩) he hpl) hdb)⟩
    obtain ⟨ws, zs, rfl, hl, hz, q⟩ := q
    obtain ⟨u1, u2, rfl, r1, r2⟩ := StX.vals_split r
    obtain ⟨oc, od, kV, doc, pm, an, cdv, ct, osl, rfl, lk, hcd⟩ := Fu.ex
    refine wpAny_call (codeAny_mono (go X.A X.stack s1 H1 ⟨u1 ++ u2, []⟩ u1 u2 ws zs Q E (hr.mono hk) I1.env0 r1 r2 hl hz (hb kV doc pm an cdv ct u1 u2 (by rw [← r1.length]; exact hl)) q) fun rr s' hq => ?_)
    cases rr with
    | error e => exact hx pins σ H1 s1 e s' I1 hq
    | ok fl =>
      cases fl with
      | ret u => exact I1.after hq
      | next => exact False.elim hq
      | brk => exact False.elim hq
      | cont => exact False.elim hq
  · obtain ⟨c2, w2, ds, g2, hd2, al, p2⟩ := post_frzs hd1 r1 p1
    obtain ⟨⟨hl, hz⟩, p3⟩ := post_ite p2
    have ln : (vs.take ps.length).length = ps.length := by rw [List.length_take, al.length]; omega
    refine ⟨vs.take ps.length, vs.drop ps.length, (List.take_append_drop ..).symm, ln, lineOk (by rw [List.length_drop, al.length]; omega), fun q o hq no => ?_⟩
    have hn := hd2.new (o := .frz o (.tup (vs.drop ps.length))) hq (fun _ => no)
    have gn := hd2.grow (o := .frz o (.tup (vs.drop ps.length))) hq
    refine only_endX hn (ds := ds.take ps.length ++ [.tuple (ds.drop ps.length)]) ((((Held.of gn.h).dpAll _ _ (al.take _))).append (.cons (Dp.newF (al.drop _) (hd2.free hq)) .nil)) (by rw [List.length_append, List.length_take]; simp; omega) (Post.mono gn p3)
end
section
variable {X : Cx} {k j : Nat} {x : Str} {st : Stmt} {ps : List Str} {pv : Str} {F : List Val → M Val} {e : Expr} {es : List Expr} {t : TA} {ms : Rho → M (List Val)} {p pos : Pos}
  {A : Around} {outer : List Env} {s : Shared} {H : Hp} {E : XK} {scope : Scope} {f c' : Addr}
theorem de_lamVX (Fd : FnVX X.prog X.w X.K X.mg X.base k x st ps pv F) (hr : Room j (lamCx X A outer s H E scope f c').A) (hk : k ≤ j) (hg : Gl (lamCx X A outer s H E scope f c') x)
    (hb : ∀ (kV doc pm : Value) (an : Option Addr) (cdv ct : Value) (us rest : List Value), us.length = ps.length → bindArgs (PySem.W.fnOf x x (defArgs st) (defBody st) (defScope st) .none kV doc pm an cdv ct) ⟨us ++ rest, []⟩ = (newTuple rest >>= fun t => pure (ps.zip us ++ [(pv, t)])))
    (ha : DA (lamCx X A outer s H E scope f c') E (e :: es) t ms) (hdb : (x == ("__debug__" : Str)) = false := by decide)
    (he : starEach (e :: es) (lamCx X A outer s H E scope f c').env = (false, eval e (lamCx X A outer s H E scope f c').env) :: starEach es (lamCx X A outer s H E scope f c').env := by rfl) (hpl : (backTo pos (starEach es (lamCx X A outer s H E scope f c').env)).any (·.1) = false := by rfl) :
    DE (lamCx X A outer s H E scope f c') E (.Call (.Name x p) (e :: es) [] pos) (tFnVX X.K X.mg ps.length F t E) (mFnVX ps.length F ms) :=
  de_fnVX (X := lamCx X A outer s H E scope f c') Fd (G.lam_pass (X := X) (A := A) (outer := outer) (s := s) (H := H) (E := E) (scope := scope) (f := f) (c' := c')) hr hk hg hb ha hdb he hpl
end
end D

set_option maxRecDepth 100000
set_option maxHeartbeats 4000000
namespace D
open PySem L2 G PySem.Spec PyProof.Rows LamX
variable [Tbs]
/-! ### generator defs: what they hand out, by a mirror; list(f(..)) -/
omit [Tbs] in
abbrev GB := List PyData → Rho → Om → List PyData × Fl
def GPost (K : PySem.W.Frag) (mg : Str → Option Value) (E : XK) (c : Ctx) (D : GEnds) : List PyData × Fl → Prop
  | (ds, .nx ρ w) => ∀ ys σ H c', Grow c c' → Hold K H c' w → ER K c' σ ρ → DpAll K c'.H0 ys ds → D.nx ys σ H
  | (ds, .rt x w) => ∀ ys v H c', Grow c c' → Hold K H c' w → VR K c' v x → DpAll K c'.H0 ys ds → D.rt ys v H
  | (_, .exn x w) => ∀ cls d H' c', Grow c c' → Hold K H' c' w → ExR K mg c' x cls d H' → E cls d H'
  | _ => False
theorem GPost.mono {K : PySem.W.Frag} {mg : Str → Option Value} {E : XK} {c c' : Ctx} {D : GEnds} {r : List PyData × Fl} (g : Grow c c') (h : GPost K mg E c D r) : GPost K mg E c' D r := by
  obtain ⟨ds, fl⟩ := r
  cases fl with
  | nx ρ w => exact fun ys a b c2 g2 => h ys a b c2 (g.trans g2)
  | rt ρ w => exact fun ys a b c2 g2 => h ys a b c2 (g.trans g2)
  | exn x w => exact fun a d b c2 g2 => h a d b c2 (g.trans g2)
  | bad => exact h
  | bk ρ w => exact h
  | ct ρ w => exact h
structure DGS (X : Cx) (E : XK) (s : Stmt) (t : TGn) (b : GB) : Prop where
  gs : GS X s t
  rd : ∀ (σ : L2.St) (ρ : Rho) (H : Hp) (c : Ctx) (w : Om) (ys : List V) (ds : List PyData) (D : GEnds), ER X.K c σ ρ → Hold X.K H c w → DpAll X.K c.H0 ys ds → GPost X.K X.mg E c D (b ds ρ w) → t D ys σ H
structure DGSs (X : Cx) (E : XK) (s : List Stmt) (t : TGn) (b : GB) : Prop where
  gs : GSs X s t
  rd : ∀ (σ : L2.St) (ρ : Rho) (H : Hp) (c : Ctx) (w : Om) (ys : List V) (ds : List PyData) (D : GEnds), ER X.K c σ ρ → Hold X.K H c w → DpAll X.K c.H0 ys ds → GPost X.K X.mg E c D (b ds ρ w) → t D ys σ H
omit [Tbs] in
def gPlain (b : B) : GB := fun ds ρ w => (ds, b ρ w)
omit [Tbs] in
def gNext : GB := fun ds ρ w => (ds, .nx ρ w)
omit [Tbs] in
def gSeq (b b' : GB) : GB := fun ds ρ w => match b ds ρ w with
  | (ds', .nx ρ' w') => b' ds' ρ' w'
  | r => r
omit [Tbs] in
def gYield (m : Rho → M Val) : GB := fun ds ρ w => if ds.length < 100000 then (match m ρ w with
    | .ok v w1 => (match frz v w1 with
      | .ok d w2 => (ds ++ [d], .nx ρ w2)
      | _ => (ds, .bad))
    | .exn x w1 => (ds, .exn x w1)
    | .bad => (ds, .bad))
  else (ds, .bad)
omit [Tbs] in
def gWhl (mt : Rho → M Bool) (b : GB) : Nat → GB
  | 0, ds, _, _ => (ds, .bad)
  | n + 1, ds, ρ, w => match mt ρ w with
    | .bad => (ds, .bad)
    | .exn x w => (ds, .exn x w)
    | .ok false w => (ds, .nx ρ w)
    | .ok true w => match b ds ρ w with
      | (ds', .nx ρ' w') => gWhl mt b n ds' ρ' w'
      | (ds', .rt v w') => (ds', .rt v w')
      | (ds', .exn x w') => (ds', .exn x w')
      | (ds', _) => (ds', .bad)
section
variable {X : Cx} {E : XK} {s : Stmt} {ss : List Stmt} {t : TS} {tg tg2 : TGn} {b : B} {gb gb2 : GB}
theorem fpost_of {c : Ctx} {D : GEnds} {ys : List V} {ds : List PyData} {f : Fl} (al : DpAll X.K c.H0 ys ds) (p : GPost X.K X.mg E c D (ds, f)) : FPost X.K X.mg E c (D.at ys) f := by
  cases f with
  | nx ρ w => exact fun σ H c' g hd er => p ys σ H c' g hd er ((Held.of g.h).dpAll _ _ al)
  | rt x w => exact fun v H c' g hd r => p ys v H c' g hd r ((Held.of g.h).dpAll _ _ al)
  | exn x w => exact p
  | bad => exact p.elim
  | bk ρ w => exact p.elim
  | ct ρ w => exact p.elim
theorem dgs_plain (h : DS X E s t b) : DGS X E s (tPlain t) (gPlain b) := ⟨gs_ps h.ps, fun σ ρ H c w ys ds D er hd al p => h.rd σ ρ H c w (D.at ys) er hd (fpost_of al p)⟩
theorem dgss_plain (h : DSs X E ss t b) : DGSs X E ss (tPlain t) (gPlain b) := ⟨gss_pss h.ps, fun σ ρ H c w ys ds D er hd al p => h.rd σ ρ H c w (D.at ys) er hd (fpost_of al p)⟩
theorem dgss_nil : DGSs X E [] tG0 gNext := ⟨gss_nil, fun σ ρ H c w ys ds D er hd al p => p ys σ H c (.refl _) hd er al⟩
theorem dgss_cons (h1 : DGS X E s tg gb) (h2 : DGSs X E ss tg2 gb2) : DGSs X E (s :: ss) (tGThen tg tg2) (gSeq gb gb2) := by
  refine ⟨gss_cons h1.gs h2.gs, fun σ ρ H c w ys ds D er hd al p => h1.rd σ ρ H c w ys ds _ er hd al ?_⟩
  unfold gSeq at p
  cases q : gb ds ρ w with
  | mk ds' fl =>
    rw [q] at p
    cases fl with
    | nx ρ' w' => exact fun ys' σ' H' c' g hd' er' al' => h2.rd σ' ρ' H' c' w' ys' ds' D er' hd' al' (GPost.mono g p)
    | rt x w' => exact p
    | exn x w' => exact p
    | bad => exact p.elim
    | bk ρ' w' => exact p.elim
    | ct ρ' w' => exact p.elim
theorem dgs_yield {e : Expr} {yp pos : Pos} {te : TE} {m : Rho → M Val} (he : DE X E e te m) (hco : X.env.scope.isCoroutine = false := by rfl) (hi : interactive X.env = false := by rfl) : DGS X E (.Expr (.Yield (some e) yp) pos) (tGYield te) (gYield m) := by
  refine ⟨gs_yield he.pe hco hi, fun σ ρ H c w ys ds D er hd al p => ?_⟩
  unfold gYield at p
  by_cases hl : ds.length < 100000
  · rw [if_pos hl] at p
    refine ⟨lineOk2 (by rw [al.length]; exact hl), he.rd σ ρ H c w _ er hd ?_⟩
    cases q : m ρ w with
    | bad => rw [q] at p; exact p.elim
    | exn x w1 => rw [q] at p; exact p
    | ok v w1 =>
      rw [q] at p
      intro x H1 c1 g1 hd1 r1
      dsimp only at p
      cases q2 : frz v w1 with
      | bad => rw [q2] at p; exact p.elim
      | exn y w2 => rw [q2] at p; exact p.elim
      | ok d w2 =>
        rw [q2] at p
        obtain ⟨c2, g2, hd2, dp⟩ := frz_ok hd1 r1 q2
        exact p (ys ++ [x]) σ H1 c2 (g1.trans g2) hd2 (er.mono (g1.trans g2)) (((Held.of (g1.trans g2).h).dpAll _ _ al).append (.cons dp .nil))
  · rw [if_neg hl] at p
    exact p.elim
theorem dgs_while {test : Expr} {body : List Stmt} {pos : Pos} {tc : TT} {mt : Rho → M Bool} (hp : PassesOwn (model X.prog X.w) X.A X.env X.xe) (hc : DT X E test tc mt) (hb : DGSs X E body tg gb) : DGS X E (.While test body [] pos) (tGWhile tc tg) (gWhl mt gb fuel) := by
  refine ⟨gs_while hp hc.pt hb.gs, fun σ ρ H c w ys ds D er hd al p => ?_⟩
  refine ⟨fun m ys σ H => ∃ ρ c' w' ds', Grow c c' ∧ ER X.K c' σ ρ ∧ Hold X.K H c' w' ∧ DpAll X.K c'.H0 ys ds' ∧ GPost X.K X.mg E c' D (gWhl mt gb m ds' ρ w'), ⟨fuel, ρ, c, w, ds, .refl _, er, hd, al, p⟩, ?_⟩
  rintro m ys σ H ⟨ρ, c1, w1, ds1, g1, er, hd, al, p⟩
  cases m with
  | zero => exact p.elim
  | succ n =>
    refine hc.rd σ ρ H c1 w1 _ er hd ?_
    unfold gWhl at p
    cases q : mt ρ w1 with
    | bad => rw [q] at p; exact p.elim
    | exn x w2 => rw [q] at p; exact p
    | ok k w2 =>
      rw [q] at p
      intro k' H2 c2 g2 hd2 ek
      cases ek
      cases k with
      | false => rw [if_neg (by decide)]; exact GPost.mono g2 p ys σ H2 c2 (.refl _) hd2 (er.mono g2) ((Held.of g2.h).dpAll _ _ al)
      | true =>
        rw [if_pos rfl]
        refine ⟨fun ys σ H => ∃ ρ c' w' ds', Grow c c' ∧ ER X.K c' σ ρ ∧ Hold X.K H c' w' ∧ DpAll X.K c'.H0 ys ds' ∧ GPost X.K X.mg E c' D (gWhl mt gb n ds' ρ w'), fun ys' σ' H' h => ⟨n, Nat.lt_succ_self _, h⟩, ?_⟩
        refine hb.rd σ ρ H2 c2 w2 ys ds1 _ (er.mono g2) hd2 ((Held.of g2.h).dpAll _ _ al) ?_
        have p2 := GPost.mono g2 p
        dsimp only at p2
        cases q2 : gb ds1 ρ w2 with
        | mk ds' fl =>
          rw [q2] at p2
          cases fl with
          | nx ρ3 w3 => exact fun ys3 σ3 H3 c3 g3 hd3 er3 al3 => ⟨ρ3, c3, w3, ds', (g1.trans g2).trans g3, er3, hd3, al3, GPost.mono g3 p2⟩
          | rt v w3 => exact p2
          | exn x w3 => exact p2
          | bad => exact p2.elim
          | bk ρ3 w3 => exact p2.elim
          | ct ρ3 w3 => exact p2.elim
end
omit [Tbs] in
def gRes : List PyData × Fl → R (List PyData)
  | (ds, .nx _ _) => .ok ds []
  | (ds, .rt (.d .none) _) => .ok ds []
  | (_, .exn x _) => .exn x []
  | _ => .bad
omit [Tbs] in
def mGen (N : List Str) (b : GB) : List PyData → R (List PyData) := fun xs => gRes (b [] (startR N (xs.map .d)) [])
def spG (K : PySem.W.Frag) (mg : Str → Option Value) (n : Nat) (F : List PyData → R (List PyData)) : SpG := fun vs H Q E => vs.length = n ∧ ∃ c ds, Hold K H c [] ∧ DpAll K c.H0 vs ds ∧ (match F ds with
  | .ok out _ => ∀ ys H' c' w', Grow c c' → Hold K H' c' w' → DpAll K c'.H0 ys out → Q ys H'
  | .exn x _ => ∀ cls d H' c' w', Grow c c' → Hold K H' c' w' → ExR K mg c' x cls d H' → E cls d H'
  | .bad => False)
structure FnG (P : Program) (w : World) (K : PySem.W.Frag) (mg : Str → Option Value) (base : Heap) (k : Nat) (x : Str) (st : Stmt) (ps : List Str) (F : List PyData → R (List PyData)) : Prop where
  ex : ∃ f fd, GFn P w K mg base k f fd ps (spG K mg ps.length F) ∧ Fun K x x st f fd ∧ mg x = some (.ref f) ∧ Binds K fd ps []
theorem fng_of {P : Program} {w : World} {K : PySem.W.Frag} {mg : Str → Option Value} {base : Heap} {k : Nat} {x : Str} {st : Stmt} {ps N : List Str} {b : GB} (i : Is K mg x st) (S : GScope N ps (defScope st))
    (args : ∀ (kV doc pm : Value) (an : Option Addr) (cdv ct : Value) (us : List Value), us.length = ps.length → bindArgs (PySem.W.fnOf x x (defArgs st) (defBody st) (defScope st) .none kV doc pm an cdv ct) ⟨us, []⟩ = pure (ps.zip us))
    (bd : ∀ (f : Addr) (cdv : Value) (A : Around) (outer : List Env) (s : Shared) (H : Hp) (E : XK) (pn : List (Addr × Obj)), Room k (A.deeper (envOfC x (defScope st) s.heap.objs.size f cdv)) →
      ∃ t, DGSs (gcxOf P w K mg base N x (defScope st) f cdv A outer s H E pn) E (defBody st) t b) : FnG P w K mg base (k + 1) x st ps (mGen N b) := by
  obtain ⟨f, fd, F, m⟩ := i
  have bb := F.binds args
  obtain ⟨oc, od, kV, doc, pm, an, cdv, ct, osl, rfl, lk, hcd⟩ := F.ex
  refine ⟨f, _, gfn_of lk hcd S (fun vs H Q E h => h.1) (fun A outer s H vs Q E pn hr h => ?_), F, m, bb⟩
  obtain ⟨t, ht⟩ := bd f cdv A outer s H E pn hr
  obtain ⟨hl, c, ds, hd, al, p⟩ := h
  refine ⟨t, ht.gs, ht.rd _ _ _ c [] [] [] _ (start_er N (vrs_d al)) hd .nil ?_⟩
  unfold mGen at p
  cases q : b [] (startR N (ds.map .d)) [] with
  | mk out fl =>
    rw [q] at p
    cases fl with
    | nx ρ w' => exact fun ys σ H' c' g hd' er al' => p ys H' c' w' g hd' al'
    | rt v w' =>
      cases v with
      | o n => exact p.elim
      | d y =>
        cases y with
        | none => exact fun ys v H' c' g hd' r al' => ⟨by cases r; rfl, p ys H' c' w' g hd' al'⟩
        | _ => exact p.elim
    | exn x w' => exact fun cls d H' c' g hd' er => p cls d H' c' w' g hd' er
    | bad => exact p.elim
    | bk ρ w' => exact p.elim
    | ct ρ w' => exact p.elim
omit [Tbs] in
def mListG (n : Nat) (cl : List Str) (F : List PyData → R (List PyData)) (ms : Rho → M (List Val)) : Rho → M Val := fun ρ => bnd (ms ρ) fun xs => bnd (frzs xs) fun ds w => if ds.length = n then (match F ds with
  | .ok out _ => .ok (.d (.list out)) w
  | .exn x _ => if cl.contains x.cls = true then .exn x w else .bad
  | .bad => .bad) else .bad
section
variable {X : Cx} {E : XK} {k j : Nat} {x : Str} {st : Stmt} {ps cl : List Str} {F : List PyData → R (List PyData)} {e : Expr} {es : List Expr} {t : TA} {ms : Rho → M (List Val)} {p p2 pos pos2 : Pos}
def EG (X : Cx) (E : XK) : XK := fun cls d H => E cls d H ∧ PySem.W.subIn X.K cls (.type "StopIteration") = some false
theorem de_listG (Fd : FnG X.prog X.w X.K X.mg X.base k x st ps F) (hx : Passes (L2.CX X.prog X.w) X E) (ns : ∀ y ∈ cl, ∀ C, X.mg y = some (.ref C) → PySem.W.subIn X.K (.ref C) (.type "StopIteration") = some false)
    (hr : Room j X.A) (hk : k + 3 ≤ j) (hg : Gl X x) (hgl : Gl X "list") (hml : X.mg "list" = none) (ha : DA X E (e :: es) t ms) (hdb : (x == ("__debug__" : Str)) = false := by decide)
    (he : starEach (e :: es) X.env = (false, eval e X.env) :: starEach es X.env := by rfl) (hpl : (backTo pos2 (starEach es X.env)).any (·.1) = false := by rfl)
    (he2 : starEach [.Call (.Name x p2) (e :: es) [] pos2] X.env = (false, eval (.Call (.Name x p2) (e :: es) [] pos2) X.env) :: starEach [] X.env := by rfl) :
    DE X E (.Call (.Name "list" p) [.Call (.Name x p2) (e :: es) [] pos2] [] pos) (tListG (tCallG (spG X.K X.mg ps.length F) [] (EG X E) t)) (mListG ps.length cl F ms) := by
  obtain ⟨f, fd, G, Fu, m, bb⟩ := Fd.ex
  have hx' : Passes (L2.CX X.prog X.w) X (EG X E) := fun pins σ H s u s' I z => hx pins σ H s u s' I (by
    obtain ⟨a, B, H', cls, d, z1, z2, z3, z4, z5, z6, z7, z8⟩ := z
    exact ⟨a, B, H', cls, d, z1, z2, z3, z4, z5, z6, z7, z8.1⟩)
  refine ⟨pe_listG (pgen_call G (hr.mono (by omega)) hg m Fu.kp bb .nil ha.pa hdb he hpl) hx' (fun cls d H z => z.2) (hr.mono hk) hgl hml boot_list (he := he2), fun σ ρ H c w Q er hd p => ha.rd σ ρ H c w _ er hd (Post.bind p fun vs H1 c1 xs w1 g1 hd1 r1 p1 => ?_)⟩
  obtain ⟨c2, w2, ds, g2, hd2, al, p2⟩ := post_frzs hd1 r1 p1
  show spG X.K X.mg ps.length F (vs ++ []) H1 _ (EG X E)
  rw [List.append_nil]
  by_cases hl : ds.length = ps.length
  · rw [if_pos hl] at p2
    refine ⟨by rw [al.length]; exact hl, ⟨c2.H0, [], pinsOf H1 c2.al w2 ++ c2.ex⟩, ds, hd2.alone, al, ?_⟩
    cases q : F ds with
    | bad => rw [q] at p2; exact p2.elim
    | ok out w3 =>
      rw [q] at p2
      intro ys H' c' w' g hd' al' q np
      obtain ⟨g3, hd3⟩ := hd2.rejoin g hd'
      exact p2 _ _ _ (g3.trans (hd3.grow (o := .lst ys) np)) (hd3.new np) (Dp.newL al' (hd3.free np))
    | exn y w3 =>
      rw [q] at p2
      dsimp only at p2
      by_cases hc : cl.contains y.cls = true
      · rw [if_pos hc] at p2
        intro cls d H' c' w' g hd' er'
        obtain ⟨g3, hd3⟩ := hd2.rejoin g hd'
        refine ⟨p2 cls d H' _ g3 hd3 er', ?_⟩
        obtain ⟨C, dd, ws, rfl, hm, _⟩ := er'
        exact ns _ (List.contains_iff_mem.mp hc) C hm
      · rw [if_neg hc] at p2
        exact p2.elim
  · rw [if_neg hl] at p2
    exact p2.elim
end
end D
namespace D
open PySem L2 G PySem.Spec PyProof.Rows LamX
variable [Tbs]
section
variable {X : Cx} {k j : Nat} {x : Str} {st : Stmt} {ps cl : List Str} {F : List PyData → R (List PyData)} {e : Expr} {es : List Expr} {t : TA} {ms : Rho → M (List Val)} {p p2 pos pos2 : Pos}
  {A : Around} {outer : List Env} {s : Shared} {H : Hp} {E : XK} {scope : Scope} {f c' : Addr}
theorem de_lamListG (Fd : FnG X.prog X.w X.K X.mg X.base k x st ps F) (ns : ∀ y ∈ cl, ∀ C, X.mg y = some (.ref C) → PySem.W.subIn X.K (.ref C) (.type "StopIteration") = some false)
    (hr : Room j (lamCx X A outer s H E scope f c').A) (hk : k + 3 ≤ j) (hg : Gl (lamCx X A outer s H E scope f c') x) (hgl : Gl (lamCx X A outer s H E scope f c') "list") (hml : X.mg "list" = none) (ha : DA (lamCx X A outer s H E scope f c') E (e :: es) t ms) (hdb : (x == ("__debug__" : Str)) = false := by decide)
    (he : starEach (e :: es) (lamCx X A outer s H E scope f c').env = (false, eval e (lamCx X A outer s H E scope f c').env) :: starEach es (lamCx X A outer s H E scope f c').env := by rfl) (hpl : (backTo pos2 (starEach es (lamCx X A outer s H E scope f c').env)).any (·.1) = false := by rfl)
    (he2 : starEach [.Call (.Name x p2) (e :: es) [] pos2] (lamCx X A outer s H E scope f c').env = (false, eval (.Call (.Name x p2) (e :: es) [] pos2) (lamCx X A outer s H E scope f c').env) :: starEach [] (lamCx X A outer s H E scope f c').env := by rfl) :
    DE (lamCx X A outer s H E scope f c') E (.Call (.Name "list" p) [.Call (.Name x p2) (e :: es) [] pos2] [] pos) (tListG (tCallG (spG X.K X.mg ps.length F) [] (EG X E) t)) (mListG ps.length cl F ms) :=
  de_listG (X := lamCx X A outer s H E scope f c') Fd (G.lam_pass (X := X) (A := A) (outer := outer) (s := s) (H := H) (E := E) (scope := scope) (f := f) (c' := c')) ns hr hk hg hgl hml ha hdb he hpl he2
end
end D

set_option maxRecDepth 100000
namespace D
open PySem L2 G PySem.Spec PyProof.Rows
variable [Tbs]
/-! ### dict(xs) of a list of pairs -/
omit [Tbs] in
def rDictL (K : PySem.W.Frag) : List V → Hp → VK → Prop := fun xs H Q => ∃ (a : Addr) (ps : List Addr) (kvs : List (Key × V)), xs = [.ref a] ∧ SqL K H a (ps.map V.ref) ∧ Paired (fun p kv => SqT K H p [kV kv.1, kv.2]) ps kvs ∧
    ∀ p, H p = none → Q (.ref p) (upd H p (.dK (mergeK [] kvs)))
omit [Tbs] in
def mDictL (m : Rho → M (List Val)) : Rho → M Val := fun ρ => bnd (m ρ) fun xs => fun w => match xs with
  | [.d (.list ps)] => (match pairsD ps with
    | some kvs => .ok (.o w.length) (w ++ [.dct (mergeD [] kvs)])
    | none => .bad)
  | _ => .bad
section
variable {X : Cx} {E : XK} {e : Expr} {es : List Expr} {t : TA} {m : Rho → M (List Val)}
theorem de_dictL (pe : PE X e (tCB (rDictL X.K) t)) (h : DA X E es t m) : DE X E e (tCB (rDictL X.K) t) (mDictL m) :=
  ⟨pe, fun σ ρ H c w Q er hd p => h.rd σ ρ H c w _ er hd (Post.bind p fun vs H1 c1 xs w1 g1 hd1 r1 p1 => by
    split at p1
    · rename_i ps
      cases q : pairsD ps with
      | none => rw [q] at p1; exact p1.elim
      | some kvs =>
        rw [q] at p1
        cases r1 with
        | cons r1 rn =>
          cases rn
          cases (show Dp X.K c1.H0 _ (.list ps) from r1) with
          | lst h1 h2 =>
            obtain ⟨pas, ws, rfl, a1, a2⟩ := pairs_dp h2 q
            refine ⟨_, pas, ws, rfl, (Held.of hd1.sub).sql h1, ?_, fun p np => ?_⟩
            · exact L2.Paired.mapP a1 fun p kv z => (Held.of hd1.sub).sqt z
            · have hd2 : Hold X.K (upd H1 p (.dK (mergeK [] ws))) ⟨c1.H0, c1.al, (p, .dK (mergeK [] ws)) :: c1.ex⟩ w1 := hd1.pinNew np
              refine p1 _ _ ⟨c1.H0, c1.al ++ [p], c1.ex⟩ ⟨.refl _, ⟨[p], rfl⟩, rfl⟩ (hd2.unPinO (ob := .dct (mergeD [] kvs)) ⟨hd1.free np, _, upd_same, KD.merge a2 .nil⟩) ⟨p, rfl, ?_⟩
              have z : c1.al.length = w1.length := hd1.len
              simp [← z]
    · exact p1.elim)⟩
end
end D

set_option maxRecDepth 100000
set_option maxHeartbeats 4000000
/-! the display of an empty dict: {} -/
namespace L2
open PySem
theorem push_keep {h : Heap} {ob : Obj} (b : Addr) (u : Obj) (e : h.get? b = some u) : (h.push ob).get? b = some u := Heap.get?_push_of_some ob e
theorem get_lt {h : Heap} {b : Addr} {u : Obj} (e : h.get? b = some u) : b ≠ h.objs.size := fun q => by
  unfold Heap.get? at e
  rw [q, Array.getElem?_eq_none (Nat.le_refl _)] at e
  cases e
theorem Inv.dnew {X : Cx} {pins : List (Addr × Obj)} {σ : St} {H : Hp} {s : Shared} (I : Inv X pins σ H s) :
    Inv X pins σ (upd H s.heap.objs.size (HO.dK [])) { heap := s.heap.push { cls := Value.type "dict", data := Data.dict #[] }, gens := s.gens, drawn := s.drawn, toks := s.toks, os := s.os } := by
  have h0 : H s.heap.objs.size = none := I.hok.fresh (Nat.le_refl _)
  have kp := @push_keep s.heap { cls := Value.type "dict", data := Data.dict #[] }
  have hn : ∀ (b : Addr) (v : HO), H b = some v → upd H s.heap.objs.size (HO.dK []) b = some v := fun b v e => by
    show (if b = s.heap.objs.size then some (HO.dK []) else H b) = some v
    by_cases q : b = s.heap.objs.size
    · rw [q, h0] at e; cases e
    · rw [if_neg q]; exact e
  refine I.step (ch := []) (fun b hb => by cases hb) (fun b o _ _ _ e _ => kp b o e) (fun b o _ _ _ e _ => ⟨o.slots, kp b o e⟩) (fun b o _ e hb => ?_) (fun b o _ e => ⟨o, kp b o e⟩) (fun b xs e => hn _ _ e) (fun b o u e => hn _ _ e) (fun b ps e => ⟨#[], by rw [Array.append_empty]; exact hn _ _ e⟩) (fun m hm => ?_) (I.hok.laid kp (Nat.le_refl _) (dk_empty s.heap I.big)) I.bare
  · have q := get_lt e
    show (if b = s.heap.objs.size then some (HO.dK []) else H b) = none
    rw [if_neg q]; exact hb
  · obtain ⟨o, es, ep, e1, e2⟩ := hm
    exact ⟨o, es, ep, kp _ _ e1, e2⟩
theorem pe_disp0 {X : Cx} {pos : Pos} : PE X (Expr.Dict [] [] pos) (tDisp []) := ⟨fun pins s σ H Q I t => by
  refine wpAny_Dict_empty ?_
  have h0 : H s.heap.objs.size = none := I.hok.fresh (Nat.le_refl _)
  obtain ⟨q0, kvs, e, _, q⟩ := (show _ from t s.heap.objs.size h0 : _ ∧ _)
  have ek : kvs = [] := by
    cases kvs with
    | nil => rfl
    | cons a b => cases e
  subst ek
  have eu : upd (upd H s.heap.objs.size (HO.dK [])) s.heap.objs.size (HO.dK (mergeK [] [])) = upd H s.heap.objs.size (HO.dK []) := by
    funext b
    show (if b = s.heap.objs.size then some (HO.dK (mergeK [] [])) else (if b = s.heap.objs.size then some (HO.dK []) else H b)) = (if b = s.heap.objs.size then some (HO.dK []) else H b)
    by_cases hb : b = s.heap.objs.size
    · rw [if_pos hb, if_pos hb]; rfl
    · rw [if_neg hb]
  rw [eu] at q
  exact ⟨_, _, I.dnew, by first | exact rfl | constructor, q⟩⟩
end L2

set_option maxRecDepth 100000
namespace D
open PySem L2 G PySem.Spec PyProof.Rows
variable [Tbs]
section
variable {X : Cx} {E : XK} {o e call : Expr} {to te : TE} {m1 m2 : Rho → M Val}
/-- l.count(x) of data -/
theorem de_count (pe : PE X call (tBM X.K "list" (rCnt X.K) to (tCons te tNil))) (ho : DE X E o to m1) (he : DE X E e te m2) : DE X E call (tBM X.K "list" (rCnt X.K) to (tCons te tNil)) (mCount m1 m2) :=
  ⟨pe, fun σ ρ H c w Q er hd p => ho.rd σ ρ H c w _ er hd (Post.bind p fun v H1 c1 x w1 g1 hd1 r1 p1 => by
    cases x with
    | o n => exact p1.elim
    | d x =>
      cases x with
      | list ds =>
        have hv : Dp X.K H1 v (.list ds) := (Held.of hd1.sub).dp _ _ r1
        refine ⟨dl_ty hv, he.rd σ ρ H1 c1 w1 _ (er.mono g1) hd1 (Post.bind p1 fun u H2 c2 y w2 g2 hd2 r2 p2 => ?_)⟩
        cases y with
        | o n => exact p2.elim
        | d d =>
          dsimp only at p2
          by_cases hk : PyData.plainAll ds = true ∧ d.plain = true ∧ PyData.depthAll ds ≤ 64
          · rw [if_pos hk] at p2
            have hv2 : Dp X.K H2 v (.list ds) := (Held.of hd2.sub).dp _ _ (r1.mono g2)
            cases hv2 with
            | lst hs ha => exact ⟨_, u, d, ds, rfl, rfl, .lst hs ha, (Held.of hd2.sub).dp _ _ r2, hk.1, hk.2.1, hk.2.2, p2 _ H2 c2 (.refl _) hd2 (Dp.int _)⟩
          · rw [if_neg hk] at p2
            exact p2.elim
      | _ => exact p1.elim)⟩
end
end D

set_option maxRecDepth 100000
set_option maxHeartbeats 4000000
/-! set(xs) of a list of keys of one kind (texts) -/
namespace L2
open PySem PySem.Spec PyProof.Rows
/-- the first of each -/
def fmK {K : Type} [DecidableEq K] (val : Nat → K) : Nat → List K
  | 0 => []
  | i + 1 => if val i ∈ fmK val i then fmK val i else fmK val i ++ [val i]
theorem fmK_le {K : Type} [DecidableEq K] (val : Nat → K) : ∀ i, (fmK val i).length ≤ i
  | 0 => Nat.le_refl _
  | i + 1 => by
    have ih := fmK_le val i
    rw [fmK]
    split
    · omega
    · rw [List.length_append]; show _ + 1 ≤ _; omega
theorem code_set_loopK {prog : Program} {w : World} {K : Type} [DecidableEq K] {knd : KeyKind prog w K} {A : Around} {R : Result → Shared → Prop} {I : Addr} {fp wr : List Addr}
    {G : Array GenState → Array GenState → Prop} {n : Nat} {P : Nat → Value → Prop} {St : Nat → Shared → Prop} (W : WalksS prog w A.in1 I fp wr G n P St) (S : Addr) (hSf : ¬S ∈ fp) (val : Nat → K)
    (hval : ∀ (i : Nat) (v : Value), P i v → knd.is (val i) v = true ∧ v.scannable = true) (hb : n + 1 < scanBound) :
    ∀ (k i : Nat) (s : Shared), n - i = k → i ≤ n → St i s → Heap.SetOf knd s.heap S (fun k' => decide (k' ∈ fmK val i)) (fmK val i).length →
      (∀ s' : Shared, Moved (S :: wr) G s s' → Heap.SetOf knd s'.heap S (fun k' => decide (k' ∈ fmK val n)) (fmK val n).length → R (Except.ok (Flow.ret Value.none)) s') →
      codeAny (model prog w) A (Code.builtin "set.update.loop" { pos := [Value.ref S, Value.ref I] }) R s := by
  have hSw : ¬ S ∈ wr := fun h => hSf (W.sub S h)
  have hsub : ∀ b, b ∈ wr → b ∈ S :: wr := fun b hb => List.mem_cons_of_mem S hb
  intro k
  induction k with
  | zero =>
    intro i s hk hi hst hS hR
    obtain rfl : i = n := by omega
    refine codeAny_builtin F.entry_set_update_loop ?_
    rw [Around.under_plainId F.plain_set_update_loop]
    refine wpAny_bind (W.done s _ _ hst fun s' hm => ?_)
    refine wpAny_pure (hR s' (Moved.mono hm hsub) ?_)
    obtain ⟨o, es, ep, t, ho, rest⟩ := hS
    exact ⟨o, es, ep, t, hm.heap S o hSw ho, rest⟩
  | succ k ih =>
    intro i s hk hi hst hS hR
    have hlt : i < n := by omega
    refine codeAny_builtin F.entry_set_update_loop ?_
    rw [Around.under_plainId F.plain_set_update_loop]
    refine wpAny_bind (W.item i s _ _ hlt hst fun v s' hP hst' hm => ?_)
    obtain ⟨his, hsc⟩ := hval i v hP
    have hS' : Heap.SetOf knd s'.heap S (fun k' => decide (k' ∈ fmK val i)) (fmK val i).length := by
      obtain ⟨o, es, ep, t, ho, rest⟩ := hS
      exact ⟨o, es, ep, t, hm.heap S o hSw ho, rest⟩
    refine wpAny_bind (wpAny_holding ?_)
    refine wpAny_holding ?_
    refine wpAny_bind (knd.pyHash his ?_)
    have hroom : (fmK val i).length + 1 < scanBound := by have := fmK_le val i; omega
    refine wpAny_setAddHashed_of his hsc hS' hroom fun h' hsb hS2 => ?_
    have hSi : Heap.SetOf knd h' S (fun k' => decide (k' ∈ fmK val (i + 1))) (fmK val (i + 1)).length := by
      refine SetOf_congr hS2 (fun k' => ?_) ?_
      · rw [fmK]
        by_cases q : val i ∈ fmK val i
        · rw [if_pos q]
          by_cases q2 : k' = val i
          · subst q2; simp [q]
          · simp [q2]
        · rw [if_neg q]
          simp [List.mem_append]
      · rw [fmK]
        by_cases q : val i ∈ fmK val i
        · simp [q]
        · simp [q]
    refine wpAny_pure ⟨plainId_quiet F.plain_set_update_loop { pos := [Value.ref S, Value.ref I] }, ih (i + 1) _ (by omega) hlt (W.frame (i + 1) s' h' _ hst' (Nat.le_succ s'.toks) fun b hb o e => ?_) hSi fun s'' hm'' hS'' => hR s'' ?_ hS''⟩
    · rw [hsb.right b fun h => hSf (h ▸ hb)]; exact e
    · refine Moved.trans W.gtrans (Moved.then_heap (Moved.mono hm hsub) (Nat.le_succ s'.toks) fun b o hb e => ?_) hm''
      rw [hsb.right b fun h => hb (h ▸ List.mem_cons_self)]; exact e

theorem call_set_listK {prog : Program} {w : World} {K : Type} [DecidableEq K] (knd : KeyKind prog w K) {A : Around} {E : Value → Shared → Prop} {s : Shared} {l : Addr} {items : Array Value} {Q : Value → Shared → Prop} (val : Nat → K)
    (hh : A.handled = none) (hl : s.heap.IsList l items) (hval : ∀ (i : Nat) (v : Value), items[i]? = some v → knd.is (val i) v = true ∧ v.scannable = true) (hb : items.size + 1 < scanBound)
    (h : ∀ (h' : Heap) (tk : Nat), Heap.SetOf knd h' s.heap.objs.size (fun k' => decide (k' ∈ fmK val items.size)) (fmK val items.size).length →
      (∀ (b : Nat) (o : Obj), b < s.heap.objs.size → s.heap.get? b = some o → h'.get? b = some o) →
      Q (Value.ref s.heap.objs.size) { heap := h', gens := s.gens, drawn := s.drawn, toks := tk, os := s.os }) :
    wpAny (model prog w) A (call (Value.type "set") [Value.ref l]) Q E s := by
  obtain ⟨c, tl, hmro⟩ := F.called_set.mro
  have hmade := F.called_set.made
  have hsub := F.called_set.sub
  refine wpAny_call (codeAny_of_tree ?_)
  refine wpAny_pure ⟨Code.quiet_builtin { pos := [Value.type "set", Value.ref l] } (by decide +kernel), codeAny_builtin F.entry_type_call ?_⟩
  rw [Around.under_plain (weight_type_call_type "set" [Value.ref l] []) rfl]
  have h1 := F.called_set.notType
  have h2 := F.called_set.canCreate
  have hct := F.typeCall_set_1 (Value.ref l)
  unfold Builtin.«type.__call__»
  refine wpAny_ite_false (by rfl) ?_
  refine wpAny_ite_false (by rfl) ?_
  refine wpAny_bind (wpAny_of_eq hct ?_)
  refine wpAny_bind (wpAny_of_eq hmro ?_)
  refine wpAny_ite_false (by rfl) ?_
  refine wpAny_bind (wpAny_of_eq hmade ?_)
  refine wpAny_bind (wpAny_pure ?_)
  refine wpAny_bind (wpAny_holding ?_)
  refine wpAny_call (codeAny_mono (code_set_new_1 (E := E) (Value.ref l) (Q₁ := fun obj s₁ => ∃ led, obj = Value.ref s.heap.objs.size ∧ s₁ = { heap := s.heap.push { cls := Value.type "set", data := Data.set #[] 0 (SetTable.fresh 0 0 led) }, gens := s.gens, drawn := s.drawn, toks := s.toks, os := s.os }) fun led => ⟨led, rfl, rfl⟩) ?_)
  intro r s₁ hr
  cases r with
  | error e => exact hr
  | ok fl =>
    cases fl with
    | ret obj =>
      obtain ⟨led, rfl, rfl⟩ := (show ∃ led, obj = Value.ref s.heap.objs.size ∧ s₁ = _ from hr)
      have hS : (s.heap.push { cls := Value.type "set", data := Data.set #[] 0 (SetTable.fresh 0 0 led) }).get? s.heap.objs.size = some { cls := Value.type "set", data := Data.set #[] 0 (SetTable.fresh 0 0 led) } := Heap.get?_push_size s.heap rfl
      have hT : Shared.TypeIs { heap := s.heap.push { cls := Value.type "set", data := Data.set #[] 0 (SetTable.fresh 0 0 led) }, gens := s.gens, drawn := s.drawn, toks := s.toks, os := s.os } (Value.ref s.heap.objs.size) "set" := ⟨_, hS, rfl⟩
      have hli := F.called_set.init.lookup
      have hbi := F.called_set.init.bind (Value.ref s.heap.objs.size)
      refine wpAny_bind (wpAny_isInstance hT hsub ?_)
      refine wpAny_ite_false (by rfl) ?_
      refine wpAny_bind (wpAny_holding ?_)
      unfold callSpecial?
      refine wpAny_bind (wpAny_specialOf hT hli ?_)
      refine wpAny_holding ?_
      refine wpAny_bind (wpAny_of_eq hbi ?_)
      refine wpAny_bind (wpAny_call (codeAny_mono (R := wants (fun r s₂ => r = Value.none ∧ ∃ h' tk, s₂ = { heap := h', gens := s.gens, drawn := s.drawn, toks := tk, os := s.os } ∧ Heap.SetOf knd h' s.heap.objs.size (fun k' => decide (k' ∈ fmK val items.size)) (fmK val items.size).length ∧ ∀ (b : Nat) (o : Obj), b < s.heap.objs.size → s.heap.get? b = some o → h'.get? b = some o) E) ?_ ?_))
      · refine codeAny_call_builtin F.called_set.init.plain F.entry_set_init (check_set_init_1 hT ?_)
        obtain ⟨⟨ocls, odict, odata, oslots⟩, hol, hcl, nl, hdl⟩ := hl
        obtain rfl : ocls = _ := hcl
        obtain rfl : odata = _ := hdl
        have hol' := Heap.get?_push_of_some { cls := Value.type "set", data := Data.set #[] 0 (SetTable.fresh 0 0 led) } hol
        have hsls := F.sub_list_set
        have hslf := F.sub_list_frozenset
        have hl1 : Heap.IsList (s.heap.push { cls := Value.type "set", data := Data.set #[] 0 (SetTable.fresh 0 0 led) }) l items := ⟨_, hol', rfl, nl, rfl⟩
        have fin : wpAny (model prog w) A.in1.in1 (runValue (Code.builtin "set.update.loop" { pos := [Value.ref s.heap.objs.size, Value.ref (s.heap.push { cls := Value.type "set", data := Data.set #[] 0 (SetTable.fresh 0 0 led) }).objs.size] })) (fun r s₂ => r = Value.none ∧ ∃ h' tk, s₂ = { heap := h', gens := s.gens, drawn := s.drawn, toks := tk, os := s.os } ∧ Heap.SetOf knd h' s.heap.objs.size (fun k' => decide (k' ∈ fmK val items.size)) (fmK val items.size).length ∧ ∀ (b : Nat) (o : Obj), b < s.heap.objs.size → s.heap.get? b = some o → h'.get? b = some o) E
            { heap := (s.heap.push { cls := Value.type "set", data := Data.set #[] 0 (SetTable.fresh 0 0 led) }).push { cls := Value.type "list_iterator", data := Data.fields #[Value.ref l, Value.int 0 0] }, gens := s.gens, drawn := s.drawn, toks := s.toks, os := s.os } := by
          have hlS := Heap.lt_size hol
          have hneI : l ≠ (s.heap.push { cls := Value.type "set", data := Data.set #[] 0 (SetTable.fresh 0 0 led) }).objs.size := by rw [Heap.size_push]; exact Nat.ne_of_lt (Nat.lt_succ_of_lt hlS)
          have hSf : ¬ s.heap.objs.size ∈ [(s.heap.push { cls := Value.type "set", data := Data.set #[] 0 (SetTable.fresh 0 0 led) }).objs.size, l] := by
            rw [Heap.size_push]
            intro h
            rcases List.mem_cons.1 h with h | h
            · exact absurd h (Nat.ne_of_lt (Nat.lt_succ_self _))
            · rcases List.mem_cons.1 h with h | h
              · exact absurd h.symm (Nat.ne_of_lt hlS)
              · cases h
          have hh3 : A.in1.in1.in1.handled = none := hh
          have hh4 : A.in1.in1.handled = none := hh
          refine wpAny_runValue (code_set_loopK (Walks.toS (Walks.list (by first | exact hh3 | exact hh4) (s.heap.push { cls := Value.type "set", data := Data.set #[] 0 (SetTable.fresh 0 0 led) }).objs.size l hneI items)) s.heap.objs.size hSf val hval hb (items.size - 0) 0 _ rfl (Nat.zero_le _) ⟨⟨_, Heap.get?_push_size _ rfl, rfl, rfl⟩, Heap.IsList.push hl1 _⟩ ?_ fun s' hm hS' => ?_)
          · have hget := Heap.get?_push_of_some { cls := Value.type "list_iterator", data := Data.fields #[Value.ref l, Value.int 0 0] } hS
            exact SetOf_congr (Obj.SetObjOf.setOf (setObjOf_fresh led) hget (by show 0 < scanBound; omega)) (fun x => by simp [fmK]) rfl
          · obtain ⟨h', g', d', tk', os'⟩ := s'
            have eg := hm.gens
            have ed := hm.drawn
            have eo := hm.os
            cases eg; cases ed; cases eo
            refine ⟨rfl, h', tk', rfl, hS', fun b o hb e => ?_⟩
            refine hm.heap b o ?_ (Heap.get?_push_of_some _ (Heap.get?_push_of_some _ e))
            intro h
            rw [Heap.size_push] at h
            rcases List.mem_cons.1 h with h | h
            · exact absurd h (Nat.ne_of_lt hb)
            · rcases List.mem_cons.1 h with h | h
              · exact absurd h (Nat.ne_of_lt (Nat.lt_succ_of_lt hb))
              · cases h
        unfold Builtin.«set.__init__»
        unfold noKeywords
        refine wpAny_bind (wpAny_ite_true (by rfl) (wpAny_pure ?_))
        show wpAny (model prog w) A.in1.in1 (typeNameOfCut 200 (Value.ref s.heap.objs.size) >>= fun nm => checkCount nm 0 1 1 >>= fun _ => Builtin.Frozenset.addrOf (Value.ref s.heap.objs.size) >>= fun a => setUsed a >>= fun b => if b = true then (Builtin.Frozenset.clearAll a >>= fun _ => (Builtin.Frozenset.updateFrom "set.__init__" a (Value.ref l) >>= fun _ => ret Value.none)) else (Builtin.Frozenset.updateFrom "set.__init__" a (Value.ref l) >>= fun _ => ret Value.none)) _ _ _
        unfold typeNameOfCut shownTypeOf typeNameCut
        refine wpAny_bind (wpAny_bind (wpAny_bind (wpAny_typeOf hT ?_)))
        refine wpAny_ite_false (by rfl) (wpAny_pure ?_)
        refine wpAny_pure ?_
        unfold checkCount
        refine wpAny_bind (wpAny_ite_false (by rfl) (wpAny_ite_false (by rfl) (wpAny_ite_false (by rfl) (wpAny_pure ?_))))
        refine wpAny_bind (wpAny_pure ?_)
        unfold setUsed setState
        refine wpAny_bind (wpAny_bind (wpAny_bind (wpAny_load' hS ?_)))
        refine wpAny_ite_false (by rfl) (wpAny_pure ?_)
        refine wpAny_pure ?_
        refine wpAny_ite_false (by rfl) ?_
        have hTl : Shared.TypeIs { heap := s.heap.push { cls := Value.type "set", data := Data.set #[] 0 (SetTable.fresh 0 0 led) }, gens := s.gens, drawn := s.drawn, toks := s.toks, os := s.os } (Value.ref l) "list" := ⟨_, hol', rfl⟩
        unfold Builtin.Frozenset.updateFrom Builtin.Frozenset.isAnySet
        refine wpAny_bind (wpAny_bind ?_)
        refine wpAny_bind (wpAny_isInstance hTl hsls ?_)
        refine wpAny_isInstance hTl hslf ?_
        refine wpAny_ite_false (by rfl) ?_
        refine wpAny_bind (wpAny_typeOf hTl ?_)
        refine wpAny_ite_false (by rfl) ?_
        refine wpAny_bind (wpAny_pyIter_list hl1 ?_)
        refine wpAny_bind (wpAny_mono fin ?_ ?_)
        · intro r s₂ q
          obtain ⟨_, q⟩ := q
          exact wpAny_pure (wpAny_pure ⟨rfl, q⟩)
        · intro e s₂ q; exact q
      · intro r₂ s₂ hr₂
        cases r₂ with
        | error e => exact hr₂
        | ok fl₂ =>
          cases fl₂ with
          | ret r =>
            obtain ⟨rfl, h', tk, rfl, hS', hk'⟩ := (show r = Value.none ∧ ∃ h' tk, _ from hr₂)
            exact wpAny_pure (wpAny_ite_false (by rfl) (wpAny_pure (h h' tk hS' hk')))
          | _ => exact hr₂.elim
    | _ => exact hr.elim
theorem call_set_listI {prog : Program} {w : World} {A : Around} {E : Value → Shared → Prop} {s : Shared} {l : Addr} {items : Array Value} {Q : Value → Shared → Prop} (ns : List Int)
    (hh : A.handled = none) (hl : s.heap.IsList l items) (hit : PyProof.Rows.IntsAre items.toList ns) (hb : ns.length + 1 < scanBound)
    (h : ∀ (h' : Heap) (tk : Nat), (∃ c, c ≤ ns.length ∧ SetR w h' s.heap.objs.size (fun j => decide (j ∈ ns)) c) →
      (∀ (b : Nat) (o : Obj), b < s.heap.objs.size → s.heap.get? b = some o → h'.get? b = some o) →
      Q (Value.ref s.heap.objs.size) { heap := h', gens := s.gens, drawn := s.drawn, toks := tk, os := s.os }) :
    wpAny (model prog w) A (call (Value.type "set") [Value.ref l]) Q E s := by
  have hisz : items.size = ns.length := by have q := PyProof.Rows.IntsAre.length hit; rw [Array.length_toList] at q; exact q
  obtain ⟨c, tl, hmro⟩ := F.called_set.mro
  have hmade := F.called_set.made
  have hsub := F.called_set.sub
  refine wpAny_call (codeAny_of_tree ?_)
  refine wpAny_pure ⟨Code.quiet_builtin { pos := [Value.type "set", Value.ref l] } (by decide +kernel), codeAny_builtin F.entry_type_call ?_⟩
  rw [Around.under_plain (weight_type_call_type "set" [Value.ref l] []) rfl]
  have h1 := F.called_set.notType
  have h2 := F.called_set.canCreate
  have hct := F.typeCall_set_1 (Value.ref l)
  unfold Builtin.«type.__call__»
  refine wpAny_ite_false (by rfl) ?_
  refine wpAny_ite_false (by rfl) ?_
  refine wpAny_bind (wpAny_of_eq hct ?_)
  refine wpAny_bind (wpAny_of_eq hmro ?_)
  refine wpAny_ite_false (by rfl) ?_
  refine wpAny_bind (wpAny_of_eq hmade ?_)
  refine wpAny_bind (wpAny_pure ?_)
  refine wpAny_bind (wpAny_holding ?_)
  refine wpAny_call (codeAny_mono (code_set_led1 (E := E) (Value.ref l) (Q₁ := fun obj s₁ => obj = Value.ref s.heap.objs.size ∧ s₁ = { heap := s.heap.push { cls := Value.type "set", data := Data.set #[] 0 (SetTable.fresh 0 0 !w.params.followText "set-order") }, gens := s.gens, drawn := s.drawn, toks := s.toks, os := s.os }) ⟨rfl, rfl⟩) ?_)
  intro r s₁ hr
  cases r with
  | error e => exact hr
  | ok fl =>
    cases fl with
    | ret obj =>
      obtain ⟨rfl, rfl⟩ := (show obj = Value.ref s.heap.objs.size ∧ s₁ = _ from hr)
      have hS : (s.heap.push { cls := Value.type "set", data := Data.set #[] 0 (SetTable.fresh 0 0 !w.params.followText "set-order") }).get? s.heap.objs.size = some { cls := Value.type "set", data := Data.set #[] 0 (SetTable.fresh 0 0 !w.params.followText "set-order") } := Heap.get?_push_size s.heap rfl
      have hT : Shared.TypeIs { heap := s.heap.push { cls := Value.type "set", data := Data.set #[] 0 (SetTable.fresh 0 0 !w.params.followText "set-order") }, gens := s.gens, drawn := s.drawn, toks := s.toks, os := s.os } (Value.ref s.heap.objs.size) "set" := ⟨_, hS, rfl⟩
      have hli := F.called_set.init.lookup
      have hbi := F.called_set.init.bind (Value.ref s.heap.objs.size)
      refine wpAny_bind (wpAny_isInstance hT hsub ?_)
      refine wpAny_ite_false (by rfl) ?_
      refine wpAny_bind (wpAny_holding ?_)
      unfold callSpecial?
      refine wpAny_bind (wpAny_specialOf hT hli ?_)
      refine wpAny_holding ?_
      refine wpAny_bind (wpAny_of_eq hbi ?_)
      refine wpAny_bind (wpAny_call (codeAny_mono (R := wants (fun r s₂ => r = Value.none ∧ ∃ h' tk, s₂ = { heap := h', gens := s.gens, drawn := s.drawn, toks := tk, os := s.os } ∧ (∃ c, c ≤ ns.length ∧ SetR w h' s.heap.objs.size (fun j => decide (j ∈ ns)) c) ∧ ∀ (b : Nat) (o : Obj), b < s.heap.objs.size → s.heap.get? b = some o → h'.get? b = some o) E) ?_ ?_))
      · refine codeAny_call_builtin F.called_set.init.plain F.entry_set_init (check_set_init_1 hT ?_)
        obtain ⟨⟨ocls, odict, odata, oslots⟩, hol, hcl, nl, hdl⟩ := hl
        obtain rfl : ocls = _ := hcl
        obtain rfl : odata = _ := hdl
        have hol' := Heap.get?_push_of_some { cls := Value.type "set", data := Data.set #[] 0 (SetTable.fresh 0 0 !w.params.followText "set-order") } hol
        have hsls := F.sub_list_set
        have hslf := F.sub_list_frozenset
        have hl1 : Heap.IsList (s.heap.push { cls := Value.type "set", data := Data.set #[] 0 (SetTable.fresh 0 0 !w.params.followText "set-order") }) l items := ⟨_, hol', rfl, nl, rfl⟩
        have fin : wpAny (model prog w) A.in1.in1 (runValue (Code.builtin "set.update.loop" { pos := [Value.ref s.heap.objs.size, Value.ref (s.heap.push { cls := Value.type "set", data := Data.set #[] 0 (SetTable.fresh 0 0 !w.params.followText "set-order") }).objs.size] })) (fun r s₂ => r = Value.none ∧ ∃ h' tk, s₂ = { heap := h', gens := s.gens, drawn := s.drawn, toks := tk, os := s.os } ∧ (∃ c, c ≤ ns.length ∧ SetR w h' s.heap.objs.size (fun j => decide (j ∈ ns)) c) ∧ ∀ (b : Nat) (o : Obj), b < s.heap.objs.size → s.heap.get? b = some o → h'.get? b = some o) E
            { heap := (s.heap.push { cls := Value.type "set", data := Data.set #[] 0 (SetTable.fresh 0 0 !w.params.followText "set-order") }).push { cls := Value.type "list_iterator", data := Data.fields #[Value.ref l, Value.int 0 0] }, gens := s.gens, drawn := s.drawn, toks := s.toks, os := s.os } := by
          have hlS := Heap.lt_size hol
          have hneI : l ≠ (s.heap.push { cls := Value.type "set", data := Data.set #[] 0 (SetTable.fresh 0 0 !w.params.followText "set-order") }).objs.size := by rw [Heap.size_push]; exact Nat.ne_of_lt (Nat.lt_succ_of_lt hlS)
          have hSf : ¬ s.heap.objs.size ∈ [(s.heap.push { cls := Value.type "set", data := Data.set #[] 0 (SetTable.fresh 0 0 !w.params.followText "set-order") }).objs.size, l] := by
            rw [Heap.size_push]
            intro h
            rcases List.mem_cons.1 h with h | h
            · exact absurd h (Nat.ne_of_lt (Nat.lt_succ_self _))
            · rcases List.mem_cons.1 h with h | h
              · exact absurd h.symm (Nat.ne_of_lt hlS)
              · cases h
          have hh3 : A.in1.in1.in1.handled = none := hh
          have hh4 : A.in1.in1.handled = none := hh
          have hval : ∀ (i : Nat) (v : Value), items[i]? = some v → ∃ k t, ns[i]? = some k ∧ v = Value.int k t := fun i v hv => by
            have hi : i < ns.length := by rw [← hisz]; exact (Array.getElem?_eq_some_iff.mp hv).1
            obtain ⟨t, e⟩ := PyProof.Rows.IntsAre.int_at hit i v (by rw [Array.getElem?_toList]; exact hv)
            refine ⟨ns[i], t, List.getElem?_eq_getElem hi, ?_⟩
            rw [e, List.getD_eq_getElem?_getD, List.getElem?_eq_getElem hi]; rfl
          refine wpAny_runValue (set_update_ints (Walks.toS (Walks.list (by first | exact hh3 | exact hh4) (s.heap.push { cls := Value.type "set", data := Data.set #[] 0 (SetTable.fresh 0 0 !w.params.followText "set-order") }).objs.size l hneI items)) s.heap.objs.size hSf ns hisz hb hval (items.size - 0) 0 _ rfl (Nat.zero_le _) ⟨⟨_, Heap.get?_push_size _ rfl, rfl, rfl⟩, Heap.IsList.push hl1 _⟩ ?_ fun s' c hm hcn hS' => ?_)
          · have hget := Heap.get?_push_of_some { cls := Value.type "list_iterator", data := Data.fields #[Value.ref l, Value.int 0 0] } hS
            exact ⟨0, Nat.le_refl _, setR_new_at hget⟩
          · obtain ⟨h', g', d', tk', os'⟩ := s'
            have eg := hm.gens
            have ed := hm.drawn
            have eo := hm.os
            cases eg; cases ed; cases eo
            refine ⟨rfl, h', tk', rfl, ⟨c, hisz ▸ hcn, hS'⟩, fun b o hb e => ?_⟩
            refine hm.heap b o ?_ (Heap.get?_push_of_some _ (Heap.get?_push_of_some _ e))
            intro h
            rw [Heap.size_push] at h
            rcases List.mem_cons.1 h with h | h
            · exact absurd h (Nat.ne_of_lt hb)
            · rcases List.mem_cons.1 h with h | h
              · exact absurd h (Nat.ne_of_lt (Nat.lt_succ_of_lt hb))
              · cases h
        unfold Builtin.«set.__init__»
        unfold noKeywords
        refine wpAny_bind (wpAny_ite_true (by rfl) (wpAny_pure ?_))
        show wpAny (model prog w) A.in1.in1 (typeNameOfCut 200 (Value.ref s.heap.objs.size) >>= fun nm => checkCount nm 0 1 1 >>= fun _ => Builtin.Frozenset.addrOf (Value.ref s.heap.objs.size) >>= fun a => setUsed a >>= fun b => if b = true then (Builtin.Frozenset.clearAll a >>= fun _ => (Builtin.Frozenset.updateFrom "set.__init__" a (Value.ref l) >>= fun _ => ret Value.none)) else (Builtin.Frozenset.updateFrom "set.__init__" a (Value.ref l) >>= fun _ => ret Value.none)) _ _ _
        unfold typeNameOfCut shownTypeOf typeNameCut
        refine wpAny_bind (wpAny_bind (wpAny_bind (wpAny_typeOf hT ?_)))
        refine wpAny_ite_false (by rfl) (wpAny_pure ?_)
        refine wpAny_pure ?_
        unfold checkCount
        refine wpAny_bind (wpAny_ite_false (by rfl) (wpAny_ite_false (by rfl) (wpAny_ite_false (by rfl) (wpAny_pure ?_))))
        refine wpAny_bind (wpAny_pure ?_)
        unfold setUsed setState
        refine wpAny_bind (wpAny_bind (wpAny_bind (wpAny_load' hS ?_)))
        refine wpAny_ite_false (by rfl) (wpAny_pure ?_)
        refine wpAny_pure ?_
        refine wpAny_ite_false (by rfl) ?_
        have hTl : Shared.TypeIs { heap := s.heap.push { cls := Value.type "set", data := Data.set #[] 0 (SetTable.fresh 0 0 !w.params.followText "set-order") }, gens := s.gens, drawn := s.drawn, toks := s.toks, os := s.os } (Value.ref l) "list" := ⟨_, hol', rfl⟩
        unfold Builtin.Frozenset.updateFrom Builtin.Frozenset.isAnySet
        refine wpAny_bind (wpAny_bind ?_)
        refine wpAny_bind (wpAny_isInstance hTl hsls ?_)
        refine wpAny_isInstance hTl hslf ?_
        refine wpAny_ite_false (by rfl) ?_
        refine wpAny_bind (wpAny_typeOf hTl ?_)
        refine wpAny_ite_false (by rfl) ?_
        refine wpAny_bind (wpAny_pyIter_list hl1 ?_)
        refine wpAny_bind (wpAny_mono fin ?_ ?_)
        · intro r s₂ q
          obtain ⟨_, q⟩ := q
          exact wpAny_pure (wpAny_pure ⟨rfl, q⟩)
        · intro e s₂ q; exact q
      · intro r₂ s₂ hr₂
        cases r₂ with
        | error e => exact hr₂
        | ok fl₂ =>
          cases fl₂ with
          | ret r =>
            obtain ⟨rfl, h', tk, rfl, hS', hk'⟩ := (show r = Value.none ∧ ∃ h' tk, _ from hr₂)
            exact wpAny_pure (wpAny_ite_false (by rfl) (wpAny_pure (h h' tk hS' hk')))
          | _ => exact hr₂.elim
    | _ => exact hr.elim
end L2
namespace L2
open PySem PySem.Spec PyProof.Rows
theorem scan_str {x : Str} {t : Tok} : (Value.str x t).scannable = true := rfl
theorem Vals.get_str : ∀ {xs : List Str} {us : List Value}, Vals (xs.map V.str) us → ∀ (i : Nat) (v : Value), us[i]? = some v → ∃ t, v = Value.str (xs.getD i default) t
  | [], us, r, i, v, e => by cases r; simp at e
  | x :: xs, us, r, i, v, e => by
    cases r with
    | cons a b =>
      cases i with
      | zero =>
        obtain ⟨t, rfl⟩ := a
        simp at e
        exact ⟨t, e.symm⟩
      | succ i => exact Vals.get_str b i v (by simpa using e)
def tLenSetS (K : PySem.W.Frag) (ta : TE) : TE := fun σ H Q => ta σ H fun x H1 => ∃ (l : Addr) (xs : List Str), x = V.ref l ∧ SqL K H1 l (xs.map V.str) ∧ xs.length < 64 ∧ Q (.int (fmK (fun i => xs.getD i default) xs.length).length) H1
theorem pe_lenSetS {X : Cx} {a : Expr} {ta : TE} {p p2 q pos : Pos} (hc : X.calm = true) (hg : Gl X "len") (hm : X.mg "len" = none) (hg2 : Gl X "set") (hm2 : X.mg "set" = none) (ha : PE X a ta)
    (na : starEach [a] X.env = (false, eval a X.env) :: starEach [] X.env := by rfl) :
    PE X (.Call (.Name "len" p) [.Call (.Name "set" p2) [a] [] q] [] pos) (tLenSetS X.K ta) := by
  refine ⟨fun pins s σ H Q I h => PyProof.Rows.Call_ (ld_blt I hg hm boot_len (PyProof.Rows.callWith_builtin1 (PyProof.Rows.args_cons (PyProof.Rows.Call_ (ld_blt I hg2 hm2 PyProof.Rows.boot_set (PyProof.Rows.callWith_type1 (PyProof.Rows.args_cons (thn (ha.run pins s σ H _ I h) ?_) na) na rfl) (by decide) (by decide)) (by rfl)) (by rfl)) (by rfl) rfl) (by decide) (by decide)) (by rfl)⟩
  rintro v s1 ⟨x, H1, I1, r1, l, xs, rfl, hq, h64, q1⟩
  refine PyProof.Rows.args_nil ?_
  cases r1
  obtain ⟨its, r, pl, hz⟩ := I1.list hq
  have hl : its.toArray.size = xs.length := by rw [List.size_toArray, ← Vals.length r, List.length_map]
  refine call_set_listK (strKind X.prog X.w) (fun i => xs.getD i default) (I1.ok.hd hc) pl.isList (fun i v e => ?_) (by rw [hl]; show _ < scanBound; unfold scanBound; omega) fun h' tk hS hk => ?_
  · obtain ⟨t, rfl⟩ := Vals.get_str r i v (by rw [List.getElem?_toArray] at e; exact e)
    exact ⟨strKind_is _ _ _ _, scan_str⟩
  · refine PyProof.Rows.args_nil ?_
    rw [hl] at hS
    obtain ⟨o, es, ep, t, ho, hex, hd, _, _, _, hf, hn⟩ := hS
    have I2 := Inv.kept (t' := tk) I1 fun b o e => hk b o (Heap.lt_size e) e
    have hsz : (fmK (fun i => xs.getD i default) xs.length).length ≤ xs.length := fmK_le _ _
    refine call_len_set ho hex hd hf (by rw [hn]; omega) ⟨V.int _, H1, Inv.tok I2 _, ⟨tk + 1, by rw [hn]⟩, q1⟩
def tSortSet (K : PySem.W.Frag) (ta : TE) : TE := fun σ H Q => ta σ H fun x H1 => ∃ (l : Addr) (ns : List Int), x = V.ref l ∧ SqL K H1 l (ns.map V.int) ∧ ns.length < 64 ∧
  ∀ (out : List Int) (p : Addr), out.Pairwise (· < ·) → (∀ k : Int, k ∈ out ↔ k ∈ ns) → H1 p = none → Q (.ref p) (upd H1 p (.lst (out.map V.int)))
theorem pe_sortSet {X : Cx} {a : Expr} {ta : TE} {p p2 q pos : Pos} (hc : X.calm = true) (hg : Gl X "sorted") (hm : X.mg "sorted" = none) (hg2 : Gl X "set") (hm2 : X.mg "set" = none) (ha : PE X a ta)
    (na : starEach [a] X.env = (false, eval a X.env) :: starEach [] X.env := by rfl) :
    PE X (.Call (.Name "sorted" p) [.Call (.Name "set" p2) [a] [] q] [] pos) (tSortSet X.K ta) := by
  refine ⟨fun pins s σ H Q I h => PyProof.Rows.Call_ (ld_blt I hg hm PyProof.Rows.boot_sorted (PyProof.Rows.callWith_builtin1 (PyProof.Rows.args_cons (PyProof.Rows.Call_ (ld_blt I hg2 hm2 PyProof.Rows.boot_set (PyProof.Rows.callWith_type1 (PyProof.Rows.args_cons (thn (ha.run pins s σ H _ I h) ?_) na) na rfl) (by decide) (by decide)) (by rfl)) (by rfl)) (by rfl) rfl) (by decide) (by decide)) (by rfl)⟩
  rintro v s1 ⟨x, H1, I1, r1, l, ns, rfl, hq, h64, q1⟩
  refine PyProof.Rows.args_nil ?_
  cases r1
  obtain ⟨its, r, pl, hz⟩ := I1.list hq
  refine call_set_listI ns (I1.ok.hd hc) pl.isList (by exact Vals.ints r) (by show _ < scanBound; unfold scanBound; omega) fun h' tk hS hk => ?_
  obtain ⟨c, hc1, hS⟩ := hS
  refine PyProof.Rows.args_nil ?_
  have I2 := Inv.kept (t' := tk) I1 fun b o e => hk b o (Heap.lt_size e) e
  refine sorted_set hS (I2.ok.hd hc) (by omega) fun s' p out c2 ms k g o hp hg hi hs hm hl => ?_
  have hlen : (ms.map V.int).length ≤ sizeLine := by rw [List.length_map, hl, sizeLine_eq]; omega
  have hn := HOk.fresh I2.hok hp
  obtain ⟨a1, a2, a3, a4, a5⟩ := s'
  have o2 : a5 = s1.os := o
  have g2 : a2 = s1.gens := g
  subst o2; subst g2
  have J : Inv X pins σ (upd H1 p (HO.lst (ms.map V.int))) { heap := a1, gens := s1.gens, drawn := a3, toks := a4, os := s1.os } := Inv.call (s := { heap := h', gens := s1.gens, drawn := s1.drawn, toks := tk, os := s1.os }) (ch := []) I2 (Un.laid k hp hn) (HOk.laid I2.hok k hp (o := .lst (ms.map V.int)) ⟨hlen, out.toList, c2, vals_of_ints hi, hg⟩) I2.bare (fun x z => nomatch z)
  exact ⟨V.ref p, _, J, rfl, q1 ms p hs (fun k => by rw [hm k]; simp) hn⟩
end L2
namespace D
open PySem L2 G PySem.Spec PyProof.Rows
variable [Tbs]
omit [Tbs] in
def nubI : List Int → List Int
  | [] => []
  | x :: xs => if x ∈ xs then nubI xs else x :: nubI xs
omit [Tbs] in
theorem nubI_mem {k : Int} : ∀ xs : List Int, k ∈ nubI xs ↔ k ∈ xs
  | [] => Iff.rfl
  | x :: xs => by
    rw [nubI]
    split
    · rename_i h
      rw [nubI_mem xs]
      refine ⟨fun q => List.mem_cons_of_mem _ q, fun q => ?_⟩
      rcases List.mem_cons.1 q with rfl | q
      · exact h
      · exact q
    · rw [List.mem_cons, List.mem_cons, nubI_mem xs]
omit [Tbs] in
theorem nubI_nodup : ∀ xs : List Int, (nubI xs).Nodup
  | [] => List.nodup_nil
  | x :: xs => by
    rw [nubI]
    split
    · exact nubI_nodup xs
    · rename_i h
      exact List.nodup_cons.2 ⟨fun q => h ((nubI_mem xs).1 q), nubI_nodup xs⟩
omit [Tbs] in
def sortU (ns : List Int) : List Int := sortI (nubI ns)
omit [Tbs] in
theorem sortU_mem {k : Int} (ns : List Int) : k ∈ sortU ns ↔ k ∈ ns := (sortI_perm _).mem_iff.trans (nubI_mem ns)
omit [Tbs] in
theorem asc_nodup {out : List Int} (h : out.Pairwise (· < ·)) : out.Nodup := h.imp fun {a b} (z : a < b) => by omega
omit [Tbs] in
theorem sortU_one {out ns : List Int} (h : out.Pairwise (· < ·)) (m : ∀ k : Int, k ∈ out ↔ k ∈ ns) : out = sortU ns :=
  sorted_one ((List.perm_ext_iff_of_nodup (asc_nodup h) ((sortI_perm _).nodup_iff.2 (nubI_nodup ns))).2 fun k => (m k).trans (sortU_mem ns).symm) (h.imp fun {a b} (z : a < b) => by omega) (sortI_sorted _)
omit [Tbs] in
def gLenSet : PyData → Option PyData
  | .list ds => match strsOf ds with
    | some xs => if xs.length < 64 then some (.int (fmK (fun i => xs.getD i default) xs.length).length) else none
    | none => none
  | _ => none
omit [Tbs] in
def gSortSet : PyData → Option PyData
  | .list ds => match intsOf ds with
    | some ns => if ns.length < 64 then some (.list ((sortU ns).map .int)) else none
    | none => none
  | _ => none
theorem rd_lenSet {K : PySem.W.Frag} : UnRd K (fun x H1 Q => ∃ (l : Addr) (xs : List Str), x = V.ref l ∧ SqL K H1 l (xs.map V.str) ∧ xs.length < 64 ∧ Q (.int (fmK (fun i => xs.getD i default) xs.length).length) H1) gLenSet := by
  intro x H c w a d Q hd hx eg k
  unfold gLenSet at eg
  split at eg
  · rename_i ds
    obtain ⟨p, us, rfl, q1, a1⟩ := hx.list hd.sub
    cases q : strsOf ds with
    | none => rw [q] at eg; cases eg
    | some xs =>
      rw [q] at eg
      dsimp only at eg
      obtain ⟨hl, rfl⟩ := ite_some eg
      rw [strs_dp a1 q] at q1
      exact ⟨p, xs, rfl, q1, hl, k _ _ _ (.refl _) hd (Dp.int _)⟩
  · cases eg
theorem rd_sortSet {K : PySem.W.Frag} : UnRd K (fun x H1 Q => ∃ (l : Addr) (ns : List Int), x = V.ref l ∧ SqL K H1 l (ns.map V.int) ∧ ns.length < 64 ∧
    ∀ (out : List Int) (p : Addr), out.Pairwise (· < ·) → (∀ k : Int, k ∈ out ↔ k ∈ ns) → H1 p = none → Q (.ref p) (upd H1 p (.lst (out.map V.int)))) gSortSet := by
  intro x H c w a d Q hd hx eg k
  unfold gSortSet at eg
  split at eg
  · rename_i ds
    obtain ⟨p, us, rfl, q1, a1⟩ := hx.list hd.sub
    cases q : intsOf ds with
    | none => rw [q] at eg; cases eg
    | some ns =>
      rw [q] at eg
      dsimp only at eg
      obtain ⟨hl, rfl⟩ := ite_some eg
      rw [ints_v a1 q] at q1
      refine ⟨p, ns, rfl, q1, hl, fun out z hs hm nz => ?_⟩
      obtain rfl := sortU_one hs hm
      exact k _ _ _ (hd.grow nz) (hd.new nz) (Dp.newL (dp_ints _) (hd.free nz))
  · cases eg
section
variable {X : Cx} {E : XK} {e call : Expr} {te : TE} {m : Rho → M Val}
theorem de_lenSet (pe : PE X call (tLenSetS X.K te)) (he : DE X E e te m) : DE X E call (tLenSetS X.K te) (mUn gLenSet m) :=
  ⟨pe, fun σ ρ H c w Q er hd p => he.rd σ ρ H c w _ er hd (Post.bind p fun x H1 c1 vx w1 gg hd1 r1 p1 => un_end rd_lenSet hd1 r1 p1)⟩
theorem de_sortSet (pe : PE X call (tSortSet X.K te)) (he : DE X E e te m) : DE X E call (tSortSet X.K te) (mUn gSortSet m) :=
  ⟨pe, fun σ ρ H c w Q er hd p => he.rd σ ρ H c w _ er hd (Post.bind p fun x H1 c1 vx w1 gg hd1 r1 p1 => un_end rd_sortSet hd1 r1 p1)⟩
end
end D

set_option maxRecDepth 100000
set_option maxHeartbeats 8000000
namespace Z
open PySem L2 G D
class Ad where
  C_InvalidPaper : Addr
  C_NotUsable : Addr
def top (i : Nat) : Stmt := PySem.Challenge.pw_forcedtables_k53_whole_choices.main.body.getD i (.Pass ⟨0, 0, 0, 0⟩)
abbrev s_is_integer : Stmt := top 9
abbrev s_is_number : Stmt := top 10
abbrev s_is_below : Stmt := top 11
abbrev s_is_positive : Stmt := top 12
abbrev s_is_power : Stmt := top 13
abbrev s_is_prime : Stmt := top 14
abbrev s_is_pair : Stmt := top 15
abbrev s_pair_fault : Stmt := top 16
abbrev s_count_fault : Stmt := top 17
abbrev s_is_count : Stmt := top 18
abbrev s_is_free : Stmt := top 19
abbrev s_choice_fault : Stmt := top 20
abbrev s_is_acting : Stmt := top 21
abbrev s_row_fault : Stmt := top 22
abbrev s_can_act : Stmt := top 23
abbrev s_does_reach : Stmt := top 24
abbrev s_lets_choice : Stmt := top 26
abbrev s_need_free : Stmt := top 27
abbrev s_need_choice : Stmt := top 28
abbrev s_raised : Stmt := top 30
abbrev s_raised_modulo : Stmt := top 31
abbrev s_need_count : Stmt := top 33
abbrev s_need_prime : Stmt := top 34
abbrev s_primes_of : Stmt := top 36
abbrev s_root_of : Stmt := top 38
abbrev s_at_rest : Stmt := top 39
abbrev s_how_many_groups : Stmt := top 40
abbrev s_choices_of : Stmt := top 41
abbrev s_group_of : Stmt := top 42
abbrev s_roots_of : Stmt := top 43
abbrev s_multiplied : Stmt := top 44
abbrev s_share_of : Stmt := top 45
abbrev s_rests_of : Stmt := top 46
abbrev s_primes_beside : Stmt := top 47
abbrev s_how_many_rows : Stmt := top 48
abbrev s_choices_beside : Stmt := top 49
abbrev s_rows_beside : Stmt := top 50
abbrev s_ends_beside : Stmt := top 51
abbrev s_turned_at : Stmt := top 52
abbrev s__law_feed : Stmt := top 54
abbrev s__law_draw : Stmt := top 55
abbrev s__law_any : Stmt := top 56
abbrev s__law_lot : Stmt := top 57
abbrev s__law_primes : Stmt := top 58
abbrev s__law_rows : Stmt := top 59
abbrev s__law_choices : Stmt := top 60
abbrev s__law_how_many : Stmt := top 61
abbrev s__law_are_choices_right : Stmt := top 62
abbrev s_law : Stmt := top 63
abbrev sE_InvalidPaper : Stmt := inClass (top 4) 0
abbrev sE_NotUsable : Stmt := inClass (top 5) 0
instance theTbs [Ad] : Tbs := ⟨[], true⟩
def c_MOST_POWER : PyData := (.int 6)
def c_PRIME_END : PyData := (.int 10000)
def b_is_integer : B := (fRet (mAndV (mUn (gIsi dI) (mVar 0)) (mNotV (mUn (gIsi dB) (mVar 0)))))
def m_is_integer : List Val → M Val := mBody false ["thing"] b_is_integer
def b_is_number : B := (fRet (mAndV (mFnX 1 m_is_integer (mCons (mVar 0) mNil)) (mOp gGe (mVar 0) (mC (.int 0)))))
def m_is_number : List Val → M Val := mBody false ["thing"] b_is_number
def b_is_below : B := (fRet (mAndV (mFnX 1 m_is_number (mCons (mVar 0) mNil)) (mOp gLt (mVar 0) (mVar 1))))
def m_is_below : List Val → M Val := mBody false ["thing", "bound"] b_is_below
def b_is_positive : B := (fRet (mAndV (mFnX 1 m_is_integer (mCons (mVar 0) mNil)) (mOp gGe (mVar 0) (mC (.int 1)))))
def m_is_positive : List Val → M Val := mBody false ["thing"] b_is_positive
def b_is_power : B := (fRet (mAndV (mFnX 1 m_is_positive (mCons (mVar 0) mNil)) (mOp gLe (mVar 0) (mC c_MOST_POWER))))
def m_is_power : List Val → M Val := mBody false ["thing"] b_is_power
def b_is_prime : B := (fSeq (fIf (mOr (mNot (mTest (mFnX 2 m_is_below (mCons (mVar 0) (mCons (mC c_PRIME_END) mNil))))) (mTest (mOp gLt (mVar 0) (mC (.int 2))))) (fRet (mC (.bool false))) fNext)
    (fSeq (fAsg (mC (.int 2)) (mName 1))
    (fSeq (whl (mTest (mOp gLe (mOp gMulG (mVar 1) (mVar 1)) (mVar 0))) (fSeq (fIf (mTest (mOp gEqB (mOp gMod (mVar 0) (mVar 1)) (mC (.int 0)))) (fRet (mC (.bool false))) fNext)
    (fAsg (mOp gAdd (mVar 1) (mC (.int 1))) (mName 1))) fuel)
    (fRet (mC (.bool true))))))
def m_is_prime : List Val → M Val := mBody false ["thing", "factor"] b_is_prime
def b_is_pair : B := (fRet (mAndV (mUn (gIsi dT) (mVar 0)) (mOp gEqB (mCall gLen (mCons (mVar 0) mNil)) (mC (.int 2)))))
def m_is_pair : List Val → M Val := mBody false ["thing"] b_is_pair
def b_pair_fault : B := (fSeq (fIf (mNot (mTest (mFnX 1 m_is_pair (mCons (mVar 0) mNil)))) (fRet (mC (.str "pair"))) fNext)
    (fSeq (fAsg (mVar 0) (mTTup 2 (mTCons (mName 2) (mTCons (mName 3) mTNil))))
    (fSeq (fIf (mNot (mTest (mFnX 1 m_is_prime (mCons (mVar 2) mNil)))) (fRet (mC (.str "prime"))) fNext)
    (fSeq (fIf (mTest (mOp gLe (mVar 2) (mVar 1))) (fRet (mC (.str "order"))) fNext)
    (fSeq (fIf (mNot (mTest (mFnX 1 m_is_power (mCons (mVar 3) mNil)))) (fRet (mC (.str "power"))) fNext)
    (fRet (mC .none)))))))
def m_pair_fault : List Val → M Val := mBody false ["pair", "before", "prime", "power"] b_pair_fault
def b_count_fault : B := (fSeq (fIf (mNot (mTest (mUn (gIsi dT) (mVar 0)))) (fRet (mTup (mCons (mC (.str "shape")) (mCons (mUn gNeg (mC (.int 1))) mNil)))) fNext)
    (fSeq (fAsg (mC (.int 0)) (mName 1))
    (fSeq (fFor (mEnum (mCons (mVar 0) mNil)) (mTTup 2 (mTCons (mName 2) (mTCons (mName 3) mTNil))) (fSeq (fAsg (mFnX 2 m_pair_fault (mCons (mVar 3) (mCons (mVar 1) mNil))) (mName 4))
    (fSeq (fIf (mTest (mOp gNotN (mVar 4) (mC .none))) (fRet (mTup (mCons (mVar 4) (mCons (mVar 2) mNil)))) fNext)
    (fAsg (mOp gIx (mVar 3) (mC (.int 0))) (mName 1)))))
    (fRet (mC .none)))))
def m_count_fault : List Val → M Val := mBody false ["thing", "before", "at", "pair", "word"] b_count_fault
def b_is_count : B := (fRet (mOp gIsN (mFnX 1 m_count_fault (mCons (mVar 0) mNil)) (mC .none)))
def m_is_count : List Val → M Val := mBody false ["thing"] b_is_count
def b_is_free : B := (fRet (mAndV (mFnX 1 m_is_count (mCons (mVar 0) mNil)) (mCall gAll (mCons (mLc (mSeq (mVar 0)) (mName 1) mYes (mOp gEqB (mOp gIx (mVar 1) (mC (.int 1))) (mC (.int 1))) [1]) mNil))))
def m_is_free : List Val → M Val := mBody false ["thing", "pair"] b_is_free
def b_is_acting : B := (fRet (mAndV (mFnX 1 m_is_pair (mCons (mVar 0) mNil)) (mAndV (mFnX 1 m_is_prime (mCons (mOp gIx (mVar 0) (mC (.int 0))) mNil)) (mAndV (mOp (gInX false) (mOp gIx (mVar 0) (mC (.int 0))) (mVar 1)) (mUn (gIsi dT) (mOp gIx (mVar 0) (mC (.int 1))))))))
def m_is_acting : List Val → M Val := mBody false ["thing", "primes"] b_is_acting
def b_does_reach : B := (fRet (mOp gEqB (mOp gMod (mOp gSub (mVar 1) (mC (.int 1))) (mVar 0)) (mC (.int 0))))
def m_does_reach : List Val → M Val := mBody false ["prime", "other"] b_does_reach
def b_can_act : B := (fRet (mAndV (mFnX 2 m_is_below (mCons (mVar 0) (mCons (mVar 1) mNil))) (mOrV (mOp gEqB (mVar 0) (mC (.int 0))) (mFnX 2 m_does_reach (mCons (mVar 1) (mCons (mVar 2) mNil))))))
def m_can_act : List Val → M Val := mBody false ["thing", "prime", "other"] b_can_act
def b_row_fault : B := (fSeq (fAsg (mVar 0) (mTTup 2 (mTCons (mName 3) (mTCons (mName 4) mTNil))))
    (fSeq (fIf (mTest (mOp gNeB (mCall gLen (mCons (mVar 4) mNil)) (mCall gLen (mCons (mVar 1) mNil)))) (fRet (mTup (mCons (mC (.str "row")) (mCons (mVar 2) mNil)))) fNext)
    (fSeq (fFor (mEnum (mCons (mVar 4) mNil)) (mTTup 2 (mTCons (mName 5) (mTCons (mName 6) mTNil))) (fIf (mNot (mTest (mFnX 3 m_can_act (mCons (mVar 6) (mCons (mVar 3) (mCons (mOp gIx (mVar 1) (mVar 5)) mNil)))))) (fRet (mTup (mCons (mC (.str "number")) (mCons (mTup (mCons (mVar 2) (mCons (mVar 5) mNil))) mNil)))) fNext))
    (fSeq (fAsg (mLc (mSeq (mVar 4)) (mName 6) (mTest (mOp gNeB (mVar 6) (mC (.int 0)))) (mVar 6) [6]) (mName 7))
    (fSeq (fIf (mTest (mOp gEqB (mCall gLen (mCons (mVar 7) mNil)) (mC (.int 0)))) (fRet (mTup (mCons (mC (.str "nought")) (mCons (mVar 2) mNil)))) fNext)
    (fSeq (fIf (mTest (mOp gNeB (mOp gIx (mVar 7) (mC (.int 0))) (mC (.int 1)))) (fRet (mTup (mCons (mC (.str "first")) (mCons (mVar 2) mNil)))) fNext)
    (fRet (mC .none))))))))
def m_row_fault : List Val → M Val := mBody false ["pair", "resting", "at", "prime", "row", "place", "number", "acts"] b_row_fault
def b_choice_fault : B := (fSeq (fIf (mNot (mTest (mUn (gIsi dT) (mVar 1)))) (fRet (mTup (mCons (mC (.str "shape")) (mCons (mUn gNeg (mC (.int 1))) mNil)))) fNext)
    (fSeq (fAsg (mLc (mSeq (mVar 0)) (mName 3) mYes (mOp gIx (mVar 3) (mC (.int 0))) [3]) (mName 2))
    (fSeq (fAsg (mC (.int 0)) (mName 4))
    (fSeq (fFor (mEnum (mCons (mVar 1) mNil)) (mTTup 2 (mTCons (mName 5) (mTCons (mName 3) mTNil))) (fSeq (fIf (mNot (mTest (mFnX 2 m_is_acting (mCons (mVar 3) (mCons (mVar 2) mNil))))) (fRet (mTup (mCons (mC (.str "pair")) (mCons (mVar 5) mNil)))) fNext)
    (fSeq (fIf (mTest (mOp gLe (mOp gIx (mVar 3) (mC (.int 0))) (mVar 4))) (fRet (mTup (mCons (mC (.str "order")) (mCons (mVar 5) mNil)))) fNext)
    (fAsg (mOp gIx (mVar 3) (mC (.int 0))) (mName 4)))))
    (fSeq (fAsg (mLc (mSeq (mVar 1)) (mName 3) mYes (mOp gIx (mVar 3) (mC (.int 0))) [3]) (mName 6))
    (fSeq (fAsg (mLc (mSeq (mVar 2)) (mName 8) (mTest (mOp (gInX true) (mVar 8) (mVar 6))) (mVar 8) [8]) (mName 7))
    (fSeq (fFor (mEnum (mCons (mVar 1) mNil)) (mTTup 2 (mTCons (mName 5) (mTCons (mName 3) mTNil))) (fSeq (fAsg (mFnX 3 m_row_fault (mCons (mVar 3) (mCons (mVar 7) (mCons (mVar 5) mNil)))) (mName 9))
    (fIf (mTest (mOp gNotN (mVar 9) (mC .none))) (fRet (mVar 9)) fNext)))
    (fRet (mC .none)))))))))
def m_choice_fault : List Val → M Val := mBody false ["count", "thing", "primes", "pair", "before", "at", "acting", "resting", "prime", "fault"] b_choice_fault
def b_need_free : B := (fIf (mNot (mTest (mFnX 1 m_is_free (mCons (mVar 1) mNil)))) (fRaise "NotUsable" "word" "at" (mCons (mVar 0) (mCons (mUn gNeg (mC (.int 1))) mNil))) fNext)
def m_need_free : List Val → M Val := mBody false ["name", "thing"] b_need_free
def b_lets_choice : B := (fSeq (fDrop (mFnX 2 m_need_free (mCons (mC (.str "count")) (mCons (mVar 0) mNil))))
    (fSeq (fAsg (mFnX 2 m_choice_fault (mCons (mVar 0) (mCons (mVar 1) mNil))) (mName 2))
    (fSeq (fIf (mTest (mOp gNotN (mVar 2) (mC .none))) (fSeq (fAsg (mVar 2) (mTTup 2 (mTCons (mName 3) (mTCons (mName 4) mTNil))))
    (fRaise "InvalidPaper" "word" "at" (mCons (mVar 3) (mCons (mVar 4) mNil)))) fNext)
    (fRet (mCall gLen (mCons (mVar 1) mNil))))))
def m_lets_choice : List Val → M Val := mBody false ["count", "thing", "fault", "word", "at"] b_lets_choice
def b_need_choice : B := (fSeq (fDrop (mFnX 2 m_need_free (mCons (mC (.str "count")) (mCons (mVar 0) mNil))))
    (fIf (mTest (mOp gNotN (mFnX 2 m_choice_fault (mCons (mVar 0) (mCons (mVar 1) mNil))) (mC .none))) (fRaise "NotUsable" "word" "at" (mCons (mC (.str "choice")) (mCons (mUn gNeg (mC (.int 1))) mNil))) fNext))
def m_need_choice : List Val → M Val := mBody false ["count", "choice"] b_need_choice
def b_raised : B := (fSeq (fAsg (mC (.int 1)) (mName 2))
    (fSeq (fFor (mRange1 (mCons (mVar 1) mNil)) (mName 3) (fAsg (mOp gMulG (mVar 2) (mVar 0)) (mName 2)))
    (fRet (mVar 2))))
def m_raised : List Val → M Val := mBody false ["base", "power", "result", "_"] b_raised
def b_raised_modulo : B := (fSeq (fAsg (mOp gMod (mC (.int 1)) (mVar 2)) (mName 3))
    (fSeq (fAsg (mOp gMod (mVar 0) (mVar 2)) (mName 4))
    (fSeq (fAsg (mVar 1) (mName 5))
    (fSeq (whl (mTest (mOp gGt (mVar 5) (mC (.int 0)))) (fSeq (fIf (mTest (mOp gEqB (mOp gMod (mVar 5) (mC (.int 2))) (mC (.int 1)))) (fAsg (mOp gMod (mOp gMulG (mVar 3) (mVar 4)) (mVar 2)) (mName 3)) fNext)
    (fSeq (fAsg (mOp gMod (mOp gMulG (mVar 4) (mVar 4)) (mVar 2)) (mName 4))
    (fAsg (mOp gFdiv (mVar 5) (mC (.int 2))) (mName 5)))) fuel)
    (fRet (mVar 3))))))
def m_raised_modulo : List Val → M Val := mBody false ["base", "power", "modulus", "result", "square", "rest"] b_raised_modulo
def b_need_count : B := (fIf (mNot (mTest (mFnX 1 m_is_count (mCons (mVar 1) mNil)))) (fRaise "NotUsable" "word" "at" (mCons (mVar 0) (mCons (mUn gNeg (mC (.int 1))) mNil))) fNext)
def m_need_count : List Val → M Val := mBody false ["name", "thing"] b_need_count
def b_need_prime : B := (fIf (mNot (mTest (mFnX 1 m_is_prime (mCons (mVar 1) mNil)))) (fRaise "NotUsable" "word" "at" (mCons (mVar 0) (mCons (mUn gNeg (mC (.int 1))) mNil))) fNext)
def m_need_prime : List Val → M Val := mBody false ["name", "thing"] b_need_prime
def b_primes_of : B := (fSeq (fDrop (mFnX 2 m_need_count (mCons (mC (.str "count")) (mCons (mVar 0) mNil))))
    (fRet (mCall gTuple (mCons (mLc (mSeq (mVar 0)) (mTTup 2 (mTCons (mName 1) (mTCons (mName 2) mTNil))) mYes (mVar 1) [1, 2]) mNil))))
def m_primes_of : List Val → M Val := mBody false ["count", "prime", "power"] b_primes_of
def b_roots_of : B := (fSeq (fAsg (mC (.int 1)) (mName 2))
    (fSeq (fAsg (mC (.int 2)) (mName 3))
    (fSeq (whl (mTest (mOp gEqB (mVar 2) (mC (.int 1)))) (fSeq (fAsg (mFnX 3 m_raised_modulo (mCons (mVar 3) (mCons (mOp gFdiv (mOp gSub (mVar 1) (mC (.int 1))) (mVar 0)) (mCons (mVar 1) mNil)))) (mName 2))
    (fAsg (mOp gAdd (mVar 3) (mC (.int 1))) (mName 3))) fuel)
    (fSeq (fAsg (mLstO mNil) (mName 4))
    (fSeq (fAsg (mVar 2) (mName 5))
    (fSeq (whl (mTest (mOp gNeB (mVar 5) (mC (.int 1)))) (fSeq (fDrop (mAppend (mVar 4) (mVar 5)))
    (fAsg (mOp gMod (mOp gMulG (mVar 5) (mVar 2)) (mVar 1)) (mName 5))) fuel)
    (fRet (mVar 4))))))))
def m_roots_of : List Val → M Val := mBody false ["prime", "other", "root", "base", "found", "here"] b_roots_of
def b_root_of : B := (fSeq (fDrop (mFnX 2 m_need_prime (mCons (mC (.str "prime")) (mCons (mVar 0) mNil))))
    (fSeq (fDrop (mFnX 2 m_need_prime (mCons (mC (.str "other")) (mCons (mVar 1) mNil))))
    (fSeq (fIf (mNot (mTest (mFnX 2 m_does_reach (mCons (mVar 0) (mCons (mVar 1) mNil))))) (fRaise "NotUsable" "word" "at" (mCons (mC (.str "other")) (mCons (mUn gNeg (mC (.int 1))) mNil))) fNext)
    (fRet (mCall gMinL (mCons (mFnX 2 m_roots_of (mCons (mVar 0) (mCons (mVar 1) mNil))) mNil))))))
def m_root_of : List Val → M Val := mBody false ["prime", "other"] b_root_of
def b_at_rest : B := (fSeq (fDrop (mFnX 2 m_need_choice (mCons (mVar 0) (mCons (mVar 1) mNil))))
    (fSeq (fAsg (mLc (mSeq (mVar 1)) (mTTup 2 (mTCons (mName 3) (mTCons (mName 4) mTNil))) mYes (mVar 3) [3, 4]) (mName 2))
    (fRet (mCall gTuple (mCons (mLc (mSeq (mFnX 1 m_primes_of (mCons (mVar 0) mNil))) (mName 3) (mTest (mOp (gInX true) (mVar 3) (mVar 2))) (mVar 3) [3]) mNil)))))
def m_at_rest : List Val → M Val := mBody false ["count", "choice", "acting", "prime", "row"] b_at_rest
def b_multiplied : B := (fSeq (fAsg (mC (.int 1)) (mName 1))
    (fSeq (fFor (mSeq (mVar 0)) (mName 2) (fAsg (mOp gMulG (mVar 1) (mVar 2)) (mName 1)))
    (fRet (mVar 1))))
def m_multiplied : List Val → M Val := mBody false ["numbers", "product", "number"] b_multiplied
def b_how_many_rows : B := (fSeq (fAsg (mLc (mSeq (mVar 1)) (mName 3) (mTest (mFnX 2 m_does_reach (mCons (mVar 0) (mCons (mVar 3) mNil)))) (mVar 3) [3]) (mName 2))
    (fRet (mOp gFdiv (mOp gSub (mFnX 2 m_raised (mCons (mVar 0) (mCons (mCall gLen (mCons (mVar 2) mNil)) mNil))) (mC (.int 1))) (mOp gSub (mVar 0) (mC (.int 1))))))
def m_how_many_rows : List Val → M Val := mBody false ["prime", "resting", "reached", "other"] b_how_many_rows
def b_rests_of : B := (fSeq (fAsg (mLst (mCons (mTup mNil) mNil)) (mName 1))
    (fSeq (fFor (mSeq (mUn gRevA (mFnX 1 m_primes_of (mCons (mVar 0) mNil)))) (mName 2) (fSeq (fAsg (mLc (mSeq (mVar 1)) (mName 4) mYes (mTup (mCons (mVar 2) (mStarC (mVar 4) mNil))) [4]) (mName 3))
    (fAsg (mOp gAdd (mVar 3) (mLc (mSeq (mVar 1)) (mName 4) (mTest (mOp gGt (mFnX 2 m_how_many_rows (mCons (mVar 2) (mCons (mVar 4) mNil))) (mC (.int 0)))) (mVar 4) [4])) (mName 1))))
    (fRet (mVar 1))))
def m_rests_of : List Val → M Val := mBody false ["count", "found", "prime", "resting", "others"] b_rests_of
def b_primes_beside : B := (fRet (mLc (mSeq (mFnX 1 m_primes_of (mCons (mVar 0) mNil))) (mName 2) (mTest (mOp (gInX true) (mVar 2) (mVar 1))) (mVar 2) [2]))
def m_primes_beside : List Val → M Val := mBody false ["count", "resting", "prime"] b_primes_beside
def b_how_many_groups : B := (fSeq (fDrop (mFnX 2 m_need_free (mCons (mC (.str "count")) (mCons (mVar 0) mNil))))
    (fRet (mCall gSum (mCons (mLc (mSeq (mFnX 1 m_rests_of (mCons (mVar 0) mNil))) (mName 2) mYes (mFnX 1 m_multiplied (mCons (mLc (mSeq (mFnX 2 m_primes_beside (mCons (mVar 0) (mCons (mVar 2) mNil)))) (mName 1) mYes (mFnX 2 m_how_many_rows (mCons (mVar 1) (mCons (mVar 2) mNil))) [1]) mNil)) [2]) mNil))))
def m_how_many_groups : List Val → M Val := mBody false ["count", "prime", "resting"] b_how_many_groups
def b_ends_beside : B := (fSeq (fAsg (mLst (mCons (mTup mNil) mNil)) (mName 2))
    (fSeq (fFor (mSeq (mVar 1)) (mName 3) (fSeq (fAsg (mIf (mTest (mFnX 2 m_does_reach (mCons (mVar 0) (mCons (mVar 3) mNil)))) (mVar 0) (mC (.int 1))) (mName 4))
    (fAsg (mLc2 (mSeq (mVar 2)) (mName 5) mYes (mRange1 (mCons (mVar 4) mNil)) (mName 6) mYes (mTup (mStarC (mVar 5) (mCons (mVar 6) mNil))) [5, 6] [6]) (mName 2))))
    (fRet (mVar 2))))
def m_ends_beside : List Val → M Val := mBody false ["prime", "resting", "found", "other", "many", "end", "number"] b_ends_beside
def b_rows_beside : B := (fSeq (fAsg (mLst mNil) (mName 2))
    (fSeq (fFor (mEnum (mCons (mVar 1) mNil)) (mTTup 2 (mTCons (mName 3) (mTCons (mName 4) mTNil))) (fIf (mTest (mFnX 2 m_does_reach (mCons (mVar 0) (mCons (mVar 4) mNil)))) (fSeq (fAsg (mOp gMulG (mTup (mCons (mC (.int 0)) mNil)) (mVar 3)) (mName 5))
    (fAsg (mOp gAdd (mVar 2) (mLc (mSeq (mFnX 2 m_ends_beside (mCons (mVar 0) (mCons (mSl (mVar 1) (mPart (mOp gAdd (mVar 3) (mC (.int 1)))) mNoPart) mNil)))) (mName 6) mYes (mTup (mStarC (mVar 5) (mCons (mC (.int 1)) (mStarC (mVar 6) mNil)))) [6])) (mName 2))) fNext))
    (fRet (mVar 2))))
def m_rows_beside : List Val → M Val := mBody false ["prime", "resting", "found", "at", "other", "ahead", "end"] b_rows_beside
def b_choices_beside : B := (fSeq (fAsg (mLst (mCons (mTup mNil) mNil)) (mName 2))
    (fSeq (fFor (mSeq (mFnX 2 m_primes_beside (mCons (mVar 0) (mCons (mVar 1) mNil)))) (mName 3) (fSeq (fAsg (mFnX 2 m_rows_beside (mCons (mVar 3) (mCons (mVar 1) mNil))) (mName 4))
    (fAsg (mLc2 (mSeq (mVar 2)) (mName 5) mYes (mSeq (mVar 4)) (mName 6) mYes (mTup (mStarC (mVar 5) (mCons (mTup (mCons (mVar 3) (mCons (mVar 6) mNil))) mNil))) [5, 6] [6]) (mName 2))))
    (fRet (mVar 2))))
def m_choices_beside : List Val → M Val := mBody false ["count", "resting", "found", "prime", "rows", "choice", "row"] b_choices_beside
def b_choices_of : B := (fSeq (fDrop (mFnX 2 m_need_free (mCons (mC (.str "count")) (mCons (mVar 0) mNil))))
    (fRet (mCall gTuple (mCons (mCall gSortT (mCons (mLc2 (mSeq (mFnX 1 m_rests_of (mCons (mVar 0) mNil))) (mName 1) mYes (mSeq (mFnX 2 m_choices_beside (mCons (mVar 0) (mCons (mVar 1) mNil)))) (mName 2) mYes (mVar 2) [1, 2] [2]) mNil)) mNil))))
def m_choices_of : List Val → M Val := mBody false ["count", "resting", "choice"] b_choices_of
def b_share_of : B := (fSeq (fAsg (mOp gFdiv (mVar 1) (mVar 0)) (mName 2))
    (fRet (mOp gMulG (mVar 2) (mFnX 3 m_raised_modulo (mCons (mVar 2) (mCons (mOp gSub (mVar 0) (mC (.int 2))) (mCons (mVar 0) mNil)))))))
def m_share_of : List Val → M Val := mBody false ["prime", "whole", "rest"] b_share_of
def b_turned_at : B := (fSeq (fAsg (mLc (mSeq (mVar 0)) (mTTup 2 (mTCons (mName 4) (mTCons (mName 5) mTNil))) (mTest (mOp gNeB (mOp gIx (mVar 5) (mVar 1)) (mC (.int 0)))) (mFnX 3 m_raised_modulo (mCons (mFnX 2 m_root_of (mCons (mVar 4) (mCons (mVar 2) mNil))) (mCons (mOp gIx (mVar 5) (mVar 1)) (mCons (mVar 2) mNil)))) [4, 5]) (mName 3))
    (fRet (mOp gMod (mFnX 1 m_multiplied (mCons (mVar 3) mNil)) (mVar 2))))
def m_turned_at : List Val → M Val := mBody false ["choice", "at", "other", "factors", "prime", "row"] b_turned_at
def b_group_of : B := (fSeq (fAsg (mFnX 2 m_at_rest (mCons (mVar 0) (mCons (mVar 1) mNil))) (mName 2))
    (fSeq (fAsg (mFnX 1 m_multiplied (mCons (mVar 2) mNil)) (mName 3))
    (fSeq (fAsg (mFnX 1 m_multiplied (mCons (mLc (mSeq (mVar 1)) (mTTup 2 (mTCons (mName 5) (mTCons (mName 6) mTNil))) mYes (mVar 5) [5, 6]) mNil)) (mName 4))
    (fSeq (fAsg (mCall gSum (mCons (mLc (mEnum (mCons (mVar 2) mNil)) (mTTup 2 (mTCons (mName 8) (mTCons (mName 9) mTNil))) mYes (mOp gMulG (mFnX 3 m_turned_at (mCons (mVar 1) (mCons (mVar 8) (mCons (mVar 9) mNil)))) (mFnX 2 m_share_of (mCons (mVar 9) (mCons (mVar 3) mNil)))) [8, 9]) mNil)) (mName 7))
    (fRet (mTup (mCons (mTup (mCons (mC (.str "act")) (mCons (mVar 3) (mCons (mVar 4) (mCons (mOp gMod (mVar 7) (mVar 3)) mNil))))) mNil)))))))
def m_group_of : List Val → M Val := mBody false ["count", "choice", "resting", "below", "many", "prime", "row", "factor", "at", "other"] b_group_of
def b__law_feed : B := (fRet (mDisp (mPCons (mC (.str "cells")) (mLc (mSeq (mSl (mVar 0) mNoPart (mPart (mC (.int 63))))) (mName 1) mYes (mCall gInt (mCons (mVar 1) mNil)) [1]) (mPCons (mC (.str "spot")) (mC (.int 0)) (mPCons (mC (.str "rest")) (mC (.int 0)) (mPCons (mC (.str "turn")) (mC (.int 0)) mPNil))))))
def m__law_feed : List Val → M Val := mBody true ["_law_script", "_law_cell"] b__law_feed
def b__law_draw : B := (fSeq (fDPut (mVar 0) (mC (.str "turn")) (mOp gAdd (mDGet (mVar 0) (mC (.str "turn"))) (mC (.int 1))))
    (fSeq (fIf (mTest (mOp gGt (mDGet (mVar 0) (mC (.str "rest"))) (mC (.int 0)))) (fSeq (fAsg (mOp gMod (mCall gInt (mCons (mDGet (mVar 0) (mC (.str "rest"))) mNil)) (mVar 1)) (mName 2))
    (fSeq (fDPut (mVar 0) (mC (.str "rest")) (mOp gFdiv (mDGet (mVar 0) (mC (.str "rest"))) (mVar 1)))
    (fRet (mVar 2)))) fNext)
    (fSeq (fPar 3 4 (mCons (mDGet (mVar 0) (mC (.str "spot"))) (mCons (mDGet (mVar 0) (mC (.str "cells"))) mNil)))
    (fSeq (fDPut (mVar 0) (mC (.str "spot")) (mOp gAdd (mVar 3) (mC (.int 1))))
    (fSeq (fAsg (mIf (mTest (mOp gNeB (mVar 4) (mLst mNil))) (mOp gIx (mVar 4) (mOp gMod (mCall gInt (mCons (mVar 3) mNil)) (mCall gLen (mCons (mVar 4) mNil)))) (mC (.int 8301))) (mName 5))
    (fSeq (fIf (mAnd (mTest (mOp gGe (mVar 5) (mOp gPow (mC (.int 10)) (mC (.int 18))))) (mTest (mOp gLt (mVar 3) (mCall gLen (mCons (mVar 4) mNil))))) (fSeq (fDPut (mVar 0) (mC (.str "rest")) (mOp gFdiv (mVar 5) (mVar 1)))
    (fRet (mOp gMod (mCall gInt (mCons (mVar 5) mNil)) (mVar 1)))) fNext)
    (fSeq (fAsg (mOp gMod (mCall gInt (mCons (mOp gAdd (mOp gAdd (mOp gMod (mCall gInt (mCons (mVar 5) mNil)) (mC (.int 1000012275))) (mOp gMulG (mC (.int 100533)) (mDGet (mVar 0) (mC (.str "turn"))))) (mC (.int 629))) mNil)) (mC (.int 2147476991))) (mName 6))
    (fSeq (fAsg (mOp gMod (mCall gInt (mCons (mOp gAdd (mOp gAdd (mOp gMulG (mVar 6) (mVar 6)) (mOp gMulG (mC (.int 5482305)) (mDGet (mVar 0) (mC (.str "turn"))))) (mC (.int 2097))) mNil)) (mC (.int 2147476479))) (mName 6))
    (fRet (mOp gMod (mCall gInt (mCons (mOp gFdiv (mOp gMod (mCall gInt (mCons (mOp gAdd (mOp gMulG (mVar 6) (mVar 6)) (mOp gMulG (mC (.int 1873)) (mVar 6))) mNil)) (mC (.int 2147475649))) (mC (.int 16))) mNil)) (mVar 1)))))))))))
def m__law_draw : List Val → M Val := mBody false ["_law_feed_here", "_law_wide", "_law_digit", "_law_spot", "_law_cells", "_law_cell", "_law_mixed"] b__law_draw
def b__law_any : B := (fRet (mOp gIx (mVar 1) (mFn 2 m__law_draw (mCons (mVar 0) (mCons (mCall gLen (mCons (mVar 1) mNil)) mNil)))))
def m__law_any : List Val → M Val := mBody false ["_law_feed_here", "_law_some"] b__law_any
def b__law_lot : B := (fRet (mCall gTuple (mCons (mLc (mSeq (mVar 0)) (mName 1) mYes (mTup (mCons (mVar 1) (mCons (mC (.int 1)) mNil))) [1]) mNil)))
def m__law_lot : List Val → M Val := mBody false ["_law_primes_here", "_law_p"] b__law_lot
def b__law_primes : B := (fSeq (fAsg (mLst (mCons (mLst (mCons (mC (.int 2)) (mCons (mC (.int 3)) (mCons (mC (.int 5)) (mCons (mC (.int 7)) (mCons (mC (.int 11)) (mCons (mC (.int 31)) mNil))))))) (mCons (mLst (mCons (mC (.int 2)) (mCons (mC (.int 3)) (mCons (mC (.int 7)) (mCons (mC (.int 13)) (mCons (mC (.int 43)) mNil)))))) (mCons (mLst (mCons (mC (.int 3)) (mCons (mC (.int 7)) (mCons (mC (.int 13)) (mCons (mC (.int 19)) (mCons (mC (.int 31)) mNil)))))) (mCons (mLst (mCons (mC (.int 2)) (mCons (mC (.int 5)) (mCons (mC (.int 11)) (mCons (mC (.int 31)) (mCons (mC (.int 41)) mNil)))))) (mCons (mLst (mCons (mC (.int 2)) (mCons (mC (.int 3)) (mCons (mC (.int 5)) (mCons (mC (.int 17)) (mCons (mC (.int 19)) mNil)))))) mNil)))))) (mName 2))
    (fSeq (fPar 3 4 (mCons (mFn 2 m__law_any (mCons (mVar 0) (mCons (mOp gAdd (mVar 2) (mLst (mCons (mLst (mCons (mC (.int 5)) (mCons (mC (.int 11)) (mCons (mC (.int 31)) (mCons (mC (.int 61)) mNil))))) (mCons (mLst (mCons (mC (.int 2)) (mCons (mC (.int 3)) (mCons (mC (.int 7)) (mCons (mC (.int 19)) (mCons (mC (.int 37)) mNil)))))) mNil)))) mNil))) (mCons (mLstO mNil) mNil)))
    (fSeq (fFor (mSeq (mVar 3)) (mName 5) (fIf (mAnd (mTest (mOp gLt (mCall gLen (mCons (mVar 4) mNil)) (mVar 1))) (mTest (mOp gGt (mFn 2 m__law_draw (mCons (mVar 0) (mCons (mC (.int 4)) mNil))) (mC (.int 0))))) (fDrop (mAppend (mVar 4) (mVar 5))) fNext))
    (fRet (mVar 4)))))
def m__law_primes : List Val → M Val := mBody false ["_law_feed_here", "_law_most", "_law_pools", "_law_pool", "_law_found", "_law_p"] b__law_primes
def b__law_rows : B := (fSeq (fAsg (mLst (mCons (mTup mNil) mNil)) (mName 2))
    (fSeq (fFor (mSeq (mVar 1)) (mName 3) (fSeq (fPar 4 5 (mCons (mIf (mTest (mOp gEqB (mOp gMod (mCall gInt (mCons (mOp gSub (mVar 3) (mC (.int 1))) mNil)) (mVar 0)) (mC (.int 0)))) (mVar 0) (mC (.int 1))) (mCons (mLst mNil) mNil)))
    (fSeq (fFor (mSeq (mVar 2)) (mName 6) (fAsg (mOp gAdd (mVar 5) (mLc (mRange1 (mCons (mVar 4) mNil)) (mName 7) mYes (mOp gAdd (mVar 6) (mTup (mCons (mVar 7) mNil))) [7])) (mName 5)))
    (fAsg (mVar 5) (mName 2)))))
    (fRet (mLc (mSeq (mVar 2)) (mName 6) (mTest (mOp gEqB (mSl (mLc (mSeq (mVar 6)) (mName 7) (mTest (mOp gNeB (mVar 7) (mC (.int 0)))) (mVar 7) [7]) mNoPart (mPart (mC (.int 1)))) (mLst (mCons (mC (.int 1)) mNil)))) (mVar 6) [6]))))
def m__law_rows : List Val → M Val := mBody false ["_law_p", "_law_rest", "_law_found", "_law_q", "_law_top", "_law_late", "_law_row", "_law_k"] b__law_rows
def b__law_choices : B := (fSeq (fPar 1 2 (mCons (mLst (mCons (mTup mNil) mNil)) (mCons (mLst mNil) mNil)))
    (fSeq (fFor (mSeq (mVar 0)) (mName 3) (fAsg (mOp gAdd (mVar 1) (mLc (mSeq (mVar 1)) (mName 4) mYes (mOp gAdd (mVar 4) (mTup (mCons (mVar 3) mNil))) [4])) (mName 1)))
    (fSeq (fFor (mSeq (mVar 1)) (mName 5) (fSeq (fPar 6 7 (mCons (mLc (mSeq (mVar 0)) (mName 8) (mTest (mOp (gInX true) (mVar 8) (mVar 5))) (mVar 8) [8]) (mCons (mLst (mCons (mTup mNil) mNil)) mNil)))
    (fSeq (fFor (mSeq (mVar 5)) (mName 3) (fSeq (fPar 9 10 (mCons (mLst mNil) (mCons (mFnP 2 m__law_rows (mCons (mVar 3) (mCons (mVar 6) mNil))) mNil)))
    (fSeq (fFor (mSeq (mVar 7)) (mName 4) (fAsg (mOp gAdd (mVar 9) (mLc (mSeq (mVar 10)) (mName 11) mYes (mOp gAdd (mVar 4) (mTup (mCons (mTup (mCons (mVar 3) (mCons (mVar 11) mNil))) mNil))) [11])) (mName 9)))
    (fAsg (mVar 9) (mName 7)))))
    (fAsg (mOp gAdd (mVar 2) (mVar 7)) (mName 2)))))
    (fRet (mCall gSortT (mCons (mVar 2) mNil))))))
def m__law_choices : List Val → M Val := mBody false ["_law_primes_here", "_law_lots", "_law_found", "_law_p", "_law_one", "_law_acting", "_law_rest", "_law_some", "_law_q", "_law_late", "_law_rows_here", "_law_row"] b__law_choices
def b__law_how_many : B := (fSeq (fPar 1 2 (mCons (mLst (mCons (mLst mNil) mNil)) (mCons (mC (.int 0)) mNil)))
    (fSeq (fFor (mSeq (mVar 0)) (mName 3) (fAsg (mOp gAdd (mVar 1) (mLc (mSeq (mVar 1)) (mName 4) mYes (mOp gAdd (mVar 4) (mLst (mCons (mVar 3) mNil))) [4])) (mName 1)))
    (fSeq (fFor (mSeq (mVar 1)) (mName 5) (fSeq (fAsg (mC (.int 1)) (mName 6))
    (fSeq (fFor (mSeq (mVar 5)) (mName 3) (fSeq (fAsg (mC (.int 1)) (mName 7))
    (fSeq (fFor (mSeq (mVar 0)) (mName 8) (fIf (mAnd (mTest (mOp (gInX true) (mVar 8) (mVar 5))) (mTest (mOp gEqB (mOp gMod (mCall gInt (mCons (mOp gSub (mVar 8) (mC (.int 1))) mNil)) (mVar 3)) (mC (.int 0))))) (fAsg (mOp gMulG (mVar 7) (mVar 3)) (mName 7)) fNext))
    (fAsg (mOp gMulG (mVar 6) (mOp gFdiv (mOp gSub (mVar 7) (mC (.int 1))) (mOp gSub (mVar 3) (mC (.int 1))))) (mName 6)))))
    (fAsg (mOp gAdd (mVar 2) (mVar 6)) (mName 2)))))
    (fRet (mVar 2)))))
def m__law_how_many : List Val → M Val := mBody false ["_law_primes_here", "_law_lots", "_law_total", "_law_p", "_law_one", "_law_acting", "_law_ways", "_law_great", "_law_q"] b__law_how_many
def b__law_are_choices_right : B := (fSeq (fPar 1 2 (mCons (mFnP 1 m__law_lot (mCons (mVar 0) mNil)) (mCons (mFnP 1 m__law_how_many (mCons (mVar 0) mNil)) mNil)))
    (fSeq (fIf (mOr (mTest (mOp gNeB (mFnX 1 m_how_many_groups (mCons (mVar 1) mNil)) (mVar 2))) (mTest (mUn (gIsi dB) (mFnX 1 m_how_many_groups (mCons (mVar 1) mNil))))) (fRet (mC (.bool false))) fNext)
    (fSeq (fIf (mTest (mOp gGt (mVar 2) (mC (.int 120)))) (fRet (mC (.bool true))) fNext)
    (fSeq (fAsg (mFnP 1 m__law_choices (mCons (mVar 0) mNil)) (mName 3))
    (fSeq (fIf (mOr (mTest (mOp gNeB (mCall gLen (mCons (mVar 3) mNil)) (mVar 2))) (mTest (mRepNe (mFnX 1 m_choices_of (mCons (mVar 1) mNil)) (mCall gTuple (mCons (mVar 3) mNil))))) (fRet (mC (.bool false))) fNext)
    (fSeq (fAsg (mLstO mNil) (mName 4))
    (fSeq (fFor (mSeq (mSl (mVar 3) mNoPart (mPart (mC (.int 24))))) (mName 5) (fSeq (fIf (mTest (mRepNe (mFnX 2 m_lets_choice (mCons (mVar 1) (mCons (mVar 5) mNil))) (mCall gLen (mCons (mVar 5) mNil)))) (fRet (mC (.bool false))) fNext)
    (fDrop (mAppend (mVar 4) (mCall gRepr (mCons (mFnX 2 m_group_of (mCons (mVar 1) (mCons (mVar 5) mNil))) mNil))))))
    (fRet (mOp gEqB (mUn gLenSet (mVar 4)) (mCall gLen (mCons (mVar 4) mNil)))))))))))
def m__law_are_choices_right : List Val → M Val := mBody false ["_law_primes_here", "_law_lot_here", "_law_most", "_law_due", "_law_groups", "_law_what"] b__law_are_choices_right
def b_law : B := (fSeq (fAsg (mFn 1 m__law_feed (mCons (mVar 0) mNil)) (mName 1))
    (fSeq (fFor (mRange1 (mCons (mC (.int 4)) mNil)) (mName 2) (fTrim [2] (fIf (mNot (mTest (mFnP 1 m__law_are_choices_right (mCons (mFn 2 m__law_primes (mCons (mVar 1) (mCons (mOp gAdd (mC (.int 2)) (mFn 2 m__law_draw (mCons (mVar 1) (mCons (mC (.int 4)) mNil)))) mNil))) mNil)))) (fRet (mC (.bool false))) fNext)))
    (fRet (mFnP 1 m__law_are_choices_right (mCons (mLst (mCons (mC (.int 11)) (mCons (mC (.int 23)) (mCons (mOp gIx (mLst (mCons (mC (.int 67)) (mCons (mC (.int 89)) (mCons (mC (.int 199)) mNil)))) (mFn 2 m__law_draw (mCons (mVar 1) (mCons (mC (.int 3)) mNil)))) mNil)))) mNil)))))
def m_law : List Val → M Val := mBody false ["_law_script", "_law_feed_here", "_law_lap"] b_law
structure Txt [Ad] (w : World) (K : PySem.W.Frag) (mg : Str → Option Value) (base : Heap) : Prop where
  b_all : mg "all" = none
  b_bool : mg "bool" = none
  b_enumerate : mg "enumerate" = none
  b_int : mg "int" = none
  b_isinstance : mg "isinstance" = none
  b_len : mg "len" = none
  b_min : mg "min" = none
  b_range : mg "range" = none
  b_repr : mg "repr" = none
  b_set : mg "set" = none
  b_sorted : mg "sorted" = none
  b_sum : mg "sum" = none
  b_tuple : mg "tuple" = none
  g_MOST_POWER : Con K mg "MOST_POWER" c_MOST_POWER
  g_PRIME_END : Con K mg "PRIME_END" c_PRIME_END
  kp : KPlain K
  i_is_integer : Is K mg "is_integer" s_is_integer
  i_is_number : Is K mg "is_number" s_is_number
  i_is_below : Is K mg "is_below" s_is_below
  i_is_positive : Is K mg "is_positive" s_is_positive
  i_is_power : Is K mg "is_power" s_is_power
  i_is_prime : Is K mg "is_prime" s_is_prime
  i_is_pair : Is K mg "is_pair" s_is_pair
  i_pair_fault : Is K mg "pair_fault" s_pair_fault
  i_count_fault : Is K mg "count_fault" s_count_fault
  i_is_count : Is K mg "is_count" s_is_count
  i_is_free : Is K mg "is_free" s_is_free
  i_choice_fault : Is K mg "choice_fault" s_choice_fault
  i_is_acting : Is K mg "is_acting" s_is_acting
  i_row_fault : Is K mg "row_fault" s_row_fault
  i_can_act : Is K mg "can_act" s_can_act
  i_does_reach : Is K mg "does_reach" s_does_reach
  i_lets_choice : Is K mg "lets_choice" s_lets_choice
  i_need_free : Is K mg "need_free" s_need_free
  i_need_choice : Is K mg "need_choice" s_need_choice
  i_raised : Is K mg "raised" s_raised
  i_raised_modulo : Is K mg "raised_modulo" s_raised_modulo
  i_need_count : Is K mg "need_count" s_need_count
  i_need_prime : Is K mg "need_prime" s_need_prime
  i_primes_of : Is K mg "primes_of" s_primes_of
  i_root_of : Is K mg "root_of" s_root_of
  i_at_rest : Is K mg "at_rest" s_at_rest
  i_how_many_groups : Is K mg "how_many_groups" s_how_many_groups
  i_choices_of : Is K mg "choices_of" s_choices_of
  i_group_of : Is K mg "group_of" s_group_of
  i_roots_of : Is K mg "roots_of" s_roots_of
  i_multiplied : Is K mg "multiplied" s_multiplied
  i_share_of : Is K mg "share_of" s_share_of
  i_rests_of : Is K mg "rests_of" s_rests_of
  i_primes_beside : Is K mg "primes_beside" s_primes_beside
  i_how_many_rows : Is K mg "how_many_rows" s_how_many_rows
  i_choices_beside : Is K mg "choices_beside" s_choices_beside
  i_rows_beside : Is K mg "rows_beside" s_rows_beside
  i_ends_beside : Is K mg "ends_beside" s_ends_beside
  i_turned_at : Is K mg "turned_at" s_turned_at
  i__law_feed : Is K mg "_law_feed" s__law_feed
  i__law_draw : Is K mg "_law_draw" s__law_draw
  i__law_any : Is K mg "_law_any" s__law_any
  i__law_lot : Is K mg "_law_lot" s__law_lot
  i__law_primes : Is K mg "_law_primes" s__law_primes
  i__law_rows : Is K mg "_law_rows" s__law_rows
  i__law_choices : Is K mg "_law_choices" s__law_choices
  i__law_how_many : Is K mg "_law_how_many" s__law_how_many
  i__law_are_choices_right : Is K mg "_law_are_choices_right" s__law_are_choices_right
  i_law : Is K mg "law" s_law
  e_InvalidPaper : Err K mg "InvalidPaper" sE_InvalidPaper ["word", "at"] Ad.C_InvalidPaper
  e_NotUsable : Err K mg "NotUsable" sE_NotUsable ["word", "at"] Ad.C_NotUsable
  m_InvalidPaper : mg "InvalidPaper" = some (.ref Ad.C_InvalidPaper)
  m_NotUsable : mg "NotUsable" = some (.ref Ad.C_NotUsable)
end Z

set_option maxRecDepth 100000
set_option maxHeartbeats 8000000
namespace Z
open PySem L2 G D
section
variable [Ad] {P : Program} {w : World} {K : PySem.W.Frag} {mg : Str → Option Value} {base : Heap}
theorem scE_InvalidPaper : FnScope ["self", "word", "at"] ["self", "word", "at"] (defScope sE_InvalidPaper) := ⟨rfl, rfl, rfl, by decide +kernel, rfl, by decide +kernel, by decide +kernel⟩
theorem errI_InvalidPaper (T : Txt w K mg base) : ErrI P w K mg base "InvalidPaper" "word" "at" Ad.C_InvalidPaper := by
  have e := T.e_InvalidPaper
  obtain ⟨fI, fd, h1, h2, F⟩ := e.init
  refine ⟨e.mgC, e.oex, fI, fd, h1, h2, ?_, F.binds fun _ _ _ _ _ _ us hl => match us, hl with | [_, _, _], _ => rfl⟩
  refine F.ok scE_InvalidPaper spInit2_len (fun cdv A outer s H vs Q E hr h => ?_)
  obtain ⟨a, x, y, rfl, ha, k⟩ := h
  refine ⟨_, pss_cons (ps_ost (pv 0) (pv 1)) (pss_one (ps_ost (pv 0) (pv 2))), ?_⟩
  exact spInit2_read (X := (cxOf CX0 P w K mg base ["self", "word", "at"] "InvalidPaper.__init__" (defScope sE_InvalidPaper) fI cdv A outer s H E).nox) e.oex (e.noF _ (by simp)) (e.noF _ (by simp)) rfl rfl rfl ha fun d hd ne => k d hd ne
theorem scE_NotUsable : FnScope ["self", "word", "at"] ["self", "word", "at"] (defScope sE_NotUsable) := ⟨rfl, rfl, rfl, by decide +kernel, rfl, by decide +kernel, by decide +kernel⟩
theorem errI_NotUsable (T : Txt w K mg base) : ErrI P w K mg base "NotUsable" "word" "at" Ad.C_NotUsable := by
  have e := T.e_NotUsable
  obtain ⟨fI, fd, h1, h2, F⟩ := e.init
  refine ⟨e.mgC, e.oex, fI, fd, h1, h2, ?_, F.binds fun _ _ _ _ _ _ us hl => match us, hl with | [_, _, _], _ => rfl⟩
  refine F.ok scE_NotUsable spInit2_len (fun cdv A outer s H vs Q E hr h => ?_)
  obtain ⟨a, x, y, rfl, ha, k⟩ := h
  refine ⟨_, pss_cons (ps_ost (pv 0) (pv 1)) (pss_one (ps_ost (pv 0) (pv 2))), ?_⟩
  exact spInit2_read (X := (cxOf CX0 P w K mg base ["self", "word", "at"] "NotUsable.__init__" (defScope sE_NotUsable) fI cdv A outer s H E).nox) e.oex (e.noF _ (by simp)) (e.noF _ (by simp)) rfl rfl rfl ha fun d hd ne => k d hd ne
abbrev nm_is_integer : List Str := ["thing"]
theorem sc_is_integer : FnScope nm_is_integer ["thing"] (defScope s_is_integer) := ⟨rfl, rfl, rfl, by decide +kernel, rfl, by decide +kernel, by decide +kernel⟩
theorem ok_is_integer (T : Txt w K mg base) : FnX P w K mg base 1 "is_integer" s_is_integer ["thing"] m_is_integer := by
  refine fnx_of (b := b_is_integer) T.i_is_integer sc_is_integer (fun _ _ _ _ _ _ us hl => match us, hl with | [_], _ => rfl) (fun f cdv A outer s H E hr => ?_)
  have hu := hu_of hr
  have hu64 : (A.deeper (PyProof.Rows.envOfC "is_integer" (defScope s_is_integer) s.heap.objs.size f cdv)).units + 64 < cLine := by have := hr.un; omega
  have hu80 : (A.deeper (PyProof.Rows.envOfC "is_integer" (defScope s_is_integer) s.heap.objs.size f cdv)).units + 80 < cLine := by have := hr.un; omega
  exact ⟨_, (dss_one (ds_ret (de_and (wE (fun h => de_isi (pe_isi isi_int h.pe (by rfl) T.b_isinstance (by rfl) T.b_int rfl) h) (de_var (pv 0))) (de_one (de_not (wE (fun h => de_isi (pe_isi isi_bool h.pe (by rfl) T.b_isinstance (by rfl) T.b_bool rfl) h) (de_var (pv 0))))))))⟩
abbrev nm_is_number : List Str := ["thing"]
theorem sc_is_number : FnScope nm_is_number ["thing"] (defScope s_is_number) := ⟨rfl, rfl, rfl, by decide +kernel, rfl, by decide +kernel, by decide +kernel⟩
theorem ok_is_number (T : Txt w K mg base) : FnX P w K mg base 2 "is_number" s_is_number ["thing"] m_is_number := by
  refine fnx_of (b := b_is_number) T.i_is_number sc_is_number (fun _ _ _ _ _ _ us hl => match us, hl with | [_], _ => rfl) (fun f cdv A outer s H E hr => ?_)
  have hu := hu_of hr
  have hu64 : (A.deeper (PyProof.Rows.envOfC "is_number" (defScope s_is_number) s.heap.objs.size f cdv)).units + 64 < cLine := by have := hr.un; omega
  have hu80 : (A.deeper (PyProof.Rows.envOfC "is_number" (defScope s_is_number) s.heap.objs.size f cdv)).units + 80 < cLine := by have := hr.un; omega
  exact ⟨_, (dss_one (ds_ret (de_and (de_fnX (ok_is_integer T) (passes_call (takes_of rfl rfl rfl rfl) fun _ _ _ _ h => h) hr (by decide) (by rfl) (da_cons (de_var (pv 0)) da_nil)) (de_one (de_cmp op_ge rd_ge (de_var (pv 0)) de_int (nomark _))))))⟩
abbrev nm_is_below : List Str := ["thing", "bound"]
theorem sc_is_below : FnScope nm_is_below ["thing", "bound"] (defScope s_is_below) := ⟨rfl, rfl, rfl, by decide +kernel, rfl, by decide +kernel, by decide +kernel⟩
theorem ok_is_below (T : Txt w K mg base) : FnX P w K mg base 3 "is_below" s_is_below ["thing", "bound"] m_is_below := by
  refine fnx_of (b := b_is_below) T.i_is_below sc_is_below (fun _ _ _ _ _ _ us hl => match us, hl with | [_, _], _ => rfl) (fun f cdv A outer s H E hr => ?_)
  have hu := hu_of hr
  have hu64 : (A.deeper (PyProof.Rows.envOfC "is_below" (defScope s_is_below) s.heap.objs.size f cdv)).units + 64 < cLine := by have := hr.un; omega
  have hu80 : (A.deeper (PyProof.Rows.envOfC "is_below" (defScope s_is_below) s.heap.objs.size f cdv)).units + 80 < cLine := by have := hr.un; omega
  exact ⟨_, (dss_one (ds_ret (de_and (de_fnX (ok_is_number T) (passes_call (takes_of rfl rfl rfl rfl) fun _ _ _ _ h => h) hr (by decide) (by rfl) (da_cons (de_var (pv 0)) da_nil)) (de_one (de_cmp op_lt rd_lt (de_var (pv 0)) (de_var (pv 1)) (nomark _))))))⟩
abbrev nm_is_positive : List Str := ["thing"]
theorem sc_is_positive : FnScope nm_is_positive ["thing"] (defScope s_is_positive) := ⟨rfl, rfl, rfl, by decide +kernel, rfl, by decide +kernel, by decide +kernel⟩
theorem ok_is_positive (T : Txt w K mg base) : FnX P w K mg base 2 "is_positive" s_is_positive ["thing"] m_is_positive := by
  refine fnx_of (b := b_is_positive) T.i_is_positive sc_is_positive (fun _ _ _ _ _ _ us hl => match us, hl with | [_], _ => rfl) (fun f cdv A outer s H E hr => ?_)
  have hu := hu_of hr
  have hu64 : (A.deeper (PyProof.Rows.envOfC "is_positive" (defScope s_is_positive) s.heap.objs.size f cdv)).units + 64 < cLine := by have := hr.un; omega
  have hu80 : (A.deeper (PyProof.Rows.envOfC "is_positive" (defScope s_is_positive) s.heap.objs.size f cdv)).units + 80 < cLine := by have := hr.un; omega
  exact ⟨_, (dss_one (ds_ret (de_and (de_fnX (ok_is_integer T) (passes_call (takes_of rfl rfl rfl rfl) fun _ _ _ _ h => h) hr (by decide) (by rfl) (da_cons (de_var (pv 0)) da_nil)) (de_one (de_cmp op_ge rd_ge (de_var (pv 0)) de_int (nomark _))))))⟩
abbrev nm_is_power : List Str := ["thing"]
theorem sc_is_power : FnScope nm_is_power ["thing"] (defScope s_is_power) := ⟨rfl, rfl, rfl, by decide +kernel, rfl, by decide +kernel, by decide +kernel⟩
theorem ok_is_power (T : Txt w K mg base) : FnX P w K mg base 3 "is_power" s_is_power ["thing"] m_is_power := by
  refine fnx_of (b := b_is_power) T.i_is_power sc_is_power (fun _ _ _ _ _ _ us hl => match us, hl with | [_], _ => rfl) (fun f cdv A outer s H E hr => ?_)
  have hu := hu_of hr
  have hu64 : (A.deeper (PyProof.Rows.envOfC "is_power" (defScope s_is_power) s.heap.objs.size f cdv)).units + 64 < cLine := by have := hr.un; omega
  have hu80 : (A.deeper (PyProof.Rows.envOfC "is_power" (defScope s_is_power) s.heap.objs.size f cdv)).units + 80 < cLine := by have := hr.un; omega
  exact ⟨_, (dss_one (ds_ret (de_and (de_fnX (ok_is_positive T) (passes_call (takes_of rfl rfl rfl rfl) fun _ _ _ _ h => h) hr (by decide) (by rfl) (da_cons (de_var (pv 0)) da_nil)) (de_one (de_cmp op_le rd_le (de_var (pv 0)) (de_gl T.g_MOST_POWER (by rfl)) (nomark _))))))⟩
abbrev nm_is_prime : List Str := ["thing", "factor"]
theorem sc_is_prime : FnScope nm_is_prime ["thing"] (defScope s_is_prime) := ⟨rfl, rfl, rfl, by decide +kernel, rfl, by decide +kernel, by decide +kernel⟩
theorem ok_is_prime (T : Txt w K mg base) : FnX P w K mg base 4 "is_prime" s_is_prime ["thing"] m_is_prime := by
  refine fnx_of (b := b_is_prime) T.i_is_prime sc_is_prime (fun _ _ _ _ _ _ us hl => match us, hl with | [_], _ => rfl) (fun f cdv A outer s H E hr => ?_)
  have hu := hu_of hr
  have hu64 : (A.deeper (PyProof.Rows.envOfC "is_prime" (defScope s_is_prime) s.heap.objs.size f cdv)).units + 64 < cLine := by have := hr.un; omega
  have hu80 : (A.deeper (PyProof.Rows.envOfC "is_prime" (defScope s_is_prime) s.heap.objs.size f cdv)).units + 80 < cLine := by have := hr.un; omega
  exact ⟨_, (dss_cons (ds_if (dw_or (dt_not (dt_val (de_fnX (ok_is_below T) (passes_call (takes_of rfl rfl rfl rfl) fun _ _ _ _ h => h) hr (by decide) (by rfl) (da_cons (de_var (pv 0)) (da_cons (de_gl T.g_PRIME_END (by rfl)) da_nil))))) (dw_or1 (dt_cmp op_lt rd_lt (de_var (pv 0)) de_int (nomark _)))).dt (dss_one (ds_ret de_bl)) dss_nil)
    (dss_cons (ds_set (i := 1) (fun h => ps_set (i := 1) sc_is_prime.nd rfl (by first | exact Or.inl rfl | exact Or.inr rfl) h) de_int)
    (dss_cons (ds_while (passes_of rfl) (dt_cmp op_le rd_le (de_op op_mulG rd_mulG (de_var (pv 1)) (de_var (pv 1))) (de_var (pv 0)) (nomark _)) (dss_cons (ds_if (dt_cmp (op_eqB hu64) rd_eqB (de_op op_mod rd_mod (de_var (pv 0)) (de_var (pv 1))) de_int (nomark _)) (dss_one (ds_ret de_bl)) dss_nil)
    (dss_one (ds_set (i := 1) (fun h => ps_set (i := 1) sc_is_prime.nd rfl (by first | exact Or.inl rfl | exact Or.inr rfl) h) (de_op op_addA rd_add (de_var (pv 1)) de_int)))))
    (dss_one (ds_ret de_bl)))))⟩
abbrev nm_is_pair : List Str := ["thing"]
theorem sc_is_pair : FnScope nm_is_pair ["thing"] (defScope s_is_pair) := ⟨rfl, rfl, rfl, by decide +kernel, rfl, by decide +kernel, by decide +kernel⟩
theorem ok_is_pair (T : Txt w K mg base) : FnX P w K mg base 1 "is_pair" s_is_pair ["thing"] m_is_pair := by
  refine fnx_of (b := b_is_pair) T.i_is_pair sc_is_pair (fun _ _ _ _ _ _ us hl => match us, hl with | [_], _ => rfl) (fun f cdv A outer s H E hr => ?_)
  have hu := hu_of hr
  have hu64 : (A.deeper (PyProof.Rows.envOfC "is_pair" (defScope s_is_pair) s.heap.objs.size f cdv)).units + 64 < cLine := by have := hr.un; omega
  have hu80 : (A.deeper (PyProof.Rows.envOfC "is_pair" (defScope s_is_pair) s.heap.objs.size f cdv)).units + 80 < cLine := by have := hr.un; omega
  exact ⟨_, (dss_one (ds_ret (de_and (wE (fun h => de_isi (pe_isi isi_tuple h.pe (by rfl) T.b_isinstance (by rfl) T.b_tuple rfl) h) (de_var (pv 0))) (de_one (de_cmp (op_eqB hu64) rd_eqB (wA (fun h => de_call (pe_callB cr_len (by rfl) T.b_len (by decide +kernel) h.pa) rd_len h) (da_cons (de_var (pv 0)) da_nil)) de_int (nomark _))))))⟩
abbrev nm_pair_fault : List Str := ["pair", "before", "prime", "power"]
theorem sc_pair_fault : FnScope nm_pair_fault ["pair", "before"] (defScope s_pair_fault) := ⟨rfl, rfl, rfl, by decide +kernel, rfl, by decide +kernel, by decide +kernel⟩
theorem ok_pair_fault (T : Txt w K mg base) : FnX P w K mg base 5 "pair_fault" s_pair_fault ["pair", "before"] m_pair_fault := by
  refine fnx_of (b := b_pair_fault) T.i_pair_fault sc_pair_fault (fun _ _ _ _ _ _ us hl => match us, hl with | [_, _], _ => rfl) (fun f cdv A outer s H E hr => ?_)
  have hu := hu_of hr
  have hu64 : (A.deeper (PyProof.Rows.envOfC "pair_fault" (defScope s_pair_fault) s.heap.objs.size f cdv)).units + 64 < cLine := by have := hr.un; omega
  have hu80 : (A.deeper (PyProof.Rows.envOfC "pair_fault" (defScope s_pair_fault) s.heap.objs.size f cdv)).units + 80 < cLine := by have := hr.un; omega
  exact ⟨_, (dss_cons (ds_if (dt_not (dt_val (de_fnX (ok_is_pair T) (passes_call (takes_of rfl rfl rfl rfl) fun _ _ _ _ h => h) hr (by decide) (by rfl) (da_cons (de_var (pv 0)) da_nil)))) (dss_one (ds_ret de_str)) dss_nil)
    (dss_cons (ds_asg (fun h h2 => ps_asg h h2) (de_var (pv 0)) (dg_tup (fun h => pg_tup rfl h) (dgs_cons (dg_name (pg_name (i := 2) sc_pair_fault.nd rfl (by first | exact Or.inl rfl | exact Or.inr rfl))) (dgs_cons (dg_name (pg_name (i := 3) sc_pair_fault.nd rfl (by first | exact Or.inl rfl | exact Or.inr rfl))) dgs_nil))))
    (dss_cons (ds_if (dt_not (dt_val (de_fnX (ok_is_prime T) (passes_call (takes_of rfl rfl rfl rfl) fun _ _ _ _ h => h) hr (by decide) (by rfl) (da_cons (de_var (pv 2)) da_nil)))) (dss_one (ds_ret de_str)) dss_nil)
    (dss_cons (ds_if (dt_cmp op_le rd_le (de_var (pv 2)) (de_var (pv 1)) (nomark _)) (dss_one (ds_ret de_str)) dss_nil)
    (dss_cons (ds_if (dt_not (dt_val (de_fnX (ok_is_power T) (passes_call (takes_of rfl rfl rfl rfl) fun _ _ _ _ h => h) hr (by decide) (by rfl) (da_cons (de_var (pv 3)) da_nil)))) (dss_one (ds_ret de_str)) dss_nil)
    (dss_one (ds_ret de_non)))))))⟩
abbrev nm_count_fault : List Str := ["thing", "before", "at", "pair", "word"]
theorem sc_count_fault : FnScope nm_count_fault ["thing"] (defScope s_count_fault) := ⟨rfl, rfl, rfl, by decide +kernel, rfl, by decide +kernel, by decide +kernel⟩
theorem ok_count_fault (T : Txt w K mg base) : FnX P w K mg base 6 "count_fault" s_count_fault ["thing"] m_count_fault := by
  refine fnx_of (b := b_count_fault) T.i_count_fault sc_count_fault (fun _ _ _ _ _ _ us hl => match us, hl with | [_], _ => rfl) (fun f cdv A outer s H E hr => ?_)
  have hu := hu_of hr
  have hu64 : (A.deeper (PyProof.Rows.envOfC "count_fault" (defScope s_count_fault) s.heap.objs.size f cdv)).units + 64 < cLine := by have := hr.un; omega
  have hu80 : (A.deeper (PyProof.Rows.envOfC "count_fault" (defScope s_count_fault) s.heap.objs.size f cdv)).units + 80 < cLine := by have := hr.un; omega
  exact ⟨_, (dss_cons (ds_if (dt_not (dt_val (wE (fun h => de_isi (pe_isi isi_tuple h.pe (by rfl) T.b_isinstance (by rfl) T.b_tuple rfl) h) (de_var (pv 0))))) (dss_one (ds_ret (de_tup (da_cons de_str (da_cons (de_un un_neg rd_neg de_int) da_nil))))) dss_nil)
    (dss_cons (ds_set (i := 1) (fun h => ps_set (i := 1) sc_count_fault.nd rfl (by first | exact Or.inl rfl | exact Or.inr rfl) h) de_int)
    (dss_cons (ds_for (passes_of rfl) rfl (wA (fun h => di_enumF h (F.pi_enumF (by rfl) T.b_enumerate h.pa)) (da_cons (de_var (pv 0)) da_nil)) (dg_tup (fun h => pg_tup rfl h) (dgs_cons (dg_name (pg_name (i := 2) sc_count_fault.nd rfl (by first | exact Or.inl rfl | exact Or.inr rfl))) (dgs_cons (dg_name (pg_name (i := 3) sc_count_fault.nd rfl (by first | exact Or.inl rfl | exact Or.inr rfl))) dgs_nil)))
    (dss_cons (ds_set (i := 4) (fun h => ps_set (i := 4) sc_count_fault.nd rfl (by first | exact Or.inl rfl | exact Or.inr rfl) h) (de_fnX (ok_pair_fault T) (passes_call (takes_of rfl rfl rfl rfl) fun _ _ _ _ h => h) hr (by decide) (by rfl) (da_cons (de_var (pv 3)) (da_cons (de_var (pv 1)) da_nil))))
    (dss_cons (ds_if (dt_cmp op_notN rd_notN (de_var (pv 4)) de_non (nomark _)) (dss_one (ds_ret (de_tup (da_cons (de_var (pv 4)) (da_cons (de_var (pv 2)) da_nil))))) dss_nil)
    (dss_one (ds_set (i := 1) (fun h => ps_set (i := 1) sc_count_fault.nd rfl (by first | exact Or.inl rfl | exact Or.inr rfl) h) (de_ix ix_seq rd_ix (de_var (pv 3)) de_int (fun _ _ => rfl)))))))
    (dss_one (ds_ret de_non)))))⟩
abbrev nm_is_count : List Str := ["thing"]
theorem sc_is_count : FnScope nm_is_count ["thing"] (defScope s_is_count) := ⟨rfl, rfl, rfl, by decide +kernel, rfl, by decide +kernel, by decide +kernel⟩
theorem ok_is_count (T : Txt w K mg base) : FnX P w K mg base 7 "is_count" s_is_count ["thing"] m_is_count := by
  refine fnx_of (b := b_is_count) T.i_is_count sc_is_count (fun _ _ _ _ _ _ us hl => match us, hl with | [_], _ => rfl) (fun f cdv A outer s H E hr => ?_)
  have hu := hu_of hr
  have hu64 : (A.deeper (PyProof.Rows.envOfC "is_count" (defScope s_is_count) s.heap.objs.size f cdv)).units + 64 < cLine := by have := hr.un; omega
  have hu80 : (A.deeper (PyProof.Rows.envOfC "is_count" (defScope s_is_count) s.heap.objs.size f cdv)).units + 80 < cLine := by have := hr.un; omega
  exact ⟨_, (dss_one (ds_ret (de_cmp op_isN rd_isN (de_fnX (ok_count_fault T) (passes_call (takes_of rfl rfl rfl rfl) fun _ _ _ _ h => h) hr (by decide) (by rfl) (da_cons (de_var (pv 0)) da_nil)) de_non (nomark _))))⟩
abbrev nm_is_free : List Str := ["thing", "pair"]
theorem sc_is_free : FnScope nm_is_free ["thing"] (defScope s_is_free) := ⟨rfl, rfl, rfl, by decide +kernel, rfl, by decide +kernel, by decide +kernel⟩
theorem ok_is_free (T : Txt w K mg base) : FnX P w K mg base 8 "is_free" s_is_free ["thing"] m_is_free := by
  refine fnx_of (b := b_is_free) T.i_is_free sc_is_free (fun _ _ _ _ _ _ us hl => match us, hl with | [_], _ => rfl) (fun f cdv A outer s H E hr => ?_)
  have hu := hu_of hr
  have hu64 : (A.deeper (PyProof.Rows.envOfC "is_free" (defScope s_is_free) s.heap.objs.size f cdv)).units + 64 < cLine := by have := hr.un; omega
  have hu80 : (A.deeper (PyProof.Rows.envOfC "is_free" (defScope s_is_free) s.heap.objs.size f cdv)).units + 80 < cLine := by have := hr.un; omega
  exact ⟨_, (dss_one (ds_ret (de_and (de_fnX (ok_is_count T) (passes_call (takes_of rfl rfl rfl rfl) fun _ _ _ _ h => h) hr (by decide) (by rfl) (da_cons (de_var (pv 0)) da_nil)) (de_one (wA (fun h => de_call (pe_callB (cr_all rfl) (by rfl) T.b_all (by decide +kernel) h.pa) rd_all h) (da_cons (de_lcD (own := [("pair", 1)]) rfl sc_is_free.nd (di_seq (de_var (pv 0))) (blkOk_by (by kernel_rfl)) (fun _ _ _ _ _ => (dg_name (pg_name (i := 1) sc_is_free.nd rfl (by first | exact Or.inl rfl | exact Or.inr rfl)))) (gin_name (by decide)) (fun _ _ _ _ _ => dpt_nil) (fun _ _ _ _ _ => (de_cmp (op_eqB hu64) rd_eqB (de_ix ix_seq rd_ix (de_var (pv 1)) de_int (fun _ _ => rfl)) de_int (nomark _)))) da_nil))))))⟩
abbrev nm_is_acting : List Str := ["thing", "primes"]
theorem sc_is_acting : FnScope nm_is_acting ["thing", "primes"] (defScope s_is_acting) := ⟨rfl, rfl, rfl, by decide +kernel, rfl, by decide +kernel, by decide +kernel⟩
theorem ok_is_acting (T : Txt w K mg base) : FnX P w K mg base 5 "is_acting" s_is_acting ["thing", "primes"] m_is_acting := by
  refine fnx_of (b := b_is_acting) T.i_is_acting sc_is_acting (fun _ _ _ _ _ _ us hl => match us, hl with | [_, _], _ => rfl) (fun f cdv A outer s H E hr => ?_)
  have hu := hu_of hr
  have hu64 : (A.deeper (PyProof.Rows.envOfC "is_acting" (defScope s_is_acting) s.heap.objs.size f cdv)).units + 64 < cLine := by have := hr.un; omega
  have hu80 : (A.deeper (PyProof.Rows.envOfC "is_acting" (defScope s_is_acting) s.heap.objs.size f cdv)).units + 80 < cLine := by have := hr.un; omega
  exact ⟨_, (dss_one (ds_ret (de_and (de_fnX (ok_is_pair T) (passes_call (takes_of rfl rfl rfl rfl) fun _ _ _ _ h => h) hr (by decide) (by rfl) (da_cons (de_var (pv 0)) da_nil)) (de_and (de_fnX (ok_is_prime T) (passes_call (takes_of rfl rfl rfl rfl) fun _ _ _ _ h => h) hr (by decide) (by rfl) (da_cons (de_ix ix_seq rd_ix (de_var (pv 0)) de_int (fun _ _ => rfl)) da_nil)) (de_and (de_cmp (op_inX hu64) rd_inX (de_ix ix_seq rd_ix (de_var (pv 0)) de_int (fun _ _ => rfl)) (de_var (pv 1)) rfl) (de_one (wE (fun h => de_isi (pe_isi isi_tuple h.pe (by rfl) T.b_isinstance (by rfl) T.b_tuple rfl) h) (de_ix ix_seq rd_ix (de_var (pv 0)) de_int (fun _ _ => rfl)))))))))⟩
abbrev nm_does_reach : List Str := ["prime", "other"]
theorem sc_does_reach : FnScope nm_does_reach ["prime", "other"] (defScope s_does_reach) := ⟨rfl, rfl, rfl, by decide +kernel, rfl, by decide +kernel, by decide +kernel⟩
theorem ok_does_reach (T : Txt w K mg base) : FnX P w K mg base 1 "does_reach" s_does_reach ["prime", "other"] m_does_reach := by
  refine fnx_of (b := b_does_reach) T.i_does_reach sc_does_reach (fun _ _ _ _ _ _ us hl => match us, hl with | [_, _], _ => rfl) (fun f cdv A outer s H E hr => ?_)
  have hu := hu_of hr
  have hu64 : (A.deeper (PyProof.Rows.envOfC "does_reach" (defScope s_does_reach) s.heap.objs.size f cdv)).units + 64 < cLine := by have := hr.un; omega
  have hu80 : (A.deeper (PyProof.Rows.envOfC "does_reach" (defScope s_does_reach) s.heap.objs.size f cdv)).units + 80 < cLine := by have := hr.un; omega
  exact ⟨_, (dss_one (ds_ret (de_cmp (op_eqB hu64) rd_eqB (de_op op_mod rd_mod (de_op op_sub rd_sub (de_var (pv 1)) de_int) (de_var (pv 0))) de_int (nomark _))))⟩
abbrev nm_can_act : List Str := ["thing", "prime", "other"]
theorem sc_can_act : FnScope nm_can_act ["thing", "prime", "other"] (defScope s_can_act) := ⟨rfl, rfl, rfl, by decide +kernel, rfl, by decide +kernel, by decide +kernel⟩
theorem ok_can_act (T : Txt w K mg base) : FnX P w K mg base 4 "can_act" s_can_act ["thing", "prime", "other"] m_can_act := by
  refine fnx_of (b := b_can_act) T.i_can_act sc_can_act (fun _ _ _ _ _ _ us hl => match us, hl with | [_, _, _], _ => rfl) (fun f cdv A outer s H E hr => ?_)
  have hu := hu_of hr
  have hu64 : (A.deeper (PyProof.Rows.envOfC "can_act" (defScope s_can_act) s.heap.objs.size f cdv)).units + 64 < cLine := by have := hr.un; omega
  have hu80 : (A.deeper (PyProof.Rows.envOfC "can_act" (defScope s_can_act) s.heap.objs.size f cdv)).units + 80 < cLine := by have := hr.un; omega
  exact ⟨_, (dss_one (ds_ret (de_and (de_fnX (ok_is_below T) (passes_call (takes_of rfl rfl rfl rfl) fun _ _ _ _ h => h) hr (by decide) (by rfl) (da_cons (de_var (pv 0)) (da_cons (de_var (pv 1)) da_nil))) (de_one (de_or (de_cmp (op_eqB hu64) rd_eqB (de_var (pv 0)) de_int (nomark _)) (de_one (de_fnX (ok_does_reach T) (passes_call (takes_of rfl rfl rfl rfl) fun _ _ _ _ h => h) hr (by decide) (by rfl) (da_cons (de_var (pv 1)) (da_cons (de_var (pv 2)) da_nil)))))))))⟩
abbrev nm_row_fault : List Str := ["pair", "resting", "at", "prime", "row", "place", "number", "acts"]
theorem sc_row_fault : FnScope nm_row_fault ["pair", "resting", "at"] (defScope s_row_fault) := ⟨rfl, rfl, rfl, by decide +kernel, rfl, by decide +kernel, by decide +kernel⟩
theorem ok_row_fault (T : Txt w K mg base) : FnX P w K mg base 5 "row_fault" s_row_fault ["pair", "resting", "at"] m_row_fault := by
  refine fnx_of (b := b_row_fault) T.i_row_fault sc_row_fault (fun _ _ _ _ _ _ us hl => match us, hl with | [_, _, _], _ => rfl) (fun f cdv A outer s H E hr => ?_)
  have hu := hu_of hr
  have hu64 : (A.deeper (PyProof.Rows.envOfC "row_fault" (defScope s_row_fault) s.heap.objs.size f cdv)).units + 64 < cLine := by have := hr.un; omega
  have hu80 : (A.deeper (PyProof.Rows.envOfC "row_fault" (defScope s_row_fault) s.heap.objs.size f cdv)).units + 80 < cLine := by have := hr.un; omega
  exact ⟨_, (dss_cons (ds_asg (fun h h2 => ps_asg h h2) (de_var (pv 0)) (dg_tup (fun h => pg_tup rfl h) (dgs_cons (dg_name (pg_name (i := 3) sc_row_fault.nd rfl (by first | exact Or.inl rfl | exact Or.inr rfl))) (dgs_cons (dg_name (pg_name (i := 4) sc_row_fault.nd rfl (by first | exact Or.inl rfl | exact Or.inr rfl))) dgs_nil))))
    (dss_cons (ds_if (dt_cmp (op_neB hu64) rd_neB (wA (fun h => de_call (pe_callB cr_len (by rfl) T.b_len (by decide +kernel) h.pa) rd_len h) (da_cons (de_var (pv 4)) da_nil)) (wA (fun h => de_call (pe_callB cr_len (by rfl) T.b_len (by decide +kernel) h.pa) rd_len h) (da_cons (de_var (pv 1)) da_nil)) (nomark _)) (dss_one (ds_ret (de_tup (da_cons de_str (da_cons (de_var (pv 2)) da_nil))))) dss_nil)
    (dss_cons (ds_for (passes_of rfl) rfl (wA (fun h => di_enumF h (F.pi_enumF (by rfl) T.b_enumerate h.pa)) (da_cons (de_var (pv 4)) da_nil)) (dg_tup (fun h => pg_tup rfl h) (dgs_cons (dg_name (pg_name (i := 5) sc_row_fault.nd rfl (by first | exact Or.inl rfl | exact Or.inr rfl))) (dgs_cons (dg_name (pg_name (i := 6) sc_row_fault.nd rfl (by first | exact Or.inl rfl | exact Or.inr rfl))) dgs_nil)))
    (dss_one (ds_if (dt_not (dt_val (de_fnX (ok_can_act T) (passes_call (takes_of rfl rfl rfl rfl) fun _ _ _ _ h => h) hr (by decide) (by rfl) (da_cons (de_var (pv 6)) (da_cons (de_var (pv 3)) (da_cons (de_ix ix_seq rd_ix (de_var (pv 1)) (de_var (pv 5)) (fun _ _ => rfl)) da_nil)))))) (dss_one (ds_ret (de_tup (da_cons de_str (da_cons (de_tup (da_cons (de_var (pv 2)) (da_cons (de_var (pv 5)) da_nil))) da_nil))))) dss_nil)))
    (dss_cons (ds_setLc (i := 7) (own := [("number", 6)]) rfl sc_row_fault.nd rfl rfl (sw_true rfl rfl rfl (by decide +kernel)) (di_seq (de_var (pv 4))) (blkOk_by (by kernel_rfl)) (fun _ _ _ _ _ => (dg_name (pg_name (i := 6) sc_row_fault.nd rfl (by first | exact Or.inl rfl | exact Or.inr rfl)))) (gin_name (by decide)) (fun _ _ _ _ _ => (dpt_one (dt_cmp (op_neB hu64) rd_neB (de_var (pv 6)) de_int (nomark _)))) (fun _ _ _ _ _ => (de_var (pv 6))))
    (dss_cons (ds_if (dt_cmp (op_eqB hu64) rd_eqB (wA (fun h => de_call (pe_callB cr_len (by rfl) T.b_len (by decide +kernel) h.pa) rd_len h) (da_cons (de_var (pv 7)) da_nil)) de_int (nomark _)) (dss_one (ds_ret (de_tup (da_cons de_str (da_cons (de_var (pv 2)) da_nil))))) dss_nil)
    (dss_cons (ds_if (dt_cmp (op_neB hu64) rd_neB (de_ix ix_seq rd_ix (de_var (pv 7)) de_int (fun _ _ => rfl)) de_int (nomark _)) (dss_one (ds_ret (de_tup (da_cons de_str (da_cons (de_var (pv 2)) da_nil))))) dss_nil)
    (dss_one (ds_ret de_non))))))))⟩
abbrev nm_choice_fault : List Str := ["count", "thing", "primes", "pair", "before", "at", "acting", "resting", "prime", "fault"]
theorem sc_choice_fault : FnScope nm_choice_fault ["count", "thing"] (defScope s_choice_fault) := ⟨rfl, rfl, rfl, by decide +kernel, rfl, by decide +kernel, by decide +kernel⟩
theorem ok_choice_fault (T : Txt w K mg base) : FnX P w K mg base 6 "choice_fault" s_choice_fault ["count", "thing"] m_choice_fault := by
  refine fnx_of (b := b_choice_fault) T.i_choice_fault sc_choice_fault (fun _ _ _ _ _ _ us hl => match us, hl with | [_, _], _ => rfl) (fun f cdv A outer s H E hr => ?_)
  have hu := hu_of hr
  have hu64 : (A.deeper (PyProof.Rows.envOfC "choice_fault" (defScope s_choice_fault) s.heap.objs.size f cdv)).units + 64 < cLine := by have := hr.un; omega
  have hu80 : (A.deeper (PyProof.Rows.envOfC "choice_fault" (defScope s_choice_fault) s.heap.objs.size f cdv)).units + 80 < cLine := by have := hr.un; omega
  exact ⟨_, (dss_cons (ds_if (dt_not (dt_val (wE (fun h => de_isi (pe_isi isi_tuple h.pe (by rfl) T.b_isinstance (by rfl) T.b_tuple rfl) h) (de_var (pv 1))))) (dss_one (ds_ret (de_tup (da_cons de_str (da_cons (de_un un_neg rd_neg de_int) da_nil))))) dss_nil)
    (dss_cons (ds_setLc (i := 2) (own := [("pair", 3)]) rfl sc_choice_fault.nd rfl rfl (sw_true rfl rfl rfl (by decide +kernel)) (di_seq (de_var (pv 0))) (blkOk_by (by kernel_rfl)) (fun _ _ _ _ _ => (dg_name (pg_name (i := 3) sc_choice_fault.nd rfl (by first | exact Or.inl rfl | exact Or.inr rfl)))) (gin_name (by decide)) (fun _ _ _ _ _ => dpt_nil) (fun _ _ _ _ _ => (de_ix ix_seq rd_ix (de_var (pv 3)) de_int (fun _ _ => rfl))))
    (dss_cons (ds_set (i := 4) (fun h => ps_set (i := 4) sc_choice_fault.nd rfl (by first | exact Or.inl rfl | exact Or.inr rfl) h) de_int)
    (dss_cons (ds_for (passes_of rfl) rfl (wA (fun h => di_enumF h (F.pi_enumF (by rfl) T.b_enumerate h.pa)) (da_cons (de_var (pv 1)) da_nil)) (dg_tup (fun h => pg_tup rfl h) (dgs_cons (dg_name (pg_name (i := 5) sc_choice_fault.nd rfl (by first | exact Or.inl rfl | exact Or.inr rfl))) (dgs_cons (dg_name (pg_name (i := 3) sc_choice_fault.nd rfl (by first | exact Or.inl rfl | exact Or.inr rfl))) dgs_nil)))
    (dss_cons (ds_if (dt_not (dt_val (de_fnX (ok_is_acting T) (passes_call (takes_of rfl rfl rfl rfl) fun _ _ _ _ h => h) hr (by decide) (by rfl) (da_cons (de_var (pv 3)) (da_cons (de_var (pv 2)) da_nil))))) (dss_one (ds_ret (de_tup (da_cons de_str (da_cons (de_var (pv 5)) da_nil))))) dss_nil)
    (dss_cons (ds_if (dt_cmp op_le rd_le (de_ix ix_seq rd_ix (de_var (pv 3)) de_int (fun _ _ => rfl)) (de_var (pv 4)) (nomark _)) (dss_one (ds_ret (de_tup (da_cons de_str (da_cons (de_var (pv 5)) da_nil))))) dss_nil)
    (dss_one (ds_set (i := 4) (fun h => ps_set (i := 4) sc_choice_fault.nd rfl (by first | exact Or.inl rfl | exact Or.inr rfl) h) (de_ix ix_seq rd_ix (de_var (pv 3)) de_int (fun _ _ => rfl)))))))
    (dss_cons (ds_set (i := 6) (fun h => ps_set (i := 6) sc_choice_fault.nd rfl (by first | exact Or.inl rfl | exact Or.inr rfl) h) (de_lcD (own := [("pair", 3)]) rfl sc_choice_fault.nd (di_seq (de_var (pv 1))) (blkOk_by (by kernel_rfl)) (fun _ _ _ _ _ => (dg_name (pg_name (i := 3) sc_choice_fault.nd rfl (by first | exact Or.inl rfl | exact Or.inr rfl)))) (gin_name (by decide)) (fun _ _ _ _ _ => dpt_nil) (fun _ _ _ _ _ => (de_ix ix_seq rd_ix (de_var (pv 3)) de_int (fun _ _ => rfl)))))
    (dss_cons (ds_setLc (i := 7) (own := [("prime", 8)]) rfl sc_choice_fault.nd rfl rfl (sw_true rfl rfl rfl (by decide +kernel)) (di_seq (de_var (pv 2))) (blkOk_by (by kernel_rfl)) (fun _ _ _ _ _ => (dg_name (pg_name (i := 8) sc_choice_fault.nd rfl (by first | exact Or.inl rfl | exact Or.inr rfl)))) (gin_name (by decide)) (fun _ _ _ _ _ => (dpt_one (dt_cmp (op_notInX hu64) rd_inX (de_var (pv 8)) (de_var (pv 6)) rfl))) (fun _ _ _ _ _ => (de_var (pv 8))))
    (dss_cons (ds_for (passes_of rfl) rfl (wA (fun h => di_enumF h (F.pi_enumF (by rfl) T.b_enumerate h.pa)) (da_cons (de_var (pv 1)) da_nil)) (dg_tup (fun h => pg_tup rfl h) (dgs_cons (dg_name (pg_name (i := 5) sc_choice_fault.nd rfl (by first | exact Or.inl rfl | exact Or.inr rfl))) (dgs_cons (dg_name (pg_name (i := 3) sc_choice_fault.nd rfl (by first | exact Or.inl rfl | exact Or.inr rfl))) dgs_nil)))
    (dss_cons (ds_set (i := 9) (fun h => ps_set (i := 9) sc_choice_fault.nd rfl (by first | exact Or.inl rfl | exact Or.inr rfl) h) (de_fnX (ok_row_fault T) (passes_call (takes_of rfl rfl rfl rfl) fun _ _ _ _ h => h) hr (by decide) (by rfl) (da_cons (de_var (pv 3)) (da_cons (de_var (pv 7)) (da_cons (de_var (pv 5)) da_nil)))))
    (dss_one (ds_if (dt_cmp op_notN rd_notN (de_var (pv 9)) de_non (nomark _)) (dss_one (ds_ret (de_var (pv 9)))) dss_nil))))
    (dss_one (ds_ret de_non)))))))))⟩
abbrev nm_need_free : List Str := ["name", "thing"]
theorem sc_need_free : FnScope nm_need_free ["name", "thing"] (defScope s_need_free) := ⟨rfl, rfl, rfl, by decide +kernel, rfl, by decide +kernel, by decide +kernel⟩
theorem ok_need_free (T : Txt w K mg base) : FnX P w K mg base 9 "need_free" s_need_free ["name", "thing"] m_need_free := by
  refine fnx_of (b := b_need_free) T.i_need_free sc_need_free (fun _ _ _ _ _ _ us hl => match us, hl with | [_, _], _ => rfl) (fun f cdv A outer s H E hr => ?_)
  have hu := hu_of hr
  have hu64 : (A.deeper (PyProof.Rows.envOfC "need_free" (defScope s_need_free) s.heap.objs.size f cdv)).units + 64 < cLine := by have := hr.un; omega
  have hu80 : (A.deeper (PyProof.Rows.envOfC "need_free" (defScope s_need_free) s.heap.objs.size f cdv)).units + 80 < cLine := by have := hr.un; omega
  exact ⟨_, (dss_one (ds_if (dt_not (dt_val (de_fnX (ok_is_free T) (passes_call (takes_of rfl rfl rfl rfl) fun _ _ _ _ h => h) hr (by decide) (by rfl) (da_cons (de_var (pv 1)) da_nil)))) (dss_one (ds_raise (errI_NotUsable T) rfl (takes_of rfl rfl rfl rfl) (hr.mono (by decide)) (by rfl) (da_cons (de_var (pv 0)) (da_cons (de_un un_neg rd_neg de_int) da_nil)))) dss_nil))⟩
abbrev nm_lets_choice : List Str := ["count", "thing", "fault", "word", "at"]
theorem sc_lets_choice : FnScope nm_lets_choice ["count", "thing"] (defScope s_lets_choice) := ⟨rfl, rfl, rfl, by decide +kernel, rfl, by decide +kernel, by decide +kernel⟩
theorem ok_lets_choice (T : Txt w K mg base) : FnX P w K mg base 10 "lets_choice" s_lets_choice ["count", "thing"] m_lets_choice := by
  refine fnx_of (b := b_lets_choice) T.i_lets_choice sc_lets_choice (fun _ _ _ _ _ _ us hl => match us, hl with | [_, _], _ => rfl) (fun f cdv A outer s H E hr => ?_)
  have hu := hu_of hr
  have hu64 : (A.deeper (PyProof.Rows.envOfC "lets_choice" (defScope s_lets_choice) s.heap.objs.size f cdv)).units + 64 < cLine := by have := hr.un; omega
  have hu80 : (A.deeper (PyProof.Rows.envOfC "lets_choice" (defScope s_lets_choice) s.heap.objs.size f cdv)).units + 80 < cLine := by have := hr.un; omega
  exact ⟨_, (dss_cons (ds_expr (fun h => ps_expr h) (de_fnX (ok_need_free T) (passes_call (takes_of rfl rfl rfl rfl) fun _ _ _ _ h => h) hr (by decide) (by rfl) (da_cons de_str (da_cons (de_var (pv 0)) da_nil))))
    (dss_cons (ds_set (i := 2) (fun h => ps_set (i := 2) sc_lets_choice.nd rfl (by first | exact Or.inl rfl | exact Or.inr rfl) h) (de_fnX (ok_choice_fault T) (passes_call (takes_of rfl rfl rfl rfl) fun _ _ _ _ h => h) hr (by decide) (by rfl) (da_cons (de_var (pv 0)) (da_cons (de_var (pv 1)) da_nil))))
    (dss_cons (ds_if (dt_cmp op_notN rd_notN (de_var (pv 2)) de_non (nomark _)) (dss_cons (ds_asg (fun h h2 => ps_asg h h2) (de_var (pv 2)) (dg_tup (fun h => pg_tup rfl h) (dgs_cons (dg_name (pg_name (i := 3) sc_lets_choice.nd rfl (by first | exact Or.inl rfl | exact Or.inr rfl))) (dgs_cons (dg_name (pg_name (i := 4) sc_lets_choice.nd rfl (by first | exact Or.inl rfl | exact Or.inr rfl))) dgs_nil))))
    (dss_one (ds_raise (errI_InvalidPaper T) rfl (takes_of rfl rfl rfl rfl) (hr.mono (by decide)) (by rfl) (da_cons (de_var (pv 3)) (da_cons (de_var (pv 4)) da_nil))))) dss_nil)
    (dss_one (ds_ret (wA (fun h => de_call (pe_callB cr_len (by rfl) T.b_len (by decide +kernel) h.pa) rd_len h) (da_cons (de_var (pv 1)) da_nil)))))))⟩
abbrev nm_need_choice : List Str := ["count", "choice"]
theorem sc_need_choice : FnScope nm_need_choice ["count", "choice"] (defScope s_need_choice) := ⟨rfl, rfl, rfl, by decide +kernel, rfl, by decide +kernel, by decide +kernel⟩
theorem ok_need_choice (T : Txt w K mg base) : FnX P w K mg base 10 "need_choice" s_need_choice ["count", "choice"] m_need_choice := by
  refine fnx_of (b := b_need_choice) T.i_need_choice sc_need_choice (fun _ _ _ _ _ _ us hl => match us, hl with | [_, _], _ => rfl) (fun f cdv A outer s H E hr => ?_)
  have hu := hu_of hr
  have hu64 : (A.deeper (PyProof.Rows.envOfC "need_choice" (defScope s_need_choice) s.heap.objs.size f cdv)).units + 64 < cLine := by have := hr.un; omega
  have hu80 : (A.deeper (PyProof.Rows.envOfC "need_choice" (defScope s_need_choice) s.heap.objs.size f cdv)).units + 80 < cLine := by have := hr.un; omega
  exact ⟨_, (dss_cons (ds_expr (fun h => ps_expr h) (de_fnX (ok_need_free T) (passes_call (takes_of rfl rfl rfl rfl) fun _ _ _ _ h => h) hr (by decide) (by rfl) (da_cons de_str (da_cons (de_var (pv 0)) da_nil))))
    (dss_one (ds_if (dt_cmp op_notN rd_notN (de_fnX (ok_choice_fault T) (passes_call (takes_of rfl rfl rfl rfl) fun _ _ _ _ h => h) hr (by decide) (by rfl) (da_cons (de_var (pv 0)) (da_cons (de_var (pv 1)) da_nil))) de_non (nomark _)) (dss_one (ds_raise (errI_NotUsable T) rfl (takes_of rfl rfl rfl rfl) (hr.mono (by decide)) (by rfl) (da_cons de_str (da_cons (de_un un_neg rd_neg de_int) da_nil)))) dss_nil)))⟩
abbrev nm_raised : List Str := ["base", "power", "result", "_"]
theorem sc_raised : FnScope nm_raised ["base", "power"] (defScope s_raised) := ⟨rfl, rfl, rfl, by decide +kernel, rfl, by decide +kernel, by decide +kernel⟩
theorem ok_raised (T : Txt w K mg base) : FnX P w K mg base 1 "raised" s_raised ["base", "power"] m_raised := by
  refine fnx_of (b := b_raised) T.i_raised sc_raised (fun _ _ _ _ _ _ us hl => match us, hl with | [_, _], _ => rfl) (fun f cdv A outer s H E hr => ?_)
  have hu := hu_of hr
  have hu64 : (A.deeper (PyProof.Rows.envOfC "raised" (defScope s_raised) s.heap.objs.size f cdv)).units + 64 < cLine := by have := hr.un; omega
  have hu80 : (A.deeper (PyProof.Rows.envOfC "raised" (defScope s_raised) s.heap.objs.size f cdv)).units + 80 < cLine := by have := hr.un; omega
  exact ⟨_, (dss_cons (ds_set (i := 2) (fun h => ps_set (i := 2) sc_raised.nd rfl (by first | exact Or.inl rfl | exact Or.inr rfl) h) de_int)
    (dss_cons (ds_for (passes_of rfl) rfl (wA (fun h => di_range1 h (pi_range1 (by rfl) T.b_range h.pa)) (da_cons (de_var (pv 1)) da_nil)) (dg_name (pg_name (i := 3) sc_raised.nd rfl (by first | exact Or.inl rfl | exact Or.inr rfl)))
    (dss_one (ds_set (i := 2) (fun h => ps_set (i := 2) sc_raised.nd rfl (by first | exact Or.inl rfl | exact Or.inr rfl) h) (de_op op_mulG rd_mulG (de_var (pv 2)) (de_var (pv 0))))))
    (dss_one (ds_ret (de_var (pv 2))))))⟩
abbrev nm_raised_modulo : List Str := ["base", "power", "modulus", "result", "square", "rest"]
theorem sc_raised_modulo : FnScope nm_raised_modulo ["base", "power", "modulus"] (defScope s_raised_modulo) := ⟨rfl, rfl, rfl, by decide +kernel, rfl, by decide +kernel, by decide +kernel⟩
theorem ok_raised_modulo (T : Txt w K mg base) : FnX P w K mg base 1 "raised_modulo" s_raised_modulo ["base", "power", "modulus"] m_raised_modulo := by
  refine fnx_of (b := b_raised_modulo) T.i_raised_modulo sc_raised_modulo (fun _ _ _ _ _ _ us hl => match us, hl with | [_, _, _], _ => rfl) (fun f cdv A outer s H E hr => ?_)
  have hu := hu_of hr
  have hu64 : (A.deeper (PyProof.Rows.envOfC "raised_modulo" (defScope s_raised_modulo) s.heap.objs.size f cdv)).units + 64 < cLine := by have := hr.un; omega
  have hu80 : (A.deeper (PyProof.Rows.envOfC "raised_modulo" (defScope s_raised_modulo) s.heap.objs.size f cdv)).units + 80 < cLine := by have := hr.un; omega
  exact ⟨_, (dss_cons (ds_set (i := 3) (fun h => ps_set (i := 3) sc_raised_modulo.nd rfl (by first | exact Or.inl rfl | exact Or.inr rfl) h) (de_op op_mod rd_mod de_int (de_var (pv 2))))
    (dss_cons (ds_set (i := 4) (fun h => ps_set (i := 4) sc_raised_modulo.nd rfl (by first | exact Or.inl rfl | exact Or.inr rfl) h) (de_op op_mod rd_mod (de_var (pv 0)) (de_var (pv 2))))
    (dss_cons (ds_set (i := 5) (fun h => ps_set (i := 5) sc_raised_modulo.nd rfl (by first | exact Or.inl rfl | exact Or.inr rfl) h) (de_var (pv 1)))
    (dss_cons (ds_while (passes_of rfl) (dt_cmp op_gt rd_gt (de_var (pv 5)) de_int (nomark _)) (dss_cons (ds_if (dt_cmp (op_eqB hu64) rd_eqB (de_op op_mod rd_mod (de_var (pv 5)) de_int) de_int (nomark _)) (dss_one (ds_set (i := 3) (fun h => ps_set (i := 3) sc_raised_modulo.nd rfl (by first | exact Or.inl rfl | exact Or.inr rfl) h) (de_op op_mod rd_mod (de_op op_mulG rd_mulG (de_var (pv 3)) (de_var (pv 4))) (de_var (pv 2))))) dss_nil)
    (dss_cons (ds_set (i := 4) (fun h => ps_set (i := 4) sc_raised_modulo.nd rfl (by first | exact Or.inl rfl | exact Or.inr rfl) h) (de_op op_mod rd_mod (de_op op_mulG rd_mulG (de_var (pv 4)) (de_var (pv 4))) (de_var (pv 2))))
    (dss_one (ds_set (i := 5) (fun h => ps_set (i := 5) sc_raised_modulo.nd rfl (by first | exact Or.inl rfl | exact Or.inr rfl) h) (de_op op_fdivW rd_fdiv (de_var (pv 5)) de_int))))))
    (dss_one (ds_ret (de_var (pv 3))))))))⟩
abbrev nm_need_count : List Str := ["name", "thing"]
theorem sc_need_count : FnScope nm_need_count ["name", "thing"] (defScope s_need_count) := ⟨rfl, rfl, rfl, by decide +kernel, rfl, by decide +kernel, by decide +kernel⟩
theorem ok_need_count (T : Txt w K mg base) : FnX P w K mg base 8 "need_count" s_need_count ["name", "thing"] m_need_count := by
  refine fnx_of (b := b_need_count) T.i_need_count sc_need_count (fun _ _ _ _ _ _ us hl => match us, hl with | [_, _], _ => rfl) (fun f cdv A outer s H E hr => ?_)
  have hu := hu_of hr
  have hu64 : (A.deeper (PyProof.Rows.envOfC "need_count" (defScope s_need_count) s.heap.objs.size f cdv)).units + 64 < cLine := by have := hr.un; omega
  have hu80 : (A.deeper (PyProof.Rows.envOfC "need_count" (defScope s_need_count) s.heap.objs.size f cdv)).units + 80 < cLine := by have := hr.un; omega
  exact ⟨_, (dss_one (ds_if (dt_not (dt_val (de_fnX (ok_is_count T) (passes_call (takes_of rfl rfl rfl rfl) fun _ _ _ _ h => h) hr (by decide) (by rfl) (da_cons (de_var (pv 1)) da_nil)))) (dss_one (ds_raise (errI_NotUsable T) rfl (takes_of rfl rfl rfl rfl) (hr.mono (by decide)) (by rfl) (da_cons (de_var (pv 0)) (da_cons (de_un un_neg rd_neg de_int) da_nil)))) dss_nil))⟩
abbrev nm_need_prime : List Str := ["name", "thing"]
theorem sc_need_prime : FnScope nm_need_prime ["name", "thing"] (defScope s_need_prime) := ⟨rfl, rfl, rfl, by decide +kernel, rfl, by decide +kernel, by decide +kernel⟩
theorem ok_need_prime (T : Txt w K mg base) : FnX P w K mg base 5 "need_prime" s_need_prime ["name", "thing"] m_need_prime := by
  refine fnx_of (b := b_need_prime) T.i_need_prime sc_need_prime (fun _ _ _ _ _ _ us hl => match us, hl with | [_, _], _ => rfl) (fun f cdv A outer s H E hr => ?_)
  have hu := hu_of hr
  have hu64 : (A.deeper (PyProof.Rows.envOfC "need_prime" (defScope s_need_prime) s.heap.objs.size f cdv)).units + 64 < cLine := by have := hr.un; omega
  have hu80 : (A.deeper (PyProof.Rows.envOfC "need_prime" (defScope s_need_prime) s.heap.objs.size f cdv)).units + 80 < cLine := by have := hr.un; omega
  exact ⟨_, (dss_one (ds_if (dt_not (dt_val (de_fnX (ok_is_prime T) (passes_call (takes_of rfl rfl rfl rfl) fun _ _ _ _ h => h) hr (by decide) (by rfl) (da_cons (de_var (pv 1)) da_nil)))) (dss_one (ds_raise (errI_NotUsable T) rfl (takes_of rfl rfl rfl rfl) (hr.mono (by decide)) (by rfl) (da_cons (de_var (pv 0)) (da_cons (de_un un_neg rd_neg de_int) da_nil)))) dss_nil))⟩
abbrev nm_primes_of : List Str := ["count", "prime", "power"]
theorem sc_primes_of : FnScope nm_primes_of ["count"] (defScope s_primes_of) := ⟨rfl, rfl, rfl, by decide +kernel, rfl, by decide +kernel, by decide +kernel⟩
theorem ok_primes_of (T : Txt w K mg base) : FnX P w K mg base 9 "primes_of" s_primes_of ["count"] m_primes_of := by
  refine fnx_of (b := b_primes_of) T.i_primes_of sc_primes_of (fun _ _ _ _ _ _ us hl => match us, hl with | [_], _ => rfl) (fun f cdv A outer s H E hr => ?_)
  have hu := hu_of hr
  have hu64 : (A.deeper (PyProof.Rows.envOfC "primes_of" (defScope s_primes_of) s.heap.objs.size f cdv)).units + 64 < cLine := by have := hr.un; omega
  have hu80 : (A.deeper (PyProof.Rows.envOfC "primes_of" (defScope s_primes_of) s.heap.objs.size f cdv)).units + 80 < cLine := by have := hr.un; omega
  exact ⟨_, (dss_cons (ds_expr (fun h => ps_expr h) (de_fnX (ok_need_count T) (passes_call (takes_of rfl rfl rfl rfl) fun _ _ _ _ h => h) hr (by decide) (by rfl) (da_cons de_str (da_cons (de_var (pv 0)) da_nil))))
    (dss_one (ds_ret (wA (fun h => de_call (pe_callTy F.call_tupF (by rfl) T.b_tuple (by decide +kernel) h.pa) rd_tuple h) (da_cons (de_lcD (own := [("prime", 1), ("power", 2)]) rfl sc_primes_of.nd (di_seq (de_var (pv 0))) (blkOk_by (by kernel_rfl)) (fun _ _ _ _ _ => (dg_tup (fun h => pg_tup rfl h) (dgs_cons (dg_name (pg_name (i := 1) sc_primes_of.nd rfl (by first | exact Or.inl rfl | exact Or.inr rfl))) (dgs_cons (dg_name (pg_name (i := 2) sc_primes_of.nd rfl (by first | exact Or.inl rfl | exact Or.inr rfl))) dgs_nil)))) (gin_tup (gin_cons gm_name (gm_cons gm_name gm_nil) (gin_name (by decide)) (gin_cons gm_name gm_nil (gin_name (by decide)) gin_nil))) (fun _ _ _ _ _ => dpt_nil) (fun _ _ _ _ _ => (de_var (pv 1)))) da_nil)))))⟩
abbrev nm_roots_of : List Str := ["prime", "other", "root", "base", "found", "here"]
theorem sc_roots_of : FnScope nm_roots_of ["prime", "other"] (defScope s_roots_of) := ⟨rfl, rfl, rfl, by decide +kernel, rfl, by decide +kernel, by decide +kernel⟩
theorem ok_roots_of (T : Txt w K mg base) : FnX P w K mg base 2 "roots_of" s_roots_of ["prime", "other"] m_roots_of := by
  refine fnx_of (b := b_roots_of) T.i_roots_of sc_roots_of (fun _ _ _ _ _ _ us hl => match us, hl with | [_, _], _ => rfl) (fun f cdv A outer s H E hr => ?_)
  have hu := hu_of hr
  have hu64 : (A.deeper (PyProof.Rows.envOfC "roots_of" (defScope s_roots_of) s.heap.objs.size f cdv)).units + 64 < cLine := by have := hr.un; omega
  have hu80 : (A.deeper (PyProof.Rows.envOfC "roots_of" (defScope s_roots_of) s.heap.objs.size f cdv)).units + 80 < cLine := by have := hr.un; omega
  exact ⟨_, (dss_cons (ds_set (i := 2) (fun h => ps_set (i := 2) sc_roots_of.nd rfl (by first | exact Or.inl rfl | exact Or.inr rfl) h) de_int)
    (dss_cons (ds_set (i := 3) (fun h => ps_set (i := 3) sc_roots_of.nd rfl (by first | exact Or.inl rfl | exact Or.inr rfl) h) de_int)
    (dss_cons (ds_while (passes_of rfl) (dt_cmp (op_eqB hu64) rd_eqB (de_var (pv 2)) de_int (nomark _)) (dss_cons (ds_set (i := 2) (fun h => ps_set (i := 2) sc_roots_of.nd rfl (by first | exact Or.inl rfl | exact Or.inr rfl) h) (de_fnX (ok_raised_modulo T) (passes_call (takes_of rfl rfl rfl rfl) fun _ _ _ _ h => h) hr (by decide) (by rfl) (da_cons (de_var (pv 3)) (da_cons (de_op op_fdivW rd_fdiv (de_op op_sub rd_sub (de_var (pv 1)) de_int) (de_var (pv 0))) (da_cons (de_var (pv 1)) da_nil)))))
    (dss_one (ds_set (i := 3) (fun h => ps_set (i := 3) sc_roots_of.nd rfl (by first | exact Or.inl rfl | exact Or.inr rfl) h) (de_op op_addA rd_add (de_var (pv 3)) de_int)))))
    (dss_cons (ds_set (i := 4) (fun h => ps_set (i := 4) sc_roots_of.nd rfl (by first | exact Or.inl rfl | exact Or.inr rfl) h) (de_lstO da_nil))
    (dss_cons (ds_set (i := 5) (fun h => ps_set (i := 5) sc_roots_of.nd rfl (by first | exact Or.inl rfl | exact Or.inr rfl) h) (de_var (pv 2)))
    (dss_cons (ds_while (passes_of rfl) (dt_cmp (op_neB hu64) rd_neB (de_var (pv 5)) de_int (nomark _)) (dss_cons (ds_expr (fun h => ps_expr h) (wE (fun h1 => wE (fun h2 => de_append (pe_bm PySem.F.plainAttrs_list PySem.F.slot_list_append PySem.F.type_list_append mt_append h1.pe (da_cons h2 da_nil).pa) h1 h2) (de_var (pv 5))) (de_var (pv 4))))
    (dss_one (ds_set (i := 5) (fun h => ps_set (i := 5) sc_roots_of.nd rfl (by first | exact Or.inl rfl | exact Or.inr rfl) h) (de_op op_mod rd_mod (de_op op_mulG rd_mulG (de_var (pv 5)) (de_var (pv 2))) (de_var (pv 1)))))))
    (dss_one (ds_ret (de_var (pv 4))))))))))⟩
abbrev nm_root_of : List Str := ["prime", "other"]
theorem sc_root_of : FnScope nm_root_of ["prime", "other"] (defScope s_root_of) := ⟨rfl, rfl, rfl, by decide +kernel, rfl, by decide +kernel, by decide +kernel⟩
theorem ok_root_of (T : Txt w K mg base) : FnX P w K mg base 6 "root_of" s_root_of ["prime", "other"] m_root_of := by
  refine fnx_of (b := b_root_of) T.i_root_of sc_root_of (fun _ _ _ _ _ _ us hl => match us, hl with | [_, _], _ => rfl) (fun f cdv A outer s H E hr => ?_)
  have hu := hu_of hr
  have hu64 : (A.deeper (PyProof.Rows.envOfC "root_of" (defScope s_root_of) s.heap.objs.size f cdv)).units + 64 < cLine := by have := hr.un; omega
  have hu80 : (A.deeper (PyProof.Rows.envOfC "root_of" (defScope s_root_of) s.heap.objs.size f cdv)).units + 80 < cLine := by have := hr.un; omega
  exact ⟨_, (dss_cons (ds_expr (fun h => ps_expr h) (de_fnX (ok_need_prime T) (passes_call (takes_of rfl rfl rfl rfl) fun _ _ _ _ h => h) hr (by decide) (by rfl) (da_cons de_str (da_cons (de_var (pv 0)) da_nil))))
    (dss_cons (ds_expr (fun h => ps_expr h) (de_fnX (ok_need_prime T) (passes_call (takes_of rfl rfl rfl rfl) fun _ _ _ _ h => h) hr (by decide) (by rfl) (da_cons de_str (da_cons (de_var (pv 1)) da_nil))))
    (dss_cons (ds_if (dt_not (dt_val (de_fnX (ok_does_reach T) (passes_call (takes_of rfl rfl rfl rfl) fun _ _ _ _ h => h) hr (by decide) (by rfl) (da_cons (de_var (pv 0)) (da_cons (de_var (pv 1)) da_nil))))) (dss_one (ds_raise (errI_NotUsable T) rfl (takes_of rfl rfl rfl rfl) (hr.mono (by decide)) (by rfl) (da_cons de_str (da_cons (de_un un_neg rd_neg de_int) da_nil)))) dss_nil)
    (dss_one (ds_ret (wA (fun h => de_call (pe_callB (cr_min rfl) (by rfl) T.b_min (by decide +kernel) h.pa) rd_minL h) (da_cons (de_fnX (ok_roots_of T) (passes_call (takes_of rfl rfl rfl rfl) fun _ _ _ _ h => h) hr (by decide) (by rfl) (da_cons (de_var (pv 0)) (da_cons (de_var (pv 1)) da_nil))) da_nil)))))))⟩
abbrev nm_at_rest : List Str := ["count", "choice", "acting", "prime", "row"]
theorem sc_at_rest : FnScope nm_at_rest ["count", "choice"] (defScope s_at_rest) := ⟨rfl, rfl, rfl, by decide +kernel, rfl, by decide +kernel, by decide +kernel⟩
theorem ok_at_rest (T : Txt w K mg base) : FnX P w K mg base 11 "at_rest" s_at_rest ["count", "choice"] m_at_rest := by
  refine fnx_of (b := b_at_rest) T.i_at_rest sc_at_rest (fun _ _ _ _ _ _ us hl => match us, hl with | [_, _], _ => rfl) (fun f cdv A outer s H E hr => ?_)
  have hu := hu_of hr
  have hu64 : (A.deeper (PyProof.Rows.envOfC "at_rest" (defScope s_at_rest) s.heap.objs.size f cdv)).units + 64 < cLine := by have := hr.un; omega
  have hu80 : (A.deeper (PyProof.Rows.envOfC "at_rest" (defScope s_at_rest) s.heap.objs.size f cdv)).units + 80 < cLine := by have := hr.un; omega
  exact ⟨_, (dss_cons (ds_expr (fun h => ps_expr h) (de_fnX (ok_need_choice T) (passes_call (takes_of rfl rfl rfl rfl) fun _ _ _ _ h => h) hr (by decide) (by rfl) (da_cons (de_var (pv 0)) (da_cons (de_var (pv 1)) da_nil))))
    (dss_cons (ds_set (i := 2) (fun h => ps_set (i := 2) sc_at_rest.nd rfl (by first | exact Or.inl rfl | exact Or.inr rfl) h) (de_lcD (own := [("prime", 3), ("row", 4)]) rfl sc_at_rest.nd (di_seq (de_var (pv 1))) (blkOk_by (by kernel_rfl)) (fun _ _ _ _ _ => (dg_tup (fun h => pg_tup rfl h) (dgs_cons (dg_name (pg_name (i := 3) sc_at_rest.nd rfl (by first | exact Or.inl rfl | exact Or.inr rfl))) (dgs_cons (dg_name (pg_name (i := 4) sc_at_rest.nd rfl (by first | exact Or.inl rfl | exact Or.inr rfl))) dgs_nil)))) (gin_tup (gin_cons gm_name (gm_cons gm_name gm_nil) (gin_name (by decide)) (gin_cons gm_name gm_nil (gin_name (by decide)) gin_nil))) (fun _ _ _ _ _ => dpt_nil) (fun _ _ _ _ _ => (de_var (pv 3)))))
    (dss_one (ds_ret (wA (fun h => de_call (pe_callTy F.call_tupF (by rfl) T.b_tuple (by decide +kernel) h.pa) rd_tuple h) (da_cons (de_lcD (own := [("prime", 3)]) rfl sc_at_rest.nd (di_seq (de_fnX (ok_primes_of T) (passes_call (takes_of rfl rfl rfl rfl) fun _ _ _ _ h => h) hr (by decide) (by rfl) (da_cons (de_var (pv 0)) da_nil))) (blkOk_by (by kernel_rfl)) (fun _ _ _ _ _ => (dg_name (pg_name (i := 3) sc_at_rest.nd rfl (by first | exact Or.inl rfl | exact Or.inr rfl)))) (gin_name (by decide)) (fun _ _ _ _ _ => (dpt_one (dt_cmp (op_notInX hu64) rd_inX (de_var (pv 3)) (de_var (pv 2)) rfl))) (fun _ _ _ _ _ => (de_var (pv 3)))) da_nil))))))⟩
abbrev nm_multiplied : List Str := ["numbers", "product", "number"]
theorem sc_multiplied : FnScope nm_multiplied ["numbers"] (defScope s_multiplied) := ⟨rfl, rfl, rfl, by decide +kernel, rfl, by decide +kernel, by decide +kernel⟩
theorem ok_multiplied (T : Txt w K mg base) : FnX P w K mg base 1 "multiplied" s_multiplied ["numbers"] m_multiplied := by
  refine fnx_of (b := b_multiplied) T.i_multiplied sc_multiplied (fun _ _ _ _ _ _ us hl => match us, hl with | [_], _ => rfl) (fun f cdv A outer s H E hr => ?_)
  have hu := hu_of hr
  have hu64 : (A.deeper (PyProof.Rows.envOfC "multiplied" (defScope s_multiplied) s.heap.objs.size f cdv)).units + 64 < cLine := by have := hr.un; omega
  have hu80 : (A.deeper (PyProof.Rows.envOfC "multiplied" (defScope s_multiplied) s.heap.objs.size f cdv)).units + 80 < cLine := by have := hr.un; omega
  exact ⟨_, (dss_cons (ds_set (i := 1) (fun h => ps_set (i := 1) sc_multiplied.nd rfl (by first | exact Or.inl rfl | exact Or.inr rfl) h) de_int)
    (dss_cons (ds_for (passes_of rfl) rfl (di_seq (de_var (pv 0))) (dg_name (pg_name (i := 2) sc_multiplied.nd rfl (by first | exact Or.inl rfl | exact Or.inr rfl)))
    (dss_one (ds_set (i := 1) (fun h => ps_set (i := 1) sc_multiplied.nd rfl (by first | exact Or.inl rfl | exact Or.inr rfl) h) (de_op op_mulG rd_mulG (de_var (pv 1)) (de_var (pv 2))))))
    (dss_one (ds_ret (de_var (pv 1))))))⟩
abbrev nm_how_many_rows : List Str := ["prime", "resting", "reached", "other"]
theorem sc_how_many_rows : FnScope nm_how_many_rows ["prime", "resting"] (defScope s_how_many_rows) := ⟨rfl, rfl, rfl, by decide +kernel, rfl, by decide +kernel, by decide +kernel⟩
theorem ok_how_many_rows (T : Txt w K mg base) : FnX P w K mg base 2 "how_many_rows" s_how_many_rows ["prime", "resting"] m_how_many_rows := by
  refine fnx_of (b := b_how_many_rows) T.i_how_many_rows sc_how_many_rows (fun _ _ _ _ _ _ us hl => match us, hl with | [_, _], _ => rfl) (fun f cdv A outer s H E hr => ?_)
  have hu := hu_of hr
  have hu64 : (A.deeper (PyProof.Rows.envOfC "how_many_rows" (defScope s_how_many_rows) s.heap.objs.size f cdv)).units + 64 < cLine := by have := hr.un; omega
  have hu80 : (A.deeper (PyProof.Rows.envOfC "how_many_rows" (defScope s_how_many_rows) s.heap.objs.size f cdv)).units + 80 < cLine := by have := hr.un; omega
  exact ⟨_, (dss_cons (ds_setLc (i := 2) (own := [("other", 3)]) rfl sc_how_many_rows.nd rfl rfl (sw_true rfl rfl rfl (by decide +kernel)) (di_seq (de_var (pv 1))) (blkOk_by (by kernel_rfl)) (fun _ _ _ _ _ => (dg_name (pg_name (i := 3) sc_how_many_rows.nd rfl (by first | exact Or.inl rfl | exact Or.inr rfl)))) (gin_name (by decide)) (fun _ _ _ _ _ => (dpt_one (dt_val (de_fnX (ok_does_reach T) passE0 hr (by decide) (by rfl) (da_cons (de_var (pv 0)) (da_cons (de_var (pv 3)) da_nil)))))) (fun _ _ _ _ _ => (de_var (pv 3))))
    (dss_one (ds_ret (de_op op_fdivW rd_fdiv (de_op op_sub rd_sub (de_fnX (ok_raised T) (passes_call (takes_of rfl rfl rfl rfl) fun _ _ _ _ h => h) hr (by decide) (by rfl) (da_cons (de_var (pv 0)) (da_cons (wA (fun h => de_call (pe_callB cr_len (by rfl) T.b_len (by decide +kernel) h.pa) rd_len h) (da_cons (de_var (pv 2)) da_nil)) da_nil))) de_int) (de_op op_sub rd_sub (de_var (pv 0)) de_int)))))⟩
abbrev nm_rests_of : List Str := ["count", "found", "prime", "resting", "others"]
theorem sc_rests_of : FnScope nm_rests_of ["count"] (defScope s_rests_of) := ⟨rfl, rfl, rfl, by decide +kernel, rfl, by decide +kernel, by decide +kernel⟩
theorem ok_rests_of (T : Txt w K mg base) : FnX P w K mg base 10 "rests_of" s_rests_of ["count"] m_rests_of := by
  refine fnx_of (b := b_rests_of) T.i_rests_of sc_rests_of (fun _ _ _ _ _ _ us hl => match us, hl with | [_], _ => rfl) (fun f cdv A outer s H E hr => ?_)
  have hu := hu_of hr
  have hu64 : (A.deeper (PyProof.Rows.envOfC "rests_of" (defScope s_rests_of) s.heap.objs.size f cdv)).units + 64 < cLine := by have := hr.un; omega
  have hu80 : (A.deeper (PyProof.Rows.envOfC "rests_of" (defScope s_rests_of) s.heap.objs.size f cdv)).units + 80 < cLine := by have := hr.un; omega
  exact ⟨_, (dss_cons (ds_set (i := 1) (fun h => ps_set (i := 1) sc_rests_of.nd rfl (by first | exact Or.inl rfl | exact Or.inr rfl) h) (de_lst (da_cons (de_tup da_nil) da_nil)))
    (dss_cons (ds_for (passes_of rfl) rfl (di_seq (de_revA (de_fnX (ok_primes_of T) (passes_call (takes_of rfl rfl rfl rfl) fun _ _ _ _ h => h) hr (by decide) (by rfl) (da_cons (de_var (pv 0)) da_nil)))) (dg_name (pg_name (i := 2) sc_rests_of.nd rfl (by first | exact Or.inl rfl | exact Or.inr rfl)))
    (dss_cons (ds_setLc (i := 3) (own := [("others", 4)]) rfl sc_rests_of.nd rfl rfl (sw_true rfl rfl rfl (by decide +kernel)) (di_seq (de_var (pv 1))) (blkOk_by (by kernel_rfl)) (fun _ _ _ _ _ => (dg_name (pg_name (i := 4) sc_rests_of.nd rfl (by first | exact Or.inl rfl | exact Or.inr rfl)))) (gin_name (by decide)) (fun _ _ _ _ _ => dpt_nil) (fun _ _ _ _ _ => (de_tup (da_cons (de_var (pv 2)) (da_star (de_var (pv 4)) da_nil)))))
    (dss_one (ds_set (i := 1) (fun h => ps_set (i := 1) sc_rests_of.nd rfl (by first | exact Or.inl rfl | exact Or.inr rfl) h) (de_op op_addA rd_add (de_var (pv 3)) (de_lcD (own := [("others", 4)]) rfl sc_rests_of.nd (di_seq (de_var (pv 1))) (blkOk_by (by kernel_rfl)) (fun _ _ _ _ _ => (dg_name (pg_name (i := 4) sc_rests_of.nd rfl (by first | exact Or.inl rfl | exact Or.inr rfl)))) (gin_name (by decide)) (fun _ _ _ _ _ => (dpt_one (dt_cmp op_gt rd_gt (de_fnX (ok_how_many_rows T) passE0 hr (by decide) (by rfl) (da_cons (de_var (pv 2)) (da_cons (de_var (pv 4)) da_nil))) de_int (nomark _)))) (fun _ _ _ _ _ => (de_var (pv 4)))))))))
    (dss_one (ds_ret (de_var (pv 1))))))⟩
abbrev nm_primes_beside : List Str := ["count", "resting", "prime"]
theorem sc_primes_beside : FnScope nm_primes_beside ["count", "resting"] (defScope s_primes_beside) := ⟨rfl, rfl, rfl, by decide +kernel, rfl, by decide +kernel, by decide +kernel⟩
theorem ok_primes_beside (T : Txt w K mg base) : FnX P w K mg base 10 "primes_beside" s_primes_beside ["count", "resting"] m_primes_beside := by
  refine fnx_of (b := b_primes_beside) T.i_primes_beside sc_primes_beside (fun _ _ _ _ _ _ us hl => match us, hl with | [_, _], _ => rfl) (fun f cdv A outer s H E hr => ?_)
  have hu := hu_of hr
  have hu64 : (A.deeper (PyProof.Rows.envOfC "primes_beside" (defScope s_primes_beside) s.heap.objs.size f cdv)).units + 64 < cLine := by have := hr.un; omega
  have hu80 : (A.deeper (PyProof.Rows.envOfC "primes_beside" (defScope s_primes_beside) s.heap.objs.size f cdv)).units + 80 < cLine := by have := hr.un; omega
  exact ⟨_, (dss_one (ds_ret (de_lcD (own := [("prime", 2)]) rfl sc_primes_beside.nd (di_seq (de_fnX (ok_primes_of T) (passes_call (takes_of rfl rfl rfl rfl) fun _ _ _ _ h => h) hr (by decide) (by rfl) (da_cons (de_var (pv 0)) da_nil))) (blkOk_by (by kernel_rfl)) (fun _ _ _ _ _ => (dg_name (pg_name (i := 2) sc_primes_beside.nd rfl (by first | exact Or.inl rfl | exact Or.inr rfl)))) (gin_name (by decide)) (fun _ _ _ _ _ => (dpt_one (dt_cmp (op_notInX hu64) rd_inX (de_var (pv 2)) (de_var (pv 1)) rfl))) (fun _ _ _ _ _ => (de_var (pv 2))))))⟩
abbrev nm_how_many_groups : List Str := ["count", "prime", "resting"]
theorem sc_how_many_groups : FnScope nm_how_many_groups ["count"] (defScope s_how_many_groups) := ⟨rfl, rfl, rfl, by decide +kernel, rfl, by decide +kernel, by decide +kernel⟩
theorem ok_how_many_groups (T : Txt w K mg base) : FnX P w K mg base 11 "how_many_groups" s_how_many_groups ["count"] m_how_many_groups := by
  refine fnx_of (b := b_how_many_groups) T.i_how_many_groups sc_how_many_groups (fun _ _ _ _ _ _ us hl => match us, hl with | [_], _ => rfl) (fun f cdv A outer s H E hr => ?_)
  have hu := hu_of hr
  have hu64 : (A.deeper (PyProof.Rows.envOfC "how_many_groups" (defScope s_how_many_groups) s.heap.objs.size f cdv)).units + 64 < cLine := by have := hr.un; omega
  have hu80 : (A.deeper (PyProof.Rows.envOfC "how_many_groups" (defScope s_how_many_groups) s.heap.objs.size f cdv)).units + 80 < cLine := by have := hr.un; omega
  exact ⟨_, (dss_cons (ds_expr (fun h => ps_expr h) (de_fnX (ok_need_free T) (passes_call (takes_of rfl rfl rfl rfl) fun _ _ _ _ h => h) hr (by decide) (by rfl) (da_cons de_str (da_cons (de_var (pv 0)) da_nil))))
    (dss_one (ds_ret (wA (fun h => de_call (pe_callB (cr_sum rfl) (by rfl) T.b_sum (by decide +kernel) h.pa) rd_sum h) (da_cons (de_lcD (own := [("resting", 2)]) rfl sc_how_many_groups.nd (di_seq (de_fnX (ok_rests_of T) (passes_call (takes_of rfl rfl rfl rfl) fun _ _ _ _ h => h) hr (by decide) (by rfl) (da_cons (de_var (pv 0)) da_nil))) (blkOk_by (by kernel_rfl)) (fun _ _ _ _ _ => (dg_name (pg_name (i := 2) sc_how_many_groups.nd rfl (by first | exact Or.inl rfl | exact Or.inr rfl)))) (gin_name (by decide)) (fun _ _ _ _ _ => dpt_nil) (fun _ _ _ _ _ => (de_fnX (ok_multiplied T) passE0 hr (by decide) (by rfl) (da_cons (de_lcD (own := [("prime", 1)]) rfl sc_how_many_groups.nd (di_seq (de_fnX (ok_primes_beside T) passE0 hr (by decide) (by rfl) (da_cons (de_var (pv 0)) (da_cons (de_var (pv 2)) da_nil)))) (blkOk_by (by kernel_rfl)) (fun _ _ _ _ _ => (dg_name (pg_name (i := 1) sc_how_many_groups.nd rfl (by first | exact Or.inl rfl | exact Or.inr rfl)))) (gin_name (by decide)) (fun _ _ _ _ _ => dpt_nil) (fun _ _ _ _ _ => (de_fnX (ok_how_many_rows T) passE0 hr (by decide) (by rfl) (da_cons (de_var (pv 1)) (da_cons (de_var (pv 2)) da_nil))))) da_nil)))) da_nil)))))⟩
abbrev nm_ends_beside : List Str := ["prime", "resting", "found", "other", "many", "end", "number"]
theorem sc_ends_beside : FnScope nm_ends_beside ["prime", "resting"] (defScope s_ends_beside) := ⟨rfl, rfl, rfl, by decide +kernel, rfl, by decide +kernel, by decide +kernel⟩
theorem ok_ends_beside (T : Txt w K mg base) : FnX P w K mg base 2 "ends_beside" s_ends_beside ["prime", "resting"] m_ends_beside := by
  refine fnx_of (b := b_ends_beside) T.i_ends_beside sc_ends_beside (fun _ _ _ _ _ _ us hl => match us, hl with | [_, _], _ => rfl) (fun f cdv A outer s H E hr => ?_)
  have hu := hu_of hr
  have hu64 : (A.deeper (PyProof.Rows.envOfC "ends_beside" (defScope s_ends_beside) s.heap.objs.size f cdv)).units + 64 < cLine := by have := hr.un; omega
  have hu80 : (A.deeper (PyProof.Rows.envOfC "ends_beside" (defScope s_ends_beside) s.heap.objs.size f cdv)).units + 80 < cLine := by have := hr.un; omega
  exact ⟨_, (dss_cons (ds_set (i := 2) (fun h => ps_set (i := 2) sc_ends_beside.nd rfl (by first | exact Or.inl rfl | exact Or.inr rfl) h) (de_lst (da_cons (de_tup da_nil) da_nil)))
    (dss_cons (ds_for (passes_of rfl) rfl (di_seq (de_var (pv 1))) (dg_name (pg_name (i := 3) sc_ends_beside.nd rfl (by first | exact Or.inl rfl | exact Or.inr rfl)))
    (dss_cons (ds_set (i := 4) (fun h => ps_set (i := 4) sc_ends_beside.nd rfl (by first | exact Or.inl rfl | exact Or.inr rfl) h) (de_ifExp (dt_val (de_fnX (ok_does_reach T) (passes_call (takes_of rfl rfl rfl rfl) fun _ _ _ _ h => h) hr (by decide) (by rfl) (da_cons (de_var (pv 0)) (da_cons (de_var (pv 3)) da_nil)))) (de_var (pv 0)) de_int))
    (dss_one (ds_setLc2 (i := 2) (own := [("end", 5), ("number", 6)]) (vs1 := [6]) rfl sc_ends_beside.nd rfl rfl (sw_true rfl rfl rfl (by decide +kernel)) (di_seq (de_var (pv 2))) (blkOk_by (by kernel_rfl)) (by decide) (fun _ _ _ _ _ => (dg_name (pg_name (i := 5) sc_ends_beside.nd rfl (by first | exact Or.inl rfl | exact Or.inr rfl)))) (gin_name (by decide)) (fun _ _ _ _ _ => dpt_nil) (fun _ _ _ _ _ => (wA (fun h => di_range1 h (pi_range1 (by rfl) T.b_range h.pa)) (da_cons (de_var (pv 4)) da_nil))) (fun _ _ _ _ _ => (dg_name (pg_name (i := 6) sc_ends_beside.nd rfl (by first | exact Or.inl rfl | exact Or.inr rfl)))) (gin_name (by decide)) (fun _ _ _ _ _ => dpt_nil) (fun _ _ _ _ _ => (de_tup (da_star (de_var (pv 5)) (da_cons (de_var (pv 6)) da_nil))))))))
    (dss_one (ds_ret (de_var (pv 2))))))⟩
abbrev nm_rows_beside : List Str := ["prime", "resting", "found", "at", "other", "ahead", "end"]
theorem sc_rows_beside : FnScope nm_rows_beside ["prime", "resting"] (defScope s_rows_beside) := ⟨rfl, rfl, rfl, by decide +kernel, rfl, by decide +kernel, by decide +kernel⟩
theorem ok_rows_beside (T : Txt w K mg base) : FnX P w K mg base 3 "rows_beside" s_rows_beside ["prime", "resting"] m_rows_beside := by
  refine fnx_of (b := b_rows_beside) T.i_rows_beside sc_rows_beside (fun _ _ _ _ _ _ us hl => match us, hl with | [_, _], _ => rfl) (fun f cdv A outer s H E hr => ?_)
  have hu := hu_of hr
  have hu64 : (A.deeper (PyProof.Rows.envOfC "rows_beside" (defScope s_rows_beside) s.heap.objs.size f cdv)).units + 64 < cLine := by have := hr.un; omega
  have hu80 : (A.deeper (PyProof.Rows.envOfC "rows_beside" (defScope s_rows_beside) s.heap.objs.size f cdv)).units + 80 < cLine := by have := hr.un; omega
  exact ⟨_, (dss_cons (ds_set (i := 2) (fun h => ps_set (i := 2) sc_rows_beside.nd rfl (by first | exact Or.inl rfl | exact Or.inr rfl) h) (de_lst da_nil))
    (dss_cons (ds_for (passes_of rfl) rfl (wA (fun h => di_enumF h (F.pi_enumF (by rfl) T.b_enumerate h.pa)) (da_cons (de_var (pv 1)) da_nil)) (dg_tup (fun h => pg_tup rfl h) (dgs_cons (dg_name (pg_name (i := 3) sc_rows_beside.nd rfl (by first | exact Or.inl rfl | exact Or.inr rfl))) (dgs_cons (dg_name (pg_name (i := 4) sc_rows_beside.nd rfl (by first | exact Or.inl rfl | exact Or.inr rfl))) dgs_nil)))
    (dss_one (ds_if (dt_val (de_fnX (ok_does_reach T) (passes_call (takes_of rfl rfl rfl rfl) fun _ _ _ _ h => h) hr (by decide) (by rfl) (da_cons (de_var (pv 0)) (da_cons (de_var (pv 4)) da_nil)))) (dss_cons (ds_set (i := 5) (fun h => ps_set (i := 5) sc_rows_beside.nd rfl (by first | exact Or.inl rfl | exact Or.inr rfl) h) (de_op op_mulG rd_mulG (de_tup (da_cons de_int da_nil)) (de_var (pv 3))))
    (dss_one (ds_set (i := 2) (fun h => ps_set (i := 2) sc_rows_beside.nd rfl (by first | exact Or.inl rfl | exact Or.inr rfl) h) (de_op op_addA rd_add (de_var (pv 2)) (de_lcD (own := [("end", 6)]) rfl sc_rows_beside.nd (di_seq (de_fnX (ok_ends_beside T) (passes_call (takes_of rfl rfl rfl rfl) fun _ _ _ _ h => h) hr (by decide) (by rfl) (da_cons (de_var (pv 0)) (da_cons (de_sl (de_var (pv 1)) (do_some (de_op op_addA rd_add (de_var (pv 3)) de_int)) do_none) da_nil)))) (blkOk_by (by kernel_rfl)) (fun _ _ _ _ _ => (dg_name (pg_name (i := 6) sc_rows_beside.nd rfl (by first | exact Or.inl rfl | exact Or.inr rfl)))) (gin_name (by decide)) (fun _ _ _ _ _ => dpt_nil) (fun _ _ _ _ _ => (de_tup (da_star (de_var (pv 5)) (da_cons de_int (da_star (de_var (pv 6)) da_nil)))))))))) dss_nil)))
    (dss_one (ds_ret (de_var (pv 2))))))⟩
abbrev nm_choices_beside : List Str := ["count", "resting", "found", "prime", "rows", "choice", "row"]
theorem sc_choices_beside : FnScope nm_choices_beside ["count", "resting"] (defScope s_choices_beside) := ⟨rfl, rfl, rfl, by decide +kernel, rfl, by decide +kernel, by decide +kernel⟩
theorem ok_choices_beside (T : Txt w K mg base) : FnX P w K mg base 11 "choices_beside" s_choices_beside ["count", "resting"] m_choices_beside := by
  refine fnx_of (b := b_choices_beside) T.i_choices_beside sc_choices_beside (fun _ _ _ _ _ _ us hl => match us, hl with | [_, _], _ => rfl) (fun f cdv A outer s H E hr => ?_)
  have hu := hu_of hr
  have hu64 : (A.deeper (PyProof.Rows.envOfC "choices_beside" (defScope s_choices_beside) s.heap.objs.size f cdv)).units + 64 < cLine := by have := hr.un; omega
  have hu80 : (A.deeper (PyProof.Rows.envOfC "choices_beside" (defScope s_choices_beside) s.heap.objs.size f cdv)).units + 80 < cLine := by have := hr.un; omega
  exact ⟨_, (dss_cons (ds_set (i := 2) (fun h => ps_set (i := 2) sc_choices_beside.nd rfl (by first | exact Or.inl rfl | exact Or.inr rfl) h) (de_lst (da_cons (de_tup da_nil) da_nil)))
    (dss_cons (ds_for (passes_of rfl) rfl (di_seq (de_fnX (ok_primes_beside T) (passes_call (takes_of rfl rfl rfl rfl) fun _ _ _ _ h => h) hr (by decide) (by rfl) (da_cons (de_var (pv 0)) (da_cons (de_var (pv 1)) da_nil)))) (dg_name (pg_name (i := 3) sc_choices_beside.nd rfl (by first | exact Or.inl rfl | exact Or.inr rfl)))
    (dss_cons (ds_set (i := 4) (fun h => ps_set (i := 4) sc_choices_beside.nd rfl (by first | exact Or.inl rfl | exact Or.inr rfl) h) (de_fnX (ok_rows_beside T) (passes_call (takes_of rfl rfl rfl rfl) fun _ _ _ _ h => h) hr (by decide) (by rfl) (da_cons (de_var (pv 3)) (da_cons (de_var (pv 1)) da_nil))))
    (dss_one (ds_setLc2 (i := 2) (own := [("choice", 5), ("row", 6)]) (vs1 := [6]) rfl sc_choices_beside.nd rfl rfl (sw_true rfl rfl rfl (by decide +kernel)) (di_seq (de_var (pv 2))) (blkOk_by (by kernel_rfl)) (by decide) (fun _ _ _ _ _ => (dg_name (pg_name (i := 5) sc_choices_beside.nd rfl (by first | exact Or.inl rfl | exact Or.inr rfl)))) (gin_name (by decide)) (fun _ _ _ _ _ => dpt_nil) (fun _ _ _ _ _ => (di_seq (de_var (pv 4)))) (fun _ _ _ _ _ => (dg_name (pg_name (i := 6) sc_choices_beside.nd rfl (by first | exact Or.inl rfl | exact Or.inr rfl)))) (gin_name (by decide)) (fun _ _ _ _ _ => dpt_nil) (fun _ _ _ _ _ => (de_tup (da_star (de_var (pv 5)) (da_cons (de_tup (da_cons (de_var (pv 3)) (da_cons (de_var (pv 6)) da_nil))) da_nil))))))))
    (dss_one (ds_ret (de_var (pv 2))))))⟩
abbrev nm_choices_of : List Str := ["count", "resting", "choice"]
theorem sc_choices_of : FnScope nm_choices_of ["count"] (defScope s_choices_of) := ⟨rfl, rfl, rfl, by decide +kernel, rfl, by decide +kernel, by decide +kernel⟩
theorem ok_choices_of (T : Txt w K mg base) : FnX P w K mg base 12 "choices_of" s_choices_of ["count"] m_choices_of := by
  refine fnx_of (b := b_choices_of) T.i_choices_of sc_choices_of (fun _ _ _ _ _ _ us hl => match us, hl with | [_], _ => rfl) (fun f cdv A outer s H E hr => ?_)
  have hu := hu_of hr
  have hu64 : (A.deeper (PyProof.Rows.envOfC "choices_of" (defScope s_choices_of) s.heap.objs.size f cdv)).units + 64 < cLine := by have := hr.un; omega
  have hu80 : (A.deeper (PyProof.Rows.envOfC "choices_of" (defScope s_choices_of) s.heap.objs.size f cdv)).units + 80 < cLine := by have := hr.un; omega
  exact ⟨_, (dss_cons (ds_expr (fun h => ps_expr h) (de_fnX (ok_need_free T) (passes_call (takes_of rfl rfl rfl rfl) fun _ _ _ _ h => h) hr (by decide) (by rfl) (da_cons de_str (da_cons (de_var (pv 0)) da_nil))))
    (dss_one (ds_ret (wA (fun h => de_call (pe_callTy F.call_tupF (by rfl) T.b_tuple (by decide +kernel) h.pa) rd_tuple h) (da_cons (wA (fun h => de_call (pe_callB (cr_sortT hu64) (by rfl) T.b_sorted (by decide +kernel) h.pa) rd_sortT h) (da_cons (de_lc2D (own := [("resting", 1), ("choice", 2)]) (vs1 := [2]) rfl sc_choices_of.nd (di_seq (de_fnX (ok_rests_of T) (passes_call (takes_of rfl rfl rfl rfl) fun _ _ _ _ h => h) hr (by decide) (by rfl) (da_cons (de_var (pv 0)) da_nil))) (blkOk_by (by kernel_rfl)) (by decide) (fun _ _ _ _ _ => (dg_name (pg_name (i := 1) sc_choices_of.nd rfl (by first | exact Or.inl rfl | exact Or.inr rfl)))) (gin_name (by decide)) (fun _ _ _ _ _ => dpt_nil) (fun _ _ _ _ _ => (di_seq (de_fnX (ok_choices_beside T) passE0 hr (by decide) (by rfl) (da_cons (de_var (pv 0)) (da_cons (de_var (pv 1)) da_nil))))) (fun _ _ _ _ _ => (dg_name (pg_name (i := 2) sc_choices_of.nd rfl (by first | exact Or.inl rfl | exact Or.inr rfl)))) (gin_name (by decide)) (fun _ _ _ _ _ => dpt_nil) (fun _ _ _ _ _ => (de_var (pv 2)))) da_nil)) da_nil)))))⟩
abbrev nm_share_of : List Str := ["prime", "whole", "rest"]
theorem sc_share_of : FnScope nm_share_of ["prime", "whole"] (defScope s_share_of) := ⟨rfl, rfl, rfl, by decide +kernel, rfl, by decide +kernel, by decide +kernel⟩
theorem ok_share_of (T : Txt w K mg base) : FnX P w K mg base 2 "share_of" s_share_of ["prime", "whole"] m_share_of := by
  refine fnx_of (b := b_share_of) T.i_share_of sc_share_of (fun _ _ _ _ _ _ us hl => match us, hl with | [_, _], _ => rfl) (fun f cdv A outer s H E hr => ?_)
  have hu := hu_of hr
  have hu64 : (A.deeper (PyProof.Rows.envOfC "share_of" (defScope s_share_of) s.heap.objs.size f cdv)).units + 64 < cLine := by have := hr.un; omega
  have hu80 : (A.deeper (PyProof.Rows.envOfC "share_of" (defScope s_share_of) s.heap.objs.size f cdv)).units + 80 < cLine := by have := hr.un; omega
  exact ⟨_, (dss_cons (ds_set (i := 2) (fun h => ps_set (i := 2) sc_share_of.nd rfl (by first | exact Or.inl rfl | exact Or.inr rfl) h) (de_op op_fdivW rd_fdiv (de_var (pv 1)) (de_var (pv 0))))
    (dss_one (ds_ret (de_op op_mulG rd_mulG (de_var (pv 2)) (de_fnX (ok_raised_modulo T) (passes_call (takes_of rfl rfl rfl rfl) fun _ _ _ _ h => h) hr (by decide) (by rfl) (da_cons (de_var (pv 2)) (da_cons (de_op op_sub rd_sub (de_var (pv 0)) de_int) (da_cons (de_var (pv 0)) da_nil))))))))⟩
abbrev nm_turned_at : List Str := ["choice", "at", "other", "factors", "prime", "row"]
theorem sc_turned_at : FnScope nm_turned_at ["choice", "at", "other"] (defScope s_turned_at) := ⟨rfl, rfl, rfl, by decide +kernel, rfl, by decide +kernel, by decide +kernel⟩
theorem ok_turned_at (T : Txt w K mg base) : FnX P w K mg base 7 "turned_at" s_turned_at ["choice", "at", "other"] m_turned_at := by
  refine fnx_of (b := b_turned_at) T.i_turned_at sc_turned_at (fun _ _ _ _ _ _ us hl => match us, hl with | [_, _, _], _ => rfl) (fun f cdv A outer s H E hr => ?_)
  have hu := hu_of hr
  have hu64 : (A.deeper (PyProof.Rows.envOfC "turned_at" (defScope s_turned_at) s.heap.objs.size f cdv)).units + 64 < cLine := by have := hr.un; omega
  have hu80 : (A.deeper (PyProof.Rows.envOfC "turned_at" (defScope s_turned_at) s.heap.objs.size f cdv)).units + 80 < cLine := by have := hr.un; omega
  exact ⟨_, (dss_cons (ds_setLc (i := 3) (own := [("prime", 4), ("row", 5)]) rfl sc_turned_at.nd rfl rfl (sw_true rfl rfl rfl (by decide +kernel)) (di_seq (de_var (pv 0))) (blkOk_by (by kernel_rfl)) (fun _ _ _ _ _ => (dg_tup (fun h => pg_tup rfl h) (dgs_cons (dg_name (pg_name (i := 4) sc_turned_at.nd rfl (by first | exact Or.inl rfl | exact Or.inr rfl))) (dgs_cons (dg_name (pg_name (i := 5) sc_turned_at.nd rfl (by first | exact Or.inl rfl | exact Or.inr rfl))) dgs_nil)))) (gin_tup (gin_cons gm_name (gm_cons gm_name gm_nil) (gin_name (by decide)) (gin_cons gm_name gm_nil (gin_name (by decide)) gin_nil))) (fun _ _ _ _ _ => (dpt_one (dt_cmp (op_neB hu64) rd_neB (de_ix ix_seq rd_ix (de_var (pv 5)) (de_var (pv 1)) (fun _ _ => rfl)) de_int (nomark _)))) (fun _ _ _ _ _ => (de_fnX (ok_raised_modulo T) passE0 hr (by decide) (by rfl) (da_cons (de_fnX (ok_root_of T) passE0 hr (by decide) (by rfl) (da_cons (de_var (pv 4)) (da_cons (de_var (pv 2)) da_nil))) (da_cons (de_ix ix_seq rd_ix (de_var (pv 5)) (de_var (pv 1)) (fun _ _ => rfl)) (da_cons (de_var (pv 2)) da_nil))))))
    (dss_one (ds_ret (de_op op_mod rd_mod (de_fnX (ok_multiplied T) (passes_call (takes_of rfl rfl rfl rfl) fun _ _ _ _ h => h) hr (by decide) (by rfl) (da_cons (de_var (pv 3)) da_nil)) (de_var (pv 2))))))⟩
abbrev nm_group_of : List Str := ["count", "choice", "resting", "below", "many", "prime", "row", "factor", "at", "other"]
theorem sc_group_of : FnScope nm_group_of ["count", "choice"] (defScope s_group_of) := ⟨rfl, rfl, rfl, by decide +kernel, rfl, by decide +kernel, by decide +kernel⟩
theorem ok_group_of (T : Txt w K mg base) : FnX P w K mg base 12 "group_of" s_group_of ["count", "choice"] m_group_of := by
  refine fnx_of (b := b_group_of) T.i_group_of sc_group_of (fun _ _ _ _ _ _ us hl => match us, hl with | [_, _], _ => rfl) (fun f cdv A outer s H E hr => ?_)
  have hu := hu_of hr
  have hu64 : (A.deeper (PyProof.Rows.envOfC "group_of" (defScope s_group_of) s.heap.objs.size f cdv)).units + 64 < cLine := by have := hr.un; omega
  have hu80 : (A.deeper (PyProof.Rows.envOfC "group_of" (defScope s_group_of) s.heap.objs.size f cdv)).units + 80 < cLine := by have := hr.un; omega
  exact ⟨_, (dss_cons (ds_set (i := 2) (fun h => ps_set (i := 2) sc_group_of.nd rfl (by first | exact Or.inl rfl | exact Or.inr rfl) h) (de_fnX (ok_at_rest T) (passes_call (takes_of rfl rfl rfl rfl) fun _ _ _ _ h => h) hr (by decide) (by rfl) (da_cons (de_var (pv 0)) (da_cons (de_var (pv 1)) da_nil))))
    (dss_cons (ds_set (i := 3) (fun h => ps_set (i := 3) sc_group_of.nd rfl (by first | exact Or.inl rfl | exact Or.inr rfl) h) (de_fnX (ok_multiplied T) (passes_call (takes_of rfl rfl rfl rfl) fun _ _ _ _ h => h) hr (by decide) (by rfl) (da_cons (de_var (pv 2)) da_nil)))
    (dss_cons (ds_set (i := 4) (fun h => ps_set (i := 4) sc_group_of.nd rfl (by first | exact Or.inl rfl | exact Or.inr rfl) h) (de_fnX (ok_multiplied T) (passes_call (takes_of rfl rfl rfl rfl) fun _ _ _ _ h => h) hr (by decide) (by rfl) (da_cons (de_lcD (own := [("prime", 5), ("row", 6)]) rfl sc_group_of.nd (di_seq (de_var (pv 1))) (blkOk_by (by kernel_rfl)) (fun _ _ _ _ _ => (dg_tup (fun h => pg_tup rfl h) (dgs_cons (dg_name (pg_name (i := 5) sc_group_of.nd rfl (by first | exact Or.inl rfl | exact Or.inr rfl))) (dgs_cons (dg_name (pg_name (i := 6) sc_group_of.nd rfl (by first | exact Or.inl rfl | exact Or.inr rfl))) dgs_nil)))) (gin_tup (gin_cons gm_name (gm_cons gm_name gm_nil) (gin_name (by decide)) (gin_cons gm_name gm_nil (gin_name (by decide)) gin_nil))) (fun _ _ _ _ _ => dpt_nil) (fun _ _ _ _ _ => (de_var (pv 5)))) da_nil)))
    (dss_cons (ds_set (i := 7) (fun h => ps_set (i := 7) sc_group_of.nd rfl (by first | exact Or.inl rfl | exact Or.inr rfl) h) (wA (fun h => de_call (pe_callB (cr_sum rfl) (by rfl) T.b_sum (by decide +kernel) h.pa) rd_sum h) (da_cons (de_lcD (own := [("at", 8), ("other", 9)]) rfl sc_group_of.nd (wA (fun h => di_enumF h (F.pi_enumF (by rfl) T.b_enumerate h.pa)) (da_cons (de_var (pv 2)) da_nil)) (blkOk_by (by kernel_rfl)) (fun _ _ _ _ _ => (dg_tup (fun h => pg_tup rfl h) (dgs_cons (dg_name (pg_name (i := 8) sc_group_of.nd rfl (by first | exact Or.inl rfl | exact Or.inr rfl))) (dgs_cons (dg_name (pg_name (i := 9) sc_group_of.nd rfl (by first | exact Or.inl rfl | exact Or.inr rfl))) dgs_nil)))) (gin_tup (gin_cons gm_name (gm_cons gm_name gm_nil) (gin_name (by decide)) (gin_cons gm_name gm_nil (gin_name (by decide)) gin_nil))) (fun _ _ _ _ _ => dpt_nil) (fun _ _ _ _ _ => (de_op op_mulG rd_mulG (de_fnX (ok_turned_at T) passE0 hr (by decide) (by rfl) (da_cons (de_var (pv 1)) (da_cons (de_var (pv 8)) (da_cons (de_var (pv 9)) da_nil)))) (de_fnX (ok_share_of T) passE0 hr (by decide) (by rfl) (da_cons (de_var (pv 9)) (da_cons (de_var (pv 3)) da_nil)))))) da_nil)))
    (dss_one (ds_ret (de_tup (da_cons (de_tup (da_cons de_str (da_cons (de_var (pv 3)) (da_cons (de_var (pv 4)) (da_cons (de_op op_mod rd_mod (de_var (pv 7)) (de_var (pv 3))) da_nil))))) da_nil))))))))⟩
abbrev nm__law_feed : List Str := ["_law_script", "_law_cell"]
theorem sc__law_feed : FnScope nm__law_feed ["_law_script"] (defScope s__law_feed) := ⟨rfl, rfl, rfl, by decide +kernel, rfl, by decide +kernel, by decide +kernel⟩
theorem ok__law_feed (T : Txt w K mg base) : FnD P w K mg base 1 "_law_feed" s__law_feed ["_law_script"] m__law_feed := by
  refine fnd_of (b := b__law_feed) T.i__law_feed sc__law_feed (fun _ _ _ _ _ _ us hl => match us, hl with | [_], _ => rfl) (fun f cdv A outer s H E gd hr => ?_)
  have hu := hu_of hr
  have hu64 : (A.deeper (PyProof.Rows.envOfC "_law_feed" (defScope s__law_feed) s.heap.objs.size f cdv)).units + 64 < cLine := by have := hr.un; omega
  have hu80 : (A.deeper (PyProof.Rows.envOfC "_law_feed" (defScope s__law_feed) s.heap.objs.size f cdv)).units + 80 < cLine := by have := hr.un; omega
  exact ⟨_, (dss_one (ds_ret (wP (fun h => de_disp (pe_disp h.pp rfl rfl (by simp) (by decide)) h) (dpp_cons de_str (de_lcD (own := [("_law_cell", 1)]) rfl sc__law_feed.nd (di_seq (de_sl (de_var (pv 0)) do_none (do_some de_int))) (blkOk_by (by kernel_rfl)) (fun _ _ _ _ _ => (dg_name (pg_name (i := 1) sc__law_feed.nd rfl (by first | exact Or.inl rfl | exact Or.inr rfl)))) (gin_name (by decide)) (fun _ _ _ _ _ => dpt_nil) (fun _ _ _ _ _ => (wA (fun h => de_call (pe_callTy call_int1 (by rfl) T.b_int (by decide +kernel) h.pa) rd_int h) (da_cons (de_var (pv 1)) da_nil)))) (dpp_cons de_str de_int (dpp_cons de_str de_int (dpp_cons de_str de_int dpp_nil)))))))⟩
abbrev nm__law_draw : List Str := ["_law_feed_here", "_law_wide", "_law_digit", "_law_spot", "_law_cells", "_law_cell", "_law_mixed"]
theorem sc__law_draw : FnScope nm__law_draw ["_law_feed_here", "_law_wide"] (defScope s__law_draw) := ⟨rfl, rfl, rfl, by decide +kernel, rfl, by decide +kernel, by decide +kernel⟩
theorem ok__law_draw (T : Txt w K mg base) : FnD P w K mg base 1 "_law_draw" s__law_draw ["_law_feed_here", "_law_wide"] m__law_draw := by
  refine fnd_of (b := b__law_draw) T.i__law_draw sc__law_draw (fun _ _ _ _ _ _ us hl => match us, hl with | [_, _], _ => rfl) (fun f cdv A outer s H E gd hr => ?_)
  have hu := hu_of hr
  have hu64 : (A.deeper (PyProof.Rows.envOfC "_law_draw" (defScope s__law_draw) s.heap.objs.size f cdv)).units + 64 < cLine := by have := hr.un; omega
  have hu80 : (A.deeper (PyProof.Rows.envOfC "_law_draw" (defScope s__law_draw) s.heap.objs.size f cdv)).units + 80 < cLine := by have := hr.un; omega
  exact ⟨_, (dss_cons (wE (fun h1 => wE (fun h2 => wE (fun h3 => ds_dput (ps_dput hu h1.pe h2.pe h3.pe rfl) h1 h2 h3) (de_op op_addA rd_add (wE (fun h1 => wE (fun h2 => de_dget (pe_dget hu h1.pe h2.pe (fun _ _ => rfl)) h1 h2) de_str) (de_var (pv 0))) de_int)) de_str) (de_var (pv 0)))
    (dss_cons (ds_if (dt_cmp op_gt rd_gt (wE (fun h1 => wE (fun h2 => de_dget (pe_dget hu h1.pe h2.pe (fun _ _ => rfl)) h1 h2) de_str) (de_var (pv 0))) de_int (nomark _)) (dss_cons (ds_set (i := 2) (fun h => ps_set (i := 2) sc__law_draw.nd rfl (by first | exact Or.inl rfl | exact Or.inr rfl) h) (de_op op_mod rd_mod (wA (fun h => de_call (pe_callTy call_int1 (by rfl) T.b_int (by decide +kernel) h.pa) rd_int h) (da_cons (wE (fun h1 => wE (fun h2 => de_dget (pe_dget hu h1.pe h2.pe (fun _ _ => rfl)) h1 h2) de_str) (de_var (pv 0))) da_nil)) (de_var (pv 1))))
    (dss_cons (wE (fun h1 => wE (fun h2 => wE (fun h3 => ds_dput (ps_dput hu h1.pe h2.pe h3.pe rfl) h1 h2 h3) (de_op op_fdivW rd_fdiv (wE (fun h1 => wE (fun h2 => de_dget (pe_dget hu h1.pe h2.pe (fun _ _ => rfl)) h1 h2) de_str) (de_var (pv 0))) (de_var (pv 1)))) de_str) (de_var (pv 0)))
    (dss_one (ds_ret (de_var (pv 2)))))) dss_nil)
    (dss_cons (ds_par (i := 3) (j := 4) (fun h => ps_par (i := 3) (j := 4) rfl sc__law_draw.nd rfl rfl (by decide) rfl rfl h rfl) (da_cons (wE (fun h1 => wE (fun h2 => de_dget (pe_dget hu h1.pe h2.pe (fun _ _ => rfl)) h1 h2) de_str) (de_var (pv 0))) (da_cons (wE (fun h1 => wE (fun h2 => de_dget (pe_dget hu h1.pe h2.pe (fun _ _ => rfl)) h1 h2) de_str) (de_var (pv 0))) da_nil)))
    (dss_cons (wE (fun h1 => wE (fun h2 => wE (fun h3 => ds_dput (ps_dput hu h1.pe h2.pe h3.pe rfl) h1 h2 h3) (de_op op_addA rd_add (de_var (pv 3)) de_int)) de_str) (de_var (pv 0)))
    (dss_cons (ds_set (i := 5) (fun h => ps_set (i := 5) sc__law_draw.nd rfl (by first | exact Or.inl rfl | exact Or.inr rfl) h) (de_ifExp (dt_cmp (op_neB hu64) rd_neB (de_var (pv 4)) (de_lst da_nil) (nomark _)) (de_ix ix_seq rd_ix (de_var (pv 4)) (de_op op_mod rd_mod (wA (fun h => de_call (pe_callTy call_int1 (by rfl) T.b_int (by decide +kernel) h.pa) rd_int h) (da_cons (de_var (pv 3)) da_nil)) (wA (fun h => de_call (pe_callB cr_len (by rfl) T.b_len (by decide +kernel) h.pa) rd_len h) (da_cons (de_var (pv 4)) da_nil))) (fun _ _ => rfl)) de_int))
    (dss_cons (ds_if (dw_and (dt_cmp op_ge rd_ge (de_var (pv 5)) (de_op op_pow rd_pow de_int de_int) (nomark _)) (dw_and1 (dt_cmp op_lt rd_lt (de_var (pv 3)) (wA (fun h => de_call (pe_callB cr_len (by rfl) T.b_len (by decide +kernel) h.pa) rd_len h) (da_cons (de_var (pv 4)) da_nil)) (nomark _)))).dt (dss_cons (wE (fun h1 => wE (fun h2 => wE (fun h3 => ds_dput (ps_dput hu h1.pe h2.pe h3.pe rfl) h1 h2 h3) (de_op op_fdivW rd_fdiv (de_var (pv 5)) (de_var (pv 1)))) de_str) (de_var (pv 0)))
    (dss_one (ds_ret (de_op op_mod rd_mod (wA (fun h => de_call (pe_callTy call_int1 (by rfl) T.b_int (by decide +kernel) h.pa) rd_int h) (da_cons (de_var (pv 5)) da_nil)) (de_var (pv 1)))))) dss_nil)
    (dss_cons (ds_set (i := 6) (fun h => ps_set (i := 6) sc__law_draw.nd rfl (by first | exact Or.inl rfl | exact Or.inr rfl) h) (de_op op_mod rd_mod (wA (fun h => de_call (pe_callTy call_int1 (by rfl) T.b_int (by decide +kernel) h.pa) rd_int h) (da_cons (de_op op_addA rd_add (de_op op_addA rd_add (de_op op_mod rd_mod (wA (fun h => de_call (pe_callTy call_int1 (by rfl) T.b_int (by decide +kernel) h.pa) rd_int h) (da_cons (de_var (pv 5)) da_nil)) de_int) (de_op op_mulG rd_mulG de_int (wE (fun h1 => wE (fun h2 => de_dget (pe_dget hu h1.pe h2.pe (fun _ _ => rfl)) h1 h2) de_str) (de_var (pv 0))))) de_int) da_nil)) de_int))
    (dss_cons (ds_set (i := 6) (fun h => ps_set (i := 6) sc__law_draw.nd rfl (by first | exact Or.inl rfl | exact Or.inr rfl) h) (de_op op_mod rd_mod (wA (fun h => de_call (pe_callTy call_int1 (by rfl) T.b_int (by decide +kernel) h.pa) rd_int h) (da_cons (de_op op_addA rd_add (de_op op_addA rd_add (de_op op_mulG rd_mulG (de_var (pv 6)) (de_var (pv 6))) (de_op op_mulG rd_mulG de_int (wE (fun h1 => wE (fun h2 => de_dget (pe_dget hu h1.pe h2.pe (fun _ _ => rfl)) h1 h2) de_str) (de_var (pv 0))))) de_int) da_nil)) de_int))
    (dss_one (ds_ret (de_op op_mod rd_mod (wA (fun h => de_call (pe_callTy call_int1 (by rfl) T.b_int (by decide +kernel) h.pa) rd_int h) (da_cons (de_op op_fdivW rd_fdiv (de_op op_mod rd_mod (wA (fun h => de_call (pe_callTy call_int1 (by rfl) T.b_int (by decide +kernel) h.pa) rd_int h) (da_cons (de_op op_addA rd_add (de_op op_mulG rd_mulG (de_var (pv 6)) (de_var (pv 6))) (de_op op_mulG rd_mulG de_int (de_var (pv 6)))) da_nil)) de_int) de_int) da_nil)) (de_var (pv 1)))))))))))))⟩
abbrev nm__law_any : List Str := ["_law_feed_here", "_law_some"]
theorem sc__law_any : FnScope nm__law_any ["_law_feed_here", "_law_some"] (defScope s__law_any) := ⟨rfl, rfl, rfl, by decide +kernel, rfl, by decide +kernel, by decide +kernel⟩
theorem ok__law_any (T : Txt w K mg base) : FnD P w K mg base 2 "_law_any" s__law_any ["_law_feed_here", "_law_some"] m__law_any := by
  refine fnd_of (b := b__law_any) T.i__law_any sc__law_any (fun _ _ _ _ _ _ us hl => match us, hl with | [_, _], _ => rfl) (fun f cdv A outer s H E gd hr => ?_)
  have hu := hu_of hr
  have hu64 : (A.deeper (PyProof.Rows.envOfC "_law_any" (defScope s__law_any) s.heap.objs.size f cdv)).units + 64 < cLine := by have := hr.un; omega
  have hu80 : (A.deeper (PyProof.Rows.envOfC "_law_any" (defScope s__law_any) s.heap.objs.size f cdv)).units + 80 < cLine := by have := hr.un; omega
  exact ⟨_, (dss_one (ds_ret (de_ix ix_seq rd_ix (de_var (pv 1)) (de_fn (ok__law_draw T) gd hr (by decide) (by rfl) (da_cons (de_var (pv 0)) (da_cons (wA (fun h => de_call (pe_callB cr_len (by rfl) T.b_len (by decide +kernel) h.pa) rd_len h) (da_cons (de_var (pv 1)) da_nil)) da_nil))) (fun _ _ => rfl))))⟩
abbrev nm__law_lot : List Str := ["_law_primes_here", "_law_p"]
theorem sc__law_lot : FnScope nm__law_lot ["_law_primes_here"] (defScope s__law_lot) := ⟨rfl, rfl, rfl, by decide +kernel, rfl, by decide +kernel, by decide +kernel⟩
theorem ok__law_lot (T : Txt w K mg base) : FnD P w K mg base 1 "_law_lot" s__law_lot ["_law_primes_here"] m__law_lot := by
  refine fnd_of (b := b__law_lot) T.i__law_lot sc__law_lot (fun _ _ _ _ _ _ us hl => match us, hl with | [_], _ => rfl) (fun f cdv A outer s H E gd hr => ?_)
  have hu := hu_of hr
  have hu64 : (A.deeper (PyProof.Rows.envOfC "_law_lot" (defScope s__law_lot) s.heap.objs.size f cdv)).units + 64 < cLine := by have := hr.un; omega
  have hu80 : (A.deeper (PyProof.Rows.envOfC "_law_lot" (defScope s__law_lot) s.heap.objs.size f cdv)).units + 80 < cLine := by have := hr.un; omega
  exact ⟨_, (dss_one (ds_ret (wA (fun h => de_call (pe_callTy F.call_tupF (by rfl) T.b_tuple (by decide +kernel) h.pa) rd_tuple h) (da_cons (de_lcD (own := [("_law_p", 1)]) rfl sc__law_lot.nd (di_seq (de_var (pv 0))) (blkOk_by (by kernel_rfl)) (fun _ _ _ _ _ => (dg_name (pg_name (i := 1) sc__law_lot.nd rfl (by first | exact Or.inl rfl | exact Or.inr rfl)))) (gin_name (by decide)) (fun _ _ _ _ _ => dpt_nil) (fun _ _ _ _ _ => (de_tup (da_cons (de_var (pv 1)) (da_cons de_int da_nil))))) da_nil))))⟩
abbrev nm__law_primes : List Str := ["_law_feed_here", "_law_most", "_law_pools", "_law_pool", "_law_found", "_law_p"]
theorem sc__law_primes : FnScope nm__law_primes ["_law_feed_here", "_law_most"] (defScope s__law_primes) := ⟨rfl, rfl, rfl, by decide +kernel, rfl, by decide +kernel, by decide +kernel⟩
theorem ok__law_primes (T : Txt w K mg base) : FnD P w K mg base 3 "_law_primes" s__law_primes ["_law_feed_here", "_law_most"] m__law_primes := by
  refine fnd_of (b := b__law_primes) T.i__law_primes sc__law_primes (fun _ _ _ _ _ _ us hl => match us, hl with | [_, _], _ => rfl) (fun f cdv A outer s H E gd hr => ?_)
  have hu := hu_of hr
  have hu64 : (A.deeper (PyProof.Rows.envOfC "_law_primes" (defScope s__law_primes) s.heap.objs.size f cdv)).units + 64 < cLine := by have := hr.un; omega
  have hu80 : (A.deeper (PyProof.Rows.envOfC "_law_primes" (defScope s__law_primes) s.heap.objs.size f cdv)).units + 80 < cLine := by have := hr.un; omega
  exact ⟨_, (dss_cons (ds_set (i := 2) (fun h => ps_set (i := 2) sc__law_primes.nd rfl (by first | exact Or.inl rfl | exact Or.inr rfl) h) (de_lst (da_cons (de_lst (da_cons de_int (da_cons de_int (da_cons de_int (da_cons de_int (da_cons de_int (da_cons de_int da_nil))))))) (da_cons (de_lst (da_cons de_int (da_cons de_int (da_cons de_int (da_cons de_int (da_cons de_int da_nil)))))) (da_cons (de_lst (da_cons de_int (da_cons de_int (da_cons de_int (da_cons de_int (da_cons de_int da_nil)))))) (da_cons (de_lst (da_cons de_int (da_cons de_int (da_cons de_int (da_cons de_int (da_cons de_int da_nil)))))) (da_cons (de_lst (da_cons de_int (da_cons de_int (da_cons de_int (da_cons de_int (da_cons de_int da_nil)))))) da_nil)))))))
    (dss_cons (ds_par (i := 3) (j := 4) (fun h => ps_par (i := 3) (j := 4) rfl sc__law_primes.nd rfl rfl (by decide) rfl rfl h rfl) (da_cons (de_fn (ok__law_any T) gd hr (by decide) (by rfl) (da_cons (de_var (pv 0)) (da_cons (de_op op_addA rd_add (de_var (pv 2)) (de_lst (da_cons (de_lst (da_cons de_int (da_cons de_int (da_cons de_int (da_cons de_int da_nil))))) (da_cons (de_lst (da_cons de_int (da_cons de_int (da_cons de_int (da_cons de_int (da_cons de_int da_nil)))))) da_nil)))) da_nil))) (da_cons (de_lstO da_nil) da_nil)))
    (dss_cons (ds_for PassesOwn.never rfl (di_seq (de_var (pv 3))) (dg_name (pg_name (i := 5) sc__law_primes.nd rfl (by first | exact Or.inl rfl | exact Or.inr rfl)))
    (dss_one (ds_if (dw_and (dt_cmp op_lt rd_lt (wA (fun h => de_call (pe_callB cr_len (by rfl) T.b_len (by decide +kernel) h.pa) rd_len h) (da_cons (de_var (pv 4)) da_nil)) (de_var (pv 1)) (nomark _)) (dw_and1 (dt_cmp op_gt rd_gt (de_fn (ok__law_draw T) gd hr (by decide) (by rfl) (da_cons (de_var (pv 0)) (da_cons de_int da_nil))) de_int (nomark _)))).dt (dss_one (ds_expr (fun h => ps_expr h) (wE (fun h1 => wE (fun h2 => de_append (pe_bm PySem.F.plainAttrs_list PySem.F.slot_list_append PySem.F.type_list_append mt_append h1.pe (da_cons h2 da_nil).pa) h1 h2) (de_var (pv 5))) (de_var (pv 4))))) dss_nil)))
    (dss_one (ds_ret (de_var (pv 4)))))))⟩
abbrev nm__law_rows : List Str := ["_law_p", "_law_rest", "_law_found", "_law_q", "_law_top", "_law_late", "_law_row", "_law_k"]
theorem sc__law_rows : FnScope nm__law_rows ["_law_p", "_law_rest"] (defScope s__law_rows) := ⟨rfl, rfl, rfl, by decide +kernel, rfl, by decide +kernel, by decide +kernel⟩
theorem ok__law_rows (T : Txt w K mg base) : FnD P w K mg base 1 "_law_rows" s__law_rows ["_law_p", "_law_rest"] m__law_rows := by
  refine fnd_of (b := b__law_rows) T.i__law_rows sc__law_rows (fun _ _ _ _ _ _ us hl => match us, hl with | [_, _], _ => rfl) (fun f cdv A outer s H E gd hr => ?_)
  have hu := hu_of hr
  have hu64 : (A.deeper (PyProof.Rows.envOfC "_law_rows" (defScope s__law_rows) s.heap.objs.size f cdv)).units + 64 < cLine := by have := hr.un; omega
  have hu80 : (A.deeper (PyProof.Rows.envOfC "_law_rows" (defScope s__law_rows) s.heap.objs.size f cdv)).units + 80 < cLine := by have := hr.un; omega
  exact ⟨_, (dss_cons (ds_set (i := 2) (fun h => ps_set (i := 2) sc__law_rows.nd rfl (by first | exact Or.inl rfl | exact Or.inr rfl) h) (de_lst (da_cons (de_tup da_nil) da_nil)))
    (dss_cons (ds_for PassesOwn.never rfl (di_seq (de_var (pv 1))) (dg_name (pg_name (i := 3) sc__law_rows.nd rfl (by first | exact Or.inl rfl | exact Or.inr rfl)))
    (dss_cons (ds_par (i := 4) (j := 5) (fun h => ps_par (i := 4) (j := 5) rfl sc__law_rows.nd rfl rfl (by decide) rfl rfl h rfl) (da_cons (de_ifExp (dt_cmp (op_eqB hu64) rd_eqB (de_op op_mod rd_mod (wA (fun h => de_call (pe_callTy call_int1 (by rfl) T.b_int (by decide +kernel) h.pa) rd_int h) (da_cons (de_op op_sub rd_sub (de_var (pv 3)) de_int) da_nil)) (de_var (pv 0))) de_int (nomark _)) (de_var (pv 0)) de_int) (da_cons (de_lst da_nil) da_nil)))
    (dss_cons (ds_for PassesOwn.never rfl (di_seq (de_var (pv 2))) (dg_name (pg_name (i := 6) sc__law_rows.nd rfl (by first | exact Or.inl rfl | exact Or.inr rfl)))
    (dss_one (ds_set (i := 5) (fun h => ps_set (i := 5) sc__law_rows.nd rfl (by first | exact Or.inl rfl | exact Or.inr rfl) h) (de_op op_addA rd_add (de_var (pv 5)) (de_lcD (own := [("_law_k", 7)]) rfl sc__law_rows.nd (wA (fun h => di_range1 h (pi_range1 (by rfl) T.b_range h.pa)) (da_cons (de_var (pv 4)) da_nil)) (blkOk_by (by kernel_rfl)) (fun _ _ _ _ _ => (dg_name (pg_name (i := 7) sc__law_rows.nd rfl (by first | exact Or.inl rfl | exact Or.inr rfl)))) (gin_name (by decide)) (fun _ _ _ _ _ => dpt_nil) (fun _ _ _ _ _ => (de_op op_addA rd_add (de_var (pv 6)) (de_tup (da_cons (de_var (pv 7)) da_nil)))))))))
    (dss_one (ds_set (i := 2) (fun h => ps_set (i := 2) sc__law_rows.nd rfl (by first | exact Or.inl rfl | exact Or.inr rfl) h) (de_var (pv 5)))))))
    (dss_one (ds_ret (de_lcD (own := [("_law_row", 6)]) rfl sc__law_rows.nd (di_seq (de_var (pv 2))) (blkOk_by (by kernel_rfl)) (fun _ _ _ _ _ => (dg_name (pg_name (i := 6) sc__law_rows.nd rfl (by first | exact Or.inl rfl | exact Or.inr rfl)))) (gin_name (by decide)) (fun _ _ _ _ _ => (dpt_one (dt_cmp (op_eqB hu64) rd_eqB (de_sl (de_lcD (own := [("_law_k", 7)]) rfl sc__law_rows.nd (di_seq (de_var (pv 6))) (blkOk_by (by kernel_rfl)) (fun _ _ _ _ _ => (dg_name (pg_name (i := 7) sc__law_rows.nd rfl (by first | exact Or.inl rfl | exact Or.inr rfl)))) (gin_name (by decide)) (fun _ _ _ _ _ => (dpt_one (dt_cmp (op_neB hu64) rd_neB (de_var (pv 7)) de_int (nomark _)))) (fun _ _ _ _ _ => (de_var (pv 7)))) do_none (do_some de_int)) (de_lst (da_cons de_int da_nil)) (nomark _)))) (fun _ _ _ _ _ => (de_var (pv 6))))))))⟩
abbrev nm__law_choices : List Str := ["_law_primes_here", "_law_lots", "_law_found", "_law_p", "_law_one", "_law_acting", "_law_rest", "_law_some", "_law_q", "_law_late", "_law_rows_here", "_law_row"]
theorem sc__law_choices : FnScope nm__law_choices ["_law_primes_here"] (defScope s__law_choices) := ⟨rfl, rfl, rfl, by decide +kernel, rfl, by decide +kernel, by decide +kernel⟩
theorem ok__law_choices (T : Txt w K mg base) : FnD P w K mg base 2 "_law_choices" s__law_choices ["_law_primes_here"] m__law_choices := by
  refine fnd_of (b := b__law_choices) T.i__law_choices sc__law_choices (fun _ _ _ _ _ _ us hl => match us, hl with | [_], _ => rfl) (fun f cdv A outer s H E gd hr => ?_)
  have hu := hu_of hr
  have hu64 : (A.deeper (PyProof.Rows.envOfC "_law_choices" (defScope s__law_choices) s.heap.objs.size f cdv)).units + 64 < cLine := by have := hr.un; omega
  have hu80 : (A.deeper (PyProof.Rows.envOfC "_law_choices" (defScope s__law_choices) s.heap.objs.size f cdv)).units + 80 < cLine := by have := hr.un; omega
  exact ⟨_, (dss_cons (ds_par (i := 1) (j := 2) (fun h => ps_par (i := 1) (j := 2) rfl sc__law_choices.nd rfl rfl (by decide) rfl rfl h rfl) (da_cons (de_lst (da_cons (de_tup da_nil) da_nil)) (da_cons (de_lst da_nil) da_nil)))
    (dss_cons (ds_for PassesOwn.never rfl (di_seq (de_var (pv 0))) (dg_name (pg_name (i := 3) sc__law_choices.nd rfl (by first | exact Or.inl rfl | exact Or.inr rfl)))
    (dss_one (ds_set (i := 1) (fun h => ps_set (i := 1) sc__law_choices.nd rfl (by first | exact Or.inl rfl | exact Or.inr rfl) h) (de_op op_addA rd_add (de_var (pv 1)) (de_lcD (own := [("_law_one", 4)]) rfl sc__law_choices.nd (di_seq (de_var (pv 1))) (blkOk_by (by kernel_rfl)) (fun _ _ _ _ _ => (dg_name (pg_name (i := 4) sc__law_choices.nd rfl (by first | exact Or.inl rfl | exact Or.inr rfl)))) (gin_name (by decide)) (fun _ _ _ _ _ => dpt_nil) (fun _ _ _ _ _ => (de_op op_addA rd_add (de_var (pv 4)) (de_tup (da_cons (de_var (pv 3)) da_nil)))))))))
    (dss_cons (ds_for PassesOwn.never rfl (di_seq (de_var (pv 1))) (dg_name (pg_name (i := 5) sc__law_choices.nd rfl (by first | exact Or.inl rfl | exact Or.inr rfl)))
    (dss_cons (ds_par (i := 6) (j := 7) (fun h => ps_par (i := 6) (j := 7) rfl sc__law_choices.nd rfl rfl (by decide) rfl rfl h rfl) (da_cons (de_lcD (own := [("_law_q", 8)]) rfl sc__law_choices.nd (di_seq (de_var (pv 0))) (blkOk_by (by kernel_rfl)) (fun _ _ _ _ _ => (dg_name (pg_name (i := 8) sc__law_choices.nd rfl (by first | exact Or.inl rfl | exact Or.inr rfl)))) (gin_name (by decide)) (fun _ _ _ _ _ => (dpt_one (dt_cmp (op_notInX hu64) rd_inX (de_var (pv 8)) (de_var (pv 5)) rfl))) (fun _ _ _ _ _ => (de_var (pv 8)))) (da_cons (de_lst (da_cons (de_tup da_nil) da_nil)) da_nil)))
    (dss_cons (ds_for PassesOwn.never rfl (di_seq (de_var (pv 5))) (dg_name (pg_name (i := 3) sc__law_choices.nd rfl (by first | exact Or.inl rfl | exact Or.inr rfl)))
    (dss_cons (ds_par (i := 9) (j := 10) (fun h => ps_par (i := 9) (j := 10) rfl sc__law_choices.nd rfl rfl (by decide) rfl rfl h rfl) (da_cons (de_lst da_nil) (da_cons (de_fnP (ok__law_rows T) gd hr (by decide) (by rfl) (da_cons (de_var (pv 3)) (da_cons (de_var (pv 6)) da_nil))) da_nil)))
    (dss_cons (ds_for PassesOwn.never rfl (di_seq (de_var (pv 7))) (dg_name (pg_name (i := 4) sc__law_choices.nd rfl (by first | exact Or.inl rfl | exact Or.inr rfl)))
    (dss_one (ds_set (i := 9) (fun h => ps_set (i := 9) sc__law_choices.nd rfl (by first | exact Or.inl rfl | exact Or.inr rfl) h) (de_op op_addA rd_add (de_var (pv 9)) (de_lcD (own := [("_law_row", 11)]) rfl sc__law_choices.nd (di_seq (de_var (pv 10))) (blkOk_by (by kernel_rfl)) (fun _ _ _ _ _ => (dg_name (pg_name (i := 11) sc__law_choices.nd rfl (by first | exact Or.inl rfl | exact Or.inr rfl)))) (gin_name (by decide)) (fun _ _ _ _ _ => dpt_nil) (fun _ _ _ _ _ => (de_op op_addA rd_add (de_var (pv 4)) (de_tup (da_cons (de_tup (da_cons (de_var (pv 3)) (da_cons (de_var (pv 11)) da_nil))) da_nil)))))))))
    (dss_one (ds_set (i := 7) (fun h => ps_set (i := 7) sc__law_choices.nd rfl (by first | exact Or.inl rfl | exact Or.inr rfl) h) (de_var (pv 9)))))))
    (dss_one (ds_set (i := 2) (fun h => ps_set (i := 2) sc__law_choices.nd rfl (by first | exact Or.inl rfl | exact Or.inr rfl) h) (de_op op_addA rd_add (de_var (pv 2)) (de_var (pv 7))))))))
    (dss_one (ds_ret (wA (fun h => de_call (pe_callB (cr_sortT hu64) (by rfl) T.b_sorted (by decide +kernel) h.pa) rd_sortT h) (da_cons (de_var (pv 2)) da_nil)))))))⟩
abbrev nm__law_how_many : List Str := ["_law_primes_here", "_law_lots", "_law_total", "_law_p", "_law_one", "_law_acting", "_law_ways", "_law_great", "_law_q"]
theorem sc__law_how_many : FnScope nm__law_how_many ["_law_primes_here"] (defScope s__law_how_many) := ⟨rfl, rfl, rfl, by decide +kernel, rfl, by decide +kernel, by decide +kernel⟩
theorem ok__law_how_many (T : Txt w K mg base) : FnD P w K mg base 1 "_law_how_many" s__law_how_many ["_law_primes_here"] m__law_how_many := by
  refine fnd_of (b := b__law_how_many) T.i__law_how_many sc__law_how_many (fun _ _ _ _ _ _ us hl => match us, hl with | [_], _ => rfl) (fun f cdv A outer s H E gd hr => ?_)
  have hu := hu_of hr
  have hu64 : (A.deeper (PyProof.Rows.envOfC "_law_how_many" (defScope s__law_how_many) s.heap.objs.size f cdv)).units + 64 < cLine := by have := hr.un; omega
  have hu80 : (A.deeper (PyProof.Rows.envOfC "_law_how_many" (defScope s__law_how_many) s.heap.objs.size f cdv)).units + 80 < cLine := by have := hr.un; omega
  exact ⟨_, (dss_cons (ds_par (i := 1) (j := 2) (fun h => ps_par (i := 1) (j := 2) rfl sc__law_how_many.nd rfl rfl (by decide) rfl rfl h rfl) (da_cons (de_lst (da_cons (de_lst da_nil) da_nil)) (da_cons de_int da_nil)))
    (dss_cons (ds_for PassesOwn.never rfl (di_seq (de_var (pv 0))) (dg_name (pg_name (i := 3) sc__law_how_many.nd rfl (by first | exact Or.inl rfl | exact Or.inr rfl)))
    (dss_one (ds_set (i := 1) (fun h => ps_set (i := 1) sc__law_how_many.nd rfl (by first | exact Or.inl rfl | exact Or.inr rfl) h) (de_op op_addA rd_add (de_var (pv 1)) (de_lcD (own := [("_law_one", 4)]) rfl sc__law_how_many.nd (di_seq (de_var (pv 1))) (blkOk_by (by kernel_rfl)) (fun _ _ _ _ _ => (dg_name (pg_name (i := 4) sc__law_how_many.nd rfl (by first | exact Or.inl rfl | exact Or.inr rfl)))) (gin_name (by decide)) (fun _ _ _ _ _ => dpt_nil) (fun _ _ _ _ _ => (de_op op_addA rd_add (de_var (pv 4)) (de_lst (da_cons (de_var (pv 3)) da_nil)))))))))
    (dss_cons (ds_for PassesOwn.never rfl (di_seq (de_var (pv 1))) (dg_name (pg_name (i := 5) sc__law_how_many.nd rfl (by first | exact Or.inl rfl | exact Or.inr rfl)))
    (dss_cons (ds_set (i := 6) (fun h => ps_set (i := 6) sc__law_how_many.nd rfl (by first | exact Or.inl rfl | exact Or.inr rfl) h) de_int)
    (dss_cons (ds_for PassesOwn.never rfl (di_seq (de_var (pv 5))) (dg_name (pg_name (i := 3) sc__law_how_many.nd rfl (by first | exact Or.inl rfl | exact Or.inr rfl)))
    (dss_cons (ds_set (i := 7) (fun h => ps_set (i := 7) sc__law_how_many.nd rfl (by first | exact Or.inl rfl | exact Or.inr rfl) h) de_int)
    (dss_cons (ds_for PassesOwn.never rfl (di_seq (de_var (pv 0))) (dg_name (pg_name (i := 8) sc__law_how_many.nd rfl (by first | exact Or.inl rfl | exact Or.inr rfl)))
    (dss_one (ds_if (dw_and (dt_cmp (op_notInX hu64) rd_inX (de_var (pv 8)) (de_var (pv 5)) rfl) (dw_and1 (dt_cmp (op_eqB hu64) rd_eqB (de_op op_mod rd_mod (wA (fun h => de_call (pe_callTy call_int1 (by rfl) T.b_int (by decide +kernel) h.pa) rd_int h) (da_cons (de_op op_sub rd_sub (de_var (pv 8)) de_int) da_nil)) (de_var (pv 3))) de_int (nomark _)))).dt (dss_one (ds_set (i := 7) (fun h => ps_set (i := 7) sc__law_how_many.nd rfl (by first | exact Or.inl rfl | exact Or.inr rfl) h) (de_op op_mulG rd_mulG (de_var (pv 7)) (de_var (pv 3))))) dss_nil)))
    (dss_one (ds_set (i := 6) (fun h => ps_set (i := 6) sc__law_how_many.nd rfl (by first | exact Or.inl rfl | exact Or.inr rfl) h) (de_op op_mulG rd_mulG (de_var (pv 6)) (de_op op_fdivW rd_fdiv (de_op op_sub rd_sub (de_var (pv 7)) de_int) (de_op op_sub rd_sub (de_var (pv 3)) de_int))))))))
    (dss_one (ds_set (i := 2) (fun h => ps_set (i := 2) sc__law_how_many.nd rfl (by first | exact Or.inl rfl | exact Or.inr rfl) h) (de_op op_addA rd_add (de_var (pv 2)) (de_var (pv 6))))))))
    (dss_one (ds_ret (de_var (pv 2)))))))⟩
abbrev nm__law_are_choices_right : List Str := ["_law_primes_here", "_law_lot_here", "_law_most", "_law_due", "_law_groups", "_law_what"]
theorem sc__law_are_choices_right : FnScope nm__law_are_choices_right ["_law_primes_here"] (defScope s__law_are_choices_right) := ⟨rfl, rfl, rfl, by decide +kernel, rfl, by decide +kernel, by decide +kernel⟩
theorem ok__law_are_choices_right (T : Txt w K mg base) : FnD P w K mg base 13 "_law_are_choices_right" s__law_are_choices_right ["_law_primes_here"] m__law_are_choices_right := by
  refine fnd_of (b := b__law_are_choices_right) T.i__law_are_choices_right sc__law_are_choices_right (fun _ _ _ _ _ _ us hl => match us, hl with | [_], _ => rfl) (fun f cdv A outer s H E gd hr => ?_)
  have hu := hu_of hr
  have hu64 : (A.deeper (PyProof.Rows.envOfC "_law_are_choices_right" (defScope s__law_are_choices_right) s.heap.objs.size f cdv)).units + 64 < cLine := by have := hr.un; omega
  have hu80 : (A.deeper (PyProof.Rows.envOfC "_law_are_choices_right" (defScope s__law_are_choices_right) s.heap.objs.size f cdv)).units + 80 < cLine := by have := hr.un; omega
  exact ⟨_, (dss_cons (ds_par (i := 1) (j := 2) (fun h => ps_par (i := 1) (j := 2) rfl sc__law_are_choices_right.nd rfl rfl (by decide) rfl rfl h rfl) (da_cons (de_fnP (ok__law_lot T) gd hr (by decide) (by rfl) (da_cons (de_var (pv 0)) da_nil)) (da_cons (de_fnP (ok__law_how_many T) gd hr (by decide) (by rfl) (da_cons (de_var (pv 0)) da_nil)) da_nil)))
    (dss_cons (ds_if (dw_or (dt_cmp (op_neB hu64) rd_neB (de_fnX (ok_how_many_groups T) passE0 hr (by decide) (by rfl) (da_cons (de_var (pv 1)) da_nil)) (de_var (pv 2)) (nomark _)) (dw_or1 (dt_val (wE (fun h => de_isi (pe_isi isi_bool h.pe (by rfl) T.b_isinstance (by rfl) T.b_bool rfl) h) (de_fnX (ok_how_many_groups T) passE0 hr (by decide) (by rfl) (da_cons (de_var (pv 1)) da_nil)))))).dt (dss_one (ds_ret de_bl)) dss_nil)
    (dss_cons (ds_if (dt_cmp op_gt rd_gt (de_var (pv 2)) de_int (nomark _)) (dss_one (ds_ret de_bl)) dss_nil)
    (dss_cons (ds_set (i := 3) (fun h => ps_set (i := 3) sc__law_are_choices_right.nd rfl (by first | exact Or.inl rfl | exact Or.inr rfl) h) (de_fnP (ok__law_choices T) gd hr (by decide) (by rfl) (da_cons (de_var (pv 0)) da_nil)))
    (dss_cons (ds_if (dw_or (dt_cmp (op_neB hu64) rd_neB (wA (fun h => de_call (pe_callB cr_len (by rfl) T.b_len (by decide +kernel) h.pa) rd_len h) (da_cons (de_var (pv 3)) da_nil)) (de_var (pv 2)) (nomark _)) (dw_or1 (dt_repNe (dt_cmp (op_neB hu64) rd_neB (wA (fun h => de_call (pe_callB (call_reprD gd hu80) (by rfl) T.b_repr (by decide +kernel) h.pa) rd_repr h) (da_cons (de_fnX (ok_choices_of T) passE0 hr (by decide) (by rfl) (da_cons (de_var (pv 1)) da_nil)) da_nil)) (wA (fun h => de_call (pe_callB (call_reprD gd hu80) (by rfl) T.b_repr (by decide +kernel) h.pa) rd_repr h) (da_cons (wA (fun h => de_call (pe_callTy F.call_tupF (by rfl) T.b_tuple (by decide +kernel) h.pa) rd_tuple h) (da_cons (de_var (pv 3)) da_nil)) da_nil)) (nomark _))))).dt (dss_one (ds_ret de_bl)) dss_nil)
    (dss_cons (ds_set (i := 4) (fun h => ps_set (i := 4) sc__law_are_choices_right.nd rfl (by first | exact Or.inl rfl | exact Or.inr rfl) h) (de_lstO da_nil))
    (dss_cons (ds_for PassesOwn.never rfl (di_seq (de_sl (de_var (pv 3)) do_none (do_some de_int))) (dg_name (pg_name (i := 5) sc__law_are_choices_right.nd rfl (by first | exact Or.inl rfl | exact Or.inr rfl)))
    (dss_cons (ds_if (dt_repNe (dt_cmp (op_neB hu64) rd_neB (wA (fun h => de_call (pe_callB (call_reprD gd hu80) (by rfl) T.b_repr (by decide +kernel) h.pa) rd_repr h) (da_cons (de_fnX (ok_lets_choice T) passE0 hr (by decide) (by rfl) (da_cons (de_var (pv 1)) (da_cons (de_var (pv 5)) da_nil))) da_nil)) (wA (fun h => de_call (pe_callB (call_reprD gd hu80) (by rfl) T.b_repr (by decide +kernel) h.pa) rd_repr h) (da_cons (wA (fun h => de_call (pe_callB cr_len (by rfl) T.b_len (by decide +kernel) h.pa) rd_len h) (da_cons (de_var (pv 5)) da_nil)) da_nil)) (nomark _))) (dss_one (ds_ret de_bl)) dss_nil)
    (dss_one (ds_expr (fun h => ps_expr h) (wE (fun h1 => wE (fun h2 => de_append (pe_bm PySem.F.plainAttrs_list PySem.F.slot_list_append PySem.F.type_list_append mt_append h1.pe (da_cons h2 da_nil).pa) h1 h2) (wA (fun h => de_call (pe_callB (call_reprD gd hu80) (by rfl) T.b_repr (by decide +kernel) h.pa) rd_repr h) (da_cons (de_fnX (ok_group_of T) passE0 hr (by decide) (by rfl) (da_cons (de_var (pv 1)) (da_cons (de_var (pv 5)) da_nil))) da_nil))) (de_var (pv 4)))))))
    (dss_one (ds_ret (de_cmp (op_eqB hu64) rd_eqB (wE (fun h => de_lenSet (L2.pe_lenSetS rfl (by rfl) T.b_len (by rfl) T.b_set h.pe) h) (de_var (pv 4))) (wA (fun h => de_call (pe_callB cr_len (by rfl) T.b_len (by decide +kernel) h.pa) rd_len h) (da_cons (de_var (pv 4)) da_nil)) (nomark _)))))))))))⟩
abbrev nm_law : List Str := ["_law_script", "_law_feed_here", "_law_lap"]
theorem sc_law : FnScope nm_law ["_law_script"] (defScope s_law) := ⟨rfl, rfl, rfl, by decide +kernel, rfl, by decide +kernel, by decide +kernel⟩
theorem ok_law (T : Txt w K mg base) : FnD P w K mg base 14 "law" s_law ["_law_script"] m_law := by
  refine fnd_of (b := b_law) T.i_law sc_law (fun _ _ _ _ _ _ us hl => match us, hl with | [_], _ => rfl) (fun f cdv A outer s H E gd hr => ?_)
  have hu := hu_of hr
  have hu64 : (A.deeper (PyProof.Rows.envOfC "law" (defScope s_law) s.heap.objs.size f cdv)).units + 64 < cLine := by have := hr.un; omega
  have hu80 : (A.deeper (PyProof.Rows.envOfC "law" (defScope s_law) s.heap.objs.size f cdv)).units + 80 < cLine := by have := hr.un; omega
  exact ⟨_, (dss_cons (ds_set (i := 1) (fun h => ps_set (i := 1) sc_law.nd rfl (by first | exact Or.inl rfl | exact Or.inr rfl) h) (de_fn (ok__law_feed T) gd hr (by decide) (by rfl) (da_cons (de_var (pv 0)) da_nil)))
    (dss_cons (ds_for PassesOwn.never rfl (wA (fun h => di_range1 h (pi_range1 (by rfl) T.b_range h.pa)) (da_cons de_int da_nil)) (dg_name (pg_name (i := 2) sc_law.nd rfl (by first | exact Or.inl rfl | exact Or.inr rfl)))
    (dss_trim [2] (dss_one (ds_if (dt_not (dt_val (de_fnP (ok__law_are_choices_right T) gd hr (by decide) (by rfl) (da_cons (de_fn (ok__law_primes T) gd hr (by decide) (by rfl) (da_cons (de_var (pv 1)) (da_cons (de_op op_addA rd_add de_int (de_fn (ok__law_draw T) gd hr (by decide) (by rfl) (da_cons (de_var (pv 1)) (da_cons de_int da_nil)))) da_nil))) da_nil)))) (dss_one (ds_ret de_bl)) dss_nil))))
    (dss_one (ds_ret (de_fnP (ok__law_are_choices_right T) gd hr (by decide) (by rfl) (da_cons (de_lst (da_cons de_int (da_cons de_int (da_cons (de_ix ix_seq rd_ix (de_lst (da_cons de_int (da_cons de_int (da_cons de_int da_nil)))) (de_fn (ok__law_draw T) gd hr (by decide) (by rfl) (da_cons (de_var (pv 1)) (da_cons de_int da_nil))) (fun _ _ => rfl)) da_nil)))) da_nil))))))⟩
end
end Z

set_option maxRecDepth 100000
set_option maxHeartbeats 4000000
namespace Z
open PySem L2 G D
variable [Ad]
abbrev feedD (cs : List Int) (s r t : Int) : Ob := .dct [(.inr "cells", .list (dints cs)), (.inr "spot", .int s), (.inr "rest", .int r), (.inr "turn", .int t)]
/-- a draw: below m; the feed's own numbers go on -/
theorem draw_gen {w : Om} {n : Nat} {cs : List Int} {s r t m : Int} (h : w[n]? = some (feedD cs s r t)) (hs : 0 ≤ s) (ht : 0 ≤ t) (ht2 : t < 2 ^ 62) (hm : 0 < m) (hm2 : m < 2 ^ 62) :
    ∃ b s' r' : Int, 0 ≤ b ∧ b < m ∧ 0 ≤ s' ∧ m__law_draw [.o n, .d (.int m)] w = .ok (.d (.int b)) (w.set n (feedD cs s' r' (t + 1))) := by
  show (fun fl => ∃ b s' r' : Int, 0 ≤ b ∧ b < m ∧ 0 ≤ s' ∧ fin false w.length fl = .ok (.d (.int b)) (w.set n (feedD cs s' r' (t + 1)))) (b__law_draw [some (.o n), some (.d (.int m)), none, none, none, none, none] w)
  have fine : ∀ (z s' r' : Int), 0 ≤ s' → (fun fl => ∃ b s' r' : Int, 0 ≤ b ∧ b < m ∧ 0 ≤ s' ∧ fin false w.length fl = .ok (.d (.int b)) (w.set n (feedD cs s' r' (t + 1)))) (.rt (.d (.int (z % m))) (w.set n (feedD cs s' r' (t + 1)))) := fun z s' r' h => ⟨z % m, s', r', Int.emod_nonneg z (by omega), Int.emod_lt_of_pos z hm, h, fin_rt⟩
  generalize (fun fl => ∃ b s' r' : Int, 0 ≤ b ∧ b < m ∧ 0 ≤ s' ∧ fin false w.length fl = .ok (.d (.int b)) (w.set n (feedD cs s' r' (t + 1)))) = P at *
  have hm3 : m < 2 ^ 63 := by omega
  unfold b__law_draw
  refine fl_seq (fl_dput (kvs' := [(.inr "cells", .list (dints cs)), (.inr "spot", .int s), (.inr "rest", .int r), (.inr "turn", .int (t + 1))]) (by rfl) (ev_op (ev_dget (by rfl) h (by rfl) (by rfl)) (by rfl) (by rfl)) h (by rfl) (by show (4 : Nat) < 100000; decide) (by rfl)) ?_
  have h1 := set_at (u := feedD cs s r (t + 1)) h
  by_cases hr : 0 < r
  · refine fl_seqT (ev_test (k := true) (ev_op (ev_dget (by rfl) h1 (by rfl) (by rfl)) (by rfl) (by show some (PyData.bool (decide (0 < r))) = _; rw [decide_eq_true hr]))) ⟨.d (.int (r % m)), w.set n (feedD cs s (r / m) (t + 1)), ?_, fine r s (r / m) hs⟩
    refine fl_seq (P := fun fl => fl = _) (fl_asg (ev_op (ev_int (ev_dget (by rfl) h1 (by rfl) (by rfl))) (by rfl) (mod_ok hm))) ?_
    refine fl_seq (P := fun fl => fl = _) (fl_dput (kvs' := [(.inr "cells", .list (dints cs)), (.inr "spot", .int s), (.inr "rest", .int (r / m)), (.inr "turn", .int (t + 1))]) (by rfl) (ev_op (ev_dget (by rfl) h1 (by rfl) (by rfl)) (by rfl) (fdiv_ok hm hm3)) h1 (by rfl) (by show (4 : Nat) < 100000; decide) (by rfl)) ?_
    rw [List.set_set]
    exact fl_ret (by rfl)
  · refine fl_seqF (ev_test (k := false) (ev_op (ev_dget (by rfl) h1 (by rfl) (by rfl)) (by rfl) (by show some (PyData.bool (decide (0 < r))) = _; rw [decide_eq_false hr]))) ?_
    refine fl_seq (fl_par (ev_cons2 (ev_dget (by rfl) h1 (by rfl) (by rfl)) (ev_dget (by rfl) h1 (by rfl) (by rfl)))) ?_
    refine fl_seq (fl_dput (kvs' := [(.inr "cells", .list (dints cs)), (.inr "spot", .int (s + 1)), (.inr "rest", .int r), (.inr "turn", .int (t + 1))]) (by rfl) (ev_op (by rfl) (by rfl) (by rfl)) h1 (by rfl) (by show (4 : Nat) < 100000; decide) (by rfl)) ?_
    rw [List.set_set]
    have h2 := set_at (u := feedD cs (s + 1) r (t + 1)) h
    obtain ⟨c, hc⟩ : ∃ c : Int, mIf (mTest (mOp gNeB (mVar 4) (mLst mNil))) (mOp gIx (mVar 4) (mOp gMod (mCall gInt (mCons (mVar 3) mNil)) (mCall gLen (mCons (mVar 4) mNil)))) (mC (.int 8301)) [some (.o n), some (.d (.int m)), none, some (.d (.int s)), some (.d (.list (dints cs))), none, none] (w.set n (feedD cs (s + 1) r (t + 1))) = .ok (.d (.int c)) (w.set n (feedD cs (s + 1) r (t + 1))) := by
      cases cs with
      | nil => exact ⟨8301, ev_ifF (ev_test (ev_op (by rfl) (by rfl) (ne_nil_intsB []))) (by rfl)⟩
      | cons c cs =>
        have hl : (0 : Int) < ((dints (c :: cs)).length : Nat) := by simp; try omega
        obtain ⟨c', hx⟩ := ix_ints (cs := c :: cs) (Int.emod_nonneg s (Int.ne_of_gt hl)) (Int.emod_lt_of_pos s hl)
        exact ⟨c', ev_ifT (ev_test (ev_op (by rfl) (by rfl) (ne_nil_intsB (c :: cs)))) (ev_op (by rfl) (ev_op (ev_int (by rfl)) (ev_len (by rfl)) (mod_ok hl)) hx)⟩
    refine fl_seq (fl_asg hc) ?_
    have htt : mAnd (mTest (mOp gGe (mVar 5) (mOp gPow (mC (.int 10)) (mC (.int 18))))) (mTest (mOp gLt (mVar 3) (mCall gLen (mCons (mVar 4) mNil)))) [some (.o n), some (.d (.int m)), none, some (.d (.int s)), some (.d (.list (dints cs))), some (.d (.int c)), none] (w.set n (feedD cs (s + 1) r (t + 1))) = .ok (decide ((10 : Int) ^ 18 ≤ c) && decide (s < ((dints cs).length : Nat))) (w.set n (feedD cs (s + 1) r (t + 1))) :=
      ev_and (ev_test (ev_op (by rfl) (ev_op (by rfl) (by rfl) (by rfl)) (by rfl))) (ev_test (ev_op (by rfl) (ev_len (by rfl)) (by rfl)))
    cases hk : (decide ((10 : Int) ^ 18 ≤ c) && decide (s < ((dints cs).length : Nat))) with
    | true =>
      rw [hk] at htt
      refine fl_seqT htt ⟨.d (.int (c % m)), w.set n (feedD cs (s + 1) (c / m) (t + 1)), ?_, fine c (s + 1) (c / m) (by omega)⟩
      refine fl_seq (P := fun fl => fl = _) (fl_dput (kvs' := [(.inr "cells", .list (dints cs)), (.inr "spot", .int (s + 1)), (.inr "rest", .int (c / m)), (.inr "turn", .int (t + 1))]) (by rfl) (ev_op (by rfl) (by rfl) (fdiv_ok hm hm3)) h2 (by rfl) (by show (4 : Nat) < 100000; decide) (by rfl)) ?_
      rw [List.set_set]
      exact fl_ret (ev_op (ev_int (by rfl)) (by rfl) (mod_ok hm))
    | false =>
      rw [hk] at htt
      refine fl_seqF htt ?_
      have ht3 : (t + 1).natAbs < 2 ^ 64 := by omega
      refine fl_seq (fl_asg (ev_op (ev_int (ev_op (ev_op (ev_op (ev_int (by rfl)) (by rfl) (mod_ok (by decide))) (ev_op (by rfl) (ev_dget (by rfl) h2 (by rfl) (by rfl)) (mulG (by decide) ht3)) (by rfl)) (by rfl) (by rfl))) (by rfl) (mod_ok (by decide)))) ?_
      have b1 := mod_small (z := c % 1000012275 + 100533 * (t + 1) + 629) (q := 2147476991) (by decide) (by decide)
      generalize (c % 1000012275 + 100533 * (t + 1) + 629) % 2147476991 = m1 at *
      refine fl_seq (fl_asg (ev_op (ev_int (ev_op (ev_op (ev_op (by rfl) (by rfl) (mulG b1 b1)) (ev_op (by rfl) (ev_dget (by rfl) h2 (by rfl) (by rfl)) (mulG (by decide) ht3)) (by rfl)) (by rfl) (by rfl))) (by rfl) (mod_ok (by decide)))) ?_
      have b2 := mod_small (z := m1 * m1 + 5482305 * (t + 1) + 2097) (q := 2147476479) (by decide) (by decide)
      generalize (m1 * m1 + 5482305 * (t + 1) + 2097) % 2147476479 = m2 at *
      rw [fl_ret (ev_op (ev_int (ev_op (ev_op (ev_int (ev_op (ev_op (by rfl) (by rfl) (mulG b2 b2)) (ev_op (by rfl) (by rfl) (mulG (by decide) b2)) (by rfl))) (by rfl) (mod_ok (by decide))) (by rfl) (fdiv_ok (by decide) (by decide)))) (by rfl) (mod_ok hm))]
      exact fine _ (s + 1) r (by omega)
theorem lcl_int (x : Option Val) (w : Om) : ∀ cs : List Int, lcL (mName 1) mYes (mCall gInt (mCons (mVar 1) mNil)) [x, none] (dints cs) w = .ok (dints cs) w
  | [] => rfl
  | c :: cs => by
    have ih := lcl_int x w cs
    show bnd (lcL (mName 1) mYes (mCall gInt (mCons (mVar 1) mNil)) [x, none] (dints cs)) (fun r => D.ret (.int c :: r)) w = _
    unfold bnd
    rw [ih]
    rfl
theorem cut63 (ns : List Int) : cutD (dints ns) none (some 63) = dints (ns.take 63) := by
  unfold cutD
  have e1 : HT.sIx (dints ns).length 0 none = 0 := rfl
  have e2 : HT.sIx (dints ns).length (dints ns).length (some 63) = min 63 (dints ns).length := by
    unfold HT.sIx
    simp
    try omega
  rw [e1, e2, List.drop_zero, Nat.sub_zero]
  show List.take _ (List.map _ _) = List.map _ (List.take _ _)
  rw [List.map_take]
  by_cases h : ns.length ≤ 63
  · rw [List.take_of_length_le (by simp; omega), List.take_of_length_le (by simp; omega)]
  · congr 1
    simp
    omega
theorem lc63 (ns : List Int) (w : Om) : mLc (mSeq (mSl (mVar 0) mNoPart (mPart (mC (.int 63))))) (mName 1) mYes (mCall gInt (mCons (mVar 1) mNil)) [1] [some (.d (.list (dints ns))), none] w = .ok (.d (.list (dints (ns.take 63)))) w := by
  have e1 : mSeq (mSl (mVar 0) mNoPart (mPart (mC (.int 63)))) [some (.d (.list (dints ns))), none] w = .ok (dints (ns.take 63)) w := by
    rw [← cut63]
    rfl
  unfold mLc mLcP bnd
  rw [e1]
  show R.then (R.then (noX (lcL (mName 1) mYes (mCall gInt (mCons (mVar 1) mNil)) [some (.d (.list (dints ns))), none] (dints (ns.take 63))) w) _) _ = _
  unfold noX
  rw [lcl_int]
  show R.then ((if (dints (ns.take 63)).length ≤ 100000 then D.ret (dints (ns.take 63)) else fun _ => .bad) w) _ = _
  rw [if_pos (by simp; omega)]
  rfl
theorem feed_ok (ns : List Int) : m__law_feed [.d (.list (dints ns))] [] = .ok (.o 0) [feedD (ns.take 63) 0 0 0] := by
  have e1 := lc63 ns []
  show fin true 0 (fRet (mDisp (mPCons (mC (.str "cells")) (mLc (mSeq (mSl (mVar 0) mNoPart (mPart (mC (.int 63))))) (mName 1) mYes (mCall gInt (mCons (mVar 1) mNil)) [1]) _)) [some (.d (.list (dints ns))), none] []) = _
  unfold fRet mDisp mPCons noX bnd
  unfold mC at e1 ⊢
  dsimp only [R.then]
  rw [e1]
  rfl
def Feed (cs : List Int) (B : Int) (fd : Ob) : Prop := ∃ s r t : Int, 0 ≤ s ∧ 0 ≤ t ∧ t ≤ B ∧ fd = feedD cs s r t
theorem Feed.le {cs : List Int} {B B' : Int} {fd : Ob} (h : Feed cs B fd) (hb : B ≤ B') : Feed cs B' fd := by
  obtain ⟨s, r, t, h1, h2, h3, h4⟩ := h
  exact ⟨s, r, t, h1, h2, by omega, h4⟩
theorem drawF {cs : List Int} {B m : Int} {fd : Ob} {rest : Om} (h : Feed cs B fd) (hB : B < 2 ^ 40) (hm : 0 < m) (hm2 : m < 2 ^ 40) :
    ∃ b fd', 0 ≤ b ∧ b < m ∧ Feed cs (B + 1) fd' ∧ m__law_draw [.o 0, .d (.int m)] (fd :: rest) = .ok (.d (.int b)) (fd' :: rest) := by
  obtain ⟨s, r, t, h1, h2, h3, rfl⟩ := h
  obtain ⟨b, s', r', b0, b1, hs', hd⟩ := draw_gen (w := feedD cs s r t :: rest) (n := 0) (cs := cs) (s := s) (r := r) (t := t) (m := m) rfl h1 h2 (by omega) hm (by omega)
  exact ⟨b, feedD cs s' r' (t + 1), b0, b1, ⟨s', r', t + 1, hs', by omega, by omega, rfl⟩, hd⟩
theorem anyF {cs : List Int} {B : Int} {fd : Ob} {rest : Om} {xs : List PyData} (h : Feed cs B fd) (hB : B < 2 ^ 40) (hx : xs ≠ []) (hl : xs.length < 1000) :
    ∃ d ∈ xs, ∃ fd', Feed cs (B + 1) fd' ∧ m__law_any [.o 0, .d (.list xs)] (fd :: rest) = .ok (.d d) (fd' :: rest) := by
  have h0 : 0 < xs.length := List.length_pos_iff.mpr hx
  obtain ⟨b, fd', b0, b1, f1, e1⟩ := drawF (rest := rest) (m := (xs.length : Int)) h hB (by omega) (by omega)
  obtain ⟨d, hd, hg⟩ := gIx_at b0 b1
  refine ⟨d, hd, fd', f1, ?_⟩
  show fin false (fd :: rest).length (b__law_any [some (.o 0), some (.d (.list xs))] (fd :: rest)) = _
  unfold b__law_any
  rw [fl_ret (ev_opW (ev_var (i := 1) rfl) (ev_fn2W (ev_var rfl) (ev_len (ev_var rfl)) e1) hg)]
  show R.ok (Val.d d) ((fd' :: rest).take (fd :: rest).length) = _
  rw [List.take_of_length_le (by simp)]
theorem fl_trim {vs : List Nat} {b : B} {ρ ρ' : Rho} {w w' : Om} (h : b ρ w = .nx ρ' w') (hk : (wipeR ρ' vs).all (okV w.length) = true) : fTrim vs b ρ w = .nx (wipeR ρ' vs) (w'.take w.length) := by
  unfold fTrim
  rw [h]
  dsimp only
  rw [if_pos hk]
theorem lc_end {mi : Rho → M (List PyData)} {tm : Val → Rho → M Rho} {mt : Rho → M Bool} {me : Rho → M Val} {vs : List Nat} {ρ : Rho} {w w' : Om} {ds r : List PyData} (hi : mi ρ w = .ok ds w) (h : lcL tm mt me (wipeR ρ vs) ds w = .ok r w') (hl : r.length ≤ 100000) : mLc mi tm mt me vs ρ w = .ok (.d (.list r)) w' := by
  unfold mLc mLcP noX bnd
  rw [hi]
  dsimp only [R.then]
  rw [h]
  dsimp only [R.then]
  rw [if_pos hl]
  rfl
def poolsI : List (List Int) := [[2, 3, 5, 7, 11, 31], [2, 3, 7, 13, 43], [3, 7, 13, 19, 31], [2, 5, 11, 31, 41], [2, 3, 5, 17, 19], [5, 11, 31, 61], [2, 3, 7, 19, 37]]
def subsI : List Int → List (List Int)
  | [] => [[]]
  | x :: xs => subsI xs ++ (subsI xs).map (x :: ·)
def dS : List (List Int) := poolsI.flatMap subsI
def resB (r : R Val) (b : Bool) : Bool := match r with
  | .ok (.d (.bool x)) [] => x == b
  | _ => false
theorem resB_ok {r : R Val} {b : Bool} (h : resB r b = true) : r = .ok (.d (.bool b)) [] := by
  unfold resB at h
  split at h
  · rw [beq_iff_eq.mp h]
  · cases h
def okL (ps : List Int) : Bool := resB (m__law_are_choices_right [.d (.list (dints ps))] []) true
theorem fl_dropW {m : Rho → D.M Val} {ρ : Rho} {w w1 : Om} {x : Val} (h : m ρ w = .ok x w1) : fDrop m ρ w = .nx ρ w1 := by
  unfold fDrop
  rw [h]
  rfl
theorem fl_ifTW {mt : Rho → M Bool} {ρ : Rho} {w w1 : Om} {P : Fl → Prop} {f1 f2 : B} (h : mt ρ w = .ok true w1) (z : P (f1 ρ w1)) : P (fIf mt f1 f2 ρ w) := by
  unfold fIf
  rw [h]
  exact z
theorem fl_parW {i j : Nat} {ms : Rho → D.M (List Val)} {ρ : Rho} {w w1 : Om} {x y : Val} (h : ms ρ w = .ok [x, y] w1) : fPar i j ms ρ w = .nx ((ρ.set i (some x)).set j (some y)) w1 := by
  unfold fPar
  rw [h]
  rfl
end Z

set_option maxRecDepth 100000
set_option maxHeartbeats 4000000
namespace Z
open PySem L2 G D
variable [Ad]
theorem ev_andF {mt mt' : Rho → M Bool} {ρ : Rho} {w : Om} (h : mt ρ w = .ok false w) : mAnd mt mt' ρ w = .ok false w := by
  unfold mAnd bnd
  rw [h]
  rfl
theorem subl_mem : ∀ {xs r : List Int}, r.Sublist xs → r ∈ subsI xs
  | [], r, h => by
    rw [List.sublist_nil.mp h]
    exact List.mem_singleton.mpr rfl
  | x :: xs, r, h => by
    cases h with
    | cons _ h => exact List.mem_append.mpr (.inl (subl_mem h))
    | cons_cons _ h => exact List.mem_append.mpr (.inr (List.mem_map.mpr ⟨_, subl_mem h, rfl⟩))
abbrev prB2 : B := (fIf (mAnd (mTest (mOp gLt (mCall gLen (mCons (mVar 4) mNil)) (mVar 1))) (mTest (mOp gGt (mFn 2 m__law_draw (mCons (mVar 0) (mCons (mC (.int 4)) mNil))) (mC (.int 0))))) (fDrop (mAppend (mVar 4) (mVar 5))) fNext)
theorem ev_andW {mt mt' : Rho → M Bool} {ρ : Rho} {w w1 : Om} {k : Bool} (h : mt ρ w = .ok true w) (h' : mt' ρ w = .ok k w1) : mAnd mt mt' ρ w = .ok k w1 := by
  unfold mAnd bnd
  rw [h]
  exact h'
theorem append_at {ρ : Rho} {x : Rho → M Val} {w w' : Om} {xs : List PyData} {d : PyData} {i n : Nat} (h0 : ρ[i]? = some (some (.o n))) (hl : w[n]? = some (.lst xs)) (hx : x ρ w = .ok (.d d) w') (hl2 : w'[n]? = some (.lst xs)) (hn : xs.length < 1000) : mAppend (mVar i) x ρ w = .ok (.d .none) (w'.set n (.lst (xs ++ [d]))) := by
  have hv : mVar i ρ w = .ok (.o n) w := by
    unfold mVar
    rw [h0]
  unfold mAppend bnd
  rw [hv]
  dsimp only [R.then]
  rw [if_pos (show isL w (.o n) = true by unfold isL; dsimp only; rw [hl]), hx]
  show (match w'[n]? with | some (.lst xs) => if xs.length < 100000 then R.ok (Val.d .none) (w'.set n (.lst (xs ++ [d]))) else R.bad | _ => R.bad) = _
  rw [hl2]
  dsimp only
  rw [if_pos (by omega)]
theorem pr2_loop {cs : List Int} {M : Int} (hM : M ≤ 100) : ∀ (xs : List Int) (B : Int) (fd : Ob) (pre r : List Int) (a2 a3 v : Option Val), Feed cs B fd → B + xs.length < 2 ^ 40 → r.Sublist pre → r.length < 500 →  xs.length < 400 →
    ∃ fd' r' v', Feed cs (B + xs.length) fd' ∧ r'.Sublist (pre ++ xs) ∧ forL (mName 5) prB2 (dints xs) [some (.o 0), some (.d (.int M)), a2, a3, some (.o 1), v] [fd, .lst (dints r)] = .nx [some (.o 0), some (.d (.int M)), a2, a3, some (.o 1), v'] [fd', .lst (dints r')]
  | [], B, fd, pre, r, a2, a3, v, f, _, hr, _, _ => ⟨fd, r, v, f.le (by simp), by rw [List.append_nil]; exact hr, rfl⟩
  | x :: xs, B, fd, pre, r, a2, a3, v, f, hB, hr, hn, hx => by
    rw [List.length_cons] at hB ⊢
    have hB2 : B + 1 + (xs.length : Int) < 2 ^ 40 := by omega
    have e0 : pre ++ x :: xs = (pre ++ [x]) ++ xs := by simp
    have step : ∀ fd2 r2, Feed cs (B + 1) fd2 → r2.Sublist (pre ++ [x]) → r2.length < 500 → prB2 [some (.o 0), some (.d (.int M)), a2, a3, some (.o 1), some (.d (.int x))] [fd, .lst (dints r)] = .nx [some (.o 0), some (.d (.int M)), a2, a3, some (.o 1), some (.d (.int x))] [fd2, .lst (dints r2)] →
        ∃ fd' r' v', Feed cs (B + ((xs.length + 1 : Nat) : Int)) fd' ∧ r'.Sublist (pre ++ x :: xs) ∧ forL (mName 5) prB2 (dints (x :: xs)) [some (.o 0), some (.d (.int M)), a2, a3, some (.o 1), v] [fd, .lst (dints r)] = .nx [some (.o 0), some (.d (.int M)), a2, a3, some (.o 1), v'] [fd', .lst (dints r')] := by
      intro fd2 r2 f2 h2 h3 e
      obtain ⟨fd', r', v', g1, g2, g3⟩ := pr2_loop hM xs (B + 1) fd2 (pre ++ [x]) r2 a2 a3 (some (.d (.int x))) f2 hB2 h2 h3 (by rw [List.length_cons] at hx; omega)
      refine ⟨fd', r', v', g1.le (by omega), by rw [e0]; exact g2, ?_⟩
      show (match prB2 [some (.o 0), some (.d (.int M)), a2, a3, some (.o 1), some (.d (.int x))] [fd, .lst (dints r)] with
          | .nx ρ w => forL (mName 5) prB2 (dints xs) ρ w
          | .ct ρ w => forL (mName 5) prB2 (dints xs) ρ w
          | .bk ρ w => .nx ρ w
          | q => q) = _
      rw [e]
      exact g3
    have keep : r.Sublist (pre ++ [x]) := hr.trans (List.sublist_append_left ..)
    have t0 : mTest (mOp gLt (mCall gLen (mCons (mVar 4) mNil)) (mVar 1)) [some (.o 0), some (.d (.int M)), a2, a3, some (.o 1), some (.d (.int x))] [fd, .lst (dints r)] = .ok (decide (((dints r).length : Int) < M)) [fd, .lst (dints r)] := by rfl
    cases h5 : decide (((dints r).length : Int) < M) with
    | false =>
      rw [h5] at t0
      exact step fd r (f.le (by omega)) keep hn (fl_ifF (P := fun fl => fl = _) (ev_andF t0) rfl)
    | true =>
      rw [h5] at t0
      obtain ⟨b, fd1, b0, b1, f1, e1⟩ := drawF (rest := [.lst (dints r)]) (m := 4) f (by omega) (by omega) (by omega)
      have t1 : mTest (mOp gGt (mFn 2 m__law_draw (mCons (mVar 0) (mCons (mC (.int 4)) mNil))) (mC (.int 0))) [some (.o 0), some (.d (.int M)), a2, a3, some (.o 1), some (.d (.int x))] [fd, .lst (dints r)] = .ok (decide (0 < b)) [fd1, .lst (dints r)] := ev_testW (ev_opW (ev_fn2W (ev_var rfl) rfl e1) rfl rfl)
      cases hb : decide (0 < b) with
      | false =>
        rw [hb] at t1
        exact step fd1 r f1 keep hn (fl_ifFW (P := fun fl => fl = _) (ev_andW t0 t1) rfl)
      | true =>
        rw [hb] at t1
        have hlen : (r.length : Int) < M := by
          have z := of_decide_eq_true h5
          rw [List.length_map] at z
          omega
        refine step fd1 (r ++ [x]) f1 (List.Sublist.append hr (List.Sublist.refl _)) (by rw [List.length_append]; simp only [List.length_singleton]; omega) (fl_ifTW (P := fun fl => fl = _) (ev_andW t0 t1) ?_)
        refine (fl_dropW (append_at (n := 1) (d := .int x) (xs := dints r) rfl rfl (ev_var rfl) rfl (by rw [List.length_map]; omega))).trans ?_
        show Fl.nx _ [fd1, Ob.lst (dints r ++ [.int x])] = _
        rw [show dints (r ++ [x]) = dints r ++ [.int x] from List.map_append]
theorem primesF {cs : List Int} {M : Int} (hM : M ≤ 100) {B : Int} {fd : Ob} (f : Feed cs B fd) (hB : B < 2 ^ 30) : ∃ ps ∈ dS, ∃ fd', Feed cs (B + 8) fd' ∧ m__law_primes [.o 0, .d (.int M)] [fd] = .ok (.d (.list (dints ps))) [fd'] := by
  obtain ⟨d, hd, fd1, f1, e1⟩ := anyF (rest := []) (xs := poolsI.map fun p => .list (dints p)) f (by omega) (by decide) (by decide)
  obtain ⟨pool, hp, rfl⟩ := List.mem_map.mp hd
  have hpl : pool.length ≤ 6 := by
    have t : ∀ p ∈ poolsI, p.length ≤ 6 := by decide
    exact t pool hp
  obtain ⟨fd2, r, v', f2, g1, g2⟩ := pr2_loop hM pool (B + 1) fd1 [] [] (some (.d (.list ((poolsI.take 5).map fun p => .list (dints p))))) (some (.d (.list (dints pool)))) none f1 (by omega) (List.Sublist.refl _) (by decide) (by omega)
  refine ⟨r, List.mem_flatMap.mpr ⟨pool, hp, subl_mem (by rw [List.nil_append] at g1; exact g1)⟩, fd2, f2.le (by omega), ?_⟩
  show (fun fl => fin false 1 fl = R.ok (.d (.list (dints r))) [fd2]) (b__law_primes [some (.o 0), some (.d (.int M)), none, none, none, none] [fd])
  unfold b__law_primes
  refine fl_seq (P := fun fl => fin false 1 fl = R.ok (.d (.list (dints r))) [fd2]) (ρ' := [some (.o 0), some (.d (.int M)), some (.d (.list ((poolsI.take 5).map fun p => .list (dints p)))), none, none, none]) (w' := [fd]) (by kernel_rfl) ?_
  refine fl_seq (P := fun fl => fin false 1 fl = R.ok (.d (.list (dints r))) [fd2]) (ρ' := [some (.o 0), some (.d (.int M)), some (.d (.list ((poolsI.take 5).map fun p => .list (dints p)))), some (.d (.list (dints pool))), some (.o 1), none]) (w' := [fd1, .lst []]) (fl_parW (ev_consW (ev_fn2W (y := .d (.list (poolsI.map fun p => .list (dints p)))) (ev_var rfl) (by kernel_rfl) e1) rfl)) ?_
  refine fl_seq (P := fun fl => fin false 1 fl = R.ok (.d (.list (dints r))) [fd2]) (show fFor (mSeq (mVar 3)) (mName 5) prB2 _ _ = _ from g2) ?_
  rfl
end Z

set_option maxRecDepth 100000
set_option maxHeartbeats 4000000
namespace Z
open PySem L2 G D
variable [Ad]
def l53_0 : List (List Int) := [[2, 3, 7, 19, 37]]
theorem f53_0 : l53_0.all okL = true := by decide +kernel
def l53_1 : List (List Int) := [[2, 3, 5, 11, 31]]
theorem f53_1 : l53_1.all okL = true := by decide +kernel
def l53_2 : List (List Int) := [[2, 3, 5, 7, 31]]
theorem f53_2 : l53_2.all okL = true := by decide +kernel
def l53_3 : List (List Int) := [[2, 5, 7, 11, 31]]
theorem f53_3 : l53_3.all okL = true := by decide +kernel
def l53_4 : List (List Int) := [[2, 3, 7, 11, 31]]
theorem f53_4 : l53_4.all okL = true := by decide +kernel
def l53_5 : List (List Int) := [[3, 7, 13, 19, 31], [31, 61]]
theorem f53_5 : l53_5.all okL = true := by decide +kernel
def l53_6 : List (List Int) := [[2, 3, 5, 7, 11], [3, 11]]
theorem f53_6 : l53_6.all okL = true := by decide +kernel
def l53_7 : List (List Int) := [[3, 5, 7, 11, 31], [3, 37]]
theorem f53_7 : l53_7.all okL = true := by decide +kernel
end Z

set_option maxRecDepth 100000
set_option maxHeartbeats 4000000
namespace Z
open PySem L2 G D
variable [Ad]
def l53_8 : List (List Int) := [[2, 3, 5, 7, 11, 31], [2, 43], [7, 37]]
theorem f53_8 : l53_8.all okL = true := by decide +kernel
def l53_9 : List (List Int) := [[2, 3, 5, 17, 19], [5, 7, 31], [7, 11]]
theorem f53_9 : l53_9.all okL = true := by decide +kernel
def l53_10 : List (List Int) := [[2, 5, 11, 31], [2, 7, 31], [2, 7], [19, 31]]
theorem f53_10 : l53_10.all okL = true := by decide +kernel
def l53_11 : List (List Int) := [[2, 5, 11, 41], [2, 11, 31], [2, 11], [11, 41]]
theorem f53_11 : l53_11.all okL = true := by decide +kernel
def l53_12 : List (List Int) := [[2, 5, 31, 41], [3, 5, 31], [2, 31], [31, 41]]
theorem f53_12 : l53_12.all okL = true := by decide +kernel
def l53_13 : List (List Int) := [[5, 11, 31, 41], [2, 7, 13], [3, 7], [3, 17]]
theorem f53_13 : l53_13.all okL = true := by decide +kernel
def l53_14 : List (List Int) := [[5, 11, 31, 61], [2, 13, 43], [3, 31], [5, 17]]
theorem f53_14 : l53_14.all okL = true := by decide +kernel
def l53_15 : List (List Int) := [[2, 3, 7, 43], [3, 13, 19], [7, 19, 31], [7]]
theorem f53_15 : l53_15.all okL = true := by decide +kernel
end Z

set_option maxRecDepth 100000
set_option maxHeartbeats 4000000
namespace Z
open PySem L2 G D
variable [Ad]
def l53_16 : List (List Int) := [[2, 3, 7, 31], [2, 3, 19], [7, 13, 19], [7, 31]]
theorem f53_16 : l53_16.all okL = true := by decide +kernel
def l53_17 : List (List Int) := [[2, 3, 7, 13], [2, 3, 37], [7, 13, 31], [11, 31]]
theorem f53_17 : l53_17.all okL = true := by decide +kernel
def l53_18 : List (List Int) := [[2, 3, 13, 43], [3, 7, 31], [7, 13, 43], [7, 13]]
theorem f53_18 : l53_18.all okL = true := by decide +kernel
def l53_19 : List (List Int) := [[2, 3, 7, 19], [3, 7, 13], [3, 5, 19], [13, 43]]
theorem f53_19 : l53_19.all okL = true := by decide +kernel
def l53_20 : List (List Int) := [[2, 3, 7, 37], [3, 13, 43], [3, 17, 19], [7, 19]]
theorem f53_20 : l53_20.all okL = true := by decide +kernel
def l53_21 : List (List Int) := [[2, 3, 19, 37], [3, 7, 19], [7, 11, 31], [5, 7]]
theorem f53_21 : l53_21.all okL = true := by decide +kernel
def l53_22 : List (List Int) := [[3, 7, 13, 43], [2, 5, 41], [3, 5, 11], [2, 41], [11]]
theorem f53_22 : l53_22.all okL = true := by decide +kernel
def l53_23 : List (List Int) := [[2, 3, 5, 31], [2, 7, 43], [2, 7, 19], [2, 17], [37]]
theorem f53_23 : l53_23.all okL = true := by decide +kernel
end Z

set_option maxRecDepth 100000
set_option maxHeartbeats 4000000
namespace Z
open PySem L2 G D
variable [Ad]
def l53_24 : List (List Int) := [[2, 3, 7, 13, 43], [2, 3, 13], [2, 5, 17], [3, 13], [19, 37]]
theorem f53_24 : l53_24.all okL = true := by decide +kernel
def l53_25 : List (List Int) := [[2, 5, 11, 31, 41], [2, 3, 43], [2, 5, 19], [3, 43], [2]]
theorem f53_25 : l53_25.all okL = true := by decide +kernel
def l53_26 : List (List Int) := [[3, 5, 11, 31], [5, 11, 61], [2, 11, 41], [5, 11], [5, 19]]
theorem f53_26 : l53_26.all okL = true := by decide +kernel
def l53_27 : List (List Int) := [[3, 7, 13, 19], [5, 31, 61], [2, 31, 41], [5, 31], [17, 19]]
theorem f53_27 : l53_27.all okL = true := by decide +kernel
def l53_28 : List (List Int) := [[3, 7, 13, 31], [2, 3, 7], [2, 3, 5], [13, 19, 31], [31]]
theorem f53_28 : l53_28.all okL = true := by decide +kernel
def l53_29 : List (List Int) := [[3, 7, 19, 31], [2, 3, 31], [2, 3, 11], [11, 31, 41], [13]]
theorem f53_29 : l53_29.all okL = true := by decide +kernel
def l53_30 : List (List Int) := [[3, 13, 19, 31], [2, 5, 11], [2, 5, 7], [3, 5, 17], [43]]
theorem f53_30 : l53_30.all okL = true := by decide +kernel
def l53_31 : List (List Int) := [[3, 7, 19, 37], [2, 5, 31], [2, 7, 11], [5, 17, 19], [19]]
theorem f53_31 : l53_31.all okL = true := by decide +kernel
end Z

set_option maxRecDepth 100000
set_option maxHeartbeats 4000000
namespace Z
open PySem L2 G D
variable [Ad]
def l53_32 : List (List Int) := [[2, 3, 5, 7], [5, 7, 11, 31], [5, 7, 11], [3, 5], []]
theorem f53_32 : l53_32.all okL = true := by decide +kernel
def l53_33 : List (List Int) := [[2, 3, 5, 11], [3, 7, 11, 31], [3, 7, 11], [5, 41], [41]]
theorem f53_33 : l53_33.all okL = true := by decide +kernel
def l53_34 : List (List Int) := [[2, 3, 7, 11], [3, 5, 7, 11], [2, 7, 37], [2, 19]]
theorem f53_34 : l53_34.all okL = true := by decide +kernel
def l53_35 : List (List Int) := [[2, 3, 11, 31], [3, 5, 17, 19], [2, 17, 19], [7, 43], [3]]
theorem f53_35 : l53_35.all okL = true := by decide +kernel
def l53_36 : List (List Int) := [[2, 5, 7, 11], [7, 13, 19, 31], [2, 3, 17], [2, 13], [11, 61]]
theorem f53_36 : l53_36.all okL = true := by decide +kernel
def l53_37 : List (List Int) := [[2, 5, 7, 31], [5, 11, 31], [3, 13, 31], [11, 31, 61], [17]]
theorem f53_37 : l53_37.all okL = true := by decide +kernel
def l53_38 : List (List Int) := [[2, 7, 13, 43], [3, 7, 43], [3, 19, 31], [7, 19, 37], [61]]
theorem f53_38 : l53_38.all okL = true := by decide +kernel
def l53_39 : List (List Int) := [[2, 3, 5, 19], [5, 11, 41], [3, 7, 37], [2, 3], [13, 19]]
theorem f53_39 : l53_39.all okL = true := by decide +kernel
end Z

set_option maxRecDepth 100000
set_option maxHeartbeats 4000000
namespace Z
open PySem L2 G D
variable [Ad]
def l53_40 : List (List Int) := [[2, 3, 17, 19], [5, 31, 41], [3, 19, 37], [2, 5], [13, 31]]
theorem f53_40 : l53_40.all okL = true := by decide +kernel
def l53_41 : List (List Int) := [[3, 5, 7, 31], [2, 7, 19, 37], [3, 11, 31], [5, 61]]
theorem f53_41 : l53_41.all okL = true := by decide +kernel
def l53_42 : List (List Int) := [[2, 7, 11, 31], [2, 3, 5, 17], [2, 19, 37], [2, 37]]
theorem f53_42 : l53_42.all okL = true := by decide +kernel
def l53_43 : List (List Int) := [[2, 11, 31, 41], [2, 5, 17, 19], [3, 5, 7], [3, 19], [5]]
theorem f53_43 : l53_43.all okL = true := by decide +kernel
end Z

set_option maxRecDepth 100000
set_option maxHeartbeats 4000000
namespace Z
open PySem L2 G D
variable [Ad]
theorem ok67 : okL [11, 23, 67] = true := by decide +kernel
theorem ok89 : okL [11, 23, 89] = true := by decide +kernel
theorem ok199 : okL [11, 23, 199] = true := by decide +kernel
def all53 : List (List (List Int)) := [l53_0, l53_1, l53_2, l53_3, l53_4, l53_5, l53_6, l53_7, l53_8, l53_9, l53_10, l53_11, l53_12, l53_13, l53_14, l53_15, l53_16, l53_17, l53_18, l53_19, l53_20, l53_21, l53_22, l53_23, l53_24, l53_25, l53_26, l53_27, l53_28, l53_29, l53_30, l53_31, l53_32, l53_33, l53_34, l53_35, l53_36, l53_37, l53_38, l53_39, l53_40, l53_41, l53_42, l53_43]
theorem in53 : ∀ ps ∈ dS, all53.any (fun l => l.contains ps) = true := by decide +kernel
theorem fa53 : ∀ l ∈ all53, l.all okL = true := by
  intro l hl
  unfold all53 at hl
  simp only [List.mem_cons, List.not_mem_nil, or_false] at hl
  rcases hl with rfl | rfl | rfl | rfl | rfl | rfl | rfl | rfl | rfl | rfl | rfl | rfl | rfl | rfl | rfl | rfl | rfl | rfl | rfl | rfl | rfl | rfl | rfl | rfl | rfl | rfl | rfl | rfl | rfl | rfl | rfl | rfl | rfl | rfl | rfl | rfl | rfl | rfl | rfl | rfl | rfl | rfl | rfl | rfl
  · exact f53_0
  · exact f53_1
  · exact f53_2
  · exact f53_3
  · exact f53_4
  · exact f53_5
  · exact f53_6
  · exact f53_7
  · exact f53_8
  · exact f53_9
  · exact f53_10
  · exact f53_11
  · exact f53_12
  · exact f53_13
  · exact f53_14
  · exact f53_15
  · exact f53_16
  · exact f53_17
  · exact f53_18
  · exact f53_19
  · exact f53_20
  · exact f53_21
  · exact f53_22
  · exact f53_23
  · exact f53_24
  · exact f53_25
  · exact f53_26
  · exact f53_27
  · exact f53_28
  · exact f53_29
  · exact f53_30
  · exact f53_31
  · exact f53_32
  · exact f53_33
  · exact f53_34
  · exact f53_35
  · exact f53_36
  · exact f53_37
  · exact f53_38
  · exact f53_39
  · exact f53_40
  · exact f53_41
  · exact f53_42
  · exact f53_43
theorem okL_all (ps : List Int) (h : ps ∈ dS) : okL ps = true := by
  obtain ⟨l, h1, h2⟩ := List.any_eq_true.1 (in53 ps h)
  exact List.all_eq_true.1 (fa53 l h1) ps (List.contains_iff_mem.1 h2)
theorem isT_of {ps : List Int} (h : okL ps = true) : isTrueR (m__law_are_choices_right [.d (.list (dints ps))] []) = true := by
  rw [resB_ok h]
  rfl
end Z

set_option maxRecDepth 100000
set_option maxHeartbeats 4000000
namespace Z
open PySem L2 G D
variable [Ad]
theorem law_all (ns : List Int) : ∃ w, m_law [.d (.list (dints ns))] [] = .ok (.d (.bool true)) w := by
  refine ⟨[], ?_⟩
  show (fun fl => fin false 0 fl = R.ok (.d (.bool true)) []) (b_law [some (.d (.list (dints ns))), none, none] [])
  have hf := feed_ok ns
  have hF : Feed (ns.take 63) 0 (feedD (ns.take 63) 0 0 0) := ⟨0, 0, 0, by decide, by decide, by decide, rfl⟩
  generalize feedD (ns.take 63) 0 0 0 = f0 at *
  unfold b_law
  refine fl_seq (P := fun fl => fin false 0 fl = R.ok (.d (.bool true)) []) (ρ' := [some (.d (.list (dints ns))), some (.o 0), none]) (w' := [f0]) (fl_asg (ev_fn1W (ev_var rfl) hf)) ?_
  generalize PyData.list (dints ns) = sc at *
  refine fl_for (P := fun fl => fin false 0 fl = R.ok (.d (.bool true)) []) (ds := rangeD 0 4) (fun i ρ w => ∃ fd, w = [fd] ∧ Feed (ns.take 63) (20 * i) fd ∧ ρ = [some (.d sc), some (.o 0), none]) (by rfl) ?_ ⟨f0, rfl, hF.le (by omega), rfl⟩ ?_
  · rintro i d e ρ w ⟨fd, rfl, f, rfl⟩
    have hi : i < 4 := by
      have h := (List.getElem?_eq_some_iff.mp e).1
      have h2 : (rangeD 0 4).length = 4 := by decide
      omega
    obtain ⟨b, fd1, b0, b1, f1, e1⟩ := drawF (rest := []) (m := 4) f (by omega) (by omega) (by omega)
    obtain ⟨ps, hps, fd2, f2, e2⟩ := primesF (M := 2 + b) (by omega) f1 (by omega)
    refine ⟨[some (.d sc), some (.o 0), some (.d d)], _, _, rfl, ?_, fd2, rfl, f2.le (by omega), rfl⟩
    refine fl_trim (vs := [2]) (ρ' := [some (.d sc), some (.o 0), some (.d d)]) (w' := [fd2]) ?_ (by rfl)
    have a1 := ev_opW (g := gAdd) (a := .int 2) (b := .int b) (d := .int (2 + b)) (ρ := [some (.d sc), some (.o 0), some (.d d)]) (m1 := mC (.int 2)) (m2 := mFn 2 m__law_draw (mCons (mVar 1) (mCons (mC (.int 4)) mNil))) rfl (ev_fn2W (ev_var rfl) rfl e1) rfl
    exact fl_ifFW (P := fun fl => fl = Fl.nx [some (.d sc), some (.o 0), some (.d d)] [fd2]) (ev_notW (ev_testW (ev_fnP1W (ev_fn2W (ev_var rfl) a1 e2) (isT_of (okL_all ps hps))))) rfl
  · rintro ρ w ⟨fd, rfl, f, rfl⟩
    obtain ⟨b, fd1, b0, b1, f1, e1⟩ := drawF (rest := []) (m := 3) f (by decide) (by omega) (by omega)
    have h3 : b = 0 ∨ b = 1 ∨ b = 2 := by omega
    have fx : ∃ z : Int, gIx (.list [.int 67, .int 89, .int 199]) (.int b) = some (.int z) ∧ okL [11, 23, z] = true := by
      rcases h3 with rfl | rfl | rfl
      · exact ⟨67, rfl, ok67⟩
      · exact ⟨89, rfl, ok89⟩
      · exact ⟨199, rfl, ok199⟩
    obtain ⟨z, z1, z2⟩ := fx
    have e4 : (mOp gIx (mLst (mCons (mC (.int 67)) (mCons (mC (.int 89)) (mCons (mC (.int 199)) mNil)))) (mFn 2 m__law_draw (mCons (mVar 1) (mCons (mC (.int 3)) mNil)))) [some (.d sc), some (.o 0), none] [fd] = .ok (.d (.int z)) [fd1] := ev_opW (a := .list [.int 67, .int 89, .int 199]) rfl (ev_fn2W (ev_var rfl) rfl e1) z1
    have e5 : mLst (mCons (mC (.int 11)) (mCons (mC (.int 23)) (mCons (mOp gIx (mLst (mCons (mC (.int 67)) (mCons (mC (.int 89)) (mCons (mC (.int 199)) mNil)))) (mFn 2 m__law_draw (mCons (mVar 1) (mCons (mC (.int 3)) mNil)))) mNil))) [some (.d sc), some (.o 0), none] [fd] = .ok (.d (.list (dints [11, 23, z]))) [fd1] :=
      ev_lstW (ds := dints [11, 23, z]) (ev_consW rfl (ev_consW rfl (ev_consW e4 rfl))) (show 3 ≤ 100000 by decide)
    show fin false 0 (fRet _ _ _) = _
    unfold fRet
    rw [ev_fnP1W e5 (isT_of z2)]
    rfl
end Z

set_option maxRecDepth 100000
set_option maxHeartbeats 4000000
namespace Z
open PySem L2 G D
theorem tab_mk {K : PySem.W.Frag} {x : Str} {f c P : Addr} {oc o1 : Value} {od o2 : Option Addr} {fd : FuncData} {sl o3 : Array (Option Value)} {vs : Array Value} (a : PySem.W.nsIn K mainGlobals x = some (some (.ref f))) (l : K.lookup f = some ⟨oc, od, .func fd, sl⟩) (hc : fd.code = .ref c)
    (lc : K.lookup c = some ⟨o1, o2, .fields vs, o3⟩) (hv : vs[11]? = some (.ref P)) : PySem.W.tabIn K x = some (c, P) := by
  unfold PySem.W.tabIn
  simp only [a, l, hc, lc, hv]
theorem all_mk {l : PySem.W.OpenLaw} {w : World} {K : PySem.W.Frag} {h : Heap} {mg : Str → Option Value} {fa : Addr} {q : Program} (X : K.In h) (G : h.Ns mainGlobals mg) (hfa : mg "law" = some (.ref fa)) (TT : Told q K h)
    {f_is_integer : Addr} {od_is_integer an_is_integer : Option Addr} {sl_is_integer : Array (Option Value)} {oc_is_integer kV_is_integer dc_is_integer pm_is_integer cd_is_integer ct_is_integer : Value}
    {f_is_number : Addr} {od_is_number an_is_number : Option Addr} {sl_is_number : Array (Option Value)} {oc_is_number kV_is_number dc_is_number pm_is_number cd_is_number ct_is_number : Value}
    {f_is_below : Addr} {od_is_below an_is_below : Option Addr} {sl_is_below : Array (Option Value)} {oc_is_below kV_is_below dc_is_below pm_is_below cd_is_below ct_is_below : Value}
    {f_is_positive : Addr} {od_is_positive an_is_positive : Option Addr} {sl_is_positive : Array (Option Value)} {oc_is_positive kV_is_positive dc_is_positive pm_is_positive cd_is_positive ct_is_positive : Value}
    {f_is_power : Addr} {od_is_power an_is_power : Option Addr} {sl_is_power : Array (Option Value)} {oc_is_power kV_is_power dc_is_power pm_is_power cd_is_power ct_is_power : Value}
    {f_is_prime : Addr} {od_is_prime an_is_prime : Option Addr} {sl_is_prime : Array (Option Value)} {oc_is_prime kV_is_prime dc_is_prime pm_is_prime cd_is_prime ct_is_prime : Value}
    {f_is_pair : Addr} {od_is_pair an_is_pair : Option Addr} {sl_is_pair : Array (Option Value)} {oc_is_pair kV_is_pair dc_is_pair pm_is_pair cd_is_pair ct_is_pair : Value}
    {f_pair_fault : Addr} {od_pair_fault an_pair_fault : Option Addr} {sl_pair_fault : Array (Option Value)} {oc_pair_fault kV_pair_fault dc_pair_fault pm_pair_fault cd_pair_fault ct_pair_fault : Value}
    {f_count_fault : Addr} {od_count_fault an_count_fault : Option Addr} {sl_count_fault : Array (Option Value)} {oc_count_fault kV_count_fault dc_count_fault pm_count_fault cd_count_fault ct_count_fault : Value}
    {f_is_count : Addr} {od_is_count an_is_count : Option Addr} {sl_is_count : Array (Option Value)} {oc_is_count kV_is_count dc_is_count pm_is_count cd_is_count ct_is_count : Value}
    {f_is_free : Addr} {od_is_free an_is_free : Option Addr} {sl_is_free : Array (Option Value)} {oc_is_free kV_is_free dc_is_free pm_is_free cd_is_free ct_is_free : Value}
    {f_choice_fault : Addr} {od_choice_fault an_choice_fault : Option Addr} {sl_choice_fault : Array (Option Value)} {oc_choice_fault kV_choice_fault dc_choice_fault pm_choice_fault cd_choice_fault ct_choice_fault : Value}
    {f_is_acting : Addr} {od_is_acting an_is_acting : Option Addr} {sl_is_acting : Array (Option Value)} {oc_is_acting kV_is_acting dc_is_acting pm_is_acting cd_is_acting ct_is_acting : Value}
    {f_row_fault : Addr} {od_row_fault an_row_fault : Option Addr} {sl_row_fault : Array (Option Value)} {oc_row_fault kV_row_fault dc_row_fault pm_row_fault cd_row_fault ct_row_fault : Value}
    {f_can_act : Addr} {od_can_act an_can_act : Option Addr} {sl_can_act : Array (Option Value)} {oc_can_act kV_can_act dc_can_act pm_can_act cd_can_act ct_can_act : Value}
    {f_does_reach : Addr} {od_does_reach an_does_reach : Option Addr} {sl_does_reach : Array (Option Value)} {oc_does_reach kV_does_reach dc_does_reach pm_does_reach cd_does_reach ct_does_reach : Value}
    {f_lets_choice : Addr} {od_lets_choice an_lets_choice : Option Addr} {sl_lets_choice : Array (Option Value)} {oc_lets_choice kV_lets_choice dc_lets_choice pm_lets_choice cd_lets_choice ct_lets_choice : Value}
    {f_need_free : Addr} {od_need_free an_need_free : Option Addr} {sl_need_free : Array (Option Value)} {oc_need_free kV_need_free dc_need_free pm_need_free cd_need_free ct_need_free : Value}
    {f_need_choice : Addr} {od_need_choice an_need_choice : Option Addr} {sl_need_choice : Array (Option Value)} {oc_need_choice kV_need_choice dc_need_choice pm_need_choice cd_need_choice ct_need_choice : Value}
    {f_raised : Addr} {od_raised an_raised : Option Addr} {sl_raised : Array (Option Value)} {oc_raised kV_raised dc_raised pm_raised cd_raised ct_raised : Value}
    {f_raised_modulo : Addr} {od_raised_modulo an_raised_modulo : Option Addr} {sl_raised_modulo : Array (Option Value)} {oc_raised_modulo kV_raised_modulo dc_raised_modulo pm_raised_modulo cd_raised_modulo ct_raised_modulo : Value}
    {f_need_count : Addr} {od_need_count an_need_count : Option Addr} {sl_need_count : Array (Option Value)} {oc_need_count kV_need_count dc_need_count pm_need_count cd_need_count ct_need_count : Value}
    {f_need_prime : Addr} {od_need_prime an_need_prime : Option Addr} {sl_need_prime : Array (Option Value)} {oc_need_prime kV_need_prime dc_need_prime pm_need_prime cd_need_prime ct_need_prime : Value}
    {f_primes_of : Addr} {od_primes_of an_primes_of : Option Addr} {sl_primes_of : Array (Option Value)} {oc_primes_of kV_primes_of dc_primes_of pm_primes_of cd_primes_of ct_primes_of : Value}
    {f_root_of : Addr} {od_root_of an_root_of : Option Addr} {sl_root_of : Array (Option Value)} {oc_root_of kV_root_of dc_root_of pm_root_of cd_root_of ct_root_of : Value}
    {f_at_rest : Addr} {od_at_rest an_at_rest : Option Addr} {sl_at_rest : Array (Option Value)} {oc_at_rest kV_at_rest dc_at_rest pm_at_rest cd_at_rest ct_at_rest : Value}
    {f_how_many_groups : Addr} {od_how_many_groups an_how_many_groups : Option Addr} {sl_how_many_groups : Array (Option Value)} {oc_how_many_groups kV_how_many_groups dc_how_many_groups pm_how_many_groups cd_how_many_groups ct_how_many_groups : Value}
    {f_choices_of : Addr} {od_choices_of an_choices_of : Option Addr} {sl_choices_of : Array (Option Value)} {oc_choices_of kV_choices_of dc_choices_of pm_choices_of cd_choices_of ct_choices_of : Value}
    {f_group_of : Addr} {od_group_of an_group_of : Option Addr} {sl_group_of : Array (Option Value)} {oc_group_of kV_group_of dc_group_of pm_group_of cd_group_of ct_group_of : Value}
    {f_roots_of : Addr} {od_roots_of an_roots_of : Option Addr} {sl_roots_of : Array (Option Value)} {oc_roots_of kV_roots_of dc_roots_of pm_roots_of cd_roots_of ct_roots_of : Value}
    {f_multiplied : Addr} {od_multiplied an_multiplied : Option Addr} {sl_multiplied : Array (Option Value)} {oc_multiplied kV_multiplied dc_multiplied pm_multiplied cd_multiplied ct_multiplied : Value}
    {f_share_of : Addr} {od_share_of an_share_of : Option Addr} {sl_share_of : Array (Option Value)} {oc_share_of kV_share_of dc_share_of pm_share_of cd_share_of ct_share_of : Value}
    {f_rests_of : Addr} {od_rests_of an_rests_of : Option Addr} {sl_rests_of : Array (Option Value)} {oc_rests_of kV_rests_of dc_rests_of pm_rests_of cd_rests_of ct_rests_of : Value}
    {f_primes_beside : Addr} {od_primes_beside an_primes_beside : Option Addr} {sl_primes_beside : Array (Option Value)} {oc_primes_beside kV_primes_beside dc_primes_beside pm_primes_beside cd_primes_beside ct_primes_beside : Value}
    {f_how_many_rows : Addr} {od_how_many_rows an_how_many_rows : Option Addr} {sl_how_many_rows : Array (Option Value)} {oc_how_many_rows kV_how_many_rows dc_how_many_rows pm_how_many_rows cd_how_many_rows ct_how_many_rows : Value}
    {f_choices_beside : Addr} {od_choices_beside an_choices_beside : Option Addr} {sl_choices_beside : Array (Option Value)} {oc_choices_beside kV_choices_beside dc_choices_beside pm_choices_beside cd_choices_beside ct_choices_beside : Value}
    {f_rows_beside : Addr} {od_rows_beside an_rows_beside : Option Addr} {sl_rows_beside : Array (Option Value)} {oc_rows_beside kV_rows_beside dc_rows_beside pm_rows_beside cd_rows_beside ct_rows_beside : Value}
    {f_ends_beside : Addr} {od_ends_beside an_ends_beside : Option Addr} {sl_ends_beside : Array (Option Value)} {oc_ends_beside kV_ends_beside dc_ends_beside pm_ends_beside cd_ends_beside ct_ends_beside : Value}
    {f_turned_at : Addr} {od_turned_at an_turned_at : Option Addr} {sl_turned_at : Array (Option Value)} {oc_turned_at kV_turned_at dc_turned_at pm_turned_at cd_turned_at ct_turned_at : Value}
    {f__law_feed : Addr} {od__law_feed an__law_feed : Option Addr} {sl__law_feed : Array (Option Value)} {oc__law_feed kV__law_feed dc__law_feed pm__law_feed cd__law_feed ct__law_feed : Value}
    {f__law_draw : Addr} {od__law_draw an__law_draw : Option Addr} {sl__law_draw : Array (Option Value)} {oc__law_draw kV__law_draw dc__law_draw pm__law_draw cd__law_draw ct__law_draw : Value}
    {f__law_any : Addr} {od__law_any an__law_any : Option Addr} {sl__law_any : Array (Option Value)} {oc__law_any kV__law_any dc__law_any pm__law_any cd__law_any ct__law_any : Value}
    {f__law_lot : Addr} {od__law_lot an__law_lot : Option Addr} {sl__law_lot : Array (Option Value)} {oc__law_lot kV__law_lot dc__law_lot pm__law_lot cd__law_lot ct__law_lot : Value}
    {f__law_primes : Addr} {od__law_primes an__law_primes : Option Addr} {sl__law_primes : Array (Option Value)} {oc__law_primes kV__law_primes dc__law_primes pm__law_primes cd__law_primes ct__law_primes : Value}
    {f__law_rows : Addr} {od__law_rows an__law_rows : Option Addr} {sl__law_rows : Array (Option Value)} {oc__law_rows kV__law_rows dc__law_rows pm__law_rows cd__law_rows ct__law_rows : Value}
    {f__law_choices : Addr} {od__law_choices an__law_choices : Option Addr} {sl__law_choices : Array (Option Value)} {oc__law_choices kV__law_choices dc__law_choices pm__law_choices cd__law_choices ct__law_choices : Value}
    {f__law_how_many : Addr} {od__law_how_many an__law_how_many : Option Addr} {sl__law_how_many : Array (Option Value)} {oc__law_how_many kV__law_how_many dc__law_how_many pm__law_how_many cd__law_how_many ct__law_how_many : Value}
    {f__law_are_choices_right : Addr} {od__law_are_choices_right an__law_are_choices_right : Option Addr} {sl__law_are_choices_right : Array (Option Value)} {oc__law_are_choices_right kV__law_are_choices_right dc__law_are_choices_right pm__law_are_choices_right cd__law_are_choices_right ct__law_are_choices_right : Value}
    {f_law : Addr} {od_law an_law : Option Addr} {sl_law : Array (Option Value)} {oc_law kV_law dc_law pm_law cd_law ct_law : Value}
    {t_MOST_POWER : Tok}
    {t_PRIME_END : Tok}
    {CA_InvalidPaper : Addr}
    {CA_NotUsable : Addr}
    {fI_InvalidPaper : Addr} {odI_InvalidPaper anI_InvalidPaper : Option Addr} {slI_InvalidPaper : Array (Option Value)} {ocI_InvalidPaper kVI_InvalidPaper dcI_InvalidPaper pmI_InvalidPaper cdI_InvalidPaper ctI_InvalidPaper : Value}
    {fI_NotUsable : Addr} {odI_NotUsable anI_NotUsable : Option Addr} {slI_NotUsable : Array (Option Value)} {ocI_NotUsable kVI_NotUsable dcI_NotUsable pmI_NotUsable cdI_NotUsable ctI_NotUsable : Value}
    (a_is_integer : PySem.W.nsIn K mainGlobals "is_integer" = some (some (.ref f_is_integer))) (l_is_integer : K.lookup f_is_integer = some ⟨oc_is_integer, od_is_integer, .func (PySem.W.fnOf "is_integer" "is_integer" (defArgs s_is_integer) (defBody s_is_integer) (defScope s_is_integer) .none kV_is_integer dc_is_integer pm_is_integer an_is_integer cd_is_integer ct_is_integer), sl_is_integer⟩) (c_is_integer : PySem.W.codeIn K cd_is_integer "is_integer" = true) (k_is_integer : PySem.W.keepIn K (.ref f_is_integer) = true)
    (a_is_number : PySem.W.nsIn K mainGlobals "is_number" = some (some (.ref f_is_number))) (l_is_number : K.lookup f_is_number = some ⟨oc_is_number, od_is_number, .func (PySem.W.fnOf "is_number" "is_number" (defArgs s_is_number) (defBody s_is_number) (defScope s_is_number) .none kV_is_number dc_is_number pm_is_number an_is_number cd_is_number ct_is_number), sl_is_number⟩) (c_is_number : PySem.W.codeIn K cd_is_number "is_number" = true) (k_is_number : PySem.W.keepIn K (.ref f_is_number) = true)
    (a_is_below : PySem.W.nsIn K mainGlobals "is_below" = some (some (.ref f_is_below))) (l_is_below : K.lookup f_is_below = some ⟨oc_is_below, od_is_below, .func (PySem.W.fnOf "is_below" "is_below" (defArgs s_is_below) (defBody s_is_below) (defScope s_is_below) .none kV_is_below dc_is_below pm_is_below an_is_below cd_is_below ct_is_below), sl_is_below⟩) (c_is_below : PySem.W.codeIn K cd_is_below "is_below" = true) (k_is_below : PySem.W.keepIn K (.ref f_is_below) = true)
    (a_is_positive : PySem.W.nsIn K mainGlobals "is_positive" = some (some (.ref f_is_positive))) (l_is_positive : K.lookup f_is_positive = some ⟨oc_is_positive, od_is_positive, .func (PySem.W.fnOf "is_positive" "is_positive" (defArgs s_is_positive) (defBody s_is_positive) (defScope s_is_positive) .none kV_is_positive dc_is_positive pm_is_positive an_is_positive cd_is_positive ct_is_positive), sl_is_positive⟩) (c_is_positive : PySem.W.codeIn K cd_is_positive "is_positive" = true) (k_is_positive : PySem.W.keepIn K (.ref f_is_positive) = true)
    (a_is_power : PySem.W.nsIn K mainGlobals "is_power" = some (some (.ref f_is_power))) (l_is_power : K.lookup f_is_power = some ⟨oc_is_power, od_is_power, .func (PySem.W.fnOf "is_power" "is_power" (defArgs s_is_power) (defBody s_is_power) (defScope s_is_power) .none kV_is_power dc_is_power pm_is_power an_is_power cd_is_power ct_is_power), sl_is_power⟩) (c_is_power : PySem.W.codeIn K cd_is_power "is_power" = true) (k_is_power : PySem.W.keepIn K (.ref f_is_power) = true)
    (a_is_prime : PySem.W.nsIn K mainGlobals "is_prime" = some (some (.ref f_is_prime))) (l_is_prime : K.lookup f_is_prime = some ⟨oc_is_prime, od_is_prime, .func (PySem.W.fnOf "is_prime" "is_prime" (defArgs s_is_prime) (defBody s_is_prime) (defScope s_is_prime) .none kV_is_prime dc_is_prime pm_is_prime an_is_prime cd_is_prime ct_is_prime), sl_is_prime⟩) (c_is_prime : PySem.W.codeIn K cd_is_prime "is_prime" = true) (k_is_prime : PySem.W.keepIn K (.ref f_is_prime) = true)
    (a_is_pair : PySem.W.nsIn K mainGlobals "is_pair" = some (some (.ref f_is_pair))) (l_is_pair : K.lookup f_is_pair = some ⟨oc_is_pair, od_is_pair, .func (PySem.W.fnOf "is_pair" "is_pair" (defArgs s_is_pair) (defBody s_is_pair) (defScope s_is_pair) .none kV_is_pair dc_is_pair pm_is_pair an_is_pair cd_is_pair ct_is_pair), sl_is_pair⟩) (c_is_pair : PySem.W.codeIn K cd_is_pair "is_pair" = true) (k_is_pair : PySem.W.keepIn K (.ref f_is_pair) = true)
    (a_pair_fault : PySem.W.nsIn K mainGlobals "pair_fault" = some (some (.ref f_pair_fault))) (l_pair_fault : K.lookup f_pair_fault = some ⟨oc_pair_fault, od_pair_fault, .func (PySem.W.fnOf "pair_fault" "pair_fault" (defArgs s_pair_fault) (defBody s_pair_fault) (defScope s_pair_fault) .none kV_pair_fault dc_pair_fault pm_pair_fault an_pair_fault cd_pair_fault ct_pair_fault), sl_pair_fault⟩) (c_pair_fault : PySem.W.codeIn K cd_pair_fault "pair_fault" = true) (k_pair_fault : PySem.W.keepIn K (.ref f_pair_fault) = true)
    (a_count_fault : PySem.W.nsIn K mainGlobals "count_fault" = some (some (.ref f_count_fault))) (l_count_fault : K.lookup f_count_fault = some ⟨oc_count_fault, od_count_fault, .func (PySem.W.fnOf "count_fault" "count_fault" (defArgs s_count_fault) (defBody s_count_fault) (defScope s_count_fault) .none kV_count_fault dc_count_fault pm_count_fault an_count_fault cd_count_fault ct_count_fault), sl_count_fault⟩) (c_count_fault : PySem.W.codeIn K cd_count_fault "count_fault" = true) (k_count_fault : PySem.W.keepIn K (.ref f_count_fault) = true)
    (a_is_count : PySem.W.nsIn K mainGlobals "is_count" = some (some (.ref f_is_count))) (l_is_count : K.lookup f_is_count = some ⟨oc_is_count, od_is_count, .func (PySem.W.fnOf "is_count" "is_count" (defArgs s_is_count) (defBody s_is_count) (defScope s_is_count) .none kV_is_count dc_is_count pm_is_count an_is_count cd_is_count ct_is_count), sl_is_count⟩) (c_is_count : PySem.W.codeIn K cd_is_count "is_count" = true) (k_is_count : PySem.W.keepIn K (.ref f_is_count) = true)
    (a_is_free : PySem.W.nsIn K mainGlobals "is_free" = some (some (.ref f_is_free))) (l_is_free : K.lookup f_is_free = some ⟨oc_is_free, od_is_free, .func (PySem.W.fnOf "is_free" "is_free" (defArgs s_is_free) (defBody s_is_free) (defScope s_is_free) .none kV_is_free dc_is_free pm_is_free an_is_free cd_is_free ct_is_free), sl_is_free⟩) (c_is_free : PySem.W.codeIn K cd_is_free "is_free" = true) (k_is_free : PySem.W.keepIn K (.ref f_is_free) = true)
    (a_choice_fault : PySem.W.nsIn K mainGlobals "choice_fault" = some (some (.ref f_choice_fault))) (l_choice_fault : K.lookup f_choice_fault = some ⟨oc_choice_fault, od_choice_fault, .func (PySem.W.fnOf "choice_fault" "choice_fault" (defArgs s_choice_fault) (defBody s_choice_fault) (defScope s_choice_fault) .none kV_choice_fault dc_choice_fault pm_choice_fault an_choice_fault cd_choice_fault ct_choice_fault), sl_choice_fault⟩) (c_choice_fault : PySem.W.codeIn K cd_choice_fault "choice_fault" = true) (k_choice_fault : PySem.W.keepIn K (.ref f_choice_fault) = true)
    (a_is_acting : PySem.W.nsIn K mainGlobals "is_acting" = some (some (.ref f_is_acting))) (l_is_acting : K.lookup f_is_acting = some ⟨oc_is_acting, od_is_acting, .func (PySem.W.fnOf "is_acting" "is_acting" (defArgs s_is_acting) (defBody s_is_acting) (defScope s_is_acting) .none kV_is_acting dc_is_acting pm_is_acting an_is_acting cd_is_acting ct_is_acting), sl_is_acting⟩) (c_is_acting : PySem.W.codeIn K cd_is_acting "is_acting" = true) (k_is_acting : PySem.W.keepIn K (.ref f_is_acting) = true)
    (a_row_fault : PySem.W.nsIn K mainGlobals "row_fault" = some (some (.ref f_row_fault))) (l_row_fault : K.lookup f_row_fault = some ⟨oc_row_fault, od_row_fault, .func (PySem.W.fnOf "row_fault" "row_fault" (defArgs s_row_fault) (defBody s_row_fault) (defScope s_row_fault) .none kV_row_fault dc_row_fault pm_row_fault an_row_fault cd_row_fault ct_row_fault), sl_row_fault⟩) (c_row_fault : PySem.W.codeIn K cd_row_fault "row_fault" = true) (k_row_fault : PySem.W.keepIn K (.ref f_row_fault) = true)
    (a_can_act : PySem.W.nsIn K mainGlobals "can_act" = some (some (.ref f_can_act))) (l_can_act : K.lookup f_can_act = some ⟨oc_can_act, od_can_act, .func (PySem.W.fnOf "can_act" "can_act" (defArgs s_can_act) (defBody s_can_act) (defScope s_can_act) .none kV_can_act dc_can_act pm_can_act an_can_act cd_can_act ct_can_act), sl_can_act⟩) (c_can_act : PySem.W.codeIn K cd_can_act "can_act" = true) (k_can_act : PySem.W.keepIn K (.ref f_can_act) = true)
    (a_does_reach : PySem.W.nsIn K mainGlobals "does_reach" = some (some (.ref f_does_reach))) (l_does_reach : K.lookup f_does_reach = some ⟨oc_does_reach, od_does_reach, .func (PySem.W.fnOf "does_reach" "does_reach" (defArgs s_does_reach) (defBody s_does_reach) (defScope s_does_reach) .none kV_does_reach dc_does_reach pm_does_reach an_does_reach cd_does_reach ct_does_reach), sl_does_reach⟩) (c_does_reach : PySem.W.codeIn K cd_does_reach "does_reach" = true) (k_does_reach : PySem.W.keepIn K (.ref f_does_reach) = true)
    (a_lets_choice : PySem.W.nsIn K mainGlobals "lets_choice" = some (some (.ref f_lets_choice))) (l_lets_choice : K.lookup f_lets_choice = some ⟨oc_lets_choice, od_lets_choice, .func (PySem.W.fnOf "lets_choice" "lets_choice" (defArgs s_lets_choice) (defBody s_lets_choice) (defScope s_lets_choice) .none kV_lets_choice dc_lets_choice pm_lets_choice an_lets_choice cd_lets_choice ct_lets_choice), sl_lets_choice⟩) (c_lets_choice : PySem.W.codeIn K cd_lets_choice "lets_choice" = true) (k_lets_choice : PySem.W.keepIn K (.ref f_lets_choice) = true)
    (a_need_free : PySem.W.nsIn K mainGlobals "need_free" = some (some (.ref f_need_free))) (l_need_free : K.lookup f_need_free = some ⟨oc_need_free, od_need_free, .func (PySem.W.fnOf "need_free" "need_free" (defArgs s_need_free) (defBody s_need_free) (defScope s_need_free) .none kV_need_free dc_need_free pm_need_free an_need_free cd_need_free ct_need_free), sl_need_free⟩) (c_need_free : PySem.W.codeIn K cd_need_free "need_free" = true) (k_need_free : PySem.W.keepIn K (.ref f_need_free) = true)
    (a_need_choice : PySem.W.nsIn K mainGlobals "need_choice" = some (some (.ref f_need_choice))) (l_need_choice : K.lookup f_need_choice = some ⟨oc_need_choice, od_need_choice, .func (PySem.W.fnOf "need_choice" "need_choice" (defArgs s_need_choice) (defBody s_need_choice) (defScope s_need_choice) .none kV_need_choice dc_need_choice pm_need_choice an_need_choice cd_need_choice ct_need_choice), sl_need_choice⟩) (c_need_choice : PySem.W.codeIn K cd_need_choice "need_choice" = true) (k_need_choice : PySem.W.keepIn K (.ref f_need_choice) = true)
    (a_raised : PySem.W.nsIn K mainGlobals "raised" = some (some (.ref f_raised))) (l_raised : K.lookup f_raised = some ⟨oc_raised, od_raised, .func (PySem.W.fnOf "raised" "raised" (defArgs s_raised) (defBody s_raised) (defScope s_raised) .none kV_raised dc_raised pm_raised an_raised cd_raised ct_raised), sl_raised⟩) (c_raised : PySem.W.codeIn K cd_raised "raised" = true) (k_raised : PySem.W.keepIn K (.ref f_raised) = true)
    (a_raised_modulo : PySem.W.nsIn K mainGlobals "raised_modulo" = some (some (.ref f_raised_modulo))) (l_raised_modulo : K.lookup f_raised_modulo = some ⟨oc_raised_modulo, od_raised_modulo, .func (PySem.W.fnOf "raised_modulo" "raised_modulo" (defArgs s_raised_modulo) (defBody s_raised_modulo) (defScope s_raised_modulo) .none kV_raised_modulo dc_raised_modulo pm_raised_modulo an_raised_modulo cd_raised_modulo ct_raised_modulo), sl_raised_modulo⟩) (c_raised_modulo : PySem.W.codeIn K cd_raised_modulo "raised_modulo" = true) (k_raised_modulo : PySem.W.keepIn K (.ref f_raised_modulo) = true)
    (a_need_count : PySem.W.nsIn K mainGlobals "need_count" = some (some (.ref f_need_count))) (l_need_count : K.lookup f_need_count = some ⟨oc_need_count, od_need_count, .func (PySem.W.fnOf "need_count" "need_count" (defArgs s_need_count) (defBody s_need_count) (defScope s_need_count) .none kV_need_count dc_need_count pm_need_count an_need_count cd_need_count ct_need_count), sl_need_count⟩) (c_need_count : PySem.W.codeIn K cd_need_count "need_count" = true) (k_need_count : PySem.W.keepIn K (.ref f_need_count) = true)
    (a_need_prime : PySem.W.nsIn K mainGlobals "need_prime" = some (some (.ref f_need_prime))) (l_need_prime : K.lookup f_need_prime = some ⟨oc_need_prime, od_need_prime, .func (PySem.W.fnOf "need_prime" "need_prime" (defArgs s_need_prime) (defBody s_need_prime) (defScope s_need_prime) .none kV_need_prime dc_need_prime pm_need_prime an_need_prime cd_need_prime ct_need_prime), sl_need_prime⟩) (c_need_prime : PySem.W.codeIn K cd_need_prime "need_prime" = true) (k_need_prime : PySem.W.keepIn K (.ref f_need_prime) = true)
    (a_primes_of : PySem.W.nsIn K mainGlobals "primes_of" = some (some (.ref f_primes_of))) (l_primes_of : K.lookup f_primes_of = some ⟨oc_primes_of, od_primes_of, .func (PySem.W.fnOf "primes_of" "primes_of" (defArgs s_primes_of) (defBody s_primes_of) (defScope s_primes_of) .none kV_primes_of dc_primes_of pm_primes_of an_primes_of cd_primes_of ct_primes_of), sl_primes_of⟩) (c_primes_of : PySem.W.codeIn K cd_primes_of "primes_of" = true) (k_primes_of : PySem.W.keepIn K (.ref f_primes_of) = true)
    (a_root_of : PySem.W.nsIn K mainGlobals "root_of" = some (some (.ref f_root_of))) (l_root_of : K.lookup f_root_of = some ⟨oc_root_of, od_root_of, .func (PySem.W.fnOf "root_of" "root_of" (defArgs s_root_of) (defBody s_root_of) (defScope s_root_of) .none kV_root_of dc_root_of pm_root_of an_root_of cd_root_of ct_root_of), sl_root_of⟩) (c_root_of : PySem.W.codeIn K cd_root_of "root_of" = true) (k_root_of : PySem.W.keepIn K (.ref f_root_of) = true)
    (a_at_rest : PySem.W.nsIn K mainGlobals "at_rest" = some (some (.ref f_at_rest))) (l_at_rest : K.lookup f_at_rest = some ⟨oc_at_rest, od_at_rest, .func (PySem.W.fnOf "at_rest" "at_rest" (defArgs s_at_rest) (defBody s_at_rest) (defScope s_at_rest) .none kV_at_rest dc_at_rest pm_at_rest an_at_rest cd_at_rest ct_at_rest), sl_at_rest⟩) (c_at_rest : PySem.W.codeIn K cd_at_rest "at_rest" = true) (k_at_rest : PySem.W.keepIn K (.ref f_at_rest) = true)
    (a_how_many_groups : PySem.W.nsIn K mainGlobals "how_many_groups" = some (some (.ref f_how_many_groups))) (l_how_many_groups : K.lookup f_how_many_groups = some ⟨oc_how_many_groups, od_how_many_groups, .func (PySem.W.fnOf "how_many_groups" "how_many_groups" (defArgs s_how_many_groups) (defBody s_how_many_groups) (defScope s_how_many_groups) .none kV_how_many_groups dc_how_many_groups pm_how_many_groups an_how_many_groups cd_how_many_groups ct_how_many_groups), sl_how_many_groups⟩) (c_how_many_groups : PySem.W.codeIn K cd_how_many_groups "how_many_groups" = true) (k_how_many_groups : PySem.W.keepIn K (.ref f_how_many_groups) = true)
    (a_choices_of : PySem.W.nsIn K mainGlobals "choices_of" = some (some (.ref f_choices_of))) (l_choices_of : K.lookup f_choices_of = some ⟨oc_choices_of, od_choices_of, .func (PySem.W.fnOf "choices_of" "choices_of" (defArgs s_choices_of) (defBody s_choices_of) (defScope s_choices_of) .none kV_choices_of dc_choices_of pm_choices_of an_choices_of cd_choices_of ct_choices_of), sl_choices_of⟩) (c_choices_of : PySem.W.codeIn K cd_choices_of "choices_of" = true) (k_choices_of : PySem.W.keepIn K (.ref f_choices_of) = true)
    (a_group_of : PySem.W.nsIn K mainGlobals "group_of" = some (some (.ref f_group_of))) (l_group_of : K.lookup f_group_of = some ⟨oc_group_of, od_group_of, .func (PySem.W.fnOf "group_of" "group_of" (defArgs s_group_of) (defBody s_group_of) (defScope s_group_of) .none kV_group_of dc_group_of pm_group_of an_group_of cd_group_of ct_group_of), sl_group_of⟩) (c_group_of : PySem.W.codeIn K cd_group_of "group_of" = true) (k_group_of : PySem.W.keepIn K (.ref f_group_of) = true)
    (a_roots_of : PySem.W.nsIn K mainGlobals "roots_of" = some (some (.ref f_roots_of))) (l_roots_of : K.lookup f_roots_of = some ⟨oc_roots_of, od_roots_of, .func (PySem.W.fnOf "roots_of" "roots_of" (defArgs s_roots_of) (defBody s_roots_of) (defScope s_roots_of) .none kV_roots_of dc_roots_of pm_roots_of an_roots_of cd_roots_of ct_roots_of), sl_roots_of⟩) (c_roots_of : PySem.W.codeIn K cd_roots_of "roots_of" = true) (k_roots_of : PySem.W.keepIn K (.ref f_roots_of) = true)
    (a_multiplied : PySem.W.nsIn K mainGlobals "multiplied" = some (some (.ref f_multiplied))) (l_multiplied : K.lookup f_multiplied = some ⟨oc_multiplied, od_multiplied, .func (PySem.W.fnOf "multiplied" "multiplied" (defArgs s_multiplied) (defBody s_multiplied) (defScope s_multiplied) .none kV_multiplied dc_multiplied pm_multiplied an_multiplied cd_multiplied ct_multiplied), sl_multiplied⟩) (c_multiplied : PySem.W.codeIn K cd_multiplied "multiplied" = true) (k_multiplied : PySem.W.keepIn K (.ref f_multiplied) = true)
    (a_share_of : PySem.W.nsIn K mainGlobals "share_of" = some (some (.ref f_share_of))) (l_share_of : K.lookup f_share_of = some ⟨oc_share_of, od_share_of, .func (PySem.W.fnOf "share_of" "share_of" (defArgs s_share_of) (defBody s_share_of) (defScope s_share_of) .none kV_share_of dc_share_of pm_share_of an_share_of cd_share_of ct_share_of), sl_share_of⟩) (c_share_of : PySem.W.codeIn K cd_share_of "share_of" = true) (k_share_of : PySem.W.keepIn K (.ref f_share_of) = true)
    (a_rests_of : PySem.W.nsIn K mainGlobals "rests_of" = some (some (.ref f_rests_of))) (l_rests_of : K.lookup f_rests_of = some ⟨oc_rests_of, od_rests_of, .func (PySem.W.fnOf "rests_of" "rests_of" (defArgs s_rests_of) (defBody s_rests_of) (defScope s_rests_of) .none kV_rests_of dc_rests_of pm_rests_of an_rests_of cd_rests_of ct_rests_of), sl_rests_of⟩) (c_rests_of : PySem.W.codeIn K cd_rests_of "rests_of" = true) (k_rests_of : PySem.W.keepIn K (.ref f_rests_of) = true)
    (a_primes_beside : PySem.W.nsIn K mainGlobals "primes_beside" = some (some (.ref f_primes_beside))) (l_primes_beside : K.lookup f_primes_beside = some ⟨oc_primes_beside, od_primes_beside, .func (PySem.W.fnOf "primes_beside" "primes_beside" (defArgs s_primes_beside) (defBody s_primes_beside) (defScope s_primes_beside) .none kV_primes_beside dc_primes_beside pm_primes_beside an_primes_beside cd_primes_beside ct_primes_beside), sl_primes_beside⟩) (c_primes_beside : PySem.W.codeIn K cd_primes_beside "primes_beside" = true) (k_primes_beside : PySem.W.keepIn K (.ref f_primes_beside) = true)
    (a_how_many_rows : PySem.W.nsIn K mainGlobals "how_many_rows" = some (some (.ref f_how_many_rows))) (l_how_many_rows : K.lookup f_how_many_rows = some ⟨oc_how_many_rows, od_how_many_rows, .func (PySem.W.fnOf "how_many_rows" "how_many_rows" (defArgs s_how_many_rows) (defBody s_how_many_rows) (defScope s_how_many_rows) .none kV_how_many_rows dc_how_many_rows pm_how_many_rows an_how_many_rows cd_how_many_rows ct_how_many_rows), sl_how_many_rows⟩) (c_how_many_rows : PySem.W.codeIn K cd_how_many_rows "how_many_rows" = true) (k_how_many_rows : PySem.W.keepIn K (.ref f_how_many_rows) = true)
    (a_choices_beside : PySem.W.nsIn K mainGlobals "choices_beside" = some (some (.ref f_choices_beside))) (l_choices_beside : K.lookup f_choices_beside = some ⟨oc_choices_beside, od_choices_beside, .func (PySem.W.fnOf "choices_beside" "choices_beside" (defArgs s_choices_beside) (defBody s_choices_beside) (defScope s_choices_beside) .none kV_choices_beside dc_choices_beside pm_choices_beside an_choices_beside cd_choices_beside ct_choices_beside), sl_choices_beside⟩) (c_choices_beside : PySem.W.codeIn K cd_choices_beside "choices_beside" = true) (k_choices_beside : PySem.W.keepIn K (.ref f_choices_beside) = true)
    (a_rows_beside : PySem.W.nsIn K mainGlobals "rows_beside" = some (some (.ref f_rows_beside))) (l_rows_beside : K.lookup f_rows_beside = some ⟨oc_rows_beside, od_rows_beside, .func (PySem.W.fnOf "rows_beside" "rows_beside" (defArgs s_rows_beside) (defBody s_rows_beside) (defScope s_rows_beside) .none kV_rows_beside dc_rows_beside pm_rows_beside an_rows_beside cd_rows_beside ct_rows_beside), sl_rows_beside⟩) (c_rows_beside : PySem.W.codeIn K cd_rows_beside "rows_beside" = true) (k_rows_beside : PySem.W.keepIn K (.ref f_rows_beside) = true)
    (a_ends_beside : PySem.W.nsIn K mainGlobals "ends_beside" = some (some (.ref f_ends_beside))) (l_ends_beside : K.lookup f_ends_beside = some ⟨oc_ends_beside, od_ends_beside, .func (PySem.W.fnOf "ends_beside" "ends_beside" (defArgs s_ends_beside) (defBody s_ends_beside) (defScope s_ends_beside) .none kV_ends_beside dc_ends_beside pm_ends_beside an_ends_beside cd_ends_beside ct_ends_beside), sl_ends_beside⟩) (c_ends_beside : PySem.W.codeIn K cd_ends_beside "ends_beside" = true) (k_ends_beside : PySem.W.keepIn K (.ref f_ends_beside) = true)
    (a_turned_at : PySem.W.nsIn K mainGlobals "turned_at" = some (some (.ref f_turned_at))) (l_turned_at : K.lookup f_turned_at = some ⟨oc_turned_at, od_turned_at, .func (PySem.W.fnOf "turned_at" "turned_at" (defArgs s_turned_at) (defBody s_turned_at) (defScope s_turned_at) .none kV_turned_at dc_turned_at pm_turned_at an_turned_at cd_turned_at ct_turned_at), sl_turned_at⟩) (c_turned_at : PySem.W.codeIn K cd_turned_at "turned_at" = true) (k_turned_at : PySem.W.keepIn K (.ref f_turned_at) = true)
    (a__law_feed : PySem.W.nsIn K mainGlobals "_law_feed" = some (some (.ref f__law_feed))) (l__law_feed : K.lookup f__law_feed = some ⟨oc__law_feed, od__law_feed, .func (PySem.W.fnOf "_law_feed" "_law_feed" (defArgs s__law_feed) (defBody s__law_feed) (defScope s__law_feed) .none kV__law_feed dc__law_feed pm__law_feed an__law_feed cd__law_feed ct__law_feed), sl__law_feed⟩) (c__law_feed : PySem.W.codeIn K cd__law_feed "_law_feed" = true) (k__law_feed : PySem.W.keepIn K (.ref f__law_feed) = true)
    (a__law_draw : PySem.W.nsIn K mainGlobals "_law_draw" = some (some (.ref f__law_draw))) (l__law_draw : K.lookup f__law_draw = some ⟨oc__law_draw, od__law_draw, .func (PySem.W.fnOf "_law_draw" "_law_draw" (defArgs s__law_draw) (defBody s__law_draw) (defScope s__law_draw) .none kV__law_draw dc__law_draw pm__law_draw an__law_draw cd__law_draw ct__law_draw), sl__law_draw⟩) (c__law_draw : PySem.W.codeIn K cd__law_draw "_law_draw" = true) (k__law_draw : PySem.W.keepIn K (.ref f__law_draw) = true)
    (a__law_any : PySem.W.nsIn K mainGlobals "_law_any" = some (some (.ref f__law_any))) (l__law_any : K.lookup f__law_any = some ⟨oc__law_any, od__law_any, .func (PySem.W.fnOf "_law_any" "_law_any" (defArgs s__law_any) (defBody s__law_any) (defScope s__law_any) .none kV__law_any dc__law_any pm__law_any an__law_any cd__law_any ct__law_any), sl__law_any⟩) (c__law_any : PySem.W.codeIn K cd__law_any "_law_any" = true) (k__law_any : PySem.W.keepIn K (.ref f__law_any) = true)
    (a__law_lot : PySem.W.nsIn K mainGlobals "_law_lot" = some (some (.ref f__law_lot))) (l__law_lot : K.lookup f__law_lot = some ⟨oc__law_lot, od__law_lot, .func (PySem.W.fnOf "_law_lot" "_law_lot" (defArgs s__law_lot) (defBody s__law_lot) (defScope s__law_lot) .none kV__law_lot dc__law_lot pm__law_lot an__law_lot cd__law_lot ct__law_lot), sl__law_lot⟩) (c__law_lot : PySem.W.codeIn K cd__law_lot "_law_lot" = true) (k__law_lot : PySem.W.keepIn K (.ref f__law_lot) = true)
    (a__law_primes : PySem.W.nsIn K mainGlobals "_law_primes" = some (some (.ref f__law_primes))) (l__law_primes : K.lookup f__law_primes = some ⟨oc__law_primes, od__law_primes, .func (PySem.W.fnOf "_law_primes" "_law_primes" (defArgs s__law_primes) (defBody s__law_primes) (defScope s__law_primes) .none kV__law_primes dc__law_primes pm__law_primes an__law_primes cd__law_primes ct__law_primes), sl__law_primes⟩) (c__law_primes : PySem.W.codeIn K cd__law_primes "_law_primes" = true) (k__law_primes : PySem.W.keepIn K (.ref f__law_primes) = true)
    (a__law_rows : PySem.W.nsIn K mainGlobals "_law_rows" = some (some (.ref f__law_rows))) (l__law_rows : K.lookup f__law_rows = some ⟨oc__law_rows, od__law_rows, .func (PySem.W.fnOf "_law_rows" "_law_rows" (defArgs s__law_rows) (defBody s__law_rows) (defScope s__law_rows) .none kV__law_rows dc__law_rows pm__law_rows an__law_rows cd__law_rows ct__law_rows), sl__law_rows⟩) (c__law_rows : PySem.W.codeIn K cd__law_rows "_law_rows" = true) (k__law_rows : PySem.W.keepIn K (.ref f__law_rows) = true)
    (a__law_choices : PySem.W.nsIn K mainGlobals "_law_choices" = some (some (.ref f__law_choices))) (l__law_choices : K.lookup f__law_choices = some ⟨oc__law_choices, od__law_choices, .func (PySem.W.fnOf "_law_choices" "_law_choices" (defArgs s__law_choices) (defBody s__law_choices) (defScope s__law_choices) .none kV__law_choices dc__law_choices pm__law_choices an__law_choices cd__law_choices ct__law_choices), sl__law_choices⟩) (c__law_choices : PySem.W.codeIn K cd__law_choices "_law_choices" = true) (k__law_choices : PySem.W.keepIn K (.ref f__law_choices) = true)
    (a__law_how_many : PySem.W.nsIn K mainGlobals "_law_how_many" = some (some (.ref f__law_how_many))) (l__law_how_many : K.lookup f__law_how_many = some ⟨oc__law_how_many, od__law_how_many, .func (PySem.W.fnOf "_law_how_many" "_law_how_many" (defArgs s__law_how_many) (defBody s__law_how_many) (defScope s__law_how_many) .none kV__law_how_many dc__law_how_many pm__law_how_many an__law_how_many cd__law_how_many ct__law_how_many), sl__law_how_many⟩) (c__law_how_many : PySem.W.codeIn K cd__law_how_many "_law_how_many" = true) (k__law_how_many : PySem.W.keepIn K (.ref f__law_how_many) = true)
    (a__law_are_choices_right : PySem.W.nsIn K mainGlobals "_law_are_choices_right" = some (some (.ref f__law_are_choices_right))) (l__law_are_choices_right : K.lookup f__law_are_choices_right = some ⟨oc__law_are_choices_right, od__law_are_choices_right, .func (PySem.W.fnOf "_law_are_choices_right" "_law_are_choices_right" (defArgs s__law_are_choices_right) (defBody s__law_are_choices_right) (defScope s__law_are_choices_right) .none kV__law_are_choices_right dc__law_are_choices_right pm__law_are_choices_right an__law_are_choices_right cd__law_are_choices_right ct__law_are_choices_right), sl__law_are_choices_right⟩) (c__law_are_choices_right : PySem.W.codeIn K cd__law_are_choices_right "_law_are_choices_right" = true) (k__law_are_choices_right : PySem.W.keepIn K (.ref f__law_are_choices_right) = true)
    (a_law : PySem.W.nsIn K mainGlobals "law" = some (some (.ref f_law))) (l_law : K.lookup f_law = some ⟨oc_law, od_law, .func (PySem.W.fnOf "law" "law" (defArgs s_law) (defBody s_law) (defScope s_law) .none kV_law dc_law pm_law an_law cd_law ct_law), sl_law⟩) (c_law : PySem.W.codeIn K cd_law "law" = true) (k_law : PySem.W.keepIn K (.ref f_law) = true)
    (b_all : PySem.W.nsIn K mainGlobals "all" = some none)
    (b_bool : PySem.W.nsIn K mainGlobals "bool" = some none)
    (b_enumerate : PySem.W.nsIn K mainGlobals "enumerate" = some none)
    (b_int : PySem.W.nsIn K mainGlobals "int" = some none)
    (b_isinstance : PySem.W.nsIn K mainGlobals "isinstance" = some none)
    (b_len : PySem.W.nsIn K mainGlobals "len" = some none)
    (b_min : PySem.W.nsIn K mainGlobals "min" = some none)
    (b_range : PySem.W.nsIn K mainGlobals "range" = some none)
    (b_repr : PySem.W.nsIn K mainGlobals "repr" = some none)
    (b_set : PySem.W.nsIn K mainGlobals "set" = some none)
    (b_sorted : PySem.W.nsIn K mainGlobals "sorted" = some none)
    (b_sum : PySem.W.nsIn K mainGlobals "sum" = some none)
    (b_tuple : PySem.W.nsIn K mainGlobals "tuple" = some none)
    (g_MOST_POWER : PySem.W.nsIn K mainGlobals "MOST_POWER" = some (some (.int 6 t_MOST_POWER)))
    (g_PRIME_END : PySem.W.nsIn K mainGlobals "PRIME_END" = some (some (.int 10000 t_PRIME_END)))
    (kp : kPlainB K = true)
    (mC_InvalidPaper : PySem.W.nsIn K mainGlobals "InvalidPaper" = some (some (.ref CA_InvalidPaper)))
    (mC_NotUsable : PySem.W.nsIn K mainGlobals "NotUsable" = some (some (.ref CA_NotUsable)))
    (ox_InvalidPaper : OexC K CA_InvalidPaper) (fi_InvalidPaper : PySem.W.findIn K (.ref CA_InvalidPaper) "__init__" = some (some (.ref fI_InvalidPaper))) (ti_InvalidPaper : PySem.W.typeIn K (.ref fI_InvalidPaper) = some (.type "function"))
    (lI_InvalidPaper : K.lookup fI_InvalidPaper = some ⟨ocI_InvalidPaper, odI_InvalidPaper, .func (PySem.W.fnOf "__init__" "InvalidPaper.__init__" (defArgs sE_InvalidPaper) (defBody sE_InvalidPaper) (defScope sE_InvalidPaper) .none kVI_InvalidPaper dcI_InvalidPaper pmI_InvalidPaper anI_InvalidPaper cdI_InvalidPaper ctI_InvalidPaper), slI_InvalidPaper⟩) (cI_InvalidPaper : PySem.W.codeIn K cdI_InvalidPaper "InvalidPaper.__init__" = true) (kI_InvalidPaper : PySem.W.keepIn K (.ref fI_InvalidPaper) = true)
    (nf_InvalidPaper_word : PySem.W.findIn K (.ref CA_InvalidPaper) "word" = some none)
    (nf_InvalidPaper_at : PySem.W.findIn K (.ref CA_InvalidPaper) "at" = some none)
    (xf_InvalidPaper : XfC K CA_InvalidPaper) (ec_InvalidPaper : ExcC K CA_InvalidPaper)
    (ox_NotUsable : OexC K CA_NotUsable) (fi_NotUsable : PySem.W.findIn K (.ref CA_NotUsable) "__init__" = some (some (.ref fI_NotUsable))) (ti_NotUsable : PySem.W.typeIn K (.ref fI_NotUsable) = some (.type "function"))
    (lI_NotUsable : K.lookup fI_NotUsable = some ⟨ocI_NotUsable, odI_NotUsable, .func (PySem.W.fnOf "__init__" "NotUsable.__init__" (defArgs sE_NotUsable) (defBody sE_NotUsable) (defScope sE_NotUsable) .none kVI_NotUsable dcI_NotUsable pmI_NotUsable anI_NotUsable cdI_NotUsable ctI_NotUsable), slI_NotUsable⟩) (cI_NotUsable : PySem.W.codeIn K cdI_NotUsable "NotUsable.__init__" = true) (kI_NotUsable : PySem.W.keepIn K (.ref fI_NotUsable) = true)
    (nf_NotUsable_word : PySem.W.findIn K (.ref CA_NotUsable) "word" = some none)
    (nf_NotUsable_at : PySem.W.findIn K (.ref CA_NotUsable) "at" = some none)
    (xf_NotUsable : XfC K CA_NotUsable) (ec_NotUsable : ExcC K CA_NotUsable) :
    ∃ (fd : FuncData) (tb : List (Addr × Addr)) (sp : Sp), (∀ p ∈ tb, h.get? p.2 = some { cls := .none, data := .fields #[] }) ∧ (∀ p ∈ tb, K.lookup p.2 = none) ∧ (∀ p ∈ tb, PySem.W.CodeHd h p.1 p.2) ∧
        (∀ (s : Shared) (u : Value), BindsTo s fd ⟨[u], []⟩ [("_law_script", u)]) ∧
        (∀ (H : Hp) (a : Addr) (ns : List Int), ns.length ≤ 63 → (∀ z ∈ ns, Builtin.Int.intBits z ≤ 1048576) → (∀ p ∈ tb, H p.2 = some (.tbl #[])) → SqL K H a (ns.map V.int) → sp [.ref a] H (fun v _ => v = .bl true) fun _ _ _ => False) ∧
        ∀ base : Heap, K.In base → base.Ns mainGlobals mg → (∀ p ∈ tb, LamX.TabB base mg p.1 p.2) → FnG l.prog w K mg base CX0 14 fa fd ["_law_script"] sp := by
  have e := hfa.symm.trans (PySem.W.mg_of X G a_law)
  cases e
  letI : Ad := { C_InvalidPaper := CA_InvalidPaper, C_NotUsable := CA_NotUsable }
  have t1 : ∀ p ∈ ([] : List (Addr × Addr)), h.get? p.2 = some { cls := .none, data := .fields #[] } := by
    intro p hp
    cases hp

  have t2 : ∀ p ∈ ([] : List (Addr × Addr)), K.lookup p.2 = none := by
    intro p hp
    cases hp

  have t3 : ∀ p ∈ ([] : List (Addr × Addr)), PySem.W.CodeHd h p.1 p.2 := by
    intro p hp
    cases hp

  refine ⟨PySem.W.fnOf "law" "law" (defArgs s_law) (defBody s_law) (defScope s_law) .none kV_law dc_law pm_law an_law cd_law ct_law, ([] : List (Addr × Addr)), D.spLaw K, t1, t2, t3, fun s v => .of_eq rfl, fun H a ns hl _ hT hS => ⟨a, ns, rfl, hS, hl, tabs_nil (fun p hp => ?_), fun _ => rfl⟩, fun base _ _ ht => ?_⟩
  · cases hp
  · have T : Txt w K mg base := {
      b_all := PySem.W.mg_none_of X G b_all
      b_bool := PySem.W.mg_none_of X G b_bool
      b_enumerate := PySem.W.mg_none_of X G b_enumerate
      b_int := PySem.W.mg_none_of X G b_int
      b_isinstance := PySem.W.mg_none_of X G b_isinstance
      b_len := PySem.W.mg_none_of X G b_len
      b_min := PySem.W.mg_none_of X G b_min
      b_range := PySem.W.mg_none_of X G b_range
      b_repr := PySem.W.mg_none_of X G b_repr
      b_set := PySem.W.mg_none_of X G b_set
      b_sorted := PySem.W.mg_none_of X G b_sorted
      b_sum := PySem.W.mg_none_of X G b_sum
      b_tuple := PySem.W.mg_none_of X G b_tuple
      g_MOST_POWER := ⟨_, .int _, PySem.W.mg_of X G g_MOST_POWER, ⟨_, rfl⟩, fun _ => .int _⟩
      g_PRIME_END := ⟨_, .int _, PySem.W.mg_of X G g_PRIME_END, ⟨_, rfl⟩, fun _ => .int _⟩
      kp := kPlain_of kp
      m_InvalidPaper := PySem.W.mg_of X G mC_InvalidPaper
      m_NotUsable := PySem.W.mg_of X G mC_NotUsable
      e_InvalidPaper := ⟨PySem.W.mg_of X G mC_InvalidPaper, ox_InvalidPaper, ⟨_, _, fi_InvalidPaper, ti_InvalidPaper, fun_mk lI_InvalidPaper cI_InvalidPaper kI_InvalidPaper⟩, by { intro f hf; rcases List.mem_cons.mp hf with rfl | hf; { exact nf_InvalidPaper_word }; rcases List.mem_cons.mp hf with rfl | hf; { exact nf_InvalidPaper_at }; cases hf }, xf_InvalidPaper, ec_InvalidPaper⟩
      e_NotUsable := ⟨PySem.W.mg_of X G mC_NotUsable, ox_NotUsable, ⟨_, _, fi_NotUsable, ti_NotUsable, fun_mk lI_NotUsable cI_NotUsable kI_NotUsable⟩, by { intro f hf; rcases List.mem_cons.mp hf with rfl | hf; { exact nf_NotUsable_word }; rcases List.mem_cons.mp hf with rfl | hf; { exact nf_NotUsable_at }; cases hf }, xf_NotUsable, ec_NotUsable⟩
      i_is_integer := Is.of X G a_is_integer l_is_integer c_is_integer k_is_integer
      i_is_number := Is.of X G a_is_number l_is_number c_is_number k_is_number
      i_is_below := Is.of X G a_is_below l_is_below c_is_below k_is_below
      i_is_positive := Is.of X G a_is_positive l_is_positive c_is_positive k_is_positive
      i_is_power := Is.of X G a_is_power l_is_power c_is_power k_is_power
      i_is_prime := Is.of X G a_is_prime l_is_prime c_is_prime k_is_prime
      i_is_pair := Is.of X G a_is_pair l_is_pair c_is_pair k_is_pair
      i_pair_fault := Is.of X G a_pair_fault l_pair_fault c_pair_fault k_pair_fault
      i_count_fault := Is.of X G a_count_fault l_count_fault c_count_fault k_count_fault
      i_is_count := Is.of X G a_is_count l_is_count c_is_count k_is_count
      i_is_free := Is.of X G a_is_free l_is_free c_is_free k_is_free
      i_choice_fault := Is.of X G a_choice_fault l_choice_fault c_choice_fault k_choice_fault
      i_is_acting := Is.of X G a_is_acting l_is_acting c_is_acting k_is_acting
      i_row_fault := Is.of X G a_row_fault l_row_fault c_row_fault k_row_fault
      i_can_act := Is.of X G a_can_act l_can_act c_can_act k_can_act
      i_does_reach := Is.of X G a_does_reach l_does_reach c_does_reach k_does_reach
      i_lets_choice := Is.of X G a_lets_choice l_lets_choice c_lets_choice k_lets_choice
      i_need_free := Is.of X G a_need_free l_need_free c_need_free k_need_free
      i_need_choice := Is.of X G a_need_choice l_need_choice c_need_choice k_need_choice
      i_raised := Is.of X G a_raised l_raised c_raised k_raised
      i_raised_modulo := Is.of X G a_raised_modulo l_raised_modulo c_raised_modulo k_raised_modulo
      i_need_count := Is.of X G a_need_count l_need_count c_need_count k_need_count
      i_need_prime := Is.of X G a_need_prime l_need_prime c_need_prime k_need_prime
      i_primes_of := Is.of X G a_primes_of l_primes_of c_primes_of k_primes_of
      i_root_of := Is.of X G a_root_of l_root_of c_root_of k_root_of
      i_at_rest := Is.of X G a_at_rest l_at_rest c_at_rest k_at_rest
      i_how_many_groups := Is.of X G a_how_many_groups l_how_many_groups c_how_many_groups k_how_many_groups
      i_choices_of := Is.of X G a_choices_of l_choices_of c_choices_of k_choices_of
      i_group_of := Is.of X G a_group_of l_group_of c_group_of k_group_of
      i_roots_of := Is.of X G a_roots_of l_roots_of c_roots_of k_roots_of
      i_multiplied := Is.of X G a_multiplied l_multiplied c_multiplied k_multiplied
      i_share_of := Is.of X G a_share_of l_share_of c_share_of k_share_of
      i_rests_of := Is.of X G a_rests_of l_rests_of c_rests_of k_rests_of
      i_primes_beside := Is.of X G a_primes_beside l_primes_beside c_primes_beside k_primes_beside
      i_how_many_rows := Is.of X G a_how_many_rows l_how_many_rows c_how_many_rows k_how_many_rows
      i_choices_beside := Is.of X G a_choices_beside l_choices_beside c_choices_beside k_choices_beside
      i_rows_beside := Is.of X G a_rows_beside l_rows_beside c_rows_beside k_rows_beside
      i_ends_beside := Is.of X G a_ends_beside l_ends_beside c_ends_beside k_ends_beside
      i_turned_at := Is.of X G a_turned_at l_turned_at c_turned_at k_turned_at
      i__law_feed := Is.of X G a__law_feed l__law_feed c__law_feed k__law_feed
      i__law_draw := Is.of X G a__law_draw l__law_draw c__law_draw k__law_draw
      i__law_any := Is.of X G a__law_any l__law_any c__law_any k__law_any
      i__law_lot := Is.of X G a__law_lot l__law_lot c__law_lot k__law_lot
      i__law_primes := Is.of X G a__law_primes l__law_primes c__law_primes k__law_primes
      i__law_rows := Is.of X G a__law_rows l__law_rows c__law_rows k__law_rows
      i__law_choices := Is.of X G a__law_choices l__law_choices c__law_choices k__law_choices
      i__law_how_many := Is.of X G a__law_how_many l__law_how_many c__law_how_many k__law_how_many
      i__law_are_choices_right := Is.of X G a__law_are_choices_right l__law_are_choices_right c__law_are_choices_right k__law_are_choices_right
      i_law := Is.of X G a_law l_law c_law k_law
    }
    exact law_fn (ok_law T) (fun_mk l_law c_law k_law) (PySem.W.mg_of X G a_law) (fun ns _ => law_all ns)
end Z
open PySem PySem.W PyProof.Rows
set_option maxRecDepth 100000 in
set_option maxHeartbeats 0 in
theorem PySem.Challenge.cw_forcedtables_k53_whole_choices_holds : PySem.Challenge.rw_forcedtables_k53_whole_choices.Holds := by
  w_on; o_law; k_head; (case hw => w_witness2)
  k_fill
  refine G.walkGT (l := PySem.Challenge.rw_forcedtables_k53_whole_choices) (x := "_law_script") (n := 63) (k := 14) rfl (by decide) rfl ⟨rfl, by decide, by decide⟩ (fun w h Y => by first | exact PySem.W.km_in_of Y | exact PySem.W.kIn_of Y) ?F
  case F =>
    intro w mg fa h KX G hmg TT
    refine' Z.all_mk KX G hmg TT ?a_is_integer ?l_is_integer ?c_is_integer ?k_is_integer ?a_is_number ?l_is_number ?c_is_number ?k_is_number ?a_is_below ?l_is_below ?c_is_below ?k_is_below ?a_is_positive ?l_is_positive ?c_is_positive ?k_is_positive ?a_is_power ?l_is_power ?c_is_power ?k_is_power ?a_is_prime ?l_is_prime ?c_is_prime ?k_is_prime ?a_is_pair ?l_is_pair ?c_is_pair ?k_is_pair ?a_pair_fault ?l_pair_fault ?c_pair_fault ?k_pair_fault ?a_count_fault ?l_count_fault ?c_count_fault ?k_count_fault ?a_is_count ?l_is_count ?c_is_count ?k_is_count ?a_is_free ?l_is_free ?c_is_free ?k_is_free ?a_choice_fault ?l_choice_fault ?c_choice_fault ?k_choice_fault ?a_is_acting ?l_is_acting ?c_is_acting ?k_is_acting ?a_row_fault ?l_row_fault ?c_row_fault ?k_row_fault ?a_can_act ?l_can_act ?c_can_act ?k_can_act ?a_does_reach ?l_does_reach ?c_does_reach ?k_does_reach ?a_lets_choice ?l_lets_choice ?c_lets_choice ?k_lets_choice ?a_need_free ?l_need_free ?c_need_free ?k_need_free ?a_need_choice ?l_need_choice ?c_need_choice ?k_need_choice ?a_raised ?l_raised ?c_raised ?k_raised ?a_raised_modulo ?l_raised_modulo ?c_raised_modulo ?k_raised_modulo ?a_need_count ?l_need_count ?c_need_count ?k_need_count ?a_need_prime ?l_need_prime ?c_need_prime ?k_need_prime ?a_primes_of ?l_primes_of ?c_primes_of ?k_primes_of ?a_root_of ?l_root_of ?c_root_of ?k_root_of ?a_at_rest ?l_at_rest ?c_at_rest ?k_at_rest ?a_how_many_groups ?l_how_many_groups ?c_how_many_groups ?k_how_many_groups ?a_choices_of ?l_choices_of ?c_choices_of ?k_choices_of ?a_group_of ?l_group_of ?c_group_of ?k_group_of ?a_roots_of ?l_roots_of ?c_roots_of ?k_roots_of ?a_multiplied ?l_multiplied ?c_multiplied ?k_multiplied ?a_share_of ?l_share_of ?c_share_of ?k_share_of ?a_rests_of ?l_rests_of ?c_rests_of ?k_rests_of ?a_primes_beside ?l_primes_beside ?c_primes_beside ?k_primes_beside ?a_how_many_rows ?l_how_many_rows ?c_how_many_rows ?k_how_many_rows ?a_choices_beside ?l_choices_beside ?c_choices_beside ?k_choices_beside ?a_rows_beside ?l_rows_beside ?c_rows_beside ?k_rows_beside ?a_ends_beside ?l_ends_beside ?c_ends_beside ?k_ends_beside ?a_turned_at ?l_turned_at ?c_turned_at ?k_turned_at ?a__law_feed ?l__law_feed ?c__law_feed ?k__law_feed ?a__law_draw ?l__law_draw ?c__law_draw ?k__law_draw ?a__law_any ?l__law_any ?c__law_any ?k__law_any ?a__law_lot ?l__law_lot ?c__law_lot ?k__law_lot ?a__law_primes ?l__law_primes ?c__law_primes ?k__law_primes ?a__law_rows ?l__law_rows ?c__law_rows ?k__law_rows ?a__law_choices ?l__law_choices ?c__law_choices ?k__law_choices ?a__law_how_many ?l__law_how_many ?c__law_how_many ?k__law_how_many ?a__law_are_choices_right ?l__law_are_choices_right ?c__law_are_choices_right ?k__law_are_choices_right ?a_law ?l_law ?c_law ?k_law ?b_all ?b_bool ?b_enumerate ?b_int ?b_isinstance ?b_len ?b_min ?b_range ?b_repr ?b_set ?b_sorted ?b_sum ?b_tuple ?g_MOST_POWER ?g_PRIME_END ?kp ?mC_InvalidPaper ?mC_NotUsable ?ox_InvalidPaper ?fi_InvalidPaper ?ti_InvalidPaper ?lI_InvalidPaper ?cI_InvalidPaper ?kI_InvalidPaper ?nf_InvalidPaper_word ?nf_InvalidPaper_at ?xf_InvalidPaper ?ec_InvalidPaper ?ox_NotUsable ?fi_NotUsable ?ti_NotUsable ?lI_NotUsable ?cI_NotUsable ?kI_NotUsable ?nf_NotUsable_word ?nf_NotUsable_at ?xf_NotUsable ?ec_NotUsable
    (case a_is_integer => k_is)
    (case l_is_integer => k_is)
    (case c_is_integer => k_is)
    (case k_is_integer => k_is)
    (case a_is_number => k_is)
    (case l_is_number => k_is)
    (case c_is_number => k_is)
    (case k_is_number => k_is)
    (case a_is_below => k_is)
    (case l_is_below => k_is)
    (case c_is_below => k_is)
    (case k_is_below => k_is)
    (case a_is_positive => k_is)
    (case l_is_positive => k_is)
    (case c_is_positive => k_is)
    (case k_is_positive => k_is)
    (case a_is_power => k_is)
    (case l_is_power => k_is)
    (case c_is_power => k_is)
    (case k_is_power => k_is)
    (case a_is_prime => k_is)
    (case l_is_prime => k_is)
    (case c_is_prime => k_is)
    (case k_is_prime => k_is)
    (case a_is_pair => k_is)
    (case l_is_pair => k_is)
    (case c_is_pair => k_is)
    (case k_is_pair => k_is)
    (case a_pair_fault => k_is)
    (case l_pair_fault => k_is)
    (case c_pair_fault => k_is)
    (case k_pair_fault => k_is)
    (case a_count_fault => k_is)
    (case l_count_fault => k_is)
    (case c_count_fault => k_is)
    (case k_count_fault => k_is)
    (case a_is_count => k_is)
    (case l_is_count => k_is)
    (case c_is_count => k_is)
    (case k_is_count => k_is)
    (case a_is_free => k_is)
    (case l_is_free => k_is)
    (case c_is_free => k_is)
    (case k_is_free => k_is)
    (case a_choice_fault => k_is)
    (case l_choice_fault => k_is)
    (case c_choice_fault => k_is)
    (case k_choice_fault => k_is)
    (case a_is_acting => k_is)
    (case l_is_acting => k_is)
    (case c_is_acting => k_is)
    (case k_is_acting => k_is)
    (case a_row_fault => k_is)
    (case l_row_fault => k_is)
    (case c_row_fault => k_is)
    (case k_row_fault => k_is)
    (case a_can_act => k_is)
    (case l_can_act => k_is)
    (case c_can_act => k_is)
    (case k_can_act => k_is)
    (case a_does_reach => k_is)
    (case l_does_reach => k_is)
    (case c_does_reach => k_is)
    (case k_does_reach => k_is)
    (case a_lets_choice => k_is)
    (case l_lets_choice => k_is)
    (case c_lets_choice => k_is)
    (case k_lets_choice => k_is)
    (case a_need_free => k_is)
    (case l_need_free => k_is)
    (case c_need_free => k_is)
    (case k_need_free => k_is)
    (case a_need_choice => k_is)
    (case l_need_choice => k_is)
    (case c_need_choice => k_is)
    (case k_need_choice => k_is)
    (case a_raised => k_is)
    (case l_raised => k_is)
    (case c_raised => k_is)
    (case k_raised => k_is)
    (case a_raised_modulo => k_is)
    (case l_raised_modulo => k_is)
    (case c_raised_modulo => k_is)
    (case k_raised_modulo => k_is)
    (case a_need_count => k_is)
    (case l_need_count => k_is)
    (case c_need_count => k_is)
    (case k_need_count => k_is)
    (case a_need_prime => k_is)
    (case l_need_prime => k_is)
    (case c_need_prime => k_is)
    (case k_need_prime => k_is)
    (case a_primes_of => k_is)
    (case l_primes_of => k_is)
    (case c_primes_of => k_is)
    (case k_primes_of => k_is)
    (case a_root_of => k_is)
    (case l_root_of => k_is)
    (case c_root_of => k_is)
    (case k_root_of => k_is)
    (case a_at_rest => k_is)
    (case l_at_rest => k_is)
    (case c_at_rest => k_is)
    (case k_at_rest => k_is)
    (case a_how_many_groups => k_is)
    (case l_how_many_groups => k_is)
    (case c_how_many_groups => k_is)
    (case k_how_many_groups => k_is)
    (case a_choices_of => k_is)
    (case l_choices_of => k_is)
    (case c_choices_of => k_is)
    (case k_choices_of => k_is)
    (case a_group_of => k_is)
    (case l_group_of => k_is)
    (case c_group_of => k_is)
    (case k_group_of => k_is)
    (case a_roots_of => k_is)
    (case l_roots_of => k_is)
    (case c_roots_of => k_is)
    (case k_roots_of => k_is)
    (case a_multiplied => k_is)
    (case l_multiplied => k_is)
    (case c_multiplied => k_is)
    (case k_multiplied => k_is)
    (case a_share_of => k_is)
    (case l_share_of => k_is)
    (case c_share_of => k_is)
    (case k_share_of => k_is)
    (case a_rests_of => k_is)
    (case l_rests_of => k_is)
    (case c_rests_of => k_is)
    (case k_rests_of => k_is)
    (case a_primes_beside => k_is)
    (case l_primes_beside => k_is)
    (case c_primes_beside => k_is)
    (case k_primes_beside => k_is)
    (case a_how_many_rows => k_is)
    (case l_how_many_rows => k_is)
    (case c_how_many_rows => k_is)
    (case k_how_many_rows => k_is)
    (case a_choices_beside => k_is)
    (case l_choices_beside => k_is)
    (case c_choices_beside => k_is)
    (case k_choices_beside => k_is)
    (case a_rows_beside => k_is)
    (case l_rows_beside => k_is)
    (case c_rows_beside => k_is)
    (case k_rows_beside => k_is)
    (case a_ends_beside => k_is)
    (case l_ends_beside => k_is)
    (case c_ends_beside => k_is)
    (case k_ends_beside => k_is)
    (case a_turned_at => k_is)
    (case l_turned_at => k_is)
    (case c_turned_at => k_is)
    (case k_turned_at => k_is)
    (case a__law_feed => k_is)
    (case l__law_feed => k_is)
    (case c__law_feed => k_is)
    (case k__law_feed => k_is)
    (case a__law_draw => k_is)
    (case l__law_draw => k_is)
    (case c__law_draw => k_is)
    (case k__law_draw => k_is)
    (case a__law_any => k_is)
    (case l__law_any => k_is)
    (case c__law_any => k_is)
    (case k__law_any => k_is)
    (case a__law_lot => k_is)
    (case l__law_lot => k_is)
    (case c__law_lot => k_is)
    (case k__law_lot => k_is)
    (case a__law_primes => k_is)
    (case l__law_primes => k_is)
    (case c__law_primes => k_is)
    (case k__law_primes => k_is)
    (case a__law_rows => k_is)
    (case l__law_rows => k_is)
    (case c__law_rows => k_is)
    (case k__law_rows => k_is)
    (case a__law_choices => k_is)
    (case l__law_choices => k_is)
    (case c__law_choices => k_is)
    (case k__law_choices => k_is)
    (case a__law_how_many => k_is)
    (case l__law_how_many => k_is)
    (case c__law_how_many => k_is)
    (case k__law_how_many => k_is)
    (case a__law_are_choices_right => k_is)
    (case l__law_are_choices_right => k_is)
    (case c__law_are_choices_right => k_is)
    (case k__law_are_choices_right => k_is)
    (case a_law => k_is)
    (case l_law => k_is)
    (case c_law => k_is)
    (case k_law => k_is)
    (case b_all => k_is)
    (case b_bool => k_is)
    (case b_enumerate => k_is)
    (case b_int => k_is)
    (case b_isinstance => k_is)
    (case b_len => k_is)
    (case b_min => k_is)
    (case b_range => k_is)
    (case b_repr => k_is)
    (case b_set => k_is)
    (case b_sorted => k_is)
    (case b_sum => k_is)
    (case b_tuple => k_is)
    (case g_MOST_POWER => k_is)
    (case g_PRIME_END => k_is)
    (case kp => first | k_is | rfl | decide +kernel)
    (case mC_InvalidPaper => k_is)
    (case mC_NotUsable => k_is)
    (case ox_InvalidPaper => exact ⟨⟨_, _, _, _, _, _, _, _, _, _, _, _, _, _, _, by k_is, by first | rfl | decide +kernel⟩, by k_is, by k_is, by k_is, by k_is⟩)
    (case fi_InvalidPaper => k_is)
    (case ti_InvalidPaper => first | k_is | rfl | decide +kernel)
    (case lI_InvalidPaper => k_is)
    (case cI_InvalidPaper => k_is)
    (case kI_InvalidPaper => k_is)
    (case nf_InvalidPaper_word => first | k_is | rfl | decide +kernel)
    (case nf_InvalidPaper_at => first | k_is | rfl | decide +kernel)
    (case xf_InvalidPaper => exact ⟨by k_is, by k_is, by k_is, by k_is⟩)
    (case ec_InvalidPaper => exact ⟨by k_is, by k_is, by k_is, by k_is, by k_is, by k_is, by k_is, by k_is⟩)
    (case ox_NotUsable => exact ⟨⟨_, _, _, _, _, _, _, _, _, _, _, _, _, _, _, by k_is, by first | rfl | decide +kernel⟩, by k_is, by k_is, by k_is, by k_is⟩)
    (case fi_NotUsable => k_is)
    (case ti_NotUsable => first | k_is | rfl | decide +kernel)
    (case lI_NotUsable => k_is)
    (case cI_NotUsable => k_is)
    (case kI_NotUsable => k_is)
    (case nf_NotUsable_word => first | k_is | rfl | decide +kernel)
    (case nf_NotUsable_at => first | k_is | rfl | decide +kernel)
    (case xf_NotUsable => exact ⟨by k_is, by k_is, by k_is, by k_is⟩)
    (case ec_NotUsable => exact ⟨by k_is, by k_is, by k_is, by k_is, by k_is, by k_is, by k_is, by k_is⟩)

