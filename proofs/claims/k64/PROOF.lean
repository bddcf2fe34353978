import PyProof.Rows.All
import Wide.All
import OpenK.AllK
import Wide.FinOn
import HandS.ForMost
import HandS.IsInst
import HandS.Wide
import HandS.Flow
import HandS.Style
import HandS.TupAny
import HandS.Small
import HandS.Deep
import HandS.Exc
import HandS.ExcInit
import HandS.Lambda
import HandS.Defaults
import HandS.RaiseMore
import PyProof.ReprRoads
import PyProof.ReprText
import HandS.Walk
import HandS.WordsDict
import PyProof.Rows.StrDouble
import PySem.Challenge.RW_forcedtables_k64_whole_events_by_form
set_option Elab.async false
set_option linter.all false
set_option maxRecDepth 100000
namespace G
open PySem L2

/-! A def's promise where nothing is being shown (no guard stands). -/
structure FnG (P : Program) (w : World) (K : PySem.W.Frag) (mg : Str → Option Value) (base : Heap) (CX : CXT) (k : Nat) (f : Addr) (fd : FuncData) (ps : List Str) (sp : Sp) : Prop where
  len : ∀ vs H Q E, sp vs H Q E → vs.length = ps.length
  go : ∀ (A : Around) (outer : List Env) (s : Shared) (H : Hp) (args : Args) (us : List Value) (vs : List V) (Q : VK) (E : XK), A.guards = some [] → Room k A →
    Env0 P w K mg base A outer s H → BindsTo s fd args (ps.zip us) → Vals vs us → sp vs H Q E → codeAny (model P w) A (.call (.ref f) args) (CR CX outer P w H s Q E) s

section
variable {P : Program} {w : World} {K : PySem.W.Frag} {mg : Str → Option Value} {base : Heap} {CX : CXT} {k : Nat} {f : Addr} {fd : FuncData} {ps : List Str} {sp : Sp}
theorem FnG.lift (F : FnOk P w K mg base CX k f fd ps sp) : FnG P w K mg base CX k f fd ps sp :=
  ⟨F.len, fun A outer s H args us vs Q E _ => F.run A outer s H args us vs Q E⟩
theorem FnG.more {j : Nat} (F : FnG P w K mg base CX j f fd ps sp) (h : j ≤ k) : FnG P w K mg base CX k f fd ps sp :=
  ⟨F.len, fun A outer s H args us vs Q E g r => F.go A outer s H args us vs Q E g (r.mono h)⟩
end

section
variable {X : Cx} {CX : CXT} {k : Nat} {f : Addr} {fd : FuncData} {ps ks : List Str} {sp : Sp} {dvs : List V} {ds : List Value} {E : XK} {x : Str} {p pos : Pos} {e : Expr} {es : List Expr} {kws : List Keyword} {t tk : TA}
  {g : List Value → List Value → List Value} {gV : List V → List V → List V}
theorem goes {pins : List (Addr × Obj)} {σ : St} {H : Hp} {s : Shared} {Q : VK} {args : Args} {us : List Value} {vs : List V} (F : FnG X.prog X.w X.K X.mg X.base CX k f fd ps sp) (gd : X.A.guards = some []) (hr : Room k X.A)
    (hx : Passes CX X E) (I : Inv X pins σ H s) (hb : BindsTo s fd args (ps.zip us)) (r : Vals vs us) (h : sp vs H Q E) :
    codeAny (model X.prog X.w) X.A (.call (.ref f) args) (fun rr s' => match rr with | .ok (.ret u) => EP X pins σ Q u s' | .ok _ => False | .error e => X.xe e s') s := by
  refine codeAny_mono (F.go X.A X.stack s H args us vs Q E gd hr I.env0 hb r h) (fun rr s' hq => ?_)
  match rr, hq with
  | .error e, hq => exact hx pins σ H s e s' I hq
  | .ok (.ret u), hq => exact I.after hq
theorem calls {pins : List (Addr × Obj)} {σ : St} {H : Hp} {s : Shared} {Q : VK} {us : List Value} {vs : List V} (F : FnG X.prog X.w X.K X.mg X.base CX k f fd ps sp) (gd : X.A.guards = some []) (hr : Room k X.A)
    (hb : Binds X.K fd ps ds) (hd : Vals dvs ds) (hx : Passes CX X E) (I : Inv X pins σ H s) (r : Vals vs us) (h : sp (vs ++ dvs) H Q E) : wpAny (model X.prog X.w) X.A (call (.ref f) us) (EP X pins σ Q) X.xe s := by
  have rr := r.append hd
  refine wpAny_call (codeAny_mono (goes F gd hr hx I (hb s us I.kIn (by rw [← rr.length]; exact F.len _ _ _ _ h)) rr h) (fun r' s' hq => ?_))
  match r', hq with
  | .error e, hq => exact hq
  | .ok (.ret u), hq => exact hq
theorem callsK {pins : List (Addr × Obj)} {σ : St} {H : Hp} {s : Shared} {Q : VK} {us ws : List Value} {vs zs : List V} (F : FnG X.prog X.w X.K X.mg X.base CX k f fd ps sp) (gd : X.A.guards = some []) (hr : Room k X.A)
    (hb : KBinds X.K fd ps ks g gV) (hx : Passes CX X E) (I : Inv X pins σ H s) (r : Vals vs us) (rz : Vals zs ws) (h : sp (gV vs zs) H Q E) : wpAny (model X.prog X.w) X.A (call (.ref f) us (ks.zip ws)) (EP X pins σ Q) X.xe s := by
  have rr := hb.rel r rz
  refine wpAny_call (codeAny_mono (goes F gd hr hx I (hb.to s us ws I.kIn (by rw [← rr.length]; exact F.len _ _ _ _ h)) rr h) (fun r' s' hq => ?_))
  match r', hq with
  | .error e, hq => exact hq
  | .ok (.ret u), hq => exact hq

/-- f(e, ..) -/
theorem pe_cg (F : FnG X.prog X.w X.K X.mg X.base CX k f fd ps sp) (gd : X.A.guards = some []) (hr : Room k X.A) (hg : Gl X x) (hm : X.mg x = some (.ref f)) (hk : PySem.W.keepIn X.K (.ref f) = true) (hb : Binds X.K fd ps ds)
    (hd : Vals dvs ds) (hx : Passes CX X E) (ha : PA X (e :: es) t) (hdb : (x == ("__debug__" : Str)) = false := by decide) (he : starEach (e :: es) X.env = (false, eval e X.env) :: starEach es X.env := by rfl)
    (hpl : (backTo pos (starEach es X.env)).any (·.1) = false := by rfl) : PE X (.Call (.Name x p) (e :: es) [] pos) (tCall sp dvs E t) :=
  ⟨fun pins s σ H Q I h => wpAny_Call_Name_kw (ld_glob I hg hm
    (PySem.W.callWith_K (h₀ := X.base) I.ok.mod.kin hk (thn (ha.run pos pins s σ H _ I h) fun us s1 ⟨vs, H1, I1, r, q⟩ => ⟨I1.kIn, calls F gd hr hb hd hx I1 r q⟩) he hpl) hdb)⟩
/-- f() -/
theorem pe_cg0 (F : FnG X.prog X.w X.K X.mg X.base CX k f fd ps sp) (gd : X.A.guards = some []) (hr : Room k X.A) (hg : Gl X x) (hm : X.mg x = some (.ref f)) (hk : PySem.W.keepIn X.K (.ref f) = true) (hb : Binds X.K fd ps ds)
    (hd : Vals dvs ds) (hx : Passes CX X E) (hdb : (x == ("__debug__" : Str)) = false := by decide) : PE X (.Call (.Name x p) [] [] pos) (tCall sp dvs E tNil) :=
  ⟨fun pins s σ H Q I h => wpAny_Call_Name_kw (ld_glob I hg hm (PySem.W.callWith_K0 I.kIn hk (calls (us := []) F gd hr hb hd hx I .nil h)) hdb)⟩
/-- f(e, .., k = v, ..), at least one place -/
theorem pe_cgK (F : FnG X.prog X.w X.K X.mg X.base CX k f fd ps sp) (gd : X.A.guards = some []) (hr : Room k X.A) (hg : Gl X x) (hm : X.mg x = some (.ref f)) (hk : PySem.W.keepIn X.K (.ref f) = true) (hb : KBinds X.K fd ps ks g gV)
    (hx : Passes CX X E) (ha : PA X (e :: es) t) (hkw : PK X kws tk) (hall : (backToKw pos (keywordEach kws X.env)).all (·.1.isSome) = true := by rfl) (hks : (backToKw pos (keywordEach kws X.env)).filterMap (·.1) = ks := by rfl)
    (hdb : (x == ("__debug__" : Str)) = false := by decide) (he : starEach (e :: es) X.env = (false, eval e X.env) :: starEach es X.env := by rfl)
    (hpl : ((backTo pos (starEach (e :: es) X.env)).any (·.1) || (backToKw pos (keywordEach kws X.env)).any (·.1.isNone)) = false := by rfl) : PE X (.Call (.Name x p) (e :: es) kws pos) (tCallK sp gV E t tk) := by
  refine ⟨fun pins s σ H Q I h => wpAny_Call_Name_kw (ld_glob I hg hm (PySem.W.callWith_KW (h₀ := X.base) I.ok.mod.kin hk hall (thn (ha.run pos pins s σ H _ I h) fun us s1 ⟨vs, H1, I1, r, q⟩ => ?_) hpl he) hdb)⟩
  refine thn (hkw.run pos pins s1 σ H1 _ I1 q) (fun ws s2 ⟨zs, H2, I2, rz, q2⟩ => ⟨I2.kIn, ?_⟩)
  subst hks
  exact callsK F gd hr hb hx I2 r rz q2
/-- f(k = v, ..), no place -/
theorem pe_cgK0 {kw : Keyword} (F : FnG X.prog X.w X.K X.mg X.base CX k f fd ps sp) (gd : X.A.guards = some []) (hr : Room k X.A) (hg : Gl X x) (hm : X.mg x = some (.ref f)) (hk : PySem.W.keepIn X.K (.ref f) = true) (hb : KBinds X.K fd ps ks g gV)
    (hx : Passes CX X E) (hkw : PK X (kw :: kws) tk) (hall : (backToKw pos (keywordEach (kw :: kws) X.env)).all (·.1.isSome) = true := by rfl) (hks : (backToKw pos (keywordEach (kw :: kws) X.env)).filterMap (·.1) = ks := by rfl)
    (hdb : (x == ("__debug__" : Str)) = false := by decide)
    (hpl : ((backTo pos (starEach [] X.env)).any (·.1) || (backToKw pos (keywordEach (kw :: kws) X.env)).any (·.1.isNone)) = false := by rfl) : PE X (.Call (.Name x p) [] (kw :: kws) pos) (tCallK sp gV E tNil tk) := by
  refine ⟨fun pins s σ H Q I h => wpAny_Call_Name_kw (ld_glob I hg hm (PySem.W.callWith_KW0 (h₀ := X.base) I.ok.mod.kin hk hall (thn (hkw.run pos pins s σ H _ I h) fun ws s2 ⟨zs, H2, I2, rz, q2⟩ => ⟨I2.kIn, ?_⟩) hpl) hdb)⟩
  subst hks
  exact callsK (us := []) (vs := []) F gd hr hb hx I2 .nil rz q2
end
end G

set_option maxRecDepth 100000
namespace G
open PySem L2 PySem.Spec PyProof.Rows

section
variable {P : Program} {w : World} {K : PySem.W.Frag} {mg : Str → Option Value} {base : Heap} {CX : CXT}
/-- a def by its body, where no guard stands -/
theorem okGX {x qual : Str} {st : Stmt} {f : Addr} {fd : FuncData} {N ps : List Str} {k : Nat} {sp : Sp} (F : Fun K x qual st f fd) (S : FnScope N ps (defScope st)) (len : ∀ vs H Q E, sp vs H Q E → vs.length = ps.length)
    (bd : ∀ (cdv : Value) (A : Around) (outer : List Env) (s : Shared) (H : Hp) (vs : List V) (Q : VK) (E : XK), A.guards = some [] → Room k (A.deeper (envOfC qual (defScope st) s.heap.objs.size f cdv)) → sp vs H Q E →
      ∃ t, PSs (cxOf CX P w K mg base N qual (defScope st) f cdv A outer s H E) (defBody st) t ∧ t { nx := fun _ H' => Q .non H', rt := Q } (start N vs) H) :
    FnG P w K mg base CX (k + 1) f fd ps sp := by
  obtain ⟨oc, od, kV, doc, pm, an, cdv, ct, osl, rfl, lk, hcd⟩ := F.ex
  refine ⟨len, fun A outer s H args us vs Q E gd hr e0 hb r hsp => ?_⟩
  have kin : K.In s.heap := e0.mod.kin.keeps fun b o q => (e0.bs b o q).1
  have nolim : s.heap.NoLimit := e0.mod.nolimit.keeps fun b o q => (e0.bs b o q).1
  have kinds : ∀ y ∈ ps.zip us, (defScope st).names.lookup y.1 = some .local ∨ ((defScope st).names.lookup y.1 = some .cell ∧ ((cellsFrom (s.heap.objs.size + 1) (defScope st).names []).lookup y.1).isSome = true) := by
    rintro ⟨n, v⟩ hy
    exact (S.par n (List.of_mem_zip hy).1).elim .inl fun q => .inr ⟨q, PySem.W.cellsFrom_some _ _ _ (.inl q)⟩
  refine codeAny_call_function hr.depth (kin _ _ lk) rfl S.co S.gen rfl (PySem.W.codeRec_of kin hcd) (hb _ _ _ _ (wpAny_newFunctionEnv_cells S.kind kinds fun env he s1 x => ?_))
  subst he
  refine ⟨nolim.keeps x.toInCall.keep, codeAny_func ?_⟩
  obtain ⟨t, ht, hq⟩ := bd cdv A outer s H vs Q E gd (hr.deeper _) hsp
  have I0 : Inv (cxOf CX P w K mg base N qual (defScope st) f cdv A outer s H E) [] (start N vs) H s1 := inv_start S hr.hd e0 (len _ _ _ _ hsp) r x
  refine wpAny_mono (ht.run [] s1 (start N vs) H _ I0 hq) (fun fl s' hs => ?_) fun e s' hs => hs
  match fl, hs with
  | .ret u, ⟨v, σ', H', J, rv, q⟩ => exact ⟨v, H', J.os, J.bare, J.base, J.hok, rv, q⟩
  | .next, ⟨σ', H', J, q⟩ => exact ⟨V.non, H', J.os, J.bare, J.base, J.hok, rfl, q⟩
  | .brk, ⟨_, _, _, q⟩ => exact q.elim
  | .cont, ⟨_, _, _, q⟩ => exact q.elim
/-- the same of a def that lets nothing out -/
theorem okG {x qual : Str} {st : Stmt} {f : Addr} {fd : FuncData} {N ps : List Str} {k : Nat} {sp : Sp} (F : Fun K x qual st f fd) (S : FnScope N ps (defScope st)) (len : ∀ vs H Q E, sp vs H Q E → vs.length = ps.length)
    (bd : ∀ (cdv : Value) (A : Around) (outer : List Env) (s : Shared) (H : Hp) (vs : List V) (Q : VK) (E : XK), A.guards = some [] → Room k (A.deeper (envOfC qual (defScope st) s.heap.objs.size f cdv)) → sp vs H Q E →
      ∃ t, PSs (cxOf CX0 P w K mg base N qual (defScope st) f cdv A outer s H E).nox (defBody st) t ∧ t { nx := fun _ H' => Q .non H', rt := Q } (start N vs) H) :
    FnG P w K mg base CX0 (k + 1) f fd ps sp :=
  okGX F S len fun cdv A outer s H vs Q E gd hr hsp => let ⟨t, h, q⟩ := bd cdv A outer s H vs Q E gd hr hsp; ⟨t, h.nox, q⟩
end

section
variable {X : Cx}
/-- repr of data -/
theorem call_reprD (gd : X.A.guards = some []) (hu : X.A.units + 80 < cLine) : CallR X (.builtin "repr") (fun xs H Q => ∃ x d, xs = [x] ∧ Dp X.K H x d ∧ SeqAt.shaped d = true ∧ d.showable = true ∧ d.shown.length ≤ sizeLine ∧ Q (.str d.shown) H) := by
  intro pins s σ H xs us Q I r h
  obtain ⟨x, d, rfl, hd, sh, sw, sz, q⟩ := h
  match us, r with
  | [u], .cons ru .nil =>
    have fin : ∀ h' t tk, (∀ b o, s.heap.get? b = some o → h'.get? b = some o) → EP X pins σ Q (.str d.shown t) { s with heap := h', toks := tk } := fun h' t tk kk => ⟨.str _, H, I.kept kk, ⟨_, rfl⟩, q⟩
    have fin0 : ∀ t tk, EP X pins σ Q (.str d.shown t) { s with toks := tk } := fun t tk => ⟨.str _, H, I.tok tk, ⟨_, rfl⟩, q⟩
    have dep : d.depth ≤ 64 := by
      have z : (d.canLay0 && decide (d.depth ≤ 64)) = true := sh
      rw [Bool.and_eq_true] at z
      exact of_decide_eq_true z.2
    have can : d.canLay0 = true := SeqAt.canLay_of_shaped sh
    have no := PyData.hasDict_of_canLay d can
    obtain ⟨as, rd⟩ := Dp.reads I d x u hd ru
    cases hd with
    | non =>
      cases (show u = Value.none from ru)
      rw [PyData.shown_none] at fin0
      exact PySem.P.repr_of_none (fin0 _ _)
    | bl b =>
      cases (show u = Value.bool b from ru)
      rw [PyData.shown_bool] at fin0
      refine PySem.P.repr_of_bool ?_
      cases b <;> exact fin0 _ _
    | int i =>
      obtain ⟨t, rfl⟩ := (show ∃ t, u = Value.int i t from ru)
      rw [PyData.shown_int] at fin0
      have z : decide (i.natAbs.log2 < 1920) = true := by simpa only [PyData.showable] using sw
      exact PySem.P.repr_of_int (of_decide_eq_true z) (fin0 _ _)
    | str z =>
      obtain ⟨t, rfl⟩ := (show ∃ t, u = Value.str z t from ru)
      rw [PyData.shown_str] at fin0 sz
      exact PySem.P.repr_of_str (fin0 _ _) sz
    | lst hs ha =>
      cases (show u = Value.ref _ from ru)
      exact repr_of_reads' rd sw (PyData.noDict_hsm no) gd (by omega) (fun _ _ q => q) (fun h' u tk kk => fin h' u tk kk) sz
    | tup hs ha =>
      cases (show u = Value.ref _ from ru)
      exact repr_of_reads' rd sw (PyData.noDict_hsm no) gd (by omega) (fun _ _ q => q) (fun h' u tk kk => fin h' u tk kk) sz
end
end G

set_option maxRecDepth 100000
namespace G
open PySem L2 PySem.Spec PyProof.Rows

/-! ### what data there is: how deep, how heavy -/
structure Sz (k m : Nat) (d : PyData) : Prop where
  lay : d.canLay0 = true
  sh : d.showable = true
  sl : d.leavesShort 700 = true
  dep : d.depth ≤ k
  wt : d.weight ≤ m
def szB (k m : Nat) (d : PyData) : Bool := d.canLay0 && d.showable && d.leavesShort 700 && decide (d.depth ≤ k) && decide (d.weight ≤ m)
theorem szB_of {k m : Nat} {d : PyData} (h : szB k m d = true) : Sz k m d := by
  unfold szB at h
  simp only [Bool.and_eq_true, decide_eq_true_eq] at h
  exact ⟨h.1.1.1.1, h.1.1.1.2, h.1.1.2, h.1.2, h.2⟩
theorem Sz.mono {k m k' m' : Nat} {d : PyData} (h : Sz k m d) (hk : k ≤ k') (hm : m ≤ m') : Sz k' m' d := ⟨h.lay, h.sh, h.sl, Nat.le_trans h.dep hk, Nat.le_trans h.wt hm⟩
theorem Sz.non {k m : Nat} : Sz k m .none := ⟨rfl, rfl, rfl, by simp [PyData.depth], by simp [PyData.weight]⟩
theorem Sz.bool {k m : Nat} (b : Bool) : Sz k m (.bool b) := ⟨rfl, rfl, rfl, by simp [PyData.depth], by simp [PyData.weight]⟩
theorem Sz.int {k m : Nat} {i : Int} (h : i.natAbs.log2 < 600) (hm : 600 ≤ m) : Sz k m (.int i) := by
  refine ⟨by simp [PyData.canLay0], ?_, ?_, by simp [PyData.depth], ?_⟩
  · simp only [PyData.showable]
    exact decide_eq_true (by omega)
  · simp only [PyData.leavesShort]
    refine decide_eq_true ?_
    rw [PyData.shown_int, PySem.ofString_length]
    have := int_text_length_le (k := 600) (by decide) h
    omega
  · simp only [PyData.weight]
    split <;> omega
theorem Sz.str {k m : Nat} {x : Str} (h : ∀ c ∈ x.cps.toList, c < 128) (hm : x.length ≤ m) : Sz k m (.str x) := by
  refine ⟨?_, by simp [PyData.showable], ?_, by simp [PyData.depth], ?_⟩
  · simp only [PyData.canLay0, PyData.strOk]
    rw [← Array.all_toList, List.all_eq_true]
    intro c hc
    exact decide_eq_true (Nat.lt_of_lt_of_le (h c hc) (by decide))
  · simp only [PyData.leavesShort]
    rw [List.all_eq_true]
    intro c hc
    exact decide_eq_true (Nat.lt_of_lt_of_le (h c hc) (by decide))
  · simp only [PyData.weight]
    exact hm
structure SzA (k m : Nat) (ds : List PyData) : Prop where
  lay : PyData.canLayAll0 ds = true
  sh : PyData.showableAll ds = true
  sl : PyData.leavesShortAll 700 ds = true
  dep : PyData.depthAll ds ≤ k
  wt : PyData.weightAll ds ≤ ds.length * (m + 1)
theorem SzA.of {k m : Nat} : ∀ {ds : List PyData}, (∀ d ∈ ds, Sz k m d) → SzA k m ds
  | [], _ => ⟨by simp [PyData.canLayAll0], by simp [PyData.showableAll], by simp [PyData.leavesShortAll], by simp [PyData.depthAll], by simp [PyData.weightAll]⟩
  | d :: ds, h => by
    have h1 := h d (List.mem_cons_self ..)
    have h2 := SzA.of (k := k) (m := m) (ds := ds) fun e he => h e (List.mem_cons_of_mem _ he)
    refine ⟨by simp [PyData.canLayAll0, h1.lay, h2.lay], by simp [PyData.showableAll, h1.sh, h2.sh], by simp [PyData.leavesShortAll, h1.sl, h2.sl], ?_, ?_⟩
    · simp only [PyData.depthAll]
      exact Nat.max_le.mpr ⟨h1.dep, h2.dep⟩
    · simp only [PyData.weightAll, List.length_cons]
      have a := h1.wt
      have b := h2.wt
      rw [Nat.succ_mul]
      omega
theorem Sz.tuple {k m n M : Nat} {ds : List PyData} (h : ∀ d ∈ ds, Sz k m d) (hn : ds.length ≤ n) (hM : n * (m + 1) ≤ M) : Sz (k + 1) M (.tuple ds) := by
  have z := SzA.of h
  have q : ds.length * (m + 1) ≤ n * (m + 1) := Nat.mul_le_mul_right _ hn
  exact ⟨by simp [PyData.canLay0, z.lay], by simp [PyData.showable, z.sh], by simp [PyData.leavesShort, z.sl], by simp only [PyData.depth]; exact Nat.succ_le_succ z.dep, by simp only [PyData.weight]; exact Nat.le_trans z.wt (Nat.le_trans q hM)⟩
theorem Sz.list {k m n M : Nat} {ds : List PyData} (h : ∀ d ∈ ds, Sz k m d) (hn : ds.length ≤ n) (hM : n * (m + 1) ≤ M) : Sz (k + 1) M (.list ds) := by
  have z := SzA.of h
  have q : ds.length * (m + 1) ≤ n * (m + 1) := Nat.mul_le_mul_right _ hn
  exact ⟨by simp [PyData.canLay0, z.lay], by simp [PyData.showable, z.sh], by simp [PyData.leavesShort, z.sl], by simp only [PyData.depth]; exact Nat.succ_le_succ z.dep, by simp only [PyData.weight]; exact Nat.le_trans z.wt (Nat.le_trans q hM)⟩
theorem SzA.item {k m : Nat} : ∀ {ds : List PyData}, PyData.canLayAll0 ds = true → PyData.showableAll ds = true → PyData.leavesShortAll 700 ds = true → PyData.depthAll ds ≤ k → PyData.weightAll ds ≤ m → ∀ d ∈ ds, Sz k m d
  | [], _, _, _, _, _, d, h => by cases h
  | e :: ds, h1, h2, h3, h4, h5, d, h => by
    simp only [PyData.canLayAll0, PyData.showableAll, PyData.leavesShortAll, PyData.depthAll, PyData.weightAll, Bool.and_eq_true] at h1 h2 h3 h4 h5
    have d1 : e.depth ≤ k ∧ PyData.depthAll ds ≤ k := ⟨Nat.le_trans (Nat.le_max_left ..) h4, Nat.le_trans (Nat.le_max_right ..) h4⟩
    rcases List.mem_cons.mp h with rfl | h
    · exact ⟨h1.1, h2.1, h3.1, d1.1, by omega⟩
    · exact SzA.item h1.2 h2.2 h3.2 d1.2 (by omega) d h
theorem Sz.itemT {k m : Nat} {ds : List PyData} (h : Sz k m (.tuple ds)) {d : PyData} (hd : d ∈ ds) : Sz k m d := by
  obtain ⟨h1, h2, h3, h4, h5⟩ := h
  simp only [PyData.canLay0, PyData.showable, PyData.leavesShort, PyData.depth, PyData.weight] at h1 h2 h3 h4 h5
  exact SzA.item h1 h2 h3 (Nat.le_of_succ_le h4) h5 d hd
theorem Sz.itemL {k m : Nat} {ds : List PyData} (h : Sz k m (.list ds)) {d : PyData} (hd : d ∈ ds) : Sz k m d := by
  obtain ⟨h1, h2, h3, h4, h5⟩ := h
  simp only [PyData.canLay0, PyData.showable, PyData.leavesShort, PyData.depth, PyData.weight] at h1 h2 h3 h4 h5
  exact SzA.item h1 h2 h3 (Nat.le_of_succ_le h4) h5 d hd
theorem Sz.len {k m : Nat} {x : Str} (h : Sz k m (.str x)) : x.length ≤ m := by
  have z := h.wt
  simp only [PyData.weight] at z
  exact z
theorem Sz.shaped {k m : Nat} {d : PyData} (h : Sz k m d) (hk : k ≤ 64) : SeqAt.shaped d = true := by
  show (d.canLay0 && decide (d.depth ≤ 64)) = true
  rw [Bool.and_eq_true]
  exact ⟨h.lay, decide_eq_true (Nat.le_trans h.dep hk)⟩
theorem Sz.fits {k m : Nat} {d : PyData} (h : Sz k m d) (hm : m ≤ 23000) : d.shown.length ≤ sizeLine := by
  have a := PyData.shown_le 700 (by decide) d h.sl
  have b : (700 + 2) * d.weight ≤ 702 * 23000 := Nat.mul_le_mul_left _ (Nat.le_trans h.wt hm)
  rw [sizeLine_eq]
  omega

/-! ### sequences stay -/
structure Held (H H' : Hp) : Prop where
  lst : ∀ b xs, H b = some (.lst xs) → H' b = some (.lst xs)
  tup : ∀ b xs, H b = some (.tup xs) → H' b = some (.tup xs)
  fl : ∀ b o xs, H b = some (.frz o (.lst xs)) → H' b = some (.frz o (.lst xs))
  ft : ∀ b o xs, H b = some (.frz o (.tup xs)) → H' b = some (.frz o (.tup xs))
theorem Held.of {H H' : Hp} (s : Same H H') : Held H H' := ⟨fun b _ => s b _, fun b _ => s b _, fun b _ _ => s b _, fun b _ _ => s b _⟩
theorem Held.refl (H : Hp) : Held H H := .of (.refl H)
theorem Held.trans {H H1 H2 : Hp} (a : Held H H1) (b : Held H1 H2) : Held H H2 :=
  ⟨fun c x h => b.lst c x (a.lst c x h), fun c x h => b.tup c x (a.tup c x h), fun c o x h => b.fl c o x (a.fl c o x h), fun c o x h => b.ft c o x (a.ft c o x h)⟩
theorem Held.sql {K : PySem.W.Frag} {H H' : Hp} {a : Addr} {xs : List V} (s : Held H H') (h : SqL K H a xs) : SqL K H' a xs := by
  rcases h with (h | ⟨o, h⟩) | h
  · exact .inl (.inl (s.lst _ _ h))
  · exact .inl (.inr ⟨o, s.fl _ _ _ h⟩)
  · exact .inr h
theorem Held.sqt {K : PySem.W.Frag} {H H' : Hp} {a : Addr} {xs : List V} (s : Held H H') (h : SqT K H a xs) : SqT K H' a xs := by
  rcases h with (h | ⟨o, h⟩) | h
  · exact .inl (.inl (s.tup _ _ h))
  · exact .inl (.inr ⟨o, s.ft _ _ _ h⟩)
  · exact .inr h
mutual
theorem Held.dp {K : PySem.W.Frag} {H H' : Hp} (s : Held H H') : ∀ (d : PyData) (v : V), Dp K H v d → Dp K H' v d
  | .none, _, h => by cases h; exact .non
  | .bool b, _, h => by cases h; exact .bl b
  | .int i, _, h => by cases h; exact .int i
  | .str x, _, h => by cases h; exact .str x
  | .list ds, _, h => by
    cases h with
    | lst q a => exact .lst (s.sql q) (Held.dpAll s ds _ a)
  | .tuple ds, _, h => by
    cases h with
    | tup q a => exact .tup (s.sqt q) (Held.dpAll s ds _ a)
  | .dict _, _, h => by cases h
theorem Held.dpAll {K : PySem.W.Frag} {H H' : Hp} (s : Held H H') : ∀ (ds : List PyData) (vs : List V), DpAll K H vs ds → DpAll K H' vs ds
  | [], _, h => by cases h; exact .nil
  | d :: ds, _, h => by
    cases h with
    | cons a b => exact .cons (Held.dp s d _ a) (Held.dpAll s ds _ b)
end
theorem Same.upd {H : Hp} {p : Addr} {o : HO} (h : H p = none) : Same H (upd H p o) := fun b u e => by rw [upd_ne (ne_of_none e h)]; exact e
theorem Held.upd {H : Hp} {p : Addr} {o : HO} (h : H p = none) : Held H (L2.upd H p o) := .of (Same.upd h)
end G
namespace L2
open PySem PySem.Spec PyProof.Rows
theorem DpAll.length {K : PySem.W.Frag} {H : Hp} : ∀ {vs : List V} {ds : List PyData}, DpAll K H vs ds → vs.length = ds.length
  | _, _, .nil => rfl
  | _, _, .cons _ t => congrArg (· + 1) (DpAll.length t)
theorem DpAll.get {K : PySem.W.Frag} {H : Hp} : ∀ {vs : List V} {ds : List PyData} {i : Nat} {d : PyData}, DpAll K H vs ds → ds[i]? = some d → ∃ v, vs[i]? = some v ∧ Dp K H v d
  | _, _, _, _, .nil, e => by simp at e
  | _, _, 0, _, .cons h _, e => by simp at e; subst e; exact ⟨_, rfl, h⟩
  | _, _, i + 1, d, .cons _ t, e => by
    obtain ⟨v, h1, h2⟩ := DpAll.get (i := i) (d := d) t (by simpa using e)
    exact ⟨v, by simpa using h1, h2⟩
theorem DpAll.getV {K : PySem.W.Frag} {H : Hp} {vs : List V} {ds : List PyData} {i : Nat} {v : V} (h : DpAll K H vs ds) (e : vs[i]? = some v) : ∃ d, ds[i]? = some d ∧ Dp K H v d := by
  have hl := h.length
  have hi : i < ds.length := by rw [← hl]; exact (List.getElem?_eq_some_iff.mp e).1
  obtain ⟨u, h1, h2⟩ := h.get (List.getElem?_eq_getElem hi)
  rw [e] at h1
  cases h1
  exact ⟨_, List.getElem?_eq_getElem hi, h2⟩
theorem DpAll.append {K : PySem.W.Frag} {H : Hp} : ∀ {vs ws : List V} {ds es : List PyData}, DpAll K H vs ds → DpAll K H ws es → DpAll K H (vs ++ ws) (ds ++ es)
  | _, _, _, _, .nil, q => q
  | _, _, _, _, .cons a t, q => .cons a (DpAll.append t q)
theorem DpAll.take {K : PySem.W.Frag} {H : Hp} : ∀ {vs : List V} {ds : List PyData} (n : Nat), DpAll K H vs ds → DpAll K H (vs.take n) (ds.take n)
  | _, _, 0, _ => .nil
  | _, _, _ + 1, .nil => .nil
  | _, _, n + 1, .cons a t => .cons a (DpAll.take n t)
theorem DpAll.drop {K : PySem.W.Frag} {H : Hp} : ∀ {vs : List V} {ds : List PyData} (n : Nat), DpAll K H vs ds → DpAll K H (vs.drop n) (ds.drop n)
  | _, _, 0, h => h
  | _, _, _ + 1, .nil => .nil
  | _, _, n + 1, .cons _ t => DpAll.drop n t
theorem DpAll.reverse {K : PySem.W.Frag} {H : Hp} : ∀ {vs : List V} {ds : List PyData}, DpAll K H vs ds → DpAll K H vs.reverse ds.reverse
  | _, _, .nil => .nil
  | _, _, .cons a t => by
    rw [List.reverse_cons, List.reverse_cons]
    exact DpAll.append (DpAll.reverse t) (.cons a .nil)
end L2
namespace G
open PySem L2 PySem.Spec PyProof.Rows
end G
namespace L2
open PySem PySem.Spec PyProof.Rows
theorem Dp.newT {K : PySem.W.Frag} {H : Hp} {vs : List V} {ds : List PyData} {p : Addr} (h : DpAll K H vs ds) (np : H p = none) : Dp K (upd H p (.tup vs)) (.ref p) (.tuple ds) :=
  .tup (.inl (.inl upd_same)) ((G.Held.upd np).dpAll _ _ h)
theorem Dp.newL {K : PySem.W.Frag} {H : Hp} {vs : List V} {ds : List PyData} {p : Addr} (h : DpAll K H vs ds) (np : H p = none) : Dp K (upd H p (.lst vs)) (.ref p) (.list ds) :=
  .lst (.inl (.inl upd_same)) ((G.Held.upd np).dpAll _ _ h)

end L2
namespace G
open PySem L2 PySem.Spec PyProof.Rows
/-! ### written data -/
section
variable {X : Cx}
def tD (K : PySem.W.Frag) (d : PyData) : TE := fun _ H Q => ∀ v H', Same H H' → Dp K H' v d → Q v H'
def tDs (K : PySem.W.Frag) (ds : List PyData) : TA := fun _ H Q => ∀ vs H', Same H H' → DpAll K H' vs ds → Q vs H'
theorem pe_weak {e : Expr} {t u : TE} (h : PE X e t) (i : ∀ σ H Q, u σ H Q → t σ H Q) : PE X e u := ⟨fun pins s σ H Q I q => h.run pins s σ H Q I (i σ H Q q)⟩
theorem pa_weak {es : List Expr} {t u : TA} (h : PA X es t) (i : ∀ σ H Q, u σ H Q → t σ H Q) : PA X es u := ⟨fun pos pins s σ H Q I q => h.run pos pins s σ H Q I (i σ H Q q)⟩
def constI : Expr → Option Int
  | .Constant (.int i) _ _ => some i
  | _ => none
theorem constI_of {e : Expr} {i : Int} (h : constI e = some i) : ∃ k p, e = .Constant (.int i) k p := by
  unfold constI at h
  split at h
  · cases h
    exact ⟨_, _, rfl⟩
  · cases h
def isNeg : UnaryOp → Bool
  | .USub => true
  | _ => false
def isPow : Operator → Bool
  | .Pow => true
  | _ => false
theorem isNeg_of {o : UnaryOp} (h : isNeg o = true) : o = .USub := by cases o <;> first | rfl | cases h
theorem isPow_of {o : Operator} (h : isPow o = true) : o = .Pow := by cases o <;> first | rfl | cases h
mutual
def litD : Expr → Option PyData
  | .Constant .none _ _ => some .none
  | .Constant (.bool b) _ _ => some (.bool b)
  | .Constant (.int i) _ _ => some (.int i)
  | .Constant (.str x) _ _ => some (.str x)
  | .UnaryOp op a _ => if isNeg op then (constI a).map fun i => .int (-i) else none
  | .BinOp a op b _ => if isPow op then match constI a, constI b with
    | some i, some j => if 0 ≤ j ∧ j ≤ 1000 ∧ i.natAbs < 2 ^ 64 then some (.int (i ^ j.toNat)) else none
    | _, _ => none
    else none
  | .Tuple es _ _ => match litDs es with
    | some ds => if ds.length ≤ 1000 then some (.tuple ds) else none
    | none => none
  | .List es _ => match litDs es with
    | some ds => if ds.length ≤ 1000 then some (.list ds) else none
    | none => none
  | _ => none
def litDs : List Expr → Option (List PyData)
  | [] => some []
  | e :: es => match litD e with
    | some d => match litDs es with
      | some ds => some (d :: ds)
      | none => none
    | none => none
end
theorem thousand {n : Nat} (h : n ≤ 1000) : n ≤ sizeLine := Nat.le_trans h (by rw [sizeLine_eq]; decide)
theorem lit_star {e : Expr} {es : List Expr} {env : Env} {d : PyData} (h : litD e = some d) : starEach (e :: es) env = (false, eval e env) :: starEach es env := by
  cases e <;> first | rfl | (simp [litD] at h; done)
theorem lit_con {c : Const} {k : Nat} {pos : Pos} {d : PyData} (h : litD (.Constant c k pos) = some d) : PE X (.Constant c k pos) (tD X.K d) := by
    cases c with
    | none => unfold litD at h; cases h; exact pe_weak pe_non fun σ H Q q => q _ _ (.refl H) .non
    | bool b => unfold litD at h; cases h; exact pe_weak pe_bl fun σ H Q q => q _ _ (.refl H) (.bl b)
    | int i => unfold litD at h; cases h; exact pe_weak pe_int fun σ H Q q => q _ _ (.refl H) (.int i)
    | str x => unfold litD at h; cases h; exact pe_weak pe_str fun σ H Q q => q _ _ (.refl H) (.str x)
    | _ => simp [litD] at h
theorem lit_un {op : UnaryOp} {a : Expr} {pos : Pos} {d : PyData} (h : litD (.UnaryOp op a pos) = some d) : PE X (.UnaryOp op a pos) (tD X.K d) := by
  unfold litD at h
  by_cases ho : isNeg op = true
  · rw [if_pos ho] at h
    cases e : constI a with
    | none => rw [e] at h; cases h
    | some i =>
      rw [e] at h
      cases h
      obtain ⟨k, p, rfl⟩ := constI_of e
      rw [isNeg_of ho]
      exact pe_weak (pe_un un_neg pe_int) fun σ H Q q => ⟨_, rfl, q _ _ (.refl H) (.int _)⟩
  · rw [if_neg ho] at h
    cases h
theorem lit_bin {op : Operator} {a b : Expr} {pos : Pos} {d : PyData} (h : litD (.BinOp a op b pos) = some d) : PE X (.BinOp a op b pos) (tD X.K d) := by
  unfold litD at h
  by_cases ho : isPow op = true
  · rw [if_pos ho] at h
    cases e : constI a with
    | none => rw [e] at h; cases h
    | some i =>
      cases e2 : constI b with
      | none => rw [e, e2] at h; cases h
      | some j =>
        rw [e, e2] at h
        dsimp only at h
        obtain ⟨k, p, rfl⟩ := constI_of e
        obtain ⟨k2, p2, rfl⟩ := constI_of e2
        rw [isPow_of ho]
        by_cases hc : 0 ≤ j ∧ j ≤ 1000 ∧ i.natAbs < 2 ^ 64
        · rw [if_pos hc] at h
          cases h
          exact pe_weak (pe_op op_pow pe_int pe_int) fun σ H Q q => ⟨_, _, rfl, rfl, ⟨hc.1, by have := hc.2.1; omega, hc.2.2⟩, q _ _ (.refl H) (.int _)⟩
        · rw [if_neg hc] at h
          cases h
  · rw [if_neg ho] at h
    cases h
mutual
theorem pe_lit : ∀ (e : Expr) (d : PyData), litD e = some d → PE X e (tD X.K d)
  | .Constant _ _ _, _, h => lit_con h
  | .UnaryOp _ _ _, _, h => lit_un h
  | .BinOp _ _ _ _, _, h => lit_bin h
  | .Tuple es k pos, d, h => by
    unfold litD at h
    cases e : litDs es with
    | none => rw [e] at h; cases h
    | some ds =>
      rw [e] at h
      dsimp only at h
      by_cases hl : ds.length ≤ 1000
      · rw [if_pos hl] at h
        cases h
        refine pe_weak (pe_tup (pa_lit es ds e)) fun σ H Q q => ?_
        intro vs H' s a
        exact ⟨by rw [a.length]; exact thousand hl, fun p np => q _ _ (s.trans (Same.upd np)) (Dp.newT a np)⟩
      · rw [if_neg hl] at h
        cases h
  | .List es pos, d, h => by
    unfold litD at h
    cases e : litDs es with
    | none => rw [e] at h; cases h
    | some ds =>
      rw [e] at h
      dsimp only at h
      by_cases hl : ds.length ≤ 1000
      · rw [if_pos hl] at h
        cases h
        refine pe_weak (pe_lst (pa_lit es ds e)) fun σ H Q q => ?_
        intro vs H' s a
        exact ⟨by rw [a.length]; exact thousand hl, fun p np => q _ _ (s.trans (Same.upd np)) (Dp.newL a np)⟩
      · rw [if_neg hl] at h
        cases h
  | .BoolOp _ _ _, _, h => by simp [litD] at h
  | .NamedExpr _ _ _, _, h => by simp [litD] at h
  | .Lambda _ _ _ _, _, h => by simp [litD] at h
  | .IfExp _ _ _ _, _, h => by simp [litD] at h
  | .Dict _ _ _, _, h => by simp [litD] at h
  | .Set _ _ _, _, h => by simp [litD] at h
  | .ListComp _ _ _ _, _, h => by simp [litD] at h
  | .SetComp _ _ _ _, _, h => by simp [litD] at h
  | .DictComp _ _ _ _ _, _, h => by simp [litD] at h
  | .GeneratorExp _ _ _ _, _, h => by simp [litD] at h
  | .Await _ _, _, h => by simp [litD] at h
  | .Yield _ _, _, h => by simp [litD] at h
  | .YieldFrom _ _, _, h => by simp [litD] at h
  | .Compare _ _ _ _, _, h => by simp [litD] at h
  | .Call _ _ _ _, _, h => by simp [litD] at h
  | .FormattedValue _ _ _ _, _, h => by simp [litD] at h
  | .JoinedStr _ _, _, h => by simp [litD] at h
  | .Attribute _ _ _, _, h => by simp [litD] at h
  | .Subscript _ _ _, _, h => by simp [litD] at h
  | .Starred _ _, _, h => by simp [litD] at h
  | .Name _ _, _, h => by simp [litD] at h
  | .Slice _ _ _ _, _, h => by simp [litD] at h
theorem pa_lit : ∀ (es : List Expr) (ds : List PyData), litDs es = some ds → PA X es (tDs X.K ds)
  | [], ds, h => by
    unfold litDs at h
    cases h
    exact pa_weak pa_nil fun σ H Q q => q _ _ (.refl H) .nil
  | e :: es, ds, h => by
    unfold litDs at h
    cases h1 : litD e with
    | none => rw [h1] at h; cases h
    | some d =>
      rw [h1] at h
      cases h2 : litDs es with
      | none => rw [h2] at h; cases h
      | some ds' =>
        rw [h2] at h
        cases h
        refine pa_weak (pa_cons (pe_lit e d h1) (pa_lit es ds' h2) (lit_star h1)) fun σ H Q q => ?_
        intro v H1 s1 dv vs H2 s2 dvs
        exact q _ _ (s1.trans s2) (.cons ((Held.of s2).dp _ _ dv) dvs)
end
end
end G

set_option maxRecDepth 100000
namespace G
open PySem L2 PySem.Spec PyProof.Rows

/-! ### a def of the text, found by its name -/
def Is (K : PySem.W.Frag) (mg : Str → Option Value) (x : Str) (st : Stmt) : Prop := ∃ f fd, Fun K x x st f fd ∧ mg x = some (.ref f)
theorem Is.of {K : PySem.W.Frag} {mg : Str → Option Value} {h : Heap} {x : Str} {st : Stmt} (X : K.In h) (G : h.Ns mainGlobals mg) {f : Addr} {oc kV doc pm cdv ct : Value} {od an : Option Addr} {osl : Array (Option Value)}
    (a : PySem.W.nsIn K mainGlobals x = some (some (.ref f))) (l : K.lookup f = some ⟨oc, od, .func (PySem.W.fnOf x x (defArgs st) (defBody st) (defScope st) .none kV doc pm an cdv ct), osl⟩)
    (c : PySem.W.codeIn K cdv x = true) (k : PySem.W.keepIn K (.ref f) = true) : Is K mg x st := ⟨f, _, fun_mk l c k, PySem.W.mg_of X G a⟩
/-- what may be called by a name -/
structure CalG (P : Program) (w : World) (K : PySem.W.Frag) (mg : Str → Option Value) (base : Heap) (k : Nat) (x : Str) (sp : Sp) : Prop where
  ex : ∃ f fd ps, FnG P w K mg base CX0 k f fd ps sp ∧ mg x = some (.ref f) ∧ PySem.W.keepIn K (.ref f) = true ∧ Binds K fd ps []
structure CalGK (P : Program) (w : World) (K : PySem.W.Frag) (mg : Str → Option Value) (base : Heap) (k : Nat) (x y : Str) (sp : Sp) : Prop where
  ex : ∃ f fd, FnG P w K mg base CX0 k f fd [y] sp ∧ mg x = some (.ref f) ∧ PySem.W.keepIn K (.ref f) = true ∧ KBinds K fd [y] [y] (fun us ws => us ++ ws) (fun vs zs => vs ++ zs)
section
variable {X : Cx} {k j : Nat} {sp : Sp} {x y : Str} {p pos : Pos} {e : Expr} {es : List Expr} {t : TA} {te : TE}
theorem pe_g (c : CalG X.prog X.w X.K X.mg X.base k x sp) (gd : X.A.guards = some []) (hr : Room j X.A) (hk : k ≤ j) (hg : Gl X x) (ha : PA X (e :: es) t) (hdb : (x == ("__debug__" : Str)) = false := by decide)
    (he : starEach (e :: es) X.env = (false, eval e X.env) :: starEach es X.env := by rfl) (hpl : (backTo pos (starEach es X.env)).any (·.1) = false := by rfl) :
    PE X (.Call (.Name x p) (e :: es) [] pos) (fun σ H Q => t σ H fun vs H1 => sp vs H1 Q E0) := by
  obtain ⟨f, fd, ps, F, m, kp, b⟩ := c.ex
  refine pe_weak (pe_cg F gd (hr.mono hk) hg m kp b .nil pass0 ha hdb he hpl) fun σ H Q q => ?_
  show t σ H fun vs H1 => sp (vs ++ []) H1 Q E0
  simpa only [List.append_nil] using q
theorem pe_g0 (c : CalG X.prog X.w X.K X.mg X.base k x sp) (gd : X.A.guards = some []) (hr : Room j X.A) (hk : k ≤ j) (hg : Gl X x) (hdb : (x == ("__debug__" : Str)) = false := by decide) :
    PE X (.Call (.Name x p) [] [] pos) (fun σ H Q => sp [] H Q E0) := by
  obtain ⟨f, fd, ps, F, m, kp, b⟩ := c.ex
  exact pe_cg0 F gd (hr.mono hk) hg m kp b .nil pass0 hdb
theorem pe_gK {kpos : Pos} (c : CalGK X.prog X.w X.K X.mg X.base k x y sp) (gd : X.A.guards = some []) (hr : Room j X.A) (hk : k ≤ j) (hg : Gl X x) (he : PE X e te)
    (hall : (backToKw pos (keywordEach [⟨some y, e, kpos⟩] X.env)).all (·.1.isSome) = true := by rfl)
    (hks : (backToKw pos (keywordEach [⟨some y, e, kpos⟩] X.env)).filterMap (·.1) = [y] := by rfl) (hdb : (x == ("__debug__" : Str)) = false := by decide)
    (hpl : ((backTo pos (starEach [] X.env)).any (·.1) || (backToKw pos (keywordEach [⟨some y, e, kpos⟩] X.env)).any (·.1.isNone)) = false := by rfl) :
    PE X (.Call (.Name x p) [] [⟨some y, e, kpos⟩] pos) (fun σ H Q => te σ H fun v H1 => sp [v] H1 Q E0) := by
  obtain ⟨f, fd, F, m, kp, b⟩ := c.ex
  exact pe_cgK0 F gd (hr.mono hk) hg m kp b pass0 (pk_cons he pk_nil) hall hks hdb hpl
end
section
variable {P : Program} {w : World} {K : PySem.W.Frag} {mg : Str → Option Value} {base : Heap} {k : Nat} {sp : Sp} {x : Str} {st : Stmt}
/-- a def's promise by its body; args: how its arguments bind -/
theorem cal_of (i : Is K mg x st) {N ps : List Str} (S : FnScope N ps (defScope st)) (len : ∀ vs H Q E, sp vs H Q E → vs.length = ps.length)
    (args : ∀ (kV doc pm : Value) (an : Option Addr) (cdv ct : Value) (us : List Value), us.length = ps.length → bindArgs (PySem.W.fnOf x x (defArgs st) (defBody st) (defScope st) .none kV doc pm an cdv ct) ⟨us, []⟩ = pure (ps.zip us))
    (bd : ∀ (f : Addr) (cdv : Value) (A : Around) (outer : List Env) (s : Shared) (H : Hp) (vs : List V) (Q : VK) (E : XK), A.guards = some [] → Room k (A.deeper (envOfC x (defScope st) s.heap.objs.size f cdv)) → sp vs H Q E →
      ∃ t, PSs (cxOf CX0 P w K mg base N x (defScope st) f cdv A outer s H E).nox (defBody st) t ∧ t { nx := fun _ H' => Q .non H', rt := Q } (start N vs) H) : CalG P w K mg base (k + 1) x sp := by
  obtain ⟨f, fd, F, m⟩ := i
  exact ⟨⟨f, fd, ps, okG F S len (bd f), m, F.kp, F.binds args⟩⟩
end

theorem pe_gl {X : Cx} {x : Str} {v : V} {pos : Pos} (hg : Gl X x) (h : ∃ u, X.mg x = some u ∧ RelV v u) (hn : (x == ("__debug__" : Str)) = false := by decide) : PE X (.Name x pos) (tC v) := by
  obtain ⟨u, h1, h2⟩ := h
  exact pe_glob hg h1 h2 hn
/-- the same with the text's place kept, for calls by names -/
def CalS (P : Program) (w : World) (K : PySem.W.Frag) (mg : Str → Option Value) (base : Heap) (k : Nat) (x : Str) (st : Stmt) (ps : List Str) (sp : Sp) : Prop :=
  ∃ f fd, FnG P w K mg base CX0 k f fd ps sp ∧ Fun K x x st f fd ∧ mg x = some (.ref f) ∧ Binds K fd ps []
section
variable {P : Program} {w : World} {K : PySem.W.Frag} {mg : Str → Option Value} {base : Heap} {k : Nat} {sp : Sp} {x : Str} {st : Stmt} {ps : List Str}
theorem CalS.g (c : CalS P w K mg base k x st ps sp) : CalG P w K mg base k x sp := let ⟨f, fd, F, Z, m, b⟩ := c; ⟨⟨f, fd, ps, F, m, Z.kp, b⟩⟩
theorem CalS.kw {y : Str} (c : CalS P w K mg base k x st [y] sp)
    (hp : ∀ (kV doc pm : Value) (an : Option Addr) (cdv ct u : Value), bindArgs (PySem.W.fnOf x x (defArgs st) (defBody st) (defScope st) .none kV doc pm an cdv ct) ⟨[u], []⟩ = pure [(y, u)])
    (hk : ∀ (kV doc pm : Value) (an : Option Addr) (cdv ct u : Value), bindArgs (PySem.W.fnOf x x (defArgs st) (defBody st) (defScope st) .none kV doc pm an cdv ct) ⟨[], [(y, u)]⟩ = pure [(y, u)]) : CalGK P w K mg base k x y sp := by
  obtain ⟨f, fd, F, Z, m, b⟩ := c
  refine ⟨⟨f, fd, F, m, Z.kp, ?_, fun r rz => r.append rz⟩⟩
  obtain ⟨oc, od, kV, doc, pm, an, cdv, ct, osl, rfl, lk, hcd⟩ := Z.ex
  intro s us ws _ hl
  match us, ws, hl with
  | [u], [], _ => exact .of_eq (hp kV doc pm an cdv ct u)
  | [], [u], _ => exact .of_eq (hk kV doc pm an cdv ct u)
theorem calS_of (i : Is K mg x st) {N : List Str} (S : FnScope N ps (defScope st)) (len : ∀ vs H Q E, sp vs H Q E → vs.length = ps.length)
    (args : ∀ (kV doc pm : Value) (an : Option Addr) (cdv ct : Value) (us : List Value), us.length = ps.length → bindArgs (PySem.W.fnOf x x (defArgs st) (defBody st) (defScope st) .none kV doc pm an cdv ct) ⟨us, []⟩ = pure (ps.zip us))
    (bd : ∀ (f : Addr) (cdv : Value) (A : Around) (outer : List Env) (s : Shared) (H : Hp) (vs : List V) (Q : VK) (E : XK), A.guards = some [] → Room k (A.deeper (envOfC x (defScope st) s.heap.objs.size f cdv)) → sp vs H Q E →
      ∃ t, PSs (cxOf CX0 P w K mg base N x (defScope st) f cdv A outer s H E).nox (defBody st) t ∧ t { nx := fun _ H' => Q .non H', rt := Q } (start N vs) H) : CalS P w K mg base (k + 1) x st ps sp := by
  obtain ⟨f, fd, F, m⟩ := i
  exact ⟨f, fd, okG F S len (bd f), F, m, F.binds args⟩
end
/-! ### kinds of data -/
def tyN : PyData → String
  | .none => "NoneType" | .bool _ => "bool" | .int _ => "int" | .str _ => "str" | .list _ => "list" | .tuple _ => "tuple" | .dict _ => "dict"
theorem _root_.L2.Dp.ty {K : PySem.W.Frag} {H : Hp} {v : V} {d : PyData} (h : Dp K H v d) : TyX K H v (.type (tyN d)) := by
  cases h with
  | non => exact .base .non
  | bl b => exact .base (.bl b)
  | int i => exact .base (.int i)
  | str x => exact .base (.str x)
  | lst q _ =>
    rcases q with (q | ⟨o, q⟩) | ⟨o, _, _, q, c, _⟩
    · exact .base (.lst q)
    · exact .base (.frz q)
    · exact .kList q c
  | tup q _ =>
    rcases q with (q | ⟨o, q⟩) | ⟨o, _, _, q, c, _⟩
    · exact .base (.tup q)
    · exact .fTuple q
    · exact .kTuple q c
def Isi (T : String) (g : PyData → Bool) : Prop := ∀ d, kitB (tyN d) T = some (g d)
def dI : PyData → Bool | .int _ => true | .bool _ => true | _ => false
def dB : PyData → Bool | .bool _ => true | _ => false
def dS : PyData → Bool | .str _ => true | _ => false
def dT : PyData → Bool | .tuple _ => true | _ => false
def dL : PyData → Bool | .list _ => true | _ => false
theorem isi_int : Isi "int" dI := fun d => by cases d <;> (show kitB _ _ = some _; simp only [tyN, dI]; decide +kernel)
theorem isi_bool : Isi "bool" dB := fun d => by cases d <;> (show kitB _ _ = some _; simp only [tyN, dB]; decide +kernel)
theorem isi_str : Isi "str" dS := fun d => by cases d <;> (show kitB _ _ = some _; simp only [tyN, dS]; decide +kernel)
theorem isi_tuple : Isi "tuple" dT := fun d => by cases d <;> (show kitB _ _ = some _; simp only [tyN, dT]; decide +kernel)
theorem isi_list : Isi "list" dL := fun d => by cases d <;> (show kitB _ _ = some _; simp only [tyN, dL]; decide +kernel)
section
variable {X : Cx} {T : String} {g : PyData → Bool} {e : Expr} {te : TE} {p p2 pos : Pos} {y : Str}
/-- isinstance(e, T) of data -/
theorem call_isiG (hT : Isi T g) : CallR X (.builtin "isinstance") (fun xs H Q => ∃ x d, xs = [x, .ty T] ∧ Dp X.K H x d ∧ Q (.bl (g d)) H) := by
  intro pins s σ H xs us Q I r h
  obtain ⟨x, d, rfl, hd, q⟩ := h
  exact call_isi pins s σ H _ us Q I r ⟨x, .ty T, _, _, g d, rfl, .ty T, hd.ty, kit_ty (hT d), q⟩
theorem pe_isi (hT : Isi T g) (he : PE X e te) (hg : Gl X "isinstance") (hm : X.mg "isinstance" = none) (hg2 : Gl X y) (hm2 : X.mg y = none) (hv2 : bootBuiltins y = some (.type T)) (hn : y ≠ "__name__" := by decide) (hd : (y == ("__debug__" : Str)) = false := by decide)
    (hst : starEach (e :: [.Name y p2]) X.env = (false, eval e X.env) :: starEach [.Name y p2] X.env := by rfl) :
    PE X (.Call (.Name "isinstance" p) [e, .Name y p2] [] pos) (tCB (fun xs H Q => ∃ x d, xs = [x, .ty T] ∧ Dp X.K H x d ∧ Q (.bl (g d)) H) (tCons te (tCons (tC (.ty T)) tNil))) :=
  pe_callB (call_isiG hT) hg hm (by decide +kernel) (pa_cons he (pa_cons (pe_bltn (v := .ty T) hg2 hm2 hv2 rfl hn hd) pa_nil) hst) (he := hst)
end
end G

set_option maxRecDepth 100000
namespace G
open PySem L2 PySem.Spec PyProof.Rows HT

theorem back_adjust (n : Nat) : Builtin.Slice.sliceAdjust none none (-1) (n : Int) = ((n : Int) - 1, -1) := rfl
theorem back_places (n : Nat) : Builtin.Slice.slicePlaces ((n : Int) - 1) (-1) (-1) = n := by
  unfold Builtin.Slice.slicePlaces
  have z : ¬ ((-1 : Int) > 0) := by omega
  simp only [z, if_false, show (-(-1) : Int) = 1 from rfl, Int.ediv_one]
  split <;> omega
theorem back_pick (xs : Array Value) : ((List.range xs.size).filterMap fun (m : Nat) => xs[(((xs.size : Int) - 1) + (m : Int) * (-1)).toNat]?).toArray = xs.toList.reverse.toArray := by
  congr 1
  have e : ∀ m ∈ List.range xs.size, xs[(((xs.size : Int) - 1) + (m : Int) * (-1)).toNat]? = some (xs.toList.getD (xs.size - 1 - m) Value.none) := by
    intro m hm
    have hm := List.mem_range.mp hm
    have q : (((xs.size : Int) - 1) + (m : Int) * (-1)).toNat = xs.size - 1 - m := by omega
    have hl : xs.size - 1 - m < xs.toList.length := by rw [Array.length_toList]; omega
    rw [q, ← Array.getElem?_toList, List.getD_eq_getElem?_getD, List.getElem?_eq_getElem hl]
    rfl
  have e2 : ∀ l : List Nat, (∀ m ∈ l, xs[(((xs.size : Int) - 1) + (m : Int) * (-1)).toNat]? = some (xs.toList.getD (xs.size - 1 - m) Value.none)) →
      (l.filterMap fun (m : Nat) => xs[(((xs.size : Int) - 1) + (m : Int) * (-1)).toNat]?) = l.map fun m => xs.toList.getD (xs.size - 1 - m) Value.none := by
    intro l
    induction l with
    | nil => intro _; rfl
    | cons a l ih =>
      intro h
      rw [List.filterMap_cons, h a (List.mem_cons_self ..), List.map_cons, ih fun m hm => h m (List.mem_cons_of_mem _ hm)]
  rw [e2 _ e]
  apply List.ext_getElem
  · rw [List.length_map, List.length_range, List.length_reverse, Array.length_toList]
  · intro i h1 h2
    rw [List.getElem_map, List.getElem_range, List.getElem_reverse, List.getD_eq_getElem?_getD]
    have hl : xs.size - 1 - i < xs.toList.length := by
      rw [List.length_map, List.length_range] at h1
      rw [Array.length_toList]
      omega
    rw [List.getElem?_eq_getElem hl]
    rfl
section
variable {prog : Program} {w : World} {A : Around} {E : Value → Shared → Prop} {s : Shared}
theorem applied_back {sl : Addr} {vs : Value} {n : Nat} {Q : Int × Int × Nat → Shared → Prop} (is : s.heap.IsSliceOf sl .none .none vs) (ps : IsPart vs (some (-1)))
    (q : Q ((n : Int) - 1, -1, n) s) : wpAny (model prog w) A (Builtin.Slice.sliceApplied (.ref sl) (pure (n : Int))) Q E s := by
  obtain ⟨o3, ho3, hc3, hd3⟩ := id is
  unfold Builtin.Slice.sliceApplied Builtin.Slice.sliceFields
  refine wpAny_bind (wpAny_bind (wpAny_field ho3 hd3 (x := .none) rfl (wpAny_bind (wpAny_field ho3 hd3 (x := .none) rfl (wpAny_bind (wpAny_field ho3 hd3 (x := vs) rfl (wpAny_pure ?_)))))))
  refine wpAny_bind (slicePart_ ps ?_)
  show wpAny _ _ (if ((-1 : Int) == 0) = true then _ else _) _ _ s
  rw [if_neg (by decide)]
  refine wpAny_bind (slicePart_none (wpAny_bind (slicePart_none (wpAny_bind (wpAny_pure ?_)))))
  show wpAny _ _ (match Builtin.Slice.sliceAdjust none none (-1) (n : Int) with | (lo, hi) => pure (lo, (-1 : Int), Builtin.Slice.slicePlaces lo hi (-1))) _ _ s
  rw [back_adjust n]
  show wpAny _ _ (pure ((n : Int) - 1, (-1 : Int), Builtin.Slice.slicePlaces ((n : Int) - 1) (-1) (-1))) _ _ s
  rw [back_places]
  exact wpAny_pure q
theorem item_back {t sl : Addr} {items : Array Value} {vs : Value} {Q : Value → Shared → Prop} (tu : IsTup s.heap t items) (is : s.heap.IsSliceOf sl .none .none vs) (ps : IsPart vs (some (-1)))
    (q : Q (.ref s.heap.objs.size) { s with heap := s.heap.push { cls := .type "tuple", data := .seq items.toList.reverse.toArray } }) (fit : items.size ≤ sizeLine) :
    wpAny (model prog w) A (getItem (.ref t) (.ref sl)) Q E s := by
  have ok : sizeOk (.seq items.toList.reverse.toArray) := by
    show items.toList.reverse.toArray.size ≤ sizeLine
    rw [List.size_toArray, List.length_reverse, Array.length_toList]
    exact fit
  obtain ⟨o3, ho3, hc3, hd3⟩ := id is
  have ty3 : s.TypeIs (.ref sl) "slice" := ⟨o3, ho3, hc3⟩
  unfold getItem
  try with_reducible refine wpAny_holding ?_
  first | refine wpAny_bind (wpAny_pure ?_) | skip
  refine wpAny_bind (wpAny_sequenceKey tu.typeIs (by decide) (wpAny_bind (wpAny_callSpecial?_slot (name := Str.ofString "__getitem__") tu.typeIs PyProof.Rows.slot_tuple_getitem
    (wpAny_call_entry PyProof.Rows.slot_tuple_getitem tu.typeIs entry_tuple_getitem ?_ (args_tuple_getitem _ _)))))
  show wpAny _ _ (Builtin.Tuple.tupleItemsOf (.ref t) >>= _) _ _ s
  refine wpAny_bind (tupleItemsOf_ tu (wpAny_bind (wpAny_typeOf ty3 ?_)))
  rw [if_pos (by decide)]
  refine wpAny_bind (applied_back is ps ?_)
  have no : ¬ ((((items.size : Int) - 1) == 0 && (-1 : Int) == 1 && items.size == items.size) = true) := by
    rw [show ((-1 : Int) == 1) = false from rfl, Bool.and_false, Bool.false_and]
    exact Bool.false_ne_true
  show wpAny _ _ (if (((items.size : Int) - 1) == 0 && (-1 : Int) == 1 && items.size == items.size) = true then _ else _) _ _ s
  rw [if_neg no, back_pick]
  first
    | exact wpAny_bind (m := Builtin.Tuple.tupleExact _) (wpAny_newObj_type (wpAny_pure ⟨_, rfl, wpAny_pure q⟩) ok)
    | exact wpAny_bind (m := Builtin.Tuple.tupleExact _) (wpAny_newObj_type (wpAny_bind (wpAny_pure (wpAny_pure ⟨_, rfl, wpAny_pure q⟩))) ok)
    | exact wpAny_bind (wpAny_bind (m := Builtin.Tuple.tupleExact _) (wpAny_newObj_type (wpAny_pure (wpAny_pure ⟨_, rfl, wpAny_pure q⟩)) ok))
    | exact wpAny_bind (wpAny_bind (m := Builtin.Tuple.tupleExact _) (wpAny_newObj_type (wpAny_pure ⟨_, rfl, wpAny_pure q⟩) ok))
end
section
variable {X : Cx}
def tRevT (K : PySem.W.Frag) (te : TE) : TE := fun σ H Q => te σ H fun x H1 => ∃ a xs, x = .ref a ∧ SqT K H1 a xs ∧ ∀ p, H1 p = none → Q (.ref p) (upd H1 p (.tup xs.reverse))
theorem pe_revT {e : Expr} {te : TE} {k : Nat} {p1 p2 p3 pos : Pos} (he : PE X e te) : PE X (.Subscript e (.Slice none none (some (.UnaryOp .USub (.Constant (.int 1) k p1) p2)) p3) pos) (tRevT X.K te) := by
  refine ⟨fun pins s σ H Q I h => Subscript_ (thn (he.run pins s σ H _ I h) fun v s1 ⟨x, H1, I1, r1, q1⟩ => ?_)⟩
  obtain ⟨a, xs, rfl, hx, q⟩ := q1
  cases r1
  have hst : PO X (some (.UnaryOp .USub (.Constant (.int 1) k p1) p2)) (tPart (tUn (rU fun i => .int (-i)) (tC (.int 1)))) := po_some (pe_un un_neg pe_int)
  refine wpAny_Slice (thn (po_none.run pins s1 σ H1 (fun o H2 => o = none ∧ H2 = H1) I1 ⟨rfl, rfl⟩) ?_)
  rintro vl s2 ⟨_, H2, I2, pl, rfl, rfl⟩
  refine thn (po_none.run pins s2 σ H2 (fun o H3 => o = none ∧ H3 = H2) I2 ⟨rfl, rfl⟩) ?_
  rintro vu s3 ⟨_, H3, I3, pu, rfl, rfl⟩
  refine thn (hst.run pins s3 σ H3 (fun o H4 => o = some (-1) ∧ H4 = H3) I3 ⟨1, rfl, -1, rfl, rfl, rfl⟩) ?_
  rintro vs s4 ⟨_, H4, I4, ps, rfl, rfl⟩
  have I5 : Inv X pins σ H4 { s4 with heap := s4.heap.push { cls := .type "slice", data := .fields #[vl, vu, vs] } } := I4.kept (t' := s4.toks) fun b ob z => Heap.get?_push_of_some _ z
  obtain ⟨its, r, ht, hz⟩ := I5.tuple hx
  have hlen := r.length
  cases pl
  cases pu
  show wpAny (model X.prog X.w) X.A (subscriptTail e (.Slice none none (some (.UnaryOp .USub (.Constant (.int 1) k p1) p2)) p3) (.ref a) (.ref s4.heap.objs.size)) (EP X pins σ Q) X.xe { s4 with heap := s4.heap.push { cls := .type "slice", data := .fields #[.none, .none, vs] } }
  refine tail_any (ops := [.ref a, .ref s4.heap.objs.size]) ht.typeIs (PyProof.Rows.slot_tuple_getitem.lookup) (item_back ht (Heap.IsSliceOf.new _ .none .none vs) ps ?_ (by rw [List.size_toArray]; omega)) (by with_unfolding_all rfl)
  refine ⟨.ref _, _, I5.laid (t' := s4.toks) (o := .tup xs.reverse) (fun b ob z => Heap.get?_push_of_some _ z) (Nat.le_refl _) ?_, rfl, q _ (I5.hok.fresh (Nat.le_refl _))⟩
  exact ⟨by rw [List.length_reverse]; exact hz, its.reverse, r.reverse, ⟨_, Heap.get?_push_size _ rfl, rfl, _, rfl⟩⟩

/-! ### lists that are written and put together -/
structure LD (K : PySem.W.Frag) (H : Hp) (p : Addr) (n : Nat) (P : PyData → Prop) : Prop where
  ex : ∃ vs ds, H p = some (.lst vs) ∧ DpAll K H vs ds ∧ ds.length ≤ n ∧ ∀ d ∈ ds, P d
def tDL (K : PySem.W.Frag) (ds : List PyData) : TE := fun _ H Q => ∀ p vs H', Same H H' → H' p = some (.lst vs) → DpAll K H' vs ds → Q (.ref p) H'
theorem pe_litL {es : List Expr} {pos : Pos} {ds : List PyData} (h : litDs es = some ds) (hl : decide (ds.length ≤ 1000) = true) : PE X (.List es pos) (tDL X.K ds) := by
  refine pe_weak (pe_lst (pa_lit es ds h)) fun σ H Q q => ?_
  intro vs H' s a
  exact ⟨by rw [a.length]; exact thousand (of_decide_eq_true hl), fun p np => q p vs _ (s.trans (Same.upd np)) upd_same ((Held.upd np).dpAll _ _ a)⟩
theorem catL {K : PySem.W.Frag} {i n m : Nat} {H : Hp} {Q : VK} {σ : L2.St} {p : Addr} {ds : List PyData} {P : PyData → Prop} (L : LD K H p n P) (hi : σ[i]? = some (some (.ref p))) (hm : n + ds.length ≤ m) (h1 : m ≤ 1000) (hP : ∀ d ∈ ds, P d)
    (q : ∀ r H', Same H H' → LD K H' r m P → Q (.ref r) H') : tOp rCat (tVar i) (tDL K ds) σ H Q := by
  refine ⟨_, hi, ?_⟩
  intro r vs H' s hr a
  obtain ⟨us, es, hp, b, hn, hP0⟩ := L.ex
  have hl1 := (b.length)
  have hl2 := (a.length)
  refine ⟨p, r, us, vs, rfl, rfl, s _ _ hp, hr, thousand (by omega), fun t nt => ?_⟩
  refine q t _ (s.trans (Same.upd nt)) ⟨us ++ vs, es ++ ds, upd_same, (Held.upd nt).dpAll _ _ (((Held.of s).dpAll _ _ b).append a), by rw [List.length_append]; omega, fun d hd => ?_⟩
  rcases List.mem_append.mp hd with h | h
  · exact hP0 d h
  · exact hP d h
end
end G

set_option maxRecDepth 100000
namespace G
open PySem L2 PySem.Spec PyProof.Rows
/-! ### readings over data -/
section
variable {K : PySem.W.Frag} {H : Hp} {Q : VK} {v u : V} {xs ys : List PyData} {a b : PyData}
theorem _root_.L2.Dp.asT (h : Dp K H v (.tuple xs)) : ∃ p vs, v = .ref p ∧ SqT K H p vs ∧ DpAll K H vs xs := by
  cases h with
  | tup q al => exact ⟨_, _, rfl, q, al⟩
theorem _root_.L2.Dp.asL (h : Dp K H v (.list xs)) : ∃ p vs, v = .ref p ∧ SqL K H p vs ∧ DpAll K H vs xs := by
  cases h with
  | lst q al => exact ⟨_, _, rfl, q, al⟩
theorem rd_cat (ha : Dp K H v (.tuple xs)) (hb : Dp K H u (.tuple ys)) (nx : xs ≠ []) (ny : ys ≠ []) (hl : xs.length + ys.length ≤ 1000)
    (q : ∀ p H', Same H H' → Dp K H' (.ref p) (.tuple (xs ++ ys)) → Q (.ref p) H') : rCatA K v u H Q := by
  obtain ⟨p, vs, rfl, h1, a1⟩ := ha.asT
  obtain ⟨r, ws, rfl, h2, a2⟩ := hb.asT
  have l1 := a1.length
  have l2 := a2.length
  have n1 : vs ≠ [] := fun z => nx (List.length_eq_zero_iff.mp (by rw [← l1, z]; rfl))
  have n2 : ws ≠ [] := fun z => ny (List.length_eq_zero_iff.mp (by rw [← l2, z]; rfl))
  exact ⟨p, r, vs, ws, rfl, rfl, h1, h2, thousand (by omega), fun z => absurd z n1, fun _ z => absurd z n2, fun _ _ t nt => q t _ (Same.upd nt) (Dp.newT (a1.append a2) nt)⟩
theorem rd_tup {vs : List V} (ha : DpAll K H vs xs) (hl : xs.length ≤ 1000) (q : ∀ p H', Same H H' → Dp K H' (.ref p) (.tuple xs) → Q (.ref p) H') :
    vs.length ≤ sizeLine ∧ ∀ p, H p = none → Q (.ref p) (upd H p (.tup vs)) :=
  ⟨by rw [ha.length]; exact thousand hl, fun p np => q p _ (Same.upd np) (Dp.newT ha np)⟩
theorem rd_lst {vs : List V} (ha : DpAll K H vs xs) (hl : xs.length ≤ 1000) (q : ∀ p H', Same H H' → H' p = some (.lst vs) → DpAll K H' vs xs → Q (.ref p) H') :
    vs.length ≤ sizeLine ∧ ∀ p, H p = none → Q (.ref p) (upd H p (.lst vs)) :=
  ⟨by rw [ha.length]; exact thousand hl, fun p np => q p _ (Same.upd np) upd_same ((Held.upd np).dpAll _ _ ha)⟩
/-- t[:1] and t[1:] of a pair -/
theorem rd_head (ha : Dp K H v (.tuple [a, b])) (q : ∀ p H', Same H H' → Dp K H' (.ref p) (.tuple [a]) → Q (.ref p) H') : rSlT K v none (some 1) H Q := by
  obtain ⟨p, vs, rfl, h1, a1⟩ := ha.asT
  cases a1 with
  | cons x1 t =>
    cases t with
    | cons x2 t =>
      cases t
      refine ⟨p, _, rfl, h1, fun z => ?_, fun t nt => q t _ (Same.upd nt) (Dp.newT (.cons x1 .nil) nt)⟩
      have z2 := z.2
      revert z2
      show ¬ ((1 : Nat) = 2)
      decide
theorem rd_tail (ha : Dp K H v (.tuple [a, b])) (q : ∀ p H', Same H H' → Dp K H' (.ref p) (.tuple [b]) → Q (.ref p) H') : rSlT K v (some 1) none H Q := by
  obtain ⟨p, vs, rfl, h1, a1⟩ := ha.asT
  cases a1 with
  | cons x1 t =>
    cases t with
    | cons x2 t =>
      cases t
      refine ⟨p, _, rfl, h1, fun z => ?_, fun t nt => q t _ (Same.upd nt) (Dp.newT (.cons x2 .nil) nt)⟩
      have z1 := z.1
      revert z1
      show ¬ ((1 : Nat) = 0)
      decide
theorem rd_rev (ha : Dp K H v (.tuple xs)) (q : ∀ p H', Same H H' → Dp K H' (.ref p) (.tuple xs.reverse) → Q (.ref p) H') :
    ∃ a vs, v = .ref a ∧ SqT K H a vs ∧ ∀ p, H p = none → Q (.ref p) (upd H p (.tup vs.reverse)) := by
  obtain ⟨p, vs, rfl, h1, a1⟩ := ha.asT
  exact ⟨p, vs, rfl, h1, fun t nt => q t _ (Same.upd nt) (Dp.newT a1.reverse nt)⟩
theorem rd_listT (ha : Dp K H v (.tuple xs)) (q : ∀ p H', Same H H' → Dp K H' (.ref p) (.list xs) → Q (.ref p) H') :
    ∃ p ys, [v] = [.ref p] ∧ (SqL K H p ys ∨ SqT K H p ys) ∧ ∀ l, H l = none → Q (.ref l) (upd H l (.lst ys)) := by
  obtain ⟨p, vs, rfl, h1, a1⟩ := ha.asT
  exact ⟨p, vs, rfl, .inr h1, fun t nt => q t _ (Same.upd nt) (Dp.newL a1 nt)⟩
theorem rd_catL {p r : Addr} {vs ws : List V} (hp : H p = some (.lst vs)) (hr : H r = some (.lst ws)) (a1 : DpAll K H vs xs) (a2 : DpAll K H ws ys) (hl : xs.length + ys.length ≤ 1000)
    (q : ∀ p H', Same H H' → Dp K H' (.ref p) (.list (xs ++ ys)) → Q (.ref p) H') : rCat (.ref p) (.ref r) H Q :=
  ⟨p, r, vs, ws, rfl, rfl, hp, hr, thousand (by rw [a1.length, a2.length]; exact hl), fun t nt => q t _ (Same.upd nt) (Dp.newL (a1.append a2) nt)⟩
/-! the same as readings of expressions -/
theorem un_cons {te : TE} {t : TA} {σ : L2.St} {H : Hp} {Q : List V → Hp → Prop} (h : te σ H fun x H1 => t σ H1 fun xs H2 => Q (x :: xs) H2) : tCons te t σ H Q := h
theorem un_op {r : R2} {ta tb : TE} {σ : L2.St} {H : Hp} {Q : VK} (h : ta σ H fun x H1 => tb σ H1 fun y H2 => r x y H2 Q) : tOp r ta tb σ H Q := h
theorem un_lst {t : TA} {σ : L2.St} {H : Hp} {Q : VK} (h : t σ H fun xs H1 => xs.length ≤ sizeLine ∧ ∀ p, H1 p = none → Q (.ref p) (upd H1 p (.lst xs))) : tLst t σ H Q := h
theorem un_tup {t : TA} {σ : L2.St} {H : Hp} {Q : VK} (h : t σ H fun xs H1 => xs.length ≤ sizeLine ∧ ∀ p, H1 p = none → Q (.ref p) (upd H1 p (.tup xs))) : tTup t σ H Q := h
variable {σ : L2.St} {i : Nat}
theorem rt_one (hi : σ[i]? = some (some v)) (ha : Dp K H v a) (q : ∀ p H', Same H H' → Dp K H' (.ref p) (.tuple [a]) → Q (.ref p) H') : tTup (tCons (tVar i) tNil) σ H Q :=
  ⟨v, hi, thousand (by show 1 ≤ 1000; decide), fun p np => q p _ (Same.upd np) (Dp.newT (.cons ha .nil) np)⟩
theorem rt_list (hi : σ[i]? = some (some v)) (ha : Dp K H v (.tuple xs)) (q : ∀ p H', Same H H' → Dp K H' (.ref p) (.list xs) → Q (.ref p) H') :
    tCB (fun xs H Q => ∃ p ys, xs = [.ref p] ∧ (SqL K H p ys ∨ SqT K H p ys) ∧ ∀ l, H l = none → Q (.ref l) (upd H l (.lst ys))) (tCons (tVar i) tNil) σ H Q := by
  obtain ⟨p, vs, rfl, h1, a1⟩ := ha.asT
  exact ⟨_, hi, p, vs, rfl, .inr h1, fun t nt => q t _ (Same.upd nt) (Dp.newL a1 nt)⟩
theorem rt_rev (hi : σ[i]? = some (some v)) (ha : Dp K H v (.tuple xs)) (q : ∀ p H', Same H H' → Dp K H' (.ref p) (.tuple xs.reverse) → Q (.ref p) H') : tRevT K (tVar i) σ H Q := by
  obtain ⟨p, vs, rfl, h1, a1⟩ := ha.asT
  exact ⟨_, hi, p, vs, rfl, h1, fun t nt => q t _ (Same.upd nt) (Dp.newT a1.reverse nt)⟩
theorem rt_head (hi : σ[i]? = some (some v)) (ha : Dp K H v (.tuple [a, b])) (q : ∀ p H', Same H H' → Dp K H' (.ref p) (.tuple [a]) → Q (.ref p) H') : tSl (rSlT K) (tVar i) tNoPart (tPart (tC (.int 1))) σ H Q :=
  ⟨_, hi, 1, rfl, rd_head ha q⟩
theorem rt_tail (hi : σ[i]? = some (some v)) (ha : Dp K H v (.tuple [a, b])) (q : ∀ p H', Same H H' → Dp K H' (.ref p) (.tuple [b]) → Q (.ref p) H') : tSl (rSlT K) (tVar i) (tPart (tC (.int 1))) tNoPart σ H Q :=
  ⟨_, hi, 1, rfl, rd_tail ha q⟩
end
end G

set_option maxRecDepth 100000
namespace G
open PySem L2 PySem.Spec PyProof.Rows

/-- the law's run, from its promise where no guard stands -/
theorem run_law {P : Program} {w : World} {K : PySem.W.Frag} {mg mb : Str → Option Value} {k : Nat} {fa a : Addr} {fd : FuncData} {x : Str} {sp : Sp} {s1 : Shared} {vs : List Value} {ns : List Int}
    (kin : K.In s1.heap) (nsg : s1.heap.Ns mainGlobals mg) (nsb : s1.heap.Ns builtinsNs mb) (bb : ∀ x : Str, x ≠ "__name__" → mb x = bootBuiltins x) (lim : s1.heap.NoLimit) (gs : s1.gens = #[])
    (at_ : s1.heap.get? a = some { cls := .type "list", data := .seq vs.toArray }) (are : IntsAre vs ns) (fit : ns.length ≤ sizeLine) (room : Room k callerA)
    (F : ∀ base : Heap, K.In base → base.Ns mainGlobals mg → FnG P w K mg base CX0 k fa fd [x] sp) (bind : ∀ (s : Shared) (u : Value), BindsTo s fd ⟨[u], []⟩ [(x, u)])
    (say : ∀ H : Hp, SqL K H a (ns.map V.int) → sp [.ref a] H (fun v _ => v = .bl true) fun _ _ _ => False) :
    codeAny (model P w) callerA (.call (.ref fa) ⟨[.ref a], []⟩) (fun r s' => r = .ok (.ret (.bool true)) ∧ OldK s1.heap s'.heap ∧ s'.os = s1.os ∧ AllBare s'.gens) s1 := by
  have rel := vals_ints are
  have siz := are.length
  have main : ∀ H : Hp, Only H → SqL K H a (ns.map V.int) → HOk P w H s1.heap → (∀ b, H b ≠ none → b = a) → (H a ≠ none → K.lookup a = none) →
      codeAny (model P w) callerA (.call (.ref fa) ⟨[.ref a], []⟩) (fun r s' => r = .ok (.ret (.bool true)) ∧ OldK s1.heap s'.heap ∧ s'.os = s1.os ∧ AllBare s'.gens) s1 := by
    intro H only sq ok lone unk
    have dicts : ∀ {b : Addr} {m : Str → Option Value}, s1.heap.Ns b m → (hidT s1.heap H).Ns b m := by
      rintro b m ⟨o, es, ep, e, d, r⟩
      refine ⟨o, es, ep, hidT_get e ?_, d, r⟩
      cases q : H b with
      | none => rfl
      | some u =>
        obtain rfl : b = a := lone b (by rw [q]; simp)
        rw [at_] at e
        cases e
        cases d
    have kin2 : K.In (hidT s1.heap H) := by
      intro b o e
      refine hidT_get (kin b o e) ?_
      cases q : H b with
      | none => rfl
      | some u =>
        obtain rfl : b = a := lone b (by rw [q]; simp)
        rw [unk (by rw [q]; simp)] at e
        cases e
    have mod : Mod K mg (hidT s1.heap H) := ⟨kin2, dicts nsg, ⟨mb, dicts nsb, bb⟩, let ⟨mc, h1, h2⟩ := lim; ⟨mc, dicts h1, h2⟩⟩
    have env : Env0 P w K mg (hidT s1.heap H) callerA [] s1 H := ⟨rfl, mod, fun b o e => of_hidT e, Nat.le_of_eq (hidT_size _ _), trivial, fun b hb => absurd (show b ∈ ([] : List Addr) from hb) (by simp), ok, .of_eq gs⟩
    refine codeAny_mono ((F _ kin2 (dicts nsg)).go callerA [] s1 H ⟨[.ref a], []⟩ [.ref a] [.ref a] _ _ rfl room env (bind s1 (.ref a)) (.cons rfl .nil) (say H sq)) fun r s' h => ?_
    match r, h with
    | .error e, h => exact h.elim
    | .ok (.ret u), ⟨v, H', os, bare, un, ok', rv, (q : v = .bl true)⟩ =>
      subst q
      obtain rfl : u = Value.bool true := rv
      refine ⟨rfl, OldK.of_keep fun b o e => ?_, os, bare⟩
      cases q : H b with
      | none => exact un.keep b o e q (by intro z; exact absurd (show b ∈ ([] : List Addr) from z) (by simp)) (by simp)
      | some u =>
        rcases only b with z | ⟨ob, xs, z⟩
        · rw [q] at z
          cases z
        · obtain ⟨e1, _⟩ := ok b _ z
          obtain ⟨e2, _⟩ := ok' b _ (un.frzs b ob _ z)
          rw [e] at e1
          cases e1
          exact e2
  cases hk : K.lookup a with
  | some o =>
    have e := kin a o hk
    rw [at_] at e
    cases e
    exact main (fun _ => none) (fun _ => .inl rfl) (.inr ⟨_, vs.toArray, _, hk, rfl, rfl, rfl, by rw [List.size_toArray, siz]; exact fit, by simpa using rel⟩) (fun b u (z : (none : Option HO) = some u) => by cases z) (fun b z => absurd rfl z) fun z => absurd rfl z
  | none =>
    refine main (fun b => if b = a then some (.frz { cls := .type "list", data := .seq vs.toArray } (.lst (ns.map V.int))) else none) (fun b => ?_) (.inl (.inr ⟨{ cls := .type "list", data := .seq vs.toArray }, if_pos rfl⟩)) (fun b u z => ?_) (fun b z => ?_) fun _ => hk
    all_goals by_cases hb : b = a
    · exact .inr ⟨_, _, if_pos hb⟩
    · exact .inl (if_neg hb)
    · cases (if_pos hb).symm.trans z
      subst hb
      exact ⟨at_, by rw [List.length_map]; exact fit, vs, _, rel, at_⟩
    · cases (if_neg hb).symm.trans z
    · exact hb
    · exact absurd (if_neg hb) z
theorem walkG {l : PySem.W.OpenLaw} {n k : Nat} {q : Program} {loose : List Str} {XP : (Str → Option Value) → Heap → Prop} {YP : World → Heap → Prop} {d : DefRec} {K : Params → PySem.W.Frag} {sp : PySem.W.Frag → Sp} {x : Str}
    (hn : l.most = some n) (hn2 : n ≤ sizeLine) (hdf : d.params.defaults = []) (room : Room k callerA) (hY : ∀ (w : World) (h : Heap), YP w h → (K w.params).In h)
    (F : ∀ (w : World) (mg : Str → Option Value) (fa : Addr) (h : Heap), (K w.params).In h → h.Ns mainGlobals mg → mg d.name = some (.ref fa) →
      ∃ fd : FuncData, (∀ (s : Shared) (u : Value), BindsTo s fd ⟨[u], []⟩ [(x, u)]) ∧ ∀ base : Heap, (K w.params).In base → base.Ns mainGlobals mg → FnG l.prog w (K w.params) mg base CX0 k fa fd [x] (sp (K w.params)))
    (say : ∀ (K : PySem.W.Frag) (H : Hp) (a : Addr) (ns : List Int), ns.length ≤ n → SqL K H a (ns.map V.int) → sp K [.ref a] H (fun v _ => v = .bl true) fun _ _ _ => False) :
    PySem.W.WalkO q loose XP YP l.row.toRowW d [] (fun f vs => PySem.call f vs) := by
  refine Att.attach_call hn hdf fun w s₀ s₁ mg mb fa o pm cd doc a vs ns G Y ho hd hcd hmg hobj hints hlen hg => ?_
  have kin := hY w _ Y
  obtain ⟨fd, hb, hF⟩ := F w mg fa _ kin G.T.g hmg
  exact run_law kin G.T.g G.T.b G.T.builtins G.T.nolimit hg hobj hints (Nat.le_trans hlen hn2) room hF hb fun H hS => say _ H a ns hlen hS
end G

set_option maxRecDepth 100000
namespace Z
open PySem L2 G
def top (i : Nat) : Stmt := PySem.Challenge.pw_forcedtables_k64_whole_events_by_form.main.body.getD i (.Pass ⟨0, 0, 0, 0⟩)
abbrev s_is_integer : Stmt := top 5
abbrev s_is_number : Stmt := top 6
abbrev s_is_below : Stmt := top 7
abbrev s_is_prime : Stmt := top 8
abbrev s_is_pair : Stmt := top 9
abbrev s_is_name : Stmt := top 10
abbrev s_is_hold : Stmt := top 11
abbrev s_is_event : Stmt := top 12
abbrev s__law_feed : Stmt := top 14
abbrev s__law_draw : Stmt := top 15
abbrev s__law_any : Stmt := top 16
abbrev s__law_is_prime : Stmt := top 17
abbrev s__law_is_title : Stmt := top 18
abbrev s__law_is_act : Stmt := top 19
abbrev s__law_odds : Stmt := top 20
abbrev s__law_near : Stmt := top 21
abbrev s__law_is_right : Stmt := top 22
abbrev s_law : Stmt := top 23
structure Txt (K : PySem.W.Frag) (mg : Str → Option Value) : Prop where
  b_isinstance : mg "isinstance" = none
  b_int : mg "int" = none
  b_bool : mg "bool" = none
  b_str : mg "str" = none
  b_tuple : mg "tuple" = none
  b_len : mg "len" = none
  b_all : mg "all" = none
  b_repr : mg "repr" = none
  b_list : mg "list" = none
  b_range : mg "range" = none
  g_PRIME_END : ∃ u, mg "PRIME_END" = some u ∧ RelV (.int 10000) u
  g_LONGEST_NAME : ∃ u, mg "LONGEST_NAME" = some u ∧ RelV (.int 8) u
  g_LETTERS : ∃ u, mg "LETTERS" = some u ∧ RelV (.str "abcdefghijklmnopqrstuvwxyz") u
  g_HOLDS : ∃ a, mg "HOLDS" = some (.ref a) ∧ ∀ H, SqT K H a [.str "off", .str "cyclic", .str "commute", .str "split"]
  i_is_integer : Is K mg "is_integer" s_is_integer
  i_is_number : Is K mg "is_number" s_is_number
  i_is_below : Is K mg "is_below" s_is_below
  i_is_prime : Is K mg "is_prime" s_is_prime
  i_is_pair : Is K mg "is_pair" s_is_pair
  i_is_name : Is K mg "is_name" s_is_name
  i_is_hold : Is K mg "is_hold" s_is_hold
  i_is_event : Is K mg "is_event" s_is_event
  i__law_feed : Is K mg "_law_feed" s__law_feed
  i__law_draw : Is K mg "_law_draw" s__law_draw
  i__law_any : Is K mg "_law_any" s__law_any
  i__law_is_prime : Is K mg "_law_is_prime" s__law_is_prime
  i__law_is_title : Is K mg "_law_is_title" s__law_is_title
  i__law_is_act : Is K mg "_law_is_act" s__law_is_act
  i__law_odds : Is K mg "_law_odds" s__law_odds
  i__law_near : Is K mg "_law_near" s__law_near
  i__law_is_right : Is K mg "_law_is_right" s__law_is_right
  i_law : Is K mg "law" s_law
end Z

set_option maxRecDepth 100000
set_option maxHeartbeats 4000000
namespace Z
open PySem L2 G
section
variable {P : Program} {w : World} {K : PySem.W.Frag} {mg : Str → Option Value} {base : Heap}

/-- a truth of one value -/
def spB (K : PySem.W.Frag) (g : PyData → Bool) : Sp := fun vs H Q _ => ∃ v d, vs = [v] ∧ Dp K H v d ∧ Sz 40 20000 d ∧ ∀ H', Same H H' → Q (.bl (g d)) H'
theorem spB_len {g : PyData → Bool} : ∀ vs H Q E, spB K g vs H Q E → vs.length = 1 := by
  rintro vs H Q E ⟨v, d, rfl, _⟩
  rfl
def mInteger : PyData → Bool | .int _ => true | _ => false
def mNumber : PyData → Bool | .int i => decide (0 ≤ i) | _ => false
def mBelow (b : Int) : PyData → Bool | .int i => decide (0 ≤ i) && decide (i < b) | _ => false
def spBelow (K : PySem.W.Frag) : Sp := fun vs H Q _ => ∃ v d b, vs = [v, .int b] ∧ Dp K H v d ∧ Sz 40 20000 d ∧ ∀ H', Same H H' → Q (.bl (mBelow b d)) H'
theorem spBelow_len : ∀ vs H Q E, spBelow K vs H Q E → vs.length = 2 := by
  rintro vs H Q E ⟨v, d, b, rfl, _⟩
  rfl
/-- no divisor whose square is within -/
def clean (i : Int) : Bool := (List.range 98).all fun k => !(decide (((k : Int) + 2) * ((k : Int) + 2) ≤ i) && decide (i % ((k : Int) + 2) = 0))
def mPrime : PyData → Bool | .int i => decide (0 ≤ i) && decide (i < 10000) && !decide (i < 2) && clean i | _ => false
theorem clean_no {i f : Int} (h0 : i < 10000) (h2 : 2 ≤ f) (hf : f * f ≤ i) (hd : i % f = 0) : clean i = false := by
  have h100 : f < 100 := by
    apply Int.lt_of_not_ge
    intro hge
    have : 100 * 100 ≤ f * f := Int.mul_le_mul hge hge (by decide) (by omega)
    omega
  unfold clean
  rw [List.all_eq_false]
  refine ⟨(f - 2).toNat, by rw [List.mem_range]; omega, ?_⟩
  have e : (((f - 2).toNat : Nat) : Int) + 2 = f := by omega
  rw [e, decide_eq_true hf, decide_eq_true hd]
  decide
theorem clean_yes {i : Int} (h : ∀ f : Int, 2 ≤ f → f * f ≤ i → i % f ≠ 0) : clean i = true := by
  unfold clean
  rw [List.all_eq_true]
  intro k _
  rw [Bool.not_eq_true', Bool.and_eq_false_iff]
  by_cases c : ((k : Int) + 2) * ((k : Int) + 2) ≤ i
  · exact .inr (decide_eq_false (h _ (by omega) c))
  · exact .inl (decide_eq_false c)
theorem lcYes {A B : Hp → Prop} {σ : St} {H : Hp} (h : A H) : tYes σ H fun b H3 => if b = true then A H3 else B H3 := h
abbrev nm_is_integer : List Str := ["thing"]
theorem sc_is_integer : FnScope nm_is_integer ["thing"] (defScope s_is_integer) := ⟨rfl, rfl, rfl, by decide +kernel, rfl, by decide +kernel, by decide +kernel⟩
theorem ok_is_integer (T : Txt K mg) : CalG P w K mg base 1 "is_integer" (spB K mInteger) := by
  refine cal_of T.i_is_integer sc_is_integer spB_len (fun _ _ _ _ _ _ us hl => match us, hl with | [_], _ => rfl) (fun f cdv A outer s H vs Q E gd hr h => ?_)
  have hu := hu_of hr
  have hu64 : (A.deeper (PyProof.Rows.envOfC "is_integer" (defScope s_is_integer) s.heap.objs.size f cdv)).units + 64 < cLine := by have := hr.un; omega
  have hu80 : (A.deeper (PyProof.Rows.envOfC "is_integer" (defScope s_is_integer) s.heap.objs.size f cdv)).units + 80 < cLine := by have := hr.un; omega
  obtain ⟨v, d, rfl, hd, sz, k⟩ := h
  refine ⟨_, (pss_one (ps_ret (pe_and (pe_isi isi_int (pv 0) (by rfl) T.b_isinstance (by rfl) T.b_int rfl) (pe_one (pe_not (pe_isi isi_bool (pv 0) (by rfl) T.b_isinstance (by rfl) T.b_bool rfl)))))), ?_⟩
  refine ⟨_, rfl, _, d, rfl, hd, _, rfl, ?_⟩
  have key := k H (.refl H)
  cases d with
  | int i => exact iteT ⟨_, rfl, _, .int i, rfl, hd, _, rfl, key⟩
  | bool b => exact iteT ⟨_, rfl, _, .bool b, rfl, hd, _, rfl, key⟩
  | _ => exact iteF key
abbrev nm_is_number : List Str := ["thing"]
theorem sc_is_number : FnScope nm_is_number ["thing"] (defScope s_is_number) := ⟨rfl, rfl, rfl, by decide +kernel, rfl, by decide +kernel, by decide +kernel⟩
theorem ok_is_number (T : Txt K mg) : CalG P w K mg base 2 "is_number" (spB K mNumber) := by
  refine cal_of T.i_is_number sc_is_number spB_len (fun _ _ _ _ _ _ us hl => match us, hl with | [_], _ => rfl) (fun f cdv A outer s H vs Q E gd hr h => ?_)
  have hu := hu_of hr
  have hu64 : (A.deeper (PyProof.Rows.envOfC "is_number" (defScope s_is_number) s.heap.objs.size f cdv)).units + 64 < cLine := by have := hr.un; omega
  have hu80 : (A.deeper (PyProof.Rows.envOfC "is_number" (defScope s_is_number) s.heap.objs.size f cdv)).units + 80 < cLine := by have := hr.un; omega
  obtain ⟨v, d, rfl, hd, sz, k⟩ := h
  refine ⟨_, (pss_one (ps_ret (pe_and (pe_g (ok_is_integer T) gd hr (by decide) (by rfl) (pa_cons (pv 0) pa_nil)) (pe_one (pe_cmpR op_ge (pv 0) pe_int (nomark _)))))), ?_⟩
  refine ⟨_, rfl, _, d, rfl, hd, sz, fun H1 s1 => ⟨_, rfl, ?_⟩⟩
  have key := k H1 s1
  cases d with
  | int i =>
    cases hd
    exact iteT ⟨_, rfl, _, _, rfl, rfl, key⟩
  | _ => exact iteF key
abbrev nm_is_below : List Str := ["thing", "bound"]
theorem sc_is_below : FnScope nm_is_below ["thing", "bound"] (defScope s_is_below) := ⟨rfl, rfl, rfl, by decide +kernel, rfl, by decide +kernel, by decide +kernel⟩
theorem ok_is_below (T : Txt K mg) : CalG P w K mg base 3 "is_below" (spBelow K) := by
  refine cal_of T.i_is_below sc_is_below spBelow_len (fun _ _ _ _ _ _ us hl => match us, hl with | [_, _], _ => rfl) (fun f cdv A outer s H vs Q E gd hr h => ?_)
  have hu := hu_of hr
  have hu64 : (A.deeper (PyProof.Rows.envOfC "is_below" (defScope s_is_below) s.heap.objs.size f cdv)).units + 64 < cLine := by have := hr.un; omega
  have hu80 : (A.deeper (PyProof.Rows.envOfC "is_below" (defScope s_is_below) s.heap.objs.size f cdv)).units + 80 < cLine := by have := hr.un; omega
  obtain ⟨v, d, b, rfl, hd, sz, k⟩ := h
  refine ⟨_, (pss_one (ps_ret (pe_and (pe_g (ok_is_number T) gd hr (by decide) (by rfl) (pa_cons (pv 0) pa_nil)) (pe_one (pe_cmpR op_lt (pv 0) (pv 1) (nomark _)))))), ?_⟩
  refine ⟨_, rfl, _, d, rfl, hd, sz, fun H1 s1 => ⟨_, rfl, ?_⟩⟩
  have key := k H1 s1
  cases d with
  | int i =>
    cases hd
    show if decide (0 ≤ i) = true then _ else _
    by_cases c : 0 ≤ i
    · rw [decide_eq_true c]
      refine iteT ⟨_, rfl, _, rfl, _, _, rfl, rfl, ?_⟩
      have e : mBelow b (.int i) = decide (i < b) := by simp [mBelow, c]
      rw [e] at key
      exact key
    · rw [decide_eq_false c]
      have e : mBelow b (.int i) = false := by simp [mBelow, c]
      rw [e] at key
      exact iteF key
  | _ => exact iteF key
abbrev nm_is_prime : List Str := ["thing", "factor"]
theorem sc_is_prime : FnScope nm_is_prime ["thing"] (defScope s_is_prime) := ⟨rfl, rfl, rfl, by decide +kernel, rfl, by decide +kernel, by decide +kernel⟩
theorem ok_is_prime (T : Txt K mg) : CalG P w K mg base 4 "is_prime" (spB K mPrime) := by
  refine cal_of T.i_is_prime sc_is_prime spB_len (fun _ _ _ _ _ _ us hl => match us, hl with | [_], _ => rfl) (fun f cdv A outer s H vs Q E gd hr h => ?_)
  have hu := hu_of hr
  have hu64 : (A.deeper (PyProof.Rows.envOfC "is_prime" (defScope s_is_prime) s.heap.objs.size f cdv)).units + 64 < cLine := by have := hr.un; omega
  have hu80 : (A.deeper (PyProof.Rows.envOfC "is_prime" (defScope s_is_prime) s.heap.objs.size f cdv)).units + 80 < cLine := by have := hr.un; omega
  obtain ⟨v, d, rfl, hd, sz, k⟩ := h
  refine ⟨_, (pss_cons (ps_if (pw_or (pt_not (pt_val (pe_g (ok_is_below T) gd hr (by decide) (by rfl) (pa_cons (pv 0) (pa_cons (pe_gl (by rfl) T.g_PRIME_END) pa_nil))))) (pw_or1 (pt_cmpR op_lt (pv 0) pe_int (nomark _)))).pt (pss_one (ps_ret pe_bl)) pss_nil)
    (pss_cons (ps_set (i := 1) sc_is_prime.nd rfl (Or.inl rfl) pe_int)
    (pss_cons (ps_while PassesOwn.never (pt_cmpR op_le (pe_op op_mul (pv 1) (pv 1)) (pv 0) (nomark _)) (pss_cons (ps_if (pt_cmpR op_eq (pe_op op_mod (pv 0) (pv 1)) pe_int (nomark _)) (pss_one (ps_ret pe_bl)) pss_nil)
    (pss_one (ps_set (i := 1) sc_is_prime.nd rfl (Or.inl rfl) (pe_op op_add (pv 1) pe_int)))))
    (pss_one (ps_ret pe_bl))))), ?_⟩
  refine ⟨_, rfl, v, d, 10000, rfl, hd, sz, fun H1 s1 => ⟨_, rfl, ?_⟩⟩
  have key := k H1 s1
  by_cases cb : mBelow 10000 d = true
  · cases d with
    | int i =>
      cases hd
      have cb' : (decide (0 ≤ i) && decide (i < 10000)) = true := cb
      rw [Bool.and_eq_true, decide_eq_true_eq, decide_eq_true_eq] at cb'
      obtain ⟨c0, c1⟩ := cb'
      rw [cb]
      refine iteF ⟨_, rfl, _, _, rfl, rfl, _, rfl, ?_⟩
      by_cases c2 : i < 2
      · rw [decide_eq_true c2]
        have e : mPrime (.int i) = false := by simp [mPrime, c2]
        rw [e] at key
        exact iteT key
      · rw [decide_eq_false c2]
        have e : mPrime (.int i) = clean i := by simp [mPrime, c0, c1, c2]
        rw [e] at key
        refine iteF ?_
        refine while_by (fun σ H2 => ∃ f : Int, σ = [some (.int i), some (.int f)] ∧ H2 = H1 ∧ 2 ≤ f ∧ f ≤ 101 ∧ ∀ g : Int, 2 ≤ g → g < f → i % g ≠ 0)
          (fun σ _ => match σ with | [_, some (.int f)] => (200 - f).toNat | _ => 0) ⟨2, rfl, rfl, by decide, by decide, fun g h1 h2 => by omega⟩ ?_ ?_
        · rintro σ H2 ⟨f, rfl, rfl, f2, f3, hf⟩
          refine ⟨_, rfl, _, rfl, f, f, rfl, rfl, .inl ⟨by omega, by omega⟩, _, rfl, _, _, rfl, rfl, _, rfl, ?_⟩
          by_cases cf : f * f ≤ i
          · rw [decide_eq_true cf]
            refine iteT ?_
            have f99 : f < 100 := by
              apply Int.lt_of_not_ge
              intro hge
              have : 100 * 100 ≤ f * f := Int.mul_le_mul hge hge (by decide) (by omega)
              omega
            refine ⟨_, rfl, _, rfl, i, f, rfl, rfl, (by show 0 < f; omega), rfl, _, rfl, ?_⟩
            by_cases cz : i % f = 0
            · have e2 : clean i = false := clean_no c1 f2 cf cz
              rw [e2] at key
              refine ite2 (fun _ => key) (fun z => absurd (decide_eq_true ?_) z)
              show V.int (i % f) = V.int 0
              rw [cz]
            · refine ite2 (fun z => absurd (V.int.inj (of_decide_eq_true z)) cz) (fun _ => ?_)
              refine ⟨_, rfl, _, _, rfl, rfl, ⟨f + 1, rfl, rfl, by omega, by omega, fun g h1 h2 => ?_⟩, ?_⟩
              · by_cases hg : g < f
                · exact hf g h1 hg
                · have : g = f := by omega
                  subst this
                  exact cz
              · show (200 - (f + 1)).toNat < (200 - f).toNat
                omega
          · rw [decide_eq_false cf]
            refine iteF ?_
            have e2 : clean i = true := clean_yes fun g h1 h2 => by
              refine hf g h1 (Int.lt_of_not_ge fun hge => cf ?_)
              exact Int.le_trans (Int.mul_le_mul hge hge (by omega) (by omega)) h2
            rw [e2] at key
            exact key
        · rintro σ H2 Q1 Q2 imp ⟨a1, b1, a2, b2, i1, j1, e1, e2, m1, a3, b3, i2, j2, e3, e4, a5, b5, q⟩
          exact ⟨a1, b1, a2, b2, i1, j1, e1, e2, m1, a3, b3, i2, j2, e3, e4, a5, b5, imp _ _ q⟩
    | _ => cases cb
  · have cb2 : mBelow 10000 d = false := by simpa using cb
    rw [cb2]
    have e : mPrime d = false := by
      cases d with
      | int i =>
        have q : (decide (0 ≤ i) && decide (i < 10000)) = false := cb2
        simp only [mPrime, q, Bool.false_and]
      | _ => rfl
    rw [e] at key
    exact iteT key

/-! pairs, names, words that are held -/
def mPair : PyData → Bool | .tuple ds => decide (ds.length = 2) | _ => false
def letters : Str := "abcdefghijklmnopqrstuvwxyz"
def mName : PyData → Bool | .str x => decide (1 ≤ x.length) && decide (x.length ≤ 8) && x.cps.toList.all fun c => decide (c ∈ letters.cps.toList) | _ => false
def holdV : List V := [.str "off", .str "cyclic", .str "commute", .str "split"]
def mHold : PyData → Bool | .str x => inV (.str x) holdV | _ => false
def kindV : List V := [.str "prime", .str "drop"]
def mEvent : PyData → Bool
  | .tuple [.str x, d] => if inV (.str x) kindV = true then mPrime d else if x = "note" then mName d else decide (x = "hold") && mHold d
  | _ => false
theorem _root_.L2.Dp.lenT {H : Hp} {v : V} {ds : List PyData} (h : Dp K H v (.tuple ds)) : LenV K v H ds.length := by
  cases h with
  | tup q a => exact .inr ⟨_, q, a.length.symm⟩
abbrev nm_is_pair : List Str := ["thing"]
theorem sc_is_pair : FnScope nm_is_pair ["thing"] (defScope s_is_pair) := ⟨rfl, rfl, rfl, by decide +kernel, rfl, by decide +kernel, by decide +kernel⟩
theorem ok_is_pair (T : Txt K mg) : CalG P w K mg base 1 "is_pair" (spB K mPair) := by
  refine cal_of T.i_is_pair sc_is_pair spB_len (fun _ _ _ _ _ _ us hl => match us, hl with | [_], _ => rfl) (fun f cdv A outer s H vs Q E gd hr h => ?_)
  have hu := hu_of hr
  have hu64 : (A.deeper (PyProof.Rows.envOfC "is_pair" (defScope s_is_pair) s.heap.objs.size f cdv)).units + 64 < cLine := by have := hr.un; omega
  have hu80 : (A.deeper (PyProof.Rows.envOfC "is_pair" (defScope s_is_pair) s.heap.objs.size f cdv)).units + 80 < cLine := by have := hr.un; omega
  obtain ⟨v, d, rfl, hd, sz, k⟩ := h
  refine ⟨_, (pss_one (ps_ret (pe_and (pe_isi isi_tuple (pv 0) (by rfl) T.b_isinstance (by rfl) T.b_tuple rfl) (pe_one (pe_cmpR op_eq (pe_callB call_len (by rfl) T.b_len (by decide +kernel) (pa_cons (pv 0) pa_nil)) pe_int (nomark _)))))), ?_⟩
  refine ⟨_, rfl, _, d, rfl, hd, _, rfl, ?_⟩
  have key := k H (.refl H)
  cases d with
  | tuple ds =>
    refine iteT ⟨_, rfl, v, ds.length, rfl, hd.lenT, rfl, ?_⟩
    have e : decide (V.int (ds.length : Int) = V.int 2) = mPair (.tuple ds) := by
      show _ = decide (ds.length = 2)
      by_cases c : ds.length = 2
      · rw [decide_eq_true c]; exact decide_eq_true (by rw [c]; rfl)
      · rw [decide_eq_false c]; exact decide_eq_false fun z => c (by have := V.int.inj z; omega)
    rw [e]
    exact key
  | _ => exact iteF key
abbrev nm_is_hold : List Str := ["thing"]
theorem sc_is_hold : FnScope nm_is_hold ["thing"] (defScope s_is_hold) := ⟨rfl, rfl, rfl, by decide +kernel, rfl, by decide +kernel, by decide +kernel⟩
theorem ok_is_hold (T : Txt K mg) : CalG P w K mg base 1 "is_hold" (spB K mHold) := by
  refine cal_of T.i_is_hold sc_is_hold spB_len (fun _ _ _ _ _ _ us hl => match us, hl with | [_], _ => rfl) (fun f cdv A outer s H vs Q E gd hr h => ?_)
  have hu := hu_of hr
  have hu64 : (A.deeper (PyProof.Rows.envOfC "is_hold" (defScope s_is_hold) s.heap.objs.size f cdv)).units + 64 < cLine := by have := hr.un; omega
  have hu80 : (A.deeper (PyProof.Rows.envOfC "is_hold" (defScope s_is_hold) s.heap.objs.size f cdv)).units + 80 < cLine := by have := hr.un; omega
  obtain ⟨v, d, rfl, hd, sz, k⟩ := h
  obtain ⟨ho, ho1, ho2⟩ := T.g_HOLDS
  refine ⟨_, (pss_one (ps_ret (pe_and (pe_isi isi_str (pv 0) (by rfl) T.b_isinstance (by rfl) T.b_str rfl) (pe_one (pe_cmpR op_in_seq (pv 0) (pe_glob (v := .ref ho) (by rfl) ho1 rfl) rfl))))), ?_⟩
  refine ⟨_, rfl, _, d, rfl, hd, _, rfl, ?_⟩
  have key := k H (.refl H)
  cases d with
  | str x =>
    cases hd
    exact iteT ⟨_, rfl, ho, holdV, rfl, .inr (ho2 H), rfl, rfl, key⟩
  | _ => exact iteF key
abbrev nm_is_name : List Str := ["thing", "sign"]
theorem sc_is_name : FnScope nm_is_name ["thing"] (defScope s_is_name) := ⟨rfl, rfl, rfl, by decide +kernel, rfl, by decide +kernel, by decide +kernel⟩
theorem ok_is_name (T : Txt K mg) : CalG P w K mg base 1 "is_name" (spB K mName) := by
  refine cal_of T.i_is_name sc_is_name spB_len (fun _ _ _ _ _ _ us hl => match us, hl with | [_], _ => rfl) (fun f cdv A outer s H vs Q E gd hr h => ?_)
  have hu := hu_of hr
  have hu64 : (A.deeper (PyProof.Rows.envOfC "is_name" (defScope s_is_name) s.heap.objs.size f cdv)).units + 64 < cLine := by have := hr.un; omega
  have hu80 : (A.deeper (PyProof.Rows.envOfC "is_name" (defScope s_is_name) s.heap.objs.size f cdv)).units + 80 < cLine := by have := hr.un; omega
  obtain ⟨v, d, rfl, hd, sz, k⟩ := h
  refine ⟨_, (pss_cons (ps_if (pw_or (pt_not (pt_val (pe_isi isi_str (pv 0) (by rfl) T.b_isinstance (by rfl) T.b_str rfl))) (pw_or1 (pt_not (pt_chain op_le op_le pe_int (pe_callB call_len (by rfl) T.b_len (by decide +kernel) (pa_cons (pv 0) pa_nil)) (pe_gl (by rfl) T.g_LONGEST_NAME))))).pt (pss_one (ps_ret pe_bl)) pss_nil)
    (pss_one (ps_ret (pe_callB (cr_all rfl) (by rfl) T.b_all (by decide +kernel) (pa_cons (pe_lc (own := [("sign", 1)]) rfl sc_is_name.nd (pi_str (pv 0)) (blkOk_by (N := nm_is_name) (sc := defScope s_is_name) (by decide +kernel)) (fun _ _ _ _ _ => (pg_name (i := 1) sc_is_name.nd rfl (Or.inl rfl))) (fun _ _ _ _ _ => pts_nil) (fun _ _ _ _ _ => (pe_cmpR op_in_sign (pv 1) (pe_gl (by rfl) T.g_LETTERS) rfl))) pa_nil))))), ?_⟩
  have key := k H (.refl H)
  refine ⟨_, rfl, _, d, rfl, hd, _, rfl, ?_⟩
  cases d with
  | str x =>
    cases hd
    have hx := sz.len
    have hline := sizeLine_eq
    refine iteF ⟨_, rfl, .str x, x.length, rfl, ⟨by omega, rfl⟩, _, _, rfl, rfl, _, rfl, ?_⟩
    by_cases c1 : 1 ≤ x.length
    · rw [decide_eq_true (show (1 : Int) ≤ (x.length : Int) by omega)]
      refine iteT ⟨_, _, rfl, rfl, _, rfl, ?_⟩
      by_cases c2 : x.length ≤ 8
      · rw [decide_eq_true (show (x.length : Int) ≤ 8 by omega)]
        refine iteF ?_
        refine ⟨_, rfl, x, rfl, fun D hD => lc_it walk_str (fun i H2 => Same H H2 ∧ H2 D = some (.lst ((x.cps.toList.take i).map fun c => .bl (decide (c ∈ letters.cps.toList)))))
          ⟨Same.upd hD, upd_same⟩ (fun _ _ _ _ => trivial) ?_ ?_⟩
        · rintro i v H2 H3 hi ⟨s2, hl⟩ ⟨rfl, c, hc, rfl⟩
          refine ⟨rfl, ?_⟩
          refine lcYes ?_
          refine ⟨_, rfl, c, letters, rfl, rfl, _, hl, ?_, ?_, ?_⟩
          · rw [List.length_map, List.length_take]
            have : x.cps.size = x.length := rfl
            omega
          · intro b o e
            rw [upd_ne (ne_of_none e hD)]
            exact s2 b o e
          · have hc' : x.cps.toList[i]? = some c := by rw [Array.getElem?_toList]; exact hc
            rw [upd_same, List.take_succ, hc', Option.toList_some, List.map_append, List.map_cons, List.map_nil]
        · rintro H2 ⟨s2, hl⟩
          refine ⟨D, x.cps.toList.map fun c => decide (c ∈ letters.cps.toList), rfl, .inl (.inl ?_), ?_⟩
          · rw [hl, List.take_of_length_le (by rw [Array.length_toList]; exact Nat.le_refl _), List.map_map]
            rfl
          · have e : mName (.str x) = (x.cps.toList.map fun c => decide (c ∈ letters.cps.toList)).all id := by
              simp only [mName, decide_eq_true c1, decide_eq_true c2, Bool.true_and, List.all_map]
              rfl
            rw [← e]
            exact k H2 s2
      · rw [decide_eq_false (show ¬ (x.length : Int) ≤ 8 by omega)]
        have e : mName (.str x) = false := by simp [mName, c2]
        rw [e] at key
        exact iteT key
    · rw [decide_eq_false (show ¬ (1 : Int) ≤ (x.length : Int) by omega)]
      have e : mName (.str x) = false := by simp only [mName, decide_eq_false c1, Bool.false_and]
      rw [e] at key
      exact iteF ⟨_, rfl, iteT key⟩
  | _ => exact iteT key
theorem mEvent_no2 {ds : List PyData} (h : ¬ ds.length = 2) : mEvent (.tuple ds) = false := by
  match ds with
  | [] => rfl
  | [z] => cases z <;> rfl
  | [_, _] => exact absurd rfl h
  | _ :: _ :: _ :: _ => simp [mEvent]
theorem kind_vals {H : Hp} {vs : List V} (h : DpAll K H vs [.str "prime", .str "drop"]) : vs = kindV := by
  cases h with
  | cons a t =>
    cases a
    cases t with
    | cons b u =>
      cases b
      cases u
      rfl
theorem mEvent_k {x : Str} {b : PyData} (ck : inV (.str x) kindV = true) : mEvent (.tuple [.str x, b]) = mPrime b := by
  show (if inV (.str x) kindV = true then mPrime b else if x = "note" then mName b else decide (x = "hold") && mHold b) = _
  rw [if_pos ck]
theorem mEvent_n {x : Str} {b : PyData} (ck : ¬ inV (.str x) kindV = true) (cn : x = "note") : mEvent (.tuple [.str x, b]) = mName b := by
  show (if inV (.str x) kindV = true then mPrime b else if x = "note" then mName b else decide (x = "hold") && mHold b) = _
  rw [if_neg ck, if_pos cn]
theorem mEvent_h {x : Str} {b : PyData} (ck : ¬ inV (.str x) kindV = true) (cn : ¬ x = "note") : mEvent (.tuple [.str x, b]) = (decide (x = "hold") && mHold b) := by
  show (if inV (.str x) kindV = true then mPrime b else if x = "note" then mName b else decide (x = "hold") && mHold b) = _
  rw [if_neg ck, if_neg cn]
theorem strV {x y : Str} : decide (V.str x = V.str y) = decide (x = y) := by
  by_cases c : x = y
  · rw [decide_eq_true c]; exact decide_eq_true (by rw [c])
  · rw [decide_eq_false c]; exact decide_eq_false fun z => c (V.str.inj z)
theorem two {ds : List PyData} (h : ds.length = 2) : ∃ a b, ds = [a, b] := by
  match ds, h with
  | [a, b], _ => exact ⟨a, b, rfl⟩
theorem mEvent_noS {a b : PyData} (h : dS a = false) : mEvent (.tuple [a, b]) = false := by
  cases a <;> first | rfl | cases h
abbrev nm_is_event : List Str := ["thing", "word", "about"]
theorem sc_is_event : FnScope nm_is_event ["thing"] (defScope s_is_event) := ⟨rfl, rfl, rfl, by decide +kernel, rfl, by decide +kernel, by decide +kernel⟩
theorem okS_is_event (T : Txt K mg) : CalS P w K mg base 5 "is_event" s_is_event ["thing"] (spB K mEvent) := by
  refine calS_of T.i_is_event sc_is_event spB_len (fun _ _ _ _ _ _ us hl => match us, hl with | [_], _ => rfl) (fun f cdv A outer s H vs Q E gd hr h => ?_)
  have hu := hu_of hr
  have hu64 : (A.deeper (PyProof.Rows.envOfC "is_event" (defScope s_is_event) s.heap.objs.size f cdv)).units + 64 < cLine := by have := hr.un; omega
  have hu80 : (A.deeper (PyProof.Rows.envOfC "is_event" (defScope s_is_event) s.heap.objs.size f cdv)).units + 80 < cLine := by have := hr.un; omega
  obtain ⟨v, d, rfl, hd, sz, k⟩ := h
  refine ⟨_, (pss_cons (ps_if (pw_or (pt_not (pt_val (pe_g (ok_is_pair T) gd hr (by decide) (by rfl) (pa_cons (pv 0) pa_nil)))) (pw_or1 (pt_not (pt_val (pe_isi isi_str (pe_ix ix_tup (pv 0) pe_int (fun _ _ => rfl)) (by rfl) T.b_isinstance (by rfl) T.b_str rfl))))).pt (pss_one (ps_ret pe_bl)) pss_nil)
    (pss_cons (ps_asg (pv 0) (pg_tup rfl (pgs_cons (pg_name (i := 1) sc_is_event.nd rfl (Or.inl rfl)) (pgs_cons (pg_name (i := 2) sc_is_event.nd rfl (Or.inl rfl)) pgs_nil))))
    (pss_cons (ps_if (pt_cmpR op_in_seq (pv 1) (pe_lit _ _ rfl) rfl) (pss_one (ps_ret (pe_g (ok_is_prime T) gd hr (by decide) (by rfl) (pa_cons (pv 2) pa_nil)))) pss_nil)
    (pss_cons (ps_if (pt_cmpR op_eq (pv 1) pe_str (nomark _)) (pss_one (ps_ret (pe_g (ok_is_name T) gd hr (by decide) (by rfl) (pa_cons (pv 2) pa_nil)))) pss_nil)
    (pss_one (ps_ret (pe_and (pe_cmpR op_eq (pv 1) pe_str (nomark _)) (pe_one (pe_g (ok_is_hold T) gd hr (by decide) (by rfl) (pa_cons (pv 2) pa_nil)))))))))), ?_⟩
  refine ⟨_, rfl, _, d, rfl, hd, sz, fun H1 s1 => ⟨_, rfl, ?_⟩⟩
  have key := k H1 s1
  cases d with
  | tuple ds =>
    by_cases c2 : ds.length = 2
    · have e : mPair (.tuple ds) = true := decide_eq_true c2
      rw [e]
      obtain ⟨a, b, rfl⟩ := two c2
      cases hd with
      | tup q al =>
        rename_i p xs
        cases al with
        | cons ha al =>
          cases al with
          | cons hb al =>
            cases al
            rename_i va vb
            have q1 : SqT K H1 p [va, vb] := (Held.of s1).sqt q
            have ha1 := (Held.of s1).dp _ _ ha
            have hb1 := (Held.of s1).dp _ _ hb
            have sb : Sz 40 20000 b := sz.itemT (by simp)
            refine iteF ⟨_, rfl, p, [va, vb], 0, va, rfl, rfl, q1, rfl, va, a, rfl, ha1, _, rfl, ?_⟩
            cases a with
            | str x =>
              cases ha
              refine iteF ⟨_, rfl, ?_⟩
              refine ⟨p, [.str x, vb], rfl, q1, rfl, ?_⟩
              have key2 : ∀ H', Same H1 H' → Q (.bl (mEvent (.tuple [.str x, b]))) H' := fun H' s' => k H' (s1.trans s')
              refine ⟨_, _, rfl, ?_⟩
              refine ⟨_, _, rfl, rfl, ?_⟩
              refine ⟨_, rfl, ?_⟩
              intro vk H2 s2 hk
              cases hk with
              | tup qk ak =>
                obtain rfl := kind_vals ak
                refine ⟨_, kindV, rfl, .inr qk, rfl, rfl, _, rfl, ?_⟩
                have hb2 := (Held.of s2).dp _ _ hb1
                by_cases ck : inV (.str x) kindV = true
                · rw [mEvent_k ck] at key2
                  show if inV (.str x) kindV = true then _ else _
                  rw [if_pos ck]
                  exact ⟨_, rfl, vb, b, rfl, hb2, sb, fun H3 s3 => key2 H3 (s2.trans s3)⟩
                · show if inV (.str x) kindV = true then _ else _
                  rw [if_neg ck]
                  refine ⟨_, rfl, rfl, _, rfl, ?_⟩
                  show if decide (V.str x = V.str "note") = true then _ else _
                  rw [strV]
                  by_cases cn : x = "note"
                  · rw [mEvent_n ck cn] at key2
                    rw [decide_eq_true cn]
                    exact iteT ⟨_, rfl, vb, b, rfl, hb2, sb, fun H3 s3 => key2 H3 (s2.trans s3)⟩
                  · rw [mEvent_h ck cn] at key2
                    rw [decide_eq_false cn]
                    refine iteF ⟨_, rfl, rfl, _, rfl, ?_⟩
                    show if decide (V.str x = V.str "hold") = true then _ else _
                    rw [strV]
                    by_cases ch : x = "hold"
                    · rw [decide_eq_true ch] at key2 ⊢
                      rw [Bool.true_and] at key2
                      exact iteT ⟨_, rfl, vb, b, rfl, hb2, sb, fun H3 s3 => key2 H3 (s2.trans s3)⟩
                    · rw [decide_eq_false ch] at key2 ⊢
                      rw [Bool.false_and] at key2
                      exact iteF (key2 H2 s2)
            | _ => exact iteT key
    · have e : mPair (.tuple ds) = false := decide_eq_false c2
      rw [e]
      rw [mEvent_no2 c2] at key
      exact iteT key
  | _ => exact iteT key
theorem ok_is_event (T : Txt K mg) : CalG P w K mg base 5 "is_event" (spB K mEvent) := (okS_is_event T).g
theorem okK_is_event (T : Txt K mg) : CalGK P w K mg base 5 "is_event" "thing" (spB K mEvent) := (okS_is_event T).kw (fun _ _ _ _ _ _ _ => rfl) (fun _ _ _ _ _ _ _ => rfl)
end
end Z

set_option maxRecDepth 100000
set_option maxHeartbeats 4000000
namespace Z
open PySem L2 G
section
variable {P : Program} {w : World} {K : PySem.W.Frag} {mg : Str → Option Value} {base : Heap}

/-! ### the feed -/
def feedKV (c : Addr) (p l d : Int) : List (Key × V) := [(.inr "cells", .ref c), (.inr "place", .int p), (.inr "left", .int l), (.inr "drawn", .int d)]
structure Feed (K : PySem.W.Frag) (H : Hp) (f : Addr) (C : Addr × List Int) : Prop where
  ex : ∃ (p l d : Int), H f = some (.dK (feedKV C.1 p l d)) ∧ SqL K H C.1 (C.2.map V.int) ∧ C.2.length ≤ 63
/-- all but the feed stays -/
def Kp (f : Addr) (H H' : Hp) : Prop := ∀ b o, H b = some o → b ≠ f → H' b = some o
theorem Kp.refl (f : Addr) (H : Hp) : Kp f H H := fun _ _ h _ => h
theorem Kp.trans {f : Addr} {H H1 H2 : Hp} (a : Kp f H H1) (b : Kp f H1 H2) : Kp f H H2 := fun c o h n => b c o (a c o h n) n
theorem Kp.same {f : Addr} {H H' : Hp} (s : Same H H') : Kp f H H' := fun b o h _ => s b o h
theorem Kp.held {f : Addr} {H H' : Hp} (k : Kp f H H') {kvs : List (Key × V)} (hf : H f = some (.dK kvs)) : Held H H' :=
  ⟨fun b xs h => k b _ h (ne_of h hf (by intro z; cases z)), fun b xs h => k b _ h (ne_of h hf (by intro z; cases z)),
   fun b o xs h => k b _ h (ne_of h hf (by intro z; cases z)), fun b o xs h => k b _ h (ne_of h hf (by intro z; cases z))⟩
theorem Feed.held {f : Addr} {C : Addr × List Int} {H H' : Hp} (F : Feed K H f C) (k : Kp f H H') : Held H H' := by
  obtain ⟨p, l, d, hf, _⟩ := F.ex
  exact k.held hf
theorem Feed.same {f : Addr} {C : Addr × List Int} {H H' : Hp} (F : Feed K H f C) (s : Same H H') : Feed K H' f C := by
  obtain ⟨p, l, d, hf, hs, hn⟩ := F.ex
  exact ⟨p, l, d, s _ _ hf, s.seq hs, hn⟩
theorem Held.put {H H0 H1 : Hp} {D : Addr} {o : HO} (w : Held H H1) (w0 : Held H H0) (hD : H0 D = none) : Held H (upd H1 D o) :=
  ⟨fun b xs h => by rw [upd_ne (ne_of_none (w0.lst b xs h) hD)]; exact w.lst b xs h, fun b xs h => by rw [upd_ne (ne_of_none (w0.tup b xs h) hD)]; exact w.tup b xs h,
   fun b u xs h => by rw [upd_ne (ne_of_none (w0.fl b u xs h) hD)]; exact w.fl b u xs h, fun b u xs h => by rw [upd_ne (ne_of_none (w0.ft b u xs h) hD)]; exact w.ft b u xs h⟩
/-- a new list may be filled: the feed does not lean on it -/
def Apart (K : PySem.W.Frag) (C : Addr × List Int) (f D : Addr) : Prop := D ≠ f ∧ (C.1 ≠ D ∨ ∀ H, SqL K H C.1 (C.2.map V.int))
theorem Feed.apart {f D : Addr} {C : Addr × List Int} {H : Hp} (F : Feed K H f C) (hD : H D = none) : Apart K C f D := by
  obtain ⟨p, l, d, hf, hs, hn⟩ := F.ex
  refine ⟨fun z => ?_, ?_⟩
  · subst z
    rw [hf] at hD
    cases hD
  rcases hs with (h | ⟨o, h⟩) | h
  · exact .inl (ne_of_none h hD)
  · exact .inl (ne_of_none h hD)
  · exact .inr fun _ => .inr h
theorem Feed.put {f D : Addr} {C : Addr × List Int} {H : Hp} (F : Feed K H f C) (a : Apart K C f D) (o : HO) : Feed K (upd H D o) f C := by
  obtain ⟨p, l, d, hf, hs, hn⟩ := F.ex
  refine ⟨p, l, d, by rw [upd_ne a.1.symm]; exact hf, ?_, hn⟩
  rcases a.2 with z | z
  · rcases hs with (h | ⟨o, h⟩) | h
    · exact .inl (.inl (by rw [upd_ne z]; exact h))
    · exact .inl (.inr ⟨o, by rw [upd_ne z]; exact h⟩)
    · exact .inr h
  · exact z _
theorem valV_cells (c : Addr) (p l d : Int) : valV (feedKV c p l d) (.inr "cells") = some (.ref c) := rfl
theorem valV_place (c : Addr) (p l d : Int) : valV (feedKV c p l d) (.inr "place") = some (.int p) := rfl
theorem valV_left (c : Addr) (p l d : Int) : valV (feedKV c p l d) (.inr "left") = some (.int l) := rfl
theorem valV_drawn (c : Addr) (p l d : Int) : valV (feedKV c p l d) (.inr "drawn") = some (.int d) := rfl
theorem lt4 (c : Addr) (p l d : Int) : (feedKV c p l d).length < sizeLine := by rw [sizeLine_eq]; show 4 < 16777216; decide
theorem dput_place {H : Hp} {f c : Addr} {p l d : Int} (x : Int) (h : H f = some (.dK (feedKV c p l d))) : DPut H f (.str "place") (.int x) (upd H f (.dK (feedKV c x l d))) := DPut.k (k := Sum.inr "place") h (lt4 ..)
theorem dput_left {H : Hp} {f c : Addr} {p l d : Int} (x : Int) (h : H f = some (.dK (feedKV c p l d))) : DPut H f (.str "left") (.int x) (upd H f (.dK (feedKV c p x d))) := DPut.k (k := Sum.inr "left") h (lt4 ..)
theorem dput_drawn {H : Hp} {f c : Addr} {p l d : Int} (x : Int) (h : H f = some (.dK (feedKV c p l d))) : DPut H f (.str "drawn") (.int x) (upd H f (.dK (feedKV c p l x))) := DPut.k (k := Sum.inr "drawn") h (lt4 ..)
theorem dget_cells {H : Hp} {f c : Addr} {p l d : Int} (h : H f = some (.dK (feedKV c p l d))) : DGet H f (.str "cells") (some (.ref c)) := DGet.k (k := Sum.inr "cells") h
theorem dget_place {H : Hp} {f c : Addr} {p l d : Int} (h : H f = some (.dK (feedKV c p l d))) : DGet H f (.str "place") (some (.int p)) := DGet.k (k := Sum.inr "place") h
theorem dget_left {H : Hp} {f c : Addr} {p l d : Int} (h : H f = some (.dK (feedKV c p l d))) : DGet H f (.str "left") (some (.int l)) := DGet.k (k := Sum.inr "left") h
theorem dget_drawn {H : Hp} {f c : Addr} {p l d : Int} (h : H f = some (.dK (feedKV c p l d))) : DGet H f (.str "drawn") (some (.int d)) := DGet.k (k := Sum.inr "drawn") h
theorem putK_place (c : Addr) (p l d x : Int) : putK (feedKV c p l d) (.inr "place") (.int x) = feedKV c x l d := rfl
theorem putK_left (c : Addr) (p l d x : Int) : putK (feedKV c p l d) (.inr "left") (.int x) = feedKV c p x d := rfl
theorem putK_drawn (c : Addr) (p l d x : Int) : putK (feedKV c p l d) (.inr "drawn") (.int x) = feedKV c p l x := rfl
def spFeed (K : PySem.W.Frag) : Sp := fun vs H Q _ => ∃ (a : Addr) (ns : List Int), vs = [.ref a] ∧ SqL K H a (ns.map V.int) ∧ ns.length ≤ 63 ∧ ∀ f C H', Same H H' → H f = none → Feed K H' f C → Q (.ref f) H'
theorem spFeed_len : ∀ vs H Q E, spFeed K vs H Q E → vs.length = 1 := by
  rintro vs H Q E ⟨a, ns, rfl, _⟩
  rfl
def spDraw (K : PySem.W.Frag) : Sp := fun vs H Q _ => ∃ f n, vs = [.ref f, .int n] ∧ ∃ C, Feed K H f C ∧ 0 < n ∧ n < 1073741824 ∧ ∀ r H', 0 ≤ r → r < n → Feed K H' f C → Kp f H H' → Q (.int r) H'
theorem spDraw_len : ∀ vs H Q E, spDraw K vs H Q E → vs.length = 2 := by
  rintro vs H Q E ⟨f, n, rfl, _⟩
  rfl
theorem cmod {x j m : Int} (h0 : 0 < m) (h1 : m ≤ 2147483648) : CMul (x % m) j := by
  have a := Int.emod_nonneg x (show m ≠ 0 by omega)
  have b := Int.emod_lt_of_pos x h0
  exact .inl ⟨by omega, by omega⟩
theorem dp_ints {H : Hp} {a : Addr} {ns : List Int} (h : SqL K H a (ns.map V.int)) : Dp K H (.ref a) (.list (ns.map .int)) := by
  refine .lst h ?_
  induction ns with
  | nil => exact .nil
  | cons n ns ih =>
    have q : DpAll K H (ns.map V.int) (ns.map .int) := by
      clear ih h
      induction ns with
      | nil => exact .nil
      | cons m ms ih => exact .cons (.int m) ih
    exact .cons (.int n) q
theorem ints_sz (ns : List Int) : SeqAt.shaped (.list (ns.map .int)) = true := by
  have a : PyData.canLayAll0 (ns.map .int) = true := by
    induction ns with
    | nil => simp [PyData.canLayAll0]
    | cons n ns ih => simp [PyData.canLayAll0, PyData.canLay0, ih]
  have b : PyData.depthAll (ns.map .int) = 0 := by
    induction ns with
    | nil => simp [PyData.depthAll]
    | cons n ns ih => simp [PyData.depthAll, PyData.depth, ih (by simpa [PyData.canLayAll0, PyData.canLay0] using a)]
  show (PyData.canLay0 (.list (ns.map .int)) && decide (PyData.depth (.list (ns.map .int)) ≤ 64)) = true
  simp [PyData.canLay0, PyData.depth, a, b]
theorem nil_sz : SeqAt.shaped (.list []) = true := by decide +kernel
theorem eqv_nil (ds : List PyData) : PyData.eqv (.list ds) (.list []) = ds.isEmpty := by cases ds <;> simp [PyData.eqv, PyData.eqvAll]
theorem atI_in {α : Type} {xs : List α} {i : Int} (h0 : 0 ≤ i) (h1 : i < xs.length) : ∃ v, atI xs i = some v ∧ v ∈ xs := by
  have hj : i.toNat < xs.length := by omega
  have e := atI_nat (List.getElem?_eq_getElem hj)
  rw [show ((i.toNat : Nat) : Int) = i by omega] at e
  exact ⟨_, e, List.getElem_mem hj⟩
/-- where a draw stands -/
structure St (K : PySem.W.Frag) (f : Addr) (H H1 : Hp) (c : Addr) (ns : List Int) (p l d : Int) : Prop where
  kp : Kp f H H1
  at_ : H1 f = some (.dK (feedKV c p l d))
  sq : SqL K H1 c (ns.map V.int)
theorem St.put {f c : Addr} {H H1 : Hp} {ns : List Int} {p l d : Int} (s : St K f H H1 c ns p l d) (p' l' d' : Int) : St K f H (upd H1 f (.dK (feedKV c p' l' d'))) c ns p' l' d' := by
  have kk : Kp f H1 (upd H1 f (.dK (feedKV c p' l' d'))) := fun b o h n => by rw [upd_ne n]; exact h
  exact ⟨s.kp.trans kk, upd_same, (kk.held s.at_).sql s.sq⟩
theorem St.same {f c : Addr} {H H1 H2 : Hp} {ns : List Int} {p l d : Int} (s : St K f H H1 c ns p l d) (e : Same H1 H2) : St K f H H2 c ns p l d := ⟨s.kp.trans (.same e), e _ _ s.at_, e.seq s.sq⟩
theorem St.feed {f c : Addr} {H H1 : Hp} {ns : List Int} {p l d : Int} (s : St K f H H1 c ns p l d) (hn : ns.length ≤ 63) : Feed K H1 f (c, ns) := ⟨p, l, d, s.at_, s.sq, hn⟩
theorem cut_ints (ns : List Int) (lo hi : Option Int) : ∃ ms : List Int, cutV (ns.map V.int) lo hi = ms.map V.int ∧ ms.length ≤ ns.length := by
  refine ⟨(ns.drop (HT.sIx (ns.map V.int).length 0 lo)).take (HT.sIx (ns.map V.int).length (ns.map V.int).length hi - HT.sIx (ns.map V.int).length 0 lo), ?_, ?_⟩
  · unfold cutV
    rw [List.map_take, List.map_drop]
  · rw [List.length_take, List.length_drop]
    omega
abbrev nm__law_feed : List Str := ["_law_script"]
theorem sc__law_feed : FnScope nm__law_feed ["_law_script"] (defScope s__law_feed) := ⟨rfl, rfl, rfl, by decide +kernel, rfl, by decide +kernel, by decide +kernel⟩
theorem ok__law_feed (T : Txt K mg) : CalG P w K mg base 1 "_law_feed" (spFeed K) := by
  refine cal_of T.i__law_feed sc__law_feed spFeed_len (fun _ _ _ _ _ _ us hl => match us, hl with | [_], _ => rfl) (fun f cdv A outer s H vs Q E gd hr h => ?_)
  have hu := hu_of hr
  have hu64 : (A.deeper (PyProof.Rows.envOfC "_law_feed" (defScope s__law_feed) s.heap.objs.size f cdv)).units + 64 < cLine := by have := hr.un; omega
  have hu80 : (A.deeper (PyProof.Rows.envOfC "_law_feed" (defScope s__law_feed) s.heap.objs.size f cdv)).units + 80 < cLine := by have := hr.un; omega
  obtain ⟨a, ns, rfl, hS, hl, k⟩ := h
  refine ⟨_, (pss_one (ps_ret (pe_disp (pps_cons pe_str (pe_callTy call_list_of (by rfl) T.b_list (by decide +kernel) (pa_cons (pe_slice sl_list (pv 0) po_none (po_some pe_int)) pa_nil)) (pps_cons pe_str pe_int (pps_cons pe_str pe_int (pps_cons pe_str pe_int pps_nil)))) rfl rfl (by simp) (by decide)))), ?_⟩
  intro p hp
  have s0 : Same H (upd H p (.dK [])) := Same.upd hp
  refine ⟨_, rfl, 63, rfl, a, ns.map V.int, rfl, s0.seq hS, fun p1 n1 => ?_⟩
  obtain ⟨ms, em, lm⟩ := cut_ints ns none (some 63)
  have s1 := Same.upd (o := .lst (cutV (ns.map V.int) none (some 63))) n1
  refine ⟨p1, cutV (ns.map V.int) none (some 63), rfl, .inl (.inl (.inl upd_same)), fun p2 n2 => ?_⟩
  have s2 := Same.upd (o := .lst (cutV (ns.map V.int) none (some 63))) n2
  have hp2 := s2 p _ (s1 p _ upd_same)
  refine ⟨hp2, feedKV p2 0 0 0, rfl, (by show 4 ≤ 15; decide), ?_⟩
  have ne2 : p2 ≠ p := fun z => by
    subst z
    rw [s1 _ _ upd_same] at n2
    cases n2
  refine k p (p2, ms) _ (fun b o e => ?_) hp ⟨0, 0, 0, upd_same, .inl (.inl ?_), Nat.le_trans lm hl⟩
  · rw [upd_ne (ne_of_none e hp)]
    exact s2 _ _ (s1 _ _ (s0 _ _ e))
  · rw [upd_ne ne2, upd_same, em]
abbrev nm__law_draw : List Str := ["_law_feed_here", "_law_size", "_law_digit", "_law_cells", "_law_place", "_law_cell", "_law_mixed"]
theorem sc__law_draw : FnScope nm__law_draw ["_law_feed_here", "_law_size"] (defScope s__law_draw) := ⟨rfl, rfl, rfl, by decide +kernel, rfl, by decide +kernel, by decide +kernel⟩
theorem ok__law_draw (T : Txt K mg) : CalG P w K mg base 1 "_law_draw" (spDraw K) := by
  refine cal_of T.i__law_draw sc__law_draw spDraw_len (fun _ _ _ _ _ _ us hl => match us, hl with | [_, _], _ => rfl) (fun f cdv A outer s H vs Q E gd hr h => ?_)
  have hu := hu_of hr
  have hu64 : (A.deeper (PyProof.Rows.envOfC "_law_draw" (defScope s__law_draw) s.heap.objs.size f cdv)).units + 64 < cLine := by have := hr.un; omega
  have hu80 : (A.deeper (PyProof.Rows.envOfC "_law_draw" (defScope s__law_draw) s.heap.objs.size f cdv)).units + 80 < cLine := by have := hr.un; omega
  obtain ⟨fa, n, rfl, ⟨c, ns⟩, F, n0, n1, k⟩ := h
  obtain ⟨pl, lf, dr, hf, hs, hn⟩ := id F.ex
  refine ⟨_, (pss_cons (ps_dput hu (pv 0) pe_str (pe_op op_add (pe_dget hu (pv 0) pe_str (fun _ _ => rfl)) pe_int) rfl)
    (pss_cons (ps_if (pt_cmpR op_gt (pe_dget hu (pv 0) pe_str (fun _ _ => rfl)) pe_int (nomark _)) (pss_cons (ps_set (i := 2) sc__law_draw.nd rfl (by first | exact Or.inl rfl | exact Or.inr rfl) (pe_op op_mod (pe_callTy call_int1 (by rfl) T.b_int (by decide +kernel) (pa_cons (pe_dget hu (pv 0) pe_str (fun _ _ => rfl)) pa_nil)) (pv 1)))
    (pss_cons (ps_dput hu (pv 0) pe_str (pe_op op_fdiv (pe_dget hu (pv 0) pe_str (fun _ _ => rfl)) (pv 1)) rfl)
    (pss_one (ps_ret (pv 2))))) pss_nil)
    (pss_cons (ps_par (i := 3) (j := 4) rfl sc__law_draw.nd rfl rfl (by decide) rfl rfl (pa_cons (pe_dget hu (pv 0) pe_str (fun _ _ => rfl)) (pa_cons (pe_dget hu (pv 0) pe_str (fun _ _ => rfl)) pa_nil)) rfl)
    (pss_cons (ps_dput hu (pv 0) pe_str (pe_op op_add (pv 4) pe_int) rfl)
    (pss_cons (ps_set (i := 5) sc__law_draw.nd rfl (by first | exact Or.inl rfl | exact Or.inr rfl) (pe_ifExp (pt_cmpR (op_neD hu64) (pv 3) (pe_lst pa_nil) (nomark _)) (pe_ix ix_list (pv 3) (pe_op op_mod (pe_callTy call_int1 (by rfl) T.b_int (by decide +kernel) (pa_cons (pv 4) pa_nil)) (pe_callB call_len (by rfl) T.b_len (by decide +kernel) (pa_cons (pv 3) pa_nil))) (fun _ _ => rfl)) pe_int))
    (pss_cons (ps_if (pw_and (pt_cmpR op_ge (pv 5) (pe_lit _ _ rfl) (nomark _)) (pw_and1 (pt_cmpR op_lt (pv 4) (pe_callB call_len (by rfl) T.b_len (by decide +kernel) (pa_cons (pv 3) pa_nil)) (nomark _)))).pt (pss_cons (ps_dput hu (pv 0) pe_str (pe_op op_fdiv (pv 5) (pv 1)) rfl)
    (pss_one (ps_ret (pe_op op_mod (pe_callTy call_int1 (by rfl) T.b_int (by decide +kernel) (pa_cons (pv 5) pa_nil)) (pv 1))))) pss_nil)
    (pss_cons (ps_set (i := 6) sc__law_draw.nd rfl (by first | exact Or.inl rfl | exact Or.inr rfl) (pe_op op_mod (pe_callTy call_int1 (by rfl) T.b_int (by decide +kernel) (pa_cons (pe_op op_add (pe_op op_add (pe_op op_mod (pe_callTy call_int1 (by rfl) T.b_int (by decide +kernel) (pa_cons (pv 5) pa_nil)) pe_int) (pe_op op_mul pe_int (pe_dget hu (pv 0) pe_str (fun _ _ => rfl)))) pe_int) pa_nil)) pe_int))
    (pss_cons (ps_set (i := 6) sc__law_draw.nd rfl (by first | exact Or.inl rfl | exact Or.inr rfl) (pe_op op_mod (pe_callTy call_int1 (by rfl) T.b_int (by decide +kernel) (pa_cons (pe_op op_add (pe_op op_add (pe_op op_mul (pv 6) (pv 6)) (pe_op op_mul pe_int (pe_dget hu (pv 0) pe_str (fun _ _ => rfl)))) pe_int) pa_nil)) pe_int))
    (pss_one (ps_ret (pe_op op_mod (pe_callTy call_int1 (by rfl) T.b_int (by decide +kernel) (pa_cons (pe_op op_fdiv (pe_op op_mod (pe_callTy call_int1 (by rfl) T.b_int (by decide +kernel) (pa_cons (pe_op op_add (pe_op op_mul (pv 6) (pv 6)) (pe_op op_mul pe_int (pv 6))) pa_nil)) pe_int) pe_int) pa_nil)) (pv 1)))))))))))), ?_⟩
  have S0 : St K fa H H c ns pl lf dr := ⟨Kp.refl _ _, hf, hs⟩
  -- the count of draws
  refine ⟨_, rfl, fa, _, rfl, dget_drawn S0.at_, _, _, rfl, rfl, _, rfl, fa, _, rfl, dput_drawn _ S0.at_, ?_⟩
  have S1 := S0.put pl lf (dr + 1)
  generalize upd H fa (.dK (feedKV c pl lf (dr + 1))) = H1 at S1 ⊢
  refine ⟨_, rfl, fa, _, rfl, dget_left S1.at_, _, _, rfl, rfl, _, rfl, ?_⟩
  refine ite2 (fun _ => ?_) (fun _ => ?_)
  · refine ⟨_, rfl, fa, _, rfl, dget_left S1.at_, .inl ⟨lf, rfl, _, rfl, _, _, rfl, rfl, n0, ?_⟩⟩
    refine ⟨_, rfl, fa, _, rfl, dget_left S1.at_, _, rfl, _, _, rfl, rfl, ⟨n0, n1⟩, _, rfl, fa, _, rfl, dput_left _ S1.at_, ?_⟩
    have S2 := S1.put pl (lf / n) (dr + 1)
    exact ⟨_, rfl, k _ _ (Int.emod_nonneg _ (by omega)) (Int.emod_lt_of_pos _ n0) (S2.feed hn) S2.kp⟩
  · refine ⟨_, rfl, fa, _, rfl, dget_cells S1.at_, _, rfl, fa, _, rfl, dget_place S1.at_, _, _, rfl, ?_⟩
    refine ⟨_, rfl, _, _, rfl, rfl, _, rfl, fa, _, rfl, dput_place _ S1.at_, ?_⟩
    have S2 := S1.put (pl + 1) lf (dr + 1)
    generalize upd H1 fa (.dK (feedKV c (pl + 1) lf (dr + 1))) = H2 at S2 ⊢
    refine ⟨_, rfl, thousand (by decide), fun q nq => ?_⟩
    have S3 := S2.same (Same.upd (o := .lst []) nq)
    have dq : Dp K (upd H2 q (.lst [])) (.ref q) (.list []) := .lst (.inl (.inl upd_same)) .nil
    generalize upd H2 q (.lst []) = H3 at S3 dq ⊢
    refine ⟨_, _, dp_ints S3.sq, dq, ints_sz ns, nil_sz, _, rfl, ?_⟩
    rw [eqv_nil]
    refine ite2 (fun cne => ?_) (fun _ => ?_)
    · have hlen : 0 < ns.length := by
        cases ns with
        | nil => simp at cne
        | cons => simp
      have lb := Int.emod_nonneg pl (show (ns.length : Int) ≠ 0 by omega)
      have ub := Int.emod_lt_of_pos pl (show (0 : Int) < (ns.length : Int) by omega)
      obtain ⟨cv, hcell, hmem⟩ := atI_in (xs := ns.map V.int) (i := pl % (ns.length : Int)) lb (by rw [List.length_map]; exact ub)
      obtain ⟨cell, _, rfl⟩ := List.mem_map.mp hmem
      refine ⟨_, rfl, _, rfl, .inl ⟨pl, rfl, _, rfl, .ref c, ns.length, rfl, .inl ⟨_, S3.sq, by rw [List.length_map]⟩, _, _, rfl, rfl, (by show (0 : Int) < (ns.length : Int); omega), c, ns.map V.int, _, .int cell, rfl, rfl, S3.sq, hcell, ?_⟩⟩
      refine ⟨_, rfl, ?_⟩
      intro vb H4 s4 hb
      cases hb
      have S4 := S3.same s4
      refine ⟨_, _, rfl, rfl, _, rfl, ?_⟩
      refine ite2 (fun _ => ?_) (fun _ => ?_)
      · refine ⟨_, rfl, _, rfl, .ref c, ns.length, rfl, .inl ⟨_, S4.sq, by rw [List.length_map]⟩, _, _, rfl, rfl, _, rfl, ?_⟩
        refine ite2 (fun _ => ?_) (fun _ => ?_)
        · refine ⟨_, rfl, _, rfl, _, _, rfl, rfl, ⟨n0, n1⟩, _, rfl, fa, _, rfl, dput_left _ S4.at_, ?_⟩
          have S5 := S4.put (pl + 1) (cell / n) (dr + 1)
          exact ⟨_, rfl, .inl ⟨cell, rfl, _, rfl, _, _, rfl, rfl, n0, k _ _ (Int.emod_nonneg _ (by omega)) (Int.emod_lt_of_pos _ n0) (S5.feed hn) S5.kp⟩⟩
        · skip
          refine ⟨_, rfl, .inl ⟨cell, rfl, _, _, rfl, rfl, (by show (0 : Int) < 1000109233; decide), _, rfl, fa, _, rfl, dget_drawn S4.at_, _, _, rfl, rfl, .inl ⟨by decide, by decide⟩, _, _, rfl, rfl, _, _, rfl, rfl, .inl ⟨_, rfl, _, _, rfl, rfl, (by show (0 : Int) < 2147483629; decide), ?_⟩⟩⟩
          refine ⟨_, rfl, _, rfl, _, _, rfl, rfl, cmod (by decide) (by decide), _, rfl, fa, _, rfl, dget_drawn S4.at_, _, _, rfl, rfl, .inl ⟨by decide, by decide⟩, _, _, rfl, rfl, _, _, rfl, rfl, .inl ⟨_, rfl, _, _, rfl, rfl, (by show (0 : Int) < 2147483179; decide), ?_⟩⟩
          refine ⟨_, rfl, _, rfl, _, _, rfl, rfl, cmod (by decide) (by decide), _, rfl, _, _, rfl, rfl, .inl ⟨by decide, by decide⟩, _, _, rfl, rfl, .inl ⟨_, rfl, _, _, rfl, rfl, (by show (0 : Int) < 2147483647; decide), _, _, rfl, rfl, ⟨by decide, by decide⟩, .inl ⟨_, rfl, _, rfl, _, _, rfl, rfl, n0, ?_⟩⟩⟩
          exact k _ _ (Int.emod_nonneg _ (by omega)) (Int.emod_lt_of_pos _ n0) (S4.feed hn) S4.kp
      · skip
        refine ⟨_, rfl, .inl ⟨cell, rfl, _, _, rfl, rfl, (by show (0 : Int) < 1000109233; decide), _, rfl, fa, _, rfl, dget_drawn S4.at_, _, _, rfl, rfl, .inl ⟨by decide, by decide⟩, _, _, rfl, rfl, _, _, rfl, rfl, .inl ⟨_, rfl, _, _, rfl, rfl, (by show (0 : Int) < 2147483629; decide), ?_⟩⟩⟩
        refine ⟨_, rfl, _, rfl, _, _, rfl, rfl, cmod (by decide) (by decide), _, rfl, fa, _, rfl, dget_drawn S4.at_, _, _, rfl, rfl, .inl ⟨by decide, by decide⟩, _, _, rfl, rfl, _, _, rfl, rfl, .inl ⟨_, rfl, _, _, rfl, rfl, (by show (0 : Int) < 2147483179; decide), ?_⟩⟩
        refine ⟨_, rfl, _, rfl, _, _, rfl, rfl, cmod (by decide) (by decide), _, rfl, _, _, rfl, rfl, .inl ⟨by decide, by decide⟩, _, _, rfl, rfl, .inl ⟨_, rfl, _, _, rfl, rfl, (by show (0 : Int) < 2147483647; decide), _, _, rfl, rfl, ⟨by decide, by decide⟩, .inl ⟨_, rfl, _, rfl, _, _, rfl, rfl, n0, ?_⟩⟩⟩
        exact k _ _ (Int.emod_nonneg _ (by omega)) (Int.emod_lt_of_pos _ n0) (S4.feed hn) S4.kp
    · generalize (14228 : Int) = cell
      refine ⟨_, rfl, ?_⟩
      intro vb H4 s4 hb
      cases hb
      have S4 := S3.same s4
      refine ⟨_, _, rfl, rfl, _, rfl, ?_⟩
      refine ite2 (fun _ => ?_) (fun _ => ?_)
      · refine ⟨_, rfl, _, rfl, .ref c, ns.length, rfl, .inl ⟨_, S4.sq, by rw [List.length_map]⟩, _, _, rfl, rfl, _, rfl, ?_⟩
        refine ite2 (fun _ => ?_) (fun _ => ?_)
        · refine ⟨_, rfl, _, rfl, _, _, rfl, rfl, ⟨n0, n1⟩, _, rfl, fa, _, rfl, dput_left _ S4.at_, ?_⟩
          have S5 := S4.put (pl + 1) (cell / n) (dr + 1)
          exact ⟨_, rfl, .inl ⟨cell, rfl, _, rfl, _, _, rfl, rfl, n0, k _ _ (Int.emod_nonneg _ (by omega)) (Int.emod_lt_of_pos _ n0) (S5.feed hn) S5.kp⟩⟩
        · skip
          refine ⟨_, rfl, .inl ⟨cell, rfl, _, _, rfl, rfl, (by show (0 : Int) < 1000109233; decide), _, rfl, fa, _, rfl, dget_drawn S4.at_, _, _, rfl, rfl, .inl ⟨by decide, by decide⟩, _, _, rfl, rfl, _, _, rfl, rfl, .inl ⟨_, rfl, _, _, rfl, rfl, (by show (0 : Int) < 2147483629; decide), ?_⟩⟩⟩
          refine ⟨_, rfl, _, rfl, _, _, rfl, rfl, cmod (by decide) (by decide), _, rfl, fa, _, rfl, dget_drawn S4.at_, _, _, rfl, rfl, .inl ⟨by decide, by decide⟩, _, _, rfl, rfl, _, _, rfl, rfl, .inl ⟨_, rfl, _, _, rfl, rfl, (by show (0 : Int) < 2147483179; decide), ?_⟩⟩
          refine ⟨_, rfl, _, rfl, _, _, rfl, rfl, cmod (by decide) (by decide), _, rfl, _, _, rfl, rfl, .inl ⟨by decide, by decide⟩, _, _, rfl, rfl, .inl ⟨_, rfl, _, _, rfl, rfl, (by show (0 : Int) < 2147483647; decide), _, _, rfl, rfl, ⟨by decide, by decide⟩, .inl ⟨_, rfl, _, rfl, _, _, rfl, rfl, n0, ?_⟩⟩⟩
          exact k _ _ (Int.emod_nonneg _ (by omega)) (Int.emod_lt_of_pos _ n0) (S4.feed hn) S4.kp
      · skip
        refine ⟨_, rfl, .inl ⟨cell, rfl, _, _, rfl, rfl, (by show (0 : Int) < 1000109233; decide), _, rfl, fa, _, rfl, dget_drawn S4.at_, _, _, rfl, rfl, .inl ⟨by decide, by decide⟩, _, _, rfl, rfl, _, _, rfl, rfl, .inl ⟨_, rfl, _, _, rfl, rfl, (by show (0 : Int) < 2147483629; decide), ?_⟩⟩⟩
        refine ⟨_, rfl, _, rfl, _, _, rfl, rfl, cmod (by decide) (by decide), _, rfl, fa, _, rfl, dget_drawn S4.at_, _, _, rfl, rfl, .inl ⟨by decide, by decide⟩, _, _, rfl, rfl, _, _, rfl, rfl, .inl ⟨_, rfl, _, _, rfl, rfl, (by show (0 : Int) < 2147483179; decide), ?_⟩⟩
        refine ⟨_, rfl, _, rfl, _, _, rfl, rfl, cmod (by decide) (by decide), _, rfl, _, _, rfl, rfl, .inl ⟨by decide, by decide⟩, _, _, rfl, rfl, .inl ⟨_, rfl, _, _, rfl, rfl, (by show (0 : Int) < 2147483647; decide), _, _, rfl, rfl, ⟨by decide, by decide⟩, .inl ⟨_, rfl, _, rfl, _, _, rfl, rfl, n0, ?_⟩⟩⟩
        exact k _ _ (Int.emod_nonneg _ (by omega)) (Int.emod_lt_of_pos _ n0) (S4.feed hn) S4.kp
end
end Z

set_option maxRecDepth 100000
set_option maxHeartbeats 4000000
namespace Z
open PySem L2 G
section
variable {P : Program} {w : World} {K : PySem.W.Frag} {mg : Str → Option Value} {base : Heap}

def spAny (K : PySem.W.Frag) : Sp := fun vs H Q _ => ∃ (f a : Addr) (ds : List PyData), vs = [.ref f, .ref a] ∧ ∃ C, Feed K H f C ∧ Dp K H (.ref a) (.list ds) ∧ ds ≠ [] ∧ ds.length ≤ 1000 ∧
  ∀ v d H', d ∈ ds → Dp K H' v d → Feed K H' f C → Kp f H H' → Q v H'
theorem spAny_len : ∀ vs H Q E, spAny K vs H Q E → vs.length = 2 := by
  rintro vs H Q E ⟨f, a, ds, rfl, _⟩
  rfl
abbrev nm__law_any : List Str := ["_law_feed_here", "_law_some"]
theorem sc__law_any : FnScope nm__law_any ["_law_feed_here", "_law_some"] (defScope s__law_any) := ⟨rfl, rfl, rfl, by decide +kernel, rfl, by decide +kernel, by decide +kernel⟩
theorem ok__law_any (T : Txt K mg) : CalG P w K mg base 2 "_law_any" (spAny K) := by
  refine cal_of T.i__law_any sc__law_any spAny_len (fun _ _ _ _ _ _ us hl => match us, hl with | [_, _], _ => rfl) (fun f cdv A outer s H vs Q E gd hr h => ?_)
  have hu := hu_of hr
  have hu64 : (A.deeper (PyProof.Rows.envOfC "_law_any" (defScope s__law_any) s.heap.objs.size f cdv)).units + 64 < cLine := by have := hr.un; omega
  have hu80 : (A.deeper (PyProof.Rows.envOfC "_law_any" (defScope s__law_any) s.heap.objs.size f cdv)).units + 80 < cLine := by have := hr.un; omega
  obtain ⟨fa, a, ds, rfl, C, F, hd, ne, hl, k⟩ := h
  refine ⟨_, (pss_one (ps_ret (pe_ix ix_list (pv 1) (pe_g (ok__law_draw T) gd hr (by decide) (by rfl) (pa_cons (pv 0) (pa_cons (pe_callB call_len (by rfl) T.b_len (by decide +kernel) (pa_cons (pv 1) pa_nil)) pa_nil))) (fun _ _ => rfl)))), ?_⟩
  cases hd with
  | lst q al =>
    rename_i xs
    have hlen := al.length
    have pos : 0 < ds.length := by
      cases ds with
      | nil => exact absurd rfl ne
      | cons => simp
    refine ⟨_, rfl, _, rfl, _, rfl, .ref a, ds.length, rfl, .inl ⟨xs, q, hlen.symm⟩, fa, ds.length, rfl, C, F, by omega, by omega, fun r H1 r0 r1 F1 k1 => ?_⟩
    have hd1 := F.held k1
    obtain ⟨v, hv, _⟩ := atI_in (xs := xs) (i := r) r0 (by omega)
    have q1 := hd1.sql q
    have al1 := hd1.dpAll _ _ al
    obtain ⟨j, hj⟩ : ∃ j : Nat, xs[j]? = some v := by
      obtain ⟨j, hj, e⟩ := List.mem_iff_getElem.mp (by assumption)
      exact ⟨j, by rw [List.getElem?_eq_getElem hj, e]⟩
    obtain ⟨d, hd, hdp⟩ := al1.getV hj
    exact ⟨a, xs, r, v, rfl, rfl, q1, hv, k v d H1 (List.mem_of_getElem? hd) hdp F1 k1⟩

theorem dp_intL {H : Hp} {a : Addr} {ns : List Int} (h : H a = some (.lst (ns.map V.int))) : Dp K H (.ref a) (.list (ns.map .int)) := dp_ints (.inl (.inl h))
/-- a divisor's place -/
def bad (i : Int) (k : Nat) : Bool := decide ((2 + (k : Int)) * (2 + (k : Int)) ≤ i) && decide (i % (2 + (k : Int)) = 0)
theorem clean_bad (i : Int) : clean i = ((List.range 98).filter (bad i)).isEmpty := by
  unfold clean
  have e : ∀ k : Nat, (!(decide (((k : Int) + 2) * ((k : Int) + 2) ≤ i) && decide (i % ((k : Int) + 2) = 0))) = !(bad i k) := by
    intro k
    unfold bad
    rw [Int.add_comm]
  simp only [e]
  generalize List.range 98 = l
  induction l with
  | nil => rfl
  | cons a l ih =>
    rw [List.all_cons, List.filter_cons, ih]
    cases bad i a <;> simp
def found (i : Int) (j : Nat) : List Int := ((List.range j).filter (bad i)).map fun (m : Nat) => 2 + (m : Int)
theorem found_yes {i : Int} {j : Nat} (h : bad i j = true) : found i (j + 1) = found i j ++ [2 + (j : Int)] := by
  unfold found
  rw [List.range_succ, List.filter_append, List.map_append, List.filter_cons, if_pos h]
  rfl
theorem found_no {i : Int} {j : Nat} (h : bad i j = false) : found i (j + 1) = found i j := by
  unfold found
  rw [List.range_succ, List.filter_append, List.map_append, List.filter_cons, if_neg (by rw [h]; exact Bool.false_ne_true)]
  simp
theorem found_len (i : Int) (j : Nat) : (found i j).length ≤ j := by
  unfold found
  rw [List.length_map]
  exact Nat.le_trans (List.length_filter_le _ _) (by rw [List.length_range]; exact Nat.le_refl _)
theorem found_clean (i : Int) : (found i 98).isEmpty = clean i := by
  rw [clean_bad]
  unfold found
  simp
abbrev nm__law_is_prime : List Str := ["_law_item", "_law_d"]
theorem sc__law_is_prime : FnScope nm__law_is_prime ["_law_item"] (defScope s__law_is_prime) := ⟨rfl, rfl, rfl, by decide +kernel, rfl, by decide +kernel, by decide +kernel⟩
theorem ok__law_is_prime (T : Txt K mg) : CalG P w K mg base 1 "_law_is_prime" (spB K mPrime) := by
  refine cal_of T.i__law_is_prime sc__law_is_prime spB_len (fun _ _ _ _ _ _ us hl => match us, hl with | [_], _ => rfl) (fun f cdv A outer s H vs Q E gd hr h => ?_)
  have hu := hu_of hr
  have hu64 : (A.deeper (PyProof.Rows.envOfC "_law_is_prime" (defScope s__law_is_prime) s.heap.objs.size f cdv)).units + 64 < cLine := by have := hr.un; omega
  have hu80 : (A.deeper (PyProof.Rows.envOfC "_law_is_prime" (defScope s__law_is_prime) s.heap.objs.size f cdv)).units + 80 < cLine := by have := hr.un; omega
  obtain ⟨v, d, rfl, hd, sz, k⟩ := h
  refine ⟨_, (pss_cons (ps_if (pw_or (pt_not (pt_val (pe_isi isi_int (pv 0) (by rfl) T.b_isinstance (by rfl) T.b_int rfl))) (pw_or (pt_val (pe_isi isi_bool (pv 0) (by rfl) T.b_isinstance (by rfl) T.b_bool rfl)) (pw_or1 (pt_not (pt_chain op_lt op_lt pe_int (pv 0) pe_int))))).pt (pss_one (ps_ret pe_bl)) pss_nil)
    (pss_one (ps_ret (pe_cmpR (op_eqD hu64) (pe_lc (own := [("_law_d", 1)]) rfl sc__law_is_prime.nd (pi_range2 rfl T.b_range (pa_cons pe_int (pa_cons pe_int pa_nil))) (blkOk_by (N := nm__law_is_prime) (sc := defScope s__law_is_prime) (by decide +kernel)) (fun _ _ _ _ _ => (pg_name (i := 1) sc__law_is_prime.nd rfl (by first | exact Or.inl rfl | exact Or.inr rfl))) (fun _ _ _ _ _ => (pts_one (pw_and (pt_cmpR op_le (pe_op op_mul (pv 1) (pv 1)) (pv 0) (nomark _)) (pw_and1 (pt_cmpR op_eq (pe_op op_mod (pe_callTy call_int1 (by rfl) T.b_int (by decide +kernel) (pa_cons (pv 0) pa_nil)) (pv 1)) pe_int (nomark _)))).pt)) (fun _ _ _ _ _ => (pv 1))) (pe_lst pa_nil) (nomark _))))), ?_⟩
  have key := k H (.refl H)
  refine ⟨_, rfl, _, d, rfl, hd, _, rfl, ?_⟩
  cases d with
  | int i =>
    cases hd
    refine iteF ⟨_, rfl, _, .int i, rfl, .int i, _, rfl, iteF ?_⟩
    refine ⟨_, rfl, _, _, rfl, rfl, _, rfl, ?_⟩
    by_cases c1 : 1 < i
    · rw [decide_eq_true c1]
      refine iteT ⟨_, _, rfl, rfl, _, rfl, ?_⟩
      by_cases c2 : i < 10000
      · rw [decide_eq_true c2]
        refine iteF ?_
        have e : mPrime (.int i) = clean i := by
          have a1 : 0 ≤ i := by omega
          have a2 : ¬ i < 2 := by omega
          simp [mPrime, c2, a1, a2]
        rw [e] at k
        refine ⟨2, 100, rfl, by decide, fun D hD => lc_range (fun j H2 => Same H H2 ∧ H2 D = some (.lst ((found i j).map V.int))) ⟨Same.upd hD, upd_same⟩ ?_ ?_⟩
        · rintro j H2 hj ⟨s2, hl⟩
          refine ⟨rfl, ?_⟩
          refine ⟨_, rfl, _, rfl, _, _, rfl, rfl, .inl ⟨by omega, by omega⟩, _, rfl, _, _, rfl, rfl, _, rfl, ?_⟩
          have go : bad i j = true → ∃ acc, H2 D = some (.lst acc) ∧ acc.length < sizeLine ∧ Same H (upd H2 D (.lst (acc ++ [.int (2 + (j : Int))]))) ∧ (upd H2 D (.lst (acc ++ [.int (2 + (j : Int))]))) D = some (.lst ((found i (j + 1)).map V.int)) := by
            intro hb
            refine ⟨_, hl, ?_, fun b o e => ?_, ?_⟩
            · rw [List.length_map]
              have := found_len i j
              have hz := sizeLine_eq
              have hj98 : j < 98 := hj
              omega
            · rw [upd_ne (ne_of_none e hD)]
              exact s2 b o e
            · rw [upd_same, found_yes hb, List.map_append]
              rfl
          by_cases c3 : (2 + (j : Int)) * (2 + (j : Int)) ≤ i
          · rw [decide_eq_true c3]
            refine iteT ⟨_, rfl, .inl ⟨i, rfl, _, rfl, _, _, rfl, rfl, (by show (0 : Int) < 2 + (j : Int); omega), rfl, _, rfl, ?_⟩⟩
            show if decide (V.int (i % (2 + (j : Int))) = V.int 0) = true then _ else _
            by_cases c4 : i % (2 + (j : Int)) = 0
            · rw [c4]
              have hb : bad i j = true := by unfold bad; rw [decide_eq_true c3, decide_eq_true c4]; rfl
              exact iteT ⟨_, rfl, go hb⟩
            · rw [decide_eq_false fun z => c4 (V.int.inj z)]
              have hb : bad i j = false := by unfold bad; rw [decide_eq_false c4, Bool.and_false]
              exact iteF ⟨s2, by rw [found_no hb]; exact hl⟩
          · rw [decide_eq_false c3]
            have hb : bad i j = false := by unfold bad; rw [decide_eq_false c3, Bool.false_and]
            exact iteF (iteF ⟨s2, by rw [found_no hb]; exact hl⟩)
        · rintro H2 ⟨s2, hl⟩
          refine ⟨thousand (by decide), fun q nq => ?_⟩
          refine ⟨_, _, (Held.upd nq).dp _ _ (dp_intL hl), .lst (.inl (.inl upd_same)) .nil, ints_sz _, nil_sz, ?_⟩
          rw [eqv_nil]
          have e2 : ((found i ((100 : Int) - 2).toNat).map PyData.int).isEmpty = clean i := by
            rw [← found_clean i]
            show ((found i 98).map PyData.int).isEmpty = _
            simp
          rw [e2]
          exact k _ (s2.trans (Same.upd nq))
      · rw [decide_eq_false c2]
        have e : mPrime (.int i) = false := by simp [mPrime, c2]
        rw [e] at key
        exact iteT key
    · rw [decide_eq_false c1]
      have e : mPrime (.int i) = false := by
        have a2 : i < 2 := by omega
        simp [mPrime, a2]
      rw [e] at key
      exact iteF ⟨_, rfl, iteT key⟩
  | bool b =>
    cases hd
    exact iteF ⟨_, rfl, _, .bool b, rfl, .bl b, _, rfl, iteT key⟩
  | _ => exact iteT key

def oneS (c : Nat) : Str := ⟨#[c]⟩
def off (x : Str) (j : Nat) : List Nat := (x.cps.toList.take j).filter fun c => !decide (c ∈ letters.cps.toList)
theorem off_yes {x : Str} {j c : Nat} (hc : x.cps.toList[j]? = some c) (h : (!decide (c ∈ letters.cps.toList)) = true) : off x (j + 1) = off x j ++ [c] := by
  unfold off
  rw [List.take_succ, hc, Option.toList_some, List.filter_append, List.filter_cons, if_pos h]
  rfl
theorem off_no {x : Str} {j c : Nat} (hc : x.cps.toList[j]? = some c) (h : (!decide (c ∈ letters.cps.toList)) = false) : off x (j + 1) = off x j := by
  unfold off
  rw [List.take_succ, hc, Option.toList_some, List.filter_append, List.filter_cons, if_neg (by rw [h]; exact Bool.false_ne_true)]
  simp
theorem off_len (x : Str) (j : Nat) : (off x j).length ≤ j := by
  unfold off
  exact Nat.le_trans (List.length_filter_le _ _) (by rw [List.length_take]; omega)
theorem off_all (x : Str) : (off x x.cps.size).isEmpty = x.cps.toList.all fun c => decide (c ∈ letters.cps.toList) := by
  unfold off
  rw [List.take_of_length_le (by rw [Array.length_toList]; exact Nat.le_refl _)]
  generalize x.cps.toList = l
  induction l with
  | nil => rfl
  | cons a l ih =>
    rw [List.all_cons, List.filter_cons, ← ih]
    cases decide (a ∈ letters.cps.toList) <;> simp
theorem dp_ones {H : Hp} : ∀ cs : List Nat, DpAll K H (cs.map fun c => V.str (oneS c)) (cs.map fun c => .str (oneS c))
  | [] => .nil
  | c :: cs => .cons (.str _) (dp_ones cs)
/-- all signs below 2 ^ 20: what such a list of texts is -/
theorem ones_lay {x : Str} {k m : Nat} (sz : Sz k m (.str x)) (j : Nat) : SeqAt.shaped (.list ((off x j).map fun c => .str (oneS c))) = true := by
  have h0 : x.cps.toList.all (fun c => decide (c < 1114112)) = true := by
    have z := sz.lay
    simp only [PyData.canLay0, PyData.strOk] at z
    rw [← Array.all_toList] at z
    exact z
  have h1 : ∀ c ∈ off x j, c < 1114112 := by
    intro c hc
    unfold off at hc
    have := List.mem_of_mem_take (List.mem_filter.mp hc).1
    exact of_decide_eq_true (List.all_eq_true.mp h0 c this)
  generalize off x j = cs at h1
  have a : PyData.canLayAll0 (cs.map fun c => .str (oneS c)) = true ∧ PyData.depthAll (cs.map fun c => .str (oneS c)) = 0 := by
    induction cs with
    | nil => simp [PyData.canLayAll0, PyData.depthAll]
    | cons c cs ih =>
      obtain ⟨i1, i2⟩ := ih fun d hd => h1 d (List.mem_cons_of_mem _ hd)
      have hc := h1 c (List.mem_cons_self ..)
      constructor
      · have z : PyData.canLay0 (.str (oneS c)) = true := by simp [PyData.canLay0, PyData.strOk, oneS, hc]
        simp only [List.map_cons, PyData.canLayAll0, z, i1, Bool.and_self]
      · simp [PyData.depthAll, PyData.depth, i2]
  show (PyData.canLay0 (.list (cs.map fun c => .str (oneS c))) && decide (PyData.depth (.list (cs.map fun c => .str (oneS c))) ≤ 64)) = true
  simp [PyData.canLay0, PyData.depth, a.1, a.2]
abbrev nm__law_is_title : List Str := ["_law_item", "_law_sign"]
theorem sc__law_is_title : FnScope nm__law_is_title ["_law_item"] (defScope s__law_is_title) := ⟨rfl, rfl, rfl, by decide +kernel, rfl, by decide +kernel, by decide +kernel⟩
theorem ok__law_is_title (T : Txt K mg) : CalG P w K mg base 1 "_law_is_title" (spB K mName) := by
  refine cal_of T.i__law_is_title sc__law_is_title spB_len (fun _ _ _ _ _ _ us hl => match us, hl with | [_], _ => rfl) (fun f cdv A outer s H vs Q E gd hr h => ?_)
  have hu := hu_of hr
  have hu64 : (A.deeper (PyProof.Rows.envOfC "_law_is_title" (defScope s__law_is_title) s.heap.objs.size f cdv)).units + 64 < cLine := by have := hr.un; omega
  have hu80 : (A.deeper (PyProof.Rows.envOfC "_law_is_title" (defScope s__law_is_title) s.heap.objs.size f cdv)).units + 80 < cLine := by have := hr.un; omega
  obtain ⟨v, d, rfl, hd, sz, k⟩ := h
  refine ⟨_, (pss_cons (ps_if (pw_or (pt_not (pt_val (pe_isi isi_str (pv 0) (by rfl) T.b_isinstance (by rfl) T.b_str rfl))) (pw_or1 (pt_not (pt_chain op_le op_le pe_int (pe_callB call_len (by rfl) T.b_len (by decide +kernel) (pa_cons (pv 0) pa_nil)) pe_int)))).pt (pss_one (ps_ret pe_bl)) pss_nil)
    (pss_one (ps_ret (pe_cmpR (op_eqD hu64) (pe_lc (own := [("_law_sign", 1)]) rfl sc__law_is_title.nd (pi_str (pv 0)) (blkOk_by (N := nm__law_is_title) (sc := defScope s__law_is_title) (by decide +kernel)) (fun _ _ _ _ _ => (pg_name (i := 1) sc__law_is_title.nd rfl (by first | exact Or.inl rfl | exact Or.inr rfl))) (fun _ _ _ _ _ => (pts_one (pt_cmpR op_notIn_sign (pv 1) pe_str rfl))) (fun _ _ _ _ _ => (pv 1))) (pe_lst pa_nil) (nomark _))))), ?_⟩
  have key := k H (.refl H)
  refine ⟨_, rfl, _, d, rfl, hd, _, rfl, ?_⟩
  cases d with
  | str x =>
    cases hd
    have hx := sz.len
    have hline := sizeLine_eq
    refine iteF ⟨_, rfl, .str x, x.length, rfl, ⟨by omega, rfl⟩, _, _, rfl, rfl, _, rfl, ?_⟩
    by_cases c1 : 1 ≤ x.length
    · rw [decide_eq_true (show (1 : Int) ≤ (x.length : Int) by omega)]
      refine iteT ⟨_, _, rfl, rfl, _, rfl, ?_⟩
      by_cases c2 : x.length ≤ 8
      · rw [decide_eq_true (show (x.length : Int) ≤ 8 by omega)]
        refine iteF ?_
        refine ⟨_, rfl, x, rfl, fun D hD => lc_it walk_str (fun j H2 => Same H H2 ∧ H2 D = some (.lst ((off x j).map fun c => V.str (oneS c)))) ⟨Same.upd hD, upd_same⟩ (fun _ _ _ _ => trivial) ?_ ?_⟩
        · rintro j v H2 H3 hj ⟨s2, hl⟩ ⟨rfl, c, hc, rfl⟩
          have hc' : x.cps.toList[j]? = some c := by rw [Array.getElem?_toList]; exact hc
          refine ⟨rfl, ?_⟩
          refine ⟨_, rfl, c, letters, rfl, rfl, _, rfl, ?_⟩
          by_cases hb : (!decide (c ∈ letters.cps.toList)) = true
          · rw [hb]
            refine iteT ⟨_, rfl, _, hl, ?_, fun b o e => ?_, ?_⟩
            · rw [List.length_map]
              have := off_len x j
              have : x.cps.size = x.length := rfl
              omega
            · rw [upd_ne (ne_of_none e hD)]
              exact s2 b o e
            · rw [upd_same, off_yes hc' hb, List.map_append]
              rfl
          · have hb2 : (!decide (c ∈ letters.cps.toList)) = false := by simpa using hb
            rw [hb2]
            exact iteF ⟨s2, by rw [off_no hc' hb2]; exact hl⟩
        · rintro H2 ⟨s2, hl⟩
          refine ⟨thousand (by decide), fun q nq => ?_⟩
          refine ⟨_, _, (Held.upd nq).dp _ _ (.lst (.inl (.inl hl)) (dp_ones _)), .lst (.inl (.inl upd_same)) .nil, ones_lay sz _, nil_sz, ?_⟩
          rw [eqv_nil]
          have e : mName (.str x) = ((off x x.cps.size).map fun c => PyData.str (oneS c)).isEmpty := by
            have q : ((off x x.cps.size).map fun c => PyData.str (oneS c)).isEmpty = (off x x.cps.size).isEmpty := by simp
            rw [q, off_all]
            simp only [mName, decide_eq_true c1, decide_eq_true c2, Bool.true_and]
          rw [← e]
          exact k _ (s2.trans (Same.upd nq))
      · rw [decide_eq_false (show ¬ (x.length : Int) ≤ 8 by omega)]
        have e : mName (.str x) = false := by simp [mName, c2]
        rw [e] at key
        exact iteT key
    · rw [decide_eq_false (show ¬ (1 : Int) ≤ (x.length : Int) by omega)]
      have e : mName (.str x) = false := by simp only [mName, decide_eq_false c1, Bool.false_and]
      rw [e] at key
      exact iteF ⟨_, rfl, iteT key⟩
  | _ => exact iteT key
end
end Z

set_option maxRecDepth 100000
set_option maxHeartbeats 4000000
namespace Z
open PySem L2 G
section
variable {P : Program} {w : World} {K : PySem.W.Frag} {mg : Str → Option Value} {base : Heap}
theorem hold_vals {H : Hp} {vs : List V} (h : DpAll K H vs [.str "off", .str "cyclic", .str "commute", .str "split"]) : vs = holdV := by
  cases h with
  | cons a t =>
    cases a
    cases t with
    | cons b u =>
      cases b
      cases u with
      | cons c u =>
        cases c
        cases u with
        | cons e u =>
          cases e
          cases u
          rfl
abbrev nm__law_is_act : List Str := ["_law_item"]
theorem sc__law_is_act : FnScope nm__law_is_act ["_law_item"] (defScope s__law_is_act) := ⟨rfl, rfl, rfl, by decide +kernel, rfl, by decide +kernel, by decide +kernel⟩
theorem ok__law_is_act (T : Txt K mg) : CalG P w K mg base 2 "_law_is_act" (spB K mEvent) := by
  refine cal_of T.i__law_is_act sc__law_is_act spB_len (fun _ _ _ _ _ _ us hl => match us, hl with | [_], _ => rfl) (fun f cdv A outer s H vs Q E gd hr h => ?_)
  have hu := hu_of hr
  have hu64 : (A.deeper (PyProof.Rows.envOfC "_law_is_act" (defScope s__law_is_act) s.heap.objs.size f cdv)).units + 64 < cLine := by have := hr.un; omega
  have hu80 : (A.deeper (PyProof.Rows.envOfC "_law_is_act" (defScope s__law_is_act) s.heap.objs.size f cdv)).units + 80 < cLine := by have := hr.un; omega
  obtain ⟨v, d, rfl, hd, sz, k⟩ := h
  refine ⟨_, (pss_cons (ps_if (pw_or (pt_not (pt_val (pe_isi isi_tuple (pv 0) (by rfl) T.b_isinstance (by rfl) T.b_tuple rfl))) (pw_or (pt_cmpR op_ne (pe_callB call_len (by rfl) T.b_len (by decide +kernel) (pa_cons (pv 0) pa_nil)) pe_int (nomark _)) (pw_or1 (pt_not (pt_val (pe_isi isi_str (pe_ix ix_tup (pv 0) pe_int (fun _ _ => rfl)) (by rfl) T.b_isinstance (by rfl) T.b_str rfl)))))).pt (pss_one (ps_ret pe_bl)) pss_nil)
    (pss_cons (ps_if (pt_cmpR op_in_seq (pe_ix ix_tup (pv 0) pe_int (fun _ _ => rfl)) (pe_lit _ _ rfl) rfl) (pss_one (ps_ret (pe_g (ok__law_is_prime T) gd hr (by decide) (by rfl) (pa_cons (pe_ix ix_tup (pv 0) pe_int (fun _ _ => rfl)) pa_nil)))) pss_nil)
    (pss_cons (ps_if (pt_cmpR op_eq (pe_ix ix_tup (pv 0) pe_int (fun _ _ => rfl)) pe_str (nomark _)) (pss_one (ps_ret (pe_g (ok__law_is_title T) gd hr (by decide) (by rfl) (pa_cons (pe_ix ix_tup (pv 0) pe_int (fun _ _ => rfl)) pa_nil)))) pss_nil)
    (pss_one (ps_ret (pe_and (pe_cmpR op_eq (pe_ix ix_tup (pv 0) pe_int (fun _ _ => rfl)) pe_str (nomark _)) (pe_and (pe_isi isi_str (pe_ix ix_tup (pv 0) pe_int (fun _ _ => rfl)) (by rfl) T.b_isinstance (by rfl) T.b_str rfl) (pe_one (pe_cmpR op_in_seq (pe_ix ix_tup (pv 0) pe_int (fun _ _ => rfl)) (pe_lit _ _ rfl) rfl))))))))), ?_⟩
  have key := k H (.refl H)
  refine ⟨_, rfl, _, d, rfl, hd, _, rfl, ?_⟩
  cases d with
  | tuple ds =>
    refine iteF ⟨_, rfl, v, ds.length, rfl, hd.lenT, rfl, _, rfl, ?_⟩
    by_cases c2 : ds.length = 2
    · obtain ⟨a, b, rfl⟩ := two c2
      refine iteF ?_
      cases hd with
      | tup q al =>
        rename_i p xs
        cases al with
        | cons ha al =>
          cases al with
          | cons hb al =>
            cases al
            rename_i va vb
            have sb : Sz 40 20000 b := sz.itemT (by simp)
            refine ⟨_, rfl, p, [va, vb], 0, va, rfl, rfl, q, rfl, va, a, rfl, ha, _, rfl, ?_⟩
            cases a with
            | str x =>
              cases ha
              refine iteF ⟨_, rfl, p, [.str x, vb], 0, .str x, rfl, rfl, q, rfl, ?_⟩
              intro vk H2 s2 hk
              have q2 := (Held.of s2).sqt q
              have hb2 := (Held.of s2).dp _ _ hb
              have key2 : ∀ H', Same H2 H' → Q (.bl (mEvent (.tuple [.str x, b]))) H' := fun H' s' => k H' (s2.trans s')
              cases hk with
              | lst qk ak =>
                obtain rfl := kind_vals ak
                refine ⟨_, kindV, rfl, .inl qk, rfl, rfl, _, rfl, ?_⟩
                by_cases ck : inV (.str x) kindV = true
                · rw [mEvent_k ck] at key2
                  show if inV (.str x) kindV = true then _ else _
                  rw [if_pos ck]
                  exact ⟨_, rfl, p, [.str x, vb], 1, vb, rfl, rfl, q2, rfl, vb, b, rfl, hb2, sb, key2⟩
                · show if inV (.str x) kindV = true then _ else _
                  rw [if_neg ck]
                  refine ⟨_, rfl, p, [.str x, vb], 0, .str x, rfl, rfl, q2, rfl, rfl, _, rfl, ?_⟩
                  show if decide (V.str x = V.str "note") = true then _ else _
                  rw [strV]
                  by_cases cn : x = "note"
                  · rw [mEvent_n ck cn] at key2
                    rw [decide_eq_true cn]
                    exact iteT ⟨_, rfl, p, [.str x, vb], 1, vb, rfl, rfl, q2, rfl, vb, b, rfl, hb2, sb, key2⟩
                  · rw [mEvent_h ck cn] at key2
                    rw [decide_eq_false cn]
                    refine iteF ⟨_, rfl, p, [.str x, vb], 0, .str x, rfl, rfl, q2, rfl, rfl, _, rfl, ?_⟩
                    show if decide (V.str x = V.str "hold") = true then _ else _
                    rw [strV]
                    by_cases ch : x = "hold"
                    · rw [decide_eq_true ch] at key2 ⊢
                      rw [Bool.true_and] at key2
                      refine iteT ⟨_, rfl, p, [.str x, vb], 1, vb, rfl, rfl, q2, rfl, vb, b, rfl, hb2, _, rfl, ?_⟩
                      cases b with
                      | str y =>
                        cases hb2
                        refine iteT ⟨_, rfl, p, [.str x, .str y], 1, .str y, rfl, rfl, q2, rfl, ?_⟩
                        intro vh H3 s3 hh
                        cases hh with
                        | lst qh ah =>
                          obtain rfl := hold_vals ah
                          exact ⟨_, holdV, rfl, .inl qh, rfl, rfl, key2 H3 s3⟩
                      | _ => exact iteF (key2 H2 (.refl H2))
                    · rw [decide_eq_false ch] at key2 ⊢
                      rw [Bool.false_and] at key2
                      exact iteF (key2 H2 (.refl H2))
            | _ => exact iteT key
    · have e : decide (V.int (ds.length : Int) = V.int 2) = false := decide_eq_false fun z => c2 (by have := V.int.inj z; omega)
      rw [mEvent_no2 c2] at key
      show if (!decide (V.int (ds.length : Int) = V.int 2)) = true then _ else _
      rw [e]
      exact iteT key
  | _ => exact iteT key
end
end Z

set_option maxRecDepth 100000
set_option maxHeartbeats 4000000
namespace Z
open PySem L2 G
section
variable {P : Program} {w : World} {K : PySem.W.Frag} {mg : Str → Option Value} {base : Heap}

/-- data that the law draws of -/
abbrev Odd (d : PyData) : Prop := Sz 5 2000 d
theorem odd_all {ds : List PyData} (h : (ds.all (szB 5 2000)) = true) : ∀ d ∈ ds, Odd d := fun d hd => szB_of (List.all_eq_true.mp h d hd)
def spOdds (K : PySem.W.Frag) : Sp := fun vs H Q _ => vs = [] ∧ ∀ p H', Same H H' → LD K H' p 200 Odd → Q (.ref p) H'
theorem spOdds_len : ∀ vs H Q E, spOdds K vs H Q E → vs.length = 0 := by
  rintro vs H Q E ⟨rfl, _⟩
  rfl
abbrev nm__law_odds : List Str := ["_law_found"]
theorem sc__law_odds : FnScope nm__law_odds [] (defScope s__law_odds) := ⟨rfl, rfl, rfl, by decide +kernel, rfl, by decide +kernel, by decide +kernel⟩
theorem ok__law_odds (T : Txt K mg) : CalG P w K mg base 1 "_law_odds" (spOdds K) := by
  refine cal_of T.i__law_odds sc__law_odds spOdds_len (fun _ _ _ _ _ _ us hl => match us, hl with | [], _ => rfl) (fun f cdv A outer s H vs Q E gd hr h => ?_)
  have hu := hu_of hr
  have hu64 : (A.deeper (PyProof.Rows.envOfC "_law_odds" (defScope s__law_odds) s.heap.objs.size f cdv)).units + 64 < cLine := by have := hr.un; omega
  have hu80 : (A.deeper (PyProof.Rows.envOfC "_law_odds" (defScope s__law_odds) s.heap.objs.size f cdv)).units + 80 < cLine := by have := hr.un; omega
  obtain ⟨rfl, k⟩ := h
  refine ⟨_, (pss_cons (ps_set (i := 0) sc__law_odds.nd rfl (by first | exact Or.inl rfl | exact Or.inr rfl) (pe_litL rfl rfl))
    (pss_cons (ps_set (i := 0) sc__law_odds.nd rfl (by first | exact Or.inl rfl | exact Or.inr rfl) (pe_op op_cat (pv 0) (pe_litL rfl rfl)))
    (pss_cons (ps_set (i := 0) sc__law_odds.nd rfl (by first | exact Or.inl rfl | exact Or.inr rfl) (pe_op op_cat (pv 0) (pe_litL rfl rfl)))
    (pss_cons (ps_set (i := 0) sc__law_odds.nd rfl (by first | exact Or.inl rfl | exact Or.inr rfl) (pe_op op_cat (pv 0) (pe_litL rfl rfl)))
    (pss_cons (ps_set (i := 0) sc__law_odds.nd rfl (by first | exact Or.inl rfl | exact Or.inr rfl) (pe_op op_cat (pv 0) (pe_litL rfl rfl)))
    (pss_cons (ps_set (i := 0) sc__law_odds.nd rfl (by first | exact Or.inl rfl | exact Or.inr rfl) (pe_op op_cat (pv 0) (pe_litL rfl rfl)))
    (pss_cons (ps_set (i := 0) sc__law_odds.nd rfl (by first | exact Or.inl rfl | exact Or.inr rfl) (pe_op op_cat (pv 0) (pe_litL rfl rfl)))
    (pss_cons (ps_set (i := 0) sc__law_odds.nd rfl (by first | exact Or.inl rfl | exact Or.inr rfl) (pe_op op_cat (pv 0) (pe_litL rfl rfl)))
    (pss_cons (ps_set (i := 0) sc__law_odds.nd rfl (by first | exact Or.inl rfl | exact Or.inr rfl) (pe_op op_cat (pv 0) (pe_litL rfl rfl)))
    (pss_cons (ps_set (i := 0) sc__law_odds.nd rfl (by first | exact Or.inl rfl | exact Or.inr rfl) (pe_op op_cat (pv 0) (pe_litL rfl rfl)))
    (pss_cons (ps_set (i := 0) sc__law_odds.nd rfl (by first | exact Or.inl rfl | exact Or.inr rfl) (pe_op op_cat (pv 0) (pe_litL rfl rfl)))
    (pss_one (ps_ret (pe_op op_cat (pv 0) (pe_litL rfl rfl))))))))))))))), ?_⟩
  intro p0 vs0 H0 s0 h0 a0
  have L0 : LD K H0 p0 13 Odd := ⟨vs0, _, h0, a0, (by decide), odd_all (by decide +kernel)⟩
  refine catL (i := 0) (m := 19) L0 rfl (by decide) (by decide) (odd_all (by decide +kernel)) (fun p1 H1 t1 L1 => ?_)
  have s1 := s0.trans t1
  refine catL (i := 0) (m := 25) L1 rfl (by decide) (by decide) (odd_all (by decide +kernel)) (fun p2 H2 t2 L2 => ?_)
  have s2 := s1.trans t2
  refine catL (i := 0) (m := 31) L2 rfl (by decide) (by decide) (odd_all (by decide +kernel)) (fun p3 H3 t3 L3 => ?_)
  have s3 := s2.trans t3
  refine catL (i := 0) (m := 37) L3 rfl (by decide) (by decide) (odd_all (by decide +kernel)) (fun p4 H4 t4 L4 => ?_)
  have s4 := s3.trans t4
  refine catL (i := 0) (m := 42) L4 rfl (by decide) (by decide) (odd_all (by decide +kernel)) (fun p5 H5 t5 L5 => ?_)
  have s5 := s4.trans t5
  refine catL (i := 0) (m := 48) L5 rfl (by decide) (by decide) (odd_all (by decide +kernel)) (fun p6 H6 t6 L6 => ?_)
  have s6 := s5.trans t6
  refine catL (i := 0) (m := 53) L6 rfl (by decide) (by decide) (odd_all (by decide +kernel)) (fun p7 H7 t7 L7 => ?_)
  have s7 := s6.trans t7
  refine catL (i := 0) (m := 58) L7 rfl (by decide) (by decide) (odd_all (by decide +kernel)) (fun p8 H8 t8 L8 => ?_)
  have s8 := s7.trans t8
  refine catL (i := 0) (m := 63) L8 rfl (by decide) (by decide) (odd_all (by decide +kernel)) (fun p9 H9 t9 L9 => ?_)
  have s9 := s8.trans t9
  refine catL (i := 0) (m := 69) L9 rfl (by decide) (by decide) (odd_all (by decide +kernel)) (fun p10 H10 t10 L10 => ?_)
  have s10 := s9.trans t10
  refine catL (i := 0) (m := 75) L10 rfl (by decide) (by decide) (odd_all (by decide +kernel)) (fun p11 H11 t11 L11 => ?_)
  have s11 := s10.trans t11
  exact k p11 H11 s11 ⟨let ⟨vs, ds, h1, h2, h3, h4⟩ := L11.ex; ⟨vs, ds, h1, h2, Nat.le_trans h3 (by decide), h4⟩⟩
end
end Z

set_option maxRecDepth 100000
set_option maxHeartbeats 4000000
namespace Z
open PySem L2 G
section
variable {P : Program} {w : World} {K : PySem.W.Frag} {mg : Str → Option Value} {base : Heap}

def spNear (K : PySem.W.Frag) : Sp := fun vs H Q _ => ∃ (f : Addr) (v : V) (a b : PyData), vs = [.ref f, v] ∧ ∃ C, Feed K H f C ∧ Dp K H v (.tuple [a, b]) ∧ Odd a ∧ Odd b ∧
  ∀ u d H', Dp K H' u d → Sz 40 20000 d → Feed K H' f C → Kp f H H' → Q u H'
theorem spNear_len : ∀ vs H Q E, spNear K vs H Q E → vs.length = 2 := by
  rintro vs H Q E ⟨f, v, a, b, rfl, _⟩
  rfl
theorem big_t {ds : List PyData} (h : ∀ d ∈ ds, Sz 8 5000 d) (hl : ds.length ≤ 3) : Sz 40 20000 (.tuple ds) := (Sz.tuple (k := 8) (m := 5000) (n := 3) (M := 20000) h hl (by decide)).mono (by decide) (by decide)
theorem big_l {ds : List PyData} (h : ∀ d ∈ ds, Sz 8 5000 d) (hl : ds.length ≤ 3) : Sz 40 20000 (.list ds) := (Sz.list (k := 8) (m := 5000) (n := 3) (M := 20000) h hl (by decide)).mono (by decide) (by decide)
theorem big_o {d : PyData} (h : Odd d) : Sz 8 5000 d := h.mono (by decide) (by decide)
theorem near_all {a b o z d : PyData} (ha : Odd a) (hb : Odd b) (ho : Odd o) (hz : Odd z)
    (h : d ∈ [.tuple ([a, b] ++ [o]), .list [a, b], .tuple [a], .tuple [a, b].reverse, .tuple [.tuple [a, b]], .tuple ([o] ++ [b]), .tuple ([a] ++ [o])] ++ [.tuple ([a] ++ [o]), .tuple ([z] ++ [b])]) : Sz 40 20000 d := by
  have A := big_o ha
  have B := big_o hb
  have O := big_o ho
  have Z := big_o hz
  have AB : Sz 8 5000 (.tuple [a, b]) := (Sz.tuple (k := 5) (m := 2000) (n := 2) (M := 5000) (fun x hx => by
    rcases List.mem_cons.mp hx with rfl | hx
    · exact ha
    · rcases List.mem_cons.mp hx with rfl | hx
      · exact hb
      · cases hx) (by simp) (by decide)).mono (by decide) (by decide)
  simp only [List.cons_append, List.nil_append, List.mem_cons, List.not_mem_nil, or_false, List.reverse_cons, List.reverse_nil] at h
  rcases h with rfl | rfl | rfl | rfl | rfl | rfl | rfl | rfl | rfl
  all_goals first
    | (refine big_t ?_ (by simp); intro x hx; simp only [List.mem_cons, List.not_mem_nil, or_false] at hx; rcases hx with rfl | rfl | rfl <;> assumption)
    | (refine big_t ?_ (by simp); intro x hx; simp only [List.mem_cons, List.not_mem_nil, or_false] at hx; rcases hx with rfl | rfl <;> assumption)
    | (refine big_l ?_ (by simp); intro x hx; simp only [List.mem_cons, List.not_mem_nil, or_false] at hx; rcases hx with rfl | rfl <;> assumption)
    | (refine big_t ?_ (by simp); intro x hx; simp only [List.mem_cons, List.not_mem_nil, or_false] at hx; subst hx; assumption)
abbrev nm__law_near : List Str := ["_law_feed_here", "_law_act", "_law_odd", "_law_some"]
theorem sc__law_near : FnScope nm__law_near ["_law_feed_here", "_law_act"] (defScope s__law_near) := ⟨rfl, rfl, rfl, by decide +kernel, rfl, by decide +kernel, by decide +kernel⟩
theorem ok__law_near (T : Txt K mg) : CalG P w K mg base 3 "_law_near" (spNear K) := by
  refine cal_of T.i__law_near sc__law_near spNear_len (fun _ _ _ _ _ _ us hl => match us, hl with | [_, _], _ => rfl) (fun f cdv A outer s H vs Q E gd hr h => ?_)
  have hu := hu_of hr
  have hu64 : (A.deeper (PyProof.Rows.envOfC "_law_near" (defScope s__law_near) s.heap.objs.size f cdv)).units + 64 < cLine := by have := hr.un; omega
  have hu80 : (A.deeper (PyProof.Rows.envOfC "_law_near" (defScope s__law_near) s.heap.objs.size f cdv)).units + 80 < cLine := by have := hr.un; omega
  obtain ⟨fa, v, a, b, rfl, C, F, hv, oa, ob, k⟩ := h
  refine ⟨_, (pss_cons (ps_set (i := 2) sc__law_near.nd rfl (by first | exact Or.inl rfl | exact Or.inr rfl) (pe_g (ok__law_any T) gd hr (by decide) (by rfl) (pa_cons (pv 0) (pa_cons (pe_lit _ _ rfl) pa_nil))))
    (pss_cons (ps_set (i := 3) sc__law_near.nd rfl (by first | exact Or.inl rfl | exact Or.inr rfl) (pe_lst (pa_cons (pe_op op_catA (pv 1) (pe_tup (pa_cons (pv 2) pa_nil))) (pa_cons (pe_callTy call_list_of (by rfl) T.b_list (by decide +kernel) (pa_cons (pv 1) pa_nil)) (pa_cons (pe_slice sl_tup (pv 1) po_none (po_some pe_int)) (pa_cons (pe_revT (pv 1)) (pa_cons (pe_tup (pa_cons (pv 1) pa_nil)) (pa_cons (pe_op op_catA (pe_tup (pa_cons (pv 2) pa_nil)) (pe_slice sl_tup (pv 1) (po_some pe_int) po_none)) (pa_cons (pe_op op_catA (pe_slice sl_tup (pv 1) po_none (po_some pe_int)) (pe_tup (pa_cons (pv 2) pa_nil))) pa_nil)))))))))
    (pss_one (ps_ret (pe_g (ok__law_any T) gd hr (by decide) (by rfl) (pa_cons (pv 0) (pa_cons (pe_op op_cat (pv 3) (pe_lst (pa_cons (pe_op op_catA (pe_slice sl_tup (pv 1) po_none (po_some pe_int)) (pe_tup (pa_cons (pv 2) pa_nil))) (pa_cons (pe_op op_catA (pe_tup (pa_cons (pe_g (ok__law_any T) gd hr (by decide) (by rfl) (pa_cons (pv 0) (pa_cons (pe_lit _ _ rfl) pa_nil))) pa_nil)) (pe_slice sl_tup (pv 1) (po_some pe_int) po_none)) pa_nil)))) pa_nil))))))), ?_⟩
  refine ⟨_, rfl, ?_⟩
  intro vL H1 s1 dL
  obtain ⟨pL, vsL, rfl, qL, aL⟩ := dL.asL
  refine ⟨fa, pL, _, rfl, C, F.same s1, dL, (by simp), (by decide), fun ov o H2 ho od F2 k2 => ?_⟩
  have oo : Odd o := odd_all (by decide +kernel) o ho
  have v2 : Dp K H2 v (.tuple [a, b]) := ((F.same s1).held k2).dp _ _ ((Held.of s1).dp _ _ hv)
  -- the nine
  refine ⟨_, rfl, ?_⟩
  show tTup _ _ _ _
  refine rt_one (i := 2) rfl od fun p3 H3 s3 d3 => ?_
  refine rd_cat ((Held.of s3).dp _ _ v2) d3 (by simp) (by simp) (by simp) fun p4 H4 t4 d4 => ?_
  have s4 := s3.trans t4
  refine un_cons ?_
  show tCB _ _ _ _ _
  refine rt_list (i := 1) rfl ((Held.of s4).dp _ _ v2) fun p5 H5 t5 d5 => ?_
  have s5 := s4.trans t5
  refine un_cons ?_
  show tSl _ _ _ _ _ _ _
  refine rt_head (i := 1) rfl ((Held.of s5).dp _ _ v2) fun p6 H6 t6 d6 => ?_
  have s6 := s5.trans t6
  refine un_cons ?_
  show tRevT _ _ _ _ _
  refine rt_rev (i := 1) rfl ((Held.of s6).dp _ _ v2) fun p7 H7 t7 d7 => ?_
  have s7 := s6.trans t7
  refine un_cons ?_
  show tTup _ _ _ _
  refine rt_one (i := 1) rfl ((Held.of s7).dp _ _ v2) fun p8 H8 t8 d8 => ?_
  have s8 := s7.trans t8
  refine un_cons (un_op ?_)
  show tTup _ _ _ _
  refine rt_one (i := 2) rfl ((Held.of s8).dp _ _ od) fun p9 H9 t9 d9 => ?_
  have s9 := s8.trans t9
  show tSl _ _ _ _ _ _ _
  refine rt_tail (i := 1) rfl ((Held.of s9).dp _ _ v2) fun p10 H10 t10 d10 => ?_
  have s10 := s9.trans t10
  refine rd_cat ((Held.of t10).dp _ _ d9) d10 (by simp) (by simp) (by simp) fun p11 H11 t11 d11 => ?_
  have s11 := s10.trans t11
  refine un_cons (un_op ?_)
  show tSl _ _ _ _ _ _ _
  refine rt_head (i := 1) rfl ((Held.of s11).dp _ _ v2) fun p12 H12 t12 d12 => ?_
  have s12 := s11.trans t12
  show tTup _ _ _ _
  refine rt_one (i := 2) rfl ((Held.of s12).dp _ _ od) fun p13 H13 t13 d13 => ?_
  have s13 := s12.trans t13
  refine rd_cat ((Held.of t13).dp _ _ d12) d13 (by simp) (by simp) (by simp) fun p14 H14 t14 d14 => ?_
  have s14 := s13.trans t14
  have u13 := t14
  have u12 := t13.trans u13
  have u11 := t12.trans u12
  have u10 := t11.trans u11
  have u9 := t10.trans u10
  have u8 := t9.trans u9
  have u7 := t8.trans u8
  have u6 := t7.trans u7
  have u5 := t6.trans u6
  have u4 := t5.trans u5
  have all14 : DpAll K H14 [.ref p4, .ref p5, .ref p6, .ref p7, .ref p8, .ref p11, .ref p14] _ := .cons ((Held.of u4).dp _ _ d4) (.cons ((Held.of u5).dp _ _ d5) (.cons ((Held.of u6).dp _ _ d6) (.cons ((Held.of u7).dp _ _ d7) (.cons ((Held.of u8).dp _ _ d8) (.cons ((Held.of u11).dp _ _ d11) (.cons d14 .nil))))))
  refine ⟨thousand (by show 7 ≤ 1000; decide), fun p15 n15 => ?_⟩
  have t15 : Same H14 _ := Same.upd (o := .lst [.ref p4, .ref p5, .ref p6, .ref p7, .ref p8, .ref p11, .ref p14]) n15
  have e15 : (upd H14 p15 (.lst [.ref p4, .ref p5, .ref p6, .ref p7, .ref p8, .ref p11, .ref p14])) p15 = some (.lst [.ref p4, .ref p5, .ref p6, .ref p7, .ref p8, .ref p11, .ref p14]) := upd_same
  have d15 := (Held.of t15).dpAll _ _ all14
  generalize upd H14 p15 (.lst [.ref p4, .ref p5, .ref p6, .ref p7, .ref p8, .ref p11, .ref p14]) = H15 at t15 e15 d15 ⊢
  have s15 := s14.trans t15
  have F15 := F2.same s15
  refine ⟨_, rfl, _, rfl, ?_⟩
  refine un_lst (un_cons (un_op ?_))
  show tSl _ _ _ _ _ _ _
  refine rt_head (i := 1) rfl ((Held.of s15).dp _ _ v2) fun p16 H16 t16 d16 => ?_
  have s16 := s15.trans t16
  show tTup _ _ _ _
  refine rt_one (i := 2) rfl ((Held.of s16).dp _ _ od) fun p17 H17 t17 d17 => ?_
  have s17 := s16.trans t17
  refine rd_cat ((Held.of t17).dp _ _ d16) d17 (by simp) (by simp) (by simp) fun p18 H18 t18 d18 => ?_
  have s18 := s17.trans t18
  refine ⟨_, rfl, ?_⟩
  intro vM H19 t19 dM
  have s19 := s18.trans t19
  obtain ⟨pM, vsM, rfl, qM, aM⟩ := dM.asL
  refine ⟨fa, pM, _, rfl, C, F2.same s19, dM, (by simp), (by decide), fun zv z H20 hz zd F20 k20 => ?_⟩
  have oz : Odd z := odd_all (by decide +kernel) z hz
  have h20 := (F2.same s19).held k20
  have w19 : Held H2 H20 := (Held.of s19).trans h20
  refine ⟨thousand (by show 1 ≤ 1000; decide), fun p21 n21 => ?_⟩
  have t21 : Same H20 _ := Same.upd (o := .tup [zv]) n21
  have d21 : Dp K (upd H20 p21 (.tup [zv])) (.ref p21) (.tuple [z]) := Dp.newT (.cons zd .nil) n21
  generalize upd H20 p21 (.tup [zv]) = H21 at t21 d21 ⊢
  show tSl _ _ _ _ _ _ _
  refine rt_tail (i := 1) rfl ((w19.trans (Held.of t21)).dp _ _ v2) fun p22 H22 t22 d22 => ?_
  refine rd_cat ((Held.of t22).dp _ _ d21) d22 (by simp) (by simp) (by simp) fun p23 H23 t23 d23 => ?_
  have t20 : Same H20 H23 := (t21.trans t22).trans t23
  have w15 : Held H15 H23 := (Held.of (((t16.trans t17).trans t18).trans t19)).trans (h20.trans (Held.of t20))
  have w18 : Held H18 H23 := (Held.of t19).trans (h20.trans (Held.of t20))
  have all23 : DpAll K H23 [.ref p18, .ref p23] _ := .cons (w18.dp _ _ d18) (.cons d23 .nil)
  refine ⟨thousand (by show 2 ≤ 1000; decide), fun p24 n24 => ?_⟩
  have t24 : Same H23 _ := Same.upd (o := .lst [.ref p18, .ref p23]) n24
  have e24 : (upd H23 p24 (.lst [.ref p18, .ref p23])) p24 = some (.lst [.ref p18, .ref p23]) := upd_same
  have d24 := (Held.of t24).dpAll _ _ all23
  generalize upd H23 p24 (.lst [.ref p18, .ref p23]) = H24 at t24 e24 d24 ⊢
  have w15b := w15.trans (Held.of t24)
  refine rd_catL (w15b.lst _ _ e15) e24 (w15b.dpAll _ _ d15) d24 (by simp) fun p25 H25 t25 d25 => ?_
  refine ⟨fa, p25, _, rfl, C, F20.same ((t20.trans t24).trans t25), d25, (by simp), (by simp), fun u d H26 hd du F26 k26 => ?_⟩
  refine k u d H26 du (near_all oa ob oo oz hd) F26 ?_
  exact (((((Kp.same s1).trans k2).trans (.same s19)).trans k20).trans (.same ((t20.trans t24).trans t25))).trans k26
end
end Z

set_option maxRecDepth 100000
set_option maxHeartbeats 4000000
namespace Z
open PySem L2 G
section
variable {P : Program} {w : World} {K : PySem.W.Frag} {mg : Str → Option Value} {base : Heap}

def spRight (K : PySem.W.Frag) : Sp := fun vs H Q _ => ∃ v d, vs = [v] ∧ Dp K H v d ∧ Sz 40 20000 d ∧ ∀ H', Same H H' → Q (.bl true) H'
theorem spRight_len : ∀ vs H Q E, spRight K vs H Q E → vs.length = 1 := by
  rintro vs H Q E ⟨v, d, rfl, _⟩
  rfl
theorem two_b (e : Bool) : Sz 1 100 (.list [.bool e, .bool e]) := Sz.list (k := 0) (m := 0) (n := 2) (fun d hd => by
  simp only [List.mem_cons, List.not_mem_nil, or_false] at hd
  rcases hd with rfl | rfl <;> exact Sz.bool _) (by simp) (by decide)
theorem eqT {x : V} {A B : Prop} (h : A) : if decide (x = x) = true then A else B := by
  rw [decide_eq_true rfl]
  exact iteT h
abbrev nm__law_is_right : List Str := ["_law_item", "_law_held", "_law_due"]
theorem sc__law_is_right : FnScope nm__law_is_right ["_law_item"] (defScope s__law_is_right) := ⟨rfl, rfl, rfl, by decide +kernel, rfl, by decide +kernel, by decide +kernel⟩
theorem ok__law_is_right (T : Txt K mg) : CalG P w K mg base 6 "_law_is_right" (spRight K) := by
  refine cal_of T.i__law_is_right sc__law_is_right spRight_len (fun _ _ _ _ _ _ us hl => match us, hl with | [_], _ => rfl) (fun f cdv A outer s H vs Q E gd hr h => ?_)
  have hu := hu_of hr
  have hu64 : (A.deeper (PyProof.Rows.envOfC "_law_is_right" (defScope s__law_is_right) s.heap.objs.size f cdv)).units + 64 < cLine := by have := hr.un; omega
  have hu80 : (A.deeper (PyProof.Rows.envOfC "_law_is_right" (defScope s__law_is_right) s.heap.objs.size f cdv)).units + 80 < cLine := by have := hr.un; omega
  obtain ⟨v, d, rfl, hd, sz, k⟩ := h
  refine ⟨_, (pss_cons (ps_par (i := 1) (j := 2) rfl sc__law_is_right.nd rfl rfl (by decide) rfl rfl (pa_cons (pe_callB (call_reprD gd hu80) (by rfl) T.b_repr (by decide +kernel) (pa_cons (pv 0) pa_nil)) (pa_cons (pe_g (ok__law_is_act T) gd hr (by decide) (by rfl) (pa_cons (pv 0) pa_nil)) pa_nil)) rfl)
    (pss_one (ps_ret (pe_and (pe_cmpR op_eq (pe_callB (call_reprD gd hu80) (by rfl) T.b_repr (by decide +kernel) (pa_cons (pe_lst (pa_cons (pe_g (ok_is_event T) gd hr (by decide) (by rfl) (pa_cons (pv 0) pa_nil)) (pa_cons (pe_gK (okK_is_event T) gd hr (by decide) (by rfl) (pv 0)) pa_nil))) pa_nil)) (pe_callB (call_reprD gd hu80) (by rfl) T.b_repr (by decide +kernel) (pa_cons (pe_lst (pa_cons (pv 2) (pa_cons (pv 2) pa_nil))) pa_nil)) (nomark _)) (pe_one (pe_cmpR op_eq (pe_callB (call_reprD gd hu80) (by rfl) T.b_repr (by decide +kernel) (pa_cons (pv 0) pa_nil)) (pv 1) (nomark _))))))), ?_⟩
  refine ⟨_, rfl, v, d, rfl, hd, sz.shaped (by decide), sz.sh, sz.fits (by decide), _, rfl, v, d, rfl, hd, sz, fun H1 s1 => ⟨_, _, rfl, ?_⟩⟩
  have d1 := (Held.of s1).dp _ _ hd
  refine ⟨_, rfl, v, d, rfl, d1, sz, fun H2 t2 => ?_⟩
  have s2 := s1.trans t2
  refine ⟨_, rfl, v, d, rfl, (Held.of s2).dp _ _ hd, sz, fun H3 t3 => ?_⟩
  have s3 := s2.trans t3
  refine ⟨thousand (by show 2 ≤ 1000; decide), fun p4 n4 => ?_⟩
  have t4 : Same H3 _ := Same.upd (o := .lst [.bl (mEvent d), .bl (mEvent d)]) n4
  have z := two_b (mEvent d)
  refine ⟨_, _, rfl, Dp.newL (.cons (.bl (mEvent d)) (.cons (.bl (mEvent d)) .nil)) n4, z.shaped (by decide), z.sh, z.fits (by decide), ?_⟩
  refine ⟨_, rfl, _, rfl, thousand (by show 2 ≤ 1000; decide), fun p5 n5 => ?_⟩
  have t5 : Same _ _ := Same.upd (o := .lst [.bl (mEvent d), .bl (mEvent d)]) n5
  refine ⟨_, _, rfl, Dp.newL (.cons (.bl (mEvent d)) (.cons (.bl (mEvent d)) .nil)) n5, z.shaped (by decide), z.sh, z.fits (by decide), rfl, _, rfl, ?_⟩
  have s5 := (s3.trans t4).trans t5
  refine eqT ⟨_, rfl, v, d, rfl, (Held.of s5).dp _ _ hd, sz.shaped (by decide), sz.sh, sz.fits (by decide), _, rfl, rfl, ?_⟩
  have e : decide (V.str d.shown = V.str d.shown) = true := decide_eq_true rfl
  rw [e]
  exact k _ s5
end
end Z

set_option maxRecDepth 100000
set_option maxHeartbeats 4000000
namespace Z
open PySem L2 G
section
variable {P : Program} {w : World} {K : PySem.W.Frag} {mg : Str → Option Value} {base : Heap}

def spLaw (K : PySem.W.Frag) : Sp := fun vs H Q _ => ∃ (a : Addr) (ns : List Int), vs = [.ref a] ∧ SqL K H a (ns.map V.int) ∧ ns.length ≤ 63 ∧ ∀ H', Q (.bl true) H'
theorem spLaw_len : ∀ vs H Q E, spLaw K vs H Q E → vs.length = 1 := by
  rintro vs H Q E ⟨a, ns, rfl, _⟩
  rfl
theorem join_one (cs : List Nat) : PySem.Txt.join "" (cs.map oneS) = ⟨cs.toArray⟩ := by
  have e : ("" : Str) = ⟨#[]⟩ := by decide +kernel
  rw [e]
  have q : PySem.Txt.join ⟨#[]⟩ (cs.map oneS) = PySem.Str.join ⟨#[]⟩ (cs.map oneS) := PySem.StrLaws.glued_eq_join _ _
  rw [q]
  exact PyProof.Rows.join_ones cs
theorem ones_sum : ∀ cs : List Nat, ((cs.map oneS).map (·.length)).sum = cs.length
  | [] => rfl
  | c :: cs => by
    rw [List.map_cons, List.map_cons, List.sum_cons, ones_sum cs, List.length_cons]
    show 1 + _ = _
    omega
theorem odd_int {i : Int} (h0 : 0 ≤ i) (h1 : i < 100000) : Odd (.int i) := Sz.int (by
  have a : i.natAbs < 2 ^ 17 := by omega
  have b : i.natAbs.log2 < 17 := by
    by_cases z : i.natAbs = 0
    · rw [z]; decide
    · exact (Nat.log2_lt z).mpr a
  omega) (by decide)
theorem odd_str {cs : List Nat} (h : ∀ c ∈ cs, c < 128) (hl : cs.length ≤ 63) : Odd (.str ⟨cs.toArray⟩) := Sz.str (by simpa using h) (by
  show (cs.toArray).size ≤ 2000
  rw [List.size_toArray]
  omega)
theorem letter_lt {i : Int} {c : Nat} (h : atI letters.cps.toList i = some c) : c < 128 := by
  have m : c ∈ letters.cps.toList := by
    unfold atI at h
    cases e : ixN letters.cps.toList.length i with
    | none => rw [e] at h; cases h
    | some j => rw [e] at h; exact List.mem_of_getElem? h
  have all : letters.cps.toList.all (fun c => decide (c < 128)) = true := by decide +kernel
  exact of_decide_eq_true (List.all_eq_true.mp all c m)
abbrev nm_law : List Str := ["_law_script", "_law_feed_here", "_law_item", "_law_lap", "_law_number", "_law_act", "_law_title", "_law_turn", "_law_far"]
theorem sc_law : FnScope nm_law ["_law_script"] (defScope s_law) := ⟨rfl, rfl, rfl, by decide +kernel, rfl, by decide +kernel, by decide +kernel⟩
theorem fn_law (T : Txt K mg) {f : Addr} {fd : FuncData} (FF : Fun K "law" "law" s_law f fd) : FnG P w K mg base CX0 7 f fd ["_law_script"] (spLaw K) := by
  refine okG FF sc_law spLaw_len (fun cdv A outer s H vs Q E gd hr h => ?_)
  have hu := hu_of hr
  have hu64 : (A.deeper (PyProof.Rows.envOfC "law" (defScope s_law) s.heap.objs.size f cdv)).units + 64 < cLine := by have := hr.un; omega
  have hu80 : (A.deeper (PyProof.Rows.envOfC "law" (defScope s_law) s.heap.objs.size f cdv)).units + 80 < cLine := by have := hr.un; omega
  obtain ⟨a, ns, rfl, hS, hl, k⟩ := h
  refine ⟨_, (pss_cons (ps_set (i := 1) sc_law.nd rfl (by first | exact Or.inl rfl | exact Or.inr rfl) (pe_g (ok__law_feed T) gd hr (by decide) (by rfl) (pa_cons (pv 0) pa_nil)))
    (pss_cons (ps_if (pt_cmpR (op_neD hu64) (pe_lc (own := [("_law_item", 2)]) rfl sc_law.nd (pi_list (pe_g0 (ok__law_odds T) gd hr (by decide) (by rfl))) (blkOk_by (N := nm_law) (sc := defScope s_law) (by decide +kernel)) (fun _ _ _ _ _ => (pg_name (i := 2) sc_law.nd rfl (by first | exact Or.inl rfl | exact Or.inr rfl))) (fun _ _ _ _ _ => (pts_one (pt_not (pt_val (pe_g (ok__law_is_right T) gd hr (by decide) (by rfl) (pa_cons (pv 2) pa_nil)))))) (fun _ _ _ _ _ => (pv 2))) (pe_lst pa_nil) (nomark _)) (pss_one (ps_ret pe_bl)) pss_nil)
    (pss_cons (ps_for PassesOwn.never rfl (pi_range1 rfl T.b_range (pa_cons pe_int pa_nil)) (pg_name (i := 3) sc_law.nd rfl (by first | exact Or.inl rfl | exact Or.inr rfl))
    (pss_cons (ps_set (i := 4) sc_law.nd rfl (by first | exact Or.inl rfl | exact Or.inr rfl) (pe_g (ok__law_any T) gd hr (by decide) (by rfl) (pa_cons (pv 1) (pa_cons (pe_lst (pa_cons (pe_g (ok__law_draw T) gd hr (by decide) (by rfl) (pa_cons (pv 1) (pa_cons pe_int pa_nil))) (pa_cons (pe_g (ok__law_draw T) gd hr (by decide) (by rfl) (pa_cons (pv 1) (pa_cons pe_int pa_nil))) (pa_cons (pe_op op_add pe_int (pe_g (ok__law_draw T) gd hr (by decide) (by rfl) (pa_cons (pv 1) (pa_cons pe_int pa_nil)))) pa_nil)))) pa_nil))))
    (pss_cons (ps_set (i := 5) sc_law.nd rfl (by first | exact Or.inl rfl | exact Or.inr rfl) (pe_tup (pa_cons (pe_g (ok__law_any T) gd hr (by decide) (by rfl) (pa_cons (pv 1) (pa_cons (pe_lit _ _ rfl) pa_nil))) (pa_cons (pv 4) pa_nil))))
    (pss_cons (ps_set (i := 6) sc_law.nd rfl (by first | exact Or.inl rfl | exact Or.inr rfl) (pe_join pe_str (pe_lc (own := [("_law_turn", 7)]) rfl sc_law.nd (pi_range1 rfl T.b_range (pa_cons (pe_g (ok__law_draw T) gd hr (by decide) (by rfl) (pa_cons (pv 1) (pa_cons pe_int pa_nil))) pa_nil)) (blkOk_by (N := nm_law) (sc := defScope s_law) (by decide +kernel)) (fun _ _ _ _ _ => (pg_name (i := 7) sc_law.nd rfl (by first | exact Or.inl rfl | exact Or.inr rfl))) (fun _ _ _ _ _ => pts_nil) (fun _ _ _ _ _ => (pe_ix ix_str pe_str (pe_g (ok__law_draw T) gd hr (by decide) (by rfl) (pa_cons (pv 1) (pa_cons pe_int pa_nil))) (fun _ _ => rfl))))))
    (pss_cons (ps_set (i := 8) sc_law.nd rfl (by first | exact Or.inl rfl | exact Or.inr rfl) (pe_g (ok__law_any T) gd hr (by decide) (by rfl) (pa_cons (pv 1) (pa_cons (pe_lst (pa_cons (pe_tup (pa_cons pe_str (pa_cons (pv 6) pa_nil))) (pa_cons (pe_tup (pa_cons pe_str (pa_cons (pv 6) pa_nil))) (pa_cons (pe_tup (pa_cons pe_str (pa_cons (pe_g (ok__law_any T) gd hr (by decide) (by rfl) (pa_cons (pv 1) (pa_cons (pe_lit _ _ rfl) pa_nil))) pa_nil))) pa_nil)))) pa_nil))))
    (pss_one (ps_for PassesOwn.never rfl (pi_list (pe_lst (pa_cons (pv 5) (pa_cons (pv 8) (pa_cons (pe_g (ok__law_near T) gd hr (by decide) (by rfl) (pa_cons (pv 1) (pa_cons (pv 5) pa_nil))) (pa_cons (pe_g (ok__law_near T) gd hr (by decide) (by rfl) (pa_cons (pv 1) (pa_cons (pv 8) pa_nil))) pa_nil)))))) (pg_name (i := 2) sc_law.nd rfl (by first | exact Or.inl rfl | exact Or.inr rfl))
    (pss_one (ps_if (pt_not (pt_val (pe_g (ok__law_is_right T) gd hr (by decide) (by rfl) (pa_cons (pv 2) pa_nil)))) (pss_one (ps_ret pe_bl)) pss_nil)))))))))
    (pss_one (ps_ret pe_bl))))), ?_⟩
  refine ⟨_, rfl, a, ns, rfl, hS, hl, fun fa C H1 s1 nf F1 => ?_⟩
  -- the odd ones
  refine ⟨rfl, fun p H2 s2 L => ?_⟩
  obtain ⟨vs, ds, hp, al, hn, hodd⟩ := L.ex
  refine ⟨p, rfl, ⟨vs, .inl (.inl hp)⟩, fun D hD => lc_list (K := K) (a := p) (xs := vs) (fun i H3 => Same H2 H3 ∧ H3 D = some (.lst [])) ⟨Same.upd hD, upd_same⟩ (fun i H3 _ h => h.1.seq (.inl (.inl hp))) ?_ ?_⟩
  · rintro i v H3 hi ⟨s3, h3⟩
    obtain ⟨d, hd, dv⟩ := al.getV hi
    refine ⟨rfl, ?_⟩
    refine ⟨_, rfl, v, d, rfl, (Held.of s3).dp _ _ dv, (hodd d (List.mem_of_getElem? hd)).mono (by decide) (by decide), fun H4 s4 => ⟨_, rfl, ?_⟩⟩
    exact iteF ⟨s3.trans s4, s4 _ _ h3⟩
  rintro H3 ⟨s3, h3⟩
  refine ⟨thousand (by decide), fun q nq => ?_⟩
  refine ⟨.list [], .list [], (Held.upd nq).dp _ _ (.lst (.inl (.inl h3)) .nil), .lst (.inl (.inl upd_same)) .nil, nil_sz, nil_sz, _, rfl, ?_⟩
  rw [eqv_nil]
  refine iteF ?_
  have F3 : Feed K (upd H3 q (.lst [])) fa C := (F1.same (s2.trans s3)).same (Same.upd nq)
  generalize upd H3 q (.lst []) = H4 at F3 ⊢
  refine ⟨40, rfl, by decide, by decide, for_range (n := 40) (fun i σ H5 => ∃ o2 o3 o4 o5 o6 o7 o8, σ = [some (.ref a), some (.ref fa), o2, o3, o4, o5, o6, o7, o8] ∧ Feed K H5 fa C)
    ⟨_, _, _, _, _, _, _, rfl, F3⟩ ?_ (fun σ H5 _ => k H5)⟩
  rintro lap σ H5 hlap ⟨o2, o3, o4, o5, o6, o7, o8, rfl, F5⟩
  -- a number
  refine ⟨_, rfl, _, rfl, fa, 10200, rfl, C, F5, by decide, by decide, fun r1 H6 a1 b1 F6 k6 => ?_⟩
  refine ⟨_, rfl, fa, 300, rfl, C, F6, by decide, by decide, fun r2 H7 a2 b2 F7 k7 => ?_⟩
  refine ⟨_, rfl, fa, 400, rfl, C, F7, by decide, by decide, fun r3 H8 a3 b3 F8 k8 => ?_⟩
  refine ⟨_, _, rfl, rfl, thousand (by show 3 ≤ 1000; decide), fun p9 n9 => ?_⟩
  have t9 : Same H8 _ := Same.upd (o := .lst [.int r1, .int r2, .int (9700 + r3)]) n9
  have d9 : Dp K (upd H8 p9 (.lst [.int r1, .int r2, .int (9700 + r3)])) (.ref p9) (.list [.int r1, .int r2, .int (9700 + r3)]) := Dp.newL (.cons (.int _) (.cons (.int _) (.cons (.int _) .nil))) n9
  refine ⟨fa, p9, _, rfl, C, F8.same t9, d9, by simp, by simp, fun nv nd H10 hnd dn F10 k10 => ?_⟩
  obtain ⟨m, rfl, m0, m1⟩ : ∃ m : Int, nd = .int m ∧ 0 ≤ m ∧ m < 100000 := by
    simp only [List.mem_cons, List.not_mem_nil, or_false] at hnd
    rcases hnd with rfl | rfl | rfl
    · exact ⟨_, rfl, by omega, by omega⟩
    · exact ⟨_, rfl, by omega, by omega⟩
    · exact ⟨_, rfl, by omega, by omega⟩
  cases dn
  -- the act
  refine ⟨_, rfl, ?_⟩
  intro vL H11 s11 dL
  obtain ⟨pL, vsL, rfl, qL, aL⟩ := dL.asL
  refine ⟨fa, pL, _, rfl, C, F10.same s11, dL, by simp, by decide, fun wv w H12 hw dw F12 k12 => ?_⟩
  have ow : Odd w := odd_all (by decide +kernel) w hw
  refine ⟨_, rfl, thousand (by show 2 ≤ 1000; decide), fun pA nA => ?_⟩
  have dA : Dp K (upd H12 pA (.tup [wv, .int m])) (.ref pA) (.tuple [w, .int m]) := Dp.newT (.cons dw (.cons (.int m) .nil)) nA
  have F13 : Feed K (upd H12 pA (.tup [wv, .int m])) fa C := F12.same (Same.upd nA)
  generalize upd H12 pA (.tup [wv, .int m]) = H13 at dA F13 ⊢
  have oA : Odd (.int m) := odd_int m0 m1
  -- the title
  refine ⟨⟨_, rfl⟩, _, rfl, fa, 10, rfl, C, F13, by decide, by decide, fun rt H14 a14 b14 F14 k14 => ?_⟩
  have w14 := F13.held k14
  refine ⟨rt, rfl, by omega, by omega, fun D hD => lc_range (fun j H15 => Feed K H15 fa C ∧ Held H13 H15 ∧ ∃ cs : List Nat, H15 D = some (.lst ((cs.map oneS).map V.str)) ∧ cs.length = j ∧ ∀ c ∈ cs, c < 128)
    ⟨F14.same (Same.upd hD), w14.trans (Held.upd hD), [], upd_same, rfl, fun c hc => by cases hc⟩ ?_ ?_⟩
  · rintro j H15 hj ⟨F15, w15, cs, hcs, hlen, hlt⟩
    have ap := F14.apart hD
    refine ⟨rfl, ?_⟩
    refine lcYes ?_
    refine ⟨_, rfl, fa, 26, rfl, C, F15, by decide, by decide, fun rr H16 a16 b16 F16 k16 => ?_⟩
    obtain ⟨c, hc, _⟩ := atI_in (xs := letters.cps.toList) a16 b16
    have h16 := k16 D _ hcs ap.1
    have hj10 : j < rt.toNat := hj
    refine ⟨letters, rr, c, rfl, rfl, by decide, hc, _, h16, ?_, F16.put ap _, ?_, cs ++ [c], ?_, ?_, ?_⟩
    · rw [List.length_map, List.length_map, hlen, sizeLine_eq]
      omega
    · exact Held.put (w15.trans (F15.held k16)) w14 hD
    · rw [upd_same, List.map_append, List.map_append]
      rfl
    · rw [List.length_append, hlen]
      rfl
    · intro x hx
      rcases List.mem_append.mp hx with hx | hx
      · exact hlt x hx
      · rw [List.mem_singleton.mp hx]
        exact letter_lt hc
  rintro H17 ⟨F17, w17, cs, hcs, hlen, hlt⟩
  have l10 : cs.length ≤ 9 := by rw [hlen]; show rt.toNat ≤ 9; omega
  refine ⟨"", D, cs.map oneS, rfl, rfl, .inl (.inl (.inl hcs)), ?_, ?_⟩
  · rw [ones_sum]
    show cs.length + _ * 0 ≤ 16777216
    omega
  rw [join_one]
  have oT : Odd (.str ⟨cs.toArray⟩) := odd_str hlt (by omega)
  generalize (⟨cs.toArray⟩ : Str) = title at oT ⊢
  -- something else
  refine ⟨_, rfl, _, rfl, thousand (by show 2 ≤ 1000; decide), fun pB nB => ?_⟩
  have tB : Same H17 _ := Same.upd (o := .tup [.str "note", .str title]) nB
  have dB : Dp K (upd H17 pB (.tup [.str "note", .str title])) (.ref pB) (.tuple [.str "note", .str title]) := Dp.newT (.cons (.str _) (.cons (.str _) .nil)) nB
  generalize upd H17 pB (.tup [.str "note", .str title]) = H18 at tB dB ⊢
  refine ⟨_, rfl, thousand (by show 2 ≤ 1000; decide), fun pC nC => ?_⟩
  have tC' : Same H18 _ := Same.upd (o := .tup [.str "hold", .str title]) nC
  have dC : Dp K (upd H18 pC (.tup [.str "hold", .str title])) (.ref pC) (.tuple [.str "hold", .str title]) := Dp.newT (.cons (.str _) (.cons (.str _) .nil)) nC
  generalize upd H18 pC (.tup [.str "hold", .str title]) = H19 at tC' dC ⊢
  refine ⟨_, rfl, ?_⟩
  intro vM H20 s20 dM
  obtain ⟨pM, vsM, rfl, qM, aM⟩ := dM.asL
  have F20 := F17.same ((tB.trans tC').trans s20)
  refine ⟨fa, pM, _, rfl, C, F20, dM, by simp, by decide, fun hv hw' H21 hhw dhv F21 k21 => ?_⟩
  have oh : Odd hw' := odd_all (by decide +kernel) hw' hhw
  have w21 := F20.held k21
  refine ⟨thousand (by show 2 ≤ 1000; decide), fun pE nE => ?_⟩
  have tE : Same H21 _ := Same.upd (o := .tup [.str "hold", hv]) nE
  have dE : Dp K (upd H21 pE (.tup [.str "hold", hv])) (.ref pE) (.tuple [.str "hold", hw']) := Dp.newT (.cons (.str _) (.cons dhv .nil)) nE
  generalize upd H21 pE (.tup [.str "hold", hv]) = H22 at tE dE ⊢
  have w22 : Held H19 H22 := (Held.of s20).trans (w21.trans (Held.of tE))
  have all22 : DpAll K H22 [.ref pB, .ref pC, .ref pE] [.tuple [.str "note", .str title], .tuple [.str "hold", .str title], .tuple [.str "hold", hw']] :=
    .cons (w22.dp _ _ ((Held.of tC').dp _ _ dB)) (.cons (w22.dp _ _ dC) (.cons dE .nil))
  refine ⟨thousand (by show 3 ≤ 1000; decide), fun pG nG => ?_⟩
  have tG : Same H22 _ := Same.upd (o := .lst [.ref pB, .ref pC, .ref pE]) nG
  have dG := Dp.newL all22 nG
  have F23 : Feed K (upd H22 pG (.lst [.ref pB, .ref pC, .ref pE])) fa C := (F21.same tE).same tG
  have w23 : Held H13 (upd H22 pG (.lst [.ref pB, .ref pC, .ref pE])) := w17.trans ((Held.of (tB.trans tC')).trans (w22.trans (Held.of tG)))
  generalize upd H22 pG (.lst [.ref pB, .ref pC, .ref pE]) = H23 at dG F23 w23 ⊢
  refine ⟨fa, pG, _, rfl, C, F23, dG, by simp, by simp, fun fv fd H24 hfd dfar F24 k24 => ?_⟩
  obtain ⟨x, y, rfl, ox, oy⟩ : ∃ x y, fd = .tuple [x, y] ∧ Odd x ∧ Odd y := by
    have on : Odd (.str "note") := szB_of (by decide +kernel)
    have oo : Odd (.str "hold") := szB_of (by decide +kernel)
    simp only [List.mem_cons, List.not_mem_nil, or_false] at hfd
    rcases hfd with rfl | rfl | rfl
    · exact ⟨_, _, rfl, on, oT⟩
    · exact ⟨_, _, rfl, oo, oT⟩
    · exact ⟨_, _, rfl, oo, oh⟩
  have dA24 := (w23.trans (F23.held k24)).dp _ _ dA
  -- the four
  refine ⟨_, rfl, _, rfl, _, rfl, _, rfl, fa, .ref pA, _, _, rfl, C, F24, dA24, ow, oA, fun nv1 nd1 H25 dn1 sn1 F25 k25 => ?_⟩
  have w25 := F24.held k25
  refine ⟨_, rfl, _, rfl, fa, fv, _, _, rfl, C, F25, w25.dp _ _ dfar, ox, oy, fun nv2 nd2 H26 dn2 sn2 F26 k26 => ?_⟩
  have w26 := F25.held k26
  have pair_sz : ∀ {c e : PyData}, Odd c → Odd e → Sz 40 20000 (.tuple [c, e]) := fun {c e} hc he => big_t (fun z hz => by
    simp only [List.mem_cons, List.not_mem_nil, or_false] at hz
    rcases hz with rfl | rfl
    · exact big_o hc
    · exact big_o he) (by simp)
  have all26 : DpAll K H26 [.ref pA, fv, nv1, nv2] [.tuple [w, .int m], .tuple [x, y], nd1, nd2] :=
    .cons ((w25.trans w26).dp _ _ dA24) (.cons ((w25.trans w26).dp _ _ dfar) (.cons (w26.dp _ _ dn1) (.cons dn2 .nil)))
  have sz26 : ∀ d ∈ [.tuple [w, .int m], .tuple [x, y], nd1, nd2], Sz 40 20000 d := by
    intro d hd
    simp only [List.mem_cons, List.not_mem_nil, or_false] at hd
    rcases hd with rfl | rfl | rfl | rfl
    · exact pair_sz ow oA
    · exact pair_sz ox oy
    · exact sn1
    · exact sn2
  refine ⟨thousand (by show 4 ≤ 1000; decide), fun pH nH => ?_⟩
  have tH : Same H26 _ := Same.upd (o := .lst [.ref pA, fv, nv1, nv2]) nH
  have eH : (upd H26 pH (.lst [.ref pA, fv, nv1, nv2])) pH = some (.lst [.ref pA, fv, nv1, nv2]) := upd_same
  have dH := (Held.of tH).dpAll _ _ all26
  have F27 := F26.same tH
  generalize upd H26 pH (.lst [.ref pA, fv, nv1, nv2]) = H27 at tH eH dH F27 ⊢
  refine ⟨pH, rfl, ⟨_, .inl (.inl eH)⟩, for_list (K := K) (a := pH) (xs := [.ref pA, fv, nv1, nv2])
    (fun i σ H' => ∃ q2 q3 q4 q5 q6 q7 q8, σ = [some (.ref a), some (.ref fa), q2, q3, q4, q5, q6, q7, q8] ∧ Same H27 H') ⟨_, _, _, _, _, _, _, rfl, .refl _⟩ (fun i σ H' _ ⟨_, _, _, _, _, _, _, _, s'⟩ => s'.seq (.inl (.inl eH))) ?_ ?_⟩
  · rintro i v σ H28 hi ⟨q2, q3, q4, q5, q6, q7, q8, rfl, s28⟩
    obtain ⟨d, hd, dv⟩ := dH.getV hi
    refine ⟨_, rfl, v, d, rfl, (Held.of s28).dp _ _ dv, sz26 d (List.mem_of_getElem? hd), fun H29 s29 => ⟨_, rfl, ?_⟩⟩
    exact iteF ⟨_, _, _, _, _, _, _, rfl, s28.trans s29⟩
  · rintro σ H28 ⟨q2, q3, q4, q5, q6, q7, q8, rfl, s28⟩
    exact ⟨_, _, _, _, _, _, _, rfl, F27.same s28⟩
end
end Z

set_option maxRecDepth 100000
set_option maxHeartbeats 4000000
namespace Z
open PySem L2 G
theorem all_mk {l : PySem.W.OpenLaw} {w : World} {K : PySem.W.Frag} {h : Heap} {mg : Str → Option Value} {fa : Addr} (X : K.In h) (G : h.Ns mainGlobals mg) (hfa : mg "law" = some (.ref fa))
    {f_is_integer : Addr} {od_is_integer an_is_integer : Option Addr} {sl_is_integer : Array (Option Value)} {oc_is_integer kV_is_integer dc_is_integer pm_is_integer cd_is_integer ct_is_integer : Value}
    {f_is_number : Addr} {od_is_number an_is_number : Option Addr} {sl_is_number : Array (Option Value)} {oc_is_number kV_is_number dc_is_number pm_is_number cd_is_number ct_is_number : Value}
    {f_is_below : Addr} {od_is_below an_is_below : Option Addr} {sl_is_below : Array (Option Value)} {oc_is_below kV_is_below dc_is_below pm_is_below cd_is_below ct_is_below : Value}
    {f_is_prime : Addr} {od_is_prime an_is_prime : Option Addr} {sl_is_prime : Array (Option Value)} {oc_is_prime kV_is_prime dc_is_prime pm_is_prime cd_is_prime ct_is_prime : Value}
    {f_is_pair : Addr} {od_is_pair an_is_pair : Option Addr} {sl_is_pair : Array (Option Value)} {oc_is_pair kV_is_pair dc_is_pair pm_is_pair cd_is_pair ct_is_pair : Value}
    {f_is_name : Addr} {od_is_name an_is_name : Option Addr} {sl_is_name : Array (Option Value)} {oc_is_name kV_is_name dc_is_name pm_is_name cd_is_name ct_is_name : Value}
    {f_is_hold : Addr} {od_is_hold an_is_hold : Option Addr} {sl_is_hold : Array (Option Value)} {oc_is_hold kV_is_hold dc_is_hold pm_is_hold cd_is_hold ct_is_hold : Value}
    {f_is_event : Addr} {od_is_event an_is_event : Option Addr} {sl_is_event : Array (Option Value)} {oc_is_event kV_is_event dc_is_event pm_is_event cd_is_event ct_is_event : Value}
    {f__law_feed : Addr} {od__law_feed an__law_feed : Option Addr} {sl__law_feed : Array (Option Value)} {oc__law_feed kV__law_feed dc__law_feed pm__law_feed cd__law_feed ct__law_feed : Value}
    {f__law_draw : Addr} {od__law_draw an__law_draw : Option Addr} {sl__law_draw : Array (Option Value)} {oc__law_draw kV__law_draw dc__law_draw pm__law_draw cd__law_draw ct__law_draw : Value}
    {f__law_any : Addr} {od__law_any an__law_any : Option Addr} {sl__law_any : Array (Option Value)} {oc__law_any kV__law_any dc__law_any pm__law_any cd__law_any ct__law_any : Value}
    {f__law_is_prime : Addr} {od__law_is_prime an__law_is_prime : Option Addr} {sl__law_is_prime : Array (Option Value)} {oc__law_is_prime kV__law_is_prime dc__law_is_prime pm__law_is_prime cd__law_is_prime ct__law_is_prime : Value}
    {f__law_is_title : Addr} {od__law_is_title an__law_is_title : Option Addr} {sl__law_is_title : Array (Option Value)} {oc__law_is_title kV__law_is_title dc__law_is_title pm__law_is_title cd__law_is_title ct__law_is_title : Value}
    {f__law_is_act : Addr} {od__law_is_act an__law_is_act : Option Addr} {sl__law_is_act : Array (Option Value)} {oc__law_is_act kV__law_is_act dc__law_is_act pm__law_is_act cd__law_is_act ct__law_is_act : Value}
    {f__law_odds : Addr} {od__law_odds an__law_odds : Option Addr} {sl__law_odds : Array (Option Value)} {oc__law_odds kV__law_odds dc__law_odds pm__law_odds cd__law_odds ct__law_odds : Value}
    {f__law_near : Addr} {od__law_near an__law_near : Option Addr} {sl__law_near : Array (Option Value)} {oc__law_near kV__law_near dc__law_near pm__law_near cd__law_near ct__law_near : Value}
    {f__law_is_right : Addr} {od__law_is_right an__law_is_right : Option Addr} {sl__law_is_right : Array (Option Value)} {oc__law_is_right kV__law_is_right dc__law_is_right pm__law_is_right cd__law_is_right ct__law_is_right : Value}
    {f_law : Addr} {od_law an_law : Option Addr} {sl_law : Array (Option Value)} {oc_law kV_law dc_law pm_law cd_law ct_law : Value}
    (a_is_integer : PySem.W.nsIn K mainGlobals "is_integer" = some (some (.ref f_is_integer))) (l_is_integer : K.lookup f_is_integer = some ⟨oc_is_integer, od_is_integer, .func (PySem.W.fnOf "is_integer" "is_integer" (defArgs s_is_integer) (defBody s_is_integer) (defScope s_is_integer) .none kV_is_integer dc_is_integer pm_is_integer an_is_integer cd_is_integer ct_is_integer), sl_is_integer⟩) (c_is_integer : PySem.W.codeIn K cd_is_integer "is_integer" = true) (k_is_integer : PySem.W.keepIn K (.ref f_is_integer) = true)
    (a_is_number : PySem.W.nsIn K mainGlobals "is_number" = some (some (.ref f_is_number))) (l_is_number : K.lookup f_is_number = some ⟨oc_is_number, od_is_number, .func (PySem.W.fnOf "is_number" "is_number" (defArgs s_is_number) (defBody s_is_number) (defScope s_is_number) .none kV_is_number dc_is_number pm_is_number an_is_number cd_is_number ct_is_number), sl_is_number⟩) (c_is_number : PySem.W.codeIn K cd_is_number "is_number" = true) (k_is_number : PySem.W.keepIn K (.ref f_is_number) = true)
    (a_is_below : PySem.W.nsIn K mainGlobals "is_below" = some (some (.ref f_is_below))) (l_is_below : K.lookup f_is_below = some ⟨oc_is_below, od_is_below, .func (PySem.W.fnOf "is_below" "is_below" (defArgs s_is_below) (defBody s_is_below) (defScope s_is_below) .none kV_is_below dc_is_below pm_is_below an_is_below cd_is_below ct_is_below), sl_is_below⟩) (c_is_below : PySem.W.codeIn K cd_is_below "is_below" = true) (k_is_below : PySem.W.keepIn K (.ref f_is_below) = true)
    (a_is_prime : PySem.W.nsIn K mainGlobals "is_prime" = some (some (.ref f_is_prime))) (l_is_prime : K.lookup f_is_prime = some ⟨oc_is_prime, od_is_prime, .func (PySem.W.fnOf "is_prime" "is_prime" (defArgs s_is_prime) (defBody s_is_prime) (defScope s_is_prime) .none kV_is_prime dc_is_prime pm_is_prime an_is_prime cd_is_prime ct_is_prime), sl_is_prime⟩) (c_is_prime : PySem.W.codeIn K cd_is_prime "is_prime" = true) (k_is_prime : PySem.W.keepIn K (.ref f_is_prime) = true)
    (a_is_pair : PySem.W.nsIn K mainGlobals "is_pair" = some (some (.ref f_is_pair))) (l_is_pair : K.lookup f_is_pair = some ⟨oc_is_pair, od_is_pair, .func (PySem.W.fnOf "is_pair" "is_pair" (defArgs s_is_pair) (defBody s_is_pair) (defScope s_is_pair) .none kV_is_pair dc_is_pair pm_is_pair an_is_pair cd_is_pair ct_is_pair), sl_is_pair⟩) (c_is_pair : PySem.W.codeIn K cd_is_pair "is_pair" = true) (k_is_pair : PySem.W.keepIn K (.ref f_is_pair) = true)
    (a_is_name : PySem.W.nsIn K mainGlobals "is_name" = some (some (.ref f_is_name))) (l_is_name : K.lookup f_is_name = some ⟨oc_is_name, od_is_name, .func (PySem.W.fnOf "is_name" "is_name" (defArgs s_is_name) (defBody s_is_name) (defScope s_is_name) .none kV_is_name dc_is_name pm_is_name an_is_name cd_is_name ct_is_name), sl_is_name⟩) (c_is_name : PySem.W.codeIn K cd_is_name "is_name" = true) (k_is_name : PySem.W.keepIn K (.ref f_is_name) = true)
    (a_is_hold : PySem.W.nsIn K mainGlobals "is_hold" = some (some (.ref f_is_hold))) (l_is_hold : K.lookup f_is_hold = some ⟨oc_is_hold, od_is_hold, .func (PySem.W.fnOf "is_hold" "is_hold" (defArgs s_is_hold) (defBody s_is_hold) (defScope s_is_hold) .none kV_is_hold dc_is_hold pm_is_hold an_is_hold cd_is_hold ct_is_hold), sl_is_hold⟩) (c_is_hold : PySem.W.codeIn K cd_is_hold "is_hold" = true) (k_is_hold : PySem.W.keepIn K (.ref f_is_hold) = true)
    (a_is_event : PySem.W.nsIn K mainGlobals "is_event" = some (some (.ref f_is_event))) (l_is_event : K.lookup f_is_event = some ⟨oc_is_event, od_is_event, .func (PySem.W.fnOf "is_event" "is_event" (defArgs s_is_event) (defBody s_is_event) (defScope s_is_event) .none kV_is_event dc_is_event pm_is_event an_is_event cd_is_event ct_is_event), sl_is_event⟩) (c_is_event : PySem.W.codeIn K cd_is_event "is_event" = true) (k_is_event : PySem.W.keepIn K (.ref f_is_event) = true)
    (a__law_feed : PySem.W.nsIn K mainGlobals "_law_feed" = some (some (.ref f__law_feed))) (l__law_feed : K.lookup f__law_feed = some ⟨oc__law_feed, od__law_feed, .func (PySem.W.fnOf "_law_feed" "_law_feed" (defArgs s__law_feed) (defBody s__law_feed) (defScope s__law_feed) .none kV__law_feed dc__law_feed pm__law_feed an__law_feed cd__law_feed ct__law_feed), sl__law_feed⟩) (c__law_feed : PySem.W.codeIn K cd__law_feed "_law_feed" = true) (k__law_feed : PySem.W.keepIn K (.ref f__law_feed) = true)
    (a__law_draw : PySem.W.nsIn K mainGlobals "_law_draw" = some (some (.ref f__law_draw))) (l__law_draw : K.lookup f__law_draw = some ⟨oc__law_draw, od__law_draw, .func (PySem.W.fnOf "_law_draw" "_law_draw" (defArgs s__law_draw) (defBody s__law_draw) (defScope s__law_draw) .none kV__law_draw dc__law_draw pm__law_draw an__law_draw cd__law_draw ct__law_draw), sl__law_draw⟩) (c__law_draw : PySem.W.codeIn K cd__law_draw "_law_draw" = true) (k__law_draw : PySem.W.keepIn K (.ref f__law_draw) = true)
    (a__law_any : PySem.W.nsIn K mainGlobals "_law_any" = some (some (.ref f__law_any))) (l__law_any : K.lookup f__law_any = some ⟨oc__law_any, od__law_any, .func (PySem.W.fnOf "_law_any" "_law_any" (defArgs s__law_any) (defBody s__law_any) (defScope s__law_any) .none kV__law_any dc__law_any pm__law_any an__law_any cd__law_any ct__law_any), sl__law_any⟩) (c__law_any : PySem.W.codeIn K cd__law_any "_law_any" = true) (k__law_any : PySem.W.keepIn K (.ref f__law_any) = true)
    (a__law_is_prime : PySem.W.nsIn K mainGlobals "_law_is_prime" = some (some (.ref f__law_is_prime))) (l__law_is_prime : K.lookup f__law_is_prime = some ⟨oc__law_is_prime, od__law_is_prime, .func (PySem.W.fnOf "_law_is_prime" "_law_is_prime" (defArgs s__law_is_prime) (defBody s__law_is_prime) (defScope s__law_is_prime) .none kV__law_is_prime dc__law_is_prime pm__law_is_prime an__law_is_prime cd__law_is_prime ct__law_is_prime), sl__law_is_prime⟩) (c__law_is_prime : PySem.W.codeIn K cd__law_is_prime "_law_is_prime" = true) (k__law_is_prime : PySem.W.keepIn K (.ref f__law_is_prime) = true)
    (a__law_is_title : PySem.W.nsIn K mainGlobals "_law_is_title" = some (some (.ref f__law_is_title))) (l__law_is_title : K.lookup f__law_is_title = some ⟨oc__law_is_title, od__law_is_title, .func (PySem.W.fnOf "_law_is_title" "_law_is_title" (defArgs s__law_is_title) (defBody s__law_is_title) (defScope s__law_is_title) .none kV__law_is_title dc__law_is_title pm__law_is_title an__law_is_title cd__law_is_title ct__law_is_title), sl__law_is_title⟩) (c__law_is_title : PySem.W.codeIn K cd__law_is_title "_law_is_title" = true) (k__law_is_title : PySem.W.keepIn K (.ref f__law_is_title) = true)
    (a__law_is_act : PySem.W.nsIn K mainGlobals "_law_is_act" = some (some (.ref f__law_is_act))) (l__law_is_act : K.lookup f__law_is_act = some ⟨oc__law_is_act, od__law_is_act, .func (PySem.W.fnOf "_law_is_act" "_law_is_act" (defArgs s__law_is_act) (defBody s__law_is_act) (defScope s__law_is_act) .none kV__law_is_act dc__law_is_act pm__law_is_act an__law_is_act cd__law_is_act ct__law_is_act), sl__law_is_act⟩) (c__law_is_act : PySem.W.codeIn K cd__law_is_act "_law_is_act" = true) (k__law_is_act : PySem.W.keepIn K (.ref f__law_is_act) = true)
    (a__law_odds : PySem.W.nsIn K mainGlobals "_law_odds" = some (some (.ref f__law_odds))) (l__law_odds : K.lookup f__law_odds = some ⟨oc__law_odds, od__law_odds, .func (PySem.W.fnOf "_law_odds" "_law_odds" (defArgs s__law_odds) (defBody s__law_odds) (defScope s__law_odds) .none kV__law_odds dc__law_odds pm__law_odds an__law_odds cd__law_odds ct__law_odds), sl__law_odds⟩) (c__law_odds : PySem.W.codeIn K cd__law_odds "_law_odds" = true) (k__law_odds : PySem.W.keepIn K (.ref f__law_odds) = true)
    (a__law_near : PySem.W.nsIn K mainGlobals "_law_near" = some (some (.ref f__law_near))) (l__law_near : K.lookup f__law_near = some ⟨oc__law_near, od__law_near, .func (PySem.W.fnOf "_law_near" "_law_near" (defArgs s__law_near) (defBody s__law_near) (defScope s__law_near) .none kV__law_near dc__law_near pm__law_near an__law_near cd__law_near ct__law_near), sl__law_near⟩) (c__law_near : PySem.W.codeIn K cd__law_near "_law_near" = true) (k__law_near : PySem.W.keepIn K (.ref f__law_near) = true)
    (a__law_is_right : PySem.W.nsIn K mainGlobals "_law_is_right" = some (some (.ref f__law_is_right))) (l__law_is_right : K.lookup f__law_is_right = some ⟨oc__law_is_right, od__law_is_right, .func (PySem.W.fnOf "_law_is_right" "_law_is_right" (defArgs s__law_is_right) (defBody s__law_is_right) (defScope s__law_is_right) .none kV__law_is_right dc__law_is_right pm__law_is_right an__law_is_right cd__law_is_right ct__law_is_right), sl__law_is_right⟩) (c__law_is_right : PySem.W.codeIn K cd__law_is_right "_law_is_right" = true) (k__law_is_right : PySem.W.keepIn K (.ref f__law_is_right) = true)
    (a_law : PySem.W.nsIn K mainGlobals "law" = some (some (.ref f_law))) (l_law : K.lookup f_law = some ⟨oc_law, od_law, .func (PySem.W.fnOf "law" "law" (defArgs s_law) (defBody s_law) (defScope s_law) .none kV_law dc_law pm_law an_law cd_law ct_law), sl_law⟩) (c_law : PySem.W.codeIn K cd_law "law" = true) (k_law : PySem.W.keepIn K (.ref f_law) = true)
    (b_isinstance : PySem.W.nsIn K mainGlobals "isinstance" = some none)
    (b_int : PySem.W.nsIn K mainGlobals "int" = some none)
    (b_bool : PySem.W.nsIn K mainGlobals "bool" = some none)
    (b_str : PySem.W.nsIn K mainGlobals "str" = some none)
    (b_tuple : PySem.W.nsIn K mainGlobals "tuple" = some none)
    (b_len : PySem.W.nsIn K mainGlobals "len" = some none)
    (b_all : PySem.W.nsIn K mainGlobals "all" = some none)
    (b_repr : PySem.W.nsIn K mainGlobals "repr" = some none)
    (b_list : PySem.W.nsIn K mainGlobals "list" = some none)
    (b_range : PySem.W.nsIn K mainGlobals "range" = some none)
    {t1 t2 t3 : Tok} (g_PRIME_END : PySem.W.nsIn K mainGlobals "PRIME_END" = some (some (.int 10000 t1))) (g_LONGEST_NAME : PySem.W.nsIn K mainGlobals "LONGEST_NAME" = some (some (.int 8 t2)))
    (g_LETTERS : PySem.W.nsIn K mainGlobals "LETTERS" = some (some (.str "abcdefghijklmnopqrstuvwxyz" t3)))
    {hA : Addr} {odH : Option Addr} {t4 t5 t6 t7 : Tok} {nH : Nat} {slH : Array (Option Value)} (g_HOLDS : PySem.W.nsIn K mainGlobals "HOLDS" = some (some (.ref hA)))
    (l_HOLDS : K.lookup hA = some ⟨.type "tuple", odH, .seq #[.str "off" t4, .str "cyclic" t5, .str "commute" t6, .str "split" t7] nH, slH⟩) :
    ∃ fd : FuncData, (∀ (s : Shared) (v : Value), BindsTo s fd ⟨[v], []⟩ [("_law_script", v)]) ∧ ∀ base : Heap, K.In base → base.Ns mainGlobals mg → FnG l.prog w K mg base CX0 7 fa fd ["_law_script"] (spLaw K) := by
  have e := hfa.symm.trans (PySem.W.mg_of X G a_law)
  cases e
  have T : Txt K mg := {
    b_isinstance := PySem.W.mg_none_of X G b_isinstance
    b_int := PySem.W.mg_none_of X G b_int
    b_bool := PySem.W.mg_none_of X G b_bool
    b_str := PySem.W.mg_none_of X G b_str
    b_tuple := PySem.W.mg_none_of X G b_tuple
    b_len := PySem.W.mg_none_of X G b_len
    b_all := PySem.W.mg_none_of X G b_all
    b_repr := PySem.W.mg_none_of X G b_repr
    b_list := PySem.W.mg_none_of X G b_list
    b_range := PySem.W.mg_none_of X G b_range
    g_PRIME_END := ⟨_, PySem.W.mg_of X G g_PRIME_END, _, rfl⟩
    g_LONGEST_NAME := ⟨_, PySem.W.mg_of X G g_LONGEST_NAME, _, rfl⟩
    g_LETTERS := ⟨_, PySem.W.mg_of X G g_LETTERS, _, rfl⟩
    g_HOLDS := ⟨hA, PySem.W.mg_of X G g_HOLDS, fun H => .inr ⟨_, _, _, l_HOLDS, rfl, rfl, thousand (by show 4 ≤ 1000; decide), .cons ⟨_, rfl⟩ (.cons ⟨_, rfl⟩ (.cons ⟨_, rfl⟩ (.cons ⟨_, rfl⟩ .nil)))⟩⟩
    i_is_integer := Is.of X G a_is_integer l_is_integer c_is_integer k_is_integer
    i_is_number := Is.of X G a_is_number l_is_number c_is_number k_is_number
    i_is_below := Is.of X G a_is_below l_is_below c_is_below k_is_below
    i_is_prime := Is.of X G a_is_prime l_is_prime c_is_prime k_is_prime
    i_is_pair := Is.of X G a_is_pair l_is_pair c_is_pair k_is_pair
    i_is_name := Is.of X G a_is_name l_is_name c_is_name k_is_name
    i_is_hold := Is.of X G a_is_hold l_is_hold c_is_hold k_is_hold
    i_is_event := Is.of X G a_is_event l_is_event c_is_event k_is_event
    i__law_feed := Is.of X G a__law_feed l__law_feed c__law_feed k__law_feed
    i__law_draw := Is.of X G a__law_draw l__law_draw c__law_draw k__law_draw
    i__law_any := Is.of X G a__law_any l__law_any c__law_any k__law_any
    i__law_is_prime := Is.of X G a__law_is_prime l__law_is_prime c__law_is_prime k__law_is_prime
    i__law_is_title := Is.of X G a__law_is_title l__law_is_title c__law_is_title k__law_is_title
    i__law_is_act := Is.of X G a__law_is_act l__law_is_act c__law_is_act k__law_is_act
    i__law_odds := Is.of X G a__law_odds l__law_odds c__law_odds k__law_odds
    i__law_near := Is.of X G a__law_near l__law_near c__law_near k__law_near
    i__law_is_right := Is.of X G a__law_is_right l__law_is_right c__law_is_right k__law_is_right
    i_law := Is.of X G a_law l_law c_law k_law
  }
  exact ⟨PySem.W.fnOf "law" "law" (defArgs s_law) (defBody s_law) (defScope s_law) .none kV_law dc_law pm_law an_law cd_law ct_law, fun s v => .of_eq rfl, fun base _ _ => fn_law T (fun_mk l_law c_law k_law)⟩
end Z
open PySem PySem.W PyProof.Rows
set_option maxRecDepth 100000 in
set_option maxHeartbeats 0 in
theorem PySem.Challenge.cw_forcedtables_k64_whole_events_by_form_holds : PySem.Challenge.rw_forcedtables_k64_whole_events_by_form.Holds := by
  w_on; o_law; k_head; (case hw => w_witness2)
  k_fill
  refine G.walkG (l := PySem.Challenge.rw_forcedtables_k64_whole_events_by_form) (sp := Z.spLaw) (x := "_law_script") (n := 63) (k := 7) rfl (by decide) rfl ⟨rfl, by decide, by decide⟩ (fun w h Y => PySem.W.kIn_of Y) ?F (fun K H a ns hl hS => ⟨a, ns, rfl, hS, hl, fun _ => rfl⟩)
  case F =>
    intro w mg fa h KX G hmg
    refine' Z.all_mk KX G hmg ?a_is_integer ?l_is_integer ?c_is_integer ?k_is_integer ?a_is_number ?l_is_number ?c_is_number ?k_is_number ?a_is_below ?l_is_below ?c_is_below ?k_is_below ?a_is_prime ?l_is_prime ?c_is_prime ?k_is_prime ?a_is_pair ?l_is_pair ?c_is_pair ?k_is_pair ?a_is_name ?l_is_name ?c_is_name ?k_is_name ?a_is_hold ?l_is_hold ?c_is_hold ?k_is_hold ?a_is_event ?l_is_event ?c_is_event ?k_is_event ?a__law_feed ?l__law_feed ?c__law_feed ?k__law_feed ?a__law_draw ?l__law_draw ?c__law_draw ?k__law_draw ?a__law_any ?l__law_any ?c__law_any ?k__law_any ?a__law_is_prime ?l__law_is_prime ?c__law_is_prime ?k__law_is_prime ?a__law_is_title ?l__law_is_title ?c__law_is_title ?k__law_is_title ?a__law_is_act ?l__law_is_act ?c__law_is_act ?k__law_is_act ?a__law_odds ?l__law_odds ?c__law_odds ?k__law_odds ?a__law_near ?l__law_near ?c__law_near ?k__law_near ?a__law_is_right ?l__law_is_right ?c__law_is_right ?k__law_is_right ?a_law ?l_law ?c_law ?k_law ?b_isinstance ?b_int ?b_bool ?b_str ?b_tuple ?b_len ?b_all ?b_repr ?b_list ?b_range ?g_PRIME_END ?g_LONGEST_NAME ?g_LETTERS ?g_HOLDS ?l_HOLDS
    (case a_is_integer => k_is)
    (case l_is_integer => k_is)
    (case c_is_integer => k_is)
    (case k_is_integer => k_is)
    (case a_is_number => k_is)
    (case l_is_number => k_is)
    (case c_is_number => k_is)
    (case k_is_number => k_is)
    (case a_is_below => k_is)
    (case l_is_below => k_is)
    (case c_is_below => k_is)
    (case k_is_below => k_is)
    (case a_is_prime => k_is)
    (case l_is_prime => k_is)
    (case c_is_prime => k_is)
    (case k_is_prime => k_is)
    (case a_is_pair => k_is)
    (case l_is_pair => k_is)
    (case c_is_pair => k_is)
    (case k_is_pair => k_is)
    (case a_is_name => k_is)
    (case l_is_name => k_is)
    (case c_is_name => k_is)
    (case k_is_name => k_is)
    (case a_is_hold => k_is)
    (case l_is_hold => k_is)
    (case c_is_hold => k_is)
    (case k_is_hold => k_is)
    (case a_is_event => k_is)
    (case l_is_event => k_is)
    (case c_is_event => k_is)
    (case k_is_event => k_is)
    (case a__law_feed => k_is)
    (case l__law_feed => k_is)
    (case c__law_feed => k_is)
    (case k__law_feed => k_is)
    (case a__law_draw => k_is)
    (case l__law_draw => k_is)
    (case c__law_draw => k_is)
    (case k__law_draw => k_is)
    (case a__law_any => k_is)
    (case l__law_any => k_is)
    (case c__law_any => k_is)
    (case k__law_any => k_is)
    (case a__law_is_prime => k_is)
    (case l__law_is_prime => k_is)
    (case c__law_is_prime => k_is)
    (case k__law_is_prime => k_is)
    (case a__law_is_title => k_is)
    (case l__law_is_title => k_is)
    (case c__law_is_title => k_is)
    (case k__law_is_title => k_is)
    (case a__law_is_act => k_is)
    (case l__law_is_act => k_is)
    (case c__law_is_act => k_is)
    (case k__law_is_act => k_is)
    (case a__law_odds => k_is)
    (case l__law_odds => k_is)
    (case c__law_odds => k_is)
    (case k__law_odds => k_is)
    (case a__law_near => k_is)
    (case l__law_near => k_is)
    (case c__law_near => k_is)
    (case k__law_near => k_is)
    (case a__law_is_right => k_is)
    (case l__law_is_right => k_is)
    (case c__law_is_right => k_is)
    (case k__law_is_right => k_is)
    (case a_law => k_is)
    (case l_law => k_is)
    (case c_law => k_is)
    (case k_law => k_is)
    (case b_isinstance => k_is)
    (case b_int => k_is)
    (case b_bool => k_is)
    (case b_str => k_is)
    (case b_tuple => k_is)
    (case b_len => k_is)
    (case b_all => k_is)
    (case b_repr => k_is)
    (case b_list => k_is)
    (case b_range => k_is)
    (case g_PRIME_END => k_is)
    (case g_LONGEST_NAME => k_is)
    (case g_LETTERS => k_is)
    (case g_HOLDS => k_is)
    (case l_HOLDS => k_is)

