import PyProof.Rows.All
import Wide.All
import OpenK.AllK
import Wide.FinOn
import HandS.ForMost
import HandS.IsInst
import HandS.Defaults
import HandS.Flow
import HandS.MakeKwOnly
import PyProof.ReprRoads
import HandS.Wide
import HandS.Walk
import PyProof.ReprBulk
import PyProof.Rows.ReprOcc
import HandS.SetBool
import HandS.TupSets
import HandS.More
import HandS.Iter
import HandS.ClsMeth
import KE.KCallOwn
import HandS.Exc
import HandS.ExcField
import HandS.TryMany
import HandS.WordsExc
import KE.KDictDisplayH
import HandS.DictTup
import HandS.Lambda
import HandS.ExcInit
import HandS.ExcIs
import HandS.EndTab
import KE.KDflt
import KE.SortKeyHeap
import KE.KSortKey
import HandS.SortKw
import HandS.Strs
import HandS.SortRule
import HandS.FStr
import KE.KFmtOwn
import KE.SortData
import HandS.DictComp
import HandS.NoneIn
import HandS.MakeKw
import HandS.Comp
import HandS.WideBits
import PySem.Challenge.RW_gapsame_k57_turns_refused
import HandS.HeadHook4
import HandS.Head2
import KE.KExcPX
import Wide.Once
import HandS.Head0
import HandS.Head1
import HandS.HeadEnd
import KE.KStateDown
import HandS.SetKeys
import KE.GoesEnum
import KE.GoesMore
import HandS.Zip
import KE.KDictList
import KE.KNestM
set_option Elab.async false
set_option linter.all false
set_option maxRecDepth 100000
set_option maxHeartbeats 4000000
/-! Layer G: calls under which no guard stands, so that repr tells the whole; data with dicts; what a bag of draws is. -/
namespace Gs
open PySem PySem.Spec PyProof.Rows L2

theorem szl {n : Nat} (h : Nat.ble n 1000 = true) : n ≤ sizeLine := Nat.le_trans (Nat.le_of_ble_eq_true h) (by decide)
theorem szl2 {n : Nat} (h : Nat.ble n 1000 = true) : n ≤ 1000 := Nat.le_of_ble_eq_true h
theorem szm {n : Nat} (h : n ≤ 1000) : n ≤ sizeLine := Nat.le_trans h (by decide)
theorem szs {n : Nat} (h : n < 1000) : n < sizeLine := Nat.lt_of_lt_of_le h (by decide)
/-! ### promises of defs that are entered with no guard -/
structure FnG (P : Program) (w : World) (K : PySem.W.Frag) (mg : Str → Option Value) (base : Heap) (CX : CXT) (k : Nat) (f : Addr)
    (fd : FuncData) (ps : List Str) (sp : Sp) : Prop where
  len : ∀ vs H Q E, sp vs H Q E → vs.length = ps.length
  run : ∀ (A : Around) (outer : List Env) (s : Shared) (H : Hp) (args : Args) (us : List Value) (vs : List V) (Q : VK) (E : XK),
    Room k A → A.guards = some [] → Env0 P w K mg base A outer s H → BindsTo s fd args (ps.zip us) → Vals vs us → sp vs H Q E →
      codeAny (model P w) A (.call (.ref f) args) (CR CX outer P w H s Q E) s
section
variable {P : Program} {w : World} {K : PySem.W.Frag} {mg : Str → Option Value} {base : Heap} {CX : CXT} {j k : Nat} {f : Addr} {fd : FuncData} {ps : List Str} {sp sp' : Sp}
theorem FnG.of (F : FnOk P w K mg base CX k f fd ps sp) : FnG P w K mg base CX k f fd ps sp :=
  ⟨F.len, fun A o s H args us vs Q E hr _ => F.run A o s H args us vs Q E hr⟩
theorem FnG.mono (F : FnG P w K mg base CX j f fd ps sp) (h : j ≤ k) : FnG P w K mg base CX k f fd ps sp :=
  ⟨F.len, fun A o s H args us vs Q E hr => F.run A o s H args us vs Q E (hr.mono h)⟩

theorem fn_ofG {name qual : Str} {params : Arguments} {body : List Stmt} {scope : Scope} {dV kV doc pm cdv ct oc : Value} {an od : Option Addr}
    {osl : Array (Option Value)} {N : List Str}
    (lk : K.lookup f = some ⟨oc, od, .func (PySem.W.fnOf name qual params body scope dV kV doc pm an cdv ct), osl⟩)
    (hcd : PySem.W.codeIn K cdv qual = true) (S : FnScope N ps scope)
    (len : ∀ vs H Q E, sp vs H Q E → vs.length = ps.length)
    (hb : ∀ (A : Around) (outer : List Env) (s : Shared) (H : Hp) (vs : List V) (Q : VK) (E : XK),
      Room k (A.deeper (envOfC qual scope s.heap.objs.size f cdv)) → (A.deeper (envOfC qual scope s.heap.objs.size f cdv)).guards = some [] → sp vs H Q E →
      ∃ t, PSs (cxOf CX P w K mg base N qual scope f cdv A outer s H E) body t ∧ t { nx := fun _ H' => Q .non H', rt := Q } (start N vs) H) :
    FnG P w K mg base CX (k + 1) f (PySem.W.fnOf name qual params body scope dV kV doc pm an cdv ct) ps sp := by
  refine ⟨len, fun A outer s H args us vs Q E hr hgd e0 hbind rv hsp => ?_⟩
  have hl : vs.length = ps.length := len _ _ _ _ hsp
  have kin : K.In s.heap := e0.mod.kin.keeps (fun b o e => (e0.bs b o e).1)
  have noL : s.heap.NoLimit := e0.mod.nolimit.keeps (fun b o e => (e0.bs b o e).1)
  have kinds : ∀ y ∈ ps.zip us, scope.names.lookup y.1 = some .local ∨
      (scope.names.lookup y.1 = some .cell ∧ ((cellsFrom (s.heap.objs.size + 1) scope.names []).lookup y.1).isSome = true) := by
    rintro ⟨n, v⟩ hy
    have hn := (List.of_mem_zip hy).1
    cases S.par n hn with
    | inl q => exact Or.inl q
    | inr q => exact Or.inr ⟨q, PySem.W.cellsFrom_some _ _ _ (Or.inl q)⟩
  refine codeAny_call_function hr.depth (kin _ _ lk) rfl S.co S.gen rfl (PySem.W.codeRec_of kin hcd) (hbind _ _ _ _ ?_)
  refine wpAny_newFunctionEnv_cells S.kind kinds (fun env he s1 x => ?_)
  subst he
  refine ⟨noL.keeps x.toInCall.keep, codeAny_func ?_⟩
  obtain ⟨t, ht, hq⟩ := hb A outer s H vs Q E (hr.deeper _) hgd hsp
  have I := inv_start (CX := CX) (f := f) (cd := cdv) (qual := qual) (E := E) S hr.hd e0 hl rv x
  refine wpAny_mono (ht.run [] s1 (start N vs) H _ I hq) (fun fl s' hs => ?_) (fun e s' hs => hs)
  have done : ∀ {σ' : L2.St} {H' : Hp} {v : V} {u : Value}, Inv (cxOf CX P w K mg base N qual scope f cdv A outer s H E) [] σ' H' s' →
      RelV v u → Q v H' → CE outer P w H s Q u s' := by
    intro σ' H' v u J r2 q2
    exact ⟨v, H', J.os, J.bare, J.base, J.hok, r2, q2⟩
  cases fl with
  | ret u => obtain ⟨v, σ', H', J, r2, q2⟩ := hs; exact done J r2 q2
  | next => obtain ⟨σ', H', J, q2⟩ := hs; exact done (v := V.non) (u := Value.none) J rfl q2
  | brk => obtain ⟨_, _, _, q2⟩ := hs; exact q2.elim
  | cont => obtain ⟨_, _, _, q2⟩ := hs; exact q2.elim

/-- a def of the text without defaults; it may let out what CX tells -/
theorem fun_okX {x qual : Str} {st : Stmt} {N : List Str} (F : Fun K x qual st f fd) (S : FnScope N ps (defScope st))
    (len : ∀ vs H Q E, sp vs H Q E → vs.length = ps.length)
    (hb : ∀ (cdv : Value) (A : Around) (outer : List Env) (s : Shared) (H : Hp) (vs : List V) (Q : VK) (E : XK),
      Room k (A.deeper (envOfC qual (defScope st) s.heap.objs.size f cdv)) → (A.deeper (envOfC qual (defScope st) s.heap.objs.size f cdv)).guards = some [] → sp vs H Q E →
      ∃ t, PSs (cxOf CX P w K mg base N qual (defScope st) f cdv A outer s H E) (defBody st) t ∧
        t { nx := fun _ H' => Q .non H', rt := Q } (start N vs) H) : FnG P w K mg base CX (k + 1) f fd ps sp := by
  obtain ⟨oc, od, kV, doc, pm, an, cdv, ct, osl, rfl, lk, hcd⟩ := F.ex
  exact fn_ofG lk hcd S len (fun A outer s H vs Q E hr hg hsp => hb cdv A outer s H vs Q E hr hg hsp)
/-- a def of the text without defaults; nothing is raised out of it -/
theorem fun_okG {x qual : Str} {st : Stmt} {N : List Str} (F : Fun K x qual st f fd) (S : FnScope N ps (defScope st))
    (len : ∀ vs H Q E, sp vs H Q E → vs.length = ps.length)
    (hb : ∀ (cdv : Value) (A : Around) (outer : List Env) (s : Shared) (H : Hp) (vs : List V) (Q : VK) (E : XK),
      Room k (A.deeper (envOfC qual (defScope st) s.heap.objs.size f cdv)) → (A.deeper (envOfC qual (defScope st) s.heap.objs.size f cdv)).guards = some [] → sp vs H Q E →
      ∃ t, PSs (cxOf CX0 P w K mg base N qual (defScope st) f cdv A outer s H E).nox (defBody st) t ∧
        t { nx := fun _ H' => Q .non H', rt := Q } (start N vs) H) : FnG P w K mg base CX0 (k + 1) f fd ps sp := by
  refine fun_okX F S len (fun cdv A outer s H vs Q E hr hg hsp => ?_)
  obtain ⟨t, h, q⟩ := hb cdv A outer s H vs Q E hr hg hsp
  exact ⟨t, h.nox, q⟩
end

section
variable {X : Cx} {CX : CXT} {k n : Nat} {f C : Addr} {fd : FuncData} {ps ks : List Str} {sp : Sp} {dvs : List V} {ds : List Value} {E : XK}
  {x : Str} {p pos : Pos} {e : Expr} {es : List Expr} {kws : List Keyword} {t tk : TA} {g : List Value → List Value → List Value} {gV : List V → List V → List V}
/-- how the parameters are bound by positional values and keywords (names ks) -/
structure KB (K : PySem.W.Frag) (fd : FuncData) (ps ks : List Str) (n : Nat) (g : List Value → List Value → List Value) (gV : List V → List V → List V) : Prop where
  to : ∀ (s : Shared) (us ws : List Value), K.In s.heap → us.length = n → ws.length = ks.length → BindsTo s fd ⟨us, ks.zip ws⟩ (ps.zip (g us ws))
  rel : ∀ {vs : List V} {us : List Value} {zs : List V} {ws : List Value}, vs.length = n → zs.length = ks.length → Vals vs us → Vals zs ws → Vals (gV vs zs) (g us ws)

theorem run_any {pins : List (Addr × Obj)} {σ : L2.St} {H : Hp} {s : Shared} {Q : VK} {us : List Value} {vs : List V} {vals : List Value} {kw : List (Str × Value)}
    (F : FnG X.prog X.w X.K X.mg X.base CX k f fd ps sp) (hr : Room k X.A) (hg : X.A.guards = some []) (hx : Passes CX X E)
    (I : Inv X pins σ H s) (b : BindsTo s fd ⟨vals, kw⟩ (ps.zip us)) (r : Vals vs us) (h : sp vs H Q E) :
    wpAny (model X.prog X.w) X.A (call (.ref f) vals kw) (EP X pins σ Q) X.xe s := by
  refine wpAny_call (codeAny_mono (F.run X.A X.stack s H ⟨vals, kw⟩ us vs Q E hr hg I.env0 b r h) (fun r' s' hq => ?_))
  match r', hq with
  | .error e, hq => exact hx pins σ H s e s' I hq
  | .ok (.ret u), hq => exact I.after hq
  | .ok .next, hq => exact hq.elim
  | .ok .brk, hq => exact hq.elim
  | .ok .cont, hq => exact hq.elim

/-- f(e, ..) -/
theorem pg_call (F : FnG X.prog X.w X.K X.mg X.base CX k f fd ps sp) (hr : Room k X.A) (hgd : X.A.guards = some []) (hg : Gl X x) (hm : X.mg x = some (.ref f))
    (hk : PySem.W.keepIn X.K (.ref f) = true) (hb : Binds X.K fd ps ds) (hd : Vals dvs ds) (hx : Passes CX X E)
    (ha : PA X (e :: es) t) (hdb : (x == ("__debug__" : Str)) = false := by decide) (he : starEach (e :: es) X.env = (false, eval e X.env) :: starEach es X.env := by rfl)
    (hpl : (backTo pos (starEach es X.env)).any (·.1) = false := by rfl) :
    PE X (.Call (.Name x p) (e :: es) [] pos) (tCall sp dvs E t) := by
  constructor
  intro pins s σ H Q I h
  refine wpAny_Call_Name_kw (ld_glob I hg hm ?_ hdb)
  refine PySem.W.callWith_K (h₀ := X.base) I.ok.mod.kin hk (thn (ha.run pos pins s σ H _ I h) fun us s1 ⟨vs, H1, I1, r, q⟩ => ⟨I1.kIn, ?_⟩) he hpl
  have r2 := r.append hd
  exact run_any (vals := us) (kw := []) F hr hgd hx I1 (hb s1 us I1.kIn (by rw [← r2.length]; exact F.len _ _ _ _ q)) r2 q
/-- f() -/
theorem pg_call0 (F : FnG X.prog X.w X.K X.mg X.base CX k f fd ps sp) (hr : Room k X.A) (hgd : X.A.guards = some []) (hg : Gl X x) (hm : X.mg x = some (.ref f))
    (hk : PySem.W.keepIn X.K (.ref f) = true) (hb : Binds X.K fd ps ds) (hd : Vals dvs ds) (hx : Passes CX X E)
    (hdb : (x == ("__debug__" : Str)) = false := by decide) : PE X (.Call (.Name x p) [] [] pos) (tCall sp dvs E tNil) := by
  constructor
  intro pins s σ H Q I h
  refine wpAny_Call_Name_kw (ld_glob I hg hm ?_ hdb)
  have h : sp ([] ++ dvs) H Q E := h
  have r2 : Vals ([] ++ dvs) ([] ++ ds) := Vals.append .nil hd
  exact PySem.W.callWith_K0 I.kIn hk (run_any (vals := []) (kw := []) F hr hgd hx I (hb s [] I.kIn (by rw [← r2.length]; exact F.len _ _ _ _ h)) r2 h)
def tCallG (n m : Nat) (sp : Sp) (gV : List V → List V → List V) (E : XK) (t tk : TA) : TE := fun σ H Q => t σ H fun vs H1 => tk σ H1 fun zs H2 =>
  vs.length = n ∧ zs.length = m ∧ sp (gV vs zs) H2 Q E
/-- f(e, .., k = v, ..) -/
theorem pg_callK (F : FnG X.prog X.w X.K X.mg X.base CX k f fd ps sp) (hr : Room k X.A) (hgd : X.A.guards = some []) (hg : Gl X x) (hm : X.mg x = some (.ref f))
    (hk : PySem.W.keepIn X.K (.ref f) = true) (hb : KB X.K fd ps ks n g gV) (hx : Passes CX X E)
    (ha : PA X (e :: es) t) (hkw : PK X kws tk) (hall : (backToKw pos (keywordEach kws X.env)).all (·.1.isSome) = true := by rfl)
    (hks : (backToKw pos (keywordEach kws X.env)).filterMap (·.1) = ks := by rfl)
    (hdb : (x == ("__debug__" : Str)) = false := by decide) (he : starEach (e :: es) X.env = (false, eval e X.env) :: starEach es X.env := by rfl)
    (hpl : ((backTo pos (starEach (e :: es) X.env)).any (·.1) || (backToKw pos (keywordEach kws X.env)).any (·.1.isNone)) = false := by rfl) :
    PE X (.Call (.Name x p) (e :: es) kws pos) (tCallG n ks.length sp gV E t tk) := by
  constructor
  intro pins s σ H Q I h
  refine wpAny_Call_Name_kw (ld_glob I hg hm ?_ hdb)
  refine PySem.W.callWith_KW (h₀ := X.base) I.ok.mod.kin hk hall (thn (ha.run pos pins s σ H _ I h) fun us s1 ⟨vs, H1, I1, r, q⟩ => ?_) hpl he
  refine thn (hkw.run pos pins s1 σ H1 _ I1 q) fun ws s2 ⟨zs, H2, I2, rz, l1, l2, q2⟩ => ⟨I2.kIn, ?_⟩
  rw [hks]
  exact run_any (vals := us) (kw := ks.zip ws) F hr hgd hx I2 (hb.to s2 us ws I2.kIn (r.length.symm.trans l1) (rz.length.symm.trans l2)) (hb.rel l1 l2 r rz) q2
end

/-- f(k = v, ..) -/
theorem pg_callK0 {X : Cx} {CX : CXT} {k : Nat} {f : Addr} {fd : FuncData} {ps ks : List Str} {sp : Sp} {E : XK} {x : Str} {p pos : Pos} {kws : List Keyword} {tk : TA}
    {g : List Value → List Value → List Value} {gV : List V → List V → List V}
    (F : FnG X.prog X.w X.K X.mg X.base CX k f fd ps sp) (hr : Room k X.A) (hgd : X.A.guards = some []) (hg : Gl X x) (hm : X.mg x = some (.ref f))
    (hk : PySem.W.keepIn X.K (.ref f) = true) (hb : KB X.K fd ps ks 0 g gV) (hx : Passes CX X E) (hkw : PK X kws tk)
    (hall : (backToKw pos (keywordEach kws X.env)).all (·.1.isSome) = true := by rfl)
    (hks : (backToKw pos (keywordEach kws X.env)).filterMap (·.1) = ks := by rfl)
    (hdb : (x == ("__debug__" : Str)) = false := by decide)
    (hpl : ((backTo pos (starEach [] X.env)).any (·.1) || (backToKw pos (keywordEach kws X.env)).any (·.1.isNone)) = false := by rfl) :
    PE X (.Call (.Name x p) [] kws pos) (tCallG 0 ks.length sp gV E tNil tk) := by
  constructor
  intro pins s σ H Q I h
  refine wpAny_Call_Name_kw (ld_glob I hg hm ?_ hdb)
  refine PySem.W.callWith_KW0 (h₀ := X.base) I.ok.mod.kin hk hall ?_ hpl
  refine thn (hkw.run pos pins s σ H _ I h) fun ws s2 ⟨zs, H2, I2, rz, l1, l2, q2⟩ => ⟨I2.kIn, ?_⟩
  rw [hks]
  exact run_any (vals := []) (kw := ks.zip ws) F hr hgd hx I2 (hb.to s2 [] ws I2.kIn rfl (rz.length.symm.trans l2)) (hb.rel l1 l2 .nil rz) q2

/-! ### data, dicts among it; c: one address that is no part of it (the bag of draws) -/
def Ext (c : Addr) (H H' : Hp) : Prop := ∀ b o, b ≠ c → H b = some o → H' b = some o
theorem Ext.refl {c : Addr} {H : Hp} : Ext c H H := fun _ _ _ h => h
theorem Ext.trans {c : Addr} {H H1 H2 : Hp} (a : Ext c H H1) (b : Ext c H1 H2) : Ext c H H2 := fun x o n h => b x o n (a x o n h)
theorem Ext.new {c p : Addr} {H : Hp} {o : HO} (h : H p = none) : Ext c H (upd H p o) := fun b u _ e => by
  rw [upd_ne (ne_of_none e h)]; exact e
theorem Ext.bag {c : Addr} {H : Hp} {o : HO} : Ext c H (upd H c o) := fun b u n e => by
  rw [upd_ne n]; exact e
/-- a thing that the first heap did not know may change -/
theorem Ext.own {c p : Addr} {H H' : Hp} {o : HO} (e : Ext c H H') (h : H p = none) : Ext c H (upd H' p o) := fun b u n x => by
  rw [upd_ne (ne_of_none x h)]; exact e b u n x
theorem Ext.rd {c a : Addr} {H H' : Hp} {u : HO} (e : Ext c H H') (n : a ≠ c) (h : Rd H a u) : Rd H' a u := by
  rcases h with h | ⟨o, h⟩
  · exact .inl (e _ _ n h)
  · exact .inr ⟨o, e _ _ n h⟩
theorem Ext.sqL {K : PySem.W.Frag} {c a : Addr} {H H' : Hp} {xs : List V} (e : Ext c H H') (n : a ≠ c) (h : SqL K H a xs) : SqL K H' a xs := by
  rcases h with h | h
  · exact .inl (e.rd n h)
  · exact .inr h
theorem Ext.sqT {K : PySem.W.Frag} {c a : Addr} {H H' : Hp} {xs : List V} (e : Ext c H H') (n : a ≠ c) (h : SqT K H a xs) : SqT K H' a xs := by
  rcases h with h | h
  · exact .inl (e.rd n h)
  · exact .inr h
mutual
inductive DV (K : PySem.W.Frag) (c : Addr) (H : Hp) : V → PyData → Prop
  | non : DV K c H .non .none
  | bl (b : Bool) : DV K c H (.bl b) (.bool b)
  | int (i : Int) : DV K c H (.int i) (.int i)
  | str (x : Str) : DV K c H (.str x) (.str x)
  | lst {a : Addr} {xs : List V} {ds : List PyData} : a ≠ c → SqL K H a xs → DVs K c H xs ds → DV K c H (.ref a) (.list ds)
  | tup {a : Addr} {xs : List V} {ds : List PyData} : a ≠ c → SqT K H a xs → DVs K c H xs ds → DV K c H (.ref a) (.tuple ds)
  | dic {a : Addr} {kvs : List (Key × V)} {ps : List (PyData × PyData)} : a ≠ c → H a = some (.dK kvs) → DKs K c H kvs ps → DV K c H (.ref a) (.dict ps)
  | dct {a : Addr} {kvs : List (List Key × V)} {ps : List (PyData × PyData)} : a ≠ c → H a = some (.dT kvs) → PyData.showable (.dict ps) = false → DV K c H (.ref a) (.dict ps)
inductive DVs (K : PySem.W.Frag) (c : Addr) (H : Hp) : List V → List PyData → Prop
  | nil : DVs K c H [] []
  | cons {v : V} {vs : List V} {d : PyData} {ds : List PyData} : DV K c H v d → DVs K c H vs ds → DVs K c H (v :: vs) (d :: ds)
inductive DKs (K : PySem.W.Frag) (c : Addr) (H : Hp) : List (Key × V) → List (PyData × PyData) → Prop
  | nil : DKs K c H [] []
  | cons {k : Key} {v : V} {r : List (Key × V)} {d e : PyData} {ps : List (PyData × PyData)} : DV K c H (kV k) d → DV K c H v e → DKs K c H r ps → DKs K c H ((k, v) :: r) ((d, e) :: ps)
end
section
variable {K : PySem.W.Frag} {c : Addr} {H H' : Hp}
mutual
theorem DV.ext (e : Ext c H H') : ∀ (d : PyData) (v : V), DV K c H v d → DV K c H' v d
  | .none, _, h => by cases h; exact .non
  | .bool _, _, h => by cases h; exact .bl _
  | .int _, _, h => by cases h; exact .int _
  | .str _, _, h => by cases h; exact .str _
  | .list ds, _, h => by
    cases h with
    | lst n s r => exact .lst n (e.sqL n s) (DVs.ext e ds _ r)
  | .tuple ds, _, h => by
    cases h with
    | tup n s r => exact .tup n (e.sqT n s) (DVs.ext e ds _ r)
  | .dict ps, _, h => by
    cases h with
    | dic n s r => exact .dic n (e _ _ n s) (DKs.ext e ps _ r)
    | dct n s z => exact .dct n (e _ _ n s) z
theorem DVs.ext (e : Ext c H H') : ∀ (ds : List PyData) (vs : List V), DVs K c H vs ds → DVs K c H' vs ds
  | [], _, h => by cases h; exact .nil
  | d :: ds, _, h => by
    cases h with
    | cons a b => exact .cons (DV.ext e d _ a) (DVs.ext e ds _ b)
theorem DKs.ext (e : Ext c H H') : ∀ (ps : List (PyData × PyData)) (vs : List (Key × V)), DKs K c H vs ps → DKs K c H' vs ps
  | [], _, h => by cases h; exact .nil
  | (d, f) :: ps, _, h => by
    cases h with
    | cons a b r => exact .cons (DV.ext e d _ a) (DV.ext e f _ b) (DKs.ext e ps _ r)
end
theorem DVs.len : ∀ {vs : List V} {ds : List PyData}, DVs K c H vs ds → vs.length = ds.length
  | _, _, .nil => rfl
  | _, _, .cons _ b => congrArg Nat.succ (DVs.len b)
theorem DVs.at : ∀ {vs : List V} {ds : List PyData} {i : Nat} {v : V}, DVs K c H vs ds → vs[i]? = some v → ∃ d, ds[i]? = some d ∧ DV K c H v d
  | _, _, i, _, .nil, h => by simp at h
  | _, _, 0, _, .cons a _, h => by simp at h; subst h; exact ⟨_, rfl, a⟩
  | _, _, i + 1, _, .cons _ b, h => by simpa using DVs.at b (by simpa using h)
theorem DVs.append : ∀ {vs ws : List V} {ds es : List PyData}, DVs K c H vs ds → DVs K c H ws es → DVs K c H (vs ++ ws) (ds ++ es)
  | _, _, _, _, .nil, h => h
  | _, _, _, _, .cons a b, h => .cons a (DVs.append b h)
end
section
variable {X : Cx} {pins : List (Addr × Obj)} {σ : L2.St} {H : Hp} {s : Shared} {c : Addr}
/-- what is known of a value that bears d, for its text -/
def Shows (X : Cx) (h : Heap) (u : Value) (d : PyData) : Prop := (∃ as, Reads h u d as) ∧ ∃ bs, ReadAtMost h d.depth bs ∧ ReprK X.prog X.w bs h d.depth u d.shown
def ShowsS (X : Cx) (h : Heap) (us : List Value) (ds : List PyData) : Prop := (∃ as, ReadsAll h us ds as) ∧
  ∃ bs, ReadAtMost h (PyData.depthAll ds) bs ∧ ReprAllK X.prog X.w bs h (PyData.depthAll ds) us (PyData.shownAll ds)
theorem ShowsS.nil {h : Heap} : ShowsS X h [] [] := ⟨⟨_, .nil⟩, [], (fun _ z => nomatch z), .nil⟩
theorem ShowsS.cons {h : Heap} {u : Value} {us : List Value} {d : PyData} {ds : List PyData} (a : Shows X h u d) (b : ShowsS X h us ds) : ShowsS X h (u :: us) (d :: ds) := by
  obtain ⟨⟨as, r⟩, bs, m, k⟩ := a
  obtain ⟨⟨as', r'⟩, bs', m', k'⟩ := b
  have l1 : d.depth ≤ PyData.depthAll (d :: ds) := by simp only [PyData.depthAll]; exact Nat.le_max_left _ _
  have l2 : PyData.depthAll ds ≤ PyData.depthAll (d :: ds) := by simp only [PyData.depthAll]; exact Nat.le_max_right _ _
  exact ⟨⟨_, .cons r r'⟩, bs ++ bs', (m.mono l1).append (m'.mono l2), .cons ((k.more fun _ z => List.mem_append_left _ z).level_le l1) (k'.more_le (fun _ z => List.mem_append_right _ z) l2)⟩
theorem dict_len {ps : List (PyData × PyData)} (h : (PyData.shown (.dict ps)).length ≤ sizeLine) : (∀ t ∈ PyData.shownAll (ps.map (·.1)), t.length ≤ sizeLine) ∧ ∀ t ∈ PyData.shownAll (ps.map (·.2)), t.length ≤ sizeLine := by
  have h' : (dictText (PyData.shownKv ps)).length ≤ sizeLine := by simpa only [PyData.shown] using h
  constructor
  · intro t ht
    obtain ⟨p, hp, hl⟩ := PyData.shownKv_key_le ps t ht
    exact Nat.le_trans hl (Nat.le_trans (dictText_mem_le hp) h')
  · intro t ht
    obtain ⟨p, hp, hl⟩ := PyData.shownKv_val_le ps t ht
    exact Nat.le_trans hl (Nat.le_trans (dictText_mem_le hp) h')
mutual
theorem DV.shows (I : Inv X pins σ H s) : ∀ (d : PyData) (v : V) (u : Value), DV X.K c H v d → L2.RelV v u → d.showable = true → d.shown.length ≤ sizeLine → Shows X s.heap u d
  | .none, _, _, h, r, _, _ => by
    cases h; cases r
    exact ⟨⟨_, .none⟩, [], (fun _ z => nomatch z), .of_is ReprIs.none _ _ _⟩
  | .bool b, _, _, h, r, _, _ => by
    cases h; cases r
    exact ⟨⟨_, .bool b⟩, [], (fun _ z => nomatch z), .of_is (ReprIs.bool b) _ _ _⟩
  | .int i, _, _, h, r, hs, _ => by
    cases h; obtain ⟨t, rfl⟩ := r
    exact ⟨⟨_, .int i t⟩, [], (fun _ z => nomatch z), .of_is (ReprIs.int t (by simpa [PyData.showable] using hs)) _ _ _⟩
  | .str x, _, _, h, r, _, hz => by
    cases h; obtain ⟨t, rfl⟩ := r
    exact ⟨⟨_, .str x t⟩, [], (fun _ z => nomatch z), .of_is (ReprIs.str x t (by simpa only [PyData.shown] using hz)) _ _ _⟩
  | .list ds, _, _, h, r, hs, hz => by
    cases h with
    | lst n hq ha =>
      cases r
      obtain ⟨its, rv, ⟨o, m, ho, hc, _, hd⟩, _⟩ := I.list hq
      have hz' : (listText (PyData.shownAll ds)).length ≤ sizeLine := by simpa only [PyData.shown] using hz
      obtain ⟨⟨as, rs⟩, bs, mb, kb⟩ := DVs.shows I ds _ its ha rv (by simpa [PyData.showable] using hs) (fun t ht => Nat.le_trans (listText_mem_le ht) hz')
      have rd : Reads s.heap (.ref _) (.list ds) _ := .list ho hc hd rs
      have lt : PyData.depthAll ds < (PyData.list ds).depth := by simp only [PyData.depth]; omega
      have out := not_mem_of_deeper rd lt mb
      refine ⟨⟨_, rd⟩, _, ReadAtMost.cons rd (Nat.le_of_lt lt) mb, ?_⟩
      simp only [PyData.depth, PyData.shown]
      match its, rs, kb, hd with
      | [], rs, _, hd =>
        cases rs
        simp only [PyData.shownAll, listText_nil]
        exact ReprK.listEmpty ho hc hd
      | x :: l, _, kb, hd => exact ReprK.list ho hc hd out (by simpa using kb.length_eq) (fun i y e => kb.item i y (by simpa using e))
  | .tuple ds, _, _, h, r, hs, hz => by
    cases h with
    | tup n hq ha =>
      cases r
      obtain ⟨its, rv, ⟨o, ho, hc, m, hd⟩, _⟩ := I.tuple hq
      have hz' : (tupleText (PyData.shownAll ds)).length ≤ sizeLine := by simpa only [PyData.shown] using hz
      obtain ⟨⟨as, rs⟩, bs, mb, kb⟩ := DVs.shows I ds _ its ha rv (by simpa [PyData.showable] using hs) (fun t ht => Nat.le_trans (tupleText_mem_le ht) hz')
      have rd : Reads s.heap (.ref _) (.tuple ds) _ := .tuple ho hc hd rs
      have lt : PyData.depthAll ds < (PyData.tuple ds).depth := by simp only [PyData.depth]; omega
      have out := not_mem_of_deeper rd lt mb
      refine ⟨⟨_, rd⟩, _, ReadAtMost.cons rd (Nat.le_of_lt lt) mb, ?_⟩
      simp only [PyData.depth, PyData.shown]
      exact ReprK.tuple ho hc hd out kb
  | .dict ps, _, _, h, r, hs, hz => by
    cases h with
    | dic n hq ha =>
      cases r
      obtain ⟨_, hsm, vs, kv, o, es, ep, ho, hx, hd, _, pr, _⟩ := I.hok _ _ hq
      obtain ⟨hs1, hs2⟩ := PyData.showableKv_split ps (by simpa [PyData.showable] using hs)
      obtain ⟨hz1, hz2⟩ := dict_len hz
      obtain ⟨⟨⟨as, r1⟩, b1, m1, k1⟩, ⟨as', r2⟩, b2, m2, k2⟩ := DKs.shows I ps _ es.toList vs ha kv pr hs1 hs2 hz1 hz2
      have rd : Reads s.heap (.ref _) (.dict ps) _ := .dict ho hx.1 hd r1 r2
      have lt : PyData.depthKv ps < (PyData.dict ps).depth := by simp only [PyData.depth]; omega
      have mb := (m1.mono (PyData.depthAll_keys_le ps)).append (m2.mono (PyData.depthAll_vals_le ps))
      have out := not_mem_of_deeper rd lt mb
      refine ⟨⟨_, rd⟩, _, ReadAtMost.cons rd (Nat.le_of_lt lt) mb, ?_⟩
      simp only [PyData.depth, PyData.shown, PyData.shownKv_eq]
      exact ReprK.dict ho hx.1 hd hsm out (.of_two es.toList _ _ (k1.more_le (fun _ z => List.mem_append_left _ z) (PyData.depthAll_keys_le ps))
        (k2.more_le (fun _ z => List.mem_append_right _ z) (PyData.depthAll_vals_le ps)))
    | dct n q z => rw [z] at hs; cases hs
theorem DVs.shows (I : Inv X pins σ H s) : ∀ (ds : List PyData) (vs : List V) (us : List Value), DVs X.K c H vs ds → L2.Vals vs us → PyData.showableAll ds = true → (∀ t ∈ PyData.shownAll ds, t.length ≤ sizeLine) → ShowsS X s.heap us ds
  | [], _, _, h, r, _, _ => by
    cases h; cases r
    exact .nil
  | d :: ds, _, _, h, r, hs, hz => by
    cases h with
    | cons h1 h2 =>
      cases r with
      | cons r1 r2 =>
        have hs' : d.showable = true ∧ PyData.showableAll ds = true := by simpa [PyData.showableAll] using hs
        simp only [PyData.shownAll] at hz
        exact .cons (DV.shows I d _ _ h1 r1 hs'.1 (hz _ List.mem_cons_self)) (DVs.shows I ds _ _ h2 r2 hs'.2 fun t ht => hz t (List.mem_cons_of_mem _ ht))
theorem DKs.shows (I : Inv X pins σ H s) : ∀ (ps : List (PyData × PyData)) (kvs : List (Key × V)) (es : List DictEntry) (vs : List (Key × Value)), DKs X.K c H kvs ps → KV kvs vs →
    Pairs (mixKind X.prog X.w) es vs → PyData.showableAll (ps.map (·.1)) = true → PyData.showableAll (ps.map (·.2)) = true →
    (∀ t ∈ PyData.shownAll (ps.map (·.1)), t.length ≤ sizeLine) → (∀ t ∈ PyData.shownAll (ps.map (·.2)), t.length ≤ sizeLine) →
    ShowsS X s.heap (es.map (·.key)) (ps.map (·.1)) ∧ ShowsS X s.heap (es.map (·.val)) (ps.map (·.2))
  | [], _, _, _, h, r, p, _, _, _, _ => by
    cases h; cases r; cases p
    exact ⟨.nil, .nil⟩
  | (d, f) :: ps, (k, v) :: kvs, e :: es', kv :: vs', h, r, p, hs1, hs2, hz1, hz2 => by
    cases h with
    | cons h1 h2 h3 =>
      cases r with
      | cons r1 r2 =>
        cases p with
        | cons p1 p2 p3 =>
          obtain ⟨e1, r1⟩ := r1
          have rk : L2.RelV (kV k) e.key := by
            have p1 : keyIs kv.1 e.key = true := p1
            rw [← e1] at p1
            rcases keyIs_shape p1 with ⟨i, t, q1, q2⟩ | ⟨z, t, q1, q2⟩
            · rw [q2]; simp only at q1; rw [q1]; exact ⟨t, rfl⟩
            · rw [q2]; simp only at q1; rw [q1]; exact ⟨t, rfl⟩
          have a1 : d.showable = true ∧ PyData.showableAll (ps.map (·.1)) = true := by simpa [PyData.showableAll] using hs1
          have a2 : f.showable = true ∧ PyData.showableAll (ps.map (·.2)) = true := by simpa [PyData.showableAll] using hs2
          simp only [List.map_cons, PyData.shownAll] at hz1 hz2
          obtain ⟨q3, q4⟩ := DKs.shows I ps _ es' vs' h3 r2 p3 a1.2 a2.2 (fun t ht => hz1 t (List.mem_cons_of_mem _ ht)) fun t ht => hz2 t (List.mem_cons_of_mem _ ht)
          exact ⟨.cons (DV.shows I d _ _ h1 rk a1.1 (hz1 _ List.mem_cons_self)) q3, .cons (DV.shows I f _ e.val h2 (by rw [p2]; exact r1) a2.1 (hz2 _ List.mem_cons_self)) q4⟩
  | (d, f) :: ps, [], _, _, h, r, p, _, _, _, _ => by cases h
  | (d, f) :: ps, _ :: _, [], _, h, r, p, _, _, _, _ => by cases p; cases r
  | (d, f) :: ps, _ :: _, _, [], h, r, p, _, _, _, _ => by cases r
end
/-- repr of data -/
def rRepr (K : PySem.W.Frag) : List V → Hp → VK → Prop := fun xs H Q => ∃ (c a : Addr) (d : PyData), xs = [.ref a] ∧ DV K c H (.ref a) d ∧ d.showable = true ∧ d.depth ≤ 60 ∧ d.shown.length ≤ sizeLine ∧ Q (.str d.shown) H
theorem call_repr {k : Nat} (hr : Room k X.A) (hg : X.A.guards = some []) : CallR X (.builtin "repr") (rRepr X.K) := by
  intro pins s σ H xs us Q I r h
  obtain ⟨c, a, d, rfl, hd, hs, hdp, hz, q⟩ := h
  match us, r with
  | [u], .cons r1 .nil =>
    cases (show u = Value.ref a from r1)
    have un := hr.units
    have un1 : X.A.units + 1 < cLine := by omega
    cases hd with
    | lst n hq ha =>
      rename_i vs ds
      obtain ⟨its, rv, ⟨o, m, ho, hc, _, hdt⟩, _⟩ := I.list hq
      have hz' : (listText (PyData.shownAll ds)).length ≤ sizeLine := by simpa only [PyData.shown] using hz
      obtain ⟨⟨as, rs⟩, bs, mb, kb⟩ := DVs.shows I ds _ its ha rv (by simpa [PyData.showable] using hs) (fun t ht => Nat.le_trans (listText_mem_le ht) hz')
      have rd : Reads s.heap (.ref a) (.list ds) _ := .list ho hc hdt rs
      have lt : PyData.depthAll ds < (PyData.list ds).depth := by simp only [PyData.depth]; omega
      have out := not_mem_of_deeper rd lt mb
      simp only [PyData.depth] at hdp
      simp only [PyData.shown] at q
      refine call_repr_slot un1 ⟨o, ho, hc⟩ F.slot_list_repr.toG ?_
      match its, rs, kb, hdt with
      | [], rs, _, hdt =>
        cases rs
        simp only [PyData.shownAll, listText_nil] at q
        exact call_list_repr_empty ⟨o, ho, hc⟩ ho hdt ⟨_, _, rfl, .str _, H, I.kept fun _ _ e => e, ⟨_, rfl⟩, q⟩
      | x :: l, _, kb, hdt =>
        exact call_list_reprK ho hc hdt out (by simpa using kb.length_eq) (fun i y e => kb.item i y (by simpa using e)) (A := X.A.in1) hg (fun b _ => Clear.nil b)
          (by show X.A.units + 1 + _ < cLine; omega) (fun _ _ e => e) (fun h' u tk hk => ⟨_, _, rfl, .str _, H, I.kept hk, ⟨u, rfl⟩, q⟩) hz'
    | tup n hq ha =>
      rename_i vs ds
      obtain ⟨its, rv, ⟨o, ho, hc, m, hdt⟩, _⟩ := I.tuple hq
      have hz' : (tupleText (PyData.shownAll ds)).length ≤ sizeLine := by simpa only [PyData.shown] using hz
      obtain ⟨⟨as, rs⟩, bs, mb, kb⟩ := DVs.shows I ds _ its ha rv (by simpa [PyData.showable] using hs) (fun t ht => Nat.le_trans (tupleText_mem_le ht) hz')
      have rd : Reads s.heap (.ref a) (.tuple ds) _ := .tuple ho hc hdt rs
      have lt : PyData.depthAll ds < (PyData.tuple ds).depth := by simp only [PyData.depth]; omega
      have out := not_mem_of_deeper rd lt mb
      simp only [PyData.depth] at hdp
      simp only [PyData.shown] at q
      exact call_repr_slot un1 ⟨o, ho, hc⟩ F.slot_tuple_repr (call_tuple_reprK ho hc hdt out kb (A := X.A.in1) hg (fun b _ => Clear.nil b)
          (by show X.A.units + 1 + _ < cLine; omega) (fun _ _ e => e) (fun h' u tk hk => ⟨_, _, rfl, .str _, H, I.kept hk, ⟨u, rfl⟩, q⟩) hz')
    | dic n hq ha =>
      rename_i kvs ps
      obtain ⟨_, hsm, vs, kv, o, es, ep, ho, hx, hdt, _, pr, _⟩ := I.hok _ _ hq
      obtain ⟨hs1, hs2⟩ := PyData.showableKv_split ps (by simpa [PyData.showable] using hs)
      obtain ⟨hz1, hz2⟩ := dict_len hz
      obtain ⟨⟨⟨as, r1⟩, b1, m1, k1⟩, ⟨as', r2⟩, b2, m2, k2⟩ := DKs.shows I ps _ es.toList vs ha kv pr hs1 hs2 hz1 hz2
      have rd : Reads s.heap (.ref a) (.dict ps) _ := .dict ho hx.1 hdt r1 r2
      have lt : PyData.depthKv ps < (PyData.dict ps).depth := by simp only [PyData.depth]; omega
      have mb := (m1.mono (PyData.depthAll_keys_le ps)).append (m2.mono (PyData.depthAll_vals_le ps))
      have out := not_mem_of_deeper rd lt mb
      simp only [PyData.depth] at hdp
      simp only [PyData.shown, PyData.shownKv_eq] at q hz
      exact call_repr_slot un1 ⟨o, ho, hx.1⟩ F.slot_dict_repr (call_dict_reprK ho hx.1 hdt hsm out (.of_two es.toList _ _ (k1.more_le (fun _ z => List.mem_append_left _ z) (PyData.depthAll_keys_le ps))
        (k2.more_le (fun _ z => List.mem_append_right _ z) (PyData.depthAll_vals_le ps))) (A := X.A.in1) hg (fun b _ => Clear.nil b)
          (by show X.A.units + 1 + _ < cLine; omega) (fun _ _ e => e) (fun h' u tk hk => ⟨_, _, rfl, .str _, H, I.kept hk, ⟨u, rfl⟩, q⟩) hz)
    | dct n hq z => rw [z] at hs; cases hs
end

/-! ### small facts of data -/
theorem dp_ints {K : PySem.W.Frag} {H : Hp} : ∀ ns : List Int, DpAll K H (ns.map V.int) (ns.map PyData.int)
  | [] => .nil
  | n :: ns => .cons (.int n) (dp_ints ns)
theorem dv_ints {K : PySem.W.Frag} {H : Hp} {c : Addr} : ∀ ns : List Int, DVs K c H (ns.map V.int) (ns.map PyData.int)
  | [] => .nil
  | n :: ns => .cons (.int n) (dv_ints ns)
theorem can_ints : ∀ ns : List Int, PyData.canLayAll0 (ns.map PyData.int) = true
  | [] => rfl
  | n :: ns => by
    show (PyData.canLay0 (.int n) && PyData.canLayAll0 (ns.map PyData.int)) = true
    rw [can_ints ns]; rfl
theorem depth_ints : ∀ ns : List Int, PyData.depthAll (ns.map PyData.int) ≤ 1
  | [] => by decide
  | n :: ns => by
    have := depth_ints ns
    simp only [List.map_cons, PyData.depthAll, PyData.depth]
    omega
theorem shaped_ints (ns : List Int) : SeqAt.shaped (.list (ns.map PyData.int)) = true := by
  unfold SeqAt.shaped
  have h := depth_ints ns
  have e : PyData.canLay0 (.list (ns.map PyData.int)) = true := by
    simp only [PyData.canLay0]; exact can_ints ns
  rw [e, Bool.true_and, decide_eq_true_eq]
  simp only [PyData.depth]
  omega
theorem eqv_nil (ds : List PyData) : PyData.eqv (.list ds) (.list []) = ds.isEmpty := by
  cases ds with
  | nil => simp [PyData.eqv, PyData.eqvAll]
  | cons d ds => simp [PyData.eqv, PyData.eqvAll]

theorem mix_bound {v pt A B C : Int} (v0 : 0 ≤ v) (v1 : v < 2147483648) (p0 : 0 ≤ pt) (p1 : pt ≤ 1000000) (a0 : 0 ≤ A) (a1 : A ≤ 1000000) (b0 : 0 ≤ B) (b1 : B ≤ 1000000) (c0 : 0 ≤ C) (c1 : C ≤ 1000000) :
    (v * (2 * pt + A) + B * pt * pt + C).natAbs < 2 ^ 64 := by
  have e1 : v * (2 * pt + A) ≤ 2147483648 * 3000000 := Int.mul_le_mul (by omega) (by omega) (by omega) (by omega)
  have e2 : 0 ≤ v * (2 * pt + A) := Int.mul_nonneg v0 (by omega)
  have e3 : B * pt ≤ 1000000 * 1000000 := Int.mul_le_mul b1 p1 p0 (by omega)
  have e4 : 0 ≤ B * pt := Int.mul_nonneg b0 p0
  have e5 : B * pt * pt ≤ 1000000 * 1000000 * 1000000 := Int.mul_le_mul e3 p1 p0 (by omega)
  have e6 : 0 ≤ B * pt * pt := Int.mul_nonneg e4 p0
  omega
theorem mul_pt {B pt : Int} (p0 : 0 ≤ pt) (p1 : pt ≤ 1000000) (b0 : 0 ≤ B) (b1 : B ≤ 1000000) : CMul (B * pt) pt := by
  have e3 : B * pt ≤ 1000000 * 1000000 := Int.mul_le_mul b1 p1 p0 (by omega)
  have e4 : 0 ≤ B * pt := Int.mul_nonneg b0 p0
  exact .inl ⟨by omega, by omega⟩
theorem at_mod {ns : List Int} {pt : Int} (h : ns ≠ []) (p0 : 0 ≤ pt) : ∃ v, atI (ns.map V.int) (pt % ((ns.map V.int).length : Int)) = some (.int v) := by
  have hl : 0 < (ns.map V.int).length := by
    rw [List.length_map]; exact List.length_pos_iff.mpr h
  have h1 := Int.emod_nonneg pt (show ((ns.map V.int).length : Int) ≠ 0 by omega)
  have h2 := Int.emod_lt_of_pos pt (show (0 : Int) < ((ns.map V.int).length : Int) by omega)
  obtain ⟨j, hj⟩ := Int.eq_ofNat_of_zero_le h1
  rw [hj] at h2 ⊢
  have hjl : j < ns.length := by rw [List.length_map] at h2; omega
  refine ⟨ns[j], atI_nat ?_⟩
  rw [List.getElem?_map, List.getElem?_eq_getElem hjl]; rfl
theorem emod_w {x M : Int} (h : 0 < M) (h2 : M ≤ 2147483648) : -(2 ^ 64) < x % M ∧ x % M < 2 ^ 64 := by
  have a := Int.emod_nonneg x (show M ≠ 0 by omega)
  have b := Int.emod_lt_of_pos x h
  omega
theorem emod_b {x M : Int} (h : 0 < M) (h2 : M ≤ 2147483648) : 0 ≤ x % M ∧ x % M < 2147483648 := by
  have a := Int.emod_nonneg x (show M ≠ 0 by omega)
  have b := Int.emod_lt_of_pos x h
  omega
/-- forget what a heap is, but for F -/
theorem gcut {Qd : Hp → Prop} {H : Hp} (F : Hp → Prop) (hF : F H) (h : ∀ H', F H' → Qd H') : Qd H := h H hF
theorem pos_lit {j : Int} (h : 0 < j) : 0 < j := h

section
variable {K : PySem.W.Frag} {c p : Addr} {H H' : Hp} {v : V} {d : PyData} {vs xs : List V} {ds : List PyData}
theorem DV.up (h : DV K c H v d) (e : Ext c H H') : DV K c H' v d := DV.ext e d v h
theorem DVs.up (h : DVs K c H vs ds) (e : Ext c H H') : DVs K c H' vs ds := DVs.ext e ds vs h
/-- a new list, a new tuple, a new dict -/
theorem new_lst (hp : H p = none) (n : p ≠ c) (h : DVs K c H xs ds) : DV K c (upd H p (.lst xs)) (.ref p) (.list ds) ∧ Ext c H (upd H p (.lst xs)) :=
  ⟨.lst n (.of upd_same) (h.up (Ext.new hp)), Ext.new hp⟩
theorem new_tup (hp : H p = none) (n : p ≠ c) (h : DVs K c H xs ds) : DV K c (upd H p (.tup xs)) (.ref p) (.tuple ds) ∧ Ext c H (upd H p (.tup xs)) :=
  ⟨.tup n (.of upd_same) (h.up (Ext.new hp)), Ext.new hp⟩
/-- [x if one of them] -/
theorem one_of {i : Nat} {v : V} {xs : List V} (h : xs[i]? = some v) : v ∈ xs := List.mem_of_getElem? h
end

theorem pi_or {X : Cx} {tg e : Expr} {w1 w2 : TI} (h1 : PI X tg e w1) (h2 : PI X tg e w2) : PI X tg e (fun σ H R => w1 σ H R ∨ w2 σ H R) :=
  ⟨fun pins s σ H R I h => h.elim (h1.run pins s σ H R I) (h2.run pins s σ H R I)⟩
theorem Ext.of {c : Addr} {H H' : Hp} (h : Same H H') : Ext c H H' := fun b o _ e => h b o e
theorem same_new {p : Addr} {H : Hp} {o : HO} (h : H p = none) : Same H (upd H p o) := fun b u e => by
  rw [upd_ne (ne_of_none e h)]; exact e
theorem same_own {p : Addr} {H H' : Hp} {o : HO} (e : Same H H') (h : H p = none) : Same H (upd H' p o) := fun b u x => by
  rw [upd_ne (ne_of_none x h)]; exact e b u x
/-! ### types of data -/
def tyN : PyData → String
  | .none => "NoneType" | .bool _ => "bool" | .int _ => "int" | .str _ => "str" | .list _ => "list" | .tuple _ => "tuple" | .dict _ => "dict"
theorem ty_of {K : PySem.W.Frag} {c : Addr} {H : Hp} {v : V} {d : PyData} (h : DV K c H v d) : TyX K H v (.type (tyN d)) := by
  cases h with
  | non => exact .base .non
  | bl b => exact .base (.bl b)
  | int i => exact .base (.int i)
  | str x => exact .base (.str x)
  | lst _ s _ =>
    rcases s with (s | ⟨o, s⟩) | ⟨o, its, n, e, q, _⟩
    · exact .base (.lst s)
    · exact .base (.frz s)
    · exact .kList e q
  | tup _ s _ =>
    rcases s with (s | ⟨o, s⟩) | ⟨o, its, n, e, q, _⟩
    · exact .base (.tup s)
    · exact .fTuple s
    · exact .kTuple e q
  | dic _ s _ => exact .base (.dK s)
  | dct _ s _ => exact .base (.dT s)
def isInt : PyData → Bool | .int _ => true | _ => false
def isSeq : PyData → Bool | .list _ => true | .tuple _ => true | _ => false
def isStr : PyData → Bool | .str _ => true | _ => false
theorem iteB {b : Bool} {A B : Prop} (h1 : b = true → A) (h2 : b = false → B) : if b = true then A else B := by
  cases b with
  | true => exact iteT (h1 rfl)
  | false => exact iteF (h2 rfl)
/-- a pair of two such things -/
def pairP (f : PyData → Bool) : PyData → Bool
  | .list [a, b] => f a && f b
  | .tuple [a, b] => f a && f b
  | _ => false
abbrev isSq : PyData → Bool := pairP isInt
abbrev isMv : PyData → Bool := pairP isSq
theorem pair_no {f : PyData → Bool} {ds : List PyData} (h : ds.length ≠ 2) : pairP f (.list ds) = false ∧ pairP f (.tuple ds) = false := by
  match ds, h with
  | [], _ => exact ⟨rfl, rfl⟩
  | [_], _ => exact ⟨rfl, rfl⟩
  | [_, _], h => exact absurd rfl h
  | _ :: _ :: _ :: _, _ => exact ⟨rfl, rfl⟩
theorem two_of {α : Type} {ds : List α} (h : ds.length = 2) : ∃ a b, ds = [a, b] := by
  match ds, h with
  | [a, b], _ => exact ⟨a, b, rfl⟩
theorem kI : ∀ d : PyData, kitB (tyN d) "int" = some (match d with | .int _ => true | .bool _ => true | _ => false)
  | .none => (by decide +kernel : kitB "NoneType" "int" = some false)
  | .bool _ => (by decide +kernel : kitB "bool" "int" = some true)
  | .int _ => (by decide +kernel : kitB "int" "int" = some true)
  | .str _ => (by decide +kernel : kitB "str" "int" = some false)
  | .list _ => (by decide +kernel : kitB "list" "int" = some false)
  | .tuple _ => (by decide +kernel : kitB "tuple" "int" = some false)
  | .dict _ => (by decide +kernel : kitB "dict" "int" = some false)
theorem kB : ∀ d : PyData, kitB (tyN d) "bool" = some (match d with | .bool _ => true | _ => false)
  | .none => (by decide +kernel : kitB "NoneType" "bool" = some false)
  | .bool _ => (by decide +kernel : kitB "bool" "bool" = some true)
  | .int _ => (by decide +kernel : kitB "int" "bool" = some false)
  | .str _ => (by decide +kernel : kitB "str" "bool" = some false)
  | .list _ => (by decide +kernel : kitB "list" "bool" = some false)
  | .tuple _ => (by decide +kernel : kitB "tuple" "bool" = some false)
  | .dict _ => (by decide +kernel : kitB "dict" "bool" = some false)
theorem kS : ∀ d : PyData, kitB (tyN d) "str" = some (isStr d)
  | .none => (by decide +kernel : kitB "NoneType" "str" = some false)
  | .bool _ => (by decide +kernel : kitB "bool" "str" = some false)
  | .int _ => (by decide +kernel : kitB "int" "str" = some false)
  | .str _ => (by decide +kernel : kitB "str" "str" = some true)
  | .list _ => (by decide +kernel : kitB "list" "str" = some false)
  | .tuple _ => (by decide +kernel : kitB "tuple" "str" = some false)
  | .dict _ => (by decide +kernel : kitB "dict" "str" = some false)
theorem kL : ∀ d : PyData, kitB (tyN d) "list" = some (match d with | .list _ => true | _ => false)
  | .none => (by decide +kernel : kitB "NoneType" "list" = some false)
  | .bool _ => (by decide +kernel : kitB "bool" "list" = some false)
  | .int _ => (by decide +kernel : kitB "int" "list" = some false)
  | .str _ => (by decide +kernel : kitB "str" "list" = some false)
  | .list _ => (by decide +kernel : kitB "list" "list" = some true)
  | .tuple _ => (by decide +kernel : kitB "tuple" "list" = some false)
  | .dict _ => (by decide +kernel : kitB "dict" "list" = some false)
theorem kT : ∀ d : PyData, kitB (tyN d) "tuple" = some (match d with | .tuple _ => true | _ => false)
  | .none => (by decide +kernel : kitB "NoneType" "tuple" = some false)
  | .bool _ => (by decide +kernel : kitB "bool" "tuple" = some false)
  | .int _ => (by decide +kernel : kitB "int" "tuple" = some false)
  | .str _ => (by decide +kernel : kitB "str" "tuple" = some false)
  | .list _ => (by decide +kernel : kitB "list" "tuple" = some false)
  | .tuple _ => (by decide +kernel : kitB "tuple" "tuple" = some true)
  | .dict _ => (by decide +kernel : kitB "dict" "tuple" = some false)
theorem kit_seq {K : PySem.W.Frag} (d : PyData) : PySem.W.kitAny K (.type (tyN d)) [.type "list", .type "tuple"] = some (isSeq d) := by
  have kl := kL d
  have kt := kT d
  cases d with
  | list _ => exact kitAny_cons (kit_ty kl) (fun h => nomatch h) (fun _ => rfl)
  | tuple _ => exact kitAny_cons (kit_ty kl) (fun _ => kitAny_cons (kit_ty kt) (fun h => nomatch h) (fun _ => rfl)) (fun h => nomatch h)
  | _ => exact kitAny_cons (kit_ty kl) (fun _ => kitAny_cons (kit_ty kt) (fun _ => rfl) (fun h => nomatch h)) (fun h => nomatch h)
/-- a def that tells yes or no of one thing, and changes nothing -/
def spB (K : PySem.W.Frag) (f : PyData → Bool) : Sp := fun vs H Q _ => ∃ (c : Addr) (v : V) (d : PyData), vs = [v] ∧ DV K c H v d ∧ ∀ H', Same H H' → Q (.bl (f d)) H'

/-! ### the bag of draws: at c a list of the list l of ints, the place, what is left of a great number -/
def Bag (c l : Addr) (n : Nat) (H : Hp) : Prop := ∃ (ns : List Int) (pt rest : Int), H c = some (.lst [.ref l, .int pt, .int rest]) ∧
  H l = some (.lst (ns.map V.int)) ∧ l ≠ c ∧ ns.length ≤ 60 ∧ 0 ≤ pt ∧ pt ≤ n ∧ 0 ≤ rest
theorem Bag.mono {c l : Addr} {n m : Nat} {H : Hp} (b : Bag c l n H) (h : n ≤ m) : Bag c l m H := by
  obtain ⟨ns, pt, rest, h1, h2, h3, h4, h5, h6, h7⟩ := b
  exact ⟨ns, pt, rest, h1, h2, h3, h4, h5, by omega, h7⟩
theorem Bag.new {c l p : Addr} {n : Nat} {H : Hp} {o : HO} (b : Bag c l n H) (h : H p = none) : Bag c l n (upd H p o) := by
  obtain ⟨ns, pt, rest, h1, h2, h3, h4, h5, h6, h7⟩ := b
  exact ⟨ns, pt, rest, by rw [upd_ne (ne_of_none h1 h)]; exact h1, by rw [upd_ne (ne_of_none h2 h)]; exact h2, h3, h4, h5, h6, h7⟩
/-- a thing that is neither of the two is written -/
theorem Bag.put {c l p : Addr} {n : Nat} {H : Hp} {o : HO} (b : Bag c l n H) (h : p ≠ c) (h' : p ≠ l) : Bag c l n (upd H p o) := by
  obtain ⟨ns, pt, rest, h1, h2, h3, h4, h5, h6, h7⟩ := b
  exact ⟨ns, pt, rest, by rw [upd_ne h.symm]; exact h1, by rw [upd_ne h'.symm]; exact h2, h3, h4, h5, h6, h7⟩
theorem Bag.ne {c l p : Addr} {n : Nat} {H : Hp} (b : Bag c l n H) (h : H p = none) : p ≠ c := by
  obtain ⟨ns, pt, rest, h1, _⟩ := b
  exact fun e => by rw [e, h1] at h; cases h
theorem Bag.ne2 {c l p : Addr} {n : Nat} {H : Hp} (b : Bag c l n H) (h : H p = none) : p ≠ l := by
  obtain ⟨ns, pt, rest, _, h1, _⟩ := b
  exact fun e => by rw [e, h1] at h; cases h
theorem Bag.same {c l : Addr} {n : Nat} {H H' : Hp} (b : Bag c l n H) (h : Same H H') : Bag c l n H' := by
  obtain ⟨ns, pt, rest, h1, h2, r⟩ := b
  exact ⟨ns, pt, rest, h _ _ h1, h _ _ h2, r⟩
end Gs

set_option Elab.async false
set_option linter.all false
set_option maxRecDepth 100000
set_option maxHeartbeats 4000000
namespace Gs
open PySem PySem.Spec PyProof.Rows L2
/-! ### data of known size: depth at most k, bulk at most n -/
structure Fine (k n : Nat) (d : PyData) : Prop where
  sh : d.showable = true
  dp : d.depth ≤ k
  lf : d.leavesShort 1100 = true
  bk : d.bulk ≤ n
structure FineS (k n : Nat) (ds : List PyData) : Prop where
  sh : PyData.showableAll ds = true
  dp : PyData.depthAll ds ≤ k
  lf : PyData.leavesShortAll 1100 ds = true
  bk : PyData.bulkAll ds ≤ n
section
variable {k k' n n' m : Nat} {d e : PyData} {ds es : List PyData}
theorem Fine.mono (h : Fine k n d) (a : k ≤ k') (b : n ≤ n') : Fine k' n' d := ⟨h.sh, Nat.le_trans h.dp a, h.lf, Nat.le_trans h.bk b⟩
theorem FineS.mono (h : FineS k n ds) (a : k ≤ k') (b : n ≤ n') : FineS k' n' ds := ⟨h.sh, Nat.le_trans h.dp a, h.lf, Nat.le_trans h.bk b⟩
theorem int_len {i : Int} (h : i.natAbs < 2 ^ 1000) : (PyData.shown (.int i)).length ≤ 1100 ∧ i.natAbs.log2 < 1920 := by
  have e : i.natAbs.log2 < 1000 := by
    by_cases z : i.natAbs = 0
    · rw [z]; decide
    · exact (Nat.log2_lt z).mpr h
  refine ⟨?_, by omega⟩
  have := int_text_length_le (a := i) (k := 1000) (by decide) e
  show (Str.ofString (toString i)).length ≤ 1100
  rw [PySem.ofString_length]; omega
theorem Fine.int {i : Int} (h : i.natAbs < 2 ^ 1000) : Fine k n (.int i) := by
  obtain ⟨a, b⟩ := int_len h
  refine ⟨?_, Nat.zero_le _, ?_, Nat.zero_le _⟩
  · simp only [PyData.showable, decide_eq_true_eq]; exact b
  · simp only [PyData.leavesShort, decide_eq_true_eq]; exact a
theorem Fine.non : Fine k n .none := ⟨rfl, Nat.zero_le _, rfl, Nat.zero_le _⟩
theorem Fine.bl {b : Bool} : Fine k n (.bool b) := ⟨rfl, Nat.zero_le _, rfl, Nat.zero_le _⟩
theorem Fine.str {x : Str} (h : ∀ c ∈ x.cps.toList, c < 16 ^ 8) (hn : x.length ≤ n) : Fine k n (.str x) := by
  refine ⟨rfl, Nat.zero_le _, ?_, hn⟩
  simp only [PyData.leavesShort, List.all_eq_true, decide_eq_true_eq]; exact h
theorem FineS.nil : FineS k n [] := ⟨rfl, Nat.zero_le _, rfl, Nat.zero_le _⟩
theorem FineS.cons (h : Fine k n d) (r : FineS k m ds) : FineS k (n + 1 + m) (d :: ds) := by
  refine ⟨?_, ?_, ?_, ?_⟩
  · simp only [PyData.showableAll, h.sh, r.sh, Bool.and_self]
  · have a := h.dp; have b := r.dp
    simp only [PyData.depthAll]; omega
  · simp only [PyData.leavesShortAll, h.lf, r.lf, Bool.and_self]
  · have a := h.bk; have b := r.bk
    simp only [PyData.bulkAll]; omega
theorem Fine.list (r : FineS k n ds) : Fine (k + 1) n (.list ds) := by
  refine ⟨?_, ?_, ?_, ?_⟩
  · simp only [PyData.showable]; exact r.sh
  · have b := r.dp; simp only [PyData.depth]; omega
  · simp only [PyData.leavesShort]; exact r.lf
  · simp only [PyData.bulk]; exact r.bk
theorem Fine.tuple (r : FineS k n ds) : Fine (k + 1) n (.tuple ds) := by
  refine ⟨?_, ?_, ?_, ?_⟩
  · simp only [PyData.showable]; exact r.sh
  · have b := r.dp; simp only [PyData.depth]; omega
  · simp only [PyData.leavesShort]; exact r.lf
  · simp only [PyData.bulk]; exact r.bk
theorem Fine.to_tuple (h : Fine k n (.list ds)) : Fine k n (.tuple ds) := by
  obtain ⟨a, b, c, d⟩ := h
  simp only [PyData.showable, PyData.depth, PyData.leavesShort, PyData.bulk] at a b c d
  refine ⟨?_, ?_, ?_, ?_⟩
  · simp only [PyData.showable]; exact a
  · simp only [PyData.depth]; exact b
  · simp only [PyData.leavesShort]; exact c
  · simp only [PyData.bulk]; exact d
theorem Fine.dict1 {a b : PyData} (h : Fine k n a) (g : Fine k m b) : Fine (k + 1) (n + m + 2) (.dict [(a, b)]) := by
  refine ⟨?_, ?_, ?_, ?_⟩
  · simp only [PyData.showable, PyData.showableKv, h.sh, g.sh, Bool.and_self]
  · have x := h.dp; have y := g.dp
    simp only [PyData.depth, PyData.depthKv]; omega
  · simp only [PyData.leavesShort, PyData.leavesShortKv, h.lf, g.lf, Bool.and_self]
  · have x := h.bk; have y := g.bk
    simp only [PyData.bulk, PyData.bulkKv]; omega
theorem Fine.dict2 {a b a' b' : PyData} (h : Fine k n a) (g : Fine k n b) (h' : Fine k n a') (g' : Fine k n b') : Fine (k + 1) (4 * n + 4) (.dict [(a, b), (a', b')]) := by
  refine ⟨?_, ?_, ?_, ?_⟩
  · simp only [PyData.showable, PyData.showableKv, h.sh, g.sh, h'.sh, g'.sh, Bool.and_self]
  · have x := h.dp; have y := g.dp; have x' := h'.dp; have y' := g'.dp
    simp only [PyData.depth, PyData.depthKv]; omega
  · simp only [PyData.leavesShort, PyData.leavesShortKv, h.lf, g.lf, h'.lf, g'.lf, Bool.and_self]
  · have x := h.bk; have y := g.bk; have x' := h'.bk; have y' := g'.bk
    simp only [PyData.bulk, PyData.bulkKv]; omega
theorem Fine.fits (h : Fine k n d) (hn : n ≤ 15000) : d.shown.length ≤ sizeLine := by
  have a := PyData.shown_le_bulk 1100 (by decide) d h.lf
  have b := h.bk
  have c : sizeLine = 16777216 := by decide
  have e : (1100 + 2) * d.bulk ≤ (1100 + 2) * 15000 := Nat.mul_le_mul_left _ (by omega)
  omega
/-- what a list of bools shows -/
theorem fine_bools : ∀ bs : List Bool, FineS 0 bs.length (bs.map PyData.bool)
  | [] => .nil
  | b :: bs => by
    have := FineS.cons (k := 0) (n := 0) (Fine.bl (b := b)) (fine_bools bs)
    exact this.mono (Nat.le_refl _) (by rw [List.length_cons]; omega)
theorem fine_ints : ∀ zs : List Int, (∀ z ∈ zs, z.natAbs < 2 ^ 1000) → FineS 0 zs.length (zs.map PyData.int)
  | [], _ => .nil
  | z :: zs, h => by
    have := FineS.cons (k := 0) (n := 0) (Fine.int (h z List.mem_cons_self)) (fine_ints zs fun y hy => h y (List.mem_cons_of_mem _ hy))
    exact this.mono (Nat.le_refl _) (by rw [List.length_cons]; omega)
end
section
variable {K : PySem.W.Frag} {c : Addr} {H : Hp}
theorem dv_bools : ∀ bs : List Bool, DVs K c H (bs.map V.bl) (bs.map PyData.bool)
  | [] => .nil
  | b :: bs => .cons (.bl b) (dv_bools bs)
end
/-- a text that Lean wrote has signs below 16 ^ 8 -/
theorem ofs_signs (s : String) : ∀ c ∈ (Str.ofString s).cps.toList, c < 16 ^ 8 := by
  rw [PyProof.Rows.signs_ofString]
  intro c hc
  obtain ⟨ch, _, rfl⟩ := List.mem_map.mp hc
  exact ch.val.toNat_lt
theorem fa_nil {k n : Nat} : ∀ d ∈ ([] : List PyData), Fine k n d := fun _ h => nomatch h
theorem fa_cons {k n : Nat} {d : PyData} {ds : List PyData} (h : Fine k n d) (r : ∀ e ∈ ds, Fine k n e) : ∀ e ∈ d :: ds, Fine k n e := fun e m => by
  rcases List.mem_cons.mp m with rfl | m
  · exact h
  · exact r e m
/-- a list of two, of three -/
theorem fine1 {k n : Nat} {a : PyData} (h : Fine k n a) : FineS k (n + 1) [a] := (FineS.cons h FineS.nil (m := 0)).mono (Nat.le_refl _) (by omega)
theorem fine2 {k n : Nat} {a b : PyData} (h : Fine k n a) (g : Fine k n b) : FineS k (2 * n + 2) [a, b] := (FineS.cons h (fine1 g)).mono (Nat.le_refl _) (by omega)
theorem fine3 {k n : Nat} {a b e : PyData} (h : Fine k n a) (g : Fine k n b) (f : Fine k n e) : FineS k (3 * n + 3) [a, b, e] := (FineS.cons h (fine2 g f)).mono (Nat.le_refl _) (by omega)
theorem fine_tos {k : Nat} {i : Int} (h : i.natAbs < 2 ^ 1000) : Fine k 1100 (.str (toString i)) := by
  refine .str (ofs_signs _) ?_
  exact (int_len h).1
theorem fine_lit {k : Nat} {x : String} (h : (Str.ofString x).length ≤ 100) : Fine k 100 (.str (Str.ofString x)) := .str (ofs_signs _) h
/-- x = e where e has one value whatever way it goes, and changes nothing that is known -/
theorem asg_val {te : TE} {tg : TG} {D : Ends} {σ : L2.St} {H : Hp} (v : V) (h1 : ∀ Q : VK, (∀ H', Same H H' → Q v H') → te σ H Q) (h2 : ∀ H', Same H H' → tg v σ H' D.nx) : tAsg te tg D σ H := h1 _ h2
theorem seq_asg {te : TE} {tg : TG} {r : TS} {D : Ends} {σ : L2.St} {H : Hp} (v : V) (h1 : ∀ Q : VK, (∀ H', Same H H' → Q v H') → te σ H Q) (h2 : ∀ H', Same H H' → tg v σ H' (r D)) : tSeq (tAsg te tg) r D σ H := h1 _ h2
end Gs

set_option Elab.async false
set_option linter.all false
set_option maxRecDepth 100000
set_option maxHeartbeats 4000000
namespace Gs
open PySem PySem.Spec PyProof.Rows L2
section
variable {P : Program} {w : World} {K : PySem.W.Frag} {mg mb : Str → Option Value} {CX : CXT} {k : Nat} {fa a : Addr} {fd : FuncData} {x : Str} {sp : Sp}
  {s₁ : Shared} {vs : List Value} {ns : List Int}
/-- the law's call, from what its def promises where no guard stands -/
theorem law_callG (KX : K.In s₁.heap) (hns : s₁.heap.Ns mainGlobals mg) (hb : s₁.heap.Ns builtinsNs mb) (hbb : ∀ x : Str, x ≠ "__name__" → mb x = bootBuiltins x)
    (hlim : s₁.heap.NoLimit) (hg : s₁.gens = #[]) (ha : s₁.heap.get? a = some { cls := .type "list", data := .seq vs.toArray }) (hi : IntsAre vs ns) (hl : ns.length ≤ sizeLine)
    (hr : Room k callerA) (F : ∀ base : Heap, K.In base → base.Ns mainGlobals mg → FnG P w K mg base CX k fa fd [x] sp)
    (hbind : ∀ (s : Shared) (u : Value), BindsTo s fd ⟨[u], []⟩ [(x, u)])
    (hsp : ∀ H : Hp, SqL K H a (ns.map V.int) → sp [.ref a] H (fun v _ => v = .bl true) fun _ _ _ => False)
    (hCX : ∀ H e s', CX [] H s₁ (fun _ _ _ => False) e s' → False) :
    codeAny (model P w) callerA (.call (.ref fa) ⟨[.ref a], []⟩)
      (fun r s' => r = .ok (.ret (.bool true)) ∧ OldK s₁.heap s'.heap ∧ s'.os = s₁.os ∧ AllBare s'.gens) s₁ := by
  have rv := vals_ints hi
  have nV := hi.length
  -- H knows nothing, or just the script, which is frozen
  have go : ∀ H : Hp, (∀ b, H b = none ∨ (b = a ∧ K.lookup b = none ∧ ∃ o ys, H b = some (.frz o (.lst ys)))) → SqL K H a (ns.map V.int) → HOk P w H s₁.heap →
      codeAny (model P w) callerA (.call (.ref fa) ⟨[.ref a], []⟩)
        (fun r s' => r = .ok (.ret (.bool true)) ∧ OldK s₁.heap s'.heap ∧ s'.os = s₁.os ∧ AllBare s'.gens) s₁ := by
    intro H hO hS hok
    have unk : ∀ {b : Addr} {o : Obj}, s₁.heap.get? b = some o → o.data ≠ .seq vs.toArray → H b = none := by
      intro b o e nd
      rcases hO b with q | ⟨q, _, _⟩
      · exact q
      · rw [q, ha] at e; cases e; exact absurd rfl nd
    have nsH : ∀ {b : Addr} {m : Str → Option Value}, s₁.heap.Ns b m → (hidT s₁.heap H).Ns b m := by
      rintro b m ⟨o, es, ep, e, d, r⟩
      exact ⟨o, es, ep, hidT_get e (unk e (by rw [d]; exact fun z => nomatch z)), d, r⟩
    have kH : K.In (hidT s₁.heap H) := by
      intro b o e
      refine hidT_get (KX b o e) ?_
      rcases hO b with q | ⟨_, q, _⟩
      · exact q
      · rw [q] at e; cases e
    have md : Mod K mg (hidT s₁.heap H) := by
      refine ⟨kH, nsH hns, ⟨mb, nsH hb, hbb⟩, ?_⟩
      obtain ⟨mc, h1, h2⟩ := hlim
      exact ⟨mc, nsH h1, h2⟩
    have e0 : Env0 P w K mg (hidT s₁.heap H) callerA [] s₁ H := by
      refine ⟨rfl, md, fun b o e => of_hidT e, Nat.le_of_eq (hidT_size _ _), trivial, ?_, hok, .of_eq hg⟩
      intro b hb
      exact absurd (show b ∈ ([] : List Addr) from hb) (List.not_mem_nil)
    have run := (F _ kH (nsH hns)).run callerA [] s₁ H ⟨[.ref a], []⟩ [.ref a] [.ref a] _ _ hr rfl e0 (hbind s₁ (.ref a)) (.cons rfl .nil) (hsp H hS)
    refine codeAny_mono run (fun r s' h => ?_)
    match r, h with
    | .error e, h => exact (hCX H e s' h).elim
    | .ok .next, h => exact h.elim
    | .ok .brk, h => exact h.elim
    | .ok .cont, h => exact h.elim
    | .ok (.ret u), h =>
      obtain ⟨v, H', os, bare, un, hok', r', q⟩ := h
      cases (show v = .bl true from q)
      cases (show u = Value.bool true from r')
      refine ⟨rfl, OldK.of_keep (fun b o e => ?_), os, bare⟩
      rcases hO b with q | ⟨_, _, ob, ys, q⟩
      · exact un.keep b o e q (fun z => absurd (show b ∈ ([] : List Addr) from z) List.not_mem_nil) List.not_mem_nil
      · obtain ⟨e1, _⟩ := hok b _ q
        obtain ⟨e2, _⟩ := hok' b _ (un.frzs b ob _ q)
        rw [e] at e1; cases e1; exact e2
  by_cases hk : K.lookup a = none
  · have at_a : (fun b => if b = a then some (HO.frz { cls := .type "list", data := .seq vs.toArray } (.lst (ns.map V.int))) else none : Hp) a = some (.frz { cls := .type "list", data := .seq vs.toArray } (.lst (ns.map V.int))) := if_pos rfl
    refine go (fun b => if b = a then some (.frz { cls := .type "list", data := .seq vs.toArray } (.lst (ns.map V.int))) else none) (fun b => ?_) (.inl (.inr ⟨_, at_a⟩)) (fun b u z => ?_)
    · by_cases e : b = a
      · exact .inr ⟨e, by rw [e]; exact hk, _, _, if_pos e⟩
      · exact .inl (if_neg e)
    · dsimp only at z
      by_cases e : b = a
      · rw [if_pos e] at z; cases z; subst e
        exact ⟨ha, by rw [List.length_map]; exact hl, vs, _, rv, ha⟩
      · rw [if_neg e] at z; cases z
  · obtain ⟨o, ho⟩ := Option.ne_none_iff_exists'.mp hk
    have e := KX a o ho
    rw [ha] at e; cases e
    refine go (fun _ => none) (fun _ => .inl rfl) (.inr ⟨_, vs.toArray, _, ho, rfl, rfl, rfl, ?_, by simpa using rv⟩) (fun b u z => nomatch z)
    rw [List.size_toArray, nV]; exact hl
end
/-- what the head leaves, from the law's promise -/
theorem walkG {l : PySem.W.OpenLaw} {k : Nat} {q : Program} {loose : List Str} {XP : (Str → Option Value) → Heap → Prop} {YP : World → Heap → Prop} {d : DefRec}
    {K : Params → PySem.W.Frag} {sp : PySem.W.Frag → Sp} {x : Str} (hn : l.most = some 63) (hdf : d.params.defaults = []) (hr : Room k callerA)
    (hY : ∀ (w : World) (h : Heap), YP w h → (K w.params).In h)
    (F : ∀ (w : World) (mg : Str → Option Value) (fa : Addr) (h : Heap), (K w.params).In h → h.Ns mainGlobals mg → mg d.name = some (.ref fa) →
      ∃ fd : FuncData, (∀ (s : Shared) (u : Value), BindsTo s fd ⟨[u], []⟩ [(x, u)]) ∧
        ∀ base : Heap, (K w.params).In base → base.Ns mainGlobals mg → FnG l.prog w (K w.params) mg base CX0 k fa fd [x] (sp (K w.params)))
    (hsp : ∀ (K : PySem.W.Frag) (H : Hp) (a : Addr) (ns : List Int), ns.length ≤ 63 → SqL K H a (ns.map V.int) → sp K [.ref a] H (fun v _ => v = .bl true) fun _ _ _ => False) :
    PySem.W.WalkO q loose XP YP l.row.toRowW d [] (fun f vs => PySem.call f vs) := by
  refine Att.attach_call hn hdf (fun w s₀ s₁ mg mb fa o pm cd doc a vs ns G Y ho hd hcd hmg hobj hints hlen hg => ?_)
  have KX := hY w _ Y
  obtain ⟨fd, hb, hF⟩ := F w mg fa _ KX G.T.g hmg
  exact law_callG KX G.T.g G.T.b G.T.builtins G.T.nolimit hg hobj hints (Nat.le_trans hlen (by decide)) hr hF hb (fun H hS => hsp _ H a ns hlen hS) (fun _ _ _ h => h)
end Gs

set_option Elab.async false
set_option linter.all false
set_option maxRecDepth 100000
set_option maxHeartbeats 4000000
/-! Layer G3: {elt for x in ..} whose elt is a tuple of ints. -/
namespace Gs
open PySem PySem.Spec PyProof.Rows L2
section
variable {X : Cx} {pins : List (Addr × Obj)} {σ : L2.St} {H : Hp} {s : Shared}
abbrev Tps := List (Addr × List Int)
/-- D.add(x), x a tuple of ints -/
theorem addT_ok {E : Value → Shared → Prop} {D x : Addr} {L : Tps} {k : List Int} {Q : Value → Shared → Prop} (I : Inv X pins σ H s) (hD : H D = some (SetTO X.prog X.w D L))
    (hL : ∀ p ∈ L, SqT X.K H p.1 (p.2.map V.int)) (hx : SqT X.K H x (k.map V.int)) (hu : X.A.units + 1 < cLine) (room : L.length + 1 < 64)
    (h : ∀ (L' : Tps) s', (k ∈ L.map (·.2) → L' = L) → (k ∉ L.map (·.2) → L'.Perm ((x, k) :: L)) → Inv X pins σ (upd H D (SetTO X.prog X.w D L')) s' → Q .none s') :
    wpAny (model X.prog X.w) X.A (call (.builtin "set.add") [.ref D, .ref x]) Q E s := by
  have R0 : SetT0 X.prog X.w s.heap D L := (I.hok D _ hD).1
  obtain ⟨es, ep, t, R⟩ := R0.full fun p hp => I.isT (hL p hp)
  obtain ⟨o, ho, hex, hd⟩ := R.ob
  have ty : s.TypeIs (.ref D) "set" := ⟨o, ho, hex.1⟩
  refine wpAny_call_entry F.slot_set_add ty F.entry_set_add ?_ (F.args_set_add_2 _ _)
  unfold Builtin.«set.add» Builtin.Frozenset.oneOther
  simp only [List.isEmpty_nil, bind_assoc]
  unfold Builtin.Frozenset.addrOf setAdd
  refine wpAny_bind (wpAny_pure ?_)
  try dsimp only
  refine wpAny_bind (wpAny_pure ?_)
  try dsimp only
  refine wpAny_bind ?_
  refine wpAny_holding ?_
  refine wpAny_bind (wpAny_pyHash_tuple (by show X.A.units + 1 < cLine; exact hu) (I.isT hx) ?_)
  refine add_at (s := { s with toks := s.toks + (k.length + 1) }) R (I.isT hx) (by show X.A.units + 1 < cLine; exact hu) room fun b h' L' es' ep' t' sb R' c1 c2 => ?_
  show wpAny _ _ (ret Value.none) _ _ _
  have there : ∃ u, h'.get? D = some u := by
    obtain ⟨o', ho', _⟩ := R'.ob
    exact ⟨o', ho'⟩
  have J := I.write (e := D) (t' := s.toks + (k.length + 1)) (x := D) (o := SetTO X.prog X.w D L') (by rw [hD]; trivial) (.inl rfl) (fun c u hc hu => (sb.2 c hc).trans hu) there (setTO_new R'.t0)
  exact wpAny_pure ⟨_, rfl, h L' _ c1 c2 J⟩
end
end Gs

set_option Elab.async false
set_option linter.all false
set_option maxRecDepth 100000
set_option maxHeartbeats 4000000
/-! Layer G4: a set comprehension over any kind of set object that adds by a rule of its own; its instance for tuples of ints; len of such a set. -/
namespace Gs
open PySem PySem.Spec PyProof.Rows L2 PpSet
/-- a kind of set objects: what stands at D, the fresh one, what adding a value asks and gives -/
structure SetKd (P : Program) (w : World) (K : PySem.W.Frag) (α : Type) where
  ob : Addr → α → HO
  zero : α
  fresh : ∀ (H : Hp) (h : Heap), ObjOk P w H (h.push { cls := .type "set", dict := none, data := .set #[] 0 (.fresh 0 0 (!w.params.followText "set-order")) }) h.objs.size (ob h.objs.size zero)
  adds : Addr → V → Hp → (Hp → Prop) → Prop
  rule : ∀ (Y : Cx), Y.prog = P → Y.w = w → Y.K = K → Y.A.units + 2 < cLine → ∀ (pins : List (Addr × Obj)) (σ : L2.St) (H : Hp) (s : Shared) (E : Value → Shared → Prop) (D : Addr) (y : V) (u : Value) (F : Hp → Prop), Inv Y pins σ H s → RelV y u → adds D y H F →
    wpAny (model P w) Y.A (call (.builtin "set.add") [.ref D, u]) (fun _ s' => ∃ H', Inv Y pins σ H' s' ∧ F H') E s
def tSetC {P : Program} {w : World} {K : PySem.W.Frag} {α : Type} (Z : SetKd P w K α) (wi : TI) (g : TG) (tt : TT) (te : TE) (vs : List Nat) : TE := fun σ H Q => wi σ H fun J H1 => ∀ D, H1 D = none →
  ∃ W : Nat → Nat → Hp → Prop, (∃ m, W 0 m (upd H1 D (Z.ob D Z.zero))) ∧ ∀ i m H, W i m H → (J.stop i H ∧ Q (.ref D) H) ∨
    (J.go i H ∧ ∃ Nx : Hp → Prop, (∀ H', Nx H' → ∃ m', m' < m ∧ W (i + 1) m' H') ∧ ∀ x H', J.yld i H x H' → g x (wipe σ vs) H' fun σ2 H2 => wipe σ2 vs = wipe σ vs ∧ tt σ2 H2 fun b H3 => if b = true then te σ2 H3 fun y H4 => Z.adds D y H4 Nx else Nx H3)
section
variable {X : Cx}
theorem setc_run {α : Type} {pins : List (Addr × Obj)} {s : Shared} {σ : L2.St} {H : Hp} {Q : VK} {elt tg iter : Expr} {ifs : List Expr} {scope : Scope} {own : List (PySem.Str × Nat)} {pos pos' : Pos} {wi : TI} {g : TG} {tt : TT} {te : TE} {use : Option (Value → Sem Unit)}
    {Qf : Value → Shared → Prop} (Z : SetKd X.prog X.w X.K α) (hu : X.A.units + 2 < cLine) (calm : X.calm = true) (nod : X.N.Nodup) (I : Inv X pins σ H s) (pi : PI X tg iter wi) (bok : BlkOk X.N X.env.scope scope own)
    (pg : ∀ (s : Shared) (H : Hp) (C : Addr) (cl : List (PySem.Str × Addr)) (fp : List Addr), PG (X.blk s H scope (compEnvC scope cl C X.env) fp) tg g)
    (pt : ∀ (s : Shared) (H : Hp) (C : Addr) (cl : List (PySem.Str × Addr)) (fp : List Addr), PTs (X.blk s H scope (compEnvC scope cl C X.env) fp) ifs tt)
    (pe : ∀ (s : Shared) (H : Hp) (C : Addr) (cl : List (PySem.Str × Addr)) (fp : List Addr), PE (X.blk s H scope (compEnvC scope cl C X.env) fp) elt te)
    (plain : ∀ x, foldedSetIterable iter X.env x = pure x) (h : tSetC Z wi g tt te (own.map (·.2)) σ H Q)
    (back : ∀ D C s' m H', Inv X pins σ H' s' → Q (.ref D) H' → s'.heap.Ns C m → FpOk X pins H' C → compPost (model X.prog X.w) X.A X.xe use Qf (.ref D) C (.ok .next) s') :
    wpAny (model X.prog X.w) X.A (comprehension (.SetComp elt [⟨tg, iter, ifs, 0⟩] scope pos) scope X.env pos' (newSet (.type "set")) false (eval iter X.env) use) Qf X.xe s := by
  have cells : ∀ q ∈ scope.names, q.2 = .free → ∃ c, X.env.cells.lookup q.1 = some c := by
    intro q hq e
    cases bok.free q hq e with
    | inl k => exact I.ok.has _ (Or.inl k)
    | inr k => exact I.ok.has _ (Or.inr k)
  refine wpAny_comprehension_free (use := use) rfl plain (closure_ok cells) bok.kind (fun q hq e => (bok.uniq q hq).trans (congrArg some e)) (thn (pi.run pins s σ H _ I h) fun _ s1 hx => thn hx fun _ s2 got => ?_)
  obtain ⟨it, fp, tn, J, H2, rfl, I2, T, st2, f2, q⟩ := got
  refine newSet_ok (newEnv_comp ?_)
  obtain ⟨D, hD⟩ : ∃ D, D = s2.heap.objs.size := ⟨_, rfl⟩
  have free : H2 D = none := I2.hok.fresh (by rw [hD]; exact Nat.le_refl _)
  obtain ⟨W, ⟨m0, w0⟩, turn⟩ := q D free
  obtain ⟨s3, hs3⟩ : ∃ s3 : Shared, s3 = { s2 with heap := s2.heap.push { cls := .type "set", dict := none, data := .set #[] 0 (.fresh 0 0 (!X.w.params.followText "set-order")) } } := ⟨_, rfl⟩
  have hp3 : ∀ b o, s2.heap.get? b = some o → s3.heap.get? b = some o := fun b o e => by rw [hs3]; exact Heap.get?_push_of_some _ e
  have sz3 : s3.heap.objs.size = s2.heap.objs.size + 1 := by rw [hs3]; exact Heap.size_push _ _
  have I3 : Inv X pins σ (upd H2 D (Z.ob D Z.zero)) s3 := by
    rw [hs3]
    refine I2.laid (t' := s2.toks) (fun b o e => Heap.get?_push_of_some _ e) (by rw [hD]; exact Nat.le_refl _) ?_
    rw [hD]
    exact Z.fresh _ _
  have below : ∀ b ∈ fp, b < s2.heap.objs.size := by
    intro b hb
    obtain ⟨o, e, _⟩ := T.obj _ _ st2 b hb
    exact Heap.lt_size e
  have fps : ∀ b ∈ fp, FpOk X pins (upd H2 D (Z.ob D Z.zero)) b ∧ b < s3.heap.objs.size := by
    intro b hb
    have lt := below b hb
    refine ⟨⟨(upd_ne (by rw [hD]; exact Nat.ne_of_lt lt)).trans (f2 b hb).1, (f2 b hb).2⟩, by rw [sz3]; exact Nat.lt_succ_of_lt lt⟩
  have st3 : tn 0 s3.heap := T.keep _ _ _ st2 fun b _ o e => hp3 b o e
  have I4 := block_start I3 bok nod fps
  have pg := pg s3 (upd H2 D (Z.ob D Z.zero)) s3.heap.objs.size (cellsFrom (s3.heap.objs.size + 1) scope.names (cloFrom X.env.cells scope.names [])) fp
  have pt := pt s3 (upd H2 D (Z.ob D Z.zero)) s3.heap.objs.size (cellsFrom (s3.heap.objs.size + 1) scope.names (cloFrom X.env.cells scope.names [])) fp
  have pe := pe s3 (upd H2 D (Z.ob D Z.zero)) s3.heap.objs.size (cellsFrom (s3.heap.objs.size + 1) scope.names (cloFrom X.env.cells scope.names [])) fp
  have fresh : ∀ b ∈ fp, (upd H2 D (Z.ob D Z.zero)) b = none := fun b hb => (fps b hb).1.1
  rw [← hD, ← hs3]
  show codeAny _ _ (.compStart (.SetComp elt [⟨tg, iter, ifs, 0⟩] scope pos) 0 (.ref it) (.ref D) (compEnvC scope (cellsFrom (s3.heap.objs.size + 1) scope.names (cloFrom X.env.cells scope.names [])) s3.heap.objs.size X.env)) (compPost (model X.prog X.w) X.A X.xe use Qf (.ref D) s3.heap.objs.size) _
  revert I4 pg pt pe
  generalize hce : compEnvC scope (cellsFrom (s3.heap.objs.size + 1) scope.names (cloFrom X.env.cells scope.names [])) s3.heap.objs.size X.env = ce
  intro I4 pg pt pe
  have loc : ce.locals = s3.heap.objs.size := by rw [← hce]; rfl
  generalize upd H2 D (Z.ob D Z.zero) = H3 at I3 I4 pg pt pe w0 fresh fps
  obtain ⟨s4, hs4⟩ : ∃ s4 : Shared, s4 = { s3 with heap := pushCells (s3.heap.push { cls := .type "dict", data := .dict #[] }) scope.names } := ⟨_, rfl⟩
  rw [← hs4] at I4 ⊢
  have st4 : tn 0 s4.heap := T.keep _ _ _ st3 fun b _ o e => by rw [hs4]; exact pushCells_keeps _ _ _ _ (Heap.get?_push_of_some _ e)
  have hold : ∀ {σ' : L2.St} {H' : Hp} {s' : Shared}, Inv (X.blk s3 H3 scope ce fp) [] σ' H' s' → (∀ b ∈ fp, H' b = none) → ∀ b ∈ fp, FpOk (X.blk s3 H3 scope ce fp) [] H' b := by
    intro σ' H' s' I' hn b hb
    exact ⟨hn b hb, (I'.ok.exf b hb).1, I'.ok.exfs b hb, .inl hb, fun x c e => (I'.ok.exf b hb).2 x c e, fun p hp => absurd (show p ∈ ([] : List (Addr × Obj)) ++ [] from hp) (by simp)⟩
  have loop : codeAny (model X.prog X.w) X.A (.compLoop (.SetComp elt [⟨tg, iter, ifs, 0⟩] scope pos) 0 (.ref it) (.ref D) ce) (compPost (model X.prog X.w) X.A X.xe use Qf (.ref D) s3.heap.objs.size) s4 := by
    refine compLoopS_any (fun n s' => ∃ i H', Inv (X.blk s3 H3 scope ce fp) [] (wipe σ (own.map (·.2))) H' s' ∧ tn i s'.heap ∧ (∀ b ∈ fp, H' b = none) ∧ W i n H') ?_ m0 ⟨0, H3, I4, st4, fresh, w0⟩
    rintro n s5 ⟨i, H5, I5, st5, n5, w5⟩
    cases turn i n H5 w5 with
    | inl fin =>
      obtain ⟨stop, qq⟩ := fin
      refine thnF (T.done (X.blk s3 H3 scope ce fp) rfl rfl rfl calm i [] s5 _ H5 (fun _ _ => False) I5 (hold I5 n5) st5 stop) fun r s6 ⟨hr, I6⟩ => ?_
      subst hr
      have I7 : Inv X pins σ H5 s6 := I3.call' (ch := fp) I6.os I6.base I6.hok I6.bare fun b hb => ⟨(fps b hb).1.2.2.2.1, (fps b hb).1.2.1, (fps b hb).1.2.2.2.2.1, (fps b hb).1.2.2.2.2.2⟩
      have gone : H5 s3.heap.objs.size = none := by
        have z : H5 ce.locals = none := I6.free
        rwa [loc] at z
      obtain ⟨m, hn, _⟩ := I6.loc
      have hn : s6.heap.Ns ce.locals m := hn
      rw [loc] at hn
      exact back D s3.heap.objs.size s6 m H5 I7 qq hn (I3.fpOk (Nat.le_refl _) gone)
    | inr more =>
      obtain ⟨go, Nx, hNx, step⟩ := more
      refine thnF (T.item (X.blk s3 H3 scope ce fp) rfl rfl rfl calm i [] s5 _ H5 (fun _ _ => False) I5 (hold I5 n5) st5 go) fun r s6 ⟨u, hr, h6⟩ => ?_
      subst hr
      refine thnF h6 fun _ s7 ⟨x, H7, I7, r7, y7, st7, n7⟩ => ?_
      have I7p := I7.pinned (hold I7 n7) (T.obj _ _ st7)
      refine thnF (pg.run _ s7 _ H7 x u _ I7p r7 (step x H7 y7)) fun _ s8 ⟨σ8, H8, I8, hw8, q8⟩ => ?_
      refine thnF (pt.run _ s8 σ8 H8 _ I8 q8) fun b s9 ⟨H9, I9, q9⟩ => ?_
      have again : ∀ {s' : Shared} {H' : Hp}, Inv (X.blk s3 H3 scope ce fp) ([] ++ pinsAt fp s7.heap) σ8 H' s' → Nx H' →
          ∃ m, m < n ∧ ∃ i H', Inv (X.blk s3 H3 scope ce fp) [] (wipe σ (own.map (·.2))) H' s' ∧ tn i s'.heap ∧ (∀ b ∈ fp, H' b = none) ∧ W i m H' := by
        intro s' H' I' nx
        obtain ⟨m', hm, w'⟩ := hNx H' nx
        have pinned : ∀ b ∈ fp, ∀ o, s7.heap.get? b = some o → s'.heap.get? b = some o ∧ H' b = none := by
          intro b hb o e
          have z := I'.pin (b, o) (List.mem_append_right _ (List.mem_append_right _ (mem_pinsAt hb e)))
          exact ⟨z.1, z.2.1⟩
        refine ⟨m', hm, i + 1, H', (I'.unpinned (pins := [])).weak (by rw [← hw8, wipe_length]) (fun j v e => ?_), T.keep _ _ _ st7 (fun b hb o e => (pinned b hb o e).1), (fun b hb => ?_), w'⟩
        · rw [← hw8] at e
          exact (wipe_some e).1
        · obtain ⟨o, e, _⟩ := T.obj _ _ st7 b hb
          exact (pinned b hb o e).2
      cases b with
      | false =>
        rw [if_neg Bool.false_ne_true] at q9 ⊢
        exact again I9 q9
      | true =>
        rw [if_pos rfl] at q9 ⊢
        refine thnF (pe.run _ s9 σ8 H9 _ I9 q9) fun z s10 ⟨yv, H10, I10, r10, ad⟩ => ?_
        refine wpAny_mono (Z.rule (X.blk s3 H3 scope ce fp) rfl rfl rfl hu _ σ8 H10 s10 _ D yv z Nx I10 r10 ad) (fun _ s11 ⟨H11, I11, nx⟩ => again I11 nx) fun _ _ e => e
  exact codeAny_compStart_set loop (T.self X.A 0 _ _ _ st4 loop)
/-- {elt for tg in iter ..} -/
theorem pe_setc {α : Type} {elt tg iter : Expr} {ifs : List Expr} {scope : Scope} {own : List (PySem.Str × Nat)} {pos : Pos} {wi : TI} {g : TG} {tt : TT} {te : TE} (Z : SetKd X.prog X.w X.K α) (hu : X.A.units + 2 < cLine) (calm : X.calm = true) (nod : X.N.Nodup)
    (pi : PI X tg iter wi) (bok : BlkOk X.N X.env.scope scope own) (pg : ∀ (s : Shared) (H : Hp) (C : Addr) (cl : List (PySem.Str × Addr)) (fp : List Addr), PG (X.blk s H scope (compEnvC scope cl C X.env) fp) tg g)
    (pt : ∀ (s : Shared) (H : Hp) (C : Addr) (cl : List (PySem.Str × Addr)) (fp : List Addr), PTs (X.blk s H scope (compEnvC scope cl C X.env) fp) ifs tt)
    (pe : ∀ (s : Shared) (H : Hp) (C : Addr) (cl : List (PySem.Str × Addr)) (fp : List Addr), PE (X.blk s H scope (compEnvC scope cl C X.env) fp) elt te) (plain : ∀ x, foldedSetIterable iter X.env x = pure x := by intro _; rfl) :
    PE X (.SetComp elt [⟨tg, iter, ifs, 0⟩] scope pos) (tSetC Z wi g tt te (own.map (·.2))) := by
  constructor
  intro pins s σ H Q I h
  rw [eval_SetComp]
  refine setc_run Z hu calm nod I pi bok pg pt pe plain h fun D C s' m H' I' q hn f => ⟨m, hn, fun h2 sb => ?_⟩
  obtain ⟨f0, f1, f2, f3, f4, f5⟩ := f
  exact ⟨.ref D, H', I'.turned (t' := s'.toks) (fun b o hb e => (sb.2 b hb).trans e) f0 f1 f3 f4 f5, rfl, q⟩
end
end Gs
namespace Gs
open PySem PySem.Spec PyProof.Rows L2 PpSet
/-- sets of tuples of ints -/
def tupKd (P : Program) (w : World) (K : PySem.W.Frag) : SetKd P w K Tps where
  ob := fun D L => SetTO P w D L
  zero := []
  fresh := fun H h => setTO_new (setTR_fresh (Heap.get?_push_size _ rfl)).t0
  adds := fun D y H F => ∃ (x : Addr) (k : List Int) (L : Tps), y = .ref x ∧ H D = some (SetTO P w D L) ∧ (∀ p ∈ L, SqT K H p.1 (p.2.map V.int)) ∧ SqT K H x (k.map V.int) ∧ L.length + 1 < 64 ∧
    ∀ L' : Tps, (k ∈ L.map (·.2) → L' = L) → (k ∉ L.map (·.2) → L'.Perm ((x, k) :: L)) → F (upd H D (SetTO P w D L'))
  rule := by
    rintro Y rfl rfl rfl hu pins σ H s E D y u F I r ⟨x, k, L, rfl, hD, hL, hx, room, q⟩
    cases (show u = Value.ref x from r)
    exact addT_ok I hD hL hx (by omega) room fun L' s' c1 c2 J => ⟨_, J, q L' c1 c2⟩
def rLenT (K : PySem.W.Frag) (P : Program) (w : World) : List V → Hp → VK → Prop := fun xs H Q => ∃ (a : Addr) (L : Tps), xs = [.ref a] ∧ H a = some (SetTO P w a L) ∧ (∀ p ∈ L, SqT K H p.1 (p.2.map V.int)) ∧ Q (.int L.length) H
theorem call_lenT {X : Cx} : CallR X (.builtin "len") (rLenT X.K X.prog X.w) := by
  intro pins s σ H xs us Q I r h
  obtain ⟨a, L, rfl, ha, hL, q⟩ := h
  rw [Vals.ref1 r]
  have R0 : SetT0 X.prog X.w s.heap a L := (I.hok a _ ha).1
  obtain ⟨es, ep, t, R⟩ := R0.full fun p hp => I.isT (hL p hp)
  obtain ⟨o, ho, hex, hd⟩ := R.ob
  have hn := R.size
  have few := R.few
  exact call_len_set ho hex hd R.fits (by rw [hn]; omega) ⟨.int L.length, H, I.tok _, ⟨_, by rw [hn]⟩, q⟩
end Gs

set_option Elab.async false
set_option linter.all false
set_option maxRecDepth 100000
set_option maxHeartbeats 4000000
/-! Layer G5: a written dict with text keys, walked. -/
namespace Gs
open PySem PySem.Spec PyProof.Rows L2
/-- at d: a written dict that holds kvs, in this order -/
structure WD (K : PySem.W.Frag) (w : World) (d : Addr) (kvs : List (Str × V)) : Prop where
  ex : ∃ (es : Array DictEntry) (n : Nat), KDict K w d es n ∧ es.size = kvs.length ∧ ∀ (i : Nat) k v, kvs[i]? = some (k, v) → ∃ en t, es[i]? = some en ∧ en.key = .str k t ∧ RelV v en.val
def Itw (ks : List Str) : It := ⟨fun i _ => i < ks.length, fun i H x H' => H' = H ∧ ∃ k, ks[i]? = some k ∧ x = .str k, fun i _ => ks.length ≤ i⟩
section
variable {P : Program} {w : World} {K : PySem.W.Frag} {tg : Expr} {d : Addr} {es : Array DictEntry} {n : Nat} {ks : List Str}
theorem turn_wkeys (it : Addr) (D : KDict K w d es n) (hz : es.size = ks.length) (hk : ∀ (i : Nat) k, ks[i]? = some k → ∃ en t, es[i]? = some en ∧ en.key = .str k t) :
    Turn P w K tg (Itw ks) [it] it (fun i h => h.IsKeyIter it d i ks.length n) where
  mem := List.mem_cons_self
  obj := by
    intro i h st b hb
    obtain rfl : b = it := List.mem_singleton.mp hb
    obtain ⟨oi, e, c, dd⟩ := st
    exact ⟨oi, e, fun v z => by rw [dd] at z; cases z⟩
  keep := fun i h h' st k => st.at fun oi e => k it List.mem_cons_self oi e
  item := by
    rintro X rfl rfl rfl hc i pins s σ H E I hf st hi
    obtain ⟨f0, f1, f2, f3, f4, f5⟩ := hf it List.mem_cons_self
    have hi : i < ks.length := hi
    obtain ⟨en, t, hen, hkey⟩ := hk i _ (List.getElem?_eq_getElem hi)
    refine next_key_item st (I.kIn _ _ D.at_) rfl hz hen fun h' st' sb => ?_
    have I1 : Inv X pins σ H { s with heap := h' } := I.turned (t' := s.toks) (fun b ob hb e => (sb.2 b hb).trans e) f0 f1 f3 f4 f5
    obtain ⟨oi, e, c, dd⟩ := id st'
    exact ⟨en.key, rfl, go_of (s := { s with heap := h' }) e c dd (by decide) ⟨.str ks[i], H, I1, ⟨t, hkey⟩, ⟨rfl, _, List.getElem?_eq_getElem hi, rfl⟩, st', fun b hb => (hf b hb).1⟩⟩
  done := by
    rintro X rfl rfl rfl hc i pins s σ H E I hf st hi
    obtain ⟨f0, f1, f2, f3, f4, f5⟩ := hf it List.mem_cons_self
    exact next_key_end (I.ok.hd hc) st (I.kIn _ _ D.at_) rfl hz hi fun h' eb => ⟨rfl, I.turned (t' := s.toks) (fun b ob hb e => eb b ob hb e) f0 f1 f3 f4 f5⟩
  self := fun A i s Q E st h => wpAny_pyIter_keyiter st h
def iWKeys (K : PySem.W.Frag) (w : World) (td : TE) : TI := fun σ H R => td σ H fun x H1 => ∃ d kvs, x = .ref d ∧ WD K w d kvs ∧ R (Itw (kvs.map (·.1))) H1
/-- for k in D, D a written dict -/
theorem pi_wkeys {X : Cx} {e : Expr} {td : TE} (he : PE X e td) : PI X tg e (iWKeys X.K X.w td) := by
  constructor
  intro pins s σ H R I h
  refine thn (he.run pins s σ H _ I h) fun u s1 ⟨x, H1, I1, rx, d, kvs, ex, ⟨es, n, D, hz, hk⟩, q⟩ => ?_
  subst ex
  obtain rfl : u = Value.ref d := rx
  have hz : es.size = (kvs.map (·.1)).length := by rw [hz, List.length_map]
  have hk : ∀ (i : Nat) k, (kvs.map (·.1))[i]? = some k → ∃ en t, es[i]? = some en ∧ en.key = .str k t := by
    intro i k e
    rw [List.getElem?_map] at e
    cases z : kvs[i]? with
    | none => rw [z] at e; cases e
    | some q =>
      rw [z] at e
      obtain ⟨en, t, h1, h2, _⟩ := hk i q.1 q.2 z
      cases e
      exact ⟨en, t, h1, h2⟩
  refine iter_keys D.low (I1.kIn _ _ D.at_) ⟨rfl, rfl, rfl⟩ rfl (pi_one (tk := s1.toks) I1 _ (turn_wkeys _ D hz hk) ⟨_, Heap.get?_push_size _ rfl, rfl, ?_⟩ q)
  rw [hz] <;> rfl
theorem walk_wkeys {ks : List Str} : Walk (Itw ks) ks.length (fun _ => True) (fun i H x H' => H' = H ∧ ∃ k, ks[i]? = some k ∧ x = .str k) :=
  ⟨fun i H hi _ => hi, fun H _ => Nat.le_refl _, fun i H x H' _ _ y => y⟩
theorem isStr_str {k z : Str} {t : Tok} : (Value.str k t).isStr z = decide (k = z) := by
  show (k == z) = _
  by_cases h : k = z
  · subst h; simp
  · rw [decide_eq_false h]; simpa using h
/-- what it tells of a key -/
theorem WD.tells {kvs : List (Str × V)} (D : WD K w d kvs) (z : Str) : (∃ (i : Nat) (v : V) (u : Value), kvs[i]? = some (z, v) ∧ PySem.W.nsIn K d z = some (some u) ∧ RelV v u) ∨ ((∀ v, (z, v) ∉ kvs) ∧ PySem.W.nsIn K d z = some none) := by
  obtain ⟨es, n, ⟨at_, lit, low⟩, hz, hk⟩ := D.ex
  have e0 : PySem.W.nsIn K d z = (match es.toList.find? (·.key.isStr z) with
      | some e => some (some e.val)
      | none => if es.toList.any (·.refKey) then none else some none) := by
    unfold PySem.W.nsIn
    rw [at_] <;> rfl
  cases hf : es.toList.find? (·.key.isStr z) with
  | some e =>
    left
    have hm := List.mem_of_find?_eq_some hf
    have hq := List.find?_some hf
    obtain ⟨i, hi⟩ := List.getElem?_of_mem hm
    rw [Array.getElem?_toList] at hi
    have hl : i < kvs.length := by
      have : i < es.size := (Array.getElem?_eq_some_iff.mp hi).1
      omega
    obtain ⟨en, t, h1, h2, h3⟩ := hk i kvs[i].1 kvs[i].2 (List.getElem?_eq_getElem hl)
    rw [hi] at h1
    cases h1
    have hq : e.key.isStr z = true := hq
    rw [h2, isStr_str] at hq
    have ez : kvs[i].1 = z := of_decide_eq_true hq
    refine ⟨i, kvs[i].2, e.val, by rw [List.getElem?_eq_getElem hl, ← ez], ?_, h3⟩
    rw [e0, hf]
  | none =>
    right
    refine ⟨fun v hm => ?_, ?_⟩
    · obtain ⟨i, hi⟩ := List.getElem?_of_mem hm
      obtain ⟨en, t, h1, h2, h3⟩ := hk i z v hi
      have := List.find?_eq_none.mp hf en (by
        rw [← Array.getElem?_toList] at h1
        exact List.mem_of_getElem? h1)
      rw [h2, isStr_str] at this
      exact this (decide_eq_true rfl)
    · rw [e0, hf]
      have : es.toList.any (·.refKey) = false := by
        rw [List.any_eq_false]
        intro e he
        obtain ⟨x, t, h1, _⟩ := lit.all e he
        unfold DictEntry.refKey
        rw [h1]
        exact Bool.false_ne_true
      rw [this] <;> rfl
end
end Gs
namespace Gs
open PySem PySem.Spec PyProof.Rows L2
theorem pg_or {X : Cx} {e : Expr} {t u : TG} (h1 : PG X e t) (h2 : PG X e u) : PG X e (fun v σ H Q => t v σ H Q ∨ u v σ H Q) :=
  ⟨fun pins s σ H v w Q I r h => h.elim (fun h => h1.run pins s σ H v w Q I r h) fun h => h2.run pins s σ H v w Q I r h⟩
end Gs

set_option Elab.async false
set_option linter.all false
set_option maxRecDepth 100000
set_option maxHeartbeats 4000000
/-! Layer G12: == and != by an own __eq__ whatever it answers; str by an own __str__; a staticmethod off its class. -/
namespace Gs
open PySem PySem.Spec PyProof.Rows L2
theorem rel_ref (a : Addr) : L2.RelV (.ref a) (.ref a) := rfl
theorem rel_bl (b : Bool) : L2.RelV (.bl b) (.bool b) := rfl
theorem rel_str (z : Str) (t : Tok) : L2.RelV (.str z) (.str z t) := ⟨t, rfl⟩
theorem rel_ni {v : V} : ¬ L2.RelV v Value.notImplemented := by
  cases v <;> intro h
  · cases h
  · cases h
  · obtain ⟨_, h⟩ := h; cases h
  · obtain ⟨_, h⟩ := h; cases h
  · obtain ⟨_, h⟩ := h; cases h
  · obtain ⟨_, h⟩ := h; cases h
  · cases h
  · cases h
section
variable {X : Cx} {CX : CXT} {k : Nat} {C f : Addr} {fd : FuncData} {ps : List Str} {sp : Sp} {E : XK}
/-- a def that is called below the running body, its promise told there -/
theorem run_sub {A : Around} {pins : List (Addr × Obj)} {σ : L2.St} {H : Hp} {s : Shared} {Q : VK} {us : List Value} {vs : List V} (F : FnOk X.prog X.w X.K X.mg X.base CX k f fd ps sp)
    (hr : Room k A) (hA : A.frames = X.A.frames) (hb : Binds X.K fd ps []) (hx : Passes CX X E) (I : Inv X pins σ H s) (r : Vals vs us) (h : sp vs H Q E) :
    wpAny (model X.prog X.w) A (call (.ref f) us) (EP X pins σ Q) X.xe s := by
  have n : us.length = ps.length := r.length.symm.trans (F.len _ _ _ _ h)
  have b := hb s us I.kIn (by rw [List.append_nil]; exact n)
  rw [List.append_nil] at b
  have z := I.env0
  have z' : Env0 X.prog X.w X.K X.mg X.base A X.stack s H := ⟨by rw [hA]; exact z.frames, z.mod, z.bs, z.bsz, z.funs, z.frf, z.hok, z.bare⟩
  refine wpAny_call (codeAny_mono (F.run A X.stack s H ⟨us, []⟩ us vs Q E hr z' b r h) (fun q s' hq => ?_))
  match q, hq with
  | .error e, hq => exact hx pins σ H s e s' I hq
  | .ok (.ret u), hq => exact I.after hq
  | .ok .next, hq => exact hq.elim
  | .ok .brk, hq => exact hq.elim
  | .ok .cont, hq => exact hq.elim
/-- what an own class needs that == goes by its own def -/
structure OwnC (K : PySem.W.Frag) (C e : Addr) : Prop where
  eq : PySem.W.findIn K (.ref C) "__eq__" = some (some (.ref e))
  fe : PySem.W.isFn K (.ref e) = true
  ne : PySem.W.findIn K (.ref C) "__ne__" = some (some (.builtin "object.__ne__"))
  mo : PySem.W.mroIn K C (.type "object") = some true
/-- what an own class needs that str goes by its own def -/
structure OwnS (K : PySem.W.Frag) (C g : Addr) : Prop where
  st : PySem.W.findIn K (.ref C) "__str__" = some (some (.ref g))
  fs : PySem.W.isFn K (.ref g) = true
/-- what an own class needs that its instances are looked at by isinstance -/
structure TyC (K : PySem.W.Frag) (C : Addr) : Prop where
  cl : Cls K C
  ha : PySem.W.findIn K (.ref C) "__class__" = some (some (.builtin "object.__class__"))
  hn : PySem.W.specialIn K (.builtin "object.__class__") "__get__" = some (some (.builtin "getset_descriptor.__get__"))
  tk : PySem.W.takesIn K (.builtin "object.__class__") = some true
  mo : PySem.W.mroIn K C (.type "object") = some true
theorem TyC.ty {K : PySem.W.Frag} {C a dx : Addr} {fs : List (Str × V)} {H : Hp} (h : TyC K C) (e : H a = some (.ins C dx fs)) : TyX K H (.ref a) (.ref C) := .base (.ins e h.cl h.ha h.hn h.tk h.mo)
theorem nf_own {K : PySem.W.Frag} {C : Addr} : PySem.W.notFirst K C (.ref C) = true := by simp [PySem.W.notFirst]
def rOwn (K : PySem.W.Frag) (C : Addr) (sp : Sp) (E : XK) : R2 := fun x y H Q => ∃ (a dx : Addr) (fs : List (Str × V)) (t : Value), x = .ref a ∧ H a = some (.ins C dx fs) ∧ TyX K H y t ∧
  PySem.W.notFirst K C t = true ∧ sp [.ref a, y] H Q E
theorem op_eqOwn (O : OwnC X.K C f) (F : FnOk X.prog X.w X.K X.mg X.base CX k f fd ps sp) (hr : Room k X.A) (hb : Binds X.K fd ps []) (hx : Passes CX X E) : OpR X (compareOp .Eq) (rOwn X.K C sp E) := by
  intro pins s σ H x y v u Q I rx ry h
  obtain ⟨a, dx, fs, t, rfl, ha, ty, nf, q⟩ := h
  cases (show v = Value.ref a from rx)
  obtain ⟨_, J0, _⟩ := ins_get I.hok ha
  obtain ⟨_, J, _⟩ := J0.look
  obtain ⟨_, hF⟩ := I.fr
  obtain ⟨_, kx, hp, _⟩ := kit_of I ry ty
  refine PySem.W.cmp_K (op := .Eq) (tb := t) hr.units0 hF I.ok.mod.kin J (kx.ty _ _ I.kIn hp) nf O.eq O.fe ?_
  refine wpAny_mono (run_sub F hr rfl hb hx I (.cons (rel_ref a) (.cons ry .nil)) q) (fun z s' hz => ?_) fun _ _ e => e
  obtain ⟨v', H', I', rv, qq⟩ := hz
  cases z with
  | notImplemented => exact (rel_ni rv).elim
  | _ => exact ⟨v', H', I', rv, qq⟩
/-! the slot object.__ne__, off an own class -/
section
variable {prog : Program} {w : World} {M : Model} {A : Around} {EE : Value → Shared → Prop} {s : Shared} {K : PySem.W.Frag} {x e : Addr} {b tb : Value} {ox : Obj} {od : Option Obj}
theorem ne_entry (hu : A.units < cLine) (X : K.In s.heap) (I : PySem.W.InstAt s.heap x ox C od) (O : OwnC K C e) {Q : Fin → Shared → Prop}
    (h : wpAny (model prog w) A (call (.ref e) [.ref x, b]) (fun v s' => ∃ r, v = .bool r ∧ Q (.done (.ret (.bool (!r)))) s') EE s) :
    wpAny (model prog w) A (Builtin.«object.__ne__» ⟨[.ref x, b], []⟩) Q EE s := by
  have step : wpAny (model prog w) A (callSpecialIfBound? (.ref x) (Str.ofString "__eq__") [b]) (fun r s' => ∃ t, r = some (.bool t) ∧ Q (.done (.ret (.bool (!t)))) s') EE s :=
    PySem.W.ifBound_K X I O.eq O.fe (wpAny_mono h (fun v s' ⟨r, ev, q⟩ => ⟨r, by rw [ev], q⟩) fun _ _ z => z)
  unfold Builtin.«object.__ne__»
  repeat (first
    | with_reducible refine wpAny_cRoomFor hu ?_
    | (refine wpAny_bind (m := callSpecialIfBound? (.ref x) (Str.ofString "__eq__") [b]) (wpAny_mono step (fun r s' hr => by
        obtain ⟨t, rfl, q⟩ := hr
        repeat (first | exact q | exact wpAny_pure q | exact wpAny_truthy_bool q | (refine wpAny_bind (m := truthy (.bool _)) (wpAny_truthy_bool ?_)) | wp_step)) fun _ _ z => z))
    | wp_step)
theorem ne_bound {args : List Value} {Q : Option Value → Shared → Prop} (X : K.In s.heap) (I : PySem.W.InstAt s.heap x ox C od) (O : OwnC K C e)
    (h : wpAny M A (call (.builtin "object.__ne__") (.ref x :: args)) (fun v => Q (some v)) EE s) : wpAny M A (callSpecialIfBound? (.ref x) "__ne__" args) Q EE s := by
  have rest : wpAny M A (call (.builtin "object.__ne__") ([.ref x] ++ args) >>= fun v => pure (some v)) Q EE s := wpAny_bind (wpAny_mono h (fun _ _ z => wpAny_pure z) fun _ _ z => z)
  simp only [callSpecialIfBound?, bindSpecialIfBound?]
  refine wpAny_holding (wpAny_bind (wpAny_bind (wpAny_bind (I.type.here ((PySem.W.looks_findIn X O.ne).here ?_)))))
  refine wpAny_bind (wpAny_askSetting (wpAny_ite ?_))
  split
  · exact wpAny_bind (wpAny_of_eq (F.cmp_object.ne.bind _) (wpAny_pure (by exact rest)))
  · exact wpAny_tryCatch (wpAny_bind (wpAny_of_eq (F.cmp_object.ne.bind _) (wpAny_pure (by exact rest))))
theorem ne_rich {L : Addr} {h₀ : Heap} {m : Str → Option Value} (hu : A.units + 1 < cLine) (X : K.In s.heap) (I : PySem.W.InstAt s.heap x ox C od) (O : OwnC K C e)
    (hb : PySem.W.Looks (model prog w) s.heap (typeOf b) tb) (hn : PySem.W.notFirst K C tb = true) {Q : Value → Shared → Prop}
    (h : wpAny (model prog w) A.in1 (call (.ref e) [.ref x, b]) (fun v s' => ∃ r, v = .bool r ∧ Q (.bool (!r)) s') EE s) :
    wpAny (model prog w) A (richCompare .NotEq (.ref x) b) Q EE s := by
  have one : wpAny (model prog w) A (tryCompare (.ref x) "__ne__" b) (fun r s' => ∃ v, r = some v ∧ Q v s') EE s := by
    unfold tryCompare
    refine wpAny_bind (ne_bound X I O ?_)
    refine wpAny_call (codeAny_call_builtin F.cmp_object.ne.plain F.cmpEntry_ne (PySem.W.check_slot F.cmpKind_ne F.cmpSplit_ne (I.type.andThen (PySem.W.looks_mroIn X O.mo)) (F.cmpArgs_ne _ _) ?_))
    refine ne_entry (A := A.in1) hu X I O (wpAny_mono h (fun v s' hv => ?_) fun _ _ z => z)
    obtain ⟨r, rfl, q⟩ := hv
    exact ⟨r, rfl, wpAny_pure ⟨_, rfl, q⟩⟩
  unfold richCompare
  simp only [oneThing_ref]
  refine wpAny_holding (wpAny_bind (wpAny_cRoomFor (Nat.lt_of_succ_lt hu) ?_))
  refine wpAny_bind (I.type.here (wpAny_bind (hb.here ?_)))
  split
  · rename_i q
    have no : PySem.W.subIn K tb (.ref C) = some false := (Bool.or_eq_true_iff.mp hn).elim (fun z => absurd q (by rw [beq_iff_eq.mp z]; simp)) beq_iff_eq.mp
    refine wpAny_bind ((PySem.W.looks_subIn X no).here ?_)
    rw [if_neg Bool.false_ne_true]
    exact wpAny_bind (wpAny_mono one (fun r s' ⟨v, er, hv⟩ => by subst er; exact wpAny_pure hv) fun _ _ z => z)
  · refine wpAny_bind (wpAny_pure ?_)
    rw [if_neg Bool.false_ne_true]
    exact wpAny_bind (wpAny_mono one (fun r s' ⟨v, er, hv⟩ => by subst er; exact wpAny_pure hv) fun _ _ z => z)
end
theorem op_neOwn (O : OwnC X.K C f) (F : FnOk X.prog X.w X.K X.mg X.base CX k f fd ps sp) (hr : Room (k + 1) X.A) (hb : Binds X.K fd ps []) (hx : Passes CX X E) :
    OpR X (compareOp .NotEq) fun x y H Q => rOwn X.K C sp E x y H fun v H' => ∃ b, v = .bl b ∧ Q (.bl (!b)) H' := by
  intro pins s σ H x y v u Q I rx ry h
  obtain ⟨a, dx, fs, t, rfl, ha, ty, nf, q⟩ := h
  cases (show v = Value.ref a from rx)
  obtain ⟨_, J0, _⟩ := ins_get I.hok ha
  obtain ⟨_, J, _⟩ := J0.look
  obtain ⟨_, kx, hp, _⟩ := kit_of I ry ty
  refine ne_rich (h₀ := X.base) (L := 0) (m := X.mg) (by have := hr.units; omega) I.kIn J O (kx.ty _ _ I.kIn hp) nf ?_
  refine wpAny_mono (run_sub (A := X.A.in1) F hr.in1 rfl hb hx I (.cons (rel_ref a) (.cons ry .nil)) q) (fun z s' hz => ?_) fun _ _ e => e
  obtain ⟨v', H', I', rv, b, rfl, qq⟩ := hz
  exact ⟨b, rv, .bl (!b), H', I', rel_bl _, qq⟩
/-- str(o) -/
def rStrO (C : Addr) (sp : Sp) (E : XK) : List V → Hp → VK → Prop := fun xs H Q => ∃ (a dx : Addr) (fs : List (Str × V)), xs = [.ref a] ∧ H a = some (.ins C dx fs) ∧ sp [.ref a] H (fun v H' => ∃ z, v = .str z ∧ Q v H') E
theorem call_strO (O : OwnS X.K C f) (F : FnOk X.prog X.w X.K X.mg X.base CX k f fd ps sp) (hr : Room (k + 2) X.A) (hb : Binds X.K fd ps []) (hx : Passes CX X E) : CallR X (.type "str") (rStrO C sp E) := by
  intro pins s σ H xs us Q I r h
  obtain ⟨a, dx, fs, rfl, ha, q⟩ := h
  obtain ⟨u, rfl, ru⟩ := r.one
  cases (show u = Value.ref a from ru)
  obtain ⟨_, J0, _⟩ := ins_get I.hok ha
  obtain ⟨_, J, _⟩ := J0.look
  refine PySem.W.kso_call hr.in1.in1.units0 I.kIn J O.st O.fs ?_
  refine wpAny_mono (run_sub (A := X.A.in1.in1) F hr.in1.in1 rfl hb hx I (.cons (rel_ref a) .nil) q) (fun z s' hz => ?_) fun _ _ e => e
  obtain ⟨v', H', I', rv, y, rfl, qq⟩ := hz
  obtain ⟨t, rfl⟩ := rv
  exact ⟨.str y, H', I', rel_str y t, qq⟩
/-- what a class needs that C.m is a staticmethod around the def at g -/
structure StaC (K : PySem.W.Frag) (C : Addr) (m : Str) (g : Addr) : Prop where
  ex : ∃ (mc : Value) (p : Addr) (rest : List Value), PySem.W.readsIn K C mc = true ∧ PySem.W.specialIn K (.ref C) "__getattribute__" = some (some (.builtin "type.__getattribute__")) ∧ PySem.W.typeIn K (.ref C) = some mc ∧
    PySem.W.findCls K (.ref C) mc m = some (.get (.builtin "staticmethod.__get__") (.ref p) .none (.ref C)) ∧ PySem.W.recIn K p "staticmethod" = some (.ref g :: rest)
  kp : PySem.W.keepIn K (.ref g) = true
section
variable {pins : List (Addr × Obj)} {σ : L2.St} {H : Hp} {s : Shared} {g : Addr} {m x : Str} {p pos apos : Pos} {e : Expr} {es : List Expr} {kws : List Keyword} {t tk : TA} {pl : Sem Bool} {ks : List Str}
  {gg : List Value → List Value → List Value} {gV : List V → List V → List V}
theorem get_sta {A : Around} {EE : Value → Shared → Prop} {Q : Value × List Value → Shared → Prop} (I : Inv X pins σ H s) (Z : StaC X.K C m g) (h : ∀ s', Inv X pins σ H s' → Q (.ref g, []) s') :
    wpAny (model X.prog X.w) A (getMethod (.ref C) m pl) Q EE s := by
  obtain ⟨mc, p, rest, r1, r2, r3, r4, r5⟩ := Z.ex
  obtain ⟨_, hF⟩ := I.fr
  exact PySem.W.method_of_cls hF I.ok.mod.kin r2 (PySem.W.cls_sm hF I.ok.mod.kin r3 r1 r4 r5 rfl (h _ (I.tok _)))
/-- C.m(e, ..) -/
theorem pe_sta (Z : StaC X.K C m f) (F : FnOk X.prog X.w X.K X.mg X.base CX k f fd ps sp) (hr : Room k X.A) (hg : Gl X x) (hm : X.mg x = some (.ref C)) (hb : Binds X.K fd ps []) (hx : Passes CX X E) (ha : PA X (e :: es) t)
    (hdb : (x == ("__debug__" : Str)) = false := by decide) (he : starEach (e :: es) X.env = (false, eval e X.env) :: starEach es X.env := by rfl)
    (hpl : ((backTo pos (starEach (e :: es) X.env)).any (·.1) || (backToKw pos (keywordEach [] X.env)).any (·.1.isNone)) = false := by rfl)
    (hpl2 : (backTo pos (starEach es X.env)).any (·.1) = false := by rfl)
    (ht : eval (.Call (.Attribute (.Name x p) m apos) (e :: es) [] pos) X.env = (do
      let ov ← eval (.Name x p) X.env
      standAt apos.atName
      let (f, first) ← holding [ov] (getMethod ov m pl)
      callWith pos f first (backTo pos (starEach (e :: es) X.env)) (backToKw pos (keywordEach [] X.env))) := by rfl) :
    PE X (.Call (.Attribute (.Name x p) m apos) (e :: es) [] pos) (tCall sp [] E t) := by
  refine ⟨fun pins s σ H Q I h => ?_⟩
  refine PySem.W.methodCall_KW (pl := pl) (ld_glob I hg hm ?_ hdb) ht
  refine get_sta I Z fun s0 I0 => ?_
  refine PySem.W.callWith_K (h₀ := X.base) I.ok.mod.kin Z.kp (thn (ha.run pos pins s0 σ H _ I0 h) fun us s1 ⟨vs, H1, I1, r, q⟩ => ⟨I1.kIn, ?_⟩) he hpl2
  exact run_fn F hr hb .nil hx I1 r q
/-- C.m(k = v, ..) -/
theorem pe_staK (Z : StaC X.K C m f) (F : FnOk X.prog X.w X.K X.mg X.base CX k f fd ps sp) (hr : Room k X.A) (hg : Gl X x) (hm : X.mg x = some (.ref C)) (hb : KBn X.K fd ps 0 ks gg gV) (hx : Passes CX X E) (hkw : PK X kws tk)
    (hall : (backToKw pos (keywordEach kws X.env)).all (·.1.isSome) = true := by rfl) (hks : (backToKw pos (keywordEach kws X.env)).filterMap (·.1) = ks := by rfl) (hdb : (x == ("__debug__" : Str)) = false := by decide)
    (hpl : ((backTo pos (starEach [] X.env)).any (·.1) || (backToKw pos (keywordEach kws X.env)).any (·.1.isNone)) = false := by rfl)
    (ht : eval (.Call (.Attribute (.Name x p) m apos) [] kws pos) X.env = (do
      let ov ← eval (.Name x p) X.env
      standAt apos.atName
      let (f, first) ← holding [ov] (getMethod ov m pl)
      callWith pos f first (backTo pos (starEach [] X.env)) (backToKw pos (keywordEach kws X.env))) := by rfl) :
    PE X (.Call (.Attribute (.Name x p) m apos) [] kws pos) (tCallN 0 ks.length sp gV E tNil tk) := by
  refine ⟨fun pins s σ H Q I h => ?_⟩
  refine PySem.W.methodCall_KW (pl := pl) (ld_glob I hg hm ?_ hdb) ht
  refine get_sta I Z fun s0 I0 => ?_
  refine PySem.W.callWith_KW0 (h₀ := X.base) I.ok.mod.kin Z.kp hall ?_ hpl
  refine thn (hkw.run pos pins s0 σ H _ I0 h) fun ws s2 ⟨zs, H2, I2, rz, l1, l2, q2⟩ => ⟨I2.kIn, ?_⟩
  rw [hks]
  exact run_fnN (us := []) (vs := []) F hr hb hx I2 .nil rz rfl l2 q2
end
end
end Gs

set_option Elab.async false
set_option linter.all false
set_option maxRecDepth 100000
set_option maxHeartbeats 4000000
/-! Layer G13: several except clauses, some with a name; a written dict with one tuple as its key. -/
namespace Gs
open PySem PySem.Spec PyProof.Rows L2
/-- a way of catching: from what is wished behind, what is wished of an exception -/
abbrev Catch := Ends → WX → WX
/-- what one clause wishes: nm: the slot of its name, if it has one -/
def oneC (n : Nat) (K : PySem.W.Frag) (c : Value) (nm : Option Nat) (ts : Addr → Value → Option Addr → TS) (rest : Catch) : Catch := fun D W cls d σ H => ∃ b, PySem.W.exmOne K cls c = some b ∧
  (b = true → σ.length = n → ∀ a, H a = none → match nm with
    | none => ts a cls d D σ H
    | some i => ts a cls d { nx := fun σ' H' => D.nx (σ'.set i none) H', rt := D.rt, bk := fun σ' H' => D.bk (σ'.set i none) H', ct := fun σ' H' => D.ct (σ'.set i none) H' } (σ.set i (some (.ref a))) H) ∧
  (b = false → rest D W cls d σ H)
/-- the clauses and what they wish -/
inductive Cls5 (X : Cx) : List ExceptHandler → Catch → Prop
  | done : Cls5 X [] (fun _ W => W)
  | bare {x : Str} {c : Value} {ts : Addr → Value → Option Addr → TS} {b₀ : Stmt} {su : List Stmt} {q q' : Pos} {more : List ExceptHandler} {rest : Catch} (nc : Names X x c)
      (body : ∀ (a : Addr) (ob : Obj) (cls : Value) (d : Option Addr) (pn : List (Addr × Obj)), Zc cls d ob → (∃ vs, ob.data = .fields vs) → PSs (X.suite a ((a, ob) :: pn)) (b₀ :: su) (ts a cls d)) (r : Cls5 X more rest) :
      Cls5 X (.ExceptHandler (some (.Name x q)) none (b₀ :: su) q' :: more) (oneC X.N.length X.K c none ts rest)
  | as {x n : Str} {i : Nat} {c : Value} {ts : Addr → Value → Option Addr → TS} {b₀ : Stmt} {su : List Stmt} {q q' : Pos} {more : List ExceptHandler} {rest : Catch} (nc : Names X x c) (hN : X.N.Nodup) (hi : X.N[i]? = some n) (ln : X.env.kindOf n = some .local)
      (body : ∀ (a : Addr) (ob : Obj) (cls : Value) (d : Option Addr) (pn : List (Addr × Obj)), Zc cls d ob → (∃ vs, ob.data = .fields vs) → PSs (X.suite a ((a, ob) :: pn)) (b₀ :: su) (ts a cls d)) (r : Cls5 X more rest) :
      Cls5 X (.ExceptHandler (some (.Name x q)) (some n) (b₀ :: su) q' :: more) (oneC X.N.length X.K c (some i) ts rest)
section
variable {X : Cx} {pins : List (Addr × Obj)} {σ : L2.St} {H : Hp} {D : Ends}
/-- the end of a suite: back in the def's own context -/
theorem suite_back {a : Addr} {q : Addr × Obj} {f : Flow} {s : Shared} (ok : X.Ok) (h : SP (X.suite a (q :: (X.pn ++ pins))) [] D f s) : SP X pins D f s := by
  cases f with
  | next => obtain ⟨σ', H', S, z⟩ := h; exact ⟨σ', H', S.unsuite ok, z⟩
  | brk => obtain ⟨σ', H', S, z⟩ := h; exact ⟨σ', H', S.unsuite ok, z⟩
  | cont => obtain ⟨σ', H', S, z⟩ := h; exact ⟨σ', H', S.unsuite ok, z⟩
  | ret u => obtain ⟨v, σ', H', S, rv, z⟩ := h; exact ⟨v, σ', H', S.unsuite ok, rv, z⟩
/-- try: body, except .. as ..: .., several -/
theorem ps_try5 {body : List Stmt} {h₀ : ExceptHandler} {hds : List ExceptHandler} {pos : Pos} {tb : WX → TS} {W₀ : WX} {C : Catch} (hs : X.stack = X.env :: X.outer) (hf : X.env.frame = some X.env.locals) (tk : Takes X W₀)
    (hb : ∀ (W : WX) (pn : List (Addr × Obj)) (xe : Value → Shared → Prop), Takes (X.tr pn xe) W → PassesOwn (model X.prog X.w) X.A X.env xe → PSs (X.tr pn xe) body (tb W))
    (hc : Cls5 X (h₀ :: hds) C) : PS X (.Try body (h₀ :: hds) [] [] pos) (fun D σ H => tb (C D W₀) D σ H) := by
  refine ⟨fun pins s σ H D I h => ?_⟩
  have ok := I.ok
  have frm : X.A.frames = some (X.env :: X.outer) := by rw [ok.frames, hs]
  refine wpAny_Try_except (wpAny_mono ((hb (C D W₀) (X.pn ++ pins) (fun e s₁ => wpAny (model X.prog X.w) X.A (noteFrame e X.env) (fun _ s₂ => wpAny (model X.prog X.w) X.A (setFlight e none)
    (fun _ s₃ => wpAny (model X.prog X.w) X.A (handleBy e X.env (h₀ :: hds)) (SP X pins D) X.xe s₃) X.xe s₂) X.xe s₁) (fun u s₁ caught => ?_) PassesOwn.looking).run [] s σ H D (I.toTry _) h) (fun f s₁ hsp => ?_) (fun _ _ z => z))
  rotate_left
  · cases f with
    | next => obtain ⟨σ', H', J, z⟩ := hsp; exact wpAny_execs_nil ⟨σ', H', J.ofTry ok, z⟩
    | brk => obtain ⟨σ', H', J, z⟩ := hsp; exact ⟨σ', H', J.ofTry ok, z⟩
    | cont => obtain ⟨σ', H', J, z⟩ := hsp; exact ⟨σ', H', J.ofTry ok, z⟩
    | ret u => obtain ⟨v, σ', H', J, rv, z⟩ := hsp; exact ⟨v, σ', H', J.ofTry ok, rv, z⟩
  obtain ⟨a, B, sI, pins', σ', H', cls, d, rfl, J', nb, up, sky, na, os, ag, wish⟩ := caught
  have J : Inv X pins σ' H' sI := J'.ofTry ok
  have sky : Sky B (X.env :: X.outer) a (Zc cls d) X.env.locals s₁.heap := by rw [← hs]; exact sky
  show wpAny (model X.prog X.w) X.A (noteFrame (.ref a) X.env) _ _ _
  refine Sky.land Zc.steady frm hf sky fun h₃ fl up₃ => ?_
  have up₃ := up.trans up₃
  obtain ⟨ob, vs, hob, hz, hd⟩ := fl.there
  have apart : ∀ {g : Heap} {o : Obj} {us : Array Value}, g.FunFrames B (X.env :: X.outer) → g.get? a = some o → o.data = .fields us → a ∉ frs (X.env :: X.outer) := by
    intro g o us ff e de hm
    obtain ⟨_, o', e', no⟩ := ff.mem hm
    rw [e] at e'
    cases e'
    exact no _ de
  have nfr := apart fl.2.2.1 hob hd
  have nL : a ≠ X.env.locals := fun z => nfr (List.mem_filterMap.mpr ⟨X.env, List.mem_cons_self, by rw [hf, z]⟩)
  have nF : a ∉ X.fs := fun hm => by
    obtain ⟨e, he, z⟩ := List.mem_filterMap.mp hm
    exact nfr (List.mem_filterMap.mpr ⟨e, List.mem_cons_of_mem _ he, z⟩)
  have J₃ : Inv X pins σ' H' { s₁ with heap := h₃ } := J.landed nb fl.1 up₃ os ag
  have S₃ := J₃.suite hob hd na nL nF
  have looks : PySem.W.Looks (model X.prog X.w) h₃ (typeOf (.ref a)) cls := fun A Q E s k z => wpAny_typeOf_ref (k _ _ hob) (by rw [hz.1]; exact z)
  -- the class that a clause names
  have named : ∀ {x : Str} {c : Value} {q : Pos} {Q : Value → Shared → Prop} {E : Value → Shared → Prop}, Names X x c → Q c { s₁ with heap := h₃ } →
      wpAny (model X.prog X.w) (X.A.mark (some (.ref a))) (eval (.Name x q) X.env) Q E { s₁ with heap := h₃ } := by
    intro x c q Q E nc hq
    obtain ⟨hg, dbg, m | ⟨m, boot, nn⟩⟩ := nc
    · exact ld_glob (X := X.suite a ((a, ob) :: (X.pn ++ pins))) S₃ hg m hq dbg
    · exact ld_blt (X := X.suite a ((a, ob) :: (X.pn ++ pins))) S₃ hg m boot hq nn dbg
  have all : ∀ {hds' : List ExceptHandler} {C' : Catch}, Cls5 X hds' C' → C' D W₀ cls d σ' H' →
      wpAny (model X.prog X.w) X.A (handleBy (.ref a) X.env hds') (SP X pins D) X.xe { s₁ with heap := h₃ } := by
    intro hds' C' hc'
    induction hc' with
    | done =>
      intro wish
      refine wpAny_handleBy_nil ?_
      obtain ⟨_, _, _, oe, us, T, oT, ts', he, _, hde, h1, _⟩ := id fl
      unfold PySem.passOn
      refine wpAny_bind (wpAny_field he hde h1 ?_)
      rw [if_neg (by simp)]
      have fin : wpAny (model X.prog X.w) X.A (setFlight (.ref a) X.env.frame) (fun _ s₄ => wpAny (model X.prog X.w) X.A (throw (.ref a) : Sem Flow) (SP X pins D) X.xe s₄) X.xe { s₁ with heap := h₃ } := by
        rw [hf]
        refine HandSPX.setFlight_upZ fl fun h₄ sk up₄ => wpAny_throw (tk _ _ ?_)
        exact ⟨a, B, sI, pins, σ', H', cls, d, rfl, J, nb, up₃.trans up₄, .inr (.inr (by rw [hs]; exact sk)), na, os, ag, wish⟩
      first
        | exact wpAny_bind (wpAny_pure (wpAny_bind fin))
        | exact wpAny_bind fin
    | bare nc body r ih =>
      intro wish
      obtain ⟨b, hb1, yes, no⟩ := wish
      refine wpAny_handleBy_cons (codeAny_handlers_test ?_) (by intro z; cases z)
      refine named nc ((PySem.W.exm_one (M := model X.prog X.w) J₃.kIn looks hb1).here ?_)
      cases b with
      | false => exact ih (no rfl)
      | true =>
        refine codeAny_handlers_suite ?_
        refine HandSPX.lands_againZ fl fun h₄ fl₄ up₄ => ?_
        obtain ⟨ob4, us4, e4, z4, d4⟩ := fl₄.there
        have J₄ : Inv X pins σ' H' { s₁ with heap := h₄ } := J.landed nb fl₄.1 (up₃.trans up₄) os ag
        have S₄ := J₄.suite e4 d4 na nL nF
        exact wpAny_mono ((body a ob4 cls d (X.pn ++ pins) z4 ⟨_, d4⟩).run [] _ _ H' _ S₄ (yes rfl J.len a na)) (fun f s6 hsp => suite_back ok hsp) (fun _ _ z => z.elim)
    | as nc hN hi ln body r ih =>
      rename_i x n i c ts b₀ su q q' more rest
      intro wish
      obtain ⟨b, hb1, yes, no⟩ := wish
      refine wpAny_handleBy_cons (codeAny_handlers_test ?_) (by intro z; cases z)
      refine named nc ((PySem.W.exm_one (M := model X.prog X.w) J₃.kIn looks hb1).here ?_)
      cases b with
      | false => exact ih (no rfl)
      | true =>
        refine codeAny_handlers_suite_as ?_
        refine HandSPX.lands_againZ fl fun h₄ fl₄ up₄ => ?_
        obtain ⟨ob4, us4, e4, z4, d4⟩ := fl₄.there
        have J₄ : Inv X pins σ' H' { s₁ with heap := h₄ } := J.landed nb fl₄.1 (up₃.trans up₄) os ag
        have S₄ := J₄.suite e4 d4 na nL nF
        have gone : ∀ {σ6 : L2.St} {H6 : Hp} {s6 : Shared} {Q : Shared → Prop}, Inv X pins σ6 H6 s6 → (∀ s7, Inv X pins (σ6.set i none) H6 s7 → Q s7) →
            wpAny (model X.prog X.w) X.A (do bindName X.env n .none; unbindBehindTheSuite X.env n q') (fun _ s7 => Q s7) X.xe s6 := fun S6 hq => gone_ok S6 hN hi ln hq
        refine store_ok (X := X.suite a ((a, ob4) :: (X.pn ++ pins))) (v := .ref a) S₄ hN hi (.inl ln) rfl (fun s5 S5 => ?_) (.inr ln)
        refine wpAny_mono ((body a ob4 cls d (X.pn ++ pins) z4 ⟨_, d4⟩).run [] s5 _ H' _ S5 (yes rfl J.len a na)) (fun f s6 hsp => ?_) (fun _ _ z => z.elim)
        cases f with
        | next => obtain ⟨σ6, H6, S6, z⟩ := hsp; exact gone (S6.unsuite ok) fun s7 J7 => ⟨_, _, J7, z⟩
        | brk => obtain ⟨σ6, H6, S6, z⟩ := hsp; exact gone (S6.unsuite ok) fun s7 J7 => ⟨_, _, J7, z⟩
        | cont => obtain ⟨σ6, H6, S6, z⟩ := hsp; exact gone (S6.unsuite ok) fun s7 J7 => ⟨_, _, J7, z⟩
        | ret u => obtain ⟨v, σ6, H6, S6, rv, z⟩ := hsp; exact gone (S6.unsuite ok) fun s7 J7 => ⟨_, _, _, J7, rv, z⟩
  exact all hc wish
end
/-! ### {(a, b): v} -/
def tDispT (tk tv : TE) : TE := fun σ H Q => ∀ p, H p = none → tk σ (upd H p (.dT [])) fun x H1 => tv σ H1 fun y H2 => ∃ (b : Addr) (k : List Key), x = .ref b ∧ H2 b = some (.tup (k.map kV)) ∧ H2 p = some (.dT []) ∧ Q (.ref p) (upd H2 p (.dT [(k, y)]))
theorem pe_dispT {X : Cx} {pos : Pos} {k v : Expr} {tk tv : TE} (hu : X.A.units + 1 < cLine) (hk : PE X k tk) (hv : PE X v tv) : PE X (.Dict [some k] [v] pos) (tDispT tk tv) := by
  refine ⟨fun pins s σ H Q I h => ?_⟩
  have free := I.hok.fresh (Nat.le_refl s.heap.objs.size)
  have I1 := I.laid (a := s.heap.objs.size) (o := .dT []) (h' := s.heap.push { cls := .type "dict", data := .dict #[] }) (t' := s.toks) (fun _ _ z => Heap.get?_push_of_some _ z) (Nat.le_refl _) (dt_empty s.heap I.big)
  have n1 := pairTrees_length [some k] [v] X.env pos rfl rfl
  have n1 : (pairTrees [some k] [v] X.env pos).length = 1 := n1
  rw [arm_eval_Dict, zip_pairTrees [some k] [v] X.env pos rfl rfl, dictDisplay_pairs _ (fun z => by rw [z] at n1; cases n1) (by rw [n1]; decide)]
  refine wpAny_bind (wpAny_standAt (wpAny_bind (wpAny_subDictH (knd := tupleKind (mixKind X.prog X.w)) (Q := fun d s' => wpAny (model X.prog X.w) X.A (pure (Value.ref d)) (EP X pins σ Q) X.xe s') (Nat.lt_of_succ_lt hu) (by rw [n1]; decide) ?_)))
  refine pairTrees_cons_walk (thn (hk.run pins _ σ _ _ I1 (h _ free)) fun u s1 ⟨x, H1, J1, rx, q1⟩ => thn (hv.run pins s1 σ H1 _ J1 q1) fun r s2 ⟨y, H2, J2, ry, b, ks, ex, hb, hp, q⟩ => pairTrees_nil_walk ?_)
  subst ex
  cases (show u = Value.ref b from rx)
  obtain ⟨_, hd, xs, rel, dd⟩ := dt_of J2.hok hp
  cases rel
  have is := key_of J2.hok hb
  refine ⟨[(ks, b, r)], ⟨rfl, rfl, is, True.intro⟩, dd, fun h' tk' ⟨ob, es, ep, g1, g2, g3, g4, g5, g6⟩ sb => wpAny_pure ⟨.ref s.heap.objs.size, _, ?_, rel_ref _, q⟩⟩
  have nb : b ≠ s.heap.objs.size := ne_of hb hp (fun z => nomatch z)
  refine d_write J2 (by rw [hp]; exact True.intro) sb ⟨ob, g1⟩ ⟨Nat.le_trans (show 1 ≤ 1000 by decide) (by decide), hd, [(ks, b, r)], .cons ⟨rfl, ?_, ry⟩ .nil, ob, es, ep, g1, g2, g3, g4, g6⟩
  rw [upd_ne nb]
  exact hb
end Gs

set_option Elab.async false
set_option linter.all false
set_option maxRecDepth 100000
set_option maxHeartbeats 4000000
/-! Layer G15: exceptions as values: made by place and by keywords, caught and kept; their fields, isinstance of them. -/
namespace PySem
namespace HandSPK
open HandSPX
open Builtin Builtin.ObjectAttr
section
variable {M : Model} {A : Around} {E : Value → Shared → Prop} {h : Heap} {g : Array GenState} {d : Drawn} {t : Nat} {os : OsState}
variable {nm q : Str} {C N : Addr} {bs bm bmB : List Value} {hdct : Bool} {sn : List Str} {sub : List Value} {ab : Bool} {col : Option Bool} {dd : Option Addr} {k0 k1 k2 k3 k5 : Option Value} {B newId initId : String}
theorem check_new_ownK (F : ExcBaseFacts B newId initId bmB) (hT : ∀ X : String, bm.contains (.type X) = bmB.contains (.type X)) {rest : List Value} {kw : List (Str × Value)} {Q : Unit → Shared → Prop}
    (hC : h.get? C = some (excClassObj nm q C N bs bm hdct sn sub ab col dd k0 k1 k2 k3 k5 newId)) (hq : Q () ⟨h, g, d, t, os⟩) : wpAny M A (checkBuiltinCall newId ⟨.ref C :: rest, kw⟩) Q E ⟨h, g, d, t, os⟩ := by
  have hcont : (Value.ref C :: bm).contains (.type B) = true := by rw [List.contains_cons, hT, F.hasB, Bool.or_true]
  have hstar := F.noStar
  simp only [checkBuiltinCall, F.newKind, F.newSplit, F.newRow]
  repeat (first | refine wpAny_loadPart_at hC ?_ | (refine wpAny_isSubtype_exc hC ?_; rw [hcont]) | refine wpAny_staticBase_exc hC ?_ | refine wpAny_madeBy_exc hC ?_ | simp only [bne_self_eq_false, Bool.false_eq_true, if_false] | wp_step)
  exact hq
theorem check_callK {kw : List (Str × Value)} {rest : List Value} {Q : Unit → Shared → Prop} {newId : String} (hC : h.get? C = some (excClassObj nm q C N bs bm hdct sn sub ab col dd k0 k1 k2 k3 k5 newId))
    (hq : Q () ⟨h, g, d, t, os⟩) : wpAny M A (checkBuiltinCall "type.__call__" ⟨.ref C :: rest, kw⟩) Q E ⟨h, g, d, t, os⟩ := by
  have f3 := tc_sub
  have hT : (⟨h, g, d, t, os⟩ : Shared).TypeIs (.ref C) "type" := ⟨_, hC, rfl⟩
  simp only [checkBuiltinCall, tc_kind, tc_split]
  repeat (any_goals (first | assumption | with_reducible refine wpAny_loadPart_at hC ?_ | with_reducible refine wpAny_onRaise ?_ | with_reducible refine wpAny_map ?_ | wp_step))
end
section
variable {prog : Program} {w : World} {A : Around} {E : Value → Shared → Prop} {R : Result → Shared → Prop} {h : Heap} {g : Array GenState} {d : Drawn} {t : Nat} {os : OsState}
variable {nm q : Str} {C N : Addr} {bs bm bmB : List Value} {hdct : Bool} {sn : List Str} {sub : List Value} {ab : Bool} {col : Option Bool} {dd : Option Addr} {k0 k1 k2 k3 k5 : Option Value} {B newId initId : String}
theorem new_ownK (F : ExcBaseFacts B newId initId bmB) (hT : ∀ X : String, bm.contains (.type X) = bmB.contains (.type X)) {rest : List Value} {kw : List (Str × Value)}
    (hC : h.get? C = some (excClassObj nm q C N bs bm hdct sn sub ab col dd k0 k1 k2 k3 k5 newId))
    (hq : R (.ok (.ret (.ref (h.objs.size + 1)))) ⟨(h.push { cls := .type "tuple", data := .seq rest.toArray }).push
      { cls := .ref C, data := .fields #[.ref h.objs.size, .none, .none, .none, .bool false, .none] }, g, d, t, os⟩) (hrest : rest.length ≤ sizeLine) :
    codeAny (model prog w) A (.builtin newId ⟨.ref C :: rest, kw⟩) R ⟨h, g, d, t, os⟩ := by
  have hends := F.ends
  have hcB : (Value.ref C :: bm).contains (.type B) = true := by rw [List.contains_cons, hT, F.hasB, Bool.or_true]
  have hcA : (Value.ref C :: bm).contains (.type "AttributeError") = false := by rw [List.contains_cons, hT, F.noAttr]; rfl
  have hcN : (Value.ref C :: bm).contains (.type "NameError") = false := by rw [List.contains_cons, hT, F.noName]; rfl
  refine codeAny_builtinAt F.entry ?_
  unfold Builtin.«BaseException.__new__»
  refine wpAt_bind ?_
  show wpAt _ _ _ (stack >>= _) _ _ _
  refine wpAt_bind (wpAt_stack fun p below => wpAt_of_wpAny ?_)
  wp_walk
  refine wpAt_of_wpAny ?_
  rw [F.owner]
  repeat (first | with_reducible refine wpAny_madeHere_exc F.canon hC ?_ | with_reducible refine wpAny_loadPart_at hC ?_ | (with_reducible refine wpAny_isSubtype_exc hC ?_; first | rw [hcB] | rw [hcA] | rw [hcN]) | wp_step)
  show R _ _
  rw [Heap.size_push]
  exact hq
theorem type_call_ownK (F : ExcBaseFacts B newId initId bmB) (hT : ∀ X : String, bm.contains (.type X) = bmB.contains (.type X)) {rest : List Value} {kw : List (Str × Value)} {fI : Addr} {Q : Fin → Shared → Prop}
    (hC : h.get? C = some (excClassObj nm q C N bs bm hdct sn sub ab col dd k0 k1 k2 k3 k5 newId))
    (hi : W.Looks (model prog w) h (typeLookup (.ref C) "__init__") (some (.ref fI))) (hb : ∀ self, W.Looks (model prog w) h (bindSpecial (.ref fI) self) (.ref fI, [self])) (hrest : rest.length ≤ sizeLine)
    (hq : codeAny (model prog w) A (.call (.ref fI) ⟨.ref (h.objs.size + 1) :: rest, kw⟩)
      (fun r s' => match r with | .ok (.ret v) => v = .none ∧ Q (.done (.ret (.ref (h.objs.size + 1)))) s' | .ok _ => False | .error e => E e s')
      ⟨(h.push (W.kdv_tup rest)).push (excO C h.objs.size), g, d, t, os⟩) :
    wpAny (model prog w) A (Builtin.«type.__call__» ⟨.ref C :: rest, kw⟩) Q E ⟨h, g, d, t, os⟩ := by
  repeat (first | with_reducible refine wpAny_loadPart_at hC ?_ | with_reducible refine wpAny_madeBy_exc hC ?_ | wp_step)
  refine codeAny_call_builtin_code (Code.quiet_builtin _ F.quiet) (check_new_ownK F hT hC ?_)
  refine new_ownK F hT hC ?_ hrest
  show wpAny _ _ _ _ _ _
  have k : ∀ b o, h.get? b = some o → ((h.push (W.kdv_tup rest)).push (excO C h.objs.size)).get? b = some o := fun b o e => Heap.get?_push_of_some _ (Heap.get?_push_of_some _ e)
  have hC₁ := k _ _ hC
  have hget : ((h.push (W.kdv_tup rest)).push (excO C h.objs.size)).get? (h.objs.size + 1) = some (excO C h.objs.size) := by heap_get
  have hcC : (Value.ref C :: bm).contains (.ref C) = true := by simp
  have i1 := hi.keeps k
  have b1 := (hb (.ref (h.objs.size + 1))).keeps k
  unfold isInstance
  repeat (first | with_reducible refine wpAny_loadPart_at hget ?_ | (with_reducible refine wpAny_isSubtype_exc hC₁ ?_; rw [hcC]) | wp_step)
  show wpAny _ _ (typeLookup (.ref C) _) _ _ _
  refine i1.at ?_
  refine wpAny_holding (wpAny_bind (b1.at ?_))
  refine wpAny_bind (wpAny_call (codeAny_mono hq fun r s' z => ?_))
  rcases r with e | (v | _ | _ | _) <;> first | exact z | exact z.elim | skip
  obtain ⟨rfl, z⟩ := z
  first
    | exact wpAny_pure (wpAny_pure z)
    | (wp_walk; exact z)
theorem call_ownK (F : ExcBaseFacts B newId initId bmB) (hT : ∀ X : String, bm.contains (.type X) = bmB.contains (.type X)) {rest : List Value} {kw : List (Str × Value)} {fI : Addr}
    (hC : h.get? C = some (excClassObj nm q C N bs bm hdct sn sub ab col dd k0 k1 k2 k3 k5 newId))
    (hi : W.Looks (model prog w) h (typeLookup (.ref C) "__init__") (some (.ref fI))) (hb : ∀ self, W.Looks (model prog w) h (bindSpecial (.ref fI) self) (.ref fI, [self])) (hrest : rest.length ≤ sizeLine)
    (hq : codeAny (model prog w) (A.under (.builtin "type.__call__" ⟨.ref C :: rest, kw⟩)) (.call (.ref fI) ⟨.ref (h.objs.size + 1) :: rest, kw⟩) (W.InitBack (h.objs.size + 1) R)
      ⟨(h.push (W.kdv_tup rest)).push (excO C h.objs.size), g, d, t, os⟩) :
    codeAny (model prog w) A (.call (.ref C) ⟨rest, kw⟩) R ⟨h, g, d, t, os⟩ := by
  have f1 := tc_lookup
  have f2 := tc_bind (.ref C)
  have hTy : (⟨h, g, d, t, os⟩ : Shared).TypeIs (.ref C) "type" := ⟨_, hC, rfl⟩
  refine codeAny_of_tree ?_
  show wpAny _ _ (callAny (.ref C) _) _ _ _
  repeat (any_goals (first | assumption | with_reducible refine wpAny_loadPart_at hC ?_ | wp_step))
  refine ⟨rfl, ?_⟩
  refine codeAny_call_builtin_at (Code.quiet_builtin _ (by decide +kernel)) entry_typeCall (check_callK hC (type_call_ownK F hT hC hi hb hrest ?_))
  refine codeAny_mono hq fun r s' z => ?_
  rcases r with e | (v | _ | _ | _) <;> exact z
end
end HandSPK
end PySem

set_option Elab.async false
set_option linter.all false
set_option maxRecDepth 100000
set_option maxHeartbeats 4000000
/-! Layer G16: exceptions as values, told over the abstract heap. -/
namespace PySem.W
open PySem PySem.Spec PySem.Calls PyProof.Rows
section
variable {prog : Program} {w : World} {A : Around} {E : Value → Shared → Prop} {s : Shared} {K : Frag} {x D : Addr} {ox : Obj} {od : Option Obj}
theorem findObj_dataV {C : Addr} {name : Str} {a g : Value} (hc : (clsIn K C).isSome = true) (ha : findIn K (.ref C) name = some (some a)) (hg : specialIn K a "__get__" = some (some g)) (ht : takesIn K a = some true) : findObj K C od name = some (.bind g a) := by
  obtain ⟨cd, hc⟩ := Option.isSome_iff_exists.mp hc
  unfold findObj
  rw [hc, Option.bind_some, ha, Option.bind_some]
  simp [hg, ht]
theorem kin_classV {Q : Option Value → Shared → Prop} (hga : findIn K (.ref D) "__getattribute__" = some (some (.builtin "BaseException.__getattribute__"))) (hgt : findIn K (.ref D) "__getattr__" = some none) (hsub : subIn K (.ref D) (.type "BaseException") = some true)
    (hdct : hasDictIn K D = true) (ha : findIn K (.ref D) "__class__" = some (some (.builtin "object.__class__")))
    (hn : specialIn K (.builtin "object.__class__") "__get__" = some (some (.builtin "getset_descriptor.__get__"))) (htk : takesIn K (.builtin "object.__class__") = some true) (hm : mroIn K D (.type "object") = some true)
    (X : K.In s.heap) (I : InstAt s.heap x ox D od) (h : Q (some (.ref D)) { s with toks := s.toks + 1 }) : wpAny (model prog w) A (getAttr? (.ref x) "__class__") Q E s := by
  have hf : findObj K D od "__class__" = some (.bind (.builtin "getset_descriptor.__get__") (.builtin "object.__class__")) := findObj_dataV (by obtain ⟨cd, hc, _⟩ := any_some hdct; rw [hc]; rfl) ha hn htk
  obtain ⟨hp, g, d, t, os⟩ := s
  have L0 := I.type (M := model prog w)
  have L1 := looks_findIn (M := model prog w) X hga
  have L2 := looks_findIn (M := model prog w) X hgt
  have L3 := looks_find (M := model prog w) X I hf
  have sub : Looks (model prog w) hp (isInstance (.ref x) (.type "BaseException")) true := L0.andThen (looks_subIn X hsub)
  have hx0 : (false && onTheHeap (Value.builtin "BaseException.__getattribute__")) = false := rfl
  have hx2 : (Value.builtin "BaseException.__getattribute__" == Value.builtin "object.__getattribute__") = false := by decide +kernel
  have hx1 : (onTheHeap (Value.ref D) && Value.builtin "BaseException.__getattribute__" == Value.builtin "object.__getattribute__") = false := by rw [hx2]; rfl
  unfold getAttr? getAttrBy? getAttrBy
  refine wpAny_bind (wpAny_mkText (wpAny_bind (wpAny_attempt (wpAny_holding (wpAny_bind (L0.at (wpAny_bind (L1.at ?_))))))))
  show wpAny _ _ (if (onTheHeap (Value.ref D) && Value.builtin "BaseException.__getattribute__" == Value.builtin "object.__getattribute__") = true then _ else _) _ _ _
  rw [hx1, if_neg Bool.false_ne_true]
  unfold getAttrByItsOwn hookBefore
  refine wpAny_bind ?_
  rw [if_pos (show onTheHeap (Value.ref D) = true from rfl)]
  refine L2.at ?_
  refine wpAny_bind (wpAny_attempt (wpAny_holding ?_))
  unfold callGetattribute
  rw [hx0, if_neg Bool.false_ne_true]
  unfold boundAndCalled
  rw [PySem.F.excAttr_ValueError.ga.bind (.ref x)]
  refine wpAny_bind (wpAny_pure ?_)
  show wpAny _ _ (call (.builtin "BaseException.__getattribute__") [.ref x, .str "__class__" t]) _ _ _
  refine wpAny_call (codeAny_call_builtin PySem.F.excAttr_ValueError.ga.plain PySem.F.entry_bexc_ga ?_)
  refine @check_slot (model prog w) _ _ ⟨hp, g, d, t + 1, os⟩ "BaseException.__getattribute__" "BaseException" "__getattribute__" (.ref x) [.str "__class__" t] [] _ (by decide +kernel) (by decide +kernel) sub (PySem.F.args_bexc_ga (.ref x) (.str "__class__" t)) ?_
  unfold Builtin.«object.__getattribute__»
  refine wpAny_bind (wpAny_of_eq (a := ((Value.ref x : Value), [Value.str "__class__" t])) (by first | rfl | (simp only [slotArgs]; rfl)) ?_)
  refine wpAny_bind (wpAny_pure (wpAny_bind (L0.at (wpAny_bind (L3.at ?_)))))
  show wpAny _ _ (holding [Value.builtin "object.__class__"] (call (.builtin "getset_descriptor.__get__") [.builtin "object.__class__", .ref x, .ref D]) >>= ret) _ _ _
  refine wpAny_bind (wpAny_holding (wpAny_call (class_get (s := ⟨hp, g, d, t + 1, os⟩) (ox := ox) (od := od) X I hm ?_)))
  refine wpAny_pure ?_
  show wpAny _ _ (handedOut (.ref D)) _ _ _
  rw [handedOut_of (v := .ref D) rfl]
  first
    | exact wpAny_pure (wpAny_pure h)
    | exact wpAny_pure h
    | exact wpAny_pure (wpAny_bind (wpAny_pure (wpAny_pure h)))
theorem kitx_excV (hga : findIn K (.ref D) "__getattribute__" = some (some (.builtin "BaseException.__getattribute__"))) (hgt : findIn K (.ref D) "__getattr__" = some none) (hsub : subIn K (.ref D) (.type "BaseException") = some true) (hdct : hasDictIn K D = true) (ha : findIn K (.ref D) "__class__" = some (some (.builtin "object.__class__")))
    (hn : specialIn K (.builtin "object.__class__") "__get__" = some (some (.builtin "getset_descriptor.__get__"))) (htk : takesIn K (.builtin "object.__class__") = some true) (hm : mroIn K D (.type "object") = some true) :
    KitX K (.ref x) (.ref D) (fun h => InstAt h x ox D od) where
  ty := fun _ _ _ I => I.type
  it := fun _ _ X _ => by
    obtain ⟨cdD, hcD, _⟩ := any_some hdct
    unfold clsIn at hcD
    split at hcD
    · rename_i c' d' cd' sl' ho
      intro A' Q' E' s' k q
      unfold isType loadHead
      exact wpAny_bind (wpAny_loadPart (k _ _ (X _ _ ho)) (wpAny_pure q))
    · cases hcD
  ne := fun h tp dd its n sl X htp => by
    obtain ⟨cdD, hcD, _⟩ := any_some hdct
    refine Bool.eq_false_iff.mpr fun q => ?_
    have e : D = tp := Value.ref.inj (beq_iff_eq.mp q)
    subst e
    unfold clsIn at hcD
    split at hcD
    · rename_i c' d' cd' sl' ho
      have z := (X _ _ ho).symm.trans htp
      cases z
    · cases hcD
  ca := fun X I k => kin_classV hga hgt hsub hdct ha hn htk hm X I k
end
end PySem.W
namespace Gs
open PySem PySem.Spec PyProof.Rows L2
/-- at a: an exception of the class cls that was caught, its dict d -/
def exv (a : Addr) (cls : Value) (d : Option Addr) : HO := .ext fun h => ∃ ob, h.get? a = some ob ∧ Zc cls d ob ∧ ∃ vs, ob.data = .fields vs
theorem exv_ok {P : Program} {w : World} {H : Hp} {h : Heap} {a : Addr} {cls : Value} {d : Option Addr} {ob : Obj} (e : h.get? a = some ob) (z : Zc cls d ob) (f : ∃ vs, ob.data = .fields vs) : ObjOk P w H h a (exv a cls d) :=
  ⟨⟨ob, e, z, f⟩, ⟨_, e⟩, fun h1 h2 y k => by obtain ⟨o, q, r⟩ := y; exact ⟨o, k _ q, r⟩⟩
/-- an exception of the class at C, its dict: made or caught -/
def ExA (H : Hp) (a C : Addr) (d : Option Addr) : Prop := H a = some (exv a (.ref C) d) ∨ H a = some (exo a C d)
def ExD (H : Hp) (dd : Addr) (fs : List (Str × V)) : Prop := H dd = some (.xd fs) ∨ H dd = some (exd dd fs)
/-- an exception with its fields, or without any -/
def ExI (H : Hp) (a C : Addr) (fs : Option (List (Str × V))) : Prop := match fs with
  | none => ExA H a C none
  | some l => ∃ dd, ExA H a C (some dd) ∧ ExD H dd l
theorem ExA.same {H H' : Hp} {a C : Addr} {d : Option Addr} (h : ExA H a C d) (e : Same H H') : ExA H' a C d := h.elim (fun z => .inl (e _ _ z)) fun z => .inr (e _ _ z)
theorem ExD.same {H H' : Hp} {a : Addr} {d : List (Str × V)} (h : ExD H a d) (e : Same H H') : ExD H' a d := h.elim (fun z => .inl (e _ _ z)) fun z => .inr (e _ _ z)
theorem ExI.same {H H' : Hp} {a C : Addr} {fs : Option (List (Str × V))} (h : ExI H a C fs) (e : Same H H') : ExI H' a C fs := by
  cases fs with
  | none => exact ExA.same h e
  | some l => obtain ⟨dd, x, y⟩ := h; exact ⟨dd, x.same e, y.same e⟩
/-- two heaps that agree on what is no list, no tuple, no dict, no instance: exceptions stay -/
def SameX (H H' : Hp) : Prop := ∀ b (φ : Heap → Prop), H b = some (.ext φ) → H' b = some (.ext φ)
def SameD (H H' : Hp) : Prop := ∀ b fs, H b = some (.xd fs) → H' b = some (.xd fs)
theorem ExI.ext {H H' : Hp} {a C : Addr} {fs : Option (List (Str × V))} (h : ExI H a C fs) (e : SameX H H') (e2 : SameD H H') : ExI H' a C fs := by
  have x : ∀ {d}, ExA H a C d → ExA H' a C d := fun z => z.elim (fun z => .inl (e _ _ z)) fun z => .inr (e _ _ z)
  cases fs with
  | none => exact x h
  | some l =>
    obtain ⟨dd, y, z⟩ := h
    exact ⟨dd, x y, z.elim (fun z => .inl (e2 _ _ z)) fun z => .inr (e _ _ z)⟩
section
variable {X : Cx} {pins : List (Addr × Obj)} {σ : L2.St} {H : Hp} {s : Shared}
theorem ExA.at_ {a C : Addr} {d : Option Addr} (I : Inv X pins σ H s) (h : ExA H a C d) : ∃ ob, s.heap.get? a = some ob ∧ Zc (.ref C) d ob ∧ ∃ vs, ob.data = .fields vs := by
  rcases h with h | h
  · have x : ObjOk X.prog X.w H s.heap a (exv a (.ref C) d) := I.hok _ _ h
    exact x.1
  · obtain ⟨t1, e⟩ := exo_at I.hok h
    exact ⟨_, e, ⟨rfl, rfl⟩, _, rfl⟩
theorem ExD.at_ {dd : Addr} {fs : List (Str × V)} (I : Inv X pins σ H s) (h : ExD H dd fs) : ∃ mA, s.heap.Ns1 dd mA ∧ ∀ f, RelO (fs.lookup f) (mA f) := by
  rcases h with h | h
  · have x : ObjOk X.prog X.w H s.heap dd (.xd fs) := I.hok _ _ h
    exact x
  · exact exd_at I.hok h
theorem ExI.inst {a C : Addr} {fs : Option (List (Str × V))} (I : Inv X pins σ H s) (h : ExI H a C fs) : ∃ ob od, PySem.W.InstAt s.heap a ob C od := by
  cases fs with
  | none =>
    obtain ⟨ob, e, ⟨z1, z2⟩, vs, hd⟩ := ExA.at_ I h
    exact ⟨ob, none, e, z1, by unfold PySem.W.notCls; rw [hd] <;> rfl, by rw [z2] <;> trivial⟩
  | some l =>
    obtain ⟨dd, h1, h2⟩ := h
    obtain ⟨ob, e, ⟨z1, z2⟩, vs, hd⟩ := h1.at_ I
    obtain ⟨mA, hns, _⟩ := h2.at_ I
    obtain ⟨od, ho, _⟩ := lookIn_ns hns
    exact ⟨ob, some od, e, z1, by unfold PySem.W.notCls; rw [hd] <;> rfl, by rw [z2]; exact ho⟩
/-- e.f -/
def tFv (K : PySem.W.Frag) (f : Str) (te : TE) : TE := fun σ H Q => te σ H fun x H1 => ∃ (a C : Addr) (fs : List (Str × V)) (v : V), x = .ref a ∧ XfC K C ∧ PySem.W.findIn K (.ref C) f = some none ∧ ExI H1 a C (some fs) ∧ fs.lookup f = some v ∧ Q v H1
theorem pe_fv {e : Expr} {te : TE} {pos : Pos} {n : Str} (he : PE X e te) (hb : attributeBase e n X.env (eval e X.env) = eval e X.env := by rfl) : PE X (.Attribute e n pos) (tFv X.K n te) := by
  refine ⟨fun pins s σ H Q I h => ?_⟩
  refine attr_of hb (thn (he.run pins s σ H _ I h) fun u s1 hh => ?_)
  obtain ⟨x, H1, I1, rx, a, C, fs, v, ex, T, hno, ⟨dd, h1, h2⟩, l, q⟩ := hh
  subst ex
  obtain rfl : u = Value.ref a := rx
  obtain ⟨ob, e, ⟨z1, z2⟩, vs, hd⟩ := h1.at_ I1
  obtain ⟨mA, hns, hr⟩ := h2.at_ I1
  obtain ⟨od, ho, hl⟩ := lookIn_ns hns
  obtain ⟨u, hu, ru⟩ := RelO.some_of (v := v) (o := mA n) (by rw [← l]; exact hr n)
  have J : PySem.W.InstAt s1.heap a ob C (some od) := ⟨e, z1, by unfold PySem.W.notCls; rw [hd] <;> rfl, by rw [z2]; exact ho⟩
  exact HandSPX.exc_get I1.kIn J T.ga T.gg T.exC (PySem.W.findObj_own T.hdC hno rfl (by rw [hl, hu])) (handed_of ru) ⟨v, H1, I1.tok _, ru, q⟩
/-- isinstance(e, c) -/
def rIsV (K : PySem.W.Frag) : List V → Hp → VK → Prop := fun xs H Q => ∃ (a C : Addr) (fs : Option (List (Str × V))) (c : V) (u : Value) (b : Bool), xs = [.ref a, c] ∧ ExI H a C fs ∧ ExcC K C ∧ ClsV c u ∧ PySem.W.kitOne K (.ref C) u = some b ∧ Q (.bl b) H
theorem call_isV : CallR X (.builtin "isinstance") (rIsV X.K) := by
  intro pins s σ H xs us Q I r h
  obtain ⟨a, C, fs, c, u, b, rfl, hi, Z, k, e, q⟩ := h
  obtain ⟨u1, u2, rfl, r1, r2⟩ := vals2 r
  cases (show u1 = Value.ref a from r1)
  have e2 := k.eq r2
  subst e2
  obtain ⟨ob, od, J⟩ := hi.inst I
  exact PySem.W.kia_one (PySem.W.kitx_excV Z.hg Z.hk Z.hs Z.hd Z.ha Z.hn Z.ht Z.hm) I.kIn J e (fun z => nomatch z) fun tk => ⟨.bl b, H, I.tok tk, rfl, q⟩
/-- isinstance(e, (c, ..)) -/
def rIsVT (K : PySem.W.Frag) : List V → Hp → VK → Prop := fun xs H Q => ∃ (a C : Addr) (fs : Option (List (Str × V))) (tp : Addr) (cs : List V) (us : List Value) (b : Bool), xs = [.ref a, .ref tp] ∧ ExI H a C fs ∧ ExcC K C ∧ H tp = some (.tup cs) ∧ Paired ClsV cs us ∧
  PySem.W.kitAny K (.ref C) us = some b ∧ Q (.bl b) H
theorem call_isVT : CallR X (.builtin "isinstance") (rIsVT X.K) := by
  intro pins s σ H xs us Q I r h
  obtain ⟨a, C, fs, tp, cs, ws, b, rfl, hi, Z, hT, k, e, q⟩ := h
  obtain ⟨u1, u2, rfl, r1, r2⟩ := vals2 r
  cases (show u1 = Value.ref a from r1)
  cases (show u2 = Value.ref tp from r2)
  obtain ⟨ob, od, J⟩ := hi.inst I
  obtain ⟨_, its, rv, o, h1, h2, n, h3⟩ := (show ObjOk X.prog X.w H s.heap tp (.tup cs) from I.hok tp _ hT)
  have e3 := ClsV.all k rv
  subst e3
  obtain ⟨oc, od', dt, sl⟩ := o
  simp only at h2 h3
  subst h2 h3
  exact PySem.W.kia_tup (PySem.W.kitx_excV Z.hg Z.hk Z.hs Z.hd Z.ha Z.hn Z.ht Z.hm) I.kIn J h1 e (fun z => nomatch z) fun tk => ⟨.bl b, H, I.tok tk, rfl, q⟩
end
/-! ### C(e, ..), C(k = v, ..) as a value -/
def tMkV (C : Addr) (sp : Sp) (ta : TA) : TE := fun σ H Q => ta σ H fun vs H1 => vs.length ≤ 1000 ∧ ∀ a, H1 a = none → sp (.ref a :: vs) (upd H1 a (exo a C none)) (fun v H2 => v = .non ∧ Q (.ref a) H2) (fun _ _ _ => False)
def tMkVK (C : Addr) (sp : Sp) (gV : List V → List V → List V) (m : Nat) (tk : TA) : TE := fun σ H Q => tk σ H fun zs H1 => zs.length = m ∧ ∀ a, H1 a = none → sp (gV [.ref a] zs) (upd H1 a (exo a C none)) (fun v H2 => v = .non ∧ Q (.ref a) H2) (fun _ _ _ => False)
section
variable {X : Cx} {CX : CXT} {x : Str} {C fI : Addr} {k : Nat} {fd : FuncData} {ps ks : List Str} {sp : Sp} {p pos : Pos} {e : Expr} {es : List Expr} {kws : List Keyword} {t tk : TA} {g : List Value → List Value → List Value} {gV : List V → List V → List V}
theorem run_exv {pins : List (Addr × Obj)} {σ : L2.St} {H : Hp} {s : Shared} {Q : VK} {us : List Value} {kw : List (Str × Value)} {all : Addr → List V} {alls : Value → List Value} (T : OexC X.K C) (iC : PySem.W.findIn X.K (.ref C) "__init__" = some (some (.ref fI))) (tI : PySem.W.typeIn X.K (.ref fI) = some (.type "function"))
    (F1 : FnOk X.prog X.w X.K X.mg X.base CX k fI fd ps sp) (hr : Room (k + 1) X.A) (hx : Passes CX X (fun _ _ _ => False)) (I : Inv X pins σ H s) (hus : us.length ≤ sizeLine)
    (hb : ∀ (s : Shared) (a : Addr), X.K.In s.heap → BindsTo s fd ⟨.ref a :: us, kw⟩ (ps.zip (alls (.ref a)))) (hv : ∀ a, Vals (all a) (alls (.ref a)))
    (h : ∀ a, H a = none → sp (all a) (upd H a (exo a C none)) (fun v H2 => v = .non ∧ Q (.ref a) H2) (fun _ _ _ => False)) :
    wpAny (model X.prog X.w) X.A (call (.ref C) us kw) (EP X pins σ Q) X.xe s := by
  obtain ⟨nm, q, N, bs, bm, sn, sub, ab, col, dd, k0, k1, k2, k3, k5, hC, hbm⟩ := T.cls
  obtain ⟨hp, gg, dr, tk, os⟩ := s
  have hsz : hp.objs.size ≤ hp.objs.size + 1 := Nat.le_succ _
  have hn : H (hp.objs.size + 1) = none := I.hok.fresh hsz
  have hq := h (hp.objs.size + 1) hn
  have kk : ∀ b o, hp.get? b = some o → ((hp.push (PySem.W.kdv_tup us)).push (PySem.HandSPX.excO C hp.objs.size)).get? b = some o := fun b o e => Heap.get?_push_of_some _ (Heap.get?_push_of_some _ e)
  have hget : ((hp.push (PySem.W.kdv_tup us)).push (PySem.HandSPX.excO C hp.objs.size)).get? (hp.objs.size + 1) = some (PySem.HandSPX.excO C hp.objs.size) := by heap_get
  have I2 : Inv X pins σ (upd H (hp.objs.size + 1) (exo (hp.objs.size + 1) C none)) ⟨(hp.push (PySem.W.kdv_tup us)).push (PySem.HandSPX.excO C hp.objs.size), gg, dr, tk, os⟩ :=
    I.laid (t' := tk) (a := hp.objs.size + 1) (o := exo (hp.objs.size + 1) C none) (h' := (hp.push (PySem.W.kdv_tup us)).push (PySem.HandSPX.excO C hp.objs.size)) kk hsz (exo_ok hget)
  refine wpAny_call (PySem.HandSPK.call_ownK F.excBase_ValueError (fun Y => PySem.HandSPX.refsVE_contains Y bm hbm) (I.kIn _ _ hC) (PySem.W.looks_findIn I.kIn iC) (fun self => PySem.W.bind_fn I.kIn self tI) hus
    (codeAny_mono (F1.run _ X.stack _ _ ⟨Value.ref (hp.objs.size + 1) :: us, kw⟩ (alls (.ref (hp.objs.size + 1))) _ _ (fun _ _ _ => False) (hr.make C us kw) (I2.env0.make C us kw) (hb _ _ I2.kIn) (hv _) hq) fun r s' hq' => ?_))
  cases r with
  | error er => exact hx pins σ _ _ er s' I2 hq'
  | ok fl =>
    cases fl with
    | ret u =>
      obtain ⟨v, H', I3, rv, ev, q3⟩ := I2.after hq'
      subst ev
      exact ⟨rv, ⟨V.ref (hp.objs.size + 1), H', I3, rfl, q3⟩⟩
    | next => exact False.elim hq'
    | brk => exact False.elim hq'
    | cont => exact False.elim hq'
theorem pe_exv (T : OexC X.K C) (iC : PySem.W.findIn X.K (.ref C) "__init__" = some (some (.ref fI))) (tI : PySem.W.typeIn X.K (.ref fI) = some (.type "function"))
    (F1 : FnOk X.prog X.w X.K X.mg X.base CX k fI fd ps sp) (hr : Room (k + 1) X.A) (hb : Binds X.K fd ps []) (hx : Passes CX X (fun _ _ _ => False)) (hg : Gl X x) (hm : X.mg x = some (.ref C)) (ha : PA X (e :: es) t)
    (hdb : (x == ("__debug__" : Str)) = false := by decide) (he : starEach (e :: es) X.env = (false, eval e X.env) :: starEach es X.env := by rfl) (hpl : (backTo pos (starEach es X.env)).any (·.1) = false := by rfl) :
    PE X (.Call (.Name x p) (e :: es) [] pos) (tMkV C sp t) := by
  refine ⟨fun pins s σ H Q I h => ?_⟩
  refine wpAny_Call_Name_kw (ld_glob I hg hm ?_ hdb)
  refine PySem.W.callWith_K (h₀ := X.base) I.ok.mod.kin T.kC (thn (ha.run pos pins s σ H _ I h) fun us s1 ⟨vs, H1, I1, r1, hz, q1⟩ => ⟨I1.kIn, ?_⟩) he hpl
  have hus : us.length ≤ sizeLine := by
    rw [← Paired.length r1, sizeLine_eq]
    omega
  have hl : (us.length + 1) = ps.length := by
    have z := F1.len _ _ _ _ (q1 _ (I1.hok.fresh (Nat.le_refl s1.heap.objs.size)))
    rw [← z, List.length_cons, r1.length]
  refine run_exv (kw := []) (all := fun a => .ref a :: vs) (alls := fun a => a :: us) T iC tI F1 hr hx I1 hus (fun s a kin => ?_) (fun a => .cons rfl r1) q1
  have b := hb s (.ref a :: us) kin (by rw [List.append_nil]; exact hl)
  rw [List.append_nil] at b
  exact b
theorem pe_exv0 (T : OexC X.K C) (iC : PySem.W.findIn X.K (.ref C) "__init__" = some (some (.ref fI))) (tI : PySem.W.typeIn X.K (.ref fI) = some (.type "function"))
    (F1 : FnOk X.prog X.w X.K X.mg X.base CX k fI fd ps sp) (hr : Room (k + 1) X.A) (hb : Binds X.K fd ps []) (hx : Passes CX X (fun _ _ _ => False)) (hg : Gl X x) (hm : X.mg x = some (.ref C))
    (hdb : (x == ("__debug__" : Str)) = false := by decide) : PE X (.Call (.Name x p) [] [] pos) (tMkV C sp tNil) := by
  refine ⟨fun pins s σ H Q I h => ?_⟩
  refine wpAny_Call_Name_kw (ld_glob I hg hm ?_ hdb)
  have h : ([] : List V).length ≤ 1000 ∧ ∀ a, H a = none → sp (.ref a :: []) (upd H a (exo a C none)) (fun v H2 => v = .non ∧ Q (.ref a) H2) (fun _ _ _ => False) := h
  refine PySem.W.callWith_K0 I.kIn T.kC ?_
  have hl : 1 = ps.length := (F1.len _ _ _ _ (h.2 _ (I.hok.fresh (Nat.le_refl s.heap.objs.size)))).symm ▸ rfl
  refine run_exv (kw := []) (us := []) (all := fun a => [.ref a]) (alls := fun a => [a]) T iC tI F1 hr hx I (Nat.zero_le _) (fun s a kin => ?_) (fun a => .cons rfl .nil) h.2
  have b := hb s [.ref a] kin (by rw [List.append_nil]; exact hl)
  rw [List.append_nil] at b
  exact b
theorem pe_exvK (T : OexC X.K C) (iC : PySem.W.findIn X.K (.ref C) "__init__" = some (some (.ref fI))) (tI : PySem.W.typeIn X.K (.ref fI) = some (.type "function"))
    (F1 : FnOk X.prog X.w X.K X.mg X.base CX k fI fd ps sp) (hr : Room (k + 1) X.A) (hb : KB X.K fd ps ks 1 g gV) (hx : Passes CX X (fun _ _ _ => False)) (hg : Gl X x) (hm : X.mg x = some (.ref C)) (hkw : PK X kws tk)
    (hall : (backToKw pos (keywordEach kws X.env)).all (·.1.isSome) = true := by rfl)
    (hks : (backToKw pos (keywordEach kws X.env)).filterMap (·.1) = ks := by rfl) (hdb : (x == ("__debug__" : Str)) = false := by decide)
    (hpl : ((backTo pos (starEach [] X.env)).any (·.1) || (backToKw pos (keywordEach kws X.env)).any (·.1.isNone)) = false := by rfl) :
    PE X (.Call (.Name x p) [] kws pos) (tMkVK C sp gV ks.length tk) := by
  refine ⟨fun pins s σ H Q I h => ?_⟩
  refine wpAny_Call_Name_kw (ld_glob I hg hm ?_ hdb)
  refine PySem.W.callWith_KW0 (h₀ := X.base) I.ok.mod.kin T.kC hall ?_ hpl
  refine thn (hkw.run pos pins s σ H _ I h) fun ws s2 ⟨zs, H2, I2, rz, l1, l2⟩ => ⟨I2.kIn, ?_⟩
  rw [hks]
  exact run_exv (us := []) (kw := ks.zip ws) (all := fun a => gV [.ref a] zs) (alls := fun a => g [a] ws) T iC tI F1 hr hx I2 (Nat.zero_le _) (fun s a kin => hb.to s [.ref a] ws kin rfl (rz.length.symm.trans l1)) (fun a => hb.rel (vs := [.ref a]) rfl l1 (.cons rfl .nil) rz) l2
end
end Gs

set_option Elab.async false
set_option linter.all false
set_option maxRecDepth 100000
set_option maxHeartbeats 4000000
/-! Layer G17: an exception that is caught and kept; an own class's __init__ that is ValueError's. -/
namespace Gs
open PySem PySem.Spec PyProof.Rows L2
section
variable {X : Cx} {pins : List (Addr × Obj)} {σ : L2.St} {H : Hp} {s : Shared} {D : Ends}
theorem ext_own {φ : Heap → Prop} {x : Addr} : HO.ext φ ≠ .own x := fun z => nomatch z
/-- what was pinned is tracked from now on -/
theorem inv_track {a : Addr} {ob : Obj} {u : HO} (I : Inv X ((a, ob) :: pins) σ H s) (hx : X.ex = []) (hn : X.s_0.heap.get? a = none) (hp : ∀ p ∈ X.pn ++ pins, p.1 ≠ a) (ok : ObjOk X.prog X.w (upd H a u) s.heap a u) : Inv X pins σ (upd H a u) s := by
  obtain ⟨q1, q2, q3, q4, q5⟩ := I.pin (a, ob) (List.mem_append_right _ List.mem_cons_self)
  have q1 : s.heap.get? a = some ob := q1
  have q2 : H a = none := q2
  have q3 : a ≠ X.env.locals := q3
  have q5 : ∀ v, ob.data ≠ .cell v := q5
  refine ⟨I.ok, I.os, I.bare, ?_, I.loc, I.cell, ?_, fun x c e => ?_, fun p hm => ?_, fun b o e => ?_, I.len⟩
  · refine ⟨I.base.keep, I.base.slot, fun b o e n hb => ?_, I.base.there, fun b xs e => ?_, fun b o v e => ?_, fun b ps e => ?_⟩
    · have nb : b ≠ a := fun z => by rw [z, hn] at e; cases e
      rw [upd_ne nb]; exact I.base.free b o e n hb
    · have z := I.base.tups b xs e
      rw [upd_ne (ne_of_none z q2)]; exact z
    · have z := I.base.frzs b o v e
      rw [upd_ne (ne_of_none z q2)]; exact z
    · obtain ⟨m, z⟩ := I.base.tbls b ps e
      exact ⟨m, by rw [upd_ne (ne_of_none z q2)]; exact z⟩
  · rw [upd_ne (Ne.symm q3)]; exact I.free
  · have nc : c ≠ a := fun z => by
      obtain ⟨v, hv⟩ := I.cell x c e
      obtain ⟨o, e1, e2⟩ := hv
      rw [z, q1] at e1; cases e1
      exact q5 _ e2
    rw [upd_ne nc]; exact I.freeC x c e
  · have hm' : p ∈ X.pn ++ (a, ob) :: pins := (List.mem_append.mp hm).elim (fun z => List.mem_append_left _ z) fun z => List.mem_append_right _ (List.mem_cons_of_mem _ z)
    obtain ⟨r1, r2, r3, r4, r5⟩ := I.pin p hm'
    exact ⟨r1, by rw [upd_ne (hp p hm)]; exact r2, r3, r4, r5⟩
  · by_cases hb : b = a
    · subst hb
      rw [upd_same] at e; cases e
      exact ok
    · rw [upd_ne hb] at e
      exact (I.hok b o e).stay (fun c v _ r => r) (fun c r => by rw [upd_ne (ne_of_none r q2)]; exact r) fun c xs r => by rw [upd_ne (ne_of_none r q2)]; exact r
/-- what the clause wishes: n slots, i that of the name -/
def oneK (n : Nat) (K : PySem.W.Frag) (c : Value) (i : Nat) (ts : Addr → Value → Option Addr → TS) : Catch := fun D W cls d σ H => ∃ b, PySem.W.exmOne K cls c = some b ∧
  (b = true → σ.length = n → ∀ a, H a = none → ts a cls d { nx := fun σ' H' => D.nx (σ'.set i none) (upd H' a (exv a cls d)), rt := fun v H' => D.rt v (upd H' a (exv a cls d)), bk := fun σ' H' => D.bk (σ'.set i none) (upd H' a (exv a cls d)), ct := fun σ' H' => D.ct (σ'.set i none) (upd H' a (exv a cls d)) } (σ.set i (some (.ref a))) H) ∧ (b = false → W cls d σ H)
/-- try: body, except .. as ..: .., the exception kept -/
theorem ps_tryK {body : List Stmt} {pos : Pos} {tb : WX → TS} {W₀ : WX} {x n : Str} {i : Nat} {c : Value} {ts : Addr → Value → Option Addr → TS} {b₀ : Stmt} {su : List Stmt} {q q' : Pos} (hs : X.stack = X.env :: X.outer) (hf : X.env.frame = some X.env.locals) (hex : X.ex = []) (tk : Takes X W₀)
    (hb : ∀ (W : WX) (pn : List (Addr × Obj)) (xe : Value → Shared → Prop), Takes (X.tr pn xe) W → PassesOwn (model X.prog X.w) X.A X.env xe → PSs (X.tr pn xe) body (tb W))
    (nc : Names X x c) (hN : X.N.Nodup) (hi : X.N[i]? = some n) (ln : X.env.kindOf n = some .local)
    (hsu : ∀ (a : Addr) (ob : Obj) (cls : Value) (d : Option Addr) (pn : List (Addr × Obj)), Zc cls d ob → (∃ vs, ob.data = .fields vs) → PSs (X.suite a ((a, ob) :: pn)) (b₀ :: su) (ts a cls d)) :
    PS X (.Try body [.ExceptHandler (some (.Name x q)) (some n) (b₀ :: su) q'] [] [] pos) (fun D σ H => tb (oneK X.N.length X.K c i ts D W₀) D σ H) := by
  refine ⟨fun pins s σ H D I h => ?_⟩
  have ok := I.ok
  have frm : X.A.frames = some (X.env :: X.outer) := by rw [ok.frames, hs]
  refine wpAny_Try_except (wpAny_mono ((hb (oneK X.N.length X.K c i ts D W₀) (X.pn ++ pins) (fun e s₁ => wpAny (model X.prog X.w) X.A (noteFrame e X.env) (fun _ s₂ => wpAny (model X.prog X.w) X.A (setFlight e none)
    (fun _ s₃ => wpAny (model X.prog X.w) X.A (handleBy e X.env [.ExceptHandler (some (.Name x q)) (some n) (b₀ :: su) q']) (SP X pins D) X.xe s₃) X.xe s₂) X.xe s₁) (fun u s₁ caught => ?_) PassesOwn.looking).run [] s σ H D (I.toTry _) h) (fun f s₁ hsp => ?_) (fun _ _ z => z))
  rotate_left
  · cases f with
    | next => obtain ⟨σ', H', J, z⟩ := hsp; exact wpAny_execs_nil ⟨σ', H', J.ofTry ok, z⟩
    | brk => obtain ⟨σ', H', J, z⟩ := hsp; exact ⟨σ', H', J.ofTry ok, z⟩
    | cont => obtain ⟨σ', H', J, z⟩ := hsp; exact ⟨σ', H', J.ofTry ok, z⟩
    | ret u => obtain ⟨v, σ', H', J, rv, z⟩ := hsp; exact ⟨v, σ', H', J.ofTry ok, rv, z⟩
  obtain ⟨a, B, sI, pins', σ', H', cls, d, rfl, J', nb, up, sky, na, os, ag, wish⟩ := caught
  have J : Inv X pins σ' H' sI := J'.ofTry ok
  have sky : Sky B (X.env :: X.outer) a (Zc cls d) X.env.locals s₁.heap := by rw [← hs]; exact sky
  show wpAny (model X.prog X.w) X.A (noteFrame (.ref a) X.env) _ _ _
  refine Sky.land Zc.steady frm hf sky fun h₃ fl up₃ => ?_
  have up₃ := up.trans up₃
  obtain ⟨ob, vs, hob, hz, hd⟩ := fl.there
  have apart : ∀ {g : Heap} {o : Obj} {us : Array Value}, g.FunFrames B (X.env :: X.outer) → g.get? a = some o → o.data = .fields us → a ∉ frs (X.env :: X.outer) := by
    intro g o us ff e de hm
    obtain ⟨_, o', e', no⟩ := ff.mem hm
    rw [e] at e'
    cases e'
    exact no _ de
  have nfr := apart fl.2.2.1 hob hd
  have nL : a ≠ X.env.locals := fun z => nfr (List.mem_filterMap.mpr ⟨X.env, List.mem_cons_self, by rw [hf, z]⟩)
  have nF : a ∉ X.fs := fun hm => by
    obtain ⟨e, he, z⟩ := List.mem_filterMap.mp hm
    exact nfr (List.mem_filterMap.mpr ⟨e, List.mem_cons_of_mem _ he, z⟩)
  -- the exception is new
  have nI : sI.heap.get? a = none := by
    cases e : sI.heap.get? a with
    | none => rfl
    | some o =>
      have z := nb a o e (by rw [hs]; exact nfr)
      rw [fl.2.1] at z; cases z
  have n0 : X.s_0.heap.get? a = none := by
    cases e : X.s_0.heap.get? a with
    | none => rfl
    | some o =>
      obtain ⟨o', z⟩ := J.base.there a o e (by rw [hex]; exact List.not_mem_nil)
      rw [nI] at z; cases z
  have np : ∀ p ∈ X.pn ++ pins, p.1 ≠ a := fun p hp z => by
    have y := (J.pin p hp).1
    rw [z, nI] at y; cases y
  have J₃ : Inv X pins σ' H' { s₁ with heap := h₃ } := J.landed nb fl.1 up₃ os ag
  have S₃ := J₃.suite hob hd na nL nF
  have looks : PySem.W.Looks (model X.prog X.w) h₃ (typeOf (.ref a)) cls := fun A Q E s k z => wpAny_typeOf_ref (k _ _ hob) (by rw [hz.1]; exact z)
  -- the class that a clause names
  have named : ∀ {x : Str} {c : Value} {q : Pos} {Q : Value → Shared → Prop} {E : Value → Shared → Prop}, Names X x c → Q c { s₁ with heap := h₃ } →
      wpAny (model X.prog X.w) (X.A.mark (some (.ref a))) (eval (.Name x q) X.env) Q E { s₁ with heap := h₃ } := by
    intro x c q Q E nc hq
    obtain ⟨hg, dbg, m | ⟨m, boot, nn⟩⟩ := nc
    · exact ld_glob (X := X.suite a ((a, ob) :: (X.pn ++ pins))) S₃ hg m hq dbg
    · exact ld_blt (X := X.suite a ((a, ob) :: (X.pn ++ pins))) S₃ hg m boot hq nn dbg
  obtain ⟨b, hb1, yes, no⟩ := wish
  refine wpAny_handleBy_cons (codeAny_handlers_test ?_) (by intro z; cases z)
  refine named nc ((PySem.W.exm_one (M := model X.prog X.w) J₃.kIn looks hb1).here ?_)
  cases b with
  | false =>
    have wish := no rfl
    refine wpAny_handleBy_nil ?_
    obtain ⟨_, _, _, oe, us, T, oT, ts', he, _, hde, h1, _⟩ := id fl
    unfold PySem.passOn
    refine wpAny_bind (wpAny_field he hde h1 ?_)
    rw [if_neg (by simp)]
    have fin : wpAny (model X.prog X.w) X.A (setFlight (.ref a) X.env.frame) (fun _ s₄ => wpAny (model X.prog X.w) X.A (throw (.ref a) : Sem Flow) (SP X pins D) X.xe s₄) X.xe { s₁ with heap := h₃ } := by
      rw [hf]
      refine HandSPX.setFlight_upZ fl fun h₄ sk up₄ => wpAny_throw (tk _ _ ?_)
      exact ⟨a, B, sI, pins, σ', H', cls, d, rfl, J, nb, up₃.trans up₄, .inr (.inr (by rw [hs]; exact sk)), na, os, ag, wish⟩
    first
      | exact wpAny_bind (wpAny_pure (wpAny_bind fin))
      | exact wpAny_bind fin
  | true =>
    refine codeAny_handlers_suite_as ?_
    refine HandSPX.lands_againZ fl fun h₄ fl₄ up₄ => ?_
    obtain ⟨ob4, us4, e4, z4, d4⟩ := fl₄.there
    have J₄ : Inv X pins σ' H' { s₁ with heap := h₄ } := J.landed nb fl₄.1 (up₃.trans up₄) os ag
    have S₄ := J₄.suite e4 d4 na nL nF
    -- behind the suite: pinned, the name gone, then tracked
    have gone : ∀ {σ6 : L2.St} {H6 : Hp} {s6 : Shared} {Q : Shared → Prop}, Inv (X.suite a ((a, ob4) :: (X.pn ++ pins))) [] σ6 H6 s6 → (∀ s7, Inv X pins (σ6.set i none) (upd H6 a (exv a cls d)) s7 → Q s7) →
        wpAny (model X.prog X.w) X.A (do bindName X.env n .none; unbindBehindTheSuite X.env n q') (fun _ s7 => Q s7) X.xe s6 := by
      intro σ6 H6 s6 Q S6 hq
      have P6 : Inv X ((a, ob4) :: pins) σ6 H6 s6 := (S6.unsuite ok).pins_of fun p hp => by
        rcases List.mem_cons.mp hp with e | e
        · subst e
          exact S6.pin (a, ob4) (List.mem_append_left _ List.mem_cons_self)
        · exact (S6.unsuite ok).pin p (List.mem_append_right _ e)
      refine gone_ok P6 hN hi ln fun s7 J7 => hq s7 (inv_track J7 hex n0 np ?_)
      have e7 := (J7.pin (a, ob4) (List.mem_append_right _ List.mem_cons_self)).1
      exact exv_ok e7 z4 ⟨_, d4⟩
    refine store_ok (X := X.suite a ((a, ob4) :: (X.pn ++ pins))) (v := .ref a) S₄ hN hi (.inl ln) rfl (fun s5 S5 => ?_) (.inr ln)
    refine wpAny_mono ((hsu a ob4 cls d (X.pn ++ pins) z4 ⟨_, d4⟩).run [] s5 _ H' _ S5 (yes rfl J.len a na)) (fun f s6 hsp => ?_) (fun _ _ z => z.elim)
    cases f with
    | next => obtain ⟨σ6, H6, S6, z⟩ := hsp; exact gone S6 fun s7 J7 => ⟨_, _, J7, z⟩
    | brk => obtain ⟨σ6, H6, S6, z⟩ := hsp; exact gone S6 fun s7 J7 => ⟨_, _, J7, z⟩
    | cont => obtain ⟨σ6, H6, S6, z⟩ := hsp; exact gone S6 fun s7 J7 => ⟨_, _, J7, z⟩
    | ret u => obtain ⟨v, σ6, H6, S6, rv, z⟩ := hsp; exact gone S6 fun s7 J7 => ⟨_, _, _, J7, rv, z⟩
end
/-! ### B.__init__(self, ..), B an own class whose __init__ is ValueError's -/
structure BInit (K : PySem.W.Frag) (C : Addr) : Prop where
  rd : PySem.W.readsIn K C (.type "type") = true
  ga : PySem.W.specialIn K (.ref C) "__getattribute__" = some (some (.builtin "type.__getattribute__"))
  at_ : PySem.W.findCls K (.ref C) (.type "type") "__init__" = some (.val (.builtin "ValueError.__init__"))
theorem pe_finit {X : Cx} {x : Str} {C : Addr} {e : Expr} {es : List Expr} {ta : TA} {p1 p2 pos : Pos} {pl : Sem Bool} (hg : Gl X x) (hm : X.mg x = some (.ref C)) (Z : BInit X.K C) (ha : PA X (e :: es) ta) (hdb : (x == ("__debug__" : Str)) = false := by decide)
    (hc : eval (.Call (.Attribute (.Name x p1) "__init__" p2) (e :: es) [] pos) X.env = (do
      let ov ← eval (.Name x p1) X.env
      standAt p2.atName
      let (f, first) ← holding [ov] (getMethod ov "__init__" pl)
      callWith pos f first (backTo pos (starEach (e :: es) X.env)) (backToKw pos (keywordEach [] X.env))) := by rfl)
    (he : starEach (e :: es) X.env = (false, eval e X.env) :: starEach es X.env := by rfl) (hpl : (backTo pos (starEach es X.env)).any (·.1) = false := by rfl) :
    PE X (.Call (.Attribute (.Name x p1) "__init__" p2) (e :: es) [] pos) (tVeI X.K ta) := by
  refine ⟨fun pins s σ H Q I h => ?_⟩
  refine PySem.W.methodCall_KW (ld_glob I hg hm ?_ hdb) hc
  refine PySem.W.method_cls I.kIn Z.ga (PySem.W.cls_value I.kIn Z.rd Z.at_ rfl ?_)
  show wpAny _ _ (callWith pos (Value.builtin "ValueError.__init__") [] (backTo pos (starEach (e :: es) X.env)) []) _ _ _
  refine PyProof.Rows.callWith_method1 (thn (ha.run pos pins _ σ H _ (I.tok _) h) fun us s1 ⟨vs, H1, I1, r1, a, C, ws, ev, hl, T, ea, q⟩ => ?_) he hpl
  subst ev
  cases r1 with
  | @cons _ u0 _ ur ra rw' =>
    obtain rfl : u0 = Value.ref a := ra
    have hlen : ur.length ≤ sizeLine := by
      rw [← Paired.length rw', sizeLine_eq]
      omega
    exact oinit_ok T I1 ea hlen fun s' J => ⟨.non, H1, J, rfl, q⟩
end Gs

set_option Elab.async false
set_option linter.all false
set_option maxRecDepth 100000
set_option maxHeartbeats 4000000
namespace Gs
open PySem PySem.Spec PyProof.Rows L2
theorem tabs_none {P : Addr} {q : Str} {H : Hp} (h : H P = some (.tbl #[])) : LamX.Tabs [(P, q)] H := fun p hp => by
  rw [List.mem_singleton.mp hp]
  exact LamX.TabS.nil h
section
variable {P : Program} {w : World} {K : PySem.W.Frag} {mg mb : Str → Option Value} {CX : CXT} {k : Nat} {fa a cc T : Addr} {fd : FuncData} {x : Str} {sp : Sp}
  {s₁ : Shared} {vs : List Value} {ns : List Int}
/-- the law's call where one code object has an empty table -/
theorem law_callGT (KX : K.In s₁.heap) (hns : s₁.heap.Ns mainGlobals mg) (hb : s₁.heap.Ns builtinsNs mb) (hbb : ∀ x : Str, x ≠ "__name__" → mb x = bootBuiltins x)
    (hlim : s₁.heap.NoLimit) (hg : s₁.gens = #[]) (hT : s₁.heap.get? T = some { cls := .none, data := .fields #[] }) (nT : K.lookup T = none) (C : PySem.W.CodeHd s₁.heap cc T)
    (hbm : ∃ (bm : Addr) (ob : Obj), mg "__builtins__" = some (.ref bm) ∧ bm ≠ builtinsNs ∧ s₁.heap.get? bm = some ob ∧ ob.cls = .type "module" ∧ ob.dict = some builtinsNs ∧ ob.data = .plain)
    (ha : s₁.heap.get? a = some { cls := .type "list", data := .seq vs.toArray }) (hi : IntsAre vs ns) (hl : ns.length ≤ sizeLine)
    (hr : Room k callerA) (F : ∀ base : Heap, K.In base → base.Ns mainGlobals mg → LamX.TabB base mg cc T → FnG P w K mg base CX k fa fd [x] sp)
    (hbind : ∀ (s : Shared) (u : Value), BindsTo s fd ⟨[u], []⟩ [(x, u)])
    (hsp : ∀ H : Hp, H T = some (.tbl #[]) → SqL K H a (ns.map V.int) → sp [.ref a] H (fun v _ => v = .bl true) fun _ _ _ => False)
    (hCX : ∀ H e s', CX [] H s₁ (fun _ _ _ => False) e s' → False) :
    codeAny (model P w) callerA (.call (.ref fa) ⟨[.ref a], []⟩)
      (fun r s' => r = .ok (.ret (.bool true)) ∧ OldK s₁.heap s'.heap ∧ s'.os = s₁.os ∧ AllBare s'.gens) s₁ := by
  have rv := vals_ints hi
  have nV := hi.length
  have aT : a ≠ T := fun z => by rw [z, hT] at ha; cases ha
  -- H knows the table, and perhaps the script, which is frozen
  have go : ∀ H : Hp, (∀ b, H b = none ∨ (b = a ∧ K.lookup b = none ∧ ∃ o ys, H b = some (.frz o (.lst ys))) ∨ b = T) → H T = some (.tbl #[]) → SqL K H a (ns.map V.int) → HOk P w H s₁.heap →
      codeAny (model P w) callerA (.call (.ref fa) ⟨[.ref a], []⟩)
        (fun r s' => r = .ok (.ret (.bool true)) ∧ OldK s₁.heap s'.heap ∧ s'.os = s₁.os ∧ AllBare s'.gens) s₁ := by
    intro H hO hHT hS hok
    have unk : ∀ {b : Addr} {o : Obj}, s₁.heap.get? b = some o → o.data ≠ .seq vs.toArray → o.data ≠ .fields #[] → H b = none := by
      intro b o e nd nf
      rcases hO b with q | ⟨q, _, _⟩ | q
      · exact q
      · rw [q, ha] at e; cases e; exact absurd rfl nd
      · rw [q, hT] at e; cases e; exact absurd rfl nf
    have hid : ∀ {b : Addr} {o : Obj}, s₁.heap.get? b = some o → o.data ≠ .seq vs.toArray → o.data ≠ .fields #[] → (hidT s₁.heap H).get? b = some o := fun e n1 n2 => hidT_get e (unk e n1 n2)
    have nsH : ∀ {b : Addr} {m : Str → Option Value}, s₁.heap.Ns b m → (hidT s₁.heap H).Ns b m := by
      rintro b m ⟨o, es, ep, e, d, r⟩
      exact ⟨o, es, ep, hid e (by rw [d]; exact fun z => nomatch z) (by rw [d]; exact fun z => nomatch z), d, r⟩
    have kH : K.In (hidT s₁.heap H) := by
      intro b o e
      refine hidT_get (KX b o e) ?_
      rcases hO b with q | ⟨_, q, _⟩ | q
      · exact q
      · rw [q] at e; cases e
      · rw [q, nT] at e; cases e
    have md : Mod K mg (hidT s₁.heap H) := by
      refine ⟨kH, nsH hns, ⟨mb, nsH hb, hbb⟩, ?_⟩
      obtain ⟨mc, h1, h2⟩ := hlim
      exact ⟨mc, nsH h1, h2⟩
    have e0 : Env0 P w K mg (hidT s₁.heap H) callerA [] s₁ H := by
      refine ⟨rfl, md, fun b o e => of_hidT e, Nat.le_of_eq (hidT_size _ _), trivial, ?_, hok, .of_eq hg⟩
      intro b hb
      exact absurd (show b ∈ ([] : List Addr) from hb) (List.not_mem_nil)
    have ngT : mainGlobals ≠ T := fun z => by
      obtain ⟨o, es, ep, e, d, _⟩ := hns
      rw [z, hT] at e; cases e; cases d
    have TB : LamX.TabB (hidT s₁.heap H) mg cc T := by
      refine ⟨?_, ?_, ngT⟩
      · obtain ⟨o, us, file, tf, flags, tg, inF, text, tt, e1, r1, r2, r3, rest⟩ := C
        refine ⟨o, us, file, tf, flags, tg, inF, text, tt, hid e1 (by rw [r2]; exact fun z => nomatch z) (fun z => ?_), r1, r2, r3, rest⟩
        rw [r2] at z; cases z; simp at r3
      · obtain ⟨bm, ob, b1, b2, b3, b4, b5, b6⟩ := hbm
        refine ⟨bm, ob, b1, b2, fun z => ?_, fun z => ?_, hid b3 (by rw [b6]; exact fun z => nomatch z) (by rw [b6]; exact fun z => nomatch z), b4, b5, b6⟩
        · obtain ⟨o, es, ep, e, d, _⟩ := hns
          rw [z, e] at b3; cases b3
          rw [d] at b6; cases b6
        · rw [z, hT] at b3; cases b3; cases b6
    have run := (F _ kH (nsH hns) TB).run callerA [] s₁ H ⟨[.ref a], []⟩ [.ref a] [.ref a] _ _ hr rfl e0 (hbind s₁ (.ref a)) (.cons rfl .nil) (hsp H hHT hS)
    refine codeAny_mono run (fun r s' h => ?_)
    match r, h with
    | .error e, h => exact (hCX H e s' h).elim
    | .ok .next, h => exact h.elim
    | .ok .brk, h => exact h.elim
    | .ok .cont, h => exact h.elim
    | .ok (.ret u), h =>
      obtain ⟨v, H', os, bare, un, hok', r', q⟩ := h
      cases (show v = .bl true from q)
      cases (show u = Value.bool true from r')
      obtain ⟨more, hm⟩ := un.tbls T #[] hHT
      have gT : s'.heap.get? T = some { cls := .none, data := .fields (#[] ++ more) } := hok' T _ hm
      have keep : ∀ b o, b ≠ T → s₁.heap.get? b = some o → s'.heap.get? b = some o := fun b o nb e => by
        rcases hO b with q | ⟨_, _, ob, ys, q⟩ | q
        · exact un.keep b o e q (fun z => absurd (show b ∈ ([] : List Addr) from z) List.not_mem_nil) List.not_mem_nil
        · obtain ⟨e1, _⟩ := hok b _ q
          obtain ⟨e2, _⟩ := hok' b _ (un.frzs b ob _ q)
          rw [e] at e1; cases e1; exact e2
        · exact absurd q nb
      refine ⟨rfl, ⟨fun b o e => ?_, fun b o e => ?_⟩, os, bare⟩
      · by_cases nb : b = T
        · subst nb
          rw [hT] at e; cases e
          exact .inr (.inl ⟨(C.tab hT).isCodeTable, rfl, #[], more, rfl, gT⟩)
        · exact .inl (keep b o nb e)
      · by_cases nb : b = T
        · rw [nb]; exact ⟨_, gT⟩
        · exact ⟨o, keep b o nb e⟩
  by_cases hk : K.lookup a = none
  · have at_T : (fun b => if b = T then some (HO.tbl #[]) else if b = a then some (HO.frz { cls := .type "list", data := .seq vs.toArray } (.lst (ns.map V.int))) else none : Hp) T = some (.tbl #[]) := if_pos rfl
    have at_a : (fun b => if b = T then some (HO.tbl #[]) else if b = a then some (HO.frz { cls := .type "list", data := .seq vs.toArray } (.lst (ns.map V.int))) else none : Hp) a = some (.frz { cls := .type "list", data := .seq vs.toArray } (.lst (ns.map V.int))) := (if_neg aT).trans (if_pos rfl)
    refine go (fun b => if b = T then some (HO.tbl #[]) else if b = a then some (HO.frz { cls := .type "list", data := .seq vs.toArray } (.lst (ns.map V.int))) else none) (fun b => ?_) at_T (.inl (.inr ⟨_, at_a⟩)) (fun b u z => ?_)
    · by_cases e : b = T
      · exact .inr (.inr e)
      · by_cases e2 : b = a
        · refine .inr (.inl ⟨e2, by rw [e2]; exact hk, _, _, (if_neg e).trans (if_pos e2)⟩)
        · exact .inl ((if_neg e).trans (if_neg e2))
    · dsimp only at z
      by_cases e : b = T
      · rw [if_pos e] at z; cases z; rw [e]; exact hT
      · rw [if_neg e] at z
        by_cases e2 : b = a
        · rw [if_pos e2] at z; cases z; rw [e2]
          exact ⟨ha, by rw [List.length_map]; exact hl, vs, _, rv, ha⟩
        · rw [if_neg e2] at z; cases z
  · obtain ⟨o, ho⟩ := Option.ne_none_iff_exists'.mp hk
    have e := KX a o ho
    rw [ha] at e; cases e
    refine go (fun b => if b = T then some (.tbl #[]) else none) (fun b => ?_) (if_pos rfl) (.inr ⟨_, vs.toArray, _, ho, rfl, rfl, rfl, ?_, by simpa using rv⟩) (fun b u z => ?_)
    · by_cases e : b = T
      · exact .inr (.inr e)
      · exact .inl (if_neg e)
    · rw [List.size_toArray, nV]; exact hl
    · dsimp only at z
      by_cases e : b = T
      · rw [if_pos e] at z; cases z; rw [e]; exact hT
      · rw [if_neg e] at z; cases z
end
/-- what the head leaves, from the law's promise; one code object has a table -/
theorem walkGT {l : PySem.W.OpenLaw} {k : Nat} {q : Program} {loose : List Str} {XP : (Str → Option Value) → Heap → Prop} {YP : World → Heap → Prop} {d : DefRec}
    {K : Params → PySem.W.Frag} {sp : PySem.W.Frag → Sp} {x : Str} {T : Addr} (hn : l.most = some 63) (hdf : d.params.defaults = []) (hr : Room k callerA)
    (hY : ∀ (w : World) (h : Heap), YP w h → (K w.params).In h) (hT : ∀ (w : World) (h : Heap), YP w h → h.get? T = some { cls := .none, data := .fields #[] })
    (F : ∀ (w : World) (mg : Str → Option Value) (fa : Addr) (h : Heap), (K w.params).In h → h.Ns mainGlobals mg → mg d.name = some (.ref fa) →
      ∃ (fd : FuncData) (cc : Addr), (∀ (s : Shared) (u : Value), BindsTo s fd ⟨[u], []⟩ [(x, u)]) ∧ (K w.params).lookup T = none ∧ PySem.W.codeHdIn (K w.params) cc T = true ∧
        ∀ base : Heap, (K w.params).In base → base.Ns mainGlobals mg → LamX.TabB base mg cc T → FnG l.prog w (K w.params) mg base CX0 k fa fd [x] (sp (K w.params)))
    (hsp : ∀ (K : PySem.W.Frag) (H : Hp) (a : Addr) (ns : List Int), ns.length ≤ 63 → H T = some (.tbl #[]) → SqL K H a (ns.map V.int) → sp K [.ref a] H (fun v _ => v = .bl true) fun _ _ _ => False) :
    PySem.W.WalkO q loose XP YP l.row.toRowW d [] (fun f vs => PySem.call f vs) := by
  refine Att.attach_call hn hdf (fun w s₀ s₁ mg mb fa o pm cd doc a vs ns G Y ho hd hcd hmg hobj hints hlen hg => ?_)
  have KX := hY w _ Y
  obtain ⟨fd, cc, hb, nT, hc, hF⟩ := F w mg fa _ KX G.T.g hmg
  exact law_callGT KX G.T.g G.T.b G.T.builtins G.T.nolimit hg (hT w _ Y) nT (PySem.W.codeHd_of_K KX hc) G.T.bmain hobj hints (Nat.le_trans hlen (by decide)) hr hF hb (fun H hHT hS => hsp _ H a ns hlen hHT hS) (fun _ _ _ h => h)
end Gs

set_option Elab.async false
set_option linter.all false
set_option maxRecDepth 100000
set_option maxHeartbeats 4000000
/-! Layer G18: a lambda whose parameters have written defaults (ints), handed to a def, called without arguments. -/
namespace Gs
open PySem PySem.Spec PyProof.Rows L2
open LamX (Tabs TabB TabS CodeO ExtN inv_table among_app codeO_ne GivesTo run_ofS lamEnv lamCx)
/-- the lambda's object: its defaults at t -/
abbrev lamD (qual : Str) (params : Arguments) (body : Expr) (scope : Scope) (clos : List (Str × Addr)) (t : Addr) (doc pm : Value) (c' : Addr) (ctv : Value) : Obj := PySem.W.kdv_obj "<lambda>" qual params (.expr body) scope clos (.ref t) doc pm c' ctv
section
variable {X : Cx} {pins : List (Addr × Obj)} {σ : L2.St} {H HZ : Hp} {s s1 : Shared}
/-- the defaults are evaluated to dv, nothing else changes -/
def DefV (params : Arguments) (env : Env) (M : Model) (A : Around) (ns : List Int) : Prop :=
  params.kw_defaults = [] ∧ ∀ (s : Shared) (Q : List Value → Shared → Prop) (E : Value → Shared → Prop), (∀ dv tk, IntsAre dv ns → Q dv { s with toks := tk }) → wpAny M A (evalAll (evalEach params.defaults env)) Q E s
theorem lam_make3 {T : List (Addr × Str)} {c P : Addr} {params : Arguments} {body : Expr} {scope : Scope} {pos : Pos} {ns : List Int} {E : Value → Shared → Prop} {Q : Value → Shared → Prop} (I : Inv X pins σ H s) (TB : TabB X.base X.mg c P) (hcode : X.env.code = .ref c)
    (hm : (P, X.env.qual ++ "<lambda>") ∈ T) (hu : ∀ p ∈ T, p.1 = P → p.2 = X.env.qual ++ "<lambda>") (hT : Tabs T H) (hne : params.defaults.isEmpty = false) (hns : ns ≠ []) (hnz : ns.length ≤ 100) (hdef : DefV params X.env (model X.prog X.w) X.A ns) (hfree : ∀ y ∈ scope.names, y.2 = .free → ∃ c, X.env.cells.lookup y.1 = some c)
    (h : ∀ (f c' t : Addr) (dv : List Value) (doc pm ctv : Value) (H1 : Hp) (s' : Shared), Inv X pins σ H1 s' → ExtN H H1 → Tabs T H1 → IntsAre dv ns → s'.heap.get? t = some (PySem.W.kdv_tup dv) → H1 t = none → t ∉ frs X.stack →
      s'.heap.get? f = some (lamD (X.env.qual ++ "<lambda>") params body scope (cloFrom X.env.cells scope.names []) t doc pm c' ctv) → H1 f = none → f ∉ frs X.stack → H1 c' = some (CodeO c' (X.env.qual ++ "<lambda>")) → Q (.ref f) s') :
    wpAny (model X.prog X.w) X.A (eval (.Lambda params body scope pos) X.env) Q E s := by
  refine PySem.W.kdv_lam hne hdef.1 (hdef.2 _ _ _ fun dv tk0 hi => ?_)
  have I0 : Inv X pins σ H { s with toks := tk0 } := I.tok _
  have nofr0 : ∀ f, s.heap.objs.size ≤ f → f ∉ frs X.stack := fun f hf z => by
    rcases List.mem_cons.mp (I.stkSub _ z) with e | e
    · have h1 := I.lt
      rw [← e] at h1
      exact Nat.lt_irrefl _ (Nat.lt_of_lt_of_le h1 hf)
    · exact I.nofs hf e
  rw [makeFunction_eq]
  have dne : dv.isEmpty = false := by
    have l := hi.length
    cases dv with
    | nil => exact absurd (List.length_eq_zero_iff.mp l.symm) hns
    | cons _ _ => rfl
  simp only [List.zip_nil_right, List.filterMap_nil, List.isEmpty_nil, if_true, pure_bind, dne, Bool.false_eq_true, if_false]
  refine wpAny_bind (wpAny_newTextTuple ?_)
  have I1 : Inv X pins σ H { s with heap := s.heap.push (PySem.W.kdv_tup dv), toks := tk0 } := I.kept fun b o e => Heap.get?_push_of_some _ e
  have tn : H s.heap.objs.size = none := I.hok.fresh (Nat.le_refl _)
  have tg : (s.heap.push (PySem.W.kdv_tup dv)).get? s.heap.objs.size = some (PySem.W.kdv_tup dv) := Heap.get?_push_size _ rfl
  have tf := nofr0 s.heap.objs.size (Nat.le_refl _)
  obtain ⟨s0, hs0⟩ : ∃ s0 : Shared, s0 = { s with heap := s.heap.push (PySem.W.kdv_tup dv), toks := tk0 } := ⟨_, rfl⟩
  have sz0 : s.heap.objs.size < s0.heap.objs.size := by rw [hs0]; show _ < (s.heap.push _).objs.size; rw [Heap.size_push]; exact Nat.lt_succ_self _
  have tg : s0.heap.get? s.heap.objs.size = some (PySem.W.kdv_tup dv) := by rw [hs0]; exact tg
  rw [← hs0] at I1
  show wpAny _ _ _ _ _ { s with heap := s.heap.push (PySem.W.kdv_tup dv), toks := tk0 }
  rw [← hs0]
  clear hs0 I0
  obtain ⟨ps, hP, ht, ha⟩ := hT _ hm
  have bP : s0.heap.BuiltinsAt X.mg P := TB.bm.keeps I1.bk
  have hP' : s0.heap.get? P = some { cls := .none, data := .fields ps } := I1.hok P _ hP
  have nofr : ∀ f, s0.heap.objs.size ≤ f → f ∉ frs X.stack := fun f hf z => nofr0 f (Nat.le_trans (Nat.le_of_lt sz0) hf) z
  cases hc : codeAmong pos ps.toList with
  | none =>
    refine PySem.W.kdv_makeTail (mg := X.mg) (c := c) (P := P) (ps := ps) (closure_ok hfree) I1.ok.glob (I1.mod.glob.keeps I1.bk) hcode (TB.code.keeps I1.bk) hP' ht hc TB.gP bP fun c' ctv doc h' tk hx hge hlt hrec htb => ?_
    obtain ⟨c2, oc, vs, t, e2, hoc, hd, hv⟩ := hrec
    cases e2
    have hsz : s0.heap.objs.size ≤ h'.objs.size := Nat.le_trans hge (Nat.le_of_lt hlt)
    have nC : H c' = none := I1.hok.fresh hge
    have J1 := inv_table (t' := tk) (more := #[rawInt pos.line, rawInt pos.col, .ref c']) (h' := h'.push (lamD (X.env.qual ++ "<lambda>") params body scope (cloFrom X.env.cells scope.names []) s.heap.objs.size doc ((X.mg "__name__").getD .none) c' ctv)) I1 hP
      (fun b o hb e => Heap.get?_push_of_some _ (hx b o hb e)) (Heap.get?_push_of_some _ htb) hge ⟨oc, vs, t, Heap.get?_push_of_some _ hoc, hd, hv⟩
    have hE : ExtN H (upd (upd H P (.tbl (ps ++ #[rawInt pos.line, rawInt pos.col, .ref c']))) c' (CodeO c' (X.env.qual ++ "<lambda>"))) := fun b o e n => by
      rw [upd_ne (ne_of_none e nC), upd_ne (fun z => n ps (Option.some.inj (e.symm.trans (by rw [z]; exact hP))))]
      exact e
    have eL : (ps ++ #[rawInt pos.line, rawInt pos.col, .ref c']).toList = ps.toList ++ [rawInt pos.line, rawInt pos.col, .ref c'] := by simp
    have ntP : s.heap.objs.size ≠ P := fun z => by rw [z, hP] at tn; cases tn
    have ntc : s.heap.objs.size ≠ c' := Nat.ne_of_lt (Nat.lt_of_lt_of_le sz0 hge)
    refine h h'.objs.size c' s.heap.objs.size dv doc ((X.mg "__name__").getD .none) ctv _ _ J1 hE (fun p hp => ?_) hi (Heap.get?_push_of_some _ (hx _ _ ntP tg)) (by rw [upd_ne ntc, upd_ne ntP]; exact tn) tf (Heap.get?_push_size _ rfl) ?_ (nofr _ hsz) upd_same
    · by_cases hb : p.1 = P
      · rw [hu p hp hb, hb]
        refine ⟨_, by rw [upd_ne (ne_of_none hP nC), upd_same], by rw [eL]; exact PySem.TriplesOk_snoc _ _ _ _ ht, fun p' cv hcv => ?_⟩
        rw [eL] at hcv
        rcases among_app _ ht hcv with z | z
        · obtain ⟨c0, e1, e2⟩ := ha p' cv z
          exact ⟨c0, e1, hE _ _ e2 codeO_ne⟩
        · exact ⟨c', z, upd_same⟩
      · obtain ⟨ps', a1, a2, a3⟩ := hT p hp
        refine ⟨ps', by rw [upd_ne (ne_of_none a1 nC), upd_ne hb]; exact a1, a2, fun p' cv hcv => ?_⟩
        obtain ⟨c0, e1, e2⟩ := a3 p' cv hcv
        exact ⟨c0, e1, hE _ _ e2 codeO_ne⟩
    · have n1 : h'.objs.size ≠ c' := Nat.ne_of_gt hlt
      have n2 : h'.objs.size ≠ P := Nat.ne_of_gt (Nat.lt_of_lt_of_le (Heap.lt_size hP') hsz)
      rw [upd_ne n1, upd_ne n2]
      exact I1.hok.fresh hsz
  | some cv =>
    obtain ⟨c', e, hco⟩ := ha pos cv hc
    subst e
    refine PySem.W.kdv_makeTailHit (mg := X.mg) (c := c) (P := P) (ps := ps) (closure_ok hfree) I1.ok.glob (I1.mod.glob.keeps I1.bk) hcode (TB.code.keeps I1.bk) hP' ht hc bP fun ctv doc h' tk hx hsz => ?_
    have J1 : Inv X pins σ H { s0 with heap := h'.push (lamD (X.env.qual ++ "<lambda>") params body scope (cloFrom X.env.cells scope.names []) s.heap.objs.size doc ((X.mg "__name__").getD .none) c' ctv), toks := tk } := I1.kept fun b o e => Heap.get?_push_of_some _ (hx b o e)
    exact h h'.objs.size c' s.heap.objs.size dv doc ((X.mg "__name__").getD .none) ctv H _ J1 (ExtN.refl H) hT hi (Heap.get?_push_of_some _ (hx _ _ tg)) tn tf (Heap.get?_push_size _ rfl) (I1.hok.fresh hsz) (nofr _ hsz) hco
/-- parameters ps, none of them a name of the maker's slots; captured names and globals else -/
structure LamP (N ps : List Str) (sc scope : Scope) : Prop where
  kind : scope.kind = .function
  co : scope.isCoroutine = false
  gen : scope.isGenerator = false
  cell : ∀ y ∈ scope.names, y.2 ≠ .cell
  own : ∀ y ∈ scope.names, y.2 = .local → y.1 ∉ N
  par : ∀ y ∈ ps, scope.names.lookup y = some .local
  free : ∀ y ∈ scope.names, y.2 = .free → sc.names.lookup y.1 = some .cell ∨ sc.names.lookup y.1 = some .free
def lamPB (N ps : List Str) (sc scope : Scope) : Bool :=
  decide (scope.kind = .function) && !scope.isCoroutine && !scope.isGenerator && (scope.names.all fun y => !decide (y.2 = .cell) && (!decide (y.2 = .local) || !decide (y.1 ∈ N)) && (!decide (y.2 = .free) || decide (sc.names.lookup y.1 = some .cell) || decide (sc.names.lookup y.1 = some .free))) && ps.all fun y => decide (scope.names.lookup y = some .local)
theorem lamP_by {N ps : List Str} {sc scope : Scope} (h : lamPB N ps sc scope = true) : LamP N ps sc scope := by
  unfold lamPB at h
  simp only [Bool.and_eq_true, Bool.or_eq_true, Bool.not_eq_true', decide_eq_true_eq, decide_eq_false_iff_not, List.all_eq_true] at h
  obtain ⟨⟨⟨⟨h1, h2⟩, h3⟩, h4⟩, h5⟩ := h
  refine ⟨h1, h2, h3, fun y hy => (h4 y hy).1.1, fun y hy e => ?_, h5, fun y hy e => ?_⟩
  · rcases (h4 y hy).1.2 with z | z
    · exact absurd e z
    · exact z
  · rcases (h4 y hy).2 with (z | z) | z
    · exact absurd e z
    · exact .inl z
    · exact .inr z
theorem LamP.has {ps : List Str} {scope : Scope} (L : LamP X.N ps X.env.scope scope) (ok : X.Ok) : ∀ y ∈ scope.names, y.2 = .free → ∃ c, X.env.cells.lookup y.1 = some c := fun y hy e => by
  rcases L.free y hy e with k | k
  · exact ok.has _ (.inl k)
  · exact ok.has _ (.inr k)
theorem lam_start3 {A : Around} {outer : List Env} {E : XK} {scope : Scope} {ps : List Str} {binds : List (Str × Value)} {f c' : Addr} {h₁ : Heap} {tk : Nat} (I : Inv X pins σ H s) (L : LamP X.N ps X.env.scope scope) (e0 : Env0 X.prog X.w X.K X.mg X.base A outer s1 HZ) (hd : A.handled = none)
    (un : Un (frs X.stack) [] H HZ s.heap s1.heap) (hns : h₁.Ns s1.heap.objs.size fun y => binds.reverse.lookup y) (kp : ∀ b o, s1.heap.get? b = some o → h₁.get? b = some o) :
    Inv (lamCx X A outer s1 HZ E scope f c') [] σ HZ { s1 with heap := h₁, toks := tk } := by
  have hfree := L.has I.ok
  have cm : ∀ {y c}, (cloFrom X.env.cells scope.names []).lookup y = some c → X.env.cells.lookup y = some c := fun {y c} e => by
    rcases cloFrom_mem (PySem.mem_of_lookup e) with hm | ⟨h1, h2⟩
    · cases hm
    · obtain ⟨c1, hc⟩ := hfree _ h1 rfl
      have hc : X.env.cells.lookup y = some c1 := hc
      have e2 : c = c1 := by
        rw [h2, hc] <;> rfl
      rw [e2]
      exact hc
  have look : ∀ {y}, scope.names.lookup y = some .free → ∃ c, (cloFrom X.env.cells scope.names []).lookup y = some c := fun {y} hl => by
    have hy : (y, NameKind.free) ∈ scope.names := PySem.mem_of_lookup hl
    exact mem_lookup (cloFrom_has (cells := X.env.cells) (acc := []) hy)
  have cellK : ∀ {c : Addr} {v : Option Value}, H c = none → s.heap.IsCell c v → h₁.IsCell c v := fun {c v} n ⟨o, ho, hd⟩ => by
    obtain ⟨sl, q⟩ := un.any ho n (by simp)
    exact ⟨_, kp _ _ q, hd⟩
  have noA : ∀ b : Addr, b ∉ (lamCx X A outer s1 HZ E scope f c').ex := fun b z => absurd (show b ∈ ([] : List Addr) from z) (by simp)
  refine ⟨⟨e0.mod, L.kind, rfl, rfl, Nat.le_refl _, fun y z c e1 e2 => I.ok.inj y z c (cm e1) (cm e2), fun y hy => ?_, fun y c z _ => ?_, fun _ => hd, Around.frames_deeper e0.frames, .inr ⟨rfl, rfl⟩, fun b z => absurd z (noA b), e0.bs, e0.bsz, fun b _ _ => noA b,
      fun b z => absurd z (noA b), e0.funs, e0.frf⟩,
    rfl, e0.bare, Un.kept kp, ⟨_, hns, fun i y v e1 e2 e3 => ?_⟩, fun y c e => ?_, e0.hok.fresh (Nat.le_refl _), fun y c e => ?_, fun q hq => absurd (show q ∈ ([] : List (Addr × Obj)) ++ [] from hq) (by simp), e0.hok.kept kp, I.len⟩
  · have hy : scope.names.lookup y = some .cell ∨ scope.names.lookup y = some .free := hy
    rcases hy with hy | hy
    · exact absurd rfl (L.cell _ (PySem.mem_of_lookup hy))
    · exact look hy
  · have z : false = true := z
    cases z
  · have e3 : Vis scope y := e3
    have e1 : X.N[i]? = some y := e1
    rcases e3 with k | k | k
    · exact absurd (List.mem_of_getElem? e1) (L.own _ (PySem.mem_of_lookup k) rfl)
    · exact absurd rfl (L.cell _ (PySem.mem_of_lookup k))
    · obtain ⟨m, hn, hl⟩ := I.loc
      have hvis : Vis X.env.scope y := (L.free _ (PySem.mem_of_lookup k) rfl).elim (fun k => .inr (.inl k)) (fun k => .inr (.inr k))
      obtain ⟨w', r, q⟩ := hl i y v e1 e2 hvis
      obtain ⟨c2, h2⟩ := look k
      refine ⟨w', r, .inr ⟨.inr k, c2, h2, ?_⟩⟩
      have c1 := cm h2
      rcases q with ⟨k', _⟩ | ⟨_, c3, e', z⟩
      · have k' : X.env.scope.names.lookup y = some .local := k'
        rcases L.free _ (PySem.mem_of_lookup k) rfl with k2 | k2 <;> rw [show X.env.scope.names.lookup y = _ from k2] at k' <;> cases k'
      · rw [c1] at e'
        cases e'
        exact cellK (I.freeC y _ c1) z
  · obtain ⟨w', z⟩ := I.cell y c (cm e)
    exact ⟨w', cellK (I.freeC y c (cm e)) z⟩
  · obtain ⟨v, o, ho, hd⟩ := I.cell y c (cm e)
    exact un.free c o ho (I.freeC y c (cm e)) (by simp)
/-- how the lambda's parameters are bound by its defaults alone -/
def BindD (params : Arguments) (body : Expr) (scope : Scope) (ps : List Str) (n : Nat) : Prop := ∀ (q : Str) (cl : List (Str × Addr)) (t : Addr) (doc pm cv ctv : Value),
  ∃ k, bindArgs (PySem.W.kdv_fn "<lambda>" q params (.expr body) scope cl (.ref t) doc pm cv ctv) ⟨[], []⟩ = seqItems? (.ref t) >>= k ∧ ∀ dv : List Value, dv.length = n → k (some dv.toArray) = pure (ps.zip dv)
theorem pe_act3 {CXg : CXT} {Eg : XK} {Ng : List Str} {qg : Str} {sg : Scope} {g f c' t : Addr} {cdg doc pm ctv : Value} {params : Arguments} {body : Expr} {scope : Scope} {ps : List Str} {dv : List Value} {k i : Nat} {a : Str} {pn : List (Addr × Obj)} {xe : Value → Shared → Prop} {W : WX} {E : XK} {tb : TE} {p1 p2 : Pos}
    (I : Inv X pins σ H s) (L : LamP X.N ps X.env.scope scope) (ht : s.heap.get? t = some (PySem.W.kdv_tup dv)) (htn : H t = none) (htr : t ∉ frs X.stack)
    (hf : s.heap.get? f = some (lamD (X.env.qual ++ "<lambda>") params body scope (cloFrom X.env.cells scope.names []) t doc pm c' ctv)) (hfn : H f = none) (hfr : f ∉ frs X.stack) (hbind : BindD params body scope ps dv.length)
    (tk : Takes ((cxOf CXg X.prog X.w X.K X.mg X.base Ng qg sg g cdg X.A X.stack s H Eg).tr pn xe) W) (hW : ∀ cls d σ' H', E cls d H' → W cls d σ' H') (hr : Room (k + 1) (X.A.deeper (envOfC qg sg s.heap.objs.size g cdg)))
    (hbody : ∀ (A : Around) (outer : List Env) (s : Shared) (H : Hp), Room k (A.deeper (lamEnv X scope s.heap.objs.size f c')) → PE (lamCx X A outer s H E scope f c') body tb)
    (hN : Ng[i]? = some a) (hv : Vis sg a) (hd : (a == ("__debug__" : Str)) = false := by decide) (hcd : (a == ("__classdict__" : Str)) = false := by decide) :
    PE ((cxOf CXg X.prog X.w X.K X.mg X.base Ng qg sg g cdg X.A X.stack s H Eg).tr pn xe) (.Call (.Name a p1) [] [] p2)
      (fun σZ HZ Q => σZ[i]? = some (some (.ref f)) ∧ HZ c' = some (CodeO c' (X.env.qual ++ "<lambda>")) ∧ tb σ HZ Q) := by
  refine ⟨fun pinsZ sZ σZ HZ Q IZ h => ?_⟩
  obtain ⟨hs, hc, hq0⟩ := h
  refine wpAny_Call_Name_kw (thn ((pe_var (pos := p1) (i := i) hN hv hd hcd).run pinsZ sZ σZ HZ (fun v H1 => v = .ref f ∧ H1 = HZ) IZ ⟨.ref f, hs, rfl, rfl⟩) fun u s1 ⟨v, H1, I1, r1, q1⟩ => ?_)
  obtain ⟨ev, eH⟩ := q1
  subst ev
  rw [eH] at I1
  obtain rfl : u = Value.ref f := r1
  have nx : ∀ b : Addr, b ∉ ([] : List Addr) := fun b z => nomatch z
  have of1 : s1.heap.get? f = some (lamD (X.env.qual ++ "<lambda>") params body scope (cloFrom X.env.cells scope.names []) t doc pm c' ctv) := I1.base.keep f _ hf hfn hfr (nx f)
  have ot1 : s1.heap.get? t = some (PySem.W.kdv_tup dv) := I1.base.keep t _ ht htn htr (nx t)
  refine PySem.W.callWith_F0 ⟨_, _, _, _, of1⟩ ?_
  have un : Un (frs X.stack) [] H HZ s.heap s1.heap := I1.base
  obtain ⟨⟨oc, vs, t0, hoc, hdc, hvc⟩, _, _⟩ := I1.hok c' _ hc
  obtain ⟨kk, hb1, hb2⟩ := hbind (X.env.qual ++ "<lambda>") (cloFrom X.env.cells scope.names []) t doc pm (.ref c') ctv
  have hb : BindsTo s1 (PySem.W.kdv_fn "<lambda>" (X.env.qual ++ "<lambda>") params (.expr body) scope (cloFrom X.env.cells scope.names []) (.ref t) doc pm (.ref c') ctv) ⟨[], []⟩ (ps.zip dv) := BindsTo.of_defaults rfl ot1 rfl hb1 (hb2 dv rfl)
  have rc : codeAny (model X.prog X.w) (X.A.deeper (envOfC qg sg s.heap.objs.size g cdg)) (.call (.ref f) ⟨[], []⟩) (CR (L2.CX X.prog X.w) (envOfC qg sg s.heap.objs.size g cdg :: X.stack) X.prog X.w HZ s1 Q E) s1 := by
    refine PySem.W.kla_callFunE hr.depth of1 rfl L.co L.gen rfl ⟨c', oc, vs, t0, rfl, hoc, hdc, hvc⟩ (hb _ _ _ _ ?_)
    refine wpAny_newFunctionEnv (fun y hy => L.cell y hy) (fun y hy => L.par _ (List.of_mem_zip hy).1) (fun h₁ hns hsb => ⟨I1.nolimit.fresh _ hsb, ?_⟩) L.kind
    show codeAny _ _ (.expr body (lamEnv X scope s1.heap.objs.size f c')) _ _
    have kp : ∀ b o, s1.heap.get? b = some o → h₁.get? b = some o := fun b o e => hsb.extBut b o (Nat.ne_of_lt (Heap.lt_size e)) (Heap.get?_push_of_some _ e)
    have J : Inv (lamCx X (X.A.deeper (envOfC qg sg s.heap.objs.size g cdg)) (envOfC qg sg s.heap.objs.size g cdg :: X.stack) s1 HZ E scope f c') [] σ HZ { s1 with heap := h₁, toks := s1.toks + (ps.zip dv).length } :=
      lam_start3 I L I1.env0 hr.hd un hns kp
    refine PySem.W.kla_codeExpr (wpAny_mono ((hbody _ _ s1 HZ (hr.deeper _)).run [] _ _ HZ Q J hq0) (fun v s' hq => ?_) fun e s' hq => hq)
    obtain ⟨w', H', J', rv, q⟩ := hq
    exact ⟨w', H', J'.os, J'.bare, J'.base, J'.hok, rv, q⟩
  have hx : Passes (L2.CX X.prog X.w) ((cxOf CXg X.prog X.w X.K X.mg X.base Ng qg sg g cdg X.A X.stack s H Eg).tr pn xe) E := passes_call tk hW
  refine wpAny_call (codeAny_mono rc fun r s' hq => ?_)
  cases r with
  | error e => exact hx pinsZ σZ HZ s1 e s' I1 hq
  | ok fl =>
    cases fl with
    | ret u => exact I1.after hq
    | next => exact False.elim hq
    | brk => exact False.elim hq
    | cont => exact False.elim hq
/-- x(lambda p = n, ..: body) -/
theorem pe_lamcallD {T : List (Addr × Str)} {TT : (XK → Hp → VK → Prop) → Hp → VK → Prop} {x a : Str} {g c P : Addr} {k : Nat} {pg : Arguments} {bg : List Stmt} {sg : Scope} {dV kV doc pm cdv ct oc : Value} {an od : Option Addr} {osl : Array (Option Value)} {Ng : List Str}
    {params : Arguments} {body : Expr} {scope : Scope} {ps : List Str} {ns : List Int} {t : XK → TE} {p lpos pos : Pos} (hg : Gl X x) (hm : X.mg x = some (.ref g)) (hk : PySem.W.keepIn X.K (.ref g) = true)
    (lk : X.K.lookup g = some ⟨oc, od, .func (PySem.W.fnOf x x pg bg sg dV kV doc pm an cdv ct), osl⟩) (hcg : PySem.W.codeIn X.K cdv x = true) (hb : L2.Binds X.K (PySem.W.fnOf x x pg bg sg dV kV doc pm an cdv ct) [a] []) (Sg : FnScope Ng [a] sg) (hNg : Ng[0]? = some a) (hva : Vis sg a)
    (hG : GivesTo X Ng x sg g cdv bg a (X.env.qual ++ "<lambda>") TT)
    (TB : TabB X.base X.mg c P) (hcode : X.env.code = .ref c) (hmT : (P, X.env.qual ++ "<lambda>") ∈ T) (hu : ∀ p ∈ T, p.1 = P → p.2 = X.env.qual ++ "<lambda>") (hr : Room (k + 2) X.A) (L : LamP X.N ps X.env.scope scope)
    (hne : params.defaults.isEmpty = false) (hns : ns ≠ []) (hnz : ns.length ≤ 100) (hdef : DefV params X.env (model X.prog X.w) X.A ns) (hbind : BindD params body scope ps ns.length)
    (hbody : ∀ (A : Around) (outer : List Env) (s : Shared) (H : Hp) (E : XK) (f c' : Addr), Room k (A.deeper (lamEnv X scope s.heap.objs.size f c')) → PE (lamCx X A outer s H E scope f c') body (t E))
    (hdb : (x == ("__debug__" : Str)) = false := by decide) (hd : (a == ("__debug__" : Str)) = false := by decide) (hcd : (a == ("__classdict__" : Str)) = false := by decide) :
    PE X (.Call (.Name x p) [.Lambda params body scope lpos] [] pos) (LamX.tLam T TT t) := by
  refine ⟨fun pins s σ H Q I h => ?_⟩
  obtain ⟨hT, h⟩ := h
  refine wpAny_Call_Name_kw (ld_glob I hg hm ?_ hdb)
  refine PySem.W.callWith_K (h₀ := X.base) I.ok.mod.kin hk ?_ (by rfl) (by rfl)
  show wpAny _ _ (spliced ((false, eval (.Lambda params body scope lpos) X.env) :: backTo pos (starEach [] X.env))) _ _ s
  refine Calls.spliced_cons (lam_make3 I TB hcode hmT hu hT hne hns hnz hdef (L.has I.ok) fun f c' td dv doc' pm' ctv H1 s' I1 eN T1 hi htd htn htr hf hfn hfr hco => ?_)
  refine Calls.spliced_nil ⟨I1.kIn, ?_⟩
  have hl : dv.length = ns.length := hi.length
  have rc : codeAny (model X.prog X.w) X.A (.call (.ref g) ⟨[.ref f], []⟩) (CR C8.CX0 X.stack X.prog X.w H1 s' Q C8.E0) s' := by
    refine run_ofS (N := Ng) (ps := [a]) (us := [.ref f]) (vs := [.ref f]) lk hcg Sg hr I1.env0 (hb s' [.ref f] I1.kIn rfl) (.cons rfl .nil) rfl fun hr' => ?_
    obtain ⟨t', ht', hq'⟩ := hG f c' s' H1 Q (fun E H' Q' => t E σ H' Q') (fun W pn xe E p1 p2 tk hW => pe_act3 (i := 0) I1 L htd htn htr hf hfn hfr (by rw [hl]; exact hbind) tk hW hr' (fun A outer s H hr2 => hbody A outer s H E f c' hr2) hNg hva hd hcd) hco (h H1 eN T1)
    exact ⟨t', ht'.nox, hq'⟩
  refine wpAny_call (codeAny_mono rc fun r s2 hq => ?_)
  cases r with
  | error e => exact (show False from hq).elim
  | ok fl =>
    cases fl with
    | ret u => exact I1.after hq
    | next => exact False.elim hq
    | brk => exact False.elim hq
    | cont => exact False.elim hq
/-- one default, a written int -/
theorem defV_one {params : Arguments} {env : Env} {M : Model} {A : Around} {n : Int} {j : Nat} {q : Pos} (hk : params.kw_defaults = []) (hd : params.defaults = [.Constant (.int n) j q]) : DefV params env M A [n] := by
  refine ⟨hk, fun s Q E h => ?_⟩
  rw [hd]
  exact PySem.W.kdv_all1 (wpAny_Constant_int (PySem.W.kdv_all0 (h [_] _ (.cons _ _ .nil))))
end
end Gs

set_option Elab.async false
set_option linter.all false
set_option maxRecDepth 100000
set_option maxHeartbeats 4000000
/-! Layer G19: sorted(xs, key=lambda p: p.f) of instances of an own class whose field is a text. -/
namespace Gs
open PySem PySem.Spec PyProof.Rows L2
open LamX (Tabs TabB TabS CodeO ExtN inv_table among_app codeO_ne)
/-- the lambda's call: the field -/
theorem key_call {prog : Program} {w : World} {A : Around} {s : Shared} {K : PySem.W.Frag} {f c' x C dx : Addr} {mA : Str → Option Value} {z q p fld : Str} {t : Tok} {params : Arguments} {scope : Scope} {pm ctv : Value} {q1 q2 : Pos}
    (hroom : A.depth < recursionLimit) (X : K.In s.heap) (hf : s.heap.get? f = some (PySem.W.kla_obj "<lambda>" q params (.Attribute (.Name p q1) fld q2) scope [] pm c' ctv)) (hk : scope.kind = .function) (hco : scope.isCoroutine = false) (hgen : scope.isGenerator = false)
    (hcell : ∀ y ∈ scope.names, y.2 ≠ .cell) (hpar : scope.names.lookup p = some .local) (hcd : ∃ (oc : Obj) (vs : Array Value) (t : Tok), s.heap.get? c' = some oc ∧ oc.data = .fields vs ∧ vs[1]? = some (.str q t))
    (hbind : bindArgs (PySem.W.kla_fn "<lambda>" q params (.Attribute (.Name p q1) fld q2) scope [] pm (.ref c') ctv) ⟨[.ref x], []⟩ = pure [(p, .ref x)]) (hlim : s.heap.NoLimit) (hdb : (p == ("__debug__" : Str)) = false)
    (O : ObjM s.heap x dx C mA) (c : Cls K C) (n : NoAttr K C fld) (hu : mA fld = some (.str z t)) :
    wpAny (model prog w) A (call (.ref f) [.ref x]) (PySem.W.KeyPure (.str z) s) (fun _ _ => False) s := by
  obtain ⟨oc, vs, t0, hoc, hdc, hvc⟩ := hcd
  refine wpAny_call (PySem.W.kla_callFunE hroom hf rfl hco hgen rfl ⟨c', oc, vs, t0, rfl, hoc, hdc, hvc⟩ ?_)
  rw [hbind]
  refine wpAny_pure (wpAny_newFunctionEnv hcell (fun y hy => by rw [List.mem_singleton.mp hy]; exact hpar) (fun h₁ hns hsb => ⟨hlim.fresh _ hsb, ?_⟩) hk)
  have kp : ∀ b o, s.heap.get? b = some o → h₁.get? b = some o := fun b o e => hsb.extBut b o (Nat.ne_of_lt (Heap.lt_size e)) (Heap.get?_push_of_some _ e)
  show codeAny _ _ (.expr _ (PySem.W.envX q scope s.heap.objs.size f (.ref c') [])) _ _
  refine PySem.W.kla_codeExpr (attr_of rfl (wpAny_Name (wpAny_loadName_local (v := .ref x) hk hpar hns (by simp [List.lookup]) ?_) hdb))
  obtain ⟨ob, hn1, ne⟩ := O
  refine get_map (X.keeps kp) ⟨kp _ _ ob, hn1.at fun o e => kp _ _ e, ne⟩ (c.get fld) c.hd n hu rfl ?_
  exact ⟨h₁, _, rfl, kp, .str z t⟩
/-- a lambda as a value: nothing captured, no defaults -/
def lamF (f c' : Addr) (q : Str) (params : Arguments) (body : Expr) (scope : Scope) : HO := .ext fun h => ∃ pm ctv : Value, h.get? f = some (PySem.W.kla_obj "<lambda>" q params body scope [] pm c' ctv)
def tLamV (T : List (Addr × Str)) (q : Str) (params : Arguments) (body : Expr) (scope : Scope) : TE := fun σ H Q => Tabs T H ∧ ∀ f c' H1, ExtN H H1 → Tabs T H1 → H1 f = none → H1 c' = some (CodeO c' q) → Q (.ref f) (upd H1 f (lamF f c' q params body scope))
section
variable {X : Cx} {pins : List (Addr × Obj)} {σ : L2.St} {H : Hp} {s : Shared}
/-- a new object of the heap that nothing knew is tracked -/
theorem inv_note {s0 : Shared} {H0 : Hp} {a : Addr} {ob : Obj} {u : HO} (I0 : Inv X pins σ H0 s0) (hx : X.ex = []) (ha : s0.heap.objs.size ≤ a) (I : Inv X pins σ H s) (e : s.heap.get? a = some ob) (hn : H a = none) (hf : a ∉ frs X.stack) (hc : ∀ v, ob.data ≠ .cell v)
    (ok : ObjOk X.prog X.w (upd H a u) s.heap a u) : Inv X pins σ (upd H a u) s := by
  have out : ∀ {b : Addr} {o : Obj}, s0.heap.get? b = some o → b ≠ a := fun {b o} z => Nat.ne_of_lt (Nat.lt_of_lt_of_le (Heap.lt_size z) ha)
  have n0 : X.s_0.heap.get? a = none := by
    cases q : X.s_0.heap.get? a with
    | none => rfl
    | some o =>
      obtain ⟨o', z⟩ := I0.base.there a o q (by rw [hx]; exact List.not_mem_nil)
      exact absurd rfl (out z)
  have np : ∀ p ∈ X.pn ++ pins, p.1 ≠ a := fun p hp => out (I0.pin p hp).1
  have nL : a ≠ X.env.locals := fun z => by
    have := I0.lt
    rw [← z] at this
    exact absurd (Nat.lt_of_lt_of_le this ha) (Nat.lt_irrefl _)
  refine inv_track (ob := ob) (I.pins_of (pins' := (a, ob) :: pins) fun p hp => ?_) hx n0 np ok
  rcases List.mem_cons.mp hp with z | z
  · subst z
    exact ⟨e, hn, nL, I0.nofs ha, hc⟩
  · exact I.pin p (List.mem_append_right _ z)
theorem pe_lamV {T : List (Addr × Str)} {c P : Addr} {params : Arguments} {body : Expr} {scope : Scope} {pos : Pos} (hx : X.ex = []) (TB : TabB X.base X.mg c P) (hcode : X.env.code = .ref c)
    (hm : (P, X.env.qual ++ "<lambda>") ∈ T) (hu : ∀ p ∈ T, p.1 = P → p.2 = X.env.qual ++ "<lambda>") (hdef : defaultsOf params X.env = ([], [])) (hfree : ∀ y ∈ scope.names, y.2 ≠ .free) :
    PE X (.Lambda params body scope pos) (tLamV T (X.env.qual ++ "<lambda>") params body scope) := by
  refine ⟨fun pins s σ H Q I h => ?_⟩
  obtain ⟨hT, h⟩ := h
  have clo : cloFrom X.env.cells scope.names [] = [] := by
    cases e : cloFrom X.env.cells scope.names [] with
    | nil => rfl
    | cons y l =>
      have hy : y ∈ cloFrom X.env.cells scope.names [] := by rw [e]; exact List.mem_cons_self
      rcases cloFrom_mem (show (y.1, y.2) ∈ _ from hy) with z | ⟨z, _⟩
      · cases z
      · exact absurd rfl (hfree _ z)
  obtain ⟨ps, hP, ht, ha⟩ := hT _ hm
  refine PySem.W.kla_eval hdef ?_
  have bP : s.heap.BuiltinsAt X.mg P := TB.bm.keeps I.bk
  have hP' : s.heap.get? P = some { cls := .none, data := .fields ps } := I.hok P _ hP
  have nofr : ∀ f, s.heap.objs.size ≤ f → f ∉ frs X.stack := fun f hf z => by
    rcases List.mem_cons.mp (I.stkSub _ z) with e | e
    · have h1 := I.lt
      rw [← e] at h1
      exact Nat.lt_irrefl _ (Nat.lt_of_lt_of_le h1 hf)
    · exact I.nofs hf e
  have hfr : ∀ y ∈ scope.names, y.2 = .free → ∃ c, X.env.cells.lookup y.1 = some c := fun y hy e => absurd e (hfree y hy)
  have fin : ∀ {H1 : Hp} {s' : Shared} {f c' : Addr} {pm ctv : Value}, s.heap.objs.size ≤ f → Inv X pins σ H1 s' → ExtN H H1 → Tabs T H1 → s'.heap.get? f = some (PySem.W.kla_obj "<lambda>" (X.env.qual ++ "<lambda>") params body scope [] pm c' ctv) → H1 f = none → H1 c' = some (CodeO c' (X.env.qual ++ "<lambda>")) →
      EP X pins σ Q (.ref f) s' := fun {H1 s' f c' pm ctv} hf I1 eN T1 e n hc => by
    refine ⟨.ref f, _, inv_note (u := lamF f c' (X.env.qual ++ "<lambda>") params body scope) I hx hf I1 e n (nofr _ hf) (fun v z => nomatch z) ⟨⟨pm, ctv, e⟩, ⟨_, e⟩, fun h1 h2 ⟨a, b, z⟩ k => ⟨a, b, k _ z⟩⟩, rfl, h f c' H1 eN T1 n hc⟩
  cases hc : codeAmong pos ps.toList with
  | none =>
    refine PySem.W.kla_makeFunction (mg := X.mg) (c := c) (P := P) (ps := ps) (closure_ok hfr) I.ok.glob (I.mod.glob.keeps I.bk) hcode (TB.code.keeps I.bk) hP' ht hc TB.gP bP fun c' ctv h' tk hx' hge hlt hrec htb => ?_
    obtain ⟨c2, oc, vs, t, e2, hoc, hd, hv⟩ := hrec
    cases e2
    have hsz : s.heap.objs.size ≤ h'.objs.size := Nat.le_trans hge (Nat.le_of_lt hlt)
    have nC : H c' = none := I.hok.fresh hge
    rw [clo]
    have I1 := inv_table (t' := tk) (more := #[rawInt pos.line, rawInt pos.col, .ref c']) (h' := h'.push (PySem.W.kla_obj "<lambda>" (X.env.qual ++ "<lambda>") params body scope [] ((X.mg "__name__").getD .none) c' ctv)) I hP
      (fun b o hb e => Heap.get?_push_of_some _ (hx' b o hb e)) (Heap.get?_push_of_some _ htb) hge ⟨oc, vs, t, Heap.get?_push_of_some _ hoc, hd, hv⟩
    have hE : ExtN H (upd (upd H P (.tbl (ps ++ #[rawInt pos.line, rawInt pos.col, .ref c']))) c' (CodeO c' (X.env.qual ++ "<lambda>"))) := fun b o e n => by
      rw [upd_ne (ne_of_none e nC), upd_ne (fun z => n ps (Option.some.inj (e.symm.trans (by rw [z]; exact hP))))]
      exact e
    have eL : (ps ++ #[rawInt pos.line, rawInt pos.col, .ref c']).toList = ps.toList ++ [rawInt pos.line, rawInt pos.col, .ref c'] := by simp
    refine fin hsz I1 hE (fun p hp => ?_) (Heap.get?_push_size _ rfl) ?_ upd_same
    · by_cases hb : p.1 = P
      · rw [hu p hp hb, hb]
        refine ⟨_, by rw [upd_ne (ne_of_none hP nC), upd_same], by rw [eL]; exact PySem.TriplesOk_snoc _ _ _ _ ht, fun p' cv hcv => ?_⟩
        rw [eL] at hcv
        rcases among_app _ ht hcv with z | z
        · obtain ⟨c0, e1, e2⟩ := ha p' cv z
          exact ⟨c0, e1, hE _ _ e2 codeO_ne⟩
        · exact ⟨c', z, upd_same⟩
      · obtain ⟨ps', a1, a2, a3⟩ := hT p hp
        refine ⟨ps', by rw [upd_ne (ne_of_none a1 nC), upd_ne hb]; exact a1, a2, fun p' cv hcv => ?_⟩
        obtain ⟨c0, e1, e2⟩ := a3 p' cv hcv
        exact ⟨c0, e1, hE _ _ e2 codeO_ne⟩
    · have n1 : h'.objs.size ≠ c' := Nat.ne_of_gt hlt
      have n2 : h'.objs.size ≠ P := Nat.ne_of_gt (Nat.lt_of_lt_of_le (Heap.lt_size hP') hsz)
      rw [upd_ne n1, upd_ne n2]
      exact I.hok.fresh hsz
  | some cv =>
    obtain ⟨c', e, hco⟩ := ha pos cv hc
    subst e
    refine PySem.W.kla_makeFunctionHit (mg := X.mg) (c := c) (P := P) (ps := ps) (closure_ok hfr) I.ok.glob (I.mod.glob.keeps I.bk) hcode (TB.code.keeps I.bk) hP' ht hc bP fun ctv h' tk hx' hsz => ?_
    rw [clo]
    have I1 : Inv X pins σ H { s with heap := h'.push (PySem.W.kla_obj "<lambda>" (X.env.qual ++ "<lambda>") params body scope [] ((X.mg "__name__").getD .none) c' ctv), toks := tk } := I.kept fun b o e => Heap.get?_push_of_some _ (hx' b o e)
    exact fin hsz I1 (ExtN.refl H) hT (Heap.get?_push_size _ rfl) (I.hok.fresh hsz) hco
/-- items by their texts, ascending -/
def sortF (bs : List (Addr × Str)) : List (Addr × Str) := bs.mergeSort (PySem.W.dataLe false fun b => PyData.str b.2)
/-- what the lambda's scope must be -/
structure KeyS (params : Arguments) (p fld : Str) (q1 q2 : Pos) (scope : Scope) : Prop where
  kind : scope.kind = .function
  co : scope.isCoroutine = false
  gen : scope.isGenerator = false
  cell : ∀ y ∈ scope.names, y.2 ≠ .cell
  par : scope.names.lookup p = some .local
  bind : ∀ (q : Str) (pm c' ctv x : Value), bindArgs (PySem.W.kla_fn "<lambda>" q params (.Attribute (.Name p q1) fld q2) scope [] pm c' ctv) ⟨[x], []⟩ = pure [(p, x)]
  dbg : (p == ("__debug__" : Str)) = false
def rSortF (K : PySem.W.Frag) (q : Str) (params : Arguments) (p fld : Str) (q1 q2 : Pos) (scope : Scope) : List V → List V → Hp → VK → Prop := fun xs zs H Q => ∃ (l f c' : Addr) (bs : List (Addr × Str)), xs = [.ref l] ∧ zs = [.ref f] ∧ SqL K H l (bs.map fun b => .ref b.1) ∧
  (∀ b ∈ bs, ∃ C dx fs, H b.1 = some (.ins C dx fs) ∧ Cls K C ∧ NoAttr K C fld ∧ fs.lookup fld = some (.str b.2)) ∧ H f = some (lamF f c' q params (.Attribute (.Name p q1) fld q2) scope) ∧ H c' = some (CodeO c' q) ∧
  ∀ P, H P = none → Q (.ref P) (upd H P (.lst ((sortF bs).map fun b => .ref b.1)))
theorem each_refs : ∀ {bs : List (Addr × Str)} {us : List Value}, Vals (bs.map fun b => V.ref b.1) us → PySem.W.EachIs (fun (v : Value) (b : Addr × Str) => v = .ref b.1) us bs
  | [], _, h => by cases h; exact .nil
  | b :: bs, _, h => by
    cases h with
    | cons r t => exact .cons r (each_refs t)
theorem vals_refs : ∀ {bs : List (Addr × Str)} {us : List Value}, PySem.W.EachIs (fun (v : Value) (b : Addr × Str) => v = .ref b.1) us bs → Vals (bs.map fun b => V.ref b.1) us
  | [], _, h => by cases h; exact .nil
  | b :: bs, _, h => by
    cases h with
    | cons r t => exact .cons r (vals_refs t)
theorem cr_sortF {q p fld : Str} {params : Arguments} {q1 q2 : Pos} {scope : Scope} (hr : Room 3 X.A) (Z : KeyS params p fld q1 q2 scope) : CallRK X (.builtin "sorted") ["key"] (rSortF X.K q params p fld q1 q2 scope) := by
  intro pins s σ H xs zs us ws Q I r rz h
  obtain ⟨l, f, c', bs, rfl, rfl, hS, hb, hF, hC, k⟩ := h
  obtain ⟨u, rfl, ru⟩ := r.one
  obtain ⟨w', rfl, rw'⟩ := rz.one
  cases (show u = Value.ref l from ru)
  cases (show w' = Value.ref f from rw')
  obtain ⟨its, rv, hl, hz⟩ := I.list hS
  have lb : its.length = bs.length := by rw [← rv.length, List.length_map]
  obtain ⟨⟨pm, ctv, hf⟩, _, _⟩ := (show ObjOk X.prog X.w H s.heap f (lamF f c' q params (.Attribute (.Name p q1) fld q2) scope) from I.hok f _ hF)
  obtain ⟨⟨oc, vs, t, hoc, hd, hv⟩, _, _⟩ := (show ObjOk X.prog X.w H s.heap c' (CodeO c' q) from I.hok c' _ hC)
  have un := hr.units
  refine PySem.W.sorted_key_data (β := Addr × Str) (R := fun v b => v = .ref b.1) (b := false) (fun b => PyData.str b.2) hl.isList (each_refs rv) (fun d hd d' hd' => ?_) (.inr fun d hd => ?_) (by rw [← lb]; rw [← rv.length]; exact hz)
    (fun x _ => by show X.A.units + 2 + 0 < cLine; omega) (ksk_s1 _ _) (fun x => ksk_l1 _ _) (fun x => ksk_t1 _ _) (fun v x hR hx h tk kp => ?_) (fun out c h' tk kp fresh hD hlen he => ?_)
  · obtain ⟨x, _, rfl⟩ := List.mem_map.mp hd
    obtain ⟨y, _, rfl⟩ := List.mem_map.mp hd'
    rfl
  · obtain ⟨x, _, rfl⟩ := List.mem_map.mp hd
    exact ⟨(fun z => nomatch z), (fun xs z => nomatch z)⟩
  · subst hR
    obtain ⟨C, dx, fs, e, cl, na, lf⟩ := hb x hx
    obtain ⟨mA, ⟨ob, hn1, ne⟩, rel, _⟩ := ins_get I.hok e
    obtain ⟨u, hu, ru⟩ := RelO.some_of (v := .str x.2) (o := mA fld) (by rw [← lf]; exact rel fld)
    obtain ⟨t2, rfl⟩ := ru
    refine key_call (s := { s with heap := h, toks := tk }) hr.in1.in1.depth (I.kIn.keeps kp) (kp _ _ hf) Z.kind Z.co Z.gen Z.cell Z.par ⟨oc, vs, t, kp _ _ hoc, hd, hv⟩ (Z.bind _ _ _ _ _) (I.nolimit.keeps kp) Z.dbg ⟨kp _ _ ob, hn1.at fun o z => kp _ _ z, ne⟩ cl na hu
  · have hlen2 : (sortF bs).length = bs.length := by unfold sortF; exact List.length_mergeSort _
    refine ⟨.ref _, upd H (s.heap.objs.size + 1) (.lst ((sortF bs).map fun b => .ref b.1)), I.laid (t' := tk) kp (Nat.le_succ _) ⟨?_, out, c, vals_refs he, hD⟩, rfl, k _ (I.hok.fresh (Nat.le_succ _))⟩
    rw [List.length_map, hlen2, ← lb, ← rv.length]; exact hz
end
end Gs

set_option Elab.async false
set_option linter.all false
set_option maxRecDepth 100000
set_option maxHeartbeats 4000000
namespace Gs
open PySem PySem.Spec PyProof.Rows L2
theorem tabs_none2 {P Q : Addr} {p q : Str} {H : Hp} (h : H P = some (.tbl #[])) (h2 : H Q = some (.tbl #[])) : LamX.Tabs [(P, p), (Q, q)] H := fun r hr => by
  simp only [List.mem_cons, List.not_mem_nil, or_false] at hr
  rcases hr with rfl | rfl
  · exact LamX.TabS.nil h
  · exact LamX.TabS.nil h2
section
variable {P : Program} {w : World} {K : PySem.W.Frag} {mg mb : Str → Option Value} {CX : CXT} {k : Nat} {fa a cc T cc2 T2 : Addr} {fd : FuncData} {x : Str} {sp : Sp}
  {s₁ : Shared} {vs : List Value} {ns : List Int}
/-- the law's call where two code objects have empty tables -/
theorem law_callGT2 (KX : K.In s₁.heap) (hns : s₁.heap.Ns mainGlobals mg) (hb : s₁.heap.Ns builtinsNs mb) (hbb : ∀ x : Str, x ≠ "__name__" → mb x = bootBuiltins x)
    (hlim : s₁.heap.NoLimit) (hg : s₁.gens = #[]) (hT : s₁.heap.get? T = some { cls := .none, data := .fields #[] }) (nT : K.lookup T = none) (C : PySem.W.CodeHd s₁.heap cc T)
    (hT2 : s₁.heap.get? T2 = some { cls := .none, data := .fields #[] }) (nT2 : K.lookup T2 = none) (C2 : PySem.W.CodeHd s₁.heap cc2 T2)
    (hbm : ∃ (bm : Addr) (ob : Obj), mg "__builtins__" = some (.ref bm) ∧ bm ≠ builtinsNs ∧ s₁.heap.get? bm = some ob ∧ ob.cls = .type "module" ∧ ob.dict = some builtinsNs ∧ ob.data = .plain)
    (ha : s₁.heap.get? a = some { cls := .type "list", data := .seq vs.toArray }) (hi : IntsAre vs ns) (hl : ns.length ≤ sizeLine)
    (hr : Room k callerA) (F : ∀ base : Heap, K.In base → base.Ns mainGlobals mg → LamX.TabB base mg cc T → LamX.TabB base mg cc2 T2 → FnG P w K mg base CX k fa fd [x] sp)
    (hbind : ∀ (s : Shared) (u : Value), BindsTo s fd ⟨[u], []⟩ [(x, u)])
    (hsp : ∀ H : Hp, H T = some (.tbl #[]) → H T2 = some (.tbl #[]) → SqL K H a (ns.map V.int) → sp [.ref a] H (fun v _ => v = .bl true) fun _ _ _ => False)
    (hCX : ∀ H e s', CX [] H s₁ (fun _ _ _ => False) e s' → False) :
    codeAny (model P w) callerA (.call (.ref fa) ⟨[.ref a], []⟩)
      (fun r s' => r = .ok (.ret (.bool true)) ∧ OldK s₁.heap s'.heap ∧ s'.os = s₁.os ∧ AllBare s'.gens) s₁ := by
  have rv := vals_ints hi
  have nV := hi.length
  have aT : a ≠ T := fun z => by rw [z, hT] at ha; cases ha
  have aT2 : a ≠ T2 := fun z => by rw [z, hT2] at ha; cases ha
  -- H knows the table, and perhaps the script, which is frozen
  have go : ∀ H : Hp, (∀ b, H b = none ∨ (b = a ∧ K.lookup b = none ∧ ∃ o ys, H b = some (.frz o (.lst ys))) ∨ b = T ∨ b = T2) → H T = some (.tbl #[]) → H T2 = some (.tbl #[]) → SqL K H a (ns.map V.int) → HOk P w H s₁.heap →
      codeAny (model P w) callerA (.call (.ref fa) ⟨[.ref a], []⟩)
        (fun r s' => r = .ok (.ret (.bool true)) ∧ OldK s₁.heap s'.heap ∧ s'.os = s₁.os ∧ AllBare s'.gens) s₁ := by
    intro H hO hHT hHT2 hS hok
    have unk : ∀ {b : Addr} {o : Obj}, s₁.heap.get? b = some o → o.data ≠ .seq vs.toArray → o.data ≠ .fields #[] → H b = none := by
      intro b o e nd nf
      rcases hO b with q | ⟨q, _, _⟩ | q | q
      · exact q
      · rw [q, ha] at e; cases e; exact absurd rfl nd
      · rw [q, hT] at e; cases e; exact absurd rfl nf
      · rw [q, hT2] at e; cases e; exact absurd rfl nf
    have hid : ∀ {b : Addr} {o : Obj}, s₁.heap.get? b = some o → o.data ≠ .seq vs.toArray → o.data ≠ .fields #[] → (hidT s₁.heap H).get? b = some o := fun e n1 n2 => hidT_get e (unk e n1 n2)
    have nsH : ∀ {b : Addr} {m : Str → Option Value}, s₁.heap.Ns b m → (hidT s₁.heap H).Ns b m := by
      rintro b m ⟨o, es, ep, e, d, r⟩
      exact ⟨o, es, ep, hid e (by rw [d]; exact fun z => nomatch z) (by rw [d]; exact fun z => nomatch z), d, r⟩
    have kH : K.In (hidT s₁.heap H) := by
      intro b o e
      refine hidT_get (KX b o e) ?_
      rcases hO b with q | ⟨_, q, _⟩ | q | q
      · exact q
      · rw [q] at e; cases e
      · rw [q, nT] at e; cases e
      · rw [q, nT2] at e; cases e
    have md : Mod K mg (hidT s₁.heap H) := by
      refine ⟨kH, nsH hns, ⟨mb, nsH hb, hbb⟩, ?_⟩
      obtain ⟨mc, h1, h2⟩ := hlim
      exact ⟨mc, nsH h1, h2⟩
    have e0 : Env0 P w K mg (hidT s₁.heap H) callerA [] s₁ H := by
      refine ⟨rfl, md, fun b o e => of_hidT e, Nat.le_of_eq (hidT_size _ _), trivial, ?_, hok, .of_eq hg⟩
      intro b hb
      exact absurd (show b ∈ ([] : List Addr) from hb) (List.not_mem_nil)
    have tbOf : ∀ (c0 t0 : Addr), s₁.heap.get? t0 = some { cls := .none, data := .fields #[] } → PySem.W.CodeHd s₁.heap c0 t0 → LamX.TabB (hidT s₁.heap H) mg c0 t0 := fun c0 t0 h0 C0 => by
      have ng0 : mainGlobals ≠ t0 := fun z => by
        obtain ⟨o, es, ep, e, d, _⟩ := hns
        rw [z, h0] at e; cases e; cases d
      refine ⟨?_, ?_, ng0⟩
      · obtain ⟨o, us, file, tf, flags, tg, inF, text, tt, e1, r1, r2, r3, rest⟩ := C0
        refine ⟨o, us, file, tf, flags, tg, inF, text, tt, hid e1 (by rw [r2]; exact fun z => nomatch z) (fun z => ?_), r1, r2, r3, rest⟩
        rw [r2] at z; cases z; simp at r3
      · obtain ⟨bm, ob, b1, b2, b3, b4, b5, b6⟩ := hbm
        refine ⟨bm, ob, b1, b2, fun z => ?_, fun z => ?_, hid b3 (by rw [b6]; exact fun z => nomatch z) (by rw [b6]; exact fun z => nomatch z), b4, b5, b6⟩
        · obtain ⟨o, es, ep, e, d, _⟩ := hns
          rw [z, e] at b3; cases b3
          rw [d] at b6; cases b6
        · rw [z, h0] at b3; cases b3; cases b6
    have run := (F _ kH (nsH hns) (tbOf _ _ hT C) (tbOf _ _ hT2 C2)).run callerA [] s₁ H ⟨[.ref a], []⟩ [.ref a] [.ref a] _ _ hr rfl e0 (hbind s₁ (.ref a)) (.cons rfl .nil) (hsp H hHT hHT2 hS)
    refine codeAny_mono run (fun r s' h => ?_)
    match r, h with
    | .error e, h => exact (hCX H e s' h).elim
    | .ok .next, h => exact h.elim
    | .ok .brk, h => exact h.elim
    | .ok .cont, h => exact h.elim
    | .ok (.ret u), h =>
      obtain ⟨v, H', os, bare, un, hok', r', q⟩ := h
      cases (show v = .bl true from q)
      cases (show u = Value.bool true from r')
      obtain ⟨more, hm⟩ := un.tbls T #[] hHT
      obtain ⟨more2, hm2⟩ := un.tbls T2 #[] hHT2
      have gT : s'.heap.get? T = some { cls := .none, data := .fields (#[] ++ more) } := hok' T _ hm
      have gT2 : s'.heap.get? T2 = some { cls := .none, data := .fields (#[] ++ more2) } := hok' T2 _ hm2
      have keep : ∀ b o, b ≠ T → b ≠ T2 → s₁.heap.get? b = some o → s'.heap.get? b = some o := fun b o nb nb2 e => by
        rcases hO b with q | ⟨_, _, ob, ys, q⟩ | q | q
        · exact un.keep b o e q (fun z => absurd (show b ∈ ([] : List Addr) from z) List.not_mem_nil) List.not_mem_nil
        · obtain ⟨e1, _⟩ := hok b _ q
          obtain ⟨e2, _⟩ := hok' b _ (un.frzs b ob _ q)
          rw [e] at e1; cases e1; exact e2
        · exact absurd q nb
        · exact absurd q nb2
      refine ⟨rfl, ⟨fun b o e => ?_, fun b o e => ?_⟩, os, bare⟩
      · by_cases nb : b = T
        · subst nb
          rw [hT] at e; cases e
          exact .inr (.inl ⟨(C.tab hT).isCodeTable, rfl, #[], more, rfl, gT⟩)
        · by_cases nb2 : b = T2
          · subst nb2
            rw [hT2] at e; cases e
            exact .inr (.inl ⟨(C2.tab hT2).isCodeTable, rfl, #[], more2, rfl, gT2⟩)
          · exact .inl (keep b o nb nb2 e)
      · by_cases nb : b = T
        · rw [nb]; exact ⟨_, gT⟩
        · by_cases nb2 : b = T2
          · rw [nb2]; exact ⟨_, gT2⟩
          · exact ⟨o, keep b o nb nb2 e⟩
  by_cases hk : K.lookup a = none
  · obtain ⟨F0, hF0⟩ : ∃ F0 : Hp, F0 = fun b => if b = T then some (HO.tbl #[]) else if b = T2 then some (HO.tbl #[]) else if b = a then some (HO.frz { cls := .type "list", data := .seq vs.toArray } (.lst (ns.map V.int))) else none := ⟨_, rfl⟩
    have at_T : F0 T = some (.tbl #[]) := by rw [hF0]; exact if_pos rfl
    have at_T2 : F0 T2 = some (.tbl #[]) := by
      rw [hF0]
      by_cases e : T2 = T
      · exact if_pos e
      · exact (if_neg e).trans (if_pos rfl)
    have at_a : F0 a = some (.frz { cls := .type "list", data := .seq vs.toArray } (.lst (ns.map V.int))) := by
      rw [hF0]; exact (if_neg aT).trans ((if_neg aT2).trans (if_pos rfl))
    refine go F0 (fun b => ?_) at_T at_T2 (.inl (.inr ⟨_, at_a⟩)) (fun b u z => ?_)
    · by_cases e : b = T
      · exact .inr (.inr (.inl e))
      · by_cases e3 : b = T2
        · exact .inr (.inr (.inr e3))
        · by_cases e2 : b = a
          · exact .inr (.inl ⟨e2, by rw [e2]; exact hk, _, _, by rw [e2]; exact at_a⟩)
          · exact .inl (by rw [hF0]; exact (if_neg e).trans ((if_neg e3).trans (if_neg e2)))
    · by_cases e : b = T
      · rw [e, at_T] at z; cases z; rw [e]; exact hT
      · by_cases e3 : b = T2
        · rw [e3, at_T2] at z; cases z; rw [e3]; exact hT2
        · by_cases e2 : b = a
          · rw [e2, at_a] at z; cases z; rw [e2]
            exact ⟨ha, by rw [List.length_map]; exact hl, vs, _, rv, ha⟩
          · rw [hF0] at z
            have z : (if b = T then some (HO.tbl #[]) else if b = T2 then some (HO.tbl #[]) else if b = a then some (HO.frz { cls := .type "list", data := .seq vs.toArray } (.lst (ns.map V.int))) else none) = some u := z
            rw [if_neg e, if_neg e3, if_neg e2] at z; cases z
  · obtain ⟨o, ho⟩ := Option.ne_none_iff_exists'.mp hk
    have e := KX a o ho
    rw [ha] at e; cases e
    obtain ⟨F0, hF0⟩ : ∃ F0 : Hp, F0 = fun b => if b = T then some (HO.tbl #[]) else if b = T2 then some (HO.tbl #[]) else none := ⟨_, rfl⟩
    have at_T : F0 T = some (.tbl #[]) := by rw [hF0]; exact if_pos rfl
    have at_T2 : F0 T2 = some (.tbl #[]) := by
      rw [hF0]
      by_cases e : T2 = T
      · exact if_pos e
      · exact (if_neg e).trans (if_pos rfl)
    refine go F0 (fun b => ?_) at_T at_T2 (.inr ⟨_, vs.toArray, _, ho, rfl, rfl, rfl, ?_, by simpa using rv⟩) (fun b u z => ?_)
    · by_cases e : b = T
      · exact .inr (.inr (.inl e))
      · by_cases e3 : b = T2
        · exact .inr (.inr (.inr e3))
        · exact .inl (by rw [hF0]; exact (if_neg e).trans (if_neg e3))
    · rw [List.size_toArray, nV]; exact hl
    · by_cases e : b = T
      · rw [e, at_T] at z; cases z; rw [e]; exact hT
      · by_cases e3 : b = T2
        · rw [e3, at_T2] at z; cases z; rw [e3]; exact hT2
        · rw [hF0] at z
          have z : (if b = T then some (HO.tbl #[]) else if b = T2 then some (HO.tbl #[]) else none) = some u := z
          rw [if_neg e, if_neg e3] at z; cases z
end
/-- what the head leaves, from the law's promise; two code objects have tables -/
theorem walkGT2 {l : PySem.W.OpenLaw} {k : Nat} {q : Program} {loose : List Str} {XP : (Str → Option Value) → Heap → Prop} {YP : World → Heap → Prop} {d : DefRec}
    {K : Params → PySem.W.Frag} {sp : PySem.W.Frag → Sp} {x : Str} {T T2 : Addr} (hn : l.most = some 63) (hdf : d.params.defaults = []) (hr : Room k callerA)
    (hY : ∀ (w : World) (h : Heap), YP w h → (K w.params).In h) (hT : ∀ (w : World) (h : Heap), YP w h → h.get? T = some { cls := .none, data := .fields #[] }) (hT2 : ∀ (w : World) (h : Heap), YP w h → h.get? T2 = some { cls := .none, data := .fields #[] })
    (F : ∀ (w : World) (mg : Str → Option Value) (fa : Addr) (h : Heap), (K w.params).In h → h.Ns mainGlobals mg → mg d.name = some (.ref fa) →
      ∃ (fd : FuncData) (cc cc2 : Addr), (∀ (s : Shared) (u : Value), BindsTo s fd ⟨[u], []⟩ [(x, u)]) ∧ (K w.params).lookup T = none ∧ PySem.W.codeHdIn (K w.params) cc T = true ∧ (K w.params).lookup T2 = none ∧ PySem.W.codeHdIn (K w.params) cc2 T2 = true ∧
        ∀ base : Heap, (K w.params).In base → base.Ns mainGlobals mg → LamX.TabB base mg cc T → LamX.TabB base mg cc2 T2 → FnG l.prog w (K w.params) mg base CX0 k fa fd [x] (sp (K w.params)))
    (hsp : ∀ (K : PySem.W.Frag) (H : Hp) (a : Addr) (ns : List Int), ns.length ≤ 63 → H T = some (.tbl #[]) → H T2 = some (.tbl #[]) → SqL K H a (ns.map V.int) → sp K [.ref a] H (fun v _ => v = .bl true) fun _ _ _ => False) :
    PySem.W.WalkO q loose XP YP l.row.toRowW d [] (fun f vs => PySem.call f vs) := by
  refine Att.attach_call hn hdf (fun w s₀ s₁ mg mb fa o pm cd doc a vs ns G Y ho hd hcd hmg hobj hints hlen hg => ?_)
  have KX := hY w _ Y
  obtain ⟨fd, cc, cc2, hb, nT, hc, nT2, hc2, hF⟩ := F w mg fa _ KX G.T.g hmg
  exact law_callGT2 KX G.T.g G.T.b G.T.builtins G.T.nolimit hg (hT w _ Y) nT (PySem.W.codeHd_of_K KX hc) (hT2 w _ Y) nT2 (PySem.W.codeHd_of_K KX hc2) G.T.bmain hobj hints (Nat.le_trans hlen (by decide)) hr hF hb (fun H hHT hHT2 hS => hsp _ H a ns hlen hHT hHT2 hS) (fun _ _ _ h => h)
end Gs

set_option Elab.async false
set_option linter.all false
set_option maxRecDepth 100000
set_option maxHeartbeats 4000000
/-! Layer G6: walks of set comprehensions; what the size of a set tells. -/
namespace Gs
open PySem PySem.Spec PyProof.Rows L2
theorem sc_it {P : Program} {w : World} {K : PySem.W.Frag} {α : Type} {Z : SetKd P w K α} {J : It} {n : Nat} {G : Hp → Prop} {Y : Nat → Hp → V → Hp → Prop} (wk : Walk J n G Y) {g : TG} {tt : TT} {te : TE} {vs : List Nat} {σ : L2.St} {H1 : Hp} {D : Addr} {Qd : Hp → Prop}
    (Pv : Nat → Hp → Prop) (h0 : Pv 0 (upd H1 D (Z.ob D Z.zero))) (hG : ∀ i H, i ≤ n → Pv i H → G H)
    (hs : ∀ i x H H', i < n → Pv i H → Y i H x H' → g x (wipe σ vs) H' fun σ2 H2 => wipe σ2 vs = wipe σ vs ∧ tt σ2 H2 fun b H3 => if b = true then te σ2 H3 fun y H4 => Z.adds D y H4 (Pv (i + 1)) else Pv (i + 1) H3)
    (hd : ∀ H, Pv n H → Qd H) :
    ∃ W : Nat → Nat → Hp → Prop, (∃ m, W 0 m (upd H1 D (Z.ob D Z.zero))) ∧ ∀ i m H, W i m H → (J.stop i H ∧ Qd H) ∨
      (J.go i H ∧ ∃ Nx : Hp → Prop, (∀ H', Nx H' → ∃ m', m' < m ∧ W (i + 1) m' H') ∧ ∀ x H', J.yld i H x H' → g x (wipe σ vs) H' fun σ2 H2 => wipe σ2 vs = wipe σ vs ∧ tt σ2 H2 fun b H3 => if b = true then te σ2 H3 fun y H4 => Z.adds D y H4 Nx else Nx H3) := by
  refine ⟨fun i m H => m = n - i ∧ i ≤ n ∧ Pv i H, ⟨n, (Nat.sub_zero n).symm, Nat.zero_le _, h0⟩, ?_⟩
  rintro i m H ⟨rfl, hi, p⟩
  have q := hG i H hi p
  rcases Nat.lt_or_ge i n with lt | ge
  · exact .inr ⟨wk.goes i H lt q, Pv (i + 1), fun H' p' => ⟨n - (i + 1), by omega, rfl, lt, p'⟩, fun x H' y => hs i x H H' lt p (wk.yields i H x H' lt q y)⟩
  · obtain rfl : i = n := Nat.le_antisymm hi ge
    exact .inl ⟨wk.stops H q, hd H p⟩
section
variable {α : Type} [DecidableEq α]
theorem nodup_le : ∀ (l D : List α), l.Nodup → (∀ x ∈ l, x ∈ D) → l.length ≤ D.length
  | [], _, _, _ => Nat.zero_le _
  | x :: l, D, hn, hs => by
    have hx : x ∈ D := hs x List.mem_cons_self
    have hn' := List.nodup_cons.mp hn
    have := nodup_le l (D.erase x) hn'.2 fun y hy => (List.mem_erase_of_ne (fun e : y = x => hn'.1 (e ▸ hy))).mpr (hs y (List.mem_cons_of_mem _ hy))
    have e := List.length_erase_of_mem hx
    have : 0 < D.length := List.length_pos_of_mem hx
    simp only [List.length_cons]
    omega
theorem dup_lt : ∀ (D : List α), ¬ D.Nodup → ∃ D' : List α, D'.length < D.length ∧ ∀ x ∈ D, x ∈ D'
  | [], h => absurd List.nodup_nil h
  | x :: D, h => by
    by_cases hx : x ∈ D
    · refine ⟨D, Nat.lt_succ_self _, fun y hy => ?_⟩
      rcases List.mem_cons.mp hy with e | hy
      · rw [e]; exact hx
      · exact hy
    · obtain ⟨D', h1, h2⟩ := dup_lt D fun hn => h (List.nodup_cons.mpr ⟨hx, hn⟩)
      refine ⟨x :: D', Nat.succ_lt_succ h1, fun y hy => ?_⟩
      rcases List.mem_cons.mp hy with e | hy
      · rw [e]; exact List.mem_cons_self
      · exact List.mem_cons_of_mem _ (h2 y hy)
/-- the members of D once each are as many as D if none stands twice in D -/
theorem size_tells {l D : List α} (hn : l.Nodup) (hm : ∀ x, x ∈ l ↔ x ∈ D) : decide ((l.length : Int) = (D.length : Int)) = decide D.Nodup := by
  refine decide_eq_decide.mpr ⟨fun e => ?_, fun e => ?_⟩
  · refine Decidable.byContradiction fun h => ?_
    obtain ⟨D', h1, h2⟩ := dup_lt D h
    have := nodup_le l D' hn fun x hx => h2 x ((hm x).mp hx)
    omega
  · have a := nodup_le l D hn fun x hx => (hm x).mp hx
    have b := nodup_le D l e fun x hx => (hm x).mpr hx
    omega
end
end Gs
theorem L2.Same.seqT {K : PySem.W.Frag} {H H' : L2.Hp} {a : PySem.Addr} {xs : List L2.V} (e : L2.Same H H') (h : L2.SqT K H a xs) : L2.SqT K H' a xs := by
  rcases h with (h | ⟨o, h⟩) | h
  · exact .inl (.inl (e _ _ h))
  · exact .inl (.inr ⟨o, e _ _ h⟩)
  · exact .inr h
namespace Gs
open PySem PySem.Spec PyProof.Rows L2
/-- a tuple stands while a set is changed -/
theorem seqT_set {P : Program} {w : World} {K : PySem.W.Frag} {H : Hp} {S b : Addr} {L : Tps} {o : HO} {zs : List V} (hS : H S = some (SetTO P w S L)) (h : SqT K H b zs) : SqT K (upd H S o) b zs := by
  rcases h with (h | ⟨q, h⟩) | h
  · refine .inl (.inl ?_)
    rw [upd_ne (fun e => by rw [e, hS] at h; cases h)]; exact h
  · refine .inl (.inr ⟨q, ?_⟩)
    rw [upd_ne (fun e => by rw [e, hS] at h; cases h)]; exact h
  · exact .inr h
end Gs

set_option Elab.async false
set_option linter.all false
set_option maxRecDepth 100000
set_option maxHeartbeats 4000000
/-! Layer G7: len(set(xs)), xs a list or a tuple of texts, any of them more than once. -/
namespace Gs
open PySem PySem.Spec PyProof.Rows
section
variable {prog : Program} {w : World} {A : Around} {R : Result → Shared → Prop} {I : Addr} {fp wr : List Addr} {G : Array GenState → Array GenState → Prop} {n : Nat} {P : Nat → Value → Prop} {St : Nat → Shared → Prop}
/-- the set at S holds the texts L -/
def TxS (prog : Program) (w : World) (h : Heap) (S : Addr) (xs L : List Str) : Prop := h.SetOf (PySem.strKind prog w) S (fun z => decide (z ∈ L)) L.length ∧ L.Nodup ∧ L.length ≤ xs.length ∧ ∀ z, z ∈ L ↔ z ∈ xs
theorem TxS.keeps {h h' : Heap} {S : Addr} {xs L : List Str} (t : TxS prog w h S xs L) (k : ∀ o, h.get? S = some o → h'.get? S = some o) : TxS prog w h' S xs L := by
  obtain ⟨⟨o, es, ep, tb, ho, rest⟩, q⟩ := t
  exact ⟨⟨o, es, ep, tb, k o ho, rest⟩, q⟩
theorem loop_tx (W : WalksS prog w A.in1 I fp wr G n P St) (S : Addr) (nS : S ∉ fp) (xs : List Str) (hx : xs.length = n) (val : ∀ i v, P i v → ∃ t, v = .str (xs.getD i Str.empty) t) (few : n + 1 < scanBound) :
    ∀ (k i : Nat) (s : Shared), n - i = k → i ≤ n → St i s → (∃ L, TxS prog w s.heap S (xs.take i) L) → (∀ s' L, Moved (S :: wr) G s s' → TxS prog w s'.heap S xs L → R (.ok (.ret .none)) s') →
      codeAny (model prog w) A (.builtin "set.update.loop" ⟨[.ref S, .ref I], []⟩) R s := by
  have nW : S ∉ wr := fun h => nS (W.sub _ h)
  have more : ∀ b ∈ wr, b ∈ S :: wr := fun b hb => .tail _ hb
  intro k
  induction k with
  | zero =>
    rintro i s hk hi st ⟨L, hL⟩ hR
    obtain rfl : i = n := by omega
    refine codeAny_builtin PyProof.Rows.F.entry_set_update_loop ?_
    rw [Around.under_plainId PyProof.Rows.F.plain_set_update_loop _]
    show wpAny _ A.in1 (pyNext (.ref I) >>= _) _ _ s
    refine wpAny_bind (W.done s _ _ st fun s' mv => ?_)
    show wpAny _ A.in1 (ret Value.none) _ _ s'
    rw [← hx, List.take_length] at hL
    exact wpAny_pure (hR s' L (mv.mono more) (hL.keeps fun o e => mv.heap S o nW e))
  | succ k ih =>
    rintro i s hk hi st ⟨L, hL⟩ hR
    have lt : i < n := by omega
    refine codeAny_builtin PyProof.Rows.F.entry_set_update_loop ?_
    rw [Around.under_plainId PyProof.Rows.F.plain_set_update_loop _]
    show wpAny _ A.in1 (pyNext (.ref I) >>= _) _ _ s
    refine wpAny_bind (W.item i s _ _ lt st fun v s' hP st' mv => ?_)
    obtain ⟨t, rfl⟩ := val i v hP
    obtain ⟨hS, nd, hl, hm⟩ := hL.keeps (h' := s'.heap) fun o e => mv.heap S o nW e
    generalize hz : xs.getD i Str.empty = z
    have hzi : xs[i]? = some z := by
      have e : xs[i]? = some xs[i] := List.getElem?_eq_getElem (by omega)
      rw [e, ← hz, List.getD_eq_getElem?_getD, e]; rfl
    have hli : L.length ≤ i := Nat.le_trans hl (List.length_take_le _ _)
    show wpAny _ A.in1 (holding [Value.str z t] (setAdd S (.str z t)) >>= _) _ _ s'
    refine wpAny_bind (wpAny_holding ?_)
    unfold setAdd
    refine wpAny_holding ?_
    refine wpAny_bind ((PySem.strKind prog w).pyHash (k := z) (strKind_is _ _ _ _) ?_)
    refine wpAny_setAddHashed_of (knd := PySem.strKind prog w) (s := { s' with toks := s'.toks + 1 }) (strKind_is _ _ _ _) rfl hS (by omega) fun h' same hS2 => ?_
    have next : ∃ L', TxS prog w h' S (xs.take (i + 1)) L' := by
      have mem : ∀ y, y ∈ xs.take (i + 1) ↔ y ∈ L ∨ y = z := fun y => by
        rw [List.take_add_one, hzi, List.mem_append, hm y]
        show _ ∨ y ∈ [z] ↔ _
        rw [List.mem_singleton]
      have len : (xs.take (i + 1)).length = i + 1 := by rw [List.length_take]; omega
      by_cases hin : z ∈ L
      · refine ⟨L, SetOf_congr hS2 (fun y => ?_) (by rw [if_pos (decide_eq_true hin)]), nd, by omega, fun y => ?_⟩
        · by_cases e : y = z
          · subst e; simp [hin]
          · simp [e]
        · rw [mem y]; exact ⟨.inl, fun h => h.elim id fun e => by rw [e]; exact hin⟩
      · refine ⟨L ++ [z], SetOf_congr hS2 (fun y => ?_) ?_, ?_, ?_, fun y => ?_⟩
        · by_cases e : y = z
          · subst e; simp
          · simp [e]
        · rw [if_neg (by simpa using hin), List.length_append]; rfl
        · rw [List.nodup_append]
          exact ⟨nd, by simp, fun a ha b hb e => hin (by rw [← List.mem_singleton.mp hb, ← e]; exact ha)⟩
        · rw [List.length_append, len]; exact Nat.succ_le_succ hli
        · rw [mem y, List.mem_append, List.mem_singleton]
    refine wpAny_pure ⟨plainId_quiet PyProof.Rows.F.plain_set_update_loop _, ih (i + 1) _ (by omega) lt (W.frame _ s' _ _ st' (Nat.le_succ _) fun b hb o e => ?_) next fun s2 L2 mv2 hL2 => ?_⟩
    · exact (same.2 b fun h : b = S => nS (by rw [← h]; exact hb)).trans e
    · exact hR s2 L2 (Moved.trans W.gtrans ((mv.mono more).then_heap (Nat.le_succ _) fun b o hb e => (same.2 b fun h : b = S => hb (by rw [h]; exact .head _)).trans e) mv2) hL2
end
/-- a new empty set -/
abbrev set0 (led : Bool) : Obj := { cls := .type "set", dict := none, data := .set #[] 0 (.fresh 0 0 led) }
section
variable {prog : Program} {w : World} {A : Around} {E : Value → Shared → Prop} {s : Shared}
set_option maxHeartbeats 4000000 in
theorem set_tx_list {l : Addr} {items : Array Value} {xs : List Str} {Q : Value → Shared → Prop} (hh : A.handled = none) (hl : s.heap.IsList l items) (hi : StrsAre items.toList xs) (few : xs.length + 1 < scanBound)
    (h : ∀ (h' : Heap) (tk : Nat) L, TxS prog w h' s.heap.objs.size xs L → (∀ b o, b < s.heap.objs.size → s.heap.get? b = some o → h'.get? b = some o) → Q (.ref s.heap.objs.size) { s with heap := h', toks := tk }) :
    wpAny (model prog w) A (call (.type "set") [.ref l]) Q E s := by
  obtain ⟨c, tl, hmro⟩ := PySem.F.called_set.mro
  have made := PySem.F.called_set.made
  have sub := PySem.F.called_set.sub
  have nt := PySem.F.called_set.notType
  have cc := PySem.F.called_set.canCreate
  have tc := PySem.F.typeCall_set_1 (.ref l)
  refine wpAny_call (codeAny_of_tree ?_)
  show wpAny _ _ (callAny (.type "set") _) _ _ _
  refine wpAny_pure ⟨Code.quiet_builtin _ (by decide +kernel), codeAny_builtin PySem.F.entry_type_call ?_⟩
  rw [Around.under_plain (weight_type_call_type "set" [.ref l] []) rfl]
  repeat (any_goals (first | assumption | wp_step))
  refine codeAny_mono (code_set_new_1 (.ref l) (E := E) (Q₁ := fun obj s₁ => ∃ led : Bool, obj = .ref s.heap.objs.size ∧ s₁ = { s with heap := s.heap.push (set0 led) }) fun led => ⟨led, rfl, rfl⟩) fun r s₁ hr => ?_
  cases r with
  | error e => exact hr
  | ok fl =>
    cases fl with
    | next => exact hr.elim
    | brk => exact hr.elim
    | cont => exact hr.elim
    | ret obj =>
      obtain ⟨led, rfl, rfl⟩ := hr
      have hS : (s.heap.push (set0 led)).get? s.heap.objs.size = some (set0 led) := Heap.get?_push_size _ rfl
      have hT : Shared.TypeIs { s with heap := s.heap.push (set0 led) } (.ref s.heap.objs.size) "set" := ⟨_, hS, rfl⟩
      have li := PySem.F.called_set.init.lookup
      have bi := PySem.F.called_set.init.bind (.ref s.heap.objs.size)
      repeat (any_goals (first | assumption | wp_step))
      refine codeAny_mono (codeAny_call_builtin (R := wants (fun r s₂ => r = .none ∧ ∃ h' tk L, s₂ = { s with heap := h', toks := tk } ∧ TxS prog w h' s.heap.objs.size xs L ∧ ∀ b o, b < s.heap.objs.size → s.heap.get? b = some o → h'.get? b = some o) E)
        PySem.F.called_set.init.plain PySem.F.entry_set_init (check_set_init_1 hT ?_)) fun r₂ s₂ hr₂ => ?_
      · obtain ⟨⟨ocls, odict, odata, oslots⟩, hol, hcl, nl, hdl⟩ := hl
        dsimp only at hcl hdl
        subst hcl hdl
        have hol' : (s.heap.push (set0 led)).get? l = some { cls := .type "list", dict := odict, data := .seq items nl, slots := oslots } := Heap.get?_push_of_some _ hol
        have s1 := PySem.F.sub_list_set
        have s2 := PySem.F.sub_list_frozenset
        have s3 : (Value.type "list" == Value.type "dict") = false := by decide
        have hl1 : (s.heap.push (set0 led)).IsList l items := ⟨_, hol', rfl, nl, rfl⟩
        unfold Builtin.«set.__init__» noKeywords Builtin.Frozenset.updateFrom
        generalize hPI : pyIter = PI
        wp_walk
        subst hPI
        refine wpAny_pyIter_list hl1 ?_
        refine wpAny_bind (wpAny_runValue ?_)
        have lS : l < s.heap.objs.size := Heap.lt_size hol
        have nI : l ≠ (s.heap.push (set0 led)).objs.size := by
          rw [Heap.size_push]
          exact Nat.ne_of_lt (Nat.lt_succ_of_lt lS)
        have nF : s.heap.objs.size ∉ [(s.heap.push (set0 led)).objs.size, l] := by
          rw [Heap.size_push, List.mem_cons, List.mem_singleton]
          rintro (e | e)
          · exact Nat.ne_of_lt (Nat.lt_succ_self _) e
          · exact Nat.ne_of_gt lS e
        have hx : xs.length = items.size := (Array.length_toList ▸ StrsAre.len_eq hi).symm
        refine loop_tx ((Walks.list (by simp [hh]) _ l nI items).toS) s.heap.objs.size nF xs hx (fun i v hv => SS.strs_at hi i v ((Array.getElem?_toList ..).trans hv)) (by omega) (items.size - 0) 0 _ (by omega) (Nat.zero_le _)
          ⟨⟨_, Heap.get?_push_size _ rfl, rfl, rfl⟩, hl1.push _⟩ ⟨[], ?_, List.nodup_nil, Nat.zero_le _, fun z => Iff.rfl⟩ fun s' L mv hL => ?_
        · refine SetOf_congr ((setObjOf_fresh (knd := PySem.strKind prog w) led).setOf (Heap.get?_push_of_some _ hS) (by unfold scanBound; omega)) (fun z => ?_) rfl
          simp
        · obtain ⟨h', g', d', tk', os'⟩ := s'
          have e1 : g' = s.gens := mv.gens
          have e2 : d' = s.drawn := mv.drawn
          have e3 : os' = s.os := mv.os
          subst e1 e2 e3
          show wpAny _ _ _ _ _ _
          refine wpAny_pure ?_
          show wpAny _ _ (ret Value.none) _ _ _
          refine wpAny_pure ⟨rfl, h', tk', L, rfl, hL, fun b o hb e => mv.heap b o ?_ (Heap.get?_push_of_some _ (Heap.get?_push_of_some _ e))⟩
          rw [Heap.size_push, List.mem_cons, List.mem_singleton]
          rintro (z | z)
          · exact Nat.ne_of_lt hb z
          · exact Nat.ne_of_lt (Nat.lt_succ_of_lt hb) z
      · cases r₂ with
        | error e => exact hr₂
        | ok fl₂ =>
          cases fl₂ with
          | next => exact hr₂.elim
          | brk => exact hr₂.elim
          | cont => exact hr₂.elim
          | ret r =>
            obtain ⟨rfl, h', tk, L, rfl, hL, keep⟩ := hr₂
            repeat (any_goals (first | assumption | wp_step))
            exact h _ _ L hL keep
set_option maxHeartbeats 4000000 in
theorem set_tx_tuple {l : Addr} {items : Array Value} {xs : List Str} {Q : Value → Shared → Prop} (hh : A.handled = none) (hl : s.heap.IsTuple l items) (hi : StrsAre items.toList xs) (few : xs.length + 1 < scanBound)
    (h : ∀ (h' : Heap) (tk : Nat) L, TxS prog w h' s.heap.objs.size xs L → (∀ b o, b < s.heap.objs.size → s.heap.get? b = some o → h'.get? b = some o) → Q (.ref s.heap.objs.size) { s with heap := h', toks := tk }) :
    wpAny (model prog w) A (call (.type "set") [.ref l]) Q E s := by
  obtain ⟨c, tl, hmro⟩ := PySem.F.called_set.mro
  have made := PySem.F.called_set.made
  have sub := PySem.F.called_set.sub
  have nt := PySem.F.called_set.notType
  have cc := PySem.F.called_set.canCreate
  have tc := PySem.F.typeCall_set_1 (.ref l)
  refine wpAny_call (codeAny_of_tree ?_)
  show wpAny _ _ (callAny (.type "set") _) _ _ _
  refine wpAny_pure ⟨Code.quiet_builtin _ (by decide +kernel), codeAny_builtin PySem.F.entry_type_call ?_⟩
  rw [Around.under_plain (weight_type_call_type "set" [.ref l] []) rfl]
  repeat (any_goals (first | assumption | wp_step))
  refine codeAny_mono (code_set_new_1 (.ref l) (E := E) (Q₁ := fun obj s₁ => ∃ led : Bool, obj = .ref s.heap.objs.size ∧ s₁ = { s with heap := s.heap.push (set0 led) }) fun led => ⟨led, rfl, rfl⟩) fun r s₁ hr => ?_
  cases r with
  | error e => exact hr
  | ok fl =>
    cases fl with
    | next => exact hr.elim
    | brk => exact hr.elim
    | cont => exact hr.elim
    | ret obj =>
      obtain ⟨led, rfl, rfl⟩ := hr
      have hS : (s.heap.push (set0 led)).get? s.heap.objs.size = some (set0 led) := Heap.get?_push_size _ rfl
      have hT : Shared.TypeIs { s with heap := s.heap.push (set0 led) } (.ref s.heap.objs.size) "set" := ⟨_, hS, rfl⟩
      have li := PySem.F.called_set.init.lookup
      have bi := PySem.F.called_set.init.bind (.ref s.heap.objs.size)
      repeat (any_goals (first | assumption | wp_step))
      refine codeAny_mono (codeAny_call_builtin (R := wants (fun r s₂ => r = .none ∧ ∃ h' tk L, s₂ = { s with heap := h', toks := tk } ∧ TxS prog w h' s.heap.objs.size xs L ∧ ∀ b o, b < s.heap.objs.size → s.heap.get? b = some o → h'.get? b = some o) E)
        PySem.F.called_set.init.plain PySem.F.entry_set_init (check_set_init_1 hT ?_)) fun r₂ s₂ hr₂ => ?_
      · obtain ⟨⟨ocls, odict, odata, oslots⟩, hol, hcl, nl, hdl⟩ := hl
        dsimp only at hcl hdl
        subst hcl hdl
        have hol' : (s.heap.push (set0 led)).get? l = some { cls := .type "tuple", dict := odict, data := .seq items nl, slots := oslots } := Heap.get?_push_of_some _ hol
        have s1 := PySem.F.sub_tuple_set
        have s2 := PySem.F.sub_tuple_frozenset
        have s3 : (Value.type "tuple" == Value.type "dict") = false := by decide
        have hl1 : (s.heap.push (set0 led)).IsTuple l items := ⟨_, hol', rfl, nl, rfl⟩
        unfold Builtin.«set.__init__» noKeywords Builtin.Frozenset.updateFrom
        generalize hPI : pyIter = PI
        wp_walk
        subst hPI
        refine wpAny_pyIter_tuple hl1 ?_
        refine wpAny_bind (wpAny_runValue ?_)
        have lS : l < s.heap.objs.size := Heap.lt_size hol
        have nI : l ≠ (s.heap.push (set0 led)).objs.size := by
          rw [Heap.size_push]
          exact Nat.ne_of_lt (Nat.lt_succ_of_lt lS)
        have nF : s.heap.objs.size ∉ [(s.heap.push (set0 led)).objs.size, l] := by
          rw [Heap.size_push, List.mem_cons, List.mem_singleton]
          rintro (e | e)
          · exact Nat.ne_of_lt (Nat.lt_succ_self _) e
          · exact Nat.ne_of_gt lS e
        have hx : xs.length = items.size := (Array.length_toList ▸ StrsAre.len_eq hi).symm
        refine loop_tx ((Walks.tuple (by simp [hh]) _ l nI items).toS) s.heap.objs.size nF xs hx (fun i v hv => SS.strs_at hi i v ((Array.getElem?_toList ..).trans hv)) (by omega) (items.size - 0) 0 _ (by omega) (Nat.zero_le _)
          ⟨⟨_, Heap.get?_push_size _ rfl, rfl, rfl⟩, hl1.push _⟩ ⟨[], ?_, List.nodup_nil, Nat.zero_le _, fun z => Iff.rfl⟩ fun s' L mv hL => ?_
        · refine SetOf_congr ((setObjOf_fresh (knd := PySem.strKind prog w) led).setOf (Heap.get?_push_of_some _ hS) (by unfold scanBound; omega)) (fun z => ?_) rfl
          simp
        · obtain ⟨h', g', d', tk', os'⟩ := s'
          have e1 : g' = s.gens := mv.gens
          have e2 : d' = s.drawn := mv.drawn
          have e3 : os' = s.os := mv.os
          subst e1 e2 e3
          show wpAny _ _ _ _ _ _
          refine wpAny_pure ?_
          show wpAny _ _ (ret Value.none) _ _ _
          refine wpAny_pure ⟨rfl, h', tk', L, rfl, hL, fun b o hb e => mv.heap b o ?_ (Heap.get?_push_of_some _ (Heap.get?_push_of_some _ e))⟩
          rw [Heap.size_push, List.mem_cons, List.mem_singleton]
          rintro (z | z)
          · exact Nat.ne_of_lt hb z
          · exact Nat.ne_of_lt (Nat.lt_succ_of_lt hb) z
      · cases r₂ with
        | error e => exact hr₂
        | ok fl₂ =>
          cases fl₂ with
          | next => exact hr₂.elim
          | brk => exact hr₂.elim
          | cont => exact hr₂.elim
          | ret r =>
            obtain ⟨rfl, h', tk, L, rfl, hL, keep⟩ := hr₂
            repeat (any_goals (first | assumption | wp_step))
            exact h _ _ L hL keep
end
end Gs
namespace Gs
open PySem PySem.Spec PyProof.Rows L2
section
variable {X : Cx}
def tLenTx (K : PySem.W.Frag) (ta : TE) : TE := fun σ H Q => ta σ H fun x H1 => ∃ (l : Addr) (xs : List Str), x = .ref l ∧ (SqL K H1 l (xs.map V.str) ∨ SqT K H1 l (xs.map V.str)) ∧ xs.length ≤ 1000 ∧
  ∀ L : List Str, L.Nodup → (∀ z, z ∈ L ↔ z ∈ xs) → Q (.int L.length) H1
theorem pe_lenTx {a : Expr} {ta : TE} {p p2 q pos : Pos} (hc : X.calm = true) (hg : Gl X "len") (hm : X.mg "len" = none) (hg2 : Gl X "set") (hm2 : X.mg "set" = none) (ha : PE X a ta)
    (na : starEach [a] X.env = (false, eval a X.env) :: starEach [] X.env := by rfl) : PE X (.Call (.Name "len" p) [.Call (.Name "set" p2) [a] [] q] [] pos) (tLenTx X.K ta) := by
  constructor
  intro pins s σ H Q I h
  refine Call_ (ld_blt I hg hm boot_len ?_)
  refine callWith_builtin1 (args_cons ?_ rfl) rfl rfl
  refine Call_ (ld_blt I hg2 hm2 boot_set ?_)
  refine callWith_type1 (args_cons (thn (ha.run pins s σ H _ I h) fun v s1 ⟨x, H1, I1, r1, l, xs, ex, hq, hz, k⟩ => args_nil ?_) na) na rfl
  subst ex
  cases r1
  have fin : ∀ (h' : Heap) (tk : Nat) (L : List Str), TxS X.prog X.w h' s1.heap.objs.size xs L → (∀ b o, b < s1.heap.objs.size → s1.heap.get? b = some o → h'.get? b = some o) →
      wpAny (model X.prog X.w) X.A (spliced (backTo pos (starEach [] X.env))) (fun vs s₂ => wpAny (model X.prog X.w) X.A (call (.builtin "len") (Value.ref s1.heap.objs.size :: vs)) (EP X pins σ Q) X.xe s₂) X.xe { s1 with heap := h', toks := tk } := by
    rintro h' tk L ⟨⟨o, es, ep, t, ho, hex, hd, _, _, _, hf, hn⟩, nd, hl, hm⟩ keep
    refine args_nil ?_
    have I2 : Inv X pins σ H1 { s1 with heap := h', toks := tk } := I1.kept fun b o e => keep b o (Heap.lt_size e) e
    exact call_len_set ho hex hd hf (by rw [hn]; omega) ⟨.int L.length, H1, I2.tok _, ⟨_, by rw [hn]⟩, k L nd hm⟩
  rcases hq with hq | hq
  · obtain ⟨its, r, pl, _⟩ := I1.list hq
    exact set_tx_list (I1.ok.hd hc) pl.isList (by simpa using strsAre_of r) (by unfold scanBound; omega) fin
  · obtain ⟨its, r, pl, _⟩ := I1.tuple hq
    exact set_tx_tuple (I1.ok.hd hc) (by obtain ⟨o, e1, e2, m, e3⟩ := pl; exact ⟨o, e1, e2, m, e3⟩) (by simpa using strsAre_of r) (by unfold scanBound; omega) fin
end
end Gs

set_option Elab.async false
set_option linter.all false
set_option maxRecDepth 100000
set_option maxHeartbeats 4000000
/-! Layer G8: sorted(xs), xs a list of pairs of ints that stand anywhere (tracked, locked or written). -/
namespace Gs
open PySem PySem.Spec PyProof.Rows L2
theorem perm_pre {α β : Type} {f : α → β} {m out : List β} (h : m.Perm out) : ∀ ks : List α, m = ks.map f → ∃ ls : List α, ls.Perm ks ∧ out = ls.map f := by
  induction h with
  | nil =>
    intro ks e
    exact ⟨[], by rw [List.map_eq_nil_iff.mp e.symm], rfl⟩
  | cons x _ ih =>
    intro ks e
    cases ks with
    | nil => cases e
    | cons k ks =>
      obtain ⟨e1, e2⟩ := List.cons.inj e
      obtain ⟨ls, h1, h2⟩ := ih ks e2
      exact ⟨k :: ls, h1.cons k, by rw [h2, e1]; rfl⟩
  | swap x y l =>
    intro ks e
    match ks, e with
    | k1 :: k2 :: ks, e =>
      obtain ⟨e1, e2⟩ := List.cons.inj e
      obtain ⟨e3, e4⟩ := List.cons.inj e2
      exact ⟨k2 :: k1 :: ks, List.Perm.swap k1 k2 ks, by rw [e1, e3, e4]; rfl⟩
  | trans _ _ ih1 ih2 =>
    intro ks e
    obtain ⟨ls, h1, h2⟩ := ih1 ks e
    obtain ⟨ms, h3, h4⟩ := ih2 ls h2
    exact ⟨ms, h3.trans h1, h4⟩
def rSortT (K : PySem.W.Frag) : List V → Hp → VK → Prop := fun vs H Q => ∃ (a : Addr) (ks : List (Addr × Int × Int)), vs = [V.ref a] ∧ SqL K H a (ks.map fun p => V.ref p.1) ∧ (∀ p ∈ ks, SqT K H p.1 [.int p.2.1, .int p.2.2]) ∧
  ∀ (ls : List (Addr × Int × Int)) p, ls.Perm ks → ls.Pairwise (fun x y => SrtO.lexB y.2 x.2 = false) → H p = none → Q (.ref p) (upd H p (.lst (ls.map fun p => V.ref p.1)))
section
variable {X : Cx}
theorem cr_sortT : CallR X (.builtin "sorted") (rSortT X.K) := by
  intro pins s σ H vs us Q I r h
  obtain ⟨a, ks, rfl, hs, hx, q⟩ := h
  have inj : ∀ p ∈ ks, ∀ q ∈ ks, p.1 = q.1 → p.2 = q.2 := by
    intro p hp q hq e
    obtain ⟨its1, r1, ⟨o1, ho1, _, n1, hd1⟩, _⟩ := I.tuple (hx p hp)
    obtain ⟨its2, r2, ⟨o2, ho2, _, n2, hd2⟩, _⟩ := I.tuple (hx q hq)
    rw [e, ho2] at ho1
    cases ho1
    rw [hd1] at hd2
    have e2 : its1 = its2 := by
      have := (Data.seq.inj hd2).1
      simpa using this
    subst e2
    obtain ⟨u1, u2, e3, ⟨t1, h1⟩, ⟨t2, h2⟩⟩ := vals2 r1
    obtain ⟨v1, v2, e4, ⟨t3, h3⟩, ⟨t4, h4⟩⟩ := vals2 r2
    subst e3 h1 h2
    have e5 := (List.cons.inj e4).1.trans h3
    have e6 := (List.cons.inj (List.cons.inj e4).2).1.trans h4
    exact Prod.ext (Value.int.inj e5).1 (Value.int.inj e6).1
  obtain ⟨its, rv, hl, hz⟩ := I.list hs
  obtain ⟨u, rfl, ru⟩ := vals1 r
  obtain rfl : u = Value.ref a := ru
  have eits : its = ks.map fun p => Value.ref p.1 := by
    clear hs hx inj q hz hl
    induction ks generalizing its with
    | nil => cases rv; rfl
    | cons p ks ih =>
      cases rv with
      | cons r1 r2 =>
        cases r1
        rw [ih _ r2]; rfl
  -- the pair that an address tells
  obtain ⟨k, hk⟩ : ∃ k : Value → Int × Int, ∀ p ∈ ks, k (.ref p.1) = p.2 := by
    refine ⟨fun v => match ks.find? (fun p => Value.ref p.1 == v) with | some p => p.2 | none => (0, 0), fun p hp => ?_⟩
    show (match ks.find? (fun q => Value.ref q.1 == Value.ref p.1) with | some q => q.2 | none => (0, 0)) = p.2
    cases e : ks.find? (fun q => Value.ref q.1 == Value.ref p.1) with
    | none => exact absurd (List.find?_eq_none.mp e p hp) (by simp)
    | some q =>
      have hq := List.find?_some e
      have e1 : q.1 = p.1 := Value.ref.inj (eq_of_beq hq)
      exact inj q (List.mem_of_find?_eq_some e) p hp e1
  refine SrtO.sorted_pairsO (k := k) hl.isList (by rw [← rv.length]; exact hz) (fun v hv => ?_) fun h' d out h1 h2 kp hd hn => ?_
  · rw [eits] at hv
    obtain ⟨p, hp, rfl⟩ := List.mem_map.mp hv
    obtain ⟨its2, r2, ⟨o, ho, hc, n, hdt⟩, _⟩ := I.tuple (hx p hp)
    obtain ⟨u1, u2, e3, ri, rj⟩ := vals2 r2
    obtain ⟨t1, rfl⟩ := ri
    obtain ⟨t2, rfl⟩ := rj
    subst e3
    rw [hk p hp]
    exact ⟨p.1, o, t1, t2, n, rfl, ho, hc, hdt⟩
  · rw [eits] at h2
    obtain ⟨n, hn⟩ := hn
    obtain ⟨ls, hls, rfl⟩ : ∃ ls : List (Addr × Int × Int), ls.Perm ks ∧ out = ls.map fun p => Value.ref p.1 := by
      exact perm_pre h2.perm.symm ks rfl
    have hv : Vals (ls.map fun p => V.ref p.1) (ls.map fun p => Value.ref p.1) := by
      clear h1 h2 kp hn hls
      induction ls with
      | nil => exact .nil
      | cons p ls ih => exact .cons rfl ih
    refine ⟨.ref d, upd H d (.lst (ls.map fun p => V.ref p.1)), I.laid (t' := s.toks) kp hd ⟨?_, _, n, hv, hn⟩, rfl, q ls d hls ?_ (I.hok.fresh hd)⟩
    · rw [List.length_map, hls.length_eq, ← List.length_map (f := fun p => V.ref p.1) (as := ks)]
      exact hz
    · have h1 := List.pairwise_map.mp h1
      refine h1.imp_of_mem fun {x y} hx hy e => ?_
      have e : SrtO.lexB (k (.ref y.1)) (k (.ref x.1)) = false := e
      rw [hk x (hls.mem_iff.mp hx), hk y (hls.mem_iff.mp hy)] at e
      exact e
end
end Gs

set_option Elab.async false
set_option linter.all false
set_option maxRecDepth 100000
set_option maxHeartbeats 4000000
/-! Layer G23: what is never reached; {x} of an instance with an own text; sorted of tuples of ints and texts; set(list of tuples of ints), no tuple twice. -/
namespace Gs
open PySem PySem.Spec PyProof.Rows L2
/-- what is never reached -/
theorem ps_dead {X : Cx} {st : Stmt} : PS X st (fun _ _ _ => False) := ⟨fun _ _ _ _ _ _ h => h.elim⟩
theorem pss_dead {X : Cx} {st : List Stmt} : PSs X st (fun _ _ _ => False) := ⟨fun _ _ _ _ _ _ h => h.elim⟩
theorem pe_dead {X : Cx} {e : Expr} : PE X e (fun _ _ _ => False) := ⟨fun _ _ _ _ _ _ h => h.elim⟩
section
variable {X : Cx} {CX : CXT} {k : Nat} {f C : Addr} {fd : FuncData} {ps : List Str} {sp : Sp} {E : XK}
/-- what an own class needs that {x} of its instances is their own text -/
structure OwnF (K : PySem.W.Frag) (C g : Addr) : Prop where
  st : PySem.W.findIn K (.ref C) "__str__" = some (some (.ref g))
  fs : PySem.W.isFn K (.ref g) = true
  fm : PySem.W.findIn K (.ref C) "__format__" = some (some (.builtin "object.__format__"))
  mo : PySem.W.mroIn K C (.type "object") = some true
/-- {x}, x an instance -/
def tFmtO (C : Addr) (sp : Sp) (E : XK) (te : TE) : TE := fun σ H Q => te σ H fun x H1 => ∃ (a dx : Addr) (fs : List (Str × V)), x = .ref a ∧ H1 a = some (.ins C dx fs) ∧ sp [.ref a] H1 (fun v H' => ∃ z, v = .str z ∧ Q v H') E
theorem pe_fmtO {e : Expr} {te : TE} {pos : Pos} (O : OwnF X.K C f) (F : FnOk X.prog X.w X.K X.mg X.base CX k f fd ps sp) (hr : Room (k + 2) X.A) (hb : Binds X.K fd ps []) (hx : Passes CX X E) (he : PE X e te) : PE X (.FormattedValue e (-1) none pos) (tFmtO C sp E te) := by
  refine ⟨fun pins s σ H Q I h => ?_⟩
  refine wpAny_FormattedValue_plain (thn (he.run pins s σ H _ I h) fun v s1 hv => ?_)
  obtain ⟨x, H1, I1, r1, a, dx, fs, rfl, ha, q⟩ := hv
  cases (show v = Value.ref a from r1)
  obtain ⟨_, J0, _⟩ := ins_get I1.hok ha
  obtain ⟨_, J, _⟩ := J0.look
  have I2 : Inv X pins σ H1 { s1 with toks := s1.toks + 1 } := I1.tok _
  refine PySem.W.kfo_fieldS hr.in1.units0 I1.kIn J O.fm O.mo O.st O.fs ?_
  refine wpAny_mono (run_sub (A := X.A.in1) (F.mono (Nat.le_succ k)) hr.in1 rfl hb hx I2 (.cons (rel_ref a) .nil) q) (fun z s' hz => ?_) fun _ _ e => e
  obtain ⟨v', H', I', rv, y, rfl, qq⟩ := hz
  obtain ⟨t, rfl⟩ := rv
  exact ⟨.str y, H', I', rel_str y t, qq⟩
end
/-! ### sorted, the items tuples of ints and texts -/
def kD : Key → PyData
  | .inl i => .int i
  | .inr x => .str x
abbrev TK := Addr × List Key
def encT (p : TK) : PyData := .tuple (p.2.map kD)
def sortK (ks : List TK) : List TK := ks.mergeSort (PySem.W.dataLe false encT)
theorem sortK_perm (ks : List TK) : (sortK ks).Perm ks := List.mergeSort_perm _ _
theorem reads_keys {h : Heap} : ∀ {us : List Value} {ks : List Key}, Vals (ks.map kV) us → ∃ as, ReadsAll h us (ks.map kD) as
  | _, [], r => by cases r; exact ⟨_, .nil⟩
  | _, .inl i :: ks, r => by
    cases r with
    | cons r1 r2 =>
      obtain ⟨t, rfl⟩ := r1
      obtain ⟨as, h2⟩ := reads_keys r2
      exact ⟨_, .cons (.int i t) h2⟩
  | _, .inr x :: ks, r => by
    cases r with
    | cons r1 r2 =>
      obtain ⟨t, rfl⟩ := r1
      obtain ⟨as, h2⟩ := reads_keys r2
      exact ⟨_, .cons (.str x t) h2⟩
theorem depth_keys : ∀ ks : List Key, PyData.depthAll (ks.map kD) = 0
  | [] => by simp [PyData.depthAll]
  | .inl i :: ks => by simp only [List.map_cons, kD, PyData.depthAll, depth_keys ks, PyData.depth]; rfl
  | .inr i :: ks => by simp only [List.map_cons, kD, PyData.depthAll, depth_keys ks, PyData.depth]; rfl
/-- of one sort, item by item -/
def sameSort : List Key → List Key → Bool
  | .inl _ :: a, .inl _ :: b => sameSort a b
  | .inr _ :: a, .inr _ :: b => sameSort a b
  | [], [] => true
  | _, _ => false
theorem alike_keys : ∀ a b : List Key, sameSort a b = true → PySem.W.alikeAll (a.map kD) (b.map kD) = true
  | [], [], _ => by simp [PySem.W.alikeAll]
  | .inl i :: a, .inl j :: b, h => by
    have := alike_keys a b h
    simp only [List.map_cons, kD, PySem.W.alikeAll, PySem.W.alike, this, Bool.and_self]
  | .inr i :: a, .inr j :: b, h => by
    have := alike_keys a b h
    simp only [List.map_cons, kD, PySem.W.alikeAll, PySem.W.alike, this, Bool.and_self]
  | .inl _ :: _, .inr _ :: _, h => by cases h
  | .inr _ :: _, .inl _ :: _, h => by cases h
  | [], _ :: _, h => by cases h
  | .inl _ :: _, [], h => by cases h
  | .inr _ :: _, [], h => by cases h
theorem each_tks : ∀ {bs : List TK} {us : List Value}, Vals (bs.map fun b => V.ref b.1) us → PySem.W.EachIs (fun (v : Value) (b : TK) => v = .ref b.1) us bs
  | [], _, h => by cases h; exact .nil
  | b :: bs, _, h => by
    cases h with
    | cons r t => exact .cons r (each_tks t)
theorem vals_tks : ∀ {bs : List TK} {us : List Value}, PySem.W.EachIs (fun (v : Value) (b : TK) => v = .ref b.1) us bs → Vals (bs.map fun b => V.ref b.1) us
  | [], _, h => by cases h; exact .nil
  | b :: bs, _, h => by
    cases h with
    | cons r t => exact .cons r (vals_tks t)
theorem each_enc {h : Heap} : ∀ {bs : List TK} {us : List Value}, PySem.W.EachIs (fun (v : Value) (b : TK) => v = .ref b.1) us bs → (∀ b ∈ bs, ∃ as, Reads h (.ref b.1) (encT b) as) → PySem.W.EachIs (fun (v : Value) (b : TK) => ∃ as, Reads h v (encT b) as) us bs
  | _, _, .nil, _ => .nil
  | _, _, .cons r t, h => by
    subst r
    exact .cons (h _ List.mem_cons_self) (each_enc t fun b hb => h b (List.mem_cons_of_mem _ hb))
def rSortK (K : PySem.W.Frag) : List V → Hp → VK → Prop := fun vs H Q => ∃ (a : Addr) (ks : List TK), vs = [V.ref a] ∧ SqL K H a (ks.map fun p => V.ref p.1) ∧ (∀ p ∈ ks, SqT K H p.1 (p.2.map kV)) ∧ (∀ p ∈ ks, p.2 ≠ []) ∧
  (∀ p ∈ ks, ∀ q ∈ ks, sameSort p.2 q.2 = true) ∧ ∀ p, H p = none → Q (.ref p) (upd H p (.lst ((sortK ks).map fun b => V.ref b.1)))
section
variable {X : Cx}
theorem cr_sortK (hu : X.A.units + 64 < cLine) : CallR X (.builtin "sorted") (rSortK X.K) := by
  intro pins s σ H vs us Q I r h
  obtain ⟨a, ks, rfl, hs, hx, hne, hss, q⟩ := h
  obtain ⟨u, rfl, ru⟩ := vals1 r
  obtain rfl : u = Value.ref a := ru
  obtain ⟨its, rv, hl, hz⟩ := I.list hs
  have lb : its.length = ks.length := by rw [← rv.length, List.length_map]
  have er := each_enc (h := s.heap) (each_tks rv) fun b hb => by
    obtain ⟨us, r2, ⟨o, ho, hc, n, hd⟩, _⟩ := I.tuple (hx b hb)
    obtain ⟨as, ra⟩ := reads_keys (h := s.heap) r2
    exact ⟨as, .tuple ho hc hd (by simpa using ra)⟩
  refine PySem.W.sorted_data (β := TK) (enc := encT) hl.isList (each_tks rv) er (fun d hd d' hd' => ?_) (.inl fun d hd => ?_) (by rw [← lb, ← rv.length]; exact hz) (fun b hb => ?_) fun out ho eo => ?_
  · obtain ⟨x, hx1, rfl⟩ := List.mem_map.mp hd
    obtain ⟨y, hy1, rfl⟩ := List.mem_map.mp hd'
    show PySem.W.alike (.tuple _) (.tuple _) = true
    simp only [PySem.W.alike]
    exact alike_keys _ _ (hss x hx1 y hy1)
  · obtain ⟨x, hx1, rfl⟩ := List.mem_map.mp hd
    have := hne x hx1
    unfold encT
    match x.2, this with
    | [], z => exact absurd rfl z
    | y :: l, _ => exact ⟨_, _, rfl⟩
  · have : (encT b).depth = 1 := by
      unfold encT
      simp only [PyData.depth, depth_keys]
    rw [this]; omega
  · obtain ⟨c, hc⟩ := sortedAll_at s.heap its out.toArray
    have hlen2 : (sortK ks).length = ks.length := (sortK_perm ks).length_eq
    refine ⟨.ref _, upd H (s.heap.objs.size + 1) (.lst ((sortK ks).map fun b => V.ref b.1)), I.laid (t' := s.toks) (fun _ _ => sortedAll_old) (Nat.le_succ _) ⟨?_, out, c, vals_tks eo, hc⟩, rfl, q _ (I.hok.fresh (Nat.le_succ _))⟩
    rw [List.length_map, hlen2, ← lb, ← rv.length]; exact hz
/-- set(xs), xs a list of tuples of ints; in the set no tuple stands twice -/
def rSetOfN (K : PySem.W.Frag) (P : Program) (w : World) : List V → Hp → VK → Prop := fun xs H Q => ∃ (l : Addr) (ks : List (Addr × List Int)), xs = [V.ref l] ∧ SqL K H l (ks.map fun p => V.ref p.1) ∧ (∀ p ∈ ks, SqT K H p.1 (p.2.map V.int)) ∧ ks.length < 64 ∧
  ∀ a L, H a = none → (L.map (·.2)).Nodup → (∀ p ∈ L, p ∈ ks) → (∀ p ∈ ks, p.2 ∈ L.map (·.2)) → Q (.ref a) (upd H a (SetTO P w a L))
theorem cr_setOfN (hc : X.calm = true) (hu : X.A.units + 64 < cLine) : CallR X (.type "set") (rSetOfN X.K X.prog X.w) := by
  intro pins s σ H xs us Q I r h
  obtain ⟨l, ks, rfl, hl, hk, hf, q⟩ := h
  cases (Vals.ref1 r)
  obtain ⟨its, rv, pl, hz⟩ := I.list hl
  have free : H s.heap.objs.size = none := I.hok.fresh (Nat.le_refl _)
  have fresh := refs_of_vals rv
  refine call_set_tups (P := X.prog) (w := X.w) ks (I.ok.hd hc) pl.isList (by simpa using fresh) (fun p hp => I.isT (hk p hp)) hf (by omega) ?_
  intro h' tk L es ep t R g kp
  have J : Inv X pins σ (upd H s.heap.objs.size (SetTO X.prog X.w s.heap.objs.size L)) { s with heap := h', toks := tk } := I.laid (t' := tk) kp (Nat.le_refl s.heap.objs.size) (setTO_new R.t0)
  exact ⟨.ref s.heap.objs.size, _, J, rfl, q _ L free R.nd (fun p hp => List.mem_of_mem_take (g.sub p hp)) fun p hp => g.all p (by rw [List.take_length]; exact hp)⟩
end
/-- the members of L once each, all those of ks: as many as ks where no key stands twice in it -/
theorem set_size {L ks : List (Addr × List Int)} (hn : (L.map (·.2)).Nodup) (h1 : ∀ p ∈ L, p ∈ ks) (h2 : ∀ p ∈ ks, p.2 ∈ L.map (·.2)) : decide ((L.length : Int) = (ks.length : Int)) = decide (ks.map (·.2)).Nodup := by
  have h := size_tells (l := L.map (·.2)) (D := ks.map (·.2)) hn (fun x => ⟨fun hx => ?_, fun hx => ?_⟩)
  · rw [List.length_map, List.length_map] at h; exact h
  · obtain ⟨p, hp, rfl⟩ := List.mem_map.mp hx
    exact List.mem_map_of_mem (h1 p hp)
  · obtain ⟨p, hp, rfl⟩ := List.mem_map.mp hx
    exact h2 p hp
end Gs

set_option Elab.async false
set_option linter.all false
set_option maxRecDepth 100000
set_option maxHeartbeats 4000000
/-! Layer G24: {(a, ..): v for .. in ..}: the keys tuples of ints and texts. -/
namespace Gs
open PySem PySem.Spec PyProof.Rows L2 PpSet
def tDcT (wi : TI) (g : TG) (tt : TT) (tk tv : TE) (vs : List Nat) : TE := fun σ H Q => wi σ H fun J H1 => ∀ D, H1 D = none →
  ∃ W : Nat → Nat → Hp → Prop, (∃ m, W 0 m (upd H1 D (.dT []))) ∧ ∀ i m H, W i m H → (J.stop i H ∧ Q (.ref D) H) ∨
    (J.go i H ∧ ∃ Nx : Hp → Prop, (∀ H', Nx H' → ∃ m', m' < m ∧ W (i + 1) m' H') ∧ ∀ x H', J.yld i H x H' → g x (wipe σ vs) H' fun σ2 H2 => wipe σ2 vs = wipe σ vs ∧ tt σ2 H2 fun b H3 =>
      if b = true then tk σ2 H3 fun y H4 => tv σ2 H4 fun z H5 => ∃ (kvs : List (List Key × V)) (k : List Key) (b : Addr), y = .ref b ∧ H5 b = some (.tup (k.map kV)) ∧ H5 D = some (.dT kvs) ∧ kvs.length < sizeLine ∧ Nx (upd H5 D (.dT (putK kvs k z))) else Nx H3)
section
variable {X : Cx}
/-- d[k] = v by a comprehension, k a tuple -/
theorem dctT_put {pins : List (Addr × Obj)} {σ : L2.St} {H : Hp} {s : Shared} {E : Value → Shared → Prop} {D b : Addr} {kvs : List (List Key × V)} {k : List Key} {v : V} {r : Value} {Q : Unit → Shared → Prop} (hu : X.A.units + 1 < cLine) (I : Inv X pins σ H s) (hD : H D = some (.dT kvs))
    (hz : kvs.length < sizeLine) (hb : H b = some (.tup (k.map kV))) (rv : RelV v r) (h : ∀ s', Inv X pins σ (upd H D (.dT (putK kvs k v))) s' → Q () s') : wpAny (model X.prog X.w) X.A (dictSet D (.ref b) r) Q E s := by
  obtain ⟨lz, hd, xs, rel, dd⟩ := dt_of I.hok hD
  have few : xs.length ≤ sizeLine := Paired.length rel ▸ lz
  have room : (putK kvs k v).length ≤ sizeLine := Nat.le_trans (length_putK kvs k v) hz
  have un : (tupleKind (mixKind X.prog X.w)).room X.A := by
    show X.A.units < cLine
    omega
  refine wpAny_dictSet_heap (hsz := few) un (key_of I.hok hb) dd ?_
  intro h' dd' same
  refine h _ ?_
  obtain ⟨q, es, ep, hq, h2, h3, h4, _, h5⟩ := dd'
  refine d_write I (by rw [hD]; exact True.intro) same ⟨q, hq⟩ ⟨room, hd, _, (rel.put k hb rv).keeps ?_, q, es, ep, hq, h2, h3, h4, h5⟩
  intro c ys ec
  rw [upd_ne (ne_of ec hD (fun z => nomatch z))]
  exact ec
theorem dct_run {pins : List (Addr × Obj)} {s : Shared} {σ : L2.St} {H : Hp} {Q : VK} {kx vx tg iter : Expr} {ifs : List Expr} {scope : Scope} {own : List (PySem.Str × Nat)} {pos pos' : Pos} {wi : TI} {g : TG} {tt : TT} {tk tv : TE} {use : Option (Value → Sem Unit)}
    {Qf : Value → Shared → Prop} (hu : X.A.units + 2 < cLine) (calm : X.calm = true) (nod : X.N.Nodup) (I : Inv X pins σ H s) (pi : PI X tg iter wi) (bok : BlkOk X.N X.env.scope scope own)
    (pg : ∀ (s : Shared) (H : Hp) (C : Addr) (cl : List (PySem.Str × Addr)) (fp : List Addr), PG (X.blk s H scope (compEnvC scope cl C X.env) fp) tg g)
    (pt : ∀ (s : Shared) (H : Hp) (C : Addr) (cl : List (PySem.Str × Addr)) (fp : List Addr), PTs (X.blk s H scope (compEnvC scope cl C X.env) fp) ifs tt)
    (pk : ∀ (s : Shared) (H : Hp) (C : Addr) (cl : List (PySem.Str × Addr)) (fp : List Addr), PE (X.blk s H scope (compEnvC scope cl C X.env) fp) kx tk)
    (pe : ∀ (s : Shared) (H : Hp) (C : Addr) (cl : List (PySem.Str × Addr)) (fp : List Addr), PE (X.blk s H scope (compEnvC scope cl C X.env) fp) vx tv)
    (plain : ∀ x, foldedSetIterable iter X.env x = pure x) (h : tDcT wi g tt tk tv (own.map (·.2)) σ H Q)
    (back : ∀ D C s' m H', Inv X pins σ H' s' → Q (.ref D) H' → s'.heap.Ns C m → FpOk X pins H' C → compPost (model X.prog X.w) X.A X.xe use Qf (.ref D) C (.ok .next) s') :
    wpAny (model X.prog X.w) X.A (comprehension (.DictComp kx vx [⟨tg, iter, ifs, 0⟩] scope pos) scope X.env pos' newDict false (eval iter X.env) use) Qf X.xe s := by
  have cells : ∀ q ∈ scope.names, q.2 = .free → ∃ c, X.env.cells.lookup q.1 = some c := by
    intro q hq e
    cases bok.free q hq e with
    | inl k => exact I.ok.has _ (Or.inl k)
    | inr k => exact I.ok.has _ (Or.inr k)
  refine wpAny_comprehension_free (use := use) rfl plain (closure_ok cells) bok.kind (fun q hq e => (bok.uniq q hq).trans (congrArg some e)) (thn (pi.run pins s σ H _ I h) fun _ s1 hx => thn hx fun _ s2 got => ?_)
  obtain ⟨it, fp, tn, J, H2, rfl, I2, T, st2, f2, q⟩ := got
  refine wpAny_newObj_type (newEnv_comp ?_)
  obtain ⟨D, hD⟩ : ∃ D, D = s2.heap.objs.size := ⟨_, rfl⟩
  have free : H2 D = none := I2.hok.fresh (by rw [hD]; exact Nat.le_refl _)
  obtain ⟨W, ⟨m0, w0⟩, turn⟩ := q D free
  obtain ⟨s3, hs3⟩ : ∃ s3 : Shared, s3 = { s2 with heap := s2.heap.push { cls := .type "dict", data := .dict #[] } } := ⟨_, rfl⟩
  have hp3 : ∀ b o, s2.heap.get? b = some o → s3.heap.get? b = some o := fun b o e => by rw [hs3]; exact Heap.get?_push_of_some _ e
  have sz3 : s3.heap.objs.size = s2.heap.objs.size + 1 := by rw [hs3]; exact Heap.size_push _ _
  have I3 : Inv X pins σ (upd H2 D (.dT [])) s3 := by
    rw [hs3]
    refine I2.laid (t' := s2.toks) (fun b o e => Heap.get?_push_of_some _ e) (by rw [hD]; exact Nat.le_refl _) ?_
    rw [hD]
    exact dt_empty s2.heap I2.big
  have below : ∀ b ∈ fp, b < s2.heap.objs.size := by
    intro b hb
    obtain ⟨o, e, _⟩ := T.obj _ _ st2 b hb
    exact Heap.lt_size e
  have fps : ∀ b ∈ fp, FpOk X pins (upd H2 D (.dT [])) b ∧ b < s3.heap.objs.size := by
    intro b hb
    have lt := below b hb
    refine ⟨⟨(upd_ne (by rw [hD]; exact Nat.ne_of_lt lt)).trans (f2 b hb).1, (f2 b hb).2⟩, by rw [sz3]; exact Nat.lt_succ_of_lt lt⟩
  have st3 : tn 0 s3.heap := T.keep _ _ _ st2 fun b _ o e => hp3 b o e
  have I4 := block_start I3 bok nod fps
  have pg := pg s3 (upd H2 D (.dT [])) s3.heap.objs.size (cellsFrom (s3.heap.objs.size + 1) scope.names (cloFrom X.env.cells scope.names [])) fp
  have pt := pt s3 (upd H2 D (.dT [])) s3.heap.objs.size (cellsFrom (s3.heap.objs.size + 1) scope.names (cloFrom X.env.cells scope.names [])) fp
  have pk := pk s3 (upd H2 D (.dT [])) s3.heap.objs.size (cellsFrom (s3.heap.objs.size + 1) scope.names (cloFrom X.env.cells scope.names [])) fp
  have pe := pe s3 (upd H2 D (.dT [])) s3.heap.objs.size (cellsFrom (s3.heap.objs.size + 1) scope.names (cloFrom X.env.cells scope.names [])) fp
  have fresh : ∀ b ∈ fp, (upd H2 D (.dT [])) b = none := fun b hb => (fps b hb).1.1
  rw [← hD, ← hs3]
  show codeAny _ _ (.compStart (.DictComp kx vx [⟨tg, iter, ifs, 0⟩] scope pos) 0 (.ref it) (.ref D) (compEnvC scope (cellsFrom (s3.heap.objs.size + 1) scope.names (cloFrom X.env.cells scope.names [])) s3.heap.objs.size X.env)) (compPost (model X.prog X.w) X.A X.xe use Qf (.ref D) s3.heap.objs.size) _
  revert I4 pg pt pk pe
  generalize hce : compEnvC scope (cellsFrom (s3.heap.objs.size + 1) scope.names (cloFrom X.env.cells scope.names [])) s3.heap.objs.size X.env = ce
  intro I4 pg pt pk pe
  have loc : ce.locals = s3.heap.objs.size := by rw [← hce]; rfl
  generalize upd H2 D (.dT []) = H3 at I3 I4 pg pt pk pe w0 fresh fps
  obtain ⟨s4, hs4⟩ : ∃ s4 : Shared, s4 = { s3 with heap := pushCells (s3.heap.push { cls := .type "dict", data := .dict #[] }) scope.names } := ⟨_, rfl⟩
  rw [← hs4] at I4 ⊢
  have st4 : tn 0 s4.heap := T.keep _ _ _ st3 fun b _ o e => by rw [hs4]; exact pushCells_keeps _ _ _ _ (Heap.get?_push_of_some _ e)
  have hold : ∀ {σ' : L2.St} {H' : Hp} {s' : Shared}, Inv (X.blk s3 H3 scope ce fp) [] σ' H' s' → (∀ b ∈ fp, H' b = none) → ∀ b ∈ fp, FpOk (X.blk s3 H3 scope ce fp) [] H' b := by
    intro σ' H' s' I' hn b hb
    exact ⟨hn b hb, (I'.ok.exf b hb).1, I'.ok.exfs b hb, .inl hb, fun x c e => (I'.ok.exf b hb).2 x c e, fun p hp => absurd (show p ∈ ([] : List (Addr × Obj)) ++ [] from hp) (by simp)⟩
  have loop : codeAny (model X.prog X.w) X.A (.compLoop (.DictComp kx vx [⟨tg, iter, ifs, 0⟩] scope pos) 0 (.ref it) (.ref D) ce) (compPost (model X.prog X.w) X.A X.xe use Qf (.ref D) s3.heap.objs.size) s4 := by
    refine compLoop_anyD (fun n s' => ∃ i H', Inv (X.blk s3 H3 scope ce fp) [] (wipe σ (own.map (·.2))) H' s' ∧ tn i s'.heap ∧ (∀ b ∈ fp, H' b = none) ∧ W i n H') ?_ m0 ⟨0, H3, I4, st4, fresh, w0⟩
    rintro n s5 ⟨i, H5, I5, st5, n5, w5⟩
    cases turn i n H5 w5 with
    | inl fin =>
      obtain ⟨stop, qq⟩ := fin
      refine thnF (T.done (X.blk s3 H3 scope ce fp) rfl rfl rfl calm i [] s5 _ H5 (fun _ _ => False) I5 (hold I5 n5) st5 stop) fun r s6 ⟨hr, I6⟩ => ?_
      subst hr
      have I7 : Inv X pins σ H5 s6 := I3.call' (ch := fp) I6.os I6.base I6.hok I6.bare fun b hb => ⟨(fps b hb).1.2.2.2.1, (fps b hb).1.2.1, (fps b hb).1.2.2.2.2.1, (fps b hb).1.2.2.2.2.2⟩
      have gone : H5 s3.heap.objs.size = none := by
        have z : H5 ce.locals = none := I6.free
        rwa [loc] at z
      obtain ⟨m, hn, _⟩ := I6.loc
      have hn : s6.heap.Ns ce.locals m := hn
      rw [loc] at hn
      exact back D s3.heap.objs.size s6 m H5 I7 qq hn (I3.fpOk (Nat.le_refl _) gone)
    | inr more =>
      obtain ⟨go, Nx, hNx, step⟩ := more
      refine thnF (T.item (X.blk s3 H3 scope ce fp) rfl rfl rfl calm i [] s5 _ H5 (fun _ _ => False) I5 (hold I5 n5) st5 go) fun r s6 ⟨u, hr, h6⟩ => ?_
      subst hr
      refine thnF h6 fun _ s7 ⟨x, H7, I7, r7, y7, st7, n7⟩ => ?_
      have I7p := I7.pinned (hold I7 n7) (T.obj _ _ st7)
      refine thnF (pg.run _ s7 _ H7 x u _ I7p r7 (step x H7 y7)) fun _ s8 ⟨σ8, H8, I8, hw8, q8⟩ => ?_
      refine thnF (pt.run _ s8 σ8 H8 _ I8 q8) fun b s9 ⟨H9, I9, q9⟩ => ?_
      have again : ∀ {s' : Shared} {H' : Hp}, Inv (X.blk s3 H3 scope ce fp) ([] ++ pinsAt fp s7.heap) σ8 H' s' → Nx H' →
          ∃ m, m < n ∧ ∃ i H', Inv (X.blk s3 H3 scope ce fp) [] (wipe σ (own.map (·.2))) H' s' ∧ tn i s'.heap ∧ (∀ b ∈ fp, H' b = none) ∧ W i m H' := by
        intro s' H' I' nx
        obtain ⟨m', hm, w'⟩ := hNx H' nx
        have pinned : ∀ b ∈ fp, ∀ o, s7.heap.get? b = some o → s'.heap.get? b = some o ∧ H' b = none := by
          intro b hb o e
          have z := I'.pin (b, o) (List.mem_append_right _ (List.mem_append_right _ (mem_pinsAt hb e)))
          exact ⟨z.1, z.2.1⟩
        refine ⟨m', hm, i + 1, H', (I'.unpinned (pins := [])).weak (by rw [← hw8, wipe_length]) (fun j v e => ?_), T.keep _ _ _ st7 (fun b hb o e => (pinned b hb o e).1), (fun b hb => ?_), w'⟩
        · rw [← hw8] at e
          exact (wipe_some e).1
        · obtain ⟨o, e, _⟩ := T.obj _ _ st7 b hb
          exact (pinned b hb o e).2
      cases b with
      | false =>
        rw [if_neg Bool.false_ne_true] at q9 ⊢
        exact again I9 q9
      | true =>
        rw [if_pos rfl] at q9 ⊢
        refine thnF (pk.run _ s9 σ8 H9 _ I9 q9) fun y0 s10 hy => ?_
        obtain ⟨yv, H10, I10, r10, q10⟩ := hy
        refine thnF (pe.run _ s10 σ8 H10 _ I10 q10) fun z0 s11 hz => ?_
        obtain ⟨zv, H11, I11, r11, kvs, k, b0, rfl, hb0, hD11, few11, nx⟩ := hz
        cases (show y0 = Value.ref b0 from r10)
        exact dctT_put (X := X.blk s3 H3 scope ce fp) (by show X.A.units + 1 < cLine; omega) I11 hD11 few11 hb0 r11 fun s12 I12 => again I12 nx
  exact codeAny_compStart_dict loop (T.self X.A 0 _ _ _ st4 loop)
/-- {(a, ..): v for tg in iter ..} -/
theorem pe_dct {kx vx tg iter : Expr} {ifs : List Expr} {scope : Scope} {own : List (PySem.Str × Nat)} {pos : Pos} {wi : TI} {g : TG} {tt : TT} {tk tv : TE} (hu : X.A.units + 2 < cLine) (calm : X.calm = true) (nod : X.N.Nodup)
    (pi : PI X tg iter wi) (bok : BlkOk X.N X.env.scope scope own) (pg : ∀ (s : Shared) (H : Hp) (C : Addr) (cl : List (PySem.Str × Addr)) (fp : List Addr), PG (X.blk s H scope (compEnvC scope cl C X.env) fp) tg g)
    (pt : ∀ (s : Shared) (H : Hp) (C : Addr) (cl : List (PySem.Str × Addr)) (fp : List Addr), PTs (X.blk s H scope (compEnvC scope cl C X.env) fp) ifs tt)
    (pk : ∀ (s : Shared) (H : Hp) (C : Addr) (cl : List (PySem.Str × Addr)) (fp : List Addr), PE (X.blk s H scope (compEnvC scope cl C X.env) fp) kx tk)
    (pe : ∀ (s : Shared) (H : Hp) (C : Addr) (cl : List (PySem.Str × Addr)) (fp : List Addr), PE (X.blk s H scope (compEnvC scope cl C X.env) fp) vx tv) (plain : ∀ x, foldedSetIterable iter X.env x = pure x := by intro _; rfl) :
    PE X (.DictComp kx vx [⟨tg, iter, ifs, 0⟩] scope pos) (tDcT wi g tt tk tv (own.map (·.2))) := by
  constructor
  intro pins s σ H Q I h
  rw [arm_eval_DictComp]
  refine dct_run hu calm nod I pi bok pg pt pk pe plain h fun D C s' m H' I' q hn f => ⟨m, hn, fun h2 sb => ?_⟩
  obtain ⟨f0, f1, f2, f3, f4, f5⟩ := f
  exact ⟨.ref D, H', I'.turned (t' := s'.toks) (fun b o hb e => (sb.2 b hb).trans e) f0 f1 f3 f4 f5, rfl, q⟩
/-- over what stands and is walked -/
theorem dct_it {J : It} {n : Nat} {G : Hp → Prop} {Y : Nat → Hp → V → Hp → Prop} (wk : Walk J n G Y) {g : TG} {tt : TT} {tk tv : TE} {vs : List Nat} {σ : L2.St} {H1 : Hp} {D : Addr} {Qd : Hp → Prop}
    (Pv : Nat → Hp → Prop) (h0 : Pv 0 (upd H1 D (.dT []))) (hG : ∀ i H, i ≤ n → Pv i H → G H)
    (hs : ∀ i x H H', i < n → Pv i H → Y i H x H' → g x (wipe σ vs) H' fun σ2 H2 => wipe σ2 vs = wipe σ vs ∧ tt σ2 H2 fun b H3 =>
      if b = true then tk σ2 H3 fun y H4 => tv σ2 H4 fun z H5 => ∃ (kvs : List (List Key × V)) (k : List Key) (b : Addr), y = .ref b ∧ H5 b = some (.tup (k.map kV)) ∧ H5 D = some (.dT kvs) ∧ kvs.length < sizeLine ∧ Pv (i + 1) (upd H5 D (.dT (putK kvs k z))) else Pv (i + 1) H3)
    (hd : ∀ H, Pv n H → Qd H) :
    ∃ W : Nat → Nat → Hp → Prop, (∃ m, W 0 m (upd H1 D (.dT []))) ∧ ∀ i m H, W i m H → (J.stop i H ∧ Qd H) ∨
      (J.go i H ∧ ∃ Nx : Hp → Prop, (∀ H', Nx H' → ∃ m', m' < m ∧ W (i + 1) m' H') ∧ ∀ x H', J.yld i H x H' → g x (wipe σ vs) H' fun σ2 H2 => wipe σ2 vs = wipe σ vs ∧ tt σ2 H2 fun b H3 =>
        if b = true then tk σ2 H3 fun y H4 => tv σ2 H4 fun z H5 => ∃ (kvs : List (List Key × V)) (k : List Key) (b : Addr), y = .ref b ∧ H5 b = some (.tup (k.map kV)) ∧ H5 D = some (.dT kvs) ∧ kvs.length < sizeLine ∧ Nx (upd H5 D (.dT (putK kvs k z))) else Nx H3) := by
  refine ⟨fun i m H => m = n - i ∧ i ≤ n ∧ Pv i H, ⟨n, by simp, Nat.zero_le _, h0⟩, ?_⟩
  rintro i m H ⟨rfl, hi, p⟩
  have st := hG i H hi p
  rcases Nat.lt_or_ge i n with lt | ge
  · exact .inr ⟨wk.goes i H lt st, Pv (i + 1), fun H' p' => ⟨n - (i + 1), by omega, rfl, lt, p'⟩, fun x H' y => hs i x H H' lt p (wk.yields i H x H' lt st y)⟩
  · have e : i = n := Nat.le_antisymm hi ge
    subst e
    exact .inl ⟨wk.stops H st, hd H p⟩
end
end Gs

set_option Elab.async false
set_option linter.all false
set_option maxRecDepth 100000
set_option maxHeartbeats 4000000
/-! Layer G25: lists or tuples unpacked; two rules of a call; keywords where a def has defaults. -/
namespace Gs
open PySem PySem.Spec PyProof.Rows L2
def gSeq (K : PySem.W.Frag) (n : Nat) (t : TGs) : TG := fun v σ H Q => gUnl K n t v σ H Q ∨ gTup K n t v σ H Q
theorem pg_seq {X : Cx} {pos : Pos} {es : List Expr} {k : Nat} {t : TGs} {n : Nat} (hc : X.calm = true) (h : PGs X es t) (hn : (assignEach es X.env).length = n := by rfl) (hst : (assignEach es X.env).findIdx? (·.1) = none := by rfl) : PG X (.Tuple es k pos) (gSeq X.K n t) :=
  pg_or (pg_unl hc h hn hst) (pg_tup hc h hn hst)
theorem gSeq.of {K : PySem.W.Frag} {n : Nat} {t : TGs} {a : Addr} {xs : List V} {σ : L2.St} {H : Hp} {Q : L2.St → Hp → Prop} (h : SqL K H a xs ∨ SqT K H a xs) (hl : xs.length = n) (q : t xs σ H Q) : gSeq K n t (.ref a) σ H Q :=
  h.elim (fun h => .inl ⟨a, xs, rfl, h, hl, q⟩) fun h => .inr ⟨a, xs, rfl, h, hl, q⟩
theorem cr_or {X : Cx} {f : Value} {r1 r2 : List V → Hp → VK → Prop} (h1 : CallR X f r1) (h2 : CallR X f r2) : CallR X f (fun xs H Q => r1 xs H Q ∨ r2 xs H Q) :=
  fun pins s σ H xs us Q I r h => h.elim (h1 pins s σ H xs us Q I r) (h2 pins s σ H xs us Q I r)
section
variable {K : PySem.W.Frag} {x qual : Str} {params : Arguments} {body : List Stmt} {scope : Scope} {dvs : List V} {f : Addr} {fd : FuncData} {ps : List Str}
/-- f(e, .., k = v, ..), some of the defaults filling up; g puts the positional values, all defaults and the keywords' values in the parameters' order -/
theorem kbn_dfl (F : FunD K x qual params body scope dvs [] f fd) (n : Nat) (ks : List Str) (g : {α : Type} → List α → List α → List α → List α) (hd : dvs ≠ [])
    (hrel : ∀ {vs ds zs : List V} {us its ws : List Value}, Vals vs us → Vals ds its → Vals zs ws → Vals (g vs ds zs) (g us its ws))
    (h : ∀ (T : Addr) (kV doc pm : Value) (an : Option Addr) (cdv ct : Value) (us its ws : List Value), us.length = n → its.length = dvs.length → ws.length = ks.length →
      ∃ k, bindArgs (PySem.W.fnOf x qual params body scope (.ref T) kV doc pm an cdv ct) ⟨us, ks.zip ws⟩ = seqItems? (.ref T) >>= k ∧ k (some its.toArray) = pure (ps.zip (g us its ws))) :
    ∃ its : List Value, KBn K fd ps n ks (fun us ws => g us its ws) (fun vs zs => g vs dvs zs) := by
  obtain ⟨oc, od, dV, kV, doc, pm, an, cdv, ct, osl, rfl, lk, hcd, hD, hK⟩ := F.ex
  rcases hD with ⟨e, _⟩ | ⟨_, T, o, its, m, rfl, lT, oT, rT⟩
  · exact absurd e hd
  · refine ⟨its, ⟨fun s us ws X l1 l2 => ?_, fun rv rz => hrel rv rT rz⟩⟩
    obtain ⟨k, e1, e2⟩ := h T kV doc pm an cdv ct us its ws l1 rT.length.symm l2
    refine BindsTo.of_looks fun M => ?_
    rw [e1]
    exact looks_items X lT oT (.of_pure e2)
end
end Gs

set_option Elab.async false
set_option linter.all false
set_option maxRecDepth 100000
set_option maxHeartbeats 4000000
namespace K57
open PySem PySem.Spec PyProof.Rows L2 Gs
theorem szM {n : Nat} (h : n ≤ 1000000) : n ≤ sizeLine := Nat.le_trans h (by decide)
theorem szK {n : Nat} (h : n < 1000001) : n < sizeLine := Nat.lt_of_lt_of_le h (by decide)
def top (i : Nat) : Stmt := PySem.Challenge.pw_gapsame_k57_turns_refused.main.body.getD i (.Pass ⟨0, 0, 0, 0⟩)
abbrev s_is_integer : Stmt := top 4
abbrev n_is_integer : List Str := ["value"]
theorem sc_is_integer : FnScope n_is_integer ["value"] (defScope s_is_integer) := ⟨rfl, rfl, rfl, by decide +kernel, rfl, by decide +kernel, by decide +kernel⟩
abbrev s_is_within : Stmt := top 5
abbrev n_is_within : List Str := ["value", "least", "most"]
theorem sc_is_within : FnScope n_is_within ["value", "least", "most"] (defScope s_is_within) := ⟨rfl, rfl, rfl, by decide +kernel, rfl, by decide +kernel, by decide +kernel⟩
abbrev s_is_list : Stmt := top 6
abbrev n_is_list : List Str := ["value"]
theorem sc_is_list : FnScope n_is_list ["value"] (defScope s_is_list) := ⟨rfl, rfl, rfl, by decide +kernel, rfl, by decide +kernel, by decide +kernel⟩
abbrev s_is_square : Stmt := top 7
abbrev n_is_square : List Str := ["value"]
theorem sc_is_square : FnScope n_is_square ["value"] (defScope s_is_square) := ⟨rfl, rfl, rfl, by decide +kernel, rfl, by decide +kernel, by decide +kernel⟩
abbrev s_is_move : Stmt := top 8
abbrev n_is_move : List Str := ["value"]
theorem sc_is_move : FnScope n_is_move ["value"] (defScope s_is_move) := ⟨rfl, rfl, rfl, by decide +kernel, rfl, by decide +kernel, by decide +kernel⟩
abbrev s_is_name : Stmt := top 9
abbrev n_is_name : List Str := ["value", "sign"]
theorem sc_is_name : FnScope n_is_name ["value"] (defScope s_is_name) := ⟨rfl, rfl, rfl, by decide +kernel, rfl, by decide +kernel, by decide +kernel⟩
abbrev s_BadNumber___init__ : Stmt := inClass (top 12) 0
abbrev n_BadNumber___init__ : List Str := ["self", "part"]
theorem sc_BadNumber___init__ : FnScope n_BadNumber___init__ ["self", "part"] (defScope s_BadNumber___init__) := ⟨rfl, rfl, rfl, by decide +kernel, rfl, by decide +kernel, by decide +kernel⟩
abbrev s_BadKind___init__ : Stmt := inClass (top 13) 0
abbrev n_BadKind___init__ : List Str := ["self", "part"]
theorem sc_BadKind___init__ : FnScope n_BadKind___init__ ["self", "part"] (defScope s_BadKind___init__) := ⟨rfl, rfl, rfl, by decide +kernel, rfl, by decide +kernel, by decide +kernel⟩
abbrev s_BadGame___init__ : Stmt := inClass (top 14) 0
abbrev n_BadGame___init__ : List Str := ["self", "part"]
theorem sc_BadGame___init__ : FnScope n_BadGame___init__ ["self", "part"] (defScope s_BadGame___init__) := ⟨rfl, rfl, rfl, by decide +kernel, rfl, by decide +kernel, by decide +kernel⟩
abbrev s_BadPosition___init__ : Stmt := inClass (top 15) 0
abbrev n_BadPosition___init__ : List Str := ["self", "part"]
theorem sc_BadPosition___init__ : FnScope n_BadPosition___init__ ["self", "part"] (defScope s_BadPosition___init__) := ⟨rfl, rfl, rfl, by decide +kernel, rfl, by decide +kernel, by decide +kernel⟩
abbrev s_BadMove___init__ : Stmt := inClass (top 16) 0
abbrev n_BadMove___init__ : List Str := ["self", "part"]
theorem sc_BadMove___init__ : FnScope n_BadMove___init__ ["self", "part"] (defScope s_BadMove___init__) := ⟨rfl, rfl, rfl, by decide +kernel, rfl, by decide +kernel, by decide +kernel⟩
abbrev s_BadWords___init__ : Stmt := inClass (top 17) 0
abbrev n_BadWords___init__ : List Str := ["self", "part"]
theorem sc_BadWords___init__ : FnScope n_BadWords___init__ ["self", "part"] (defScope s_BadWords___init__) := ⟨rfl, rfl, rfl, by decide +kernel, rfl, by decide +kernel, by decide +kernel⟩
abbrev s_Misfit___init__ : Stmt := inClass (top 18) 0
abbrev n_Misfit___init__ : List Str := ["self", "part"]
theorem sc_Misfit___init__ : FnScope n_Misfit___init__ ["self", "part"] (defScope s_Misfit___init__) := ⟨rfl, rfl, rfl, by decide +kernel, rfl, by decide +kernel, by decide +kernel⟩
abbrev s_Kind___init__ : Stmt := inClass (top 31) 0
abbrev n_Kind___init__ : List Str := ["self", "name", "leaps", "rides", "is_lord", "leap", "ride"]
theorem sc_Kind___init__ : FnScope n_Kind___init__ ["self", "name", "leaps", "rides", "is_lord"] (defScope s_Kind___init__) := ⟨rfl, rfl, rfl, by decide +kernel, rfl, by decide +kernel, by decide +kernel⟩
abbrev s_Kind___str__ : Stmt := inClass (top 31) 2
abbrev n_Kind___str__ : List Str := ["self", "words", "across", "up"]
theorem sc_Kind___str__ : FnScope n_Kind___str__ ["self"] (defScope s_Kind___str__) := ⟨rfl, rfl, rfl, by decide +kernel, rfl, by decide +kernel, by decide +kernel⟩
abbrev s_are_leaps : Stmt := top 32
abbrev n_are_leaps : List Str := ["value", "leap"]
theorem sc_are_leaps : FnScope n_are_leaps ["value"] (defScope s_are_leaps) := ⟨rfl, rfl, rfl, by decide +kernel, rfl, by decide +kernel, by decide +kernel⟩
abbrev s_is_leap : Stmt := top 33
abbrev n_is_leap : List Str := ["value", "across", "up"]
theorem sc_is_leap : FnScope n_is_leap ["value"] (defScope s_is_leap) := ⟨rfl, rfl, rfl, by decide +kernel, rfl, by decide +kernel, by decide +kernel⟩
abbrev s_is_leap_part : Stmt := top 34
abbrev n_is_leap_part : List Str := ["value"]
theorem sc_is_leap_part : FnScope n_is_leap_part ["value"] (defScope s_is_leap_part) := ⟨rfl, rfl, rfl, by decide +kernel, rfl, by decide +kernel, by decide +kernel⟩
abbrev s_are_rides : Stmt := top 35
abbrev n_are_rides : List Str := ["value", "ride"]
theorem sc_are_rides : FnScope n_are_rides ["value"] (defScope s_are_rides) := ⟨rfl, rfl, rfl, by decide +kernel, rfl, by decide +kernel, by decide +kernel⟩
abbrev s_is_ride : Stmt := top 36
abbrev n_is_ride : List Str := ["value"]
theorem sc_is_ride : FnScope n_is_ride ["value"] (defScope s_is_ride) := ⟨rfl, rfl, rfl, by decide +kernel, rfl, by decide +kernel, by decide +kernel⟩
abbrev s_Game___init__ : Stmt := inClass (top 44) 0
abbrev n_Game___init__ : List Str := ["self", "kinds", "edges", "goal", "kind", "across", "up"]
theorem sc_Game___init__ : FnScope n_Game___init__ ["self", "kinds", "edges", "goal"] (defScope s_Game___init__) := ⟨rfl, rfl, rfl, by decide +kernel, rfl, by decide +kernel, by decide +kernel⟩
abbrev s_Game___str__ : Stmt := inClass (top 44) 2
abbrev n_Game___str__ : List Str := ["self", "rows", "kind", "side", "edge"]
theorem sc_Game___str__ : FnScope n_Game___str__ ["self"] (defScope s_Game___str__) := ⟨rfl, rfl, rfl, by decide +kernel, rfl, by decide +kernel, by decide +kernel⟩
abbrev s_are_kinds : Stmt := top 45
abbrev n_are_kinds : List Str := ["value", "kind"]
theorem sc_are_kinds : FnScope n_are_kinds ["value"] (defScope s_are_kinds) := ⟨rfl, rfl, rfl, by decide +kernel, rfl, by decide +kernel, by decide +kernel⟩
abbrev s_are_edges : Stmt := top 46
abbrev n_are_edges : List Str := ["value", "edge", "left", "right", "low", "high"]
theorem sc_are_edges : FnScope n_are_edges ["value"] (defScope s_are_edges) := ⟨rfl, rfl, rfl, by decide +kernel, rfl, by decide +kernel, by decide +kernel⟩
abbrev s_is_not_above : Stmt := top 47
abbrev n_is_not_above : List Str := ["least", "most"]
theorem sc_is_not_above : FnScope n_is_not_above ["least", "most"] (defScope s_is_not_above) := ⟨rfl, rfl, rfl, by decide +kernel, rfl, by decide +kernel, by decide +kernel⟩
abbrev s_is_goal : Stmt := top 48
abbrev n_is_goal : List Str := ["kinds", "edges", "value", "word", "words", "kind", "sides", "side", "edge"]
theorem sc_is_goal : FnScope n_is_goal ["kinds", "edges", "value"] (defScope s_is_goal) := ⟨rfl, rfl, rfl, by decide +kernel, rfl, by decide +kernel, by decide +kernel⟩
abbrev s_is_between : Stmt := top 49
abbrev n_is_between : List Str := ["edges", "square", "left", "right", "low", "high", "column", "row"]
theorem sc_is_between : FnScope n_is_between ["edges", "square"] (defScope s_is_between) := ⟨rfl, rfl, rfl, by decide +kernel, rfl, by decide +kernel, by decide +kernel⟩
abbrev s_Position___init__ : Stmt := inClass (top 60) 0
abbrev n_Position___init__ : List Str := ["self", "game", "pieces", "stones", "turn", "piece", "stone"]
theorem sc_Position___init__ : FnScope n_Position___init__ ["self", "game", "pieces", "stones", "turn"] (defScope s_Position___init__) := ⟨rfl, rfl, rfl, by decide +kernel, rfl, by decide +kernel, by decide +kernel⟩
abbrev s_Position___str__ : Stmt := inClass (top 60) 2
abbrev n_Position___str__ : List Str := ["self", "rows", "hand", "name", "column", "row"]
theorem sc_Position___str__ : FnScope n_Position___str__ ["self"] (defScope s_Position___str__) := ⟨rfl, rfl, rfl, by decide +kernel, rfl, by decide +kernel, by decide +kernel⟩
abbrev s_need_position : Stmt := top 61
abbrev n_need_position : List Str := ["value", "part"]
theorem sc_need_position : FnScope n_need_position ["value", "part"] (defScope s_need_position) := ⟨rfl, rfl, rfl, by decide +kernel, rfl, by decide +kernel, by decide +kernel⟩
abbrev s_are_pieces : Stmt := top 62
abbrev n_are_pieces : List Str := ["game", "value", "piece"]
theorem sc_are_pieces : FnScope n_are_pieces ["game", "value"] (defScope s_are_pieces) := ⟨rfl, rfl, rfl, by decide +kernel, rfl, by decide +kernel, by decide +kernel⟩
abbrev s_is_piece : Stmt := top 63
abbrev n_is_piece : List Str := ["game", "value", "hand", "name", "column", "row"]
theorem sc_is_piece : FnScope n_is_piece ["game", "value"] (defScope s_is_piece) := ⟨rfl, rfl, rfl, by decide +kernel, rfl, by decide +kernel, by decide +kernel⟩
abbrev s_are_stones : Stmt := top 64
abbrev n_are_stones : List Str := ["value", "stone"]
theorem sc_are_stones : FnScope n_are_stones ["value"] (defScope s_are_stones) := ⟨rfl, rfl, rfl, by decide +kernel, rfl, by decide +kernel, by decide +kernel⟩
abbrev s_do_pieces_fit : Stmt := top 65
abbrev n_do_pieces_fit : List Str := ["game", "pieces", "squares", "of_lords", "hand", "name", "_"]
theorem sc_do_pieces_fit : FnScope n_do_pieces_fit ["game", "pieces"] (defScope s_do_pieces_fit) := ⟨rfl, rfl, rfl, by decide +kernel, rfl, by decide +kernel, by decide +kernel⟩
abbrev s_do_stones_fit : Stmt := top 66
abbrev n_do_stones_fit : List Str := ["game", "pieces", "stones", "squares", "stone"]
theorem sc_do_stones_fit : FnScope n_do_stones_fit ["game", "pieces", "stones"] (defScope s_do_stones_fit) := ⟨rfl, rfl, rfl, by decide +kernel, rfl, by decide +kernel, by decide +kernel⟩
abbrev s_squares_of : Stmt := top 67
abbrev n_squares_of : List Str := ["pieces", "_", "column", "row"]
theorem sc_squares_of : FnScope n_squares_of ["pieces"] (defScope s_squares_of) := ⟨rfl, rfl, rfl, by decide +kernel, rfl, by decide +kernel, by decide +kernel⟩
abbrev s_are_on_field : Stmt := top 68
abbrev n_are_on_field : List Str := ["game", "squares", "square"]
theorem sc_are_on_field : FnScope n_are_on_field ["game", "squares"] (defScope s_are_on_field) := ⟨rfl, rfl, rfl, by decide +kernel, rfl, by decide +kernel, by decide +kernel⟩
abbrev s_standing_of : Stmt := top 69
abbrev n_standing_of : List Str := ["pieces", "stones", "standing", "hand", "name", "column", "row", "stone"]
theorem sc_standing_of : FnScope n_standing_of ["pieces", "stones"] (defScope s_standing_of) := ⟨rfl, rfl, rfl, by decide +kernel, rfl, by decide +kernel, by decide +kernel⟩
abbrev s_lords_of : Stmt := top 70
abbrev n_lords_of : List Str := ["game", "pieces", "lords", "hand", "name", "column", "row"]
theorem sc_lords_of : FnScope n_lords_of ["game", "pieces"] (defScope s_lords_of) := ⟨rfl, rfl, rfl, by decide +kernel, rfl, by decide +kernel, by decide +kernel⟩
abbrev s_turned : Stmt := top 82
abbrev n_turned : List Str := ["position", "left", "right", "low", "high", "edges", "kinds", "game"]
theorem sc_turned : FnScope n_turned ["position"] (defScope s_turned) := ⟨rfl, rfl, rfl, by decide +kernel, rfl, by decide +kernel, by decide +kernel⟩
abbrev s_mirrored : Stmt := top 83
abbrev n_mirrored : List Str := ["position", "left", "right", "low", "high", "edges", "kinds", "game"]
theorem sc_mirrored : FnScope n_mirrored ["position"] (defScope s_mirrored) := ⟨rfl, rfl, rfl, by decide +kernel, rfl, by decide +kernel, by decide +kernel⟩
abbrev s_moved : Stmt := top 84
abbrev n_moved : List Str := ["position", "across", "up", "ways", "edges", "edge", "way", "game"]
theorem sc_moved : FnScope n_moved ["position", "across", "up"] (defScope s_moved) := ⟨rfl, rfl, rfl, by decide +kernel, rfl, by decide +kernel, by decide +kernel⟩
abbrev s_gone_along : Stmt := top 85
abbrev n_gone_along : List Str := ["move", "how", "across", "up", "start", "end"]
theorem sc_gone_along : FnScope n_gone_along ["move", "how", "across", "up"] (defScope s_gone_along) := ⟨rfl, rfl, rfl, by decide +kernel, rfl, by decide +kernel, by decide +kernel⟩
abbrev s_need_way : Stmt := top 86
abbrev n_need_way : List Str := ["across", "up"]
theorem sc_need_way : FnScope n_need_way ["across", "up"] (defScope s_need_way) := ⟨rfl, rfl, rfl, by decide +kernel, rfl, by decide +kernel, by decide +kernel⟩
abbrev s_pair_along : Stmt := top 87
abbrev n_pair_along : List Str := ["pair", "how", "across", "up", "column", "row"]
theorem sc_pair_along : FnScope n_pair_along ["pair", "how", "across", "up"] (defScope s_pair_along) := ⟨rfl, rfl, rfl, by decide +kernel, rfl, by decide +kernel, by decide +kernel⟩
abbrev s__law_hinge : Stmt := top 93
abbrev n__law_hinge : List Str := ["script", "cell"]
theorem sc__law_hinge : FnScope n__law_hinge ["script"] (defScope s__law_hinge) := ⟨rfl, rfl, rfl, by decide +kernel, rfl, by decide +kernel, by decide +kernel⟩
abbrev s__law_swing : Stmt := top 94
abbrev n__law_swing : List Str := ["hinge", "many", "rest", "at", "cell", "mixed"]
theorem sc__law_swing : FnScope n__law_swing ["hinge", "many"] (defScope s__law_swing) := ⟨rfl, rfl, rfl, by decide +kernel, rfl, by decide +kernel, by decide +kernel⟩
abbrev s__law_one : Stmt := top 95
abbrev n__law_one : List Str := ["hinge", "some"]
theorem sc__law_one : FnScope n__law_one ["hinge", "some"] (defScope s__law_one) := ⟨rfl, rfl, rfl, by decide +kernel, rfl, by decide +kernel, by decide +kernel⟩
abbrev s__law_heard : Stmt := top 96
abbrev n__law_heard : List Str := ["ask", "caught", "error", "kinds"]
theorem sc__law_heard : FnScope n__law_heard ["ask"] (defScope s__law_heard) := ⟨rfl, rfl, rfl, by decide +kernel, rfl, by decide +kernel, by decide +kernel⟩
abbrev s_law : Stmt := top 97
abbrev n_law : List Str := ["script", "hinge", "position", "turn", "none", "odd", "bad", "how", "good", "move", "heard", "due", "going", "column", "row", "square"]
theorem sc_law : FnScope n_law ["script"] (defScope s_law) := ⟨rfl, rfl, rfl, by decide +kernel, rfl, by decide +kernel, by decide +kernel⟩
structure Tx (K : PySem.W.Frag) (mg : Str → Option Value) (w : World) where
  t_E : Addr
  s_E : ∀ H, SqT K H t_E []
  t_N4 : Addr
  s_N4 : ∀ H, SqT K H t_N4 [.non, .non, .non, .non]
  t_H1 : Addr
  s_H1 : ∀ H, SqT K H t_H1 [.str "hold"]
  t_PE : Addr
  s_PE : ∀ H, SqT K H t_PE []
  c_Kind : Addr
  c_Game : Addr
  c_Position : Addr
  c_FieldError : Addr
  c_BadNumber : Addr
  c_BadKind : Addr
  c_BadGame : Addr
  c_BadPosition : Addr
  c_BadMove : Addr
  c_BadWords : Addr
  c_Misfit : Addr
  a_is_integer : Addr
  d_is_integer : FuncData
  F_is_integer : Fun K "is_integer" "is_integer" s_is_integer a_is_integer d_is_integer
  m_is_integer : mg "is_integer" = some (.ref a_is_integer)
  b_is_integer : Binds K d_is_integer ["value"] []
  a_is_within : Addr
  d_is_within : FuncData
  F_is_within : Fun K "is_within" "is_within" s_is_within a_is_within d_is_within
  m_is_within : mg "is_within" = some (.ref a_is_within)
  b_is_within : Binds K d_is_within ["value", "least", "most"] []
  a_is_list : Addr
  d_is_list : FuncData
  F_is_list : Fun K "is_list" "is_list" s_is_list a_is_list d_is_list
  m_is_list : mg "is_list" = some (.ref a_is_list)
  b_is_list : Binds K d_is_list ["value"] []
  a_is_square : Addr
  d_is_square : FuncData
  F_is_square : Fun K "is_square" "is_square" s_is_square a_is_square d_is_square
  m_is_square : mg "is_square" = some (.ref a_is_square)
  b_is_square : Binds K d_is_square ["value"] []
  a_is_move : Addr
  d_is_move : FuncData
  F_is_move : Fun K "is_move" "is_move" s_is_move a_is_move d_is_move
  m_is_move : mg "is_move" = some (.ref a_is_move)
  b_is_move : Binds K d_is_move ["value"] []
  a_is_name : Addr
  d_is_name : FuncData
  F_is_name : Fun K "is_name" "is_name" s_is_name a_is_name d_is_name
  m_is_name : mg "is_name" = some (.ref a_is_name)
  b_is_name : Binds K d_is_name ["value"] []
  a_BadNumber___init__ : Addr
  d_BadNumber___init__ : FuncData
  F_BadNumber___init__ : Fun K "__init__" "BadNumber.__init__" s_BadNumber___init__ a_BadNumber___init__ d_BadNumber___init__
  b_BadNumber___init__ : Binds K d_BadNumber___init__ ["self", "part"] []
  a_BadKind___init__ : Addr
  d_BadKind___init__ : FuncData
  F_BadKind___init__ : Fun K "__init__" "BadKind.__init__" s_BadKind___init__ a_BadKind___init__ d_BadKind___init__
  b_BadKind___init__ : Binds K d_BadKind___init__ ["self", "part"] []
  a_BadGame___init__ : Addr
  d_BadGame___init__ : FuncData
  F_BadGame___init__ : Fun K "__init__" "BadGame.__init__" s_BadGame___init__ a_BadGame___init__ d_BadGame___init__
  b_BadGame___init__ : Binds K d_BadGame___init__ ["self", "part"] []
  a_BadPosition___init__ : Addr
  d_BadPosition___init__ : FuncData
  F_BadPosition___init__ : Fun K "__init__" "BadPosition.__init__" s_BadPosition___init__ a_BadPosition___init__ d_BadPosition___init__
  b_BadPosition___init__ : Binds K d_BadPosition___init__ ["self", "part"] []
  a_BadMove___init__ : Addr
  d_BadMove___init__ : FuncData
  F_BadMove___init__ : Fun K "__init__" "BadMove.__init__" s_BadMove___init__ a_BadMove___init__ d_BadMove___init__
  b_BadMove___init__ : Binds K d_BadMove___init__ ["self", "part"] []
  a_BadWords___init__ : Addr
  d_BadWords___init__ : FuncData
  F_BadWords___init__ : Fun K "__init__" "BadWords.__init__" s_BadWords___init__ a_BadWords___init__ d_BadWords___init__
  b_BadWords___init__ : Binds K d_BadWords___init__ ["self", "part"] []
  a_Misfit___init__ : Addr
  d_Misfit___init__ : FuncData
  F_Misfit___init__ : Fun K "__init__" "Misfit.__init__" s_Misfit___init__ a_Misfit___init__ d_Misfit___init__
  b_Misfit___init__ : Binds K d_Misfit___init__ ["self", "part"] []
  a_Kind___init__ : Addr
  d_Kind___init__ : FuncData
  F_Kind___init__ : FunD K "__init__" "Kind.__init__" (defArgs s_Kind___init__) (defBody s_Kind___init__) (defScope s_Kind___init__) [.ref t_E, .bl false] [] a_Kind___init__ d_Kind___init__
  a_Kind___str__ : Addr
  d_Kind___str__ : FuncData
  F_Kind___str__ : Fun K "__str__" "Kind.__str__" s_Kind___str__ a_Kind___str__ d_Kind___str__
  b_Kind___str__ : Binds K d_Kind___str__ ["self"] []
  a_are_leaps : Addr
  d_are_leaps : FuncData
  F_are_leaps : Fun K "are_leaps" "are_leaps" s_are_leaps a_are_leaps d_are_leaps
  m_are_leaps : mg "are_leaps" = some (.ref a_are_leaps)
  b_are_leaps : Binds K d_are_leaps ["value"] []
  a_is_leap : Addr
  d_is_leap : FuncData
  F_is_leap : Fun K "is_leap" "is_leap" s_is_leap a_is_leap d_is_leap
  m_is_leap : mg "is_leap" = some (.ref a_is_leap)
  b_is_leap : Binds K d_is_leap ["value"] []
  a_is_leap_part : Addr
  d_is_leap_part : FuncData
  F_is_leap_part : Fun K "is_leap_part" "is_leap_part" s_is_leap_part a_is_leap_part d_is_leap_part
  m_is_leap_part : mg "is_leap_part" = some (.ref a_is_leap_part)
  b_is_leap_part : Binds K d_is_leap_part ["value"] []
  a_are_rides : Addr
  d_are_rides : FuncData
  F_are_rides : Fun K "are_rides" "are_rides" s_are_rides a_are_rides d_are_rides
  m_are_rides : mg "are_rides" = some (.ref a_are_rides)
  b_are_rides : Binds K d_are_rides ["value"] []
  a_is_ride : Addr
  d_is_ride : FuncData
  F_is_ride : Fun K "is_ride" "is_ride" s_is_ride a_is_ride d_is_ride
  m_is_ride : mg "is_ride" = some (.ref a_is_ride)
  b_is_ride : Binds K d_is_ride ["value"] []
  a_Game___init__ : Addr
  d_Game___init__ : FuncData
  F_Game___init__ : FunD K "__init__" "Game.__init__" (defArgs s_Game___init__) (defBody s_Game___init__) (defScope s_Game___init__) [.ref t_N4, .ref t_H1] [] a_Game___init__ d_Game___init__
  a_Game___str__ : Addr
  d_Game___str__ : FuncData
  F_Game___str__ : Fun K "__str__" "Game.__str__" s_Game___str__ a_Game___str__ d_Game___str__
  b_Game___str__ : Binds K d_Game___str__ ["self"] []
  a_are_kinds : Addr
  d_are_kinds : FuncData
  F_are_kinds : Fun K "are_kinds" "are_kinds" s_are_kinds a_are_kinds d_are_kinds
  m_are_kinds : mg "are_kinds" = some (.ref a_are_kinds)
  b_are_kinds : Binds K d_are_kinds ["value"] []
  a_are_edges : Addr
  d_are_edges : FuncData
  F_are_edges : Fun K "are_edges" "are_edges" s_are_edges a_are_edges d_are_edges
  m_are_edges : mg "are_edges" = some (.ref a_are_edges)
  b_are_edges : Binds K d_are_edges ["value"] []
  a_is_not_above : Addr
  d_is_not_above : FuncData
  F_is_not_above : Fun K "is_not_above" "is_not_above" s_is_not_above a_is_not_above d_is_not_above
  m_is_not_above : mg "is_not_above" = some (.ref a_is_not_above)
  b_is_not_above : Binds K d_is_not_above ["least", "most"] []
  a_is_goal : Addr
  d_is_goal : FuncData
  F_is_goal : Fun K "is_goal" "is_goal" s_is_goal a_is_goal d_is_goal
  m_is_goal : mg "is_goal" = some (.ref a_is_goal)
  b_is_goal : Binds K d_is_goal ["kinds", "edges", "value"] []
  a_is_between : Addr
  d_is_between : FuncData
  F_is_between : Fun K "is_between" "is_between" s_is_between a_is_between d_is_between
  m_is_between : mg "is_between" = some (.ref a_is_between)
  b_is_between : Binds K d_is_between ["edges", "square"] []
  a_Position___init__ : Addr
  d_Position___init__ : FuncData
  F_Position___init__ : FunD K "__init__" "Position.__init__" (defArgs s_Position___init__) (defBody s_Position___init__) (defScope s_Position___init__) [.ref t_PE, .int 0] [] a_Position___init__ d_Position___init__
  a_Position___str__ : Addr
  d_Position___str__ : FuncData
  F_Position___str__ : Fun K "__str__" "Position.__str__" s_Position___str__ a_Position___str__ d_Position___str__
  b_Position___str__ : Binds K d_Position___str__ ["self"] []
  a_need_position : Addr
  d_need_position : FuncData
  F_need_position : Fun K "need_position" "need_position" s_need_position a_need_position d_need_position
  m_need_position : mg "need_position" = some (.ref a_need_position)
  b_need_position : Binds K d_need_position ["value", "part"] []
  a_are_pieces : Addr
  d_are_pieces : FuncData
  F_are_pieces : Fun K "are_pieces" "are_pieces" s_are_pieces a_are_pieces d_are_pieces
  m_are_pieces : mg "are_pieces" = some (.ref a_are_pieces)
  b_are_pieces : Binds K d_are_pieces ["game", "value"] []
  a_is_piece : Addr
  d_is_piece : FuncData
  F_is_piece : Fun K "is_piece" "is_piece" s_is_piece a_is_piece d_is_piece
  m_is_piece : mg "is_piece" = some (.ref a_is_piece)
  b_is_piece : Binds K d_is_piece ["game", "value"] []
  a_are_stones : Addr
  d_are_stones : FuncData
  F_are_stones : Fun K "are_stones" "are_stones" s_are_stones a_are_stones d_are_stones
  m_are_stones : mg "are_stones" = some (.ref a_are_stones)
  b_are_stones : Binds K d_are_stones ["value"] []
  a_do_pieces_fit : Addr
  d_do_pieces_fit : FuncData
  F_do_pieces_fit : Fun K "do_pieces_fit" "do_pieces_fit" s_do_pieces_fit a_do_pieces_fit d_do_pieces_fit
  m_do_pieces_fit : mg "do_pieces_fit" = some (.ref a_do_pieces_fit)
  b_do_pieces_fit : Binds K d_do_pieces_fit ["game", "pieces"] []
  a_do_stones_fit : Addr
  d_do_stones_fit : FuncData
  F_do_stones_fit : Fun K "do_stones_fit" "do_stones_fit" s_do_stones_fit a_do_stones_fit d_do_stones_fit
  m_do_stones_fit : mg "do_stones_fit" = some (.ref a_do_stones_fit)
  b_do_stones_fit : Binds K d_do_stones_fit ["game", "pieces", "stones"] []
  a_squares_of : Addr
  d_squares_of : FuncData
  F_squares_of : Fun K "squares_of" "squares_of" s_squares_of a_squares_of d_squares_of
  m_squares_of : mg "squares_of" = some (.ref a_squares_of)
  b_squares_of : Binds K d_squares_of ["pieces"] []
  a_are_on_field : Addr
  d_are_on_field : FuncData
  F_are_on_field : Fun K "are_on_field" "are_on_field" s_are_on_field a_are_on_field d_are_on_field
  m_are_on_field : mg "are_on_field" = some (.ref a_are_on_field)
  b_are_on_field : Binds K d_are_on_field ["game", "squares"] []
  a_standing_of : Addr
  d_standing_of : FuncData
  F_standing_of : Fun K "standing_of" "standing_of" s_standing_of a_standing_of d_standing_of
  m_standing_of : mg "standing_of" = some (.ref a_standing_of)
  b_standing_of : Binds K d_standing_of ["pieces", "stones"] []
  a_lords_of : Addr
  d_lords_of : FuncData
  F_lords_of : Fun K "lords_of" "lords_of" s_lords_of a_lords_of d_lords_of
  m_lords_of : mg "lords_of" = some (.ref a_lords_of)
  b_lords_of : Binds K d_lords_of ["game", "pieces"] []
  a_turned : Addr
  d_turned : FuncData
  F_turned : Fun K "turned" "turned" s_turned a_turned d_turned
  m_turned : mg "turned" = some (.ref a_turned)
  b_turned : Binds K d_turned ["position"] []
  a_mirrored : Addr
  d_mirrored : FuncData
  F_mirrored : Fun K "mirrored" "mirrored" s_mirrored a_mirrored d_mirrored
  m_mirrored : mg "mirrored" = some (.ref a_mirrored)
  b_mirrored : Binds K d_mirrored ["position"] []
  a_moved : Addr
  d_moved : FuncData
  F_moved : Fun K "moved" "moved" s_moved a_moved d_moved
  m_moved : mg "moved" = some (.ref a_moved)
  b_moved : Binds K d_moved ["position", "across", "up"] []
  a_gone_along : Addr
  d_gone_along : FuncData
  F_gone_along : FunD K "gone_along" "gone_along" (defArgs s_gone_along) (defBody s_gone_along) (defScope s_gone_along) [.int 0, .int 0] [] a_gone_along d_gone_along
  m_gone_along : mg "gone_along" = some (.ref a_gone_along)
  a_need_way : Addr
  d_need_way : FuncData
  F_need_way : Fun K "need_way" "need_way" s_need_way a_need_way d_need_way
  m_need_way : mg "need_way" = some (.ref a_need_way)
  b_need_way : Binds K d_need_way ["across", "up"] []
  a_pair_along : Addr
  d_pair_along : FuncData
  F_pair_along : Fun K "pair_along" "pair_along" s_pair_along a_pair_along d_pair_along
  m_pair_along : mg "pair_along" = some (.ref a_pair_along)
  b_pair_along : Binds K d_pair_along ["pair", "how", "across", "up"] []
  a__law_hinge : Addr
  d__law_hinge : FuncData
  F__law_hinge : Fun K "_law_hinge" "_law_hinge" s__law_hinge a__law_hinge d__law_hinge
  m__law_hinge : mg "_law_hinge" = some (.ref a__law_hinge)
  b__law_hinge : Binds K d__law_hinge ["script"] []
  a__law_swing : Addr
  d__law_swing : FuncData
  F__law_swing : Fun K "_law_swing" "_law_swing" s__law_swing a__law_swing d__law_swing
  m__law_swing : mg "_law_swing" = some (.ref a__law_swing)
  b__law_swing : Binds K d__law_swing ["hinge", "many"] []
  a__law_one : Addr
  d__law_one : FuncData
  F__law_one : Fun K "_law_one" "_law_one" s__law_one a__law_one d__law_one
  m__law_one : mg "_law_one" = some (.ref a__law_one)
  b__law_one : Binds K d__law_one ["hinge", "some"] []
  a__law_heard : Addr
  d__law_heard : FuncData
  F__law_heard : Fun K "_law_heard" "_law_heard" s__law_heard a__law_heard d__law_heard
  m__law_heard : mg "_law_heard" = some (.ref a__law_heard)
  b__law_heard : Binds K d__law_heard ["ask"] []
  a_law : Addr
  d_law : FuncData
  F_law : Fun K "law" "law" s_law a_law d_law
  m_law : mg "law" = some (.ref a_law)
  b_law : Binds K d_law ["script"] []
  m_Kind : mg "Kind" = some (.ref c_Kind)
  cl_Kind : Cls K c_Kind
  nF_Kind_name : NoAttr K c_Kind "name"
  nF_Kind_leaps : NoAttr K c_Kind "leaps"
  nF_Kind_rides : NoAttr K c_Kind "rides"
  nF_Kind_is_lord : NoAttr K c_Kind "is_lord"
  mk_Kind : Mk K c_Kind a_Kind___init__
  m_Game : mg "Game" = some (.ref c_Game)
  cl_Game : Cls K c_Game
  nF_Game_kinds : NoAttr K c_Game "kinds"
  nF_Game_edges : NoAttr K c_Game "edges"
  nF_Game_goal : NoAttr K c_Game "goal"
  nF_Game_table : NoAttr K c_Game "table"
  nF_Game_farthest : NoAttr K c_Game "farthest"
  mk_Game : Mk K c_Game a_Game___init__
  m_Position : mg "Position" = some (.ref c_Position)
  cl_Position : Cls K c_Position
  nF_Position_game : NoAttr K c_Position "game"
  nF_Position_pieces : NoAttr K c_Position "pieces"
  nF_Position_stones : NoAttr K c_Position "stones"
  nF_Position_turn : NoAttr K c_Position "turn"
  nF_Position_standing : NoAttr K c_Position "standing"
  nF_Position_lords : NoAttr K c_Position "lords"
  mk_Position : Mk K c_Position a_Position___init__
  m_FieldError : mg "FieldError" = some (.ref c_FieldError)
  ox_FieldError : OexC K c_FieldError
  xf_FieldError : XfC K c_FieldError
  m_BadNumber : mg "BadNumber" = some (.ref c_BadNumber)
  ox_BadNumber : OexC K c_BadNumber
  ic_BadNumber : PySem.W.findIn K (.ref c_BadNumber) "__init__" = some (some (.ref a_BadNumber___init__))
  ti_BadNumber : PySem.W.typeIn K (.ref a_BadNumber___init__) = some (.type "function")
  xf_BadNumber : XfC K c_BadNumber
  no_BadNumber_part : PySem.W.findIn K (.ref c_BadNumber) "part" = some none
  m_BadKind : mg "BadKind" = some (.ref c_BadKind)
  ox_BadKind : OexC K c_BadKind
  ic_BadKind : PySem.W.findIn K (.ref c_BadKind) "__init__" = some (some (.ref a_BadKind___init__))
  ti_BadKind : PySem.W.typeIn K (.ref a_BadKind___init__) = some (.type "function")
  xf_BadKind : XfC K c_BadKind
  no_BadKind_part : PySem.W.findIn K (.ref c_BadKind) "part" = some none
  m_BadGame : mg "BadGame" = some (.ref c_BadGame)
  ox_BadGame : OexC K c_BadGame
  ic_BadGame : PySem.W.findIn K (.ref c_BadGame) "__init__" = some (some (.ref a_BadGame___init__))
  ti_BadGame : PySem.W.typeIn K (.ref a_BadGame___init__) = some (.type "function")
  xf_BadGame : XfC K c_BadGame
  no_BadGame_part : PySem.W.findIn K (.ref c_BadGame) "part" = some none
  m_BadPosition : mg "BadPosition" = some (.ref c_BadPosition)
  ox_BadPosition : OexC K c_BadPosition
  ic_BadPosition : PySem.W.findIn K (.ref c_BadPosition) "__init__" = some (some (.ref a_BadPosition___init__))
  ti_BadPosition : PySem.W.typeIn K (.ref a_BadPosition___init__) = some (.type "function")
  xf_BadPosition : XfC K c_BadPosition
  no_BadPosition_part : PySem.W.findIn K (.ref c_BadPosition) "part" = some none
  m_BadMove : mg "BadMove" = some (.ref c_BadMove)
  ox_BadMove : OexC K c_BadMove
  ic_BadMove : PySem.W.findIn K (.ref c_BadMove) "__init__" = some (some (.ref a_BadMove___init__))
  ti_BadMove : PySem.W.typeIn K (.ref a_BadMove___init__) = some (.type "function")
  xf_BadMove : XfC K c_BadMove
  no_BadMove_part : PySem.W.findIn K (.ref c_BadMove) "part" = some none
  m_BadWords : mg "BadWords" = some (.ref c_BadWords)
  ox_BadWords : OexC K c_BadWords
  ic_BadWords : PySem.W.findIn K (.ref c_BadWords) "__init__" = some (some (.ref a_BadWords___init__))
  ti_BadWords : PySem.W.typeIn K (.ref a_BadWords___init__) = some (.type "function")
  xf_BadWords : XfC K c_BadWords
  no_BadWords_part : PySem.W.findIn K (.ref c_BadWords) "part" = some none
  m_Misfit : mg "Misfit" = some (.ref c_Misfit)
  ox_Misfit : OexC K c_Misfit
  ic_Misfit : PySem.W.findIn K (.ref c_Misfit) "__init__" = some (some (.ref a_Misfit___init__))
  ti_Misfit : PySem.W.typeIn K (.ref a_Misfit___init__) = some (.type "function")
  xf_Misfit : XfC K c_Misfit
  no_Misfit_part : PySem.W.findIn K (.ref c_Misfit) "part" = some none
  xm_BadPosition_FieldError : PySem.W.exmOne K (.ref c_BadPosition) (.ref c_FieldError) = some true
  xm_BadMove_FieldError : PySem.W.exmOne K (.ref c_BadMove) (.ref c_FieldError) = some true
  xm_BadWords_FieldError : PySem.W.exmOne K (.ref c_BadWords) (.ref c_FieldError) = some true
  xm_BadNumber_FieldError : PySem.W.exmOne K (.ref c_BadNumber) (.ref c_FieldError) = some true
  z_isinstance : mg "isinstance" = none
  z_int : mg "int" = none
  z_bool : mg "bool" = none
  z_list : mg "list" = none
  z_tuple : mg "tuple" = none
  z_len : mg "len" = none
  z_str : mg "str" = none
  z_all : mg "all" = none
  z_sorted : mg "sorted" = none
  z_set : mg "set" = none
  z_abs : mg "abs" = none
  z_range : mg "range" = none
  z_repr : mg "repr" = none
  z_max : mg "max" = none
  z_zip : mg "zip" = none
  ty_Kind : Gs.TyC K c_Kind
  ty_Game : Gs.TyC K c_Game
  kk_Kind : PySem.W.kitOne K (.ref c_Kind) (.ref c_Kind) = some true
  kk_Game : PySem.W.kitOne K (.ref c_Game) (.ref c_Game) = some true
  kn_Game : ∀ t ∈ (["list", "str", "NoneType", "int", "bool", "tuple", "dict"] : List String), PySem.W.kitOne K (.type t) (.ref c_Game) = some false
  b5_Kind : Binds K d_Kind___init__ ["self", "name", "leaps", "rides", "is_lord"] []
  b4_Game : Binds K d_Game___init__ ["self", "kinds", "edges", "goal"] []
  b5_Position : Binds K d_Position___init__ ["self", "game", "pieces", "stones", "turn"] []
  ty_Position : Gs.TyC K c_Position
  kk_Position : PySem.W.kitOne K (.ref c_Position) (.ref c_Position) = some true
  kg_Position : PySem.W.kitOne K (.ref c_Game) (.ref c_Position) = some false
  kn_Position : ∀ t ∈ (["list", "str", "NoneType", "int", "bool", "tuple", "dict"] : List String), PySem.W.kitOne K (.type t) (.ref c_Position) = some false
  of_Kind : Gs.OwnF K c_Kind a_Kind___str__
  os_Game : Gs.OwnS K c_Game a_Game___str__
  os_Position : Gs.OwnS K c_Position a_Position___str__
  g_MP : ∃ t, mg "MOST_PIECES" = some (.int 16 t)
  g_MS : ∃ t, mg "MOST_STONES" = some (.int 16 t)
  t_WY : Addr
  g_WY : mg "WAYS" = some (.ref t_WY)
  s_WY : ∀ H, SqT K H t_WY [.str "turned", .str "mirrored", .str "moved"]
  kk : ∀ (i j : Nat) (a b : Addr), ([c_BadPosition, c_BadMove, c_BadWords, c_BadNumber] : List Addr)[i]? = some a → ([c_BadPosition, c_BadMove, c_BadWords, c_BadNumber] : List Addr)[j]? = some b → PySem.W.kitOne K (.ref b) (.ref a) = some (decide (i = j))
  xc : ∀ a ∈ ([c_BadPosition, c_BadMove, c_BadWords, c_BadNumber] : List Addr), ExcC K a
  kN : ∀ a ∈ ([c_BadPosition, c_BadMove, c_BadWords, c_BadNumber] : List Addr), PySem.W.kitOne K (.type "NoneType") (.ref a) = some false
  g_LETTERS : ∃ t, mg "LETTERS" = some (.str "abcdefghijklmnopqrstuvwxyz" t)
  g_LONGEST : ∃ t, mg "LONGEST_NAME" = some (.int 8 t)
  g_LEAP : ∃ t, mg "LONGEST_LEAP" = some (.int 3 t)
  g_MK : ∃ t, mg "MOST_KINDS" = some (.int 8 t)
  t_B : Addr
  g_B : mg "BARRED_NAMES" = some (.ref t_B)
  s_B : ∀ H, SqT K H t_B [.str "lord", .str "leaps", .str "rides", .str "stone"]
  t_SD : Addr
  g_SD : mg "SIDES" = some (.ref t_SD)
  s_SD : ∀ H, SqT K H t_SD [.str "left", .str "right", .str "low", .str "high"]
  t_S : Addr
  g_S : mg "STEPS" = some (.ref t_S)
  t_R : Addr
  t_L : Addr
  t_U : Addr
  t_D : Addr
  s_R : ∀ H, SqT K H t_R [.int 1, .int 0]
  s_L : ∀ H, SqT K H t_L [.int (-1), .int 0]
  s_U : ∀ H, SqT K H t_U [.int 0, .int 1]
  s_D : ∀ H, SqT K H t_D [.int 0, .int (-1)]
  w_S : WD K w t_S [("right", .ref t_R), ("left", .ref t_L), ("up", .ref t_U), ("down", .ref t_D)]
end K57

set_option Elab.async false
set_option linter.all false
set_option maxRecDepth 100000
set_option maxHeartbeats 4000000
namespace K57
open PySem PySem.Spec PyProof.Rows L2 Gs
def matB (K : PySem.W.Frag) (cs : List Addr) : Bool := cs.all fun a => cs.all fun b => decide (PySem.W.kitOne K (.ref b) (.ref a) = some (decide (a = b)))
def xcB (K : PySem.W.Frag) (D : Addr) : Bool := decide (PySem.W.findIn K (.ref D) "__getattribute__" = some (some (.builtin "BaseException.__getattribute__"))) && (decide (PySem.W.findIn K (.ref D) "__getattr__" = some none) && (decide (PySem.W.subIn K (.ref D) (.type "BaseException") = some true) && (PySem.W.hasDictIn K D &&
  (decide (PySem.W.findIn K (.ref D) "__class__" = some (some (.builtin "object.__class__"))) && (decide (PySem.W.specialIn K (.builtin "object.__class__") "__get__" = some (some (.builtin "getset_descriptor.__get__"))) && (decide (PySem.W.takesIn K (.builtin "object.__class__") = some true) && decide (PySem.W.mroIn K D (.type "object") = some true)))))))
end K57

set_option Elab.async false
set_option linter.all false
set_option maxRecDepth 100000
set_option maxHeartbeats 4000000
/-! The end of a law where the top is run in one go (Head2) and what it leaves is told by a Bool (HeadHook4). -/
namespace Gs
open PySem PySem.Spec PyProof.Rows L2
section
variable {K : PySem.W.Frag}
/-- a def without defaults, in its parts -/
theorem rawF {n q : Str} {p : Arguments} {b : List Stmt} {s : Scope} {f : Addr} {fd : FuncData} (F : FunD K n q p b s [] [] f fd) :
    ∃ (oc : Value) (od an : Option Addr) (sl : Array (Option Value)) (kV dc pm cd ct : Value), K.lookup f = some ⟨oc, od, .func (PySem.W.fnOf n q p b s .none kV dc pm an cd ct), sl⟩ ∧ PySem.W.codeIn K cd q = true ∧ PySem.W.keepIn K (.ref f) = true := by
  obtain ⟨⟨oc, od, dV, kV, dc, pm, an, cd, ct, sl, rfl, lk, hc, hd, _⟩, kp⟩ := F
  rcases hd with ⟨_, rfl⟩ | ⟨z, _⟩
  · exact ⟨oc, od, an, sl, kV, dc, pm, cd, ct, lk, hc, kp⟩
  · exact absurd rfl z
/-- where the defaults of the def at p stand -/
def dfTup (K : PySem.W.Frag) (p : Str × Option Str) : Addr := match (K.lookup (He.fAd K p)).map (fun o : Obj => o.data) with
  | some (.func fd) => (He.refV fd.defaults).headD 0
  | _ => 0
theorem rawD {p0 : Str × Option Str} {n q : Str} {p : Arguments} {b : List Stmt} {s : Scope} {fd : FuncData} {v : V} {vs : List V} (F : FunD K n q p b s (v :: vs) [] (He.fAd K p0) fd) :
    ∃ (oc : Value) (od an : Option Addr) (sl : Array (Option Value)) (kV dc pm cd ct : Value), K.lookup (He.fAd K p0) = some ⟨oc, od, .func (PySem.W.fnOf n q p b s (.ref (dfTup K p0)) kV dc pm an cd ct), sl⟩ ∧ PySem.W.codeIn K cd q = true ∧ PySem.W.keepIn K (.ref (He.fAd K p0)) = true := by
  obtain ⟨⟨oc, od, dV, kV, dc, pm, an, cd, ct, sl, rfl, lk, hc, hd, _⟩, kp⟩ := F
  rcases hd with ⟨z, _⟩ | ⟨_, T, o, its, m, rfl, _⟩
  · cases z
  · have e : dfTup K p0 = T := by unfold dfTup; rw [lk]; rfl
    rw [e]
    exact ⟨oc, od, an, sl, kV, dc, pm, cd, ct, lk, hc, kp⟩
/-- a tuple that the top made -/
def tupC (K : PySem.W.Frag) (a : Addr) (vs : List V) : Bool := match K.lookup a with
  | some ⟨.type t, _, .seq xs _, _⟩ => decide (t = "tuple") && (decide (xs.size ≤ sizeLine) && He.relAll vs xs.toList)
  | _ => false
theorem tupC_ok {a : Addr} {vs : List V} (h : tupC K a vs = true) : ∃ (O : Option Addr) (I : Array Value) (N : Nat) (S : Array (Option Value)), K.lookup a = some ⟨.type "tuple", O, .seq I N, S⟩ ∧ I.size ≤ sizeLine ∧ Vals vs I.toList := by
  unfold tupC at h
  split at h
  · rename_i t O xs N S lk
    obtain ⟨h1, h⟩ := Bool.and_eq_true_iff.mp h
    obtain ⟨h2, h3⟩ := Bool.and_eq_true_iff.mp h
    have h1 := of_decide_eq_true h1
    subst h1
    exact ⟨O, xs, N, S, lk, of_decide_eq_true h2, He.relAll_ok h3⟩
  · cases h
def strC (K : PySem.W.Frag) (x z : Str) : Bool := match PySem.W.nsIn K mainGlobals x with
  | some (some (.str y _)) => decide (y = z)
  | _ => false
theorem strC_ok {x z : Str} (h : strC K x z = true) : ∃ t, PySem.W.nsIn K mainGlobals x = some (some (.str z t)) := by
  unfold strC at h
  split at h
  · rename_i y t e
    rw [of_decide_eq_true h] at e
    exact ⟨t, e⟩
  · cases h
def intC (K : PySem.W.Frag) (x : Str) (i : Int) : Bool := match PySem.W.nsIn K mainGlobals x with
  | some (some (.int j _)) => decide (j = i)
  | _ => false
theorem intC_ok {x : Str} {i : Int} (h : intC K x i = true) : ∃ t, PySem.W.nsIn K mainGlobals x = some (some (.int i t)) := by
  unfold intC at h
  split at h
  · rename_i j t e
    rw [of_decide_eq_true h] at e
    exact ⟨t, e⟩
  · cases h
/-- an own error's class -/
def xcC (K : PySem.W.Frag) (C : Addr) : Bool := match K.lookup C with
  | some ⟨.type t, _, .cls ⟨_, _, .ref D :: bm, _, _, hd, _, _, _, _, del⟩, sl⟩ => decide (t = "type") && (decide (D = C) && (hd && (!del && (PySem.HandSPX.refsVE bm && (match sl.toList with
    | [_, _, _, _, some (.builtin n), _] => decide (n = "ValueError.__new__")
    | _ => false)))))
  | _ => false
theorem xcC_ok {C : Addr} (h : xcC K C = true) : ∃ (nm q : Str) (N : Addr) (bs bm : List Value) (sn : List Str) (sub : List Value) (ab : Bool) (col : Option Bool) (dd : Option Addr) (m0 m1 m2 m3 m5 : Option Value),
    K.lookup C = some (excClassObj nm q C N bs bm true sn sub ab col dd m0 m1 m2 m3 m5 "ValueError.__new__") ∧ PySem.HandSPX.refsVE bm = true := by
  unfold xcC at h
  split at h
  · rename_i t dd nm bs D bm N q hd sn sub ab col del sl lk
    obtain ⟨h1, h⟩ := Bool.and_eq_true_iff.mp h
    obtain ⟨h2, h⟩ := Bool.and_eq_true_iff.mp h
    obtain ⟨h3, h⟩ := Bool.and_eq_true_iff.mp h
    obtain ⟨h4, h⟩ := Bool.and_eq_true_iff.mp h
    obtain ⟨h5, h6⟩ := Bool.and_eq_true_iff.mp h
    have h1 := of_decide_eq_true h1
    have h2 := of_decide_eq_true h2
    have h4 : del = false := by simpa using h4
    subst h1 h2 h3 h4
    split at h6
    · rename_i k0 k1 k2 k3 n k5 hs
      have h6 := of_decide_eq_true h6
      subst h6
      have hsl : sl = #[k0, k1, k2, k3, some (.builtin "ValueError.__new__"), k5] := by
        obtain ⟨l⟩ := sl
        simp only at hs
        rw [hs]
      subst hsl
      exact ⟨nm, q, N, bs, bm, sn, sub, ab, col, dd, k0, k1, k2, k3, k5, lk, h5⟩
    · cases h6
  · cases h
/-- a dict's entries -/
def entL : List DictEntry → List (Str × Addr) → Bool
  | [], [] => true
  | e :: r, (k, b) :: s => (match e.key with
    | .str x _ => decide (x = k)
    | _ => false) && (He.relB (.ref b) e.val && entL r s)
  | _, _ => false
theorem entL_ok : ∀ {l : List DictEntry} {s : List (Str × Addr)}, entL l s = true → l.length = s.length ∧ ∀ (i : Nat) (k : Str) (b : Addr), s[i]? = some (k, b) → ∃ (en : DictEntry) (t : Tok), l[i]? = some en ∧ en.key = Value.str k t ∧ RelV (.ref b) en.val
  | [], [], _ => ⟨rfl, fun i k b z => by cases z⟩
  | [], _ :: _, h => by cases h
  | _ :: _, [], h => by cases h
  | e :: r, (k, b) :: s, h => by
    obtain ⟨h1, h⟩ := Bool.and_eq_true_iff.mp h
    obtain ⟨h2, h3⟩ := Bool.and_eq_true_iff.mp h
    obtain ⟨l1, l2⟩ := entL_ok h3
    refine ⟨by rw [List.length_cons, List.length_cons, l1], fun i k' b' z => ?_⟩
    cases i with
    | zero =>
      cases z
      split at h1
      · rename_i x t q
        exact ⟨e, t, rfl, by rw [q, of_decide_eq_true h1], He.relB_ok h2⟩
      · cases h1
    | succ i => exact l2 i k' b' z
def entC (K : PySem.W.Frag) (a : Addr) (s : List (Str × Addr)) : Bool := match (K.lookup a).map (fun o : Obj => o.data) with
  | some (.dict es _) => entL es.toList s
  | _ => false
theorem entC_ok {a : Addr} {s : List (Str × Addr)} {es : Array DictEntry} {n : Nat} {t : Value} {o : Option Addr} {sl : Array (Option Value)} (h : entC K a s = true) (lk : K.lookup a = some ⟨t, o, .dict es n, sl⟩) :
    es.size = s.length ∧ ∀ (i : Nat) (k : Str) (b : Addr), s[i]? = some (k, b) → ∃ (en : DictEntry) (t : Tok), es[i]? = some en ∧ en.key = Value.str k t ∧ RelV (.ref b) en.val := by
  unfold entC at h
  rw [lk] at h
  obtain ⟨h1, h2⟩ := entL_ok (show entL es.toList s = true from h)
  exact ⟨by rw [← h1]; simp, fun i k b z => by
    obtain ⟨en, t, e1, e2, e3⟩ := h2 i k b z
    exact ⟨en, t, by simpa using e1, e2, e3⟩⟩
/-- the i-th value of the dict at a -/
def dvalAt (K : PySem.W.Frag) (a : Addr) (i : Nat) : Addr := match (K.lookup a).map (fun o : Obj => o.data) with
  | some (.dict es _) => ((es.toList[i]?).map fun e => (He.refV e.val).headD 0).getD 0
  | _ => 0
end
/-- what is looked at: the objects at these addresses -/
def obR (as : List Addr) (fn : List He.DefD) (ts : List He.Tab) (tf : List He.Defn) (ex : PySem.W.Frag → Bool) (g : Addr → Option Obj) : He.AlX :=
  (He.obsT [] fn ts (He.frT g as), (ex (He.frT g as) && He.tabsB g tf (He.frT g as)))
theorem obR_says {as : List Addr} {fn : List He.DefD} {ts : List He.Tab} {tf : List He.Defn} {ex : PySem.W.Frag → Bool} {w : World} {h : Heap} (e : obR as fn ts tf ex h.get? = He.valX fn ts w) : He.SaysX [] fn ts tf ex w h (He.frT h.get? as) := by
  obtain ⟨e1, e2⟩ := Prod.mk.inj (show ((He.obsT [] fn ts (He.frT h.get? as), (ex (He.frT h.get? as) && He.tabsB h.get? tf (He.frT h.get? as))) : He.AlX) = (He.valT fn ts w, true) from e)
  obtain ⟨h1, h2⟩ := Bool.and_eq_true_iff.mp e2
  have tab : ∀ p ∈ tf, PySem.W.codeHdIn (He.frT h.get? as) (He.cT (He.frT h.get? as) p).1 (He.cT (He.frT h.get? as) p).2 = true ∧ ∃ o, h.get? (He.cT (He.frT h.get? as) p).2 = some o ∧ He.emptyTab o = true := fun p hp => by
    obtain ⟨z1, z2⟩ := Bool.and_eq_true_iff.mp (List.all_eq_true.mp h2 p hp)
    refine ⟨z1, ?_⟩
    split at z2
    · rename_i o q
      exact ⟨o, q, z2⟩
    · cases z2
  refine ⟨e1, h1, fun p hp => (tab p hp).1, fun p hp => ?_, fun p hp => ?_⟩
  · obtain ⟨o, q, z⟩ := (tab p hp).2
    exact He.frT_none q z
  · obtain ⟨o, q, z⟩ := (tab p hp).2
    rw [He.emptyTab_eq z] at q
    exact q
def hookR (as : List Addr) (fn : List He.DefD) (ts : List He.Tab) (tf : List He.Defn) (ex : PySem.W.Frag → Bool) : PySem.W.Hook :=
  { α := He.AlX, obs := fun s => obR as fn ts tf ex s.heap.get?, val := fun w => He.valX fn ts w, says := fun w h => ∃ K : PySem.W.Frag, K.In h ∧ He.SaysX [] fn ts tf ex w h K,
    of := fun _ _ e => ⟨_, He.frT_in, obR_says e⟩,
    keeps := fun _ _ _ q k => q.elim fun K z => ⟨K, PySem.W.Frag.In.keeps z.1 k, ⟨z.2.t, z.2.more, z.2.hd, z.2.out, fun p hp => k _ _ (z.2.empty p hp)⟩⟩ }
theorem obR_eq {as : List Addr} {fn : List He.DefD} {ts : List He.Tab} {tf : List He.Defn} {ex : PySem.W.Frag → Bool} {g : Addr → Option Obj} {s : Shared} (h : ∀ a, g a = s.heap.get? a) : obR as fn ts tf ex g = (hookR as fn ts tf ex).obs s := by
  obtain rfl : g = s.heap.get? := funext h
  rfl
/-- a law whose code and one more def's code have a table -/
theorem walkHd2 {l : PySem.W.OpenLaw} {k : Nat} {q : Program} {loose : List Str} {XP : (Str → Option Value) → Heap → Prop} {YP : World → Heap → Prop} {d : DefRec}
    {sp : PySem.W.Frag → Addr → Addr → Sp} {x : Str} (hn : l.most = some 63) (hdf : d.params.defaults = []) (hr : Room k callerA)
    (F : ∀ (w : World) (mg : Str → Option Value) (fa : Addr) (h : Heap), YP w h → h.Ns mainGlobals mg → mg d.name = some (.ref fa) →
      ∃ (K : PySem.W.Frag) (fd : FuncData) (cc cc2 T T2 : Addr), K.In h ∧ h.get? T = some { cls := .none, data := .fields #[] } ∧ h.get? T2 = some { cls := .none, data := .fields #[] } ∧ (∀ (s : Shared) (u : Value), BindsTo s fd ⟨[u], []⟩ [(x, u)]) ∧ K.lookup T = none ∧ PySem.W.codeHdIn K cc T = true ∧ K.lookup T2 = none ∧ PySem.W.codeHdIn K cc2 T2 = true ∧
        ∀ base : Heap, K.In base → base.Ns mainGlobals mg → LamX.TabB base mg cc T → LamX.TabB base mg cc2 T2 → FnG l.prog w K mg base CX0 k fa fd [x] (sp K T T2))
    (hsp : ∀ (K : PySem.W.Frag) (T T2 : Addr) (H : Hp) (a : Addr) (ns : List Int), ns.length ≤ 63 → H T = some (.tbl #[]) → H T2 = some (.tbl #[]) → SqL K H a (ns.map V.int) → sp K T T2 [.ref a] H (fun v _ => v = .bl true) fun _ _ _ => False) :
    PySem.W.WalkO q loose XP YP l.row.toRowW d [] (fun f vs => PySem.call f vs) := by
  refine Att.attach_call hn hdf (fun w s₀ s₁ mg mb fa o pm cd doc a vs ns G Y ho hd hcd hmg hobj hints hlen hg => ?_)
  obtain ⟨K, fd, cc, cc2, T, T2, KX, hT, hT2, hb, nT, hc, nT2, hc2, hF⟩ := F w mg fa _ Y G.T.g hmg
  exact law_callGT2 KX G.T.g G.T.b G.T.builtins G.T.nolimit hg hT nT (PySem.W.codeHd_of_K KX hc) hT2 nT2 (PySem.W.codeHd_of_K KX hc2) G.T.bmain hobj hints (Nat.le_trans hlen (by decide)) hr hF hb (fun H hHT hHT2 hS => hsp _ _ _ H a ns hlen hHT hHT2 hS) (fun _ _ _ h => h)
end Gs

set_option Elab.async false
set_option linter.all false
set_option maxRecDepth 100000
set_option maxHeartbeats 0
namespace K57
open PySem PySem.Spec PyProof.Rows L2 Gs
def e0 (K : PySem.W.Frag) : Bool := decide (PySem.W.nsIn K mainGlobals "Kind" = some (some (.ref (He.ga K "Kind")))) && decide (PySem.W.plainGet K (He.ga K "Kind") Str.empty = true) && decide (PySem.W.hasDictIn K (He.ga K "Kind") = true) && decide (PySem.W.plainOver K (He.ga K "Kind") = true) && decide (PySem.W.findIn K (.ref (He.ga K "Kind")) "__setattr__" = some (some (.builtin "object.__setattr__"))) && decide (PySem.W.makesIn K (He.ga K "Kind") = true) && decide (PySem.W.keepIn K (.ref (He.ga K "Kind")) = true) && decide (PySem.W.findIn K (.ref (He.ga K "Kind")) "name" = some none)
def e1 (K : PySem.W.Frag) : Bool := decide (PySem.W.findIn K (.ref (He.ga K "Kind")) "leaps" = some none) && decide (PySem.W.findIn K (.ref (He.ga K "Kind")) "rides" = some none) && decide (PySem.W.findIn K (.ref (He.ga K "Kind")) "is_lord" = some none) && decide (PySem.W.nsIn K mainGlobals "Game" = some (some (.ref (He.ga K "Game")))) && decide (PySem.W.plainGet K (He.ga K "Game") Str.empty = true) && decide (PySem.W.hasDictIn K (He.ga K "Game") = true) && decide (PySem.W.plainOver K (He.ga K "Game") = true) && decide (PySem.W.findIn K (.ref (He.ga K "Game")) "__setattr__" = some (some (.builtin "object.__setattr__")))
def e2 (K : PySem.W.Frag) : Bool := decide (PySem.W.makesIn K (He.ga K "Game") = true) && decide (PySem.W.keepIn K (.ref (He.ga K "Game")) = true) && decide (PySem.W.findIn K (.ref (He.ga K "Game")) "kinds" = some none) && decide (PySem.W.findIn K (.ref (He.ga K "Game")) "edges" = some none) && decide (PySem.W.findIn K (.ref (He.ga K "Game")) "goal" = some none) && decide (PySem.W.findIn K (.ref (He.ga K "Game")) "table" = some none) && decide (PySem.W.findIn K (.ref (He.ga K "Game")) "farthest" = some none) && decide (PySem.W.nsIn K mainGlobals "Position" = some (some (.ref (He.ga K "Position"))))
def e3 (K : PySem.W.Frag) : Bool := decide (PySem.W.plainGet K (He.ga K "Position") Str.empty = true) && decide (PySem.W.hasDictIn K (He.ga K "Position") = true) && decide (PySem.W.plainOver K (He.ga K "Position") = true) && decide (PySem.W.findIn K (.ref (He.ga K "Position")) "__setattr__" = some (some (.builtin "object.__setattr__"))) && decide (PySem.W.makesIn K (He.ga K "Position") = true) && decide (PySem.W.keepIn K (.ref (He.ga K "Position")) = true) && decide (PySem.W.findIn K (.ref (He.ga K "Position")) "game" = some none) && decide (PySem.W.findIn K (.ref (He.ga K "Position")) "pieces" = some none)
def e4 (K : PySem.W.Frag) : Bool := decide (PySem.W.findIn K (.ref (He.ga K "Position")) "stones" = some none) && decide (PySem.W.findIn K (.ref (He.ga K "Position")) "turn" = some none) && decide (PySem.W.findIn K (.ref (He.ga K "Position")) "standing" = some none) && decide (PySem.W.findIn K (.ref (He.ga K "Position")) "lords" = some none) && decide (PySem.W.nsIn K mainGlobals "FieldError" = some (some (.ref (He.ga K "FieldError")))) && decide (PySem.W.findIn K (.ref (He.ga K "FieldError")) "__setattr__" = some (some (.builtin "object.__setattr__"))) && decide (PySem.W.subIn K (.ref (He.ga K "FieldError")) (.type "BaseException") = some true) && decide (PySem.W.typeIn K (.ref (He.ga K "FieldError")) = some (.type "type"))
def e5 (K : PySem.W.Frag) : Bool := decide (PySem.W.keepIn K (.ref (He.ga K "FieldError")) = true) && decide (PySem.W.hasDictIn K (He.ga K "FieldError") = true) && decide (PySem.W.isClsIn K (He.ga K "FieldError") = true) && decide (PySem.W.findIn K (.ref (He.ga K "FieldError")) "__getattribute__" = some (some (.builtin "BaseException.__getattribute__"))) && decide (PySem.W.findIn K (.ref (He.ga K "FieldError")) "__getattr__" = some none) && decide (PySem.W.nsIn K mainGlobals "BadNumber" = some (some (.ref (He.ga K "BadNumber")))) && decide (PySem.W.findIn K (.ref (He.ga K "BadNumber")) "__setattr__" = some (some (.builtin "object.__setattr__"))) && decide (PySem.W.subIn K (.ref (He.ga K "BadNumber")) (.type "BaseException") = some true)
def e6 (K : PySem.W.Frag) : Bool := decide (PySem.W.typeIn K (.ref (He.ga K "BadNumber")) = some (.type "type")) && decide (PySem.W.keepIn K (.ref (He.ga K "BadNumber")) = true) && decide (PySem.W.hasDictIn K (He.ga K "BadNumber") = true) && decide (PySem.W.isClsIn K (He.ga K "BadNumber") = true) && decide (PySem.W.findIn K (.ref (He.ga K "BadNumber")) "__getattribute__" = some (some (.builtin "BaseException.__getattribute__"))) && decide (PySem.W.findIn K (.ref (He.ga K "BadNumber")) "__getattr__" = some none) && decide (PySem.W.findIn K (.ref (He.ga K "BadNumber")) "part" = some none) && decide (PySem.W.nsIn K mainGlobals "BadKind" = some (some (.ref (He.ga K "BadKind"))))
def e7 (K : PySem.W.Frag) : Bool := decide (PySem.W.findIn K (.ref (He.ga K "BadKind")) "__setattr__" = some (some (.builtin "object.__setattr__"))) && decide (PySem.W.subIn K (.ref (He.ga K "BadKind")) (.type "BaseException") = some true) && decide (PySem.W.typeIn K (.ref (He.ga K "BadKind")) = some (.type "type")) && decide (PySem.W.keepIn K (.ref (He.ga K "BadKind")) = true) && decide (PySem.W.hasDictIn K (He.ga K "BadKind") = true) && decide (PySem.W.isClsIn K (He.ga K "BadKind") = true) && decide (PySem.W.findIn K (.ref (He.ga K "BadKind")) "__getattribute__" = some (some (.builtin "BaseException.__getattribute__"))) && decide (PySem.W.findIn K (.ref (He.ga K "BadKind")) "__getattr__" = some none)
def e8 (K : PySem.W.Frag) : Bool := decide (PySem.W.findIn K (.ref (He.ga K "BadKind")) "part" = some none) && decide (PySem.W.nsIn K mainGlobals "BadGame" = some (some (.ref (He.ga K "BadGame")))) && decide (PySem.W.findIn K (.ref (He.ga K "BadGame")) "__setattr__" = some (some (.builtin "object.__setattr__"))) && decide (PySem.W.subIn K (.ref (He.ga K "BadGame")) (.type "BaseException") = some true) && decide (PySem.W.typeIn K (.ref (He.ga K "BadGame")) = some (.type "type")) && decide (PySem.W.keepIn K (.ref (He.ga K "BadGame")) = true) && decide (PySem.W.hasDictIn K (He.ga K "BadGame") = true) && decide (PySem.W.isClsIn K (He.ga K "BadGame") = true)
def e9 (K : PySem.W.Frag) : Bool := decide (PySem.W.findIn K (.ref (He.ga K "BadGame")) "__getattribute__" = some (some (.builtin "BaseException.__getattribute__"))) && decide (PySem.W.findIn K (.ref (He.ga K "BadGame")) "__getattr__" = some none) && decide (PySem.W.findIn K (.ref (He.ga K "BadGame")) "part" = some none) && decide (PySem.W.nsIn K mainGlobals "BadPosition" = some (some (.ref (He.ga K "BadPosition")))) && decide (PySem.W.findIn K (.ref (He.ga K "BadPosition")) "__setattr__" = some (some (.builtin "object.__setattr__"))) && decide (PySem.W.subIn K (.ref (He.ga K "BadPosition")) (.type "BaseException") = some true) && decide (PySem.W.typeIn K (.ref (He.ga K "BadPosition")) = some (.type "type")) && decide (PySem.W.keepIn K (.ref (He.ga K "BadPosition")) = true)
def e10 (K : PySem.W.Frag) : Bool := decide (PySem.W.hasDictIn K (He.ga K "BadPosition") = true) && decide (PySem.W.isClsIn K (He.ga K "BadPosition") = true) && decide (PySem.W.findIn K (.ref (He.ga K "BadPosition")) "__getattribute__" = some (some (.builtin "BaseException.__getattribute__"))) && decide (PySem.W.findIn K (.ref (He.ga K "BadPosition")) "__getattr__" = some none) && decide (PySem.W.findIn K (.ref (He.ga K "BadPosition")) "part" = some none) && decide (PySem.W.nsIn K mainGlobals "BadMove" = some (some (.ref (He.ga K "BadMove")))) && decide (PySem.W.findIn K (.ref (He.ga K "BadMove")) "__setattr__" = some (some (.builtin "object.__setattr__"))) && decide (PySem.W.subIn K (.ref (He.ga K "BadMove")) (.type "BaseException") = some true)
def e11 (K : PySem.W.Frag) : Bool := decide (PySem.W.typeIn K (.ref (He.ga K "BadMove")) = some (.type "type")) && decide (PySem.W.keepIn K (.ref (He.ga K "BadMove")) = true) && decide (PySem.W.hasDictIn K (He.ga K "BadMove") = true) && decide (PySem.W.isClsIn K (He.ga K "BadMove") = true) && decide (PySem.W.findIn K (.ref (He.ga K "BadMove")) "__getattribute__" = some (some (.builtin "BaseException.__getattribute__"))) && decide (PySem.W.findIn K (.ref (He.ga K "BadMove")) "__getattr__" = some none) && decide (PySem.W.findIn K (.ref (He.ga K "BadMove")) "part" = some none) && decide (PySem.W.nsIn K mainGlobals "BadWords" = some (some (.ref (He.ga K "BadWords"))))
def e12 (K : PySem.W.Frag) : Bool := decide (PySem.W.findIn K (.ref (He.ga K "BadWords")) "__setattr__" = some (some (.builtin "object.__setattr__"))) && decide (PySem.W.subIn K (.ref (He.ga K "BadWords")) (.type "BaseException") = some true) && decide (PySem.W.typeIn K (.ref (He.ga K "BadWords")) = some (.type "type")) && decide (PySem.W.keepIn K (.ref (He.ga K "BadWords")) = true) && decide (PySem.W.hasDictIn K (He.ga K "BadWords") = true) && decide (PySem.W.isClsIn K (He.ga K "BadWords") = true) && decide (PySem.W.findIn K (.ref (He.ga K "BadWords")) "__getattribute__" = some (some (.builtin "BaseException.__getattribute__"))) && decide (PySem.W.findIn K (.ref (He.ga K "BadWords")) "__getattr__" = some none)
def e13 (K : PySem.W.Frag) : Bool := decide (PySem.W.findIn K (.ref (He.ga K "BadWords")) "part" = some none) && decide (PySem.W.nsIn K mainGlobals "Misfit" = some (some (.ref (He.ga K "Misfit")))) && decide (PySem.W.findIn K (.ref (He.ga K "Misfit")) "__setattr__" = some (some (.builtin "object.__setattr__"))) && decide (PySem.W.subIn K (.ref (He.ga K "Misfit")) (.type "BaseException") = some true) && decide (PySem.W.typeIn K (.ref (He.ga K "Misfit")) = some (.type "type")) && decide (PySem.W.keepIn K (.ref (He.ga K "Misfit")) = true) && decide (PySem.W.hasDictIn K (He.ga K "Misfit") = true) && decide (PySem.W.isClsIn K (He.ga K "Misfit") = true)
def e14 (K : PySem.W.Frag) : Bool := decide (PySem.W.findIn K (.ref (He.ga K "Misfit")) "__getattribute__" = some (some (.builtin "BaseException.__getattribute__"))) && decide (PySem.W.findIn K (.ref (He.ga K "Misfit")) "__getattr__" = some none) && decide (PySem.W.findIn K (.ref (He.ga K "Misfit")) "part" = some none) && decide (PySem.W.subIn K (.ref (He.ga K "BadPosition")) (.ref (He.ga K "FieldError")) = some true) && decide (PySem.W.subIn K (.ref (He.ga K "BadMove")) (.ref (He.ga K "FieldError")) = some true) && decide (PySem.W.subIn K (.ref (He.ga K "BadWords")) (.ref (He.ga K "FieldError")) = some true) && decide (PySem.W.subIn K (.ref (He.ga K "BadNumber")) (.ref (He.ga K "FieldError")) = some true) && decide (PySem.W.nsIn K mainGlobals "is_integer" = some (some (.ref (He.fAd K ("is_integer", none)))))
def e15 (K : PySem.W.Frag) : Bool := decide (PySem.W.nsIn K mainGlobals "is_within" = some (some (.ref (He.fAd K ("is_within", none))))) && decide (PySem.W.nsIn K mainGlobals "is_list" = some (some (.ref (He.fAd K ("is_list", none))))) && decide (PySem.W.nsIn K mainGlobals "is_square" = some (some (.ref (He.fAd K ("is_square", none))))) && decide (PySem.W.nsIn K mainGlobals "is_move" = some (some (.ref (He.fAd K ("is_move", none))))) && decide (PySem.W.nsIn K mainGlobals "is_name" = some (some (.ref (He.fAd K ("is_name", none))))) && decide (PySem.W.findIn K (.ref (He.ga K "BadNumber")) "__init__" = some (some (.ref (He.fAd K ("BadNumber", some "__init__"))))) && decide (PySem.W.typeIn K (.ref (He.fAd K ("BadNumber", some "__init__"))) = some (.type "function")) && decide (PySem.W.findIn K (.ref (He.ga K "BadKind")) "__init__" = some (some (.ref (He.fAd K ("BadKind", some "__init__")))))
def e16 (K : PySem.W.Frag) : Bool := decide (PySem.W.typeIn K (.ref (He.fAd K ("BadKind", some "__init__"))) = some (.type "function")) && decide (PySem.W.findIn K (.ref (He.ga K "BadGame")) "__init__" = some (some (.ref (He.fAd K ("BadGame", some "__init__"))))) && decide (PySem.W.typeIn K (.ref (He.fAd K ("BadGame", some "__init__"))) = some (.type "function")) && decide (PySem.W.findIn K (.ref (He.ga K "BadPosition")) "__init__" = some (some (.ref (He.fAd K ("BadPosition", some "__init__"))))) && decide (PySem.W.typeIn K (.ref (He.fAd K ("BadPosition", some "__init__"))) = some (.type "function")) && decide (PySem.W.findIn K (.ref (He.ga K "BadMove")) "__init__" = some (some (.ref (He.fAd K ("BadMove", some "__init__"))))) && decide (PySem.W.typeIn K (.ref (He.fAd K ("BadMove", some "__init__"))) = some (.type "function")) && decide (PySem.W.findIn K (.ref (He.ga K "BadWords")) "__init__" = some (some (.ref (He.fAd K ("BadWords", some "__init__")))))
def e17 (K : PySem.W.Frag) : Bool := decide (PySem.W.typeIn K (.ref (He.fAd K ("BadWords", some "__init__"))) = some (.type "function")) && decide (PySem.W.findIn K (.ref (He.ga K "Misfit")) "__init__" = some (some (.ref (He.fAd K ("Misfit", some "__init__"))))) && decide (PySem.W.typeIn K (.ref (He.fAd K ("Misfit", some "__init__"))) = some (.type "function")) && decide (PySem.W.findIn K (.ref (He.ga K "Kind")) "__init__" = some (some (.ref (He.fAd K ("Kind", some "__init__"))))) && decide (PySem.W.typeIn K (.ref (He.fAd K ("Kind", some "__init__"))) = some (.type "function")) && decide (PySem.W.findIn K (.ref (He.ga K "Kind")) "__str__" = some (some (.ref (He.fAd K ("Kind", some "__str__"))))) && decide (PySem.W.typeIn K (.ref (He.fAd K ("Kind", some "__str__"))) = some (.type "function")) && decide (PySem.W.nsIn K mainGlobals "are_leaps" = some (some (.ref (He.fAd K ("are_leaps", none)))))
def e18 (K : PySem.W.Frag) : Bool := decide (PySem.W.nsIn K mainGlobals "is_leap" = some (some (.ref (He.fAd K ("is_leap", none))))) && decide (PySem.W.nsIn K mainGlobals "is_leap_part" = some (some (.ref (He.fAd K ("is_leap_part", none))))) && decide (PySem.W.nsIn K mainGlobals "are_rides" = some (some (.ref (He.fAd K ("are_rides", none))))) && decide (PySem.W.nsIn K mainGlobals "is_ride" = some (some (.ref (He.fAd K ("is_ride", none))))) && decide (PySem.W.findIn K (.ref (He.ga K "Game")) "__init__" = some (some (.ref (He.fAd K ("Game", some "__init__"))))) && decide (PySem.W.typeIn K (.ref (He.fAd K ("Game", some "__init__"))) = some (.type "function")) && decide (PySem.W.findIn K (.ref (He.ga K "Game")) "__str__" = some (some (.ref (He.fAd K ("Game", some "__str__"))))) && decide (PySem.W.typeIn K (.ref (He.fAd K ("Game", some "__str__"))) = some (.type "function"))
def e19 (K : PySem.W.Frag) : Bool := decide (PySem.W.nsIn K mainGlobals "are_kinds" = some (some (.ref (He.fAd K ("are_kinds", none))))) && decide (PySem.W.nsIn K mainGlobals "are_edges" = some (some (.ref (He.fAd K ("are_edges", none))))) && decide (PySem.W.nsIn K mainGlobals "is_not_above" = some (some (.ref (He.fAd K ("is_not_above", none))))) && decide (PySem.W.nsIn K mainGlobals "is_goal" = some (some (.ref (He.fAd K ("is_goal", none))))) && decide (PySem.W.nsIn K mainGlobals "is_between" = some (some (.ref (He.fAd K ("is_between", none))))) && decide (PySem.W.findIn K (.ref (He.ga K "Position")) "__init__" = some (some (.ref (He.fAd K ("Position", some "__init__"))))) && decide (PySem.W.typeIn K (.ref (He.fAd K ("Position", some "__init__"))) = some (.type "function")) && decide (PySem.W.findIn K (.ref (He.ga K "Position")) "__str__" = some (some (.ref (He.fAd K ("Position", some "__str__")))))
def e20 (K : PySem.W.Frag) : Bool := decide (PySem.W.typeIn K (.ref (He.fAd K ("Position", some "__str__"))) = some (.type "function")) && decide (PySem.W.nsIn K mainGlobals "need_position" = some (some (.ref (He.fAd K ("need_position", none))))) && decide (PySem.W.nsIn K mainGlobals "are_pieces" = some (some (.ref (He.fAd K ("are_pieces", none))))) && decide (PySem.W.nsIn K mainGlobals "is_piece" = some (some (.ref (He.fAd K ("is_piece", none))))) && decide (PySem.W.nsIn K mainGlobals "are_stones" = some (some (.ref (He.fAd K ("are_stones", none))))) && decide (PySem.W.nsIn K mainGlobals "do_pieces_fit" = some (some (.ref (He.fAd K ("do_pieces_fit", none))))) && decide (PySem.W.nsIn K mainGlobals "do_stones_fit" = some (some (.ref (He.fAd K ("do_stones_fit", none))))) && decide (PySem.W.nsIn K mainGlobals "squares_of" = some (some (.ref (He.fAd K ("squares_of", none)))))
def e21 (K : PySem.W.Frag) : Bool := decide (PySem.W.nsIn K mainGlobals "are_on_field" = some (some (.ref (He.fAd K ("are_on_field", none))))) && decide (PySem.W.nsIn K mainGlobals "standing_of" = some (some (.ref (He.fAd K ("standing_of", none))))) && decide (PySem.W.nsIn K mainGlobals "lords_of" = some (some (.ref (He.fAd K ("lords_of", none))))) && decide (PySem.W.nsIn K mainGlobals "turned" = some (some (.ref (He.fAd K ("turned", none))))) && decide (PySem.W.nsIn K mainGlobals "mirrored" = some (some (.ref (He.fAd K ("mirrored", none))))) && decide (PySem.W.nsIn K mainGlobals "moved" = some (some (.ref (He.fAd K ("moved", none))))) && decide (PySem.W.nsIn K mainGlobals "gone_along" = some (some (.ref (He.fAd K ("gone_along", none))))) && decide (PySem.W.nsIn K mainGlobals "need_way" = some (some (.ref (He.fAd K ("need_way", none)))))
def e22 (K : PySem.W.Frag) : Bool := decide (PySem.W.nsIn K mainGlobals "pair_along" = some (some (.ref (He.fAd K ("pair_along", none))))) && decide (PySem.W.nsIn K mainGlobals "_law_hinge" = some (some (.ref (He.fAd K ("_law_hinge", none))))) && decide (PySem.W.nsIn K mainGlobals "_law_swing" = some (some (.ref (He.fAd K ("_law_swing", none))))) && decide (PySem.W.nsIn K mainGlobals "_law_one" = some (some (.ref (He.fAd K ("_law_one", none))))) && decide (PySem.W.nsIn K mainGlobals "_law_heard" = some (some (.ref (He.fAd K ("_law_heard", none))))) && decide (PySem.W.nsIn K mainGlobals "law" = some (some (.ref (He.fAd K ("law", none))))) && decide (PySem.W.nsIn K mainGlobals "isinstance" = some none) && decide (PySem.W.nsIn K mainGlobals "int" = some none)
def e23 (K : PySem.W.Frag) : Bool := decide (PySem.W.nsIn K mainGlobals "bool" = some none) && decide (PySem.W.nsIn K mainGlobals "list" = some none) && decide (PySem.W.nsIn K mainGlobals "tuple" = some none) && decide (PySem.W.nsIn K mainGlobals "len" = some none) && decide (PySem.W.nsIn K mainGlobals "str" = some none) && decide (PySem.W.nsIn K mainGlobals "all" = some none) && decide (PySem.W.nsIn K mainGlobals "sorted" = some none) && decide (PySem.W.nsIn K mainGlobals "set" = some none)
def e24 (K : PySem.W.Frag) : Bool := decide (PySem.W.nsIn K mainGlobals "abs" = some none) && decide (PySem.W.nsIn K mainGlobals "range" = some none) && decide (PySem.W.nsIn K mainGlobals "repr" = some none) && decide (PySem.W.nsIn K mainGlobals "max" = some none) && decide (PySem.W.nsIn K mainGlobals "zip" = some none) && decide (PySem.W.specialIn K (.builtin "object.__class__") "__get__" = some (some (.builtin "getset_descriptor.__get__"))) && decide (PySem.W.takesIn K (.builtin "object.__class__") = some true) && decide (PySem.W.findIn K (.ref (He.ga K "Kind")) "__class__" = some (some (.builtin "object.__class__")))
def e25 (K : PySem.W.Frag) : Bool := decide (PySem.W.mroIn K (He.ga K "Kind") (.type "object") = some true) && decide (PySem.W.typeIn K (.ref (He.ga K "Kind")) = some (.type "type")) && decide (PySem.W.isClsIn K (He.ga K "Kind") = true) && decide (PySem.W.findIn K (.ref (He.ga K "Game")) "__class__" = some (some (.builtin "object.__class__"))) && decide (PySem.W.mroIn K (He.ga K "Game") (.type "object") = some true) && decide (PySem.W.typeIn K (.ref (He.ga K "Game")) = some (.type "type")) && decide (PySem.W.isClsIn K (He.ga K "Game") = true) && decide (PySem.W.findIn K (.ref (He.ga K "Position")) "__class__" = some (some (.builtin "object.__class__")))
def e26 (K : PySem.W.Frag) : Bool := decide (PySem.W.mroIn K (He.ga K "Position") (.type "object") = some true) && decide (PySem.W.typeIn K (.ref (He.ga K "Position")) = some (.type "type")) && decide (PySem.W.isClsIn K (He.ga K "Position") = true) && decide (PySem.W.subIn K (.type "NoneType") (.ref (He.ga K "BadPosition")) = some false) && decide (PySem.W.subIn K (.type "NoneType") (.ref (He.ga K "BadMove")) = some false) && decide (PySem.W.subIn K (.type "NoneType") (.ref (He.ga K "BadWords")) = some false) && decide (PySem.W.subIn K (.type "NoneType") (.ref (He.ga K "BadNumber")) = some false) && decide (PySem.W.findIn K (.ref (He.ga K "Kind")) "__format__" = some (some (.builtin "object.__format__")))
def e27 (K : PySem.W.Frag) : Bool := decide (PySem.W.subIn K (.ref (He.ga K "Game")) (.ref (He.ga K "Position")) = some false) && decide ((Value.ref (He.ga K "Game") == Value.ref (He.ga K "Position")) = false) && decide (PySem.W.subIn K (.type "list") (.ref (He.ga K "Position")) = some false) && decide (PySem.W.subIn K (.type "str") (.ref (He.ga K "Position")) = some false) && decide (PySem.W.subIn K (.type "NoneType") (.ref (He.ga K "Position")) = some false) && decide (PySem.W.subIn K (.type "int") (.ref (He.ga K "Position")) = some false) && decide (PySem.W.subIn K (.type "bool") (.ref (He.ga K "Position")) = some false) && decide (PySem.W.subIn K (.type "tuple") (.ref (He.ga K "Position")) = some false)
def e28 (K : PySem.W.Frag) : Bool := decide (PySem.W.subIn K (.type "dict") (.ref (He.ga K "Position")) = some false) && decide (PySem.W.subIn K (.type "list") (.ref (He.ga K "Game")) = some false) && decide (PySem.W.subIn K (.type "str") (.ref (He.ga K "Game")) = some false) && decide (PySem.W.subIn K (.type "NoneType") (.ref (He.ga K "Game")) = some false) && decide (PySem.W.subIn K (.type "int") (.ref (He.ga K "Game")) = some false) && decide (PySem.W.subIn K (.type "bool") (.ref (He.ga K "Game")) = some false) && decide (PySem.W.subIn K (.type "tuple") (.ref (He.ga K "Game")) = some false) && decide (PySem.W.subIn K (.type "dict") (.ref (He.ga K "Game")) = some false)
def e29 (K : PySem.W.Frag) : Bool := decide (([(He.ga K "BadPosition"), (He.ga K "BadMove"), (He.ga K "BadWords"), (He.ga K "BadNumber")] : List Addr).Nodup) && decide (matB K [(He.ga K "BadPosition"), (He.ga K "BadMove"), (He.ga K "BadWords"), (He.ga K "BadNumber")] = true) && decide (([(He.ga K "BadPosition"), (He.ga K "BadMove"), (He.ga K "BadWords"), (He.ga K "BadNumber")] : List Addr).all (xcB K) = true) && decide (PySem.W.nsIn K mainGlobals "WAYS" = some (some (.ref (He.ga K "WAYS")))) && decide (PySem.W.nsIn K mainGlobals "BARRED_NAMES" = some (some (.ref (He.ga K "BARRED_NAMES")))) && decide (PySem.W.nsIn K mainGlobals "SIDES" = some (some (.ref (He.ga K "SIDES")))) && decide (PySem.W.nsIn K mainGlobals "STEPS" = some (some (.ref (He.ga K "STEPS")))) && decide ((He.cT K ("law", none)).2 ≠ (He.cT K ("Game", some "__init__")).2)
def em (K : PySem.W.Frag) : Bool := (tupC K (dfTup K ("Kind", some "__init__")) [.ref (He.dflAt ("Kind", some "__init__") 0 K), .bl false]) && (tupC K (He.dflAt ("Kind", some "__init__") 0 K) []) && (tupC K (dfTup K ("Game", some "__init__")) [.ref (He.dflAt ("Game", some "__init__") 0 K), .ref (He.dflAt ("Game", some "__init__") 1 K)]) && (tupC K (dfTup K ("Position", some "__init__")) [.ref (He.dflAt ("Position", some "__init__") 0 K), .int 0]) && (tupC K (dfTup K ("gone_along", none)) [.int 0, .int 0]) && (tupC K (He.dflAt ("Game", some "__init__") 0 K) [.non, .non, .non, .non]) && (tupC K (He.dflAt ("Game", some "__init__") 1 K) [.str "hold"]) && (tupC K (He.dflAt ("Position", some "__init__") 0 K) []) && (tupC K (He.ga K "WAYS") [.str "turned", .str "mirrored", .str "moved"]) && (tupC K (He.ga K "BARRED_NAMES") [.str "lord", .str "leaps", .str "rides", .str "stone"]) && (tupC K (He.ga K "SIDES") [.str "left", .str "right", .str "low", .str "high"]) && (tupC K (dvalAt K (He.ga K "STEPS") 0) [.int 1, .int 0]) && (tupC K (dvalAt K (He.ga K "STEPS") 1) [.int (-1), .int 0]) && (tupC K (dvalAt K (He.ga K "STEPS") 2) [.int 0, .int 1]) && (tupC K (dvalAt K (He.ga K "STEPS") 3) [.int 0, .int (-1)]) && (xcC K (He.ga K "FieldError")) && (xcC K (He.ga K "BadNumber")) && (xcC K (He.ga K "BadKind")) && (xcC K (He.ga K "BadGame")) && (xcC K (He.ga K "BadPosition")) && (xcC K (He.ga K "BadMove")) && (xcC K (He.ga K "BadWords")) && (xcC K (He.ga K "Misfit")) && (strC K "LETTERS" "abcdefghijklmnopqrstuvwxyz") && (intC K "LONGEST_NAME" 8) && (intC K "LONGEST_LEAP" 3) && (intC K "MOST_KINDS" 8) && (intC K "MOST_PIECES" 16) && (intC K "MOST_STONES" 16) && (entC K (He.ga K "STEPS") [("right", dvalAt K (He.ga K "STEPS") 0), ("left", dvalAt K (He.ga K "STEPS") 1), ("up", dvalAt K (He.ga K "STEPS") 2), ("down", dvalAt K (He.ga K "STEPS") 3)])
def ex (K : PySem.W.Frag) : Bool := em K && e0 K && e1 K && e2 K && e3 K && e4 K && e5 K && e6 K && e7 K && e8 K && e9 K && e10 K && e11 K && e12 K && e13 K && e14 K && e15 K && e16 K && e17 K && e18 K && e19 K && e20 K && e21 K && e22 K && e23 K && e24 K && e25 K && e26 K && e27 K && e28 K && e29 K
def q_d0 : He.DefD := ⟨("is_integer", none), "is_integer", "is_integer", defArgs s_is_integer, defBody s_is_integer, defScope s_is_integer, [], []⟩
def q_d1 : He.DefD := ⟨("is_within", none), "is_within", "is_within", defArgs s_is_within, defBody s_is_within, defScope s_is_within, [], []⟩
def q_d2 : He.DefD := ⟨("is_list", none), "is_list", "is_list", defArgs s_is_list, defBody s_is_list, defScope s_is_list, [], []⟩
def q_d3 : He.DefD := ⟨("is_square", none), "is_square", "is_square", defArgs s_is_square, defBody s_is_square, defScope s_is_square, [], []⟩
def q_d4 : He.DefD := ⟨("is_move", none), "is_move", "is_move", defArgs s_is_move, defBody s_is_move, defScope s_is_move, [], []⟩
def q_d5 : He.DefD := ⟨("is_name", none), "is_name", "is_name", defArgs s_is_name, defBody s_is_name, defScope s_is_name, [], []⟩
def q_d6 : He.DefD := ⟨("BadNumber", some "__init__"), "__init__", "BadNumber.__init__", defArgs s_BadNumber___init__, defBody s_BadNumber___init__, defScope s_BadNumber___init__, [], []⟩
def q_d7 : He.DefD := ⟨("BadKind", some "__init__"), "__init__", "BadKind.__init__", defArgs s_BadKind___init__, defBody s_BadKind___init__, defScope s_BadKind___init__, [], []⟩
def q_d8 : He.DefD := ⟨("BadGame", some "__init__"), "__init__", "BadGame.__init__", defArgs s_BadGame___init__, defBody s_BadGame___init__, defScope s_BadGame___init__, [], []⟩
def q_d9 : He.DefD := ⟨("BadPosition", some "__init__"), "__init__", "BadPosition.__init__", defArgs s_BadPosition___init__, defBody s_BadPosition___init__, defScope s_BadPosition___init__, [], []⟩
def q_d10 : He.DefD := ⟨("BadMove", some "__init__"), "__init__", "BadMove.__init__", defArgs s_BadMove___init__, defBody s_BadMove___init__, defScope s_BadMove___init__, [], []⟩
def q_d11 : He.DefD := ⟨("BadWords", some "__init__"), "__init__", "BadWords.__init__", defArgs s_BadWords___init__, defBody s_BadWords___init__, defScope s_BadWords___init__, [], []⟩
def q_d12 : He.DefD := ⟨("Misfit", some "__init__"), "__init__", "Misfit.__init__", defArgs s_Misfit___init__, defBody s_Misfit___init__, defScope s_Misfit___init__, [], []⟩
def q_d13 : He.DefD := ⟨("Kind", some "__init__"), "__init__", "Kind.__init__", defArgs s_Kind___init__, defBody s_Kind___init__, defScope s_Kind___init__, [.adr (He.dflAt ("Kind", some "__init__") 0), .bl false], []⟩
def q_d14 : He.DefD := ⟨("Kind", some "__str__"), "__str__", "Kind.__str__", defArgs s_Kind___str__, defBody s_Kind___str__, defScope s_Kind___str__, [], []⟩
def q_d15 : He.DefD := ⟨("are_leaps", none), "are_leaps", "are_leaps", defArgs s_are_leaps, defBody s_are_leaps, defScope s_are_leaps, [], []⟩
def q_d16 : He.DefD := ⟨("is_leap", none), "is_leap", "is_leap", defArgs s_is_leap, defBody s_is_leap, defScope s_is_leap, [], []⟩
def q_d17 : He.DefD := ⟨("is_leap_part", none), "is_leap_part", "is_leap_part", defArgs s_is_leap_part, defBody s_is_leap_part, defScope s_is_leap_part, [], []⟩
def q_d18 : He.DefD := ⟨("are_rides", none), "are_rides", "are_rides", defArgs s_are_rides, defBody s_are_rides, defScope s_are_rides, [], []⟩
def q_d19 : He.DefD := ⟨("is_ride", none), "is_ride", "is_ride", defArgs s_is_ride, defBody s_is_ride, defScope s_is_ride, [], []⟩
def q_d20 : He.DefD := ⟨("Game", some "__init__"), "__init__", "Game.__init__", defArgs s_Game___init__, defBody s_Game___init__, defScope s_Game___init__, [.adr (He.dflAt ("Game", some "__init__") 0), .adr (He.dflAt ("Game", some "__init__") 1)], []⟩
def q_d21 : He.DefD := ⟨("Game", some "__str__"), "__str__", "Game.__str__", defArgs s_Game___str__, defBody s_Game___str__, defScope s_Game___str__, [], []⟩
def q_d22 : He.DefD := ⟨("are_kinds", none), "are_kinds", "are_kinds", defArgs s_are_kinds, defBody s_are_kinds, defScope s_are_kinds, [], []⟩
def q_d23 : He.DefD := ⟨("are_edges", none), "are_edges", "are_edges", defArgs s_are_edges, defBody s_are_edges, defScope s_are_edges, [], []⟩
def q_d24 : He.DefD := ⟨("is_not_above", none), "is_not_above", "is_not_above", defArgs s_is_not_above, defBody s_is_not_above, defScope s_is_not_above, [], []⟩
def q_d25 : He.DefD := ⟨("is_goal", none), "is_goal", "is_goal", defArgs s_is_goal, defBody s_is_goal, defScope s_is_goal, [], []⟩
def q_d26 : He.DefD := ⟨("is_between", none), "is_between", "is_between", defArgs s_is_between, defBody s_is_between, defScope s_is_between, [], []⟩
def q_d27 : He.DefD := ⟨("Position", some "__init__"), "__init__", "Position.__init__", defArgs s_Position___init__, defBody s_Position___init__, defScope s_Position___init__, [.adr (He.dflAt ("Position", some "__init__") 0), .int 0], []⟩
def q_d28 : He.DefD := ⟨("Position", some "__str__"), "__str__", "Position.__str__", defArgs s_Position___str__, defBody s_Position___str__, defScope s_Position___str__, [], []⟩
def q_d29 : He.DefD := ⟨("need_position", none), "need_position", "need_position", defArgs s_need_position, defBody s_need_position, defScope s_need_position, [], []⟩
def q_d30 : He.DefD := ⟨("are_pieces", none), "are_pieces", "are_pieces", defArgs s_are_pieces, defBody s_are_pieces, defScope s_are_pieces, [], []⟩
def q_d31 : He.DefD := ⟨("is_piece", none), "is_piece", "is_piece", defArgs s_is_piece, defBody s_is_piece, defScope s_is_piece, [], []⟩
def q_d32 : He.DefD := ⟨("are_stones", none), "are_stones", "are_stones", defArgs s_are_stones, defBody s_are_stones, defScope s_are_stones, [], []⟩
def q_d33 : He.DefD := ⟨("do_pieces_fit", none), "do_pieces_fit", "do_pieces_fit", defArgs s_do_pieces_fit, defBody s_do_pieces_fit, defScope s_do_pieces_fit, [], []⟩
def q_d34 : He.DefD := ⟨("do_stones_fit", none), "do_stones_fit", "do_stones_fit", defArgs s_do_stones_fit, defBody s_do_stones_fit, defScope s_do_stones_fit, [], []⟩
def q_d35 : He.DefD := ⟨("squares_of", none), "squares_of", "squares_of", defArgs s_squares_of, defBody s_squares_of, defScope s_squares_of, [], []⟩
def q_d36 : He.DefD := ⟨("are_on_field", none), "are_on_field", "are_on_field", defArgs s_are_on_field, defBody s_are_on_field, defScope s_are_on_field, [], []⟩
def q_d37 : He.DefD := ⟨("standing_of", none), "standing_of", "standing_of", defArgs s_standing_of, defBody s_standing_of, defScope s_standing_of, [], []⟩
def q_d38 : He.DefD := ⟨("lords_of", none), "lords_of", "lords_of", defArgs s_lords_of, defBody s_lords_of, defScope s_lords_of, [], []⟩
def q_d39 : He.DefD := ⟨("turned", none), "turned", "turned", defArgs s_turned, defBody s_turned, defScope s_turned, [], []⟩
def q_d40 : He.DefD := ⟨("mirrored", none), "mirrored", "mirrored", defArgs s_mirrored, defBody s_mirrored, defScope s_mirrored, [], []⟩
def q_d41 : He.DefD := ⟨("moved", none), "moved", "moved", defArgs s_moved, defBody s_moved, defScope s_moved, [], []⟩
def q_d42 : He.DefD := ⟨("gone_along", none), "gone_along", "gone_along", defArgs s_gone_along, defBody s_gone_along, defScope s_gone_along, [.int 0, .int 0], []⟩
def q_d43 : He.DefD := ⟨("need_way", none), "need_way", "need_way", defArgs s_need_way, defBody s_need_way, defScope s_need_way, [], []⟩
def q_d44 : He.DefD := ⟨("pair_along", none), "pair_along", "pair_along", defArgs s_pair_along, defBody s_pair_along, defScope s_pair_along, [], []⟩
def q_d45 : He.DefD := ⟨("_law_hinge", none), "_law_hinge", "_law_hinge", defArgs s__law_hinge, defBody s__law_hinge, defScope s__law_hinge, [], []⟩
def q_d46 : He.DefD := ⟨("_law_swing", none), "_law_swing", "_law_swing", defArgs s__law_swing, defBody s__law_swing, defScope s__law_swing, [], []⟩
def q_d47 : He.DefD := ⟨("_law_one", none), "_law_one", "_law_one", defArgs s__law_one, defBody s__law_one, defScope s__law_one, [], []⟩
def q_d48 : He.DefD := ⟨("_law_heard", none), "_law_heard", "_law_heard", defArgs s__law_heard, defBody s__law_heard, defScope s__law_heard, [], []⟩
def q_d49 : He.DefD := ⟨("law", none), "law", "law", defArgs s_law, defBody s_law, defScope s_law, [], []⟩
def fn0 : List He.DefD := [q_d0, q_d1, q_d2, q_d3, q_d4, q_d5, q_d6, q_d7, q_d8, q_d9]
def fn1 : List He.DefD := [q_d10, q_d11, q_d12, q_d13, q_d14, q_d15, q_d16, q_d17, q_d18, q_d19]
def fn2 : List He.DefD := [q_d20, q_d21, q_d22, q_d23, q_d24, q_d25, q_d26, q_d27, q_d28, q_d29]
def fn3 : List He.DefD := [q_d30, q_d31, q_d32, q_d33, q_d34, q_d35, q_d36, q_d37, q_d38, q_d39]
def fn4 : List He.DefD := [q_d40, q_d41, q_d42, q_d43, q_d44, q_d45, q_d46, q_d47, q_d48, q_d49]
def fn : List He.DefD := fn0 ++ (fn1 ++ (fn2 ++ (fn3 ++ (fn4))))
def tf : List He.Defn := [("law", none), ("Game", some "__init__")]
def ts : List He.Tab := [(fun K => He.ga K "STEPS", ["right", "left", "up", "down"])]
end K57

set_option Elab.async false
set_option linter.all false
set_option maxRecDepth 100000
set_option maxHeartbeats 0
namespace K57
open PySem PySem.W PySem.Calls PyProof.Rows
abbrev Rw : OpenRow := OpenLaw.row PySem.Challenge.rw_gapsame_k57_turns_refused
abbrev qv : Program := view Rw.prog [0, 10, 21, 28, 41, 57, 76, 92, 97]
def nm0 : List PySem.Str := ["LETTERS", "LONGEST_NAME", "BARRED_NAMES", "is_integer", "is_within", "is_list", "is_square", "is_move", "is_name", "FieldError", "BadNumber", "BadKind"]
def nm1 : List PySem.Str := ["BadGame", "BadPosition", "BadMove", "BadWords", "Misfit", "NoName", "BadText", "DIGITS", "MOST_DIGITS", "integer_of", "lines_of", "Line"]
def nm2 : List PySem.Str := ["Text", "LONGEST_LEAP", "STEPS", "Kind", "are_leaps", "is_leap", "is_leap_part", "are_rides", "is_ride", "read_kind", "read_leaps", "read_leap"]
def nm3 : List PySem.Str := ["read_rides", "MOST_KINDS", "SIDES", "Game", "are_kinds", "are_edges", "is_not_above", "is_goal", "is_between", "read_parts", "read_goal", "read_side"]
def nm4 : List PySem.Str := ["read_name", "read_integer", "read_last", "game_of", "MOST_PIECES", "MOST_STONES", "Position", "need_position", "are_pieces", "is_piece", "are_stones", "do_pieces_fit"]
def nm5 : List PySem.Str := ["do_stones_fit", "squares_of", "are_on_field", "standing_of", "lords_of", "can_stand", "read_turn", "read_things", "read_piece", "read_hand", "WAYS", "TURNED"]
def nm6 : List PySem.Str := ["TURNED_RIDES", "MIRRORED", "MIRRORED_RIDES", "turned", "mirrored", "moved", "gone_along", "need_way", "pair_along", "negative", "kinds_along", "goal_along"]
def nm7 : List PySem.Str := ["position_along", "_law_hinge", "_law_swing", "_law_one", "_law_heard"]
def names : List PySem.Str := nm0 ++ (nm1 ++ (nm2 ++ (nm3 ++ (nm4 ++ (nm5 ++ (nm6 ++ (nm7)))))))
abbrev hk : PySem.W.Hook := Gs.hookR (List.range 842) fn ts tf ex
def ob (s : PySem.W.SharedT) : He.AlX := Gs.obR (List.range 842) fn ts tf ex (HandSHeadRun.getT s)
theorem ob_eq (s : PySem.W.SharedT) : ob s = hk.obs s.abs := Gs.obR_eq (HandSHeadRun.getT_eq s)
abbrev EqB (b : Bool) : Prop := ∀ w : World, HandSHeadRun.RunEq Rw qv hk ob 8000 names (w.withFollow "special-get-raises" b)
theorem runF : EqB false := by
  intro w os
  kernel_rfl
theorem runT : EqB true := by
  intro w os
  kernel_rfl
theorem run (w : World) : HandSHeadRun.RunEq Rw qv hk ob 8000 names w :=
  byRow2 "special-get-raises" (P := fun w => HandSHeadRun.RunEq Rw qv hk ob 8000 names w) runF runT w
end K57

set_option Elab.async false
set_option linter.all false
set_option maxRecDepth 100000
set_option maxHeartbeats 4000000
namespace K57
open PySem PySem.Spec PyProof.Rows L2 Gs
section
variable {P : Program} {w : World} {K : PySem.W.Frag} {mg : Str → Option Value} {base : Heap}
theorem spB_len {f : PyData → Bool} {n : Str} : ∀ (vs : List V) (H : Hp) (Q : VK) (E : XK), spB K f vs H Q E → vs.length = [n].length := by
  rintro vs H Q E ⟨c, v, d, rfl, _⟩; rfl
theorem O_is_integer (T : Tx K mg w) : FnOk P w K mg base CX0 1 T.a_is_integer T.d_is_integer ["value"] (spB K isInt) := by
  refine T.F_is_integer.ok sc_is_integer spB_len (fun cdv A outer s H vs Q E hr h => ?_)
  obtain ⟨c, v, d, rfl, hd, k⟩ := h
  refine ⟨_, (pss_one (ps_ret (pe_and (pe_callB (r := rIsi K) call_isi (by rfl) T.z_isinstance (by decide +kernel) (pa_cons (pv 0) (pa_cons (pe_bltn (v := .ty "int") (u := .type "int") (by rfl) T.z_int (by decide +kernel) rfl) pa_nil))) (pe_one (pe_not (pe_callB (r := rIsi K) call_isi (by rfl) T.z_isinstance (by decide +kernel) (pa_cons (pv 0) (pa_cons (pe_bltn (v := .ty "bool") (u := .type "bool") (by rfl) T.z_bool (by decide +kernel) rfl) pa_nil)))))))), ?_⟩
  refine ⟨_, rfl, _, .ty "int", .type (tyN _), .type "int", _, rfl, .ty _, ty_of hd, kit_ty (kI _), _, rfl, ?_⟩
  have k := k H (Same.refl H)
  cases d with
  | int i => exact iteT ⟨_, rfl, _, .ty "bool", .type (tyN _), .type "bool", _, rfl, .ty _, ty_of hd, kit_ty (kB _), _, rfl, k⟩
  | bool i => exact iteT ⟨_, rfl, _, .ty "bool", .type (tyN _), .type "bool", _, rfl, .ty _, ty_of hd, kit_ty (kB _), _, rfl, k⟩
  | _ => exact iteF k
theorem O_is_list (T : Tx K mg w) : FnOk P w K mg base CX0 1 T.a_is_list T.d_is_list ["value"] (spB K isSeq) := by
  refine T.F_is_list.ok sc_is_list spB_len (fun cdv A outer s H vs Q E hr h => ?_)
  obtain ⟨c, v, d, rfl, hd, k⟩ := h
  refine ⟨_, (pss_one (ps_ret (pe_callB call_isiT (by rfl) T.z_isinstance (by decide +kernel) (pa_cons (pv 0) (pa_cons (pe_tup (pa_cons (pe_bltn (v := .ty "list") (u := .type "list") (by rfl) T.z_list (by decide +kernel) rfl) (pa_cons (pe_bltn (v := .ty "tuple") (u := .type "tuple") (by rfl) T.z_tuple (by decide +kernel) rfl) pa_nil))) pa_nil))))), ?_⟩
  refine ⟨_, rfl, szl rfl, fun p hp => ?_⟩
  have hd1 := hd.up (Ext.new hp (o := .tup [.ty "list", .ty "tuple"]))
  exact ⟨v, _, [.ty "list", .ty "tuple"], .type (tyN _), [.type "list", .type "tuple"], isSeq _, rfl, upd_same, .cons (.ty _) (.cons (.ty _) .nil), ty_of hd1, kit_seq _, k _ (same_new hp)⟩
/-- whether an integer lies within -/
def inB (lo hi : Option Int) : PyData → Bool
  | .int z => (match lo with | none => true | some l => decide (l ≤ z)) && (match hi with | none => true | some u => decide (z ≤ u))
  | _ => false
def oV : Option Int → V
  | none => .non
  | some i => .int i
def spWithin (K : PySem.W.Frag) : Sp := fun vs H Q _ => ∃ (c : Addr) (v : V) (d : PyData) (lo hi : Option Int), vs = [v, oV lo, oV hi] ∧ DV K c H v d ∧ ∀ H', Same H H' → Q (.bl (inB lo hi d)) H'
theorem O_is_within (T : Tx K mg w) : FnOk P w K mg base CX0 2 T.a_is_within T.d_is_within ["value", "least", "most"] (spWithin K) := by
  refine T.F_is_within.ok sc_is_within (fun vs H Q E h => ?_) (fun cdv A outer s H vs Q E hr h => ?_)
  · obtain ⟨c, v, d, lo, hi, rfl, _⟩ := h; rfl
  obtain ⟨c, v, d, lo, hi, rfl, hd, k⟩ := h
  refine ⟨_, (pss_cons (ps_if (pt_not (pt_val (pe_call (O_is_integer T) (hr.mono (by decide)) (by rfl) T.m_is_integer T.F_is_integer.kp T.b_is_integer .nil pass0 (pa_cons (pv 0) pa_nil)))) (pss_one (ps_ret pe_bl)) pss_nil)
      (pss_cons (ps_if (PW.pt (pw_and (pt_cmpR op_notN (pv 1) pe_non (nomark _)) (pw_and1 (pt_cmpR op_lt (pv 0) (pv 1) (nomark _))))) (pss_one (ps_ret pe_bl)) pss_nil)
      (pss_one (ps_ret (pe_or (pe_cmpR op_isN (pv 2) pe_non (nomark _)) (pe_one (pe_cmpR op_le (pv 0) (pv 2) (nomark _)))))))), ?_⟩
  refine ⟨_, rfl, c, v, d, rfl, hd, fun H1 s1 => ⟨_, rfl, ?_⟩⟩
  have k := k H1 s1
  cases hd with
  | int z =>
    refine iteF ?_
    cases lo with
    | none =>
      refine ⟨_, rfl, rfl, _, rfl, iteF ?_⟩
      cases hi with
      | none => exact ⟨_, rfl, rfl, _, rfl, k⟩
      | some u => exact ⟨_, rfl, rfl, _, rfl, _, rfl, _, rfl, _, _, rfl, rfl, k⟩
    | some l =>
      refine ⟨_, rfl, rfl, _, rfl, iteT ⟨_, rfl, _, rfl, _, _, rfl, rfl, _, rfl, ?_⟩⟩
      refine ite2 (fun e => ?_) (fun e => ?_)
      · have e := of_decide_eq_true e
        have : inB (some l) hi (.int z) = false := by
          show (decide (l ≤ z) && _) = false
          rw [decide_eq_false (by omega)]; rfl
        rw [this] at k
        exact k
      · have e : ¬ z < l := fun x => e (decide_eq_true x)
        have el : decide (l ≤ z) = true := decide_eq_true (by omega)
        cases hi with
        | none =>
          have : inB (some l) none (.int z) = true := by
            show (decide (l ≤ z) && true) = true
            rw [el]; rfl
          rw [this] at k
          exact ⟨_, rfl, rfl, _, rfl, k⟩
        | some u =>
          have : inB (some l) (some u) (.int z) = decide (z ≤ u) := by
            show (decide (l ≤ z) && decide (z ≤ u)) = _
            rw [el]; rfl
          rw [this] at k
          exact ⟨_, rfl, rfl, _, rfl, _, rfl, _, rfl, _, _, rfl, rfl, k⟩
  | _ => exact iteT k
def letters : Str := "abcdefghijklmnopqrstuvwxyz"
def barred : List V := [.str "lord", .str "leaps", .str "rides", .str "stone"]
def isNameS (x : Str) : Bool := decide (1 ≤ x.length) && decide (x.length ≤ 8) && (!inV (.str x) barred) && x.cps.toList.all fun c => decide (c ∈ letters.cps.toList)
def isNm : PyData → Bool
  | .str x => isNameS x
  | _ => false
def spName (K : PySem.W.Frag) : Sp := fun vs H Q _ => ∃ (c : Addr) (v : V) (d : PyData), vs = [v] ∧ DV K c H v d ∧ (∀ x, d = .str x → x.length ≤ 1000000) ∧ ∀ H', Same H H' → Q (.bl (isNm d)) H'
theorem all_take {α : Type} (p : α → Bool) (xs : List α) : ((xs.map p).map V.bl) = xs.map (fun x => V.bl (p x)) := by rw [List.map_map]; rfl
theorem O_is_name (T : Tx K mg w) : FnOk P w K mg base CX0 1 T.a_is_name T.d_is_name ["value"] (spName K) := by
  refine T.F_is_name.ok sc_is_name (fun vs H Q E h => ?_) (fun cdv A outer s H vs Q E hr h => ?_)
  · obtain ⟨c, v, d, rfl, _⟩ := h; rfl
  obtain ⟨c, v, d, rfl, hd, hz, k⟩ := h
  obtain ⟨tL, hL⟩ := T.g_LETTERS
  obtain ⟨tN, hN⟩ := T.g_LONGEST
  refine ⟨_, (pss_cons (ps_if (PW.pt (pw_or (pt_not (pt_val (pe_callB (r := rIsi K) call_isi (by rfl) T.z_isinstance (by decide +kernel) (pa_cons (pv 0) (pa_cons (pe_bltn (v := .ty "str") (u := .type "str") (by rfl) T.z_str (by decide +kernel) rfl) pa_nil))))) (pw_or1 (pt_not (pt_chain op_le op_le pe_int (pe_callB call_len_str (by rfl) T.z_len (by decide +kernel) (pa_cons (pv 0) pa_nil)) (pe_glob (v := .int 8) (by rfl) hN ⟨_, rfl⟩)))))) (pss_one (ps_ret pe_bl)) pss_nil)
      (pss_one (ps_ret (pe_and (pe_cmpR op_notIn_seq (pv 0) (pe_glob (v := .ref T.t_B) (by rfl) T.g_B rfl) (by rfl)) (pe_one (pe_callB (cr_all rfl) (by rfl) T.z_all (by decide +kernel) (pa_cons (pe_lc (own := [("sign", 1)]) (g := (gName 1)) rfl sc_is_name.nd (pi_str (pv 0)) (blkOk_by (N := n_is_name) (sc := defScope s_is_name) (by decide +kernel)) (fun _ _ _ _ _ => (pg_name (i := 1) sc_is_name.nd rfl (Or.inl rfl))) (fun _ _ _ _ _ => pts_nil) (fun _ _ _ _ _ => (pe_cmpR op_in_sign (pv 1) (pe_glob (v := .str "abcdefghijklmnopqrstuvwxyz") (by rfl) hL ⟨_, rfl⟩) (by rfl)))) pa_nil))))))), ?_⟩
  refine ⟨_, rfl, _, .ty "str", .type (tyN _), .type "str", _, rfl, .ty _, ty_of hd, kit_ty (kS _), _, rfl, ?_⟩
  cases hd with
  | str x =>
    have hz : x.length ≤ 1000000 := hz x rfl
    refine iteF ?_
    refine ⟨_, rfl, _, rfl, szM hz, _, _, rfl, rfl, _, rfl, ?_⟩
    refine iteB (fun e1 => ?_) (fun e1 => ?_)
    rotate_left
    · refine ⟨_, rfl, ?_⟩
      have := k H (Same.refl H)
      have e : isNm (.str x) = false := by
        show isNameS x = false
        unfold isNameS
        rw [decide_eq_false (fun z => by have := of_decide_eq_false e1; omega)]; rfl
      rw [e] at this
      exact iteT this
    refine ⟨_, _, rfl, rfl, _, rfl, ?_⟩
    have e1 := of_decide_eq_true e1
    refine iteB (fun e2 => ?_) (fun e2 => ?_)
    · have := k H (Same.refl H)
      have e : isNm (.str x) = false := by
        show isNameS x = false
        unfold isNameS
        rw [decide_eq_false (fun z : x.length ≤ 8 => by
          have e2 : (!decide ((x.length : Int) ≤ 8)) = true := e2
          rw [decide_eq_true (by omega)] at e2; cases e2), Bool.and_false]; rfl
      rw [e] at this
      exact this
    have e3 : x.length ≤ 8 := by
      have e2 : (!decide ((x.length : Int) ≤ 8)) = false := e2
      by_cases z : (x.length : Int) ≤ 8
      · omega
      · rw [decide_eq_false z] at e2; cases e2
    -- value not in BARRED_NAMES and all(..)
    refine ⟨_, rfl, T.t_B, _, rfl, .inr (T.s_B H), rfl, rfl, _, rfl, ?_⟩
    refine iteB (fun e4 => ?_) (fun e4 => ?_)
    rotate_left
    · have := k H (Same.refl H)
      have e : isNm (.str x) = false := by
        show isNameS x = false
        unfold isNameS
        have e4 : (!inV (.str x) barred) = false := e4
        rw [e4, Bool.and_false]; rfl
      rw [e] at this
      exact this
    have e4 : (!inV (.str x) barred) = true := e4
    refine ⟨_, rfl, x, rfl, fun D hD => ?_⟩
    refine lc_it walk_str (fun i H' => H' D = some (.lst ((x.cps.toList.take i).map fun c => .bl (decide (c ∈ letters.cps.toList)))) ∧ Same H H') ⟨upd_same, same_new hD⟩ (fun _ _ _ _ => trivial) ?_ ?_
    · rintro i z H1 H2 hi ⟨h1, h2⟩ ⟨rfl, cp, hc, rfl⟩
      refine ⟨rfl, ?_⟩
      refine ⟨_, rfl, cp, _, rfl, rfl, _, h1, ?_, ?_, ?_⟩
      · rw [List.length_map]
        refine szK (Nat.lt_of_le_of_lt (List.length_take_le ..) ?_)
        have : i < x.length := hi
        omega
      · have hc : x.cps.toList[i]? = some cp := by rw [Array.getElem?_toList]; exact hc
        rw [upd_same, List.take_add_one, hc, List.map_append]; rfl
      · exact same_own h2 hD
    · rintro H1 ⟨h1, h2⟩
      have eall : x.cps.toList.take x.cps.size = x.cps.toList := List.take_of_length_le (by simp)
      rw [eall] at h1
      refine ⟨D, x.cps.toList.map (fun c => decide (c ∈ letters.cps.toList)), rfl, .of (by rw [all_take]; exact h1), ?_⟩
      have := k H1 h2
      have e : isNm (.str x) = ((x.cps.toList.map (fun c => decide (c ∈ letters.cps.toList))).all id) := by
        show isNameS x = _
        unfold isNameS
        rw [decide_eq_true (show 1 ≤ x.length by omega), decide_eq_true e3, e4, List.all_map]; rfl
      rw [e] at this
      exact this
  | _ => exact iteT (k H (Same.refl H))
end
end K57

set_option Elab.async false
set_option linter.all false
set_option maxRecDepth 100000
set_option maxHeartbeats 4000000
namespace K57
open PySem PySem.Spec PyProof.Rows L2 Gs
section
variable {P : Program} {w : World} {K : PySem.W.Frag} {mg : Str → Option Value} {base : Heap}
/-- an own error's __init__ with one field -/
def spErr (C : Addr) (f : Str) : Sp := fun vs H Q _ => ∃ (a : Addr) (v : V), vs = [.ref a, v] ∧ H a = some (exo a C none) ∧
  ∀ d, H d = none → d ≠ a → Q .non (upd (upd H d (exd d [(f, v)])) a (exo a C (some d)))
/-- .. with two fields -/
def spErr2 (C : Addr) (f g : Str) : Sp := fun vs H Q _ => ∃ (a : Addr) (v u : V), vs = [.ref a, v, u] ∧ H a = some (exo a C none) ∧
  ∀ d, H d = none → d ≠ a → Q .non (upd (upd (upd H d (exd d [(f, v)])) a (exo a C (some d))) d (exd d [(g, u), (f, v)]))
theorem same_err {H : Hp} {a d : Addr} {fs : List (Str × V)} {H2 : Hp} (ha : H a = none) (hd : H d = none) (h2 : ∀ b, b ≠ a → b ≠ d → H2 b = H b) : Same H (upd (del H2 a) d (.xd fs)) := fun b o e => by
  have na := ne_of_none e ha
  have nd := ne_of_none e hd
  rw [upd_ne nd, del_ne na, h2 b na nd]; exact e
/-- C(v) raised, its __init__ as above -/
theorem mk_err {C : Addr} {f : Str} {v : V} {H : Hp} {Q : XK} (h : ∀ d H', H d = none → Same H H' → H' d = some (.xd [(f, v)]) → Q (.ref C) (some d) H') : ∀ a, H a = none →
    spErr C f (.ref a :: ([v] ++ [])) (upd H a (exo a C none)) (fun x H2 => x = .non ∧ ∃ (d : Addr) (fs : List (Str × V)), H2 a = some (exo a C (some d)) ∧ H2 d = some (exd d fs) ∧ H d = none ∧ Q (.ref C) (some d) (upd (del H2 a) d (.xd fs))) (fun _ _ _ => False) := by
  intro a ha
  refine ⟨a, v, rfl, upd_same, fun d hd nda => ⟨rfl, d, _, upd_same, by rw [upd_ne nda, upd_same], ?_, ?_⟩⟩
  · rwa [upd_ne nda] at hd
  · rw [upd_ne nda] at hd
    refine h d _ hd (same_err ha hd fun b n1 n2 => by rw [upd_ne n1, upd_ne n2, upd_ne n1]) upd_same
theorem mk_err2 {C : Addr} {f g : Str} {v u : V} {H : Hp} {Q : XK} (h : ∀ d H', H d = none → Same H H' → H' d = some (.xd [(g, u), (f, v)]) → Q (.ref C) (some d) H') : ∀ a, H a = none →
    spErr2 C f g (.ref a :: ([v, u] ++ [])) (upd H a (exo a C none)) (fun x H2 => x = .non ∧ ∃ (d : Addr) (fs : List (Str × V)), H2 a = some (exo a C (some d)) ∧ H2 d = some (exd d fs) ∧ H d = none ∧ Q (.ref C) (some d) (upd (del H2 a) d (.xd fs))) (fun _ _ _ => False) := by
  intro a ha
  refine ⟨a, v, u, rfl, upd_same, fun d hd nda => ⟨rfl, d, _, by rw [upd_ne (Ne.symm nda), upd_same], upd_same, ?_, ?_⟩⟩
  · rwa [upd_ne nda] at hd
  · rw [upd_ne nda] at hd
    refine h d _ hd (same_err ha hd fun b n1 n2 => by rw [upd_ne n2, upd_ne n1, upd_ne n2, upd_ne n1]) upd_same
theorem O_BadNumber___init__ (T : Tx K mg w) : FnOk P w K mg base CX0 1 T.a_BadNumber___init__ T.d_BadNumber___init__ ["self", "part"] (spErr T.c_BadNumber "part") := by
  refine T.F_BadNumber___init__.ok sc_BadNumber___init__ (fun vs H Q E h => ?_) (fun cdv A outer s H vs Q E hr h => ?_)
  · obtain ⟨a, v, rfl, _⟩ := h; rfl
  obtain ⟨a, v, rfl, ha, k⟩ := h
  refine ⟨_, (pss_one (ps_ost (pv 0) (pv 1))), ?_⟩
  exact ⟨_, rfl, _, rfl, a, _, rfl, T.ox_BadNumber, T.no_BadNumber_part, .inl ⟨ha, fun d hd nd => k d hd nd⟩⟩
theorem O_BadKind___init__ (T : Tx K mg w) : FnOk P w K mg base CX0 1 T.a_BadKind___init__ T.d_BadKind___init__ ["self", "part"] (spErr T.c_BadKind "part") := by
  refine T.F_BadKind___init__.ok sc_BadKind___init__ (fun vs H Q E h => ?_) (fun cdv A outer s H vs Q E hr h => ?_)
  · obtain ⟨a, v, rfl, _⟩ := h; rfl
  obtain ⟨a, v, rfl, ha, k⟩ := h
  refine ⟨_, (pss_one (ps_ost (pv 0) (pv 1))), ?_⟩
  exact ⟨_, rfl, _, rfl, a, _, rfl, T.ox_BadKind, T.no_BadKind_part, .inl ⟨ha, fun d hd nd => k d hd nd⟩⟩
theorem O_BadGame___init__ (T : Tx K mg w) : FnOk P w K mg base CX0 1 T.a_BadGame___init__ T.d_BadGame___init__ ["self", "part"] (spErr T.c_BadGame "part") := by
  refine T.F_BadGame___init__.ok sc_BadGame___init__ (fun vs H Q E h => ?_) (fun cdv A outer s H vs Q E hr h => ?_)
  · obtain ⟨a, v, rfl, _⟩ := h; rfl
  obtain ⟨a, v, rfl, ha, k⟩ := h
  refine ⟨_, (pss_one (ps_ost (pv 0) (pv 1))), ?_⟩
  exact ⟨_, rfl, _, rfl, a, _, rfl, T.ox_BadGame, T.no_BadGame_part, .inl ⟨ha, fun d hd nd => k d hd nd⟩⟩
theorem O_BadPosition___init__ (T : Tx K mg w) : FnOk P w K mg base CX0 1 T.a_BadPosition___init__ T.d_BadPosition___init__ ["self", "part"] (spErr T.c_BadPosition "part") := by
  refine T.F_BadPosition___init__.ok sc_BadPosition___init__ (fun vs H Q E h => ?_) (fun cdv A outer s H vs Q E hr h => ?_)
  · obtain ⟨a, v, rfl, _⟩ := h; rfl
  obtain ⟨a, v, rfl, ha, k⟩ := h
  refine ⟨_, (pss_one (ps_ost (pv 0) (pv 1))), ?_⟩
  exact ⟨_, rfl, _, rfl, a, _, rfl, T.ox_BadPosition, T.no_BadPosition_part, .inl ⟨ha, fun d hd nd => k d hd nd⟩⟩
theorem O_BadMove___init__ (T : Tx K mg w) : FnOk P w K mg base CX0 1 T.a_BadMove___init__ T.d_BadMove___init__ ["self", "part"] (spErr T.c_BadMove "part") := by
  refine T.F_BadMove___init__.ok sc_BadMove___init__ (fun vs H Q E h => ?_) (fun cdv A outer s H vs Q E hr h => ?_)
  · obtain ⟨a, v, rfl, _⟩ := h; rfl
  obtain ⟨a, v, rfl, ha, k⟩ := h
  refine ⟨_, (pss_one (ps_ost (pv 0) (pv 1))), ?_⟩
  exact ⟨_, rfl, _, rfl, a, _, rfl, T.ox_BadMove, T.no_BadMove_part, .inl ⟨ha, fun d hd nd => k d hd nd⟩⟩
theorem O_BadWords___init__ (T : Tx K mg w) : FnOk P w K mg base CX0 1 T.a_BadWords___init__ T.d_BadWords___init__ ["self", "part"] (spErr T.c_BadWords "part") := by
  refine T.F_BadWords___init__.ok sc_BadWords___init__ (fun vs H Q E h => ?_) (fun cdv A outer s H vs Q E hr h => ?_)
  · obtain ⟨a, v, rfl, _⟩ := h; rfl
  obtain ⟨a, v, rfl, ha, k⟩ := h
  refine ⟨_, (pss_one (ps_ost (pv 0) (pv 1))), ?_⟩
  exact ⟨_, rfl, _, rfl, a, _, rfl, T.ox_BadWords, T.no_BadWords_part, .inl ⟨ha, fun d hd nd => k d hd nd⟩⟩
theorem O_Misfit___init__ (T : Tx K mg w) : FnOk P w K mg base CX0 1 T.a_Misfit___init__ T.d_Misfit___init__ ["self", "part"] (spErr T.c_Misfit "part") := by
  refine T.F_Misfit___init__.ok sc_Misfit___init__ (fun vs H Q E h => ?_) (fun cdv A outer s H vs Q E hr h => ?_)
  · obtain ⟨a, v, rfl, _⟩ := h; rfl
  obtain ⟨a, v, rfl, ha, k⟩ := h
  refine ⟨_, (pss_one (ps_ost (pv 0) (pv 1))), ?_⟩
  exact ⟨_, rfl, _, rfl, a, _, rfl, T.ox_Misfit, T.no_Misfit_part, .inl ⟨ha, fun d hd nd => k d hd nd⟩⟩
end
end K57

set_option Elab.async false
set_option linter.all false
set_option maxRecDepth 100000
set_option maxHeartbeats 4000000
namespace K57
open PySem PySem.Spec PyProof.Rows L2 Gs
section
variable {P : Program} {w : World} {K : PySem.W.Frag} {mg : Str → Option Value} {base : Heap}
def lpart : PyData → Bool := inB (some (-3)) (some 3)
def isZ : PyData → Bool
  | .int z => decide (z = 0)
  | _ => false
def lpair : PyData → PyData → Bool := fun a b => lpart a && lpart b && !(isZ a && isZ b)
def isLeap : PyData → Bool
  | .list [a, b] => lpair a b
  | .tuple [a, b] => lpair a b
  | _ => false
theorem leap_no {ds : List PyData} (h : ds.length ≠ 2) : isLeap (.list ds) = false ∧ isLeap (.tuple ds) = false := by
  match ds with
  | [] => exact ⟨rfl, rfl⟩
  | [_] => exact ⟨rfl, rfl⟩
  | [_, _] => exact absurd rfl h
  | _ :: _ :: _ :: _ => exact ⟨rfl, rfl⟩
theorem O_is_leap_part (T : Tx K mg w) : FnOk P w K mg base CX0 3 T.a_is_leap_part T.d_is_leap_part ["value"] (spB K lpart) := by
  refine T.F_is_leap_part.ok sc_is_leap_part spB_len (fun cdv A outer s H vs Q E hr h => ?_)
  obtain ⟨c, v, d, rfl, hd, k⟩ := h
  obtain ⟨tG, hG⟩ := T.g_LEAP
  refine ⟨_, (pss_one (ps_ret (pe_call (O_is_within T) (hr.mono (by decide)) (by rfl) T.m_is_within T.F_is_within.kp T.b_is_within .nil pass0 (pa_cons (pv 0) (pa_cons (pe_un un_neg (pe_glob (v := .int 3) (by rfl) hG ⟨_, rfl⟩)) (pa_cons (pe_glob (v := .int 3) (by rfl) hG ⟨_, rfl⟩) pa_nil)))))), ?_⟩
  exact ⟨_, rfl, _, rfl, c, v, d, some (-3), some 3, rfl, hd, k⟩
def steps4 : List Str := ["right", "left", "up", "down"]
def isRide : PyData → Bool
  | .str x => decide (x ∈ steps4)
  | _ => false
theorem step_in (T : Tx K mg w) (z : Str) : ∃ r, PySem.W.nsIn K T.t_S z = some r ∧ r.isSome = decide (z ∈ steps4) := by
  rcases T.w_S.tells z with ⟨i, v, u, h1, h2, _⟩ | ⟨h1, h2⟩
  · refine ⟨_, h2, ?_⟩
    have hm : z ∈ steps4 := by
      have := List.mem_map_of_mem (f := Prod.fst) (List.mem_of_getElem? h1)
      exact this
    rw [decide_eq_true hm]; rfl
  · refine ⟨_, h2, ?_⟩
    have hm : ¬ z ∈ steps4 := fun hm => by
      have hm : z ∈ ([("right", V.ref T.t_R), ("left", .ref T.t_L), ("up", .ref T.t_U), ("down", .ref T.t_D)] : List (Str × V)).map Prod.fst := hm
      obtain ⟨⟨a, v⟩, h3, rfl⟩ := List.mem_map.mp hm
      exact h1 v h3
    rw [decide_eq_false hm]; rfl
theorem O_is_ride (T : Tx K mg w) : FnOk P w K mg base CX0 1 T.a_is_ride T.d_is_ride ["value"] (spB K isRide) := by
  refine T.F_is_ride.ok sc_is_ride spB_len (fun cdv A outer s H vs Q E hr h => ?_)
  obtain ⟨c, v, d, rfl, hd, k⟩ := h
  obtain ⟨es, nS, DS, _, _⟩ := T.w_S.ex
  refine ⟨_, (pss_one (ps_ret (pe_and (pe_callB (r := rIsi K) call_isi (by rfl) T.z_isinstance (by decide +kernel) (pa_cons (pv 0) (pa_cons (pe_bltn (v := .ty "str") (u := .type "str") (by rfl) T.z_str (by decide +kernel) rfl) pa_nil))) (pe_one (pe_cmpR (op_in_kd DS) (pv 0) (pe_glob (v := .ref T.t_S) (by rfl) T.g_S rfl) (by rfl)))))), ?_⟩
  refine ⟨_, rfl, _, .ty "str", .type (tyN _), .type "str", _, rfl, .ty _, ty_of hd, kit_ty (kS _), _, rfl, ?_⟩
  have k := k H (Same.refl H)
  cases hd with
  | str x =>
    obtain ⟨r, hr1, hr2⟩ := step_in T x
    refine iteT ⟨_, rfl, x, r, rfl, rfl, hr1, ?_⟩
    rw [hr2]; exact k
  | _ => exact iteF k
theorem lpart_int {c : Addr} {H : Hp} {v : V} {d : PyData} (h : DV K c H v d) (e : lpart d = true) : ∃ i, v = .int i ∧ d = .int i := by
  cases h with
  | int i => exact ⟨i, rfl, rfl⟩
  | _ => cases e
theorem O_is_leap (T : Tx K mg w) : FnOk P w K mg base CX0 4 T.a_is_leap T.d_is_leap ["value"] (spB K isLeap) := by
  refine T.F_is_leap.ok sc_is_leap spB_len (fun cdv A outer s H vs Q E hr h => ?_)
  obtain ⟨c, v, d, rfl, hd, k⟩ := h
  refine ⟨_, (pss_cons (ps_if (PW.pt (pw_or (pt_not (pt_val (pe_call (O_is_list T) (hr.mono (by decide)) (by rfl) T.m_is_list T.F_is_list.kp T.b_is_list .nil pass0 (pa_cons (pv 0) pa_nil)))) (pw_or1 (pt_cmpR op_ne (pe_callB call_len (by rfl) T.z_len (by decide +kernel) (pa_cons (pv 0) pa_nil)) pe_int (nomark _))))) (pss_one (ps_ret pe_bl)) pss_nil)
      (pss_cons (ps_asg (pv 0) (pg_or (pg_unl rfl (pgs_cons (pg_name (i := 1) sc_is_leap.nd rfl (Or.inl rfl)) (pgs_cons (pg_name (i := 2) sc_is_leap.nd rfl (Or.inl rfl)) pgs_nil))) (pg_tup rfl (pgs_cons (pg_name (i := 1) sc_is_leap.nd rfl (Or.inl rfl)) (pgs_cons (pg_name (i := 2) sc_is_leap.nd rfl (Or.inl rfl)) pgs_nil)))))
      (pss_one (ps_ret (pe_and (pe_call (O_is_leap_part T) (hr.mono (by decide)) (by rfl) T.m_is_leap_part T.F_is_leap_part.kp T.b_is_leap_part .nil pass0 (pa_cons (pv 1) pa_nil)) (pe_and (pe_call (O_is_leap_part T) (hr.mono (by decide)) (by rfl) T.m_is_leap_part T.F_is_leap_part.kp T.b_is_leap_part .nil pass0 (pa_cons (pv 2) pa_nil)) (pe_one (pe_or (pe_cmpR op_ne (pv 1) pe_int (nomark _)) (pe_one (pe_cmpR op_ne (pv 2) pe_int (nomark _))))))))))), ?_⟩
  refine ⟨_, rfl, c, v, d, rfl, hd, fun H1 s1 => ⟨_, rfl, ?_⟩⟩
  have hd1 := hd.up (Ext.of s1)
  replace k := fun H' s2 => k H' (s1.trans s2)
  cases hd1 with
  | @lst a xs ds na hs hv =>
    refine iteF ⟨_, rfl, _, _, rfl, .inl ⟨xs, hs, rfl⟩, rfl, _, rfl, ?_⟩
    refine iteB (fun e => ?_) (fun e => ?_)
    · have e2 : ds.length ≠ 2 := fun z => by
        have e : (!decide (V.int xs.length = V.int 2)) = true := e
        rw [hv.len, z] at e; cases e
      have := k H1 (Same.refl H1)
      rw [(leap_no e2).1] at this
      exact this
    · have e2 : xs.length = 2 := by
        have e : (!decide (V.int xs.length = V.int 2)) = false := e
        have e : decide (V.int xs.length = V.int 2) = true := by simpa using e
        have := V.int.inj (of_decide_eq_true e); omega
      obtain ⟨x, y, rfl⟩ := two_of e2
      cases hv with
      | cons hx hv =>
      cases hv with
      | cons hy hv =>
      cases hv with
      | nil =>
      rename_i dx dy
      refine ⟨_, rfl, .inl ⟨a, _, rfl, hs, rfl, _, _, rfl, _, _, rfl, rfl, ?_⟩⟩
      refine ⟨_, rfl, c, x, dx, rfl, hx, fun H2 s2 => ⟨_, rfl, ?_⟩⟩
      have hy2 := hy.up (Ext.of (c := c) s2)
      refine iteB (fun e3 => ?_) (fun e3 => ?_)
      rotate_left
      · have := k H2 s2
        simp only [isLeap, lpair, e3, Bool.false_and] at this
        exact this
      refine ⟨_, rfl, c, y, dy, rfl, hy2, fun H3 s3 => ⟨_, rfl, ?_⟩⟩
      refine iteB (fun e4 => ?_) (fun e4 => ?_)
      rotate_left
      · have := k H3 (s2.trans s3)
        simp only [isLeap, lpair, e3, e4, Bool.true_and, Bool.false_and] at this
        exact this
      obtain ⟨i, rfl, rfl⟩ := lpart_int hx e3
      obtain ⟨j, rfl, rfl⟩ := lpart_int hy2 e4
      have := k H3 (s2.trans s3)
      simp only [isLeap, lpair, e3, e4, Bool.true_and] at this
      refine ⟨_, rfl, rfl, _, rfl, ?_⟩
      refine iteB (fun e5 => ?_) (fun e5 => ?_)
      · have e5 : (!decide (V.int i = V.int 0)) = true := e5
        have : isZ (.int i) = false := by
          show decide (i = 0) = false
          refine decide_eq_false fun z => ?_
          rw [z] at e5; cases e5
        simp only [this, Bool.false_and, Bool.not_false] at *
        exact ‹Q (V.bl true) H3›
      · have e5 : (!decide (V.int i = V.int 0)) = false := e5
        have e6 : decide (V.int i = V.int 0) = true := by simpa using e5
        have e7 : isZ (.int i) = true := by
          show decide (i = 0) = true
          exact decide_eq_true (V.int.inj (of_decide_eq_true e6))
        rw [e7, Bool.true_and] at this
        refine ⟨_, rfl, rfl, ?_⟩
        have e8 : (!decide (V.int j = V.int 0)) = !isZ (.int j) := by
          show _ = !decide (j = 0)
          rw [show decide (V.int j = V.int 0) = decide (j = 0) from decide_eq_decide.mpr ⟨V.int.inj, congrArg V.int⟩]
        rw [← e8] at this
        exact this
  | @tup a xs ds na hs hv =>
    refine iteF ⟨_, rfl, _, _, rfl, .inr ⟨xs, hs, rfl⟩, rfl, _, rfl, ?_⟩
    refine iteB (fun e => ?_) (fun e => ?_)
    · have e2 : ds.length ≠ 2 := fun z => by
        have e : (!decide (V.int xs.length = V.int 2)) = true := e
        rw [hv.len, z] at e; cases e
      have := k H1 (Same.refl H1)
      rw [(leap_no e2).2] at this
      exact this
    · have e2 : xs.length = 2 := by
        have e : (!decide (V.int xs.length = V.int 2)) = false := e
        have e : decide (V.int xs.length = V.int 2) = true := by simpa using e
        have := V.int.inj (of_decide_eq_true e); omega
      obtain ⟨x, y, rfl⟩ := two_of e2
      cases hv with
      | cons hx hv =>
      cases hv with
      | cons hy hv =>
      cases hv with
      | nil =>
      rename_i dx dy
      refine ⟨_, rfl, .inr ⟨a, _, rfl, hs, rfl, _, _, rfl, _, _, rfl, rfl, ?_⟩⟩
      refine ⟨_, rfl, c, x, dx, rfl, hx, fun H2 s2 => ⟨_, rfl, ?_⟩⟩
      have hy2 := hy.up (Ext.of (c := c) s2)
      refine iteB (fun e3 => ?_) (fun e3 => ?_)
      rotate_left
      · have := k H2 s2
        simp only [isLeap, lpair, e3, Bool.false_and] at this
        exact this
      refine ⟨_, rfl, c, y, dy, rfl, hy2, fun H3 s3 => ⟨_, rfl, ?_⟩⟩
      refine iteB (fun e4 => ?_) (fun e4 => ?_)
      rotate_left
      · have := k H3 (s2.trans s3)
        simp only [isLeap, lpair, e3, e4, Bool.true_and, Bool.false_and] at this
        exact this
      obtain ⟨i, rfl, rfl⟩ := lpart_int hx e3
      obtain ⟨j, rfl, rfl⟩ := lpart_int hy2 e4
      have := k H3 (s2.trans s3)
      simp only [isLeap, lpair, e3, e4, Bool.true_and] at this
      refine ⟨_, rfl, rfl, _, rfl, ?_⟩
      refine iteB (fun e5 => ?_) (fun e5 => ?_)
      · have e5 : (!decide (V.int i = V.int 0)) = true := e5
        have : isZ (.int i) = false := by
          show decide (i = 0) = false
          refine decide_eq_false fun z => ?_
          rw [z] at e5; cases e5
        simp only [this, Bool.false_and, Bool.not_false] at *
        exact ‹Q (V.bl true) H3›
      · have e5 : (!decide (V.int i = V.int 0)) = false := e5
        have e6 : decide (V.int i = V.int 0) = true := by simpa using e5
        have e7 : isZ (.int i) = true := by
          show decide (i = 0) = true
          exact decide_eq_true (V.int.inj (of_decide_eq_true e6))
        rw [e7, Bool.true_and] at this
        refine ⟨_, rfl, rfl, ?_⟩
        have e8 : (!decide (V.int j = V.int 0)) = !isZ (.int j) := by
          show _ = !decide (j = 0)
          rw [show decide (V.int j = V.int 0) = decide (j = 0) from decide_eq_decide.mpr ⟨V.int.inj, congrArg V.int⟩]
        rw [← e8] at this
        exact this
  | non => exact iteT (k H1 (Same.refl H1))
  | bl => exact iteT (k H1 (Same.refl H1))
  | int => exact iteT (k H1 (Same.refl H1))
  | str => exact iteT (k H1 (Same.refl H1))
  | dic => exact iteT (k H1 (Same.refl H1))
  | dct => exact iteT (k H1 (Same.refl H1))
end
end K57

set_option Elab.async false
set_option linter.all false
set_option maxRecDepth 100000
set_option maxHeartbeats 4000000
namespace K57
open PySem PySem.Spec PyProof.Rows L2 Gs
section
variable {P : Program} {w : World} {K : PySem.W.Frag} {mg : Str → Option Value} {base : Heap}
theorem hu_two {A : Around} {k : Nat} (hr : Room k A) : A.units + 2 < cLine := Nat.lt_of_le_of_lt (Nat.add_le_add_left (by decide : 2 ≤ 64) _) hr.units
def rTupOf (K : PySem.W.Frag) : List V → Hp → VK → Prop := fun vs H R => ∃ a zs, vs = [V.ref a] ∧ ((SqL K H a zs ∧ ∀ q, H q = none → R (.ref q) (upd H q (.tup zs))) ∨ (SqT K H a zs ∧ R (.ref a) H))
/-- the two numbers of a leap -/
def lkey : PyData → List Int
  | .list [.int a, .int b] => [a, b]
  | .tuple [.int a, .int b] => [a, b]
  | _ => []
def leapsOk (ds : List PyData) : Bool := ds.all isLeap && decide ((ds.map lkey).Nodup)
def areLeaps : PyData → Bool
  | .list ds => leapsOk ds
  | .tuple ds => leapsOk ds
  | _ => false
def few : PyData → Prop
  | .list ds => ds.length ≤ 62
  | .tuple ds => ds.length ≤ 62
  | _ => True
def spFew (K : PySem.W.Frag) (f : PyData → Bool) : Sp := fun vs H Q _ => ∃ (c : Addr) (v : V) (d : PyData), vs = [v] ∧ DV K c H v d ∧ few d ∧ ∀ H', Same H H' → Q (.bl (f d)) H'
theorem leap_is {c : Addr} {H : Hp} {v : V} {d : PyData} (h : DV K c H v d) (e : isLeap d = true) : ∃ (b : Addr) (ys : List V) (p q : Int), v = .ref b ∧ ((SqL K H b ys ∧ ys = [V.int p, V.int q]) ∨ (SqT K H b ys ∧ ys = [V.int p, V.int q])) ∧ lkey d = [p, q] := by
  cases h with
  | @lst b ys ds n hs hv =>
    have h2 : ds.length = 2 := Decidable.byContradiction fun z => by rw [(leap_no z).1] at e; cases e
    obtain ⟨dx, dy, rfl⟩ := two_of h2
    cases hv with
    | cons hx hv =>
    cases hv with
    | cons hy hv =>
    cases hv with
    | nil =>
      have e : (lpart dx && lpart dy && !(isZ dx && isZ dy)) = true := e
      rw [Bool.and_eq_true, Bool.and_eq_true] at e
      obtain ⟨i, rfl, rfl⟩ := lpart_int hx e.1.1
      obtain ⟨j, rfl, rfl⟩ := lpart_int hy e.1.2
      exact ⟨b, _, i, j, rfl, .inl ⟨hs, rfl⟩, rfl⟩
  | @tup b ys ds n hs hv =>
    have h2 : ds.length = 2 := Decidable.byContradiction fun z => by rw [(leap_no z).2] at e; cases e
    obtain ⟨dx, dy, rfl⟩ := two_of h2
    cases hv with
    | cons hx hv =>
    cases hv with
    | cons hy hv =>
    cases hv with
    | nil =>
      have e : (lpart dx && lpart dy && !(isZ dx && isZ dy)) = true := e
      rw [Bool.and_eq_true, Bool.and_eq_true] at e
      obtain ⟨i, rfl, rfl⟩ := lpart_int hx e.1.1
      obtain ⟨j, rfl, rfl⟩ := lpart_int hy e.1.2
      exact ⟨b, _, i, j, rfl, .inr ⟨hs, rfl⟩, rfl⟩
  | non => cases e
  | bl => cases e
  | int => cases e
  | str => cases e
  | dic => cases e
  | dct => cases e
theorem O_are_leaps (T : Tx K mg w) : FnOk P w K mg base CX0 5 T.a_are_leaps T.d_are_leaps ["value"] (spFew K areLeaps) := by
  refine T.F_are_leaps.ok sc_are_leaps (fun vs H Q E h => ?_) (fun cdv A outer s H vs Q E hr h => ?_)
  · obtain ⟨c, v, d, rfl, _⟩ := h; rfl
  obtain ⟨c, v, d, rfl, hd, hf, k⟩ := h
  refine ⟨_, (pss_cons (ps_if (PW.pt (pw_or (pt_not (pt_val (pe_call (O_is_list T) (hr.mono (by decide)) (by rfl) T.m_is_list T.F_is_list.kp T.b_is_list .nil pass0 (pa_cons (pv 0) pa_nil)))) (pw_or1 (pt_not (pt_val (pe_callB (cr_all rfl) (by rfl) T.z_all (by decide +kernel) (pa_cons (pe_lc (own := [("leap", 1)]) (g := (gName 1)) rfl sc_are_leaps.nd (pi_or (pi_list (pv 0)) (pi_tup (pv 0))) (blkOk_by (N := n_are_leaps) (sc := defScope s_are_leaps) (by decide +kernel)) (fun _ _ _ _ _ => (pg_name (i := 1) sc_are_leaps.nd rfl (Or.inl rfl))) (fun _ _ _ _ _ => pts_nil) (fun _ _ _ _ _ => (pe_call (O_is_leap T) (hr.mono (by decide)) (by rfl) T.m_is_leap T.F_is_leap.kp T.b_is_leap .nil pass0 (pa_cons (pv 1) pa_nil)))) pa_nil))))))) (pss_one (ps_ret pe_bl)) pss_nil)
      (pss_one (ps_ret (pe_cmpR op_eq (pe_callB call_lenT (by rfl) T.z_len (by decide +kernel) (pa_cons (pe_setc (own := [("leap", 1)]) (g := (gName 1)) (tupKd P w K) (hu_two hr) rfl sc_are_leaps.nd (pi_or (pi_list (pv 0)) (pi_tup (pv 0))) (blkOk_by (N := n_are_leaps) (sc := defScope s_are_leaps) (by decide +kernel)) (fun _ _ _ _ _ => (pg_name (i := 1) sc_are_leaps.nd rfl (Or.inl rfl))) (fun _ _ _ _ _ => pts_nil) (fun _ _ _ _ _ => (pe_callTy (T := "tuple") (r := rTupOf K) call_tuple_of (by rfl) T.z_tuple (by decide +kernel) (pa_cons (pv 1) pa_nil)))) pa_nil)) (pe_callB call_len (by rfl) T.z_len (by decide +kernel) (pa_cons (pv 0) pa_nil)) (nomark _))))), ?_⟩
  refine ⟨_, rfl, c, v, d, rfl, hd, fun H1 s1 => ⟨_, rfl, ?_⟩⟩
  have hd1 := hd.up (Ext.of s1)
  replace k := fun H' s2 => k H' (s1.trans s2)
  cases hd1 with
  | @lst a xs ds na hs hv =>
    have hf : ds.length ≤ 62 := hf
    have hl := hv.len
    refine iteF (.inl ⟨_, rfl, a, rfl, ⟨_, hs⟩, fun D hD => ?_⟩)
    refine lc_it (walk_list (K := K) (a := a) (xs := xs)) (fun i H' => Same H1 H' ∧ H' D = some (.lst ((ds.take i).map fun d => .bl (isLeap d)))) ⟨same_new hD, upd_same⟩ (fun i H' _ h => h.1.seq hs) ?_ ?_
    · rintro i x H2 H3 hi ⟨s2, hD2⟩ ⟨rfl, hx⟩
      refine ⟨rfl, ?_⟩
      obtain ⟨d, hdi, hdx⟩ := hv.at hx
      refine ⟨_, rfl, c, x, d, rfl, hdx.up (Ext.of s2), fun H4 s4 => ⟨_, s4 _ _ hD2, ?_, ?_, ?_⟩⟩
      · rw [List.length_map]
        exact szK (by have := List.length_take_le' i ds; omega)
      · exact same_own (s2.trans s4) hD
      · rw [upd_same, List.take_add_one, hdi, List.map_append]; rfl
    rintro H2 ⟨s2, hD2⟩
    rw [hl, List.take_length] at hD2
    refine ⟨D, ds.map isLeap, rfl, .of (by rw [List.map_map]; exact hD2), _, rfl, ?_⟩
    rw [show (ds.map isLeap).all id = ds.all isLeap by rw [List.all_map]; rfl]
    refine iteB (fun e => ?_) (fun e => ?_)
    · have e : (!ds.all isLeap) = true := e
      have e0 : ds.all isLeap = false := by simpa using e
      have := k H2 s2
      rw [show areLeaps (.list ds) = false by show leapsOk ds = false; unfold leapsOk; rw [e0]; rfl] at this
      exact this
    have e : (!ds.all isLeap) = false := e
    have e0 : ds.all isLeap = true := by simpa using e
    have hs2 := s2.seq hs
    replace hv : DVs K c H2 xs ds := hv.up (Ext.of s2)
    refine .inl ⟨_, rfl, a, rfl, ⟨_, hs2⟩, fun S hS => ?_⟩
    refine sc_it (walk_list (K := K) (a := a) (xs := xs)) (fun i H' => Same H2 H' ∧ ∃ L : Tps, H' S = some (SetTO P w S L) ∧ (∀ p ∈ L, SqT K H' p.1 (p.2.map V.int)) ∧ L.length ≤ i ∧ (L.map (·.2)).Nodup ∧
      ∀ q, q ∈ L.map (·.2) ↔ q ∈ (ds.take i).map lkey) ⟨same_new hS, [], upd_same, (fun p h => by cases h), Nat.le_refl _, List.nodup_nil, fun q => Iff.rfl⟩ (fun i H' _ h => h.1.seq hs2) ?_ ?_
    · rintro i x H3 H4 hi ⟨s3, L, hL, hT, hlen, hnd, hmem⟩ ⟨rfl, hx⟩
      refine ⟨rfl, ?_⟩
      obtain ⟨d, hdi, hdx⟩ := hv.at hx
      have hdx := hdx.up (Ext.of s3)
      have hle : isLeap d = true := List.all_eq_true.mp e0 d (List.mem_of_getElem? hdi)
      obtain ⟨b, ys, p, q, rfl, hb, hkey⟩ := leap_is hdx hle
      have step : ∀ (t : Addr) (H5 : Hp), Same H2 H5 → H5 S = some (SetTO P w S L) → (∀ p ∈ L, SqT K H5 p.1 (p.2.map V.int)) → SqT K H5 t [V.int p, V.int q] →
          (tupKd P w K).adds S (.ref t) H5 (fun H' => Same H2 H' ∧ ∃ L : Tps, H' S = some (SetTO P w S L) ∧ (∀ p ∈ L, SqT K H' p.1 (p.2.map V.int)) ∧ L.length ≤ i + 1 ∧ (L.map (·.2)).Nodup ∧
            ∀ q, q ∈ L.map (·.2) ↔ q ∈ (ds.take (i + 1)).map lkey) := by
        intro t H5 s5 hL5 hT5 ht
        refine ⟨t, [p, q], L, rfl, hL5, hT5, ht, by have hi : i < xs.length := hi; omega, fun L' c1 c2 => ?_⟩
        have key : ∀ z, z ∈ (ds.take (i + 1)).map lkey ↔ z = [p, q] ∨ z ∈ L.map (·.2) := fun z => by
          rw [List.take_add_one, hdi, List.map_append, List.mem_append, ← hmem z]
          show _ ∨ z ∈ [lkey d] ↔ _
          rw [hkey, List.mem_singleton]
          exact Or.comm
        have keep : ∀ b zs, SqT K H5 b zs → SqT K (upd H5 S (SetTO P w S L')) b zs := fun b zs h => seqT_set hL5 h
        refine ⟨same_own s5 hS, L', upd_same, ?_⟩
        by_cases hm : [p, q] ∈ L.map (·.2)
        · rw [c1 hm]
          refine ⟨fun r hr => by rw [← c1 hm]; exact keep _ _ (hT5 r hr), Nat.le_succ_of_le hlen, hnd, fun z => ?_⟩
          rw [key z]
          exact ⟨.inr, fun h => h.elim (fun e => by rw [e]; exact hm) id⟩
        · have pm := c2 hm
          refine ⟨fun r hr => ?_, by rw [pm.length_eq]; exact Nat.succ_le_succ hlen, ?_, fun z => ?_⟩
          · rcases List.mem_cons.mp (pm.mem_iff.mp hr) with e | hr
            · rw [e]; exact keep _ _ ht
            · exact keep _ _ (hT5 r hr)
          · rw [(pm.map (·.2)).nodup_iff]
            exact List.nodup_cons.mpr ⟨hm, hnd⟩
          · rw [key z, (pm.map (·.2)).mem_iff]
            show z ∈ [p, q] :: L.map (·.2) ↔ _
            rw [List.mem_cons]
      refine ⟨_, rfl, b, ys, rfl, ?_⟩
      rcases hb with ⟨hb, rfl⟩ | ⟨hb, rfl⟩
      · refine .inl ⟨hb, fun t ht => ?_⟩
        have st : Same H4 (upd H4 t (.tup [V.int p, V.int q])) := same_new ht
        exact step t _ (s3.trans st) (st _ _ hL) (fun r hr => st.seqT (hT r hr)) (.of upd_same)
      · exact .inr ⟨hb, step b H4 s3 hL hT hb⟩
    · rintro H3 ⟨s3, L, hL, hT, hlen, hnd, hmem⟩
      rw [hl, List.take_length] at hmem
      refine ⟨S, L, rfl, hL, hT, _, rfl, _, _, rfl, .inl ⟨_, s3.seq hs2, rfl⟩, rfl, ?_⟩
      have := k H3 (s2.trans s3)
      rw [show areLeaps (.list ds) = decide (V.int L.length = V.int xs.length) by
        show leapsOk ds = _
        unfold leapsOk
        rw [e0, Bool.true_and, ← size_tells hnd hmem, hl]
        rw [List.length_map, List.length_map]
        exact decide_eq_decide.mpr ⟨fun z => congrArg V.int z, fun z => V.int.inj z⟩] at this
      exact this
  | @tup a xs ds na hs hv =>
    have hf : ds.length ≤ 62 := hf
    have hl := hv.len
    refine iteF (.inr ⟨_, rfl, a, rfl, ⟨_, hs⟩, fun D hD => ?_⟩)
    refine lc_it (walk_tup (K := K) (a := a) (xs := xs)) (fun i H' => Same H1 H' ∧ H' D = some (.lst ((ds.take i).map fun d => .bl (isLeap d)))) ⟨same_new hD, upd_same⟩ (fun i H' _ h => h.1.seqT hs) ?_ ?_
    · rintro i x H2 H3 hi ⟨s2, hD2⟩ ⟨rfl, hx⟩
      refine ⟨rfl, ?_⟩
      obtain ⟨d, hdi, hdx⟩ := hv.at hx
      refine ⟨_, rfl, c, x, d, rfl, hdx.up (Ext.of s2), fun H4 s4 => ⟨_, s4 _ _ hD2, ?_, ?_, ?_⟩⟩
      · rw [List.length_map]
        exact szK (by have := List.length_take_le' i ds; omega)
      · exact same_own (s2.trans s4) hD
      · rw [upd_same, List.take_add_one, hdi, List.map_append]; rfl
    rintro H2 ⟨s2, hD2⟩
    rw [hl, List.take_length] at hD2
    refine ⟨D, ds.map isLeap, rfl, .of (by rw [List.map_map]; exact hD2), _, rfl, ?_⟩
    rw [show (ds.map isLeap).all id = ds.all isLeap by rw [List.all_map]; rfl]
    refine iteB (fun e => ?_) (fun e => ?_)
    · have e : (!ds.all isLeap) = true := e
      have e0 : ds.all isLeap = false := by simpa using e
      have := k H2 s2
      rw [show areLeaps (.tuple ds) = false by show leapsOk ds = false; unfold leapsOk; rw [e0]; rfl] at this
      exact this
    have e : (!ds.all isLeap) = false := e
    have e0 : ds.all isLeap = true := by simpa using e
    have hs2 := s2.seqT hs
    replace hv : DVs K c H2 xs ds := hv.up (Ext.of s2)
    refine .inr ⟨_, rfl, a, rfl, ⟨_, hs2⟩, fun S hS => ?_⟩
    refine sc_it (walk_tup (K := K) (a := a) (xs := xs)) (fun i H' => Same H2 H' ∧ ∃ L : Tps, H' S = some (SetTO P w S L) ∧ (∀ p ∈ L, SqT K H' p.1 (p.2.map V.int)) ∧ L.length ≤ i ∧ (L.map (·.2)).Nodup ∧
      ∀ q, q ∈ L.map (·.2) ↔ q ∈ (ds.take i).map lkey) ⟨same_new hS, [], upd_same, (fun p h => by cases h), Nat.le_refl _, List.nodup_nil, fun q => Iff.rfl⟩ (fun i H' _ h => h.1.seqT hs2) ?_ ?_
    · rintro i x H3 H4 hi ⟨s3, L, hL, hT, hlen, hnd, hmem⟩ ⟨rfl, hx⟩
      refine ⟨rfl, ?_⟩
      obtain ⟨d, hdi, hdx⟩ := hv.at hx
      have hdx := hdx.up (Ext.of s3)
      have hle : isLeap d = true := List.all_eq_true.mp e0 d (List.mem_of_getElem? hdi)
      obtain ⟨b, ys, p, q, rfl, hb, hkey⟩ := leap_is hdx hle
      have step : ∀ (t : Addr) (H5 : Hp), Same H2 H5 → H5 S = some (SetTO P w S L) → (∀ p ∈ L, SqT K H5 p.1 (p.2.map V.int)) → SqT K H5 t [V.int p, V.int q] →
          (tupKd P w K).adds S (.ref t) H5 (fun H' => Same H2 H' ∧ ∃ L : Tps, H' S = some (SetTO P w S L) ∧ (∀ p ∈ L, SqT K H' p.1 (p.2.map V.int)) ∧ L.length ≤ i + 1 ∧ (L.map (·.2)).Nodup ∧
            ∀ q, q ∈ L.map (·.2) ↔ q ∈ (ds.take (i + 1)).map lkey) := by
        intro t H5 s5 hL5 hT5 ht
        refine ⟨t, [p, q], L, rfl, hL5, hT5, ht, by have hi : i < xs.length := hi; omega, fun L' c1 c2 => ?_⟩
        have key : ∀ z, z ∈ (ds.take (i + 1)).map lkey ↔ z = [p, q] ∨ z ∈ L.map (·.2) := fun z => by
          rw [List.take_add_one, hdi, List.map_append, List.mem_append, ← hmem z]
          show _ ∨ z ∈ [lkey d] ↔ _
          rw [hkey, List.mem_singleton]
          exact Or.comm
        have keep : ∀ b zs, SqT K H5 b zs → SqT K (upd H5 S (SetTO P w S L')) b zs := fun b zs h => seqT_set hL5 h
        refine ⟨same_own s5 hS, L', upd_same, ?_⟩
        by_cases hm : [p, q] ∈ L.map (·.2)
        · rw [c1 hm]
          refine ⟨fun r hr => by rw [← c1 hm]; exact keep _ _ (hT5 r hr), Nat.le_succ_of_le hlen, hnd, fun z => ?_⟩
          rw [key z]
          exact ⟨.inr, fun h => h.elim (fun e => by rw [e]; exact hm) id⟩
        · have pm := c2 hm
          refine ⟨fun r hr => ?_, by rw [pm.length_eq]; exact Nat.succ_le_succ hlen, ?_, fun z => ?_⟩
          · rcases List.mem_cons.mp (pm.mem_iff.mp hr) with e | hr
            · rw [e]; exact keep _ _ ht
            · exact keep _ _ (hT5 r hr)
          · rw [(pm.map (·.2)).nodup_iff]
            exact List.nodup_cons.mpr ⟨hm, hnd⟩
          · rw [key z, (pm.map (·.2)).mem_iff]
            show z ∈ [p, q] :: L.map (·.2) ↔ _
            rw [List.mem_cons]
      refine ⟨_, rfl, b, ys, rfl, ?_⟩
      rcases hb with ⟨hb, rfl⟩ | ⟨hb, rfl⟩
      · refine .inl ⟨hb, fun t ht => ?_⟩
        have st : Same H4 (upd H4 t (.tup [V.int p, V.int q])) := same_new ht
        exact step t _ (s3.trans st) (st _ _ hL) (fun r hr => st.seqT (hT r hr)) (.of upd_same)
      · exact .inr ⟨hb, step b H4 s3 hL hT hb⟩
    · rintro H3 ⟨s3, L, hL, hT, hlen, hnd, hmem⟩
      rw [hl, List.take_length] at hmem
      refine ⟨S, L, rfl, hL, hT, _, rfl, _, _, rfl, .inr ⟨_, s3.seqT hs2, rfl⟩, rfl, ?_⟩
      have := k H3 (s2.trans s3)
      rw [show areLeaps (.tuple ds) = decide (V.int L.length = V.int xs.length) by
        show leapsOk ds = _
        unfold leapsOk
        rw [e0, Bool.true_and, ← size_tells hnd hmem, hl]
        rw [List.length_map, List.length_map]
        exact decide_eq_decide.mpr ⟨fun z => congrArg V.int z, fun z => V.int.inj z⟩] at this
      exact this
  | non => exact iteT (k H1 (Same.refl H1))
  | bl => exact iteT (k H1 (Same.refl H1))
  | int => exact iteT (k H1 (Same.refl H1))
  | str => exact iteT (k H1 (Same.refl H1))
  | dic => exact iteT (k H1 (Same.refl H1))
  | dct => exact iteT (k H1 (Same.refl H1))
end
end K57

set_option Elab.async false
set_option linter.all false
set_option maxRecDepth 100000
set_option maxHeartbeats 4000000
namespace K57
open PySem PySem.Spec PyProof.Rows L2 Gs
section
variable {P : Program} {w : World} {K : PySem.W.Frag} {mg : Str → Option Value} {base : Heap}
def rkey : PyData → Str
  | .str x => x
  | _ => Str.empty
def ridesOk (ds : List PyData) : Bool := ds.all isRide && decide ((ds.map rkey).Nodup)
def areRides : PyData → Bool
  | .list ds => ridesOk ds
  | .tuple ds => ridesOk ds
  | _ => false
theorem rides_are {c : Addr} {H : Hp} : ∀ {xs : List V} {ds : List PyData}, DVs K c H xs ds → ds.all isRide = true → xs = (ds.map rkey).map V.str
  | _, [], h, _ => by cases h; rfl
  | _, d :: ds, h, e => by
    rw [List.all_cons, Bool.and_eq_true] at e
    cases h with
    | cons hx hv =>
      have r := rides_are hv e.2
      have e1 := e.1
      cases hx with
      | str x => rw [List.map_cons, List.map_cons, ← r]; rfl
      | non => cases e1
      | bl => cases e1
      | int => cases e1
      | lst => cases e1
      | tup => cases e1
      | dic => cases e1
      | dct => cases e1
theorem O_are_rides (T : Tx K mg w) : FnOk P w K mg base CX0 5 T.a_are_rides T.d_are_rides ["value"] (spFew K areRides) := by
  refine T.F_are_rides.ok sc_are_rides (fun vs H Q E h => ?_) (fun cdv A outer s H vs Q E hr h => ?_)
  · obtain ⟨c, v, d, rfl, _⟩ := h; rfl
  obtain ⟨c, v, d, rfl, hd, hf, k⟩ := h
  refine ⟨_, (pss_cons (ps_if (PW.pt (pw_or (pt_not (pt_val (pe_call (O_is_list T) (hr.mono (by decide)) (by rfl) T.m_is_list T.F_is_list.kp T.b_is_list .nil pass0 (pa_cons (pv 0) pa_nil)))) (pw_or1 (pt_not (pt_val (pe_callB (cr_all rfl) (by rfl) T.z_all (by decide +kernel) (pa_cons (pe_lc (own := [("ride", 1)]) (g := (gName 1)) rfl sc_are_rides.nd (pi_or (pi_list (pv 0)) (pi_tup (pv 0))) (blkOk_by (N := n_are_rides) (sc := defScope s_are_rides) (by decide +kernel)) (fun _ _ _ _ _ => (pg_name (i := 1) sc_are_rides.nd rfl (Or.inl rfl))) (fun _ _ _ _ _ => pts_nil) (fun _ _ _ _ _ => (pe_call (O_is_ride T) (hr.mono (by decide)) (by rfl) T.m_is_ride T.F_is_ride.kp T.b_is_ride .nil pass0 (pa_cons (pv 1) pa_nil)))) pa_nil))))))) (pss_one (ps_ret pe_bl)) pss_nil)
      (pss_one (ps_ret (pe_cmpR op_eq (pe_lenTx rfl (by rfl) T.z_len (by rfl) T.z_set (pv 0)) (pe_callB call_len (by rfl) T.z_len (by decide +kernel) (pa_cons (pv 0) pa_nil)) (nomark _))))), ?_⟩
  refine ⟨_, rfl, c, v, d, rfl, hd, fun H1 s1 => ⟨_, rfl, ?_⟩⟩
  have hd1 := hd.up (Ext.of s1)
  replace k := fun H' s2 => k H' (s1.trans s2)
  cases hd1 with
  | @lst a xs ds na hs hv =>
    have hf : ds.length ≤ 62 := hf
    have hl := hv.len
    refine iteF (.inl ⟨_, rfl, a, rfl, ⟨_, hs⟩, fun D hD => ?_⟩)
    refine lc_it (walk_list (K := K) (a := a) (xs := xs)) (fun i H' => Same H1 H' ∧ H' D = some (.lst ((ds.take i).map fun d => .bl (isRide d)))) ⟨same_new hD, upd_same⟩ (fun i H' _ h => h.1.seq hs) ?_ ?_
    · rintro i x H2 H3 hi ⟨s2, hD2⟩ ⟨rfl, hx⟩
      refine ⟨rfl, ?_⟩
      obtain ⟨d, hdi, hdx⟩ := hv.at hx
      refine ⟨_, rfl, c, x, d, rfl, hdx.up (Ext.of s2), fun H4 s4 => ⟨_, s4 _ _ hD2, ?_, ?_, ?_⟩⟩
      · rw [List.length_map]
        exact szK (by have := List.length_take_le' i ds; omega)
      · exact same_own (s2.trans s4) hD
      · rw [upd_same, List.take_add_one, hdi, List.map_append]; rfl
    rintro H2 ⟨s2, hD2⟩
    rw [hl, List.take_length] at hD2
    refine ⟨D, ds.map isRide, rfl, .of (by rw [List.map_map]; exact hD2), _, rfl, ?_⟩
    rw [show (ds.map isRide).all id = ds.all isRide by rw [List.all_map]; rfl]
    refine iteB (fun e => ?_) (fun e => ?_)
    · have e : (!ds.all isRide) = true := e
      have e0 : ds.all isRide = false := by simpa using e
      have := k H2 s2
      rw [show areRides (.list ds) = false by show ridesOk ds = false; unfold ridesOk; rw [e0]; rfl] at this
      exact this
    have e : (!ds.all isRide) = false := e
    have e0 : ds.all isRide = true := by simpa using e
    have hs2 := s2.seq hs
    have ex := rides_are (hv.up (Ext.of s2)) e0
    refine ⟨_, rfl, a, ds.map rkey, rfl, .inl (by rw [← ex]; exact hs2), by rw [List.length_map]; omega, fun L nd hm => ?_⟩
    refine ⟨_, rfl, _, _, rfl, .inl ⟨_, hs2, rfl⟩, rfl, ?_⟩
    have := k H2 s2
    rw [show areRides (.list ds) = decide (V.int L.length = V.int xs.length) by
      show ridesOk ds = _
      unfold ridesOk
      rw [e0, Bool.true_and, ← size_tells nd hm, hl]
      rw [List.length_map]
      exact decide_eq_decide.mpr ⟨fun z => congrArg V.int z, fun z => V.int.inj z⟩] at this
    exact this
  | @tup a xs ds na hs hv =>
    have hf : ds.length ≤ 62 := hf
    have hl := hv.len
    refine iteF (.inr ⟨_, rfl, a, rfl, ⟨_, hs⟩, fun D hD => ?_⟩)
    refine lc_it (walk_tup (K := K) (a := a) (xs := xs)) (fun i H' => Same H1 H' ∧ H' D = some (.lst ((ds.take i).map fun d => .bl (isRide d)))) ⟨same_new hD, upd_same⟩ (fun i H' _ h => h.1.seqT hs) ?_ ?_
    · rintro i x H2 H3 hi ⟨s2, hD2⟩ ⟨rfl, hx⟩
      refine ⟨rfl, ?_⟩
      obtain ⟨d, hdi, hdx⟩ := hv.at hx
      refine ⟨_, rfl, c, x, d, rfl, hdx.up (Ext.of s2), fun H4 s4 => ⟨_, s4 _ _ hD2, ?_, ?_, ?_⟩⟩
      · rw [List.length_map]
        exact szK (by have := List.length_take_le' i ds; omega)
      · exact same_own (s2.trans s4) hD
      · rw [upd_same, List.take_add_one, hdi, List.map_append]; rfl
    rintro H2 ⟨s2, hD2⟩
    rw [hl, List.take_length] at hD2
    refine ⟨D, ds.map isRide, rfl, .of (by rw [List.map_map]; exact hD2), _, rfl, ?_⟩
    rw [show (ds.map isRide).all id = ds.all isRide by rw [List.all_map]; rfl]
    refine iteB (fun e => ?_) (fun e => ?_)
    · have e : (!ds.all isRide) = true := e
      have e0 : ds.all isRide = false := by simpa using e
      have := k H2 s2
      rw [show areRides (.tuple ds) = false by show ridesOk ds = false; unfold ridesOk; rw [e0]; rfl] at this
      exact this
    have e : (!ds.all isRide) = false := e
    have e0 : ds.all isRide = true := by simpa using e
    have hs2 := s2.seqT hs
    have ex := rides_are (hv.up (Ext.of s2)) e0
    refine ⟨_, rfl, a, ds.map rkey, rfl, .inr (by rw [← ex]; exact hs2), by rw [List.length_map]; omega, fun L nd hm => ?_⟩
    refine ⟨_, rfl, _, _, rfl, .inr ⟨_, hs2, rfl⟩, rfl, ?_⟩
    have := k H2 s2
    rw [show areRides (.tuple ds) = decide (V.int L.length = V.int xs.length) by
      show ridesOk ds = _
      unfold ridesOk
      rw [e0, Bool.true_and, ← size_tells nd hm, hl]
      rw [List.length_map]
      exact decide_eq_decide.mpr ⟨fun z => congrArg V.int z, fun z => V.int.inj z⟩] at this
    exact this
  | non => exact iteT (k H1 (Same.refl H1))
  | bl => exact iteT (k H1 (Same.refl H1))
  | int => exact iteT (k H1 (Same.refl H1))
  | str => exact iteT (k H1 (Same.refl H1))
  | dic => exact iteT (k H1 (Same.refl H1))
  | dct => exact iteT (k H1 (Same.refl H1))
end
end K57

set_option Elab.async false
set_option linter.all false
set_option maxRecDepth 100000
set_option maxHeartbeats 4000000
/-! Layer G9: all but instances stay. -/
namespace Gs
open PySem PySem.Spec PyProof.Rows L2
def ExtI (H H' : Hp) : Prop := ∀ b o, H b = some o → (∀ C dx fs, o ≠ .ins C dx fs) → H' b = some o
theorem ExtI.refl {H : Hp} : ExtI H H := fun _ _ h _ => h
theorem ExtI.of {H H' : Hp} (s : Same H H') : ExtI H H' := fun b o h _ => s b o h
theorem ExtI.trans {H H1 H2 : Hp} (a : ExtI H H1) (b : ExtI H1 H2) : ExtI H H2 := fun c o h n => b c o (a c o h n) n
theorem ExtI.put {H : Hp} {x C dx : Addr} {fs : List (Str × V)} {o : HO} (hx : H x = some (.ins C dx fs)) : ExtI H (upd H x o) := fun b u h n => by
  rw [upd_ne (fun e => n C dx fs (by rw [e, hx] at h; exact (Option.some.inj h).symm))]
  exact h
theorem ExtI.put' {H : Hp} {x C dx : Addr} {fs : List (Str × V)} {H' : Hp} (hx : H x = some (.ins C dx fs)) (e : Ext x H H') : ExtI H H' := fun b u h n =>
  e b u (fun z => n C dx fs (by rw [z, hx] at h; exact (Option.some.inj h).symm)) h
theorem ExtI.sqL {K : PySem.W.Frag} {H H' : Hp} {a : Addr} {xs : List V} (e : ExtI H H') (h : SqL K H a xs) : SqL K H' a xs := by
  rcases h with (h | ⟨o, h⟩) | h
  · exact .inl (.inl (e _ _ h fun _ _ _ z => by cases z))
  · exact .inl (.inr ⟨o, e _ _ h fun _ _ _ z => by cases z⟩)
  · exact .inr h
theorem ExtI.sqT {K : PySem.W.Frag} {H H' : Hp} {a : Addr} {xs : List V} (e : ExtI H H') (h : SqT K H a xs) : SqT K H' a xs := by
  rcases h with (h | ⟨o, h⟩) | h
  · exact .inl (.inl (e _ _ h fun _ _ _ z => by cases z))
  · exact .inl (.inr ⟨o, e _ _ h fun _ _ _ z => by cases z⟩)
  · exact .inr h
section
variable {K : PySem.W.Frag} {c : Addr} {H H' : Hp}
mutual
theorem dv_i (e : ExtI H H') : ∀ (d : PyData) (v : V), DV K c H v d → DV K c H' v d
  | .none, _, h => by cases h; exact .non
  | .bool _, _, h => by cases h; exact .bl _
  | .int _, _, h => by cases h; exact .int _
  | .str _, _, h => by cases h; exact .str _
  | .list ds, _, h => by
    cases h with
    | lst n s r => exact .lst n (e.sqL s) (dvs_i e ds _ r)
  | .tuple ds, _, h => by
    cases h with
    | tup n s r => exact .tup n (e.sqT s) (dvs_i e ds _ r)
  | .dict ps, _, h => by
    cases h with
    | dic n s r => exact .dic n (e _ _ s fun _ _ _ z => by cases z) (dks_i e ps _ r)
    | dct n s z => exact .dct n (e _ _ s fun _ _ _ z => by cases z) z
theorem dvs_i (e : ExtI H H') : ∀ (ds : List PyData) (vs : List V), DVs K c H vs ds → DVs K c H' vs ds
  | [], _, h => by cases h; exact .nil
  | d :: ds, _, h => by
    cases h with
    | cons a b => exact .cons (dv_i e d _ a) (dvs_i e ds _ b)
theorem dks_i (e : ExtI H H') : ∀ (ps : List (PyData × PyData)) (vs : List (Key × V)), DKs K c H vs ps → DKs K c H' vs ps
  | [], _, h => by cases h; exact .nil
  | (d, f) :: ps, _, h => by
    cases h with
    | cons a b r => exact .cons (dv_i e d _ a) (dv_i e f _ b) (dks_i e ps _ r)
end
end
theorem DV.upI {K : PySem.W.Frag} {c : Addr} {H H' : Hp} {v : V} {d : PyData} (h : DV K c H v d) (e : ExtI H H') : DV K c H' v d := dv_i e d v h
theorem DVs.upI {K : PySem.W.Frag} {c : Addr} {H H' : Hp} {vs : List V} {ds : List PyData} (h : DVs K c H vs ds) (e : ExtI H H') : DVs K c H' vs ds := dvs_i e ds vs h
end Gs

set_option Elab.async false
set_option linter.all false
set_option maxRecDepth 100000
set_option maxHeartbeats 4000000
namespace K57
open PySem PySem.Spec PyProof.Rows L2 Gs
section
variable {P : Program} {w : World} {K : PySem.W.Frag} {mg : Str → Option Value} {base : Heap}
def isBl : PyData → Bool
  | .bool _ => true
  | _ => false
def seqOf : PyData → List PyData
  | .list ds => ds
  | .tuple ds => ds
  | _ => []
def truth : PyData → Bool
  | .bool b => b
  | _ => false
/-- what is wrong first with a kind's parts: is it a misfit, and which part -/
def kindBad (dn dl dr dq : PyData) : Option (Bool × Str) :=
  if isNm dn = false then some (false, "name") else
  if areLeaps dl = false then some (false, "leaps") else
  if areRides dr = false then some (false, "rides") else
  if isBl dq = false then some (false, "is_lord") else
  if (truth dq && !(seqOf dr).isEmpty) = true then some (true, "rides") else
  if ((seqOf dl).isEmpty && (seqOf dr).isEmpty) = true then some (true, "leaps") else none
def pairOf (d : PyData) : Int × Int := match lkey d with | [a, b] => (a, b) | _ => (0, 0)
def ridesOf (dr : PyData) : List Str := steps4.filter fun z => decide (z ∈ (seqOf dr).map rkey)
def kdF (vn : V) (tl tr : Addr) (vq : V) : List (Str × V) := [("name", vn), ("leaps", .ref tl), ("rides", .ref tr), ("is_lord", vq)]
def spKind (K : PySem.W.Frag) (C DB DM : Addr) : Sp := fun vs H Q E => ∃ (x dx c : Addr) (vn vl vr vq : V) (dn dl dr dq : PyData), vs = [.ref x, vn, vl, vr, vq] ∧ H x = some (.ins C dx []) ∧
  DV K c H vn dn ∧ DV K c H vl dl ∧ DV K c H vr dr ∧ DV K c H vq dq ∧ (∀ z, dn = .str z → z.length ≤ 1000000) ∧ few dl ∧ few dr ∧
  (∀ m p, kindBad dn dl dr dq = some (m, p) → ∀ d H', H d = none → Same H H' → H' d = some (.xd [("part", .str p)]) → E (.ref (if m = true then DM else DB)) (some d) H') ∧
  (kindBad dn dl dr dq = none → ∀ tl tr (ls : List (Addr × Int × Int)) H', Ext x H H' → H' x = some (.ins C dx (kdF vn tl tr vq)) → SqT K H' tl (ls.map fun p => V.ref p.1) → (∀ p ∈ ls, SqT K H' p.1 [.int p.2.1, .int p.2.2]) →
    (ls.map (·.2)).Perm ((seqOf dl).map pairOf) → ls.Pairwise (fun a b => SrtO.lexB b.2 a.2 = false) → SqT K H' tr ((ridesOf dr).map V.str) → Q .non H')
/-- a list or a tuple that bears ds -/
def Seq (K : PySem.W.Frag) (H : Hp) (a : Addr) (xs : List V) : Prop := SqL K H a xs ∨ SqT K H a xs
theorem seq_of_leaps {c : Addr} {H : Hp} {v : V} {d : PyData} (h : DV K c H v d) (e : areLeaps d = true) : ∃ (a : Addr) (xs : List V), v = .ref a ∧ Seq K H a xs ∧ DVs K c H xs (seqOf d) := by
  cases h with
  | lst n s r => exact ⟨_, _, rfl, .inl s, r⟩
  | tup n s r => exact ⟨_, _, rfl, .inr s, r⟩
  | _ => cases e
theorem seq_of_rides {c : Addr} {H : Hp} {v : V} {d : PyData} (h : DV K c H v d) (e : areRides d = true) : ∃ (a : Addr) (xs : List V), v = .ref a ∧ Seq K H a xs ∧ DVs K c H xs (seqOf d) := by
  cases h with
  | lst n s r => exact ⟨_, _, rfl, .inl s, r⟩
  | tup n s r => exact ⟨_, _, rfl, .inr s, r⟩
  | _ => cases e
theorem leaps_all {d : PyData} (h : areLeaps d = true) : (seqOf d).all isLeap = true := by
  cases d with
  | list ds => exact (Bool.and_eq_true_iff.mp (show (ds.all isLeap && decide ((ds.map lkey).Nodup)) = true from h)).1
  | tuple ds => exact (Bool.and_eq_true_iff.mp (show (ds.all isLeap && decide ((ds.map lkey).Nodup)) = true from h)).1
  | _ => rfl
theorem few_len {d : PyData} (h : few d) : (seqOf d).length ≤ 62 := by
  cases d with
  | list ds => exact h
  | tuple ds => exact h
  | _ => exact Nat.zero_le _
theorem rides_all {d : PyData} (h : areRides d = true) : (seqOf d).all isRide = true := by
  cases d with
  | list ds => exact (Bool.and_eq_true_iff.mp (show (ds.all isRide && decide ((ds.map rkey).Nodup)) = true from h)).1
  | tuple ds => exact (Bool.and_eq_true_iff.mp (show (ds.all isRide && decide ((ds.map rkey).Nodup)) = true from h)).1
  | _ => rfl
/-- a list or a tuple is walked -/
theorem pi_seq_rd {a : Addr} {xs : List V} {σ : L2.St} {H : Hp} {R : It → Hp → Prop} {i : Nat} (hv : σ[i]? = some (some (.ref a))) (hs : Seq K H a xs)
    (h : ∀ (J : It) (G : Hp → Prop), (∀ H', ExtI H H' → G H') → Walk J xs.length G (YAt xs) → R J H) : iList K (tVar i) σ H R ∨ iTup K (tVar i) σ H R := by
  rcases hs with hs | hs
  · exact .inl ⟨_, hv, a, rfl, ⟨xs, hs⟩, h _ _ (fun H' e => e.sqL hs) walk_list⟩
  · exact .inr ⟨_, hv, a, rfl, ⟨xs, hs⟩, h _ _ (fun H' e => e.sqT hs) walk_tup⟩
/-- a tuple stands while a list is changed -/
theorem seqT_lst {H : Hp} {S b : Addr} {ys : List V} {o : HO} {zs : List V} (hS : H S = some (.lst ys)) (h : SqT K H b zs) : SqT K (upd H S o) b zs := by
  rcases h with (h | ⟨q, h⟩) | h
  · refine .inl (.inl ?_)
    rw [upd_ne (fun e => by rw [e, hS] at h; cases h)]; exact h
  · refine .inl (.inr ⟨q, ?_⟩)
    rw [upd_ne (fun e => by rw [e, hS] at h; cases h)]; exact h
  · exact .inr h
theorem inV_str (z : Str) (l : List Str) : inV (.str z) (l.map V.str) = decide (z ∈ l) := by
  unfold inV
  rw [List.any_map]
  induction l with
  | nil => rfl
  | cons a l ih =>
    rw [List.any_cons, ih]
    show ((a == z) || decide (z ∈ l)) = decide (z ∈ a :: l)
    by_cases h : z = a
    · subst h; simp
    · have : (a == z) = false := by simpa [beq_iff_eq] using fun e : a = z => h e.symm
      rw [this, Bool.false_or]
      exact decide_eq_decide.mpr ⟨List.mem_cons_of_mem _, fun m => (List.mem_cons.mp m).elim (fun e => absurd e h) id⟩
theorem all_flat (l : List Str) : (l.map V.str).all flatV = true := by
  rw [List.all_map]
  exact List.all_eq_true.mpr fun _ _ => rfl
theorem if_sh {q : Bool} {A F : Prop} (c : Prop) (hf : c → F) (hx : (c → F) → q = true → A) (hq : q = false → c) : if q = true then A else F := by
  cases q with
  | true => exact hx hf rfl
  | false => exact hf (hq rfl)
theorem O_Kind___init__ (T : Tx K mg w) : FnOk P w K mg base (L2.CX P w) 6 T.a_Kind___init__ T.d_Kind___init__ ["self", "name", "leaps", "rides", "is_lord"] (spKind K T.c_Kind T.c_BadKind T.c_Misfit) := by
  refine T.F_Kind___init__.ok sc_Kind___init__ (fun vs H Q E h => ?_) (fun cdv A outer s H vs Q E hr h => ?_)
  · obtain ⟨x, dx, c, vn, vl, vr, vq, dn, dl, dr, dq, rfl, _⟩ := h; rfl
  obtain ⟨x, dx, c, vn, vl, vr, vq, dn, dl, dr, dq, rfl, hx, hn, hl, hrd, hq, hz, hfl, hfr, kb, kg⟩ := h
  refine ⟨_, (pss_cons (ps_if (pt_not (pt_val (pe_call (O_is_name T) (hr.mono (by decide)) (by rfl) T.m_is_name T.F_is_name.kp T.b_is_name .nil pass0 (pa_cons (pv 1) pa_nil)))) (pss_one (ps_raise rfl (takes_of rfl rfl rfl rfl) (pmk_oex T.ox_BadKind T.ic_BadKind T.ti_BadKind (O_BadKind___init__ T) (hr.mono (by decide)) T.b_BadKind___init__ .nil pass0 (by rfl) T.m_BadKind (pa_cons pe_str pa_nil)))) pss_nil)
      (pss_cons (ps_if (pt_not (pt_val (pe_call (O_are_leaps T) (hr.mono (by decide)) (by rfl) T.m_are_leaps T.F_are_leaps.kp T.b_are_leaps .nil pass0 (pa_cons (pv 2) pa_nil)))) (pss_one (ps_raise rfl (takes_of rfl rfl rfl rfl) (pmk_oex T.ox_BadKind T.ic_BadKind T.ti_BadKind (O_BadKind___init__ T) (hr.mono (by decide)) T.b_BadKind___init__ .nil pass0 (by rfl) T.m_BadKind (pa_cons pe_str pa_nil)))) pss_nil)
      (pss_cons (ps_if (pt_not (pt_val (pe_call (O_are_rides T) (hr.mono (by decide)) (by rfl) T.m_are_rides T.F_are_rides.kp T.b_are_rides .nil pass0 (pa_cons (pv 3) pa_nil)))) (pss_one (ps_raise rfl (takes_of rfl rfl rfl rfl) (pmk_oex T.ox_BadKind T.ic_BadKind T.ti_BadKind (O_BadKind___init__ T) (hr.mono (by decide)) T.b_BadKind___init__ .nil pass0 (by rfl) T.m_BadKind (pa_cons pe_str pa_nil)))) pss_nil)
      (pss_cons (ps_if (pt_not (pt_val (pe_callB (r := rIsi K) call_isi (by rfl) T.z_isinstance (by decide +kernel) (pa_cons (pv 4) (pa_cons (pe_bltn (v := .ty "bool") (u := .type "bool") (by rfl) T.z_bool (by decide +kernel) rfl) pa_nil))))) (pss_one (ps_raise rfl (takes_of rfl rfl rfl rfl) (pmk_oex T.ox_BadKind T.ic_BadKind T.ti_BadKind (O_BadKind___init__ T) (hr.mono (by decide)) T.b_BadKind___init__ .nil pass0 (by rfl) T.m_BadKind (pa_cons pe_str pa_nil)))) pss_nil)
      (pss_cons (ps_if (PW.pt (pw_and (pt_val (pv 4)) (pw_and1 (pt_cmpR op_gt (pe_callB call_len (by rfl) T.z_len (by decide +kernel) (pa_cons (pv 3) pa_nil)) pe_int (nomark _))))) (pss_one (ps_raise rfl (takes_of rfl rfl rfl rfl) (pmk_oex T.ox_Misfit T.ic_Misfit T.ti_Misfit (O_Misfit___init__ T) (hr.mono (by decide)) T.b_Misfit___init__ .nil pass0 (by rfl) T.m_Misfit (pa_cons pe_str pa_nil)))) pss_nil)
      (pss_cons (ps_if (PW.pt (pw_and (pt_cmpR op_eq (pe_callB call_len (by rfl) T.z_len (by decide +kernel) (pa_cons (pv 2) pa_nil)) pe_int (nomark _)) (pw_and1 (pt_cmpR op_eq (pe_callB call_len (by rfl) T.z_len (by decide +kernel) (pa_cons (pv 3) pa_nil)) pe_int (nomark _))))) (pss_one (ps_raise rfl (takes_of rfl rfl rfl rfl) (pmk_oex T.ox_Misfit T.ic_Misfit T.ti_Misfit (O_Misfit___init__ T) (hr.mono (by decide)) T.b_Misfit___init__ .nil pass0 (by rfl) T.m_Misfit (pa_cons pe_str pa_nil)))) pss_nil)
      (pss_cons (ps_fld (pv 0) (pv 1) rfl)
      (pss_cons (ps_fld (pv 0) (pe_callTy (T := "tuple") (r := rTupOf K) call_tuple_of (by rfl) T.z_tuple (by decide +kernel) (pa_cons (pe_callB cr_sortT (by rfl) T.z_sorted (by decide +kernel) (pa_cons (pe_lc (own := [("leap", 5)]) (g := (gName 5)) rfl sc_Kind___init__.nd (pi_or (pi_list (pv 2)) (pi_tup (pv 2))) (blkOk_by (N := n_Kind___init__) (sc := defScope s_Kind___init__) (by decide +kernel)) (fun _ _ _ _ _ => (pg_name (i := 5) sc_Kind___init__.nd rfl (Or.inl rfl))) (fun _ _ _ _ _ => pts_nil) (fun _ _ _ _ _ => (pe_callTy (T := "tuple") (r := rTupOf K) call_tuple_of (by rfl) T.z_tuple (by decide +kernel) (pa_cons (pv 5) pa_nil)))) pa_nil)) pa_nil)) rfl)
      (pss_cons (ps_fld (pv 0) (pe_callTy (T := "tuple") (r := rTupOf K) call_tuple_of (by rfl) T.z_tuple (by decide +kernel) (pa_cons (pe_lc (own := [("ride", 6)]) (g := (gName 6)) rfl sc_Kind___init__.nd (pi_wkeys (pe_glob (v := .ref T.t_S) (by rfl) T.g_S rfl)) (blkOk_by (N := n_Kind___init__) (sc := defScope s_Kind___init__) (by decide +kernel)) (fun _ _ _ _ _ => (pg_name (i := 6) sc_Kind___init__.nd rfl (Or.inl rfl))) (fun _ _ _ _ _ => pts_one (pt_cmpR (r := rIn K false) op_in_seq (pv 6) (pv 3) (by rfl))) (fun _ _ _ _ _ => (pv 6))) pa_nil)) rfl)
      (pss_one (ps_fld (pv 0) (pv 4) rfl))))))))))), ?_⟩
  have bad : ∀ m p H1, kindBad dn dl dr dq = some (m, p) → Same H H1 → ∀ d H', H1 d = none → Same H1 H' → H' d = some (.xd [("part", .str p)]) → E (.ref (if m = true then T.c_Misfit else T.c_BadKind)) (some d) H' :=
    fun m p H1 e s1 d H' h1 h2 h3 => kb m p e d H' (s1.free h1) (s1.trans h2) h3
  clear kb
  -- the name
  refine ⟨_, rfl, c, vn, dn, rfl, hn, hz, fun H1 s1 => ⟨_, rfl, ?_⟩⟩
  refine iteB (fun e => ?_) (fun e => ?_)
  · have e0 : isNm dn = false := by simpa using e
    refine ⟨Nat.le_of_ble_eq_true rfl, mk_err fun d H' h1 h2 h3 => ?_⟩
    exact bad false "name" H1 (by unfold kindBad; rw [if_pos e0]) s1 d H' h1 h2 h3
  have e1 : isNm dn = true := by simpa using e
  clear e
  -- the leaps
  refine ⟨_, rfl, c, vl, dl, rfl, hl.up (Ext.of s1), hfl, fun H2 t2 => ⟨_, rfl, ?_⟩⟩
  have s2 := s1.trans t2
  clear t2
  refine iteB (fun e => ?_) (fun e => ?_)
  · have e0 : areLeaps dl = false := by simpa using e
    refine ⟨Nat.le_of_ble_eq_true rfl, mk_err fun d H' h1 h2 h3 => ?_⟩
    exact bad false "leaps" H2 (by unfold kindBad; rw [if_neg (by rw [e1]; decide), if_pos e0]) s2 d H' h1 h2 h3
  have e2 : areLeaps dl = true := by simpa using e
  clear e
  -- the rides
  refine ⟨_, rfl, c, vr, dr, rfl, hrd.up (Ext.of s2), hfr, fun H3 t3 => ⟨_, rfl, ?_⟩⟩
  have s3 := s2.trans t3
  clear t3
  refine iteB (fun e => ?_) (fun e => ?_)
  · have e0 : areRides dr = false := by simpa using e
    refine ⟨Nat.le_of_ble_eq_true rfl, mk_err fun d H' h1 h2 h3 => ?_⟩
    exact bad false "rides" H3 (by unfold kindBad; rw [if_neg (by rw [e1]; decide), if_neg (by rw [e2]; decide), if_pos e0]) s3 d H' h1 h2 h3
  have e3 : areRides dr = true := by simpa using e
  clear e
  -- is_lord
  have hq3 := hq.up (Ext.of s3)
  refine ⟨_, rfl, _, .ty "bool", .type (tyN _), .type "bool", _, rfl, .ty _, ty_of hq3, kit_ty (kB _), _, rfl, ?_⟩
  refine iteB (fun e => ?_) (fun e => ?_)
  · have e0 : isBl dq = false := by cases dq <;> first | rfl | cases e
    refine ⟨Nat.le_of_ble_eq_true rfl, mk_err fun d H' h1 h2 h3 => ?_⟩
    exact bad false "is_lord" H3 (by unfold kindBad; rw [if_neg (by rw [e1]; decide), if_neg (by rw [e2]; decide), if_neg (by rw [e3]; decide), if_pos e0]) s3 d H' h1 h2 h3
  have e4 : isBl dq = true := by cases dq <;> first | rfl | cases e
  clear e
  obtain ⟨q, rfl, rfl⟩ : ∃ q : Bool, vq = .bl q ∧ dq = .bool q := by
    cases hq3 with
    | bl q => exact ⟨q, rfl, rfl⟩
    | _ => cases e4
  have step : kindBad dn dl dr (.bool q) = if (q && !(seqOf dr).isEmpty) = true then some (true, ("rides" : Str)) else if ((seqOf dl).isEmpty && (seqOf dr).isEmpty) = true then some (true, ("leaps" : Str)) else none := by
    unfold kindBad
    rw [if_neg (by rw [e1]; decide), if_neg (by rw [e2]; decide), if_neg (by rw [e3]; decide), if_neg (fun z : isBl (.bool q) = false => by cases z)]; rfl
  have hl3 := hl.up (Ext.of s3)
  have hr3 := hrd.up (Ext.of s3)
  -- both are lists or tuples
  obtain ⟨al, xl, rfl, hsl, hvl⟩ := seq_of_leaps hl3 e2
  obtain ⟨ar, xr, rfl, hsr, hvr⟩ := seq_of_rides hr3 e3
  have lr := hvr.len
  have ll := hvl.len
  have em : ∀ {ds : List PyData} {n : Nat}, n = ds.length → ds.isEmpty = decide (n = 0) := fun {ds n} h => by
    subst h
    cases ds <;> simp
  rw [step] at bad kg
  -- a lord that rides
  refine ⟨_, rfl, _, rfl, ?_⟩
  refine if_sh ((q && !(seqOf dr).isEmpty) = false) (fun c1 => ?_) (fun F e => ?_) (fun e => by rw [e]; rfl)
  rotate_left
  · refine ⟨_, rfl, _, xr.length, rfl, hsr.imp (fun h => ⟨xr, h, rfl⟩) (fun h => ⟨xr, h, rfl⟩), _, _, rfl, rfl, _, rfl, ?_⟩
    refine iteB (fun e5 => ?_) (fun e5 => F ?_)
    · have e5 := of_decide_eq_true e5
      refine ⟨Nat.le_of_ble_eq_true rfl, mk_err fun d H' h1 h2 h3 => ?_⟩
      refine bad true "rides" H3 ?_ s3 d H' h1 h2 h3
      rw [if_pos]
      rw [e, em lr, decide_eq_false (by omega)]; rfl
    · have e5 := of_decide_eq_false e5
      rw [em lr, decide_eq_true (by omega)]; simp
  rw [if_neg (by rw [c1]; decide)] at bad kg
  -- neither leaps nor rides
  refine ⟨_, rfl, _, xl.length, rfl, hsl.imp (fun h => ⟨xl, h, rfl⟩) (fun h => ⟨xl, h, rfl⟩), rfl, _, rfl, ?_⟩
  refine if_sh (((seqOf dl).isEmpty && (seqOf dr).isEmpty) = false) (fun c2 => ?_) (fun F e => ?_) (fun e => ?_)
  rotate_left
  · refine ⟨_, rfl, _, xr.length, rfl, hsr.imp (fun h => ⟨xr, h, rfl⟩) (fun h => ⟨xr, h, rfl⟩), rfl, _, rfl, ?_⟩
    have e6 : xl.length = 0 := by have := V.int.inj (of_decide_eq_true e); omega
    refine iteB (fun e5 => ?_) (fun e5 => F ?_)
    · have e5 := V.int.inj (of_decide_eq_true e5)
      refine ⟨Nat.le_of_ble_eq_true rfl, mk_err fun d H' h1 h2 h3 => ?_⟩
      refine bad true "leaps" H3 ?_ s3 d H' h1 h2 h3
      rw [if_pos]
      rw [em ll, em lr, decide_eq_true e6, decide_eq_true (by omega)]; rfl
    · have e5 : ¬ xr.length = 0 := fun z => (of_decide_eq_false e5) (by rw [z]; rfl)
      rw [em ll, em lr, decide_eq_true e6, decide_eq_false e5]; rfl
  · have e5 : ¬ xl.length = 0 := fun z => (of_decide_eq_false e) (by rw [z]; rfl)
    rw [em ll, decide_eq_false e5]; rfl
  rw [if_neg (by rw [c2]; decide)] at kg
  replace kg := kg rfl
  clear bad c1 c2 em
  have a2 : (seqOf dl).all isLeap = true := leaps_all e2
  have a3 : (seqOf dr).all isRide = true := rides_all e3
  have exr := rides_are hvr a3
  have hx3 := s3 _ _ hx
  have x3 : Ext x H H3 := Ext.of s3
  have fl := few_len hfl
  clear hl hrd hn hq hq3 hl3 hr3 hfl hfr
  -- self.name
  refine ⟨_, rfl, _, rfl, x, _, dx, _, rfl, hx3, T.cl_Kind, T.nF_Kind_name, Nat.le_of_ble_eq_true rfl, ?_⟩
  have h4 : upd H3 x (.ins T.c_Kind dx [("name", vn)]) x = some (.ins T.c_Kind dx [("name", vn)]) := upd_same
  have i4 : ExtI H3 (upd H3 x (.ins T.c_Kind dx [("name", vn)])) := ExtI.put hx3
  have x4 : Ext x H (upd H3 x (.ins T.c_Kind dx [("name", vn)])) := x3.trans Ext.bag
  change tSeq _ _ _ _ (upd H3 x (.ins T.c_Kind dx [("name", vn)]))
  generalize upd H3 x (.ins T.c_Kind dx [("name", vn)]) = H4 at h4 i4 x4 ⊢
  have hsl4 : Seq K H4 al xl := hsl.imp i4.sqL i4.sqT
  have hsr4 : Seq K H4 ar xr := hsr.imp i4.sqL i4.sqT
  have hvl4 := hvl.upI i4
  clear hsl hsr hvl hvr x3 hx3 i4
  -- self.leaps
  refine pi_seq_rd (a := al) (xs := xl) rfl hsl4 (fun J G hG W => fun D hD => ?_)
  refine lc_it W (fun i H' => Same H4 H' ∧ ∃ ls : List (Addr × Int × Int), ls.length = i ∧ H' D = some (.lst (ls.map fun p => V.ref p.1)) ∧ (∀ p ∈ ls, SqT K H' p.1 [.int p.2.1, .int p.2.2]) ∧ ls.map (·.2) = ((seqOf dl).take i).map pairOf)
    ⟨same_new hD, [], rfl, upd_same, (fun p h => by cases h), rfl⟩ (fun i H' _ h => hG H' (ExtI.of h.1)) ?_ ?_
  · rintro i v H5 H6 hi ⟨s5, ls, hlen, hD5, hT, hmap⟩ ⟨rfl, hv⟩
    refine ⟨rfl, ?_⟩
    obtain ⟨d, hdi, hdx⟩ := hvl4.at hv
    have hle : isLeap d = true := List.all_eq_true.mp a2 d (List.mem_of_getElem? hdi)
    obtain ⟨b, ys, p, q', rfl, hb, hkey⟩ := leap_is (hdx.up (Ext.of s5)) hle
    have few' : ls.length < sizeLine := by
      have : i < xl.length := hi
      have hi2 := (List.getElem?_eq_some_iff.mp hdi).1
      exact Nat.lt_of_lt_of_le (show ls.length < 1000000 by omega) (by decide)
    have step : ∀ (t : Addr) (H7 : Hp), Same H4 H7 → H7 D = some (.lst (ls.map fun p => V.ref p.1)) → (∀ p ∈ ls, SqT K H7 p.1 [.int p.2.1, .int p.2.2]) → SqT K H7 t [.int p, .int q'] →
        ∃ acc, H7 D = some (.lst acc) ∧ acc.length < sizeLine ∧ (Same H4 (upd H7 D (.lst (acc ++ [V.ref t]))) ∧ ∃ ls : List (Addr × Int × Int), ls.length = i + 1 ∧ upd H7 D (.lst (acc ++ [V.ref t])) D = some (.lst (ls.map fun p => V.ref p.1)) ∧
          (∀ p ∈ ls, SqT K (upd H7 D (.lst (acc ++ [V.ref t]))) p.1 [.int p.2.1, .int p.2.2]) ∧ ls.map (·.2) = ((seqOf dl).take (i + 1)).map pairOf) := by
      intro t H7 s7 hD7 hT7 ht
      have keep : ∀ b zs, SqT K H7 b zs → SqT K (upd H7 D (.lst (ls.map (fun p => V.ref p.1) ++ [V.ref t]))) b zs := fun b zs h => seqT_lst hD7 h
      refine ⟨_, hD7, by rw [List.length_map]; exact few', same_own s7 hD, ls ++ [(t, p, q')], by rw [List.length_append, hlen]; rfl, by rw [upd_same, List.map_append]; rfl, fun r hr => ?_, ?_⟩
      · rcases List.mem_append.mp hr with hr | hr
        · exact keep _ _ (hT7 r hr)
        · rw [List.mem_singleton.mp hr]; exact keep _ _ ht
      · rw [List.map_append, hmap, List.take_add_one, hdi, List.map_append]
        show _ ++ [(p, q')] = _ ++ [pairOf d]
        unfold pairOf
        rw [hkey]
    refine ⟨_, rfl, b, ys, rfl, ?_⟩
    rcases hb with ⟨hb, rfl⟩ | ⟨hb, rfl⟩
    · refine .inl ⟨hb, fun t ht => ?_⟩
      have st : Same H6 (upd H6 t (.tup [.int p, .int q'])) := same_new ht
      exact step t _ (s5.trans st) (st _ _ hD5) (fun r hr => st.seqT (hT r hr)) (.of upd_same)
    · exact .inr ⟨hb, step b H6 s5 hD5 hT hb⟩
  rintro H5 ⟨s5, ks, hlen, hD5, hT, hmap⟩
  rw [hvl4.len, List.take_length] at hmap
  refine ⟨D, ks, rfl, .of hD5, hT, fun ls tp perm pw hp => ⟨tp, _, rfl, .inl ⟨.of upd_same, fun tl htl => ?_⟩⟩⟩
  have sp : Same H5 (upd H5 tp (.lst (ls.map fun p => V.ref p.1))) := same_new hp
  have st : Same (upd H5 tp (.lst (ls.map fun p => V.ref p.1))) (upd (upd H5 tp (.lst (ls.map fun p => V.ref p.1))) tl (.tup (ls.map fun p => V.ref p.1))) := same_new htl
  have s6 := s5.trans (sp.trans st)
  have hT6 : ∀ p ∈ ls, SqT K (upd (upd H5 tp (.lst (ls.map fun p => V.ref p.1))) tl (.tup (ls.map fun p => V.ref p.1))) p.1 [.int p.2.1, .int p.2.2] := fun p h => (sp.trans st).seqT (hT p (perm.mem_iff.mp h))
  have htl6 : SqT K (upd (upd H5 tp (.lst (ls.map fun p => V.ref p.1))) tl (.tup (ls.map fun p => V.ref p.1))) tl (ls.map fun p => V.ref p.1) := .of upd_same
  have hmap6 : (ls.map (·.2)).Perm ((seqOf dl).map pairOf) := by rw [← hmap]; exact perm.map _
  clear hT hmap perm hlen hD5 hD W hG hvl4 sp st s5
  generalize upd (upd H5 tp _) tl _ = H6 at s6 hT6 htl6 ⊢
  have h6 := s6 _ _ h4
  refine ⟨_, rfl, x, _, dx, _, rfl, h6, T.cl_Kind, T.nF_Kind_leaps, Nat.le_of_ble_eq_true rfl, ?_⟩
  have h7 : upd H6 x (.ins T.c_Kind dx [("name", vn), ("leaps", .ref tl)]) x = some (.ins T.c_Kind dx [("name", vn), ("leaps", .ref tl)]) := upd_same
  have i7 : ExtI H6 (upd H6 x (.ins T.c_Kind dx [("name", vn), ("leaps", .ref tl)])) := ExtI.put h6
  have x7 : Ext x H (upd H6 x (.ins T.c_Kind dx [("name", vn), ("leaps", .ref tl)])) := (x4.trans (Ext.of s6)).trans Ext.bag
  change tSeq _ _ _ _ (upd H6 x (.ins T.c_Kind dx [("name", vn), ("leaps", .ref tl)]))
  generalize upd H6 x (.ins T.c_Kind dx [("name", vn), ("leaps", .ref tl)]) = H7 at h7 i7 x7 ⊢
  have hT7 : ∀ p ∈ ls, SqT K H7 p.1 [.int p.2.1, .int p.2.2] := fun p h => i7.sqT (hT6 p h)
  have htl7 := i7.sqT htl6
  have hsr7 : Seq K H7 ar xr := (hsr4.imp (fun h => i7.sqL (s6.seq h)) fun h => i7.sqT (s6.seqT h))
  clear hT6 htl6 hsr4 hsl4 h6 h4 x4 s6 i7
  -- self.rides
  refine ⟨T.t_S, _, rfl, T.w_S, fun D hD => ?_⟩
  refine lc_it walk_wkeys (fun i H' => Same H7 H' ∧ H' D = some (.lst (((steps4.take i).filter fun z => decide (z ∈ (seqOf dr).map rkey)).map V.str))) ⟨same_new hD, upd_same⟩ (fun _ _ _ _ => trivial) ?_ ?_
  · rintro i v H8 H9 hi ⟨s8, hD8⟩ ⟨rfl, z, hz4, rfl⟩
    have hz4 : steps4[i]? = some z := hz4
    refine ⟨rfl, ?_⟩
    refine ⟨_, rfl, _, rfl, ar, xr, rfl, hsr7.imp s8.seq s8.seqT, rfl, ?_, _, rfl, ?_⟩
    · rw [exr]; exact all_flat _
    have e : inV (.str z) xr = decide (z ∈ (seqOf dr).map rkey) := by rw [exr]; exact inV_str _ _
    have f1 : ([z] : List Str).filter (fun z => decide (z ∈ (seqOf dr).map rkey)) = if decide (z ∈ (seqOf dr).map rkey) = true then [z] else [] := by
      rw [List.filter_cons]; rfl
    have nx : steps4.take (i + 1) = steps4.take i ++ [z] := by rw [List.take_add_one, hz4]; rfl
    refine iteB (fun e5 => ?_) (fun e5 => ?_)
    · have e5 : inV (.str z) xr = true := e5
      rw [e] at e5
      refine ⟨_, rfl, _, hD8, ?_, same_own s8 hD, ?_⟩
      · rw [List.length_map]
        exact szK (by have h1 := List.length_filter_le (fun z => decide (z ∈ (seqOf dr).map rkey)) (steps4.take i); have h2 := List.length_take_le' i steps4; have : steps4.length = 4 := rfl; omega)
      · rw [upd_same, nx, List.filter_append, List.map_append, f1, if_pos e5]; rfl
    · have e5 : inV (.str z) xr = false := e5
      rw [e] at e5
      refine ⟨s8, ?_⟩
      rw [nx, List.filter_append, f1, if_neg (by rw [e5]; decide)]
      rw [List.append_nil]; exact hD8
  rintro H8 ⟨s8, hD8⟩
  have hD8 : H8 D = some (.lst ((ridesOf dr).map V.str)) := hD8
  refine ⟨D, _, rfl, .inl ⟨.of hD8, fun tr htr => ?_⟩⟩
  have st : Same H8 (upd H8 tr (.tup ((ridesOf dr).map V.str))) := same_new htr
  have htr9 : SqT K (upd H8 tr (.tup ((ridesOf dr).map V.str))) tr ((ridesOf dr).map V.str) := .of upd_same
  have s9 := s8.trans st
  clear hD8 s8 st hD hsr7
  generalize upd H8 tr _ = H9 at s9 htr9 ⊢
  have h9 := s9 _ _ h7
  refine ⟨_, rfl, x, _, dx, _, rfl, h9, T.cl_Kind, T.nF_Kind_rides, Nat.le_of_ble_eq_true rfl, ?_⟩
  have h10 : upd H9 x (.ins T.c_Kind dx [("name", vn), ("leaps", .ref tl), ("rides", .ref tr)]) x = some (.ins T.c_Kind dx [("name", vn), ("leaps", .ref tl), ("rides", .ref tr)]) := upd_same
  have i10 : ExtI H9 (upd H9 x (.ins T.c_Kind dx [("name", vn), ("leaps", .ref tl), ("rides", .ref tr)])) := ExtI.put h9
  have x10 : Ext x H (upd H9 x (.ins T.c_Kind dx [("name", vn), ("leaps", .ref tl), ("rides", .ref tr)])) := (x7.trans (Ext.of s9)).trans Ext.bag
  -- self.is_lord
  refine ⟨_, rfl, _, rfl, x, _, dx, _, rfl, h10, T.cl_Kind, T.nF_Kind_is_lord, Nat.le_of_ble_eq_true rfl, ?_⟩
  have i11 := i10.trans (ExtI.put h10 (o := .ins T.c_Kind dx (kdF vn tl tr (.bl q))))
  refine kg tl tr ls _ (x10.trans Ext.bag) upd_same (i11.sqT (s9.seqT htl7)) (fun p h => i11.sqT (s9.seqT (hT7 p h))) hmap6 pw (i11.sqT htr9)
end
end K57

set_option Elab.async false
set_option linter.all false
set_option maxRecDepth 100000
set_option maxHeartbeats 4000000
namespace K57
open PySem PySem.Spec PyProof.Rows L2 Gs
section
variable {P : Program} {w : World} {K : PySem.W.Frag} {mg : Str → Option Value} {base : Heap}
theorem O_is_square (T : Tx K mg w) : FnOk P w K mg base CX0 2 T.a_is_square T.d_is_square ["value"] (spB K (pairP isInt)) := by
  refine T.F_is_square.ok sc_is_square spB_len (fun cdv A outer s H vs Q E hr h => ?_)
  obtain ⟨c, v, d, rfl, hd, k⟩ := h
  refine ⟨_, (pss_one (ps_ret (pe_and (pe_call (O_is_list T) (hr.mono (by decide)) (by rfl) T.m_is_list T.F_is_list.kp T.b_is_list .nil pass0 (pa_cons (pv 0) pa_nil)) (pe_and (pe_cmpR op_eq (pe_callB call_len (by rfl) T.z_len (by decide +kernel) (pa_cons (pv 0) pa_nil)) pe_int (nomark _)) (pe_and (pe_call (O_is_integer T) (hr.mono (by decide)) (by rfl) T.m_is_integer T.F_is_integer.kp T.b_is_integer .nil pass0 (pa_cons (pe_ix ix_seq (pv 0) pe_int (fun _ _ => rfl)) pa_nil)) (pe_one (pe_call (O_is_integer T) (hr.mono (by decide)) (by rfl) T.m_is_integer T.F_is_integer.kp T.b_is_integer .nil pass0 (pa_cons (pe_ix ix_seq (pv 0) pe_int (fun _ _ => rfl)) pa_nil)))))))), ?_⟩
  refine ⟨_, rfl, c, v, d, rfl, hd, fun H1 s1 => ⟨_, rfl, ?_⟩⟩
  have hd1 := hd.up (Ext.of s1)
  cases hd1 with
  | @lst a xs ds na hs hv =>
    refine iteT ⟨_, rfl, _, _, rfl, .inl ⟨xs, hs, rfl⟩, rfl, _, rfl, ?_⟩
    refine ite2 (fun e => ?_) (fun e => ?_)
    · have e2 : xs.length = 2 := by
        have := V.int.inj (of_decide_eq_true e); omega
      obtain ⟨x, y, rfl⟩ := two_of e2
      cases hv with
      | cons hx hv =>
      cases hv with
      | cons hy hv =>
      cases hv with
      | nil =>
      rename_i dx dy
      refine ⟨_, rfl, .inl ⟨a, _, 0, x, rfl, rfl, hs, rfl, c, x, dx, rfl, hx, fun H2 s2 => ⟨_, rfl, ?_⟩⟩⟩
      have hs2 := (Ext.of (c := c) s2).sqL na hs
      have hy2 := hy.up (Ext.of s2)
      refine iteB (fun e => ?_) (fun e => ?_)
      rotate_left
      · have := k H2 (s1.trans s2)
        simp only [pairP, e, Bool.false_and] at this
        exact this
      · refine ⟨_, rfl, .inl ⟨a, _, 1, y, rfl, rfl, hs2, rfl, c, y, dy, rfl, hy2, fun H3 s3 => ?_⟩⟩
        have := k H3 ((s1.trans s2).trans s3)
        simp only [pairP, e, Bool.true_and] at this
        exact this
    · have e2 : ds.length ≠ 2 := fun z => e (decide_eq_true (by rw [hv.len, z]; rfl))
      have := k H1 s1
      rw [(pair_no e2).1] at this
      exact this
  | @tup a xs ds na hs hv =>
    refine iteT ⟨_, rfl, _, _, rfl, .inr ⟨xs, hs, rfl⟩, rfl, _, rfl, ?_⟩
    refine ite2 (fun e => ?_) (fun e => ?_)
    · have e2 : xs.length = 2 := by
        have := V.int.inj (of_decide_eq_true e); omega
      obtain ⟨x, y, rfl⟩ := two_of e2
      cases hv with
      | cons hx hv =>
      cases hv with
      | cons hy hv =>
      cases hv with
      | nil =>
      rename_i dx dy
      refine ⟨_, rfl, .inr (.inl ⟨a, _, 0, x, rfl, rfl, hs, rfl, c, x, dx, rfl, hx, fun H2 s2 => ⟨_, rfl, ?_⟩⟩)⟩
      have hs2 := (Ext.of (c := c) s2).sqT na hs
      have hy2 := hy.up (Ext.of s2)
      refine iteB (fun e => ?_) (fun e => ?_)
      rotate_left
      · have := k H2 (s1.trans s2)
        simp only [pairP, e, Bool.false_and] at this
        exact this
      · refine ⟨_, rfl, .inr (.inl ⟨a, _, 1, y, rfl, rfl, hs2, rfl, c, y, dy, rfl, hy2, fun H3 s3 => ?_⟩)⟩
        have := k H3 ((s1.trans s2).trans s3)
        simp only [pairP, e, Bool.true_and] at this
        exact this
    · have e2 : ds.length ≠ 2 := fun z => e (decide_eq_true (by rw [hv.len, z]; rfl))
      have := k H1 s1
      rw [(pair_no e2).2] at this
      exact this
  | non => exact iteF (k H1 s1)
  | bl => exact iteF (k H1 s1)
  | int => exact iteF (k H1 s1)
  | str => exact iteF (k H1 s1)
  | dic => exact iteF (k H1 s1)
  | dct => exact iteF (k H1 s1)
/-- where both are told, the one is not above the other -/
def leO : Option Int → Option Int → Bool
  | some l, some u => decide (l ≤ u)
  | _, _ => true

theorem O_is_not_above (T : Tx K mg w) : FnOk P w K mg base CX0 1 T.a_is_not_above T.d_is_not_above ["least", "most"] (fun vs H Q _ => ∃ lo hi : Option Int, vs = [oV lo, oV hi] ∧ Q (.bl (leO lo hi)) H) := by
  refine T.F_is_not_above.ok sc_is_not_above (fun vs H Q E h => ?_) (fun cdv A outer s H vs Q E hr h => ?_)
  · obtain ⟨lo, hi, rfl, _⟩ := h; rfl
  obtain ⟨lo, hi, rfl, k⟩ := h
  refine ⟨_, (pss_one (ps_ret (pe_or (pe_cmpR op_isN (pv 0) pe_non (nomark _)) (pe_or (pe_cmpR op_isN (pv 1) pe_non (nomark _)) (pe_one (pe_cmpR op_le (pv 0) (pv 1) (nomark _))))))), ?_⟩
  cases lo with
  | none => exact ⟨_, rfl, rfl, _, rfl, k⟩
  | some l =>
    cases hi with
    | none => exact ⟨_, rfl, rfl, _, rfl, _, rfl, rfl, _, rfl, k⟩
    | some u => exact ⟨_, rfl, rfl, _, rfl, _, rfl, rfl, _, rfl, _, rfl, _, rfl, _, _, rfl, rfl, k⟩

def oD : Option Int → PyData
  | none => .none
  | some i => .int i
theorem dv_oV {c : Addr} {H : Hp} : ∀ a : Option Int, DV K c H (oV a) (oD a)
  | none => .non
  | some i => .int i
theorem dv_seq {c l : Addr} {H : Hp} {xs : List V} {ds : List PyData} (n : l ≠ c) (h : Seq K H l xs) (r : DVs K c H xs ds) : ∃ d, DV K c H (.ref l) d ∧ isSeq d = true := by
  rcases h with h | h
  · exact ⟨_, .lst n h r, rfl⟩
  · exact ⟨_, .tup n h r, rfl⟩
theorem ne_succ (l : Addr) : l ≠ l + 1 := Nat.ne_of_lt (Nat.lt_succ_self _)
def spEdges (K : PySem.W.Frag) : Sp := fun vs H Q _ => ∃ (l : Addr) (a b c d : Option Int), vs = [.ref l] ∧ Seq K H l [oV a, oV b, oV c, oV d] ∧ ∀ H', Same H H' → Q (.bl (leO a b && leO c d)) H'
theorem O_are_edges (T : Tx K mg w) : FnOk P w K mg base CX0 2 T.a_are_edges T.d_are_edges ["value"] (spEdges K) := by
  refine T.F_are_edges.ok sc_are_edges (fun vs H Q E h => ?_) (fun cdv A outer s H vs Q E hr h => ?_)
  · obtain ⟨l, a, b, c, d, rfl, _⟩ := h; rfl
  obtain ⟨l, a, b, c, d, rfl, hs, k⟩ := h
  refine ⟨_, (pss_cons (ps_if (PW.pt (pw_or (pt_not (pt_val (pe_call (O_is_list T) (hr.mono (by decide)) (by rfl) T.m_is_list T.F_is_list.kp T.b_is_list .nil pass0 (pa_cons (pv 0) pa_nil)))) (pw_or1 (pt_cmpR op_ne (pe_callB call_len_seq (by rfl) T.z_len (by decide +kernel) (pa_cons (pv 0) pa_nil)) (pe_callB call_len_seq (by rfl) T.z_len (by decide +kernel) (pa_cons (pe_glob (v := .ref T.t_SD) (by rfl) T.g_SD rfl) pa_nil)) (nomark _))))) (pss_one (ps_ret pe_bl)) pss_nil)
      (pss_cons (ps_if (pt_not (pt_val (pe_callB (cr_all rfl) (by rfl) T.z_all (by decide +kernel) (pa_cons (pe_lc (own := [("edge", 1)]) (g := (gName 1)) rfl sc_are_edges.nd (pi_or (pi_list (pv 0)) (pi_tup (pv 0))) (blkOk_by (N := n_are_edges) (sc := defScope s_are_edges) (by decide +kernel)) (fun _ _ _ _ _ => (pg_name (i := 1) sc_are_edges.nd rfl (Or.inl rfl))) (fun _ _ _ _ _ => pts_nil) (fun _ _ _ _ _ => (pe_or (pe_cmpR op_isN (pv 1) pe_non (nomark _)) (pe_one (pe_call (O_is_integer T) (hr.mono (by decide)) (by rfl) T.m_is_integer T.F_is_integer.kp T.b_is_integer .nil pass0 (pa_cons (pv 1) pa_nil)))))) pa_nil)))) (pss_one (ps_ret pe_bl)) pss_nil)
      (pss_cons (ps_asg (pv 0) (pg_or (pg_unl rfl (pgs_cons (pg_name (i := 2) sc_are_edges.nd rfl (Or.inl rfl)) (pgs_cons (pg_name (i := 3) sc_are_edges.nd rfl (Or.inl rfl)) (pgs_cons (pg_name (i := 4) sc_are_edges.nd rfl (Or.inl rfl)) (pgs_cons (pg_name (i := 5) sc_are_edges.nd rfl (Or.inl rfl)) pgs_nil))))) (pg_tup rfl (pgs_cons (pg_name (i := 2) sc_are_edges.nd rfl (Or.inl rfl)) (pgs_cons (pg_name (i := 3) sc_are_edges.nd rfl (Or.inl rfl)) (pgs_cons (pg_name (i := 4) sc_are_edges.nd rfl (Or.inl rfl)) (pgs_cons (pg_name (i := 5) sc_are_edges.nd rfl (Or.inl rfl)) pgs_nil)))))))
      (pss_one (ps_ret (pe_and (pe_call (O_is_not_above T) (hr.mono (by decide)) (by rfl) T.m_is_not_above T.F_is_not_above.kp T.b_is_not_above .nil pass0 (pa_cons (pv 2) (pa_cons (pv 3) pa_nil))) (pe_one (pe_call (O_is_not_above T) (hr.mono (by decide)) (by rfl) T.m_is_not_above T.F_is_not_above.kp T.b_is_not_above .nil pass0 (pa_cons (pv 4) (pa_cons (pv 5) pa_nil)))))))))), ?_⟩
  obtain ⟨dd, hd, hq⟩ := dv_seq (ds := [oD a, oD b, oD c, oD d]) (ne_succ l) hs (.cons (dv_oV _) (.cons (dv_oV _) (.cons (dv_oV _) (.cons (dv_oV _) .nil))))
  refine ⟨_, rfl, _, _, dd, rfl, hd, fun H1 s1 => ⟨_, rfl, ?_⟩⟩
  rw [hq]
  have hs1 : Seq K H1 l _ := hs.imp s1.seq s1.seqT
  refine iteF ⟨_, rfl, _, _, rfl, hs1, _, _, rfl, .inr (T.s_SD H1), rfl, _, rfl, iteF ?_⟩
  refine pi_seq_rd (a := l) rfl hs1 (fun J G hG W => fun D hD => ?_)
  have walked : ∀ (i : Nat) (x : V), ([oV a, oV b, oV c, oV d] : List V)[i]? = some x → i < 4 ∧ ∃ e : Option Int, x = oV e := fun i x h => by
    match i, h with
    | 0, h => cases h; exact ⟨by omega, _, rfl⟩
    | 1, h => cases h; exact ⟨by omega, _, rfl⟩
    | 2, h => cases h; exact ⟨by omega, _, rfl⟩
    | 3, h => cases h; exact ⟨by omega, _, rfl⟩
    | _ + 4, h => cases h
  refine lc_it W (fun i H' => Same H1 H' ∧ H' D = some (.lst ((List.replicate i true).map V.bl))) ⟨same_new hD, upd_same⟩ (fun i H' _ h => hG H' (ExtI.of h.1)) ?_ ?_
  · rintro i x H2 H3 hi ⟨s2, hD2⟩ ⟨rfl, hx⟩
    refine ⟨rfl, ?_⟩
    obtain ⟨hi4, e, rfl⟩ := walked i x hx
    have fin : ∀ H4, Same H3 H4 → ∃ acc, H4 D = some (.lst acc) ∧ acc.length < sizeLine ∧ Same H1 (upd H4 D (.lst (acc ++ [V.bl true]))) ∧ upd H4 D (.lst (acc ++ [V.bl true])) D = some (.lst ((List.replicate (i + 1) true).map V.bl)) := fun H4 s4 => by
      refine ⟨_, s4 _ _ hD2, ?_, same_own (s2.trans s4) hD, ?_⟩
      · rw [List.length_map, List.length_replicate]
        exact szK (by omega)
      · rw [upd_same, List.replicate_succ', List.map_append]; rfl
    cases e with
    | none => exact ⟨_, rfl, rfl, _, rfl, fin H3 (Same.refl H3)⟩
    | some z =>
      refine ⟨_, rfl, rfl, _, rfl, _, rfl, l, V.int z, PyData.int z, rfl, .int z, fun H4 s4 => ?_⟩
      exact fin H4 s4
  rintro H2 ⟨s2, hD2⟩
  refine ⟨D, List.replicate 4 true, rfl, .of hD2, _, rfl, iteF ?_⟩
  have s3 := s1.trans s2
  have hs2 : Seq K H2 l _ := hs.imp s3.seq s3.seqT
  rcases hs2 with h2 | h2
  · refine ⟨_, rfl, .inl ⟨l, _, rfl, h2, rfl, _, _, rfl, _, _, rfl, _, _, rfl, _, _, rfl, rfl, ?_⟩⟩
    refine ⟨_, rfl, _, rfl, a, b, rfl, _, rfl, ?_⟩
    have k := k H2 s3
    refine iteB (fun e => ⟨_, rfl, _, rfl, c, d, rfl, ?_⟩) (fun e => ?_)
    · rw [e] at k; exact k
    · rw [e] at k; exact k
  · refine ⟨_, rfl, .inr ⟨l, _, rfl, h2, rfl, _, _, rfl, _, _, rfl, _, _, rfl, _, _, rfl, rfl, ?_⟩⟩
    refine ⟨_, rfl, _, rfl, a, b, rfl, _, rfl, ?_⟩
    have k := k H2 s3
    refine iteB (fun e => ⟨_, rfl, _, rfl, c, d, rfl, ?_⟩) (fun e => ?_)
    · rw [e] at k; exact k
    · rw [e] at k; exact k
/-- whether a square lies within the edges -/
def inE (a b c d : Option Int) (x y : Int) : Bool := leO a (some x) && (leO (some x) b && (leO c (some y) && leO (some y) d))
theorem or_lo {σ : L2.St} {H : Hp} {Q : VK} {i j : Nat} {a : Option Int} {y : Int} (h1 : σ[i]? = some (some (oV a))) (h2 : σ[j]? = some (some (.int y))) (q : Q (.bl (leO a (some y))) H) :
    tOrV (tOp (fun x y H Q => y = V.non ∧ Q (V.bl (decide (x = V.non))) H) (tVar i) (tC V.non)) (tOp (rI0 fun i j => V.bl (decide (i ≤ j))) (tVar i) (tVar j)) σ H Q := by
  cases a with
  | none => exact ⟨_, h1, rfl, _, rfl, q⟩
  | some l => exact ⟨_, h1, rfl, _, rfl, _, h1, _, h2, _, _, rfl, rfl, q⟩
theorem or_hi {σ : L2.St} {H : Hp} {Q : VK} {i j : Nat} {a : Option Int} {y : Int} (h1 : σ[i]? = some (some (oV a))) (h2 : σ[j]? = some (some (.int y))) (q : Q (.bl (leO (some y) a)) H) :
    tOrV (tOp (fun x y H Q => y = V.non ∧ Q (V.bl (decide (x = V.non))) H) (tVar i) (tC V.non)) (tOp (rI0 fun i j => V.bl (decide (i ≤ j))) (tVar j) (tVar i)) σ H Q := by
  cases a with
  | none => exact ⟨_, h1, rfl, _, rfl, q⟩
  | some l => exact ⟨_, h1, rfl, _, rfl, _, h2, _, h1, _, _, rfl, rfl, q⟩
theorem and_v {σ : L2.St} {H : Hp} {Q : VK} {ta tb : TE} {p q : Bool} (h1 : ∀ Q' : VK, Q' (.bl p) H → ta σ H Q') (h2 : ∀ Q' : VK, Q' (.bl q) H → tb σ H Q') (k : Q (.bl (p && q)) H) : tAndV ta tb σ H Q :=
  h1 _ ⟨_, rfl, iteB (fun e => h2 _ (by rw [e] at k; exact k)) (fun e => by rw [e] at k; exact k)⟩
def spBetween (K : PySem.W.Frag) : Sp := fun vs H Q _ => ∃ (t l : Addr) (a b c d : Option Int) (x y : Int), vs = [.ref t, .ref l] ∧ SqT K H t [oV a, oV b, oV c, oV d] ∧ Seq K H l [.int x, .int y] ∧ Q (.bl (inE a b c d x y)) H
theorem O_is_between (T : Tx K mg w) : FnOk P w K mg base CX0 1 T.a_is_between T.d_is_between ["edges", "square"] (spBetween K) := by
  refine T.F_is_between.ok sc_is_between (fun vs H Q E h => ?_) (fun cdv A outer s H vs Q E hr h => ?_)
  · obtain ⟨t, l, a, b, c, d, x, y, rfl, _⟩ := h; rfl
  obtain ⟨t, l, a, b, c, d, x, y, rfl, ht, hl, k⟩ := h
  refine ⟨_, (pss_cons (ps_asg (pv 0) (pg_tup rfl (pgs_cons (pg_name (i := 2) sc_is_between.nd rfl (Or.inl rfl)) (pgs_cons (pg_name (i := 3) sc_is_between.nd rfl (Or.inl rfl)) (pgs_cons (pg_name (i := 4) sc_is_between.nd rfl (Or.inl rfl)) (pgs_cons (pg_name (i := 5) sc_is_between.nd rfl (Or.inl rfl)) pgs_nil))))))
      (pss_cons (ps_asg (pv 1) (pg_or (pg_unl rfl (pgs_cons (pg_name (i := 6) sc_is_between.nd rfl (Or.inl rfl)) (pgs_cons (pg_name (i := 7) sc_is_between.nd rfl (Or.inl rfl)) pgs_nil))) (pg_tup rfl (pgs_cons (pg_name (i := 6) sc_is_between.nd rfl (Or.inl rfl)) (pgs_cons (pg_name (i := 7) sc_is_between.nd rfl (Or.inl rfl)) pgs_nil)))))
      (pss_one (ps_ret (pe_and (pe_or (pe_cmpR op_isN (pv 2) pe_non (nomark _)) (pe_one (pe_cmpR op_le (pv 2) (pv 6) (nomark _)))) (pe_and (pe_or (pe_cmpR op_isN (pv 3) pe_non (nomark _)) (pe_one (pe_cmpR op_le (pv 6) (pv 3) (nomark _)))) (pe_and (pe_or (pe_cmpR op_isN (pv 4) pe_non (nomark _)) (pe_one (pe_cmpR op_le (pv 4) (pv 7) (nomark _)))) (pe_one (pe_or (pe_cmpR op_isN (pv 5) pe_non (nomark _)) (pe_one (pe_cmpR op_le (pv 7) (pv 5) (nomark _)))))))))))), ?_⟩
  refine ⟨_, rfl, t, _, rfl, ht, rfl, _, _, rfl, _, _, rfl, _, _, rfl, _, _, rfl, rfl, ?_⟩
  rcases hl with h2 | h2
  · refine ⟨_, rfl, .inl ⟨l, _, rfl, h2, rfl, _, _, rfl, _, _, rfl, rfl, ?_⟩⟩
    exact and_v (fun Q' q => or_lo rfl rfl q) (fun Q' q => and_v (fun Q' q => or_hi rfl rfl q) (fun Q' q => and_v (fun Q' q => or_lo rfl rfl q) (fun Q' q => or_hi rfl rfl q) q) q) k
  · refine ⟨_, rfl, .inr ⟨l, _, rfl, h2, rfl, _, _, rfl, _, _, rfl, rfl, ?_⟩⟩
    exact and_v (fun Q' q => or_lo rfl rfl q) (fun Q' q => and_v (fun Q' q => or_hi rfl rfl q) (fun Q' q => and_v (fun Q' q => or_lo rfl rfl q) (fun Q' q => or_hi rfl rfl q) q) q) k
end
end K57

set_option Elab.async false
set_option linter.all false
set_option maxRecDepth 100000
set_option maxHeartbeats 4000000
/-! Layer G20: set comprehensions of ints and texts; len of such a set. -/
namespace Gs
open PySem PySem.Spec PyProof.Rows L2
abbrev SK := (Key → Bool) × Nat
def keyKd (P : Program) (w : World) (K : PySem.W.Frag) : SetKd P w K SK where
  ob := fun D z => SetK P w D z.1 z.2
  zero := (fun _ => false, 0)
  fresh := fun H h => setK_new ⟨_, #[], 0, _, Heap.get?_push_size _ rfl, ⟨rfl, rfl, rfl⟩, rfl, (fun e he => by simp at he), (fun k => by simp), (by decide), (by rfl), rfl⟩
  adds := fun D y H F => ∃ (k : Key) (S : Key → Bool) (n : Nat), y = kV k ∧ H D = some (SetK P w D S n) ∧ n + 1 < scanBound ∧ F (upd H D (SetK P w D (fun j => S j || decide (j = k)) (if S k = true then n else n + 1)))
  rule := by
    rintro Y rfl rfl rfl hu pins σ H s E D y u F I r ⟨k, S, n, rfl, hD, room, q⟩
    refine call_set_add (kV_is r) (key_scan r) (setK_get I hD) room fun h' sb new => ?_
    have he : ∃ u, h'.get? D = some u := by
      have ⟨o, _, _, _, ho, _⟩ := new
      exact ⟨o, ho⟩
    exact ⟨_, I.write (e := D) (t' := s.toks + 1) (by rw [hD]; trivial) (.inl rfl) (fun b u hb hu => (sb.2 b hb).trans hu) he (setK_new new), q⟩
def rLenK (P : Program) (w : World) : List V → Hp → VK → Prop := fun xs H Q => ∃ (a : Addr) (S : Key → Bool) (n : Nat), xs = [.ref a] ∧ H a = some (SetK P w a S n) ∧ n < 1000000 ∧ Q (.int n) H
theorem call_lenK {X : Cx} : CallR X (.builtin "len") (rLenK X.prog X.w) := by
  intro pins s σ H xs us Q I r h
  obtain ⟨a, S, n, rfl, ha, hz, q⟩ := h
  rw [Vals.ref1 r]
  obtain ⟨o, es, ep, t, ho, hex, hd, h1, h2, h3, h4, h5⟩ := setK_get I ha
  exact call_len_set ho hex hd h4 (by omega) ⟨.int n, H, I.tok _, ⟨_, by rw [h5]⟩, q⟩
end Gs

set_option Elab.async false
set_option linter.all false
set_option maxRecDepth 100000
set_option maxHeartbeats 4000000
/-! Layer G21: zip of a list or a tuple with a list or a tuple. -/
namespace Gs
open PySem PySem.Spec PyProof.Rows L2
/-- a list (false) or a tuple (true) -/
def SqB (K : PySem.W.Frag) : Bool → Hp → Addr → List V → Prop
  | false, H, a, xs => SqL K H a xs
  | true, H, a, xs => SqT K H a xs
def ObB (h : Heap) : Bool → Addr → Array Value → Prop
  | false, l, xs => h.IsList l xs
  | true, l, xs => h.IsTuple l xs
def ItB (h : Heap) : Bool → Addr → Addr → Nat → Prop
  | false, it, l, i => h.IsListIter it l i
  | true, it, l, i => h.IsTupleIter it l i
theorem drawsB {prog : Program} {w : World} {A : Around} (hh : A.handled = none) (t : Bool) (it l : Addr) (hne : l ≠ it) (items : Array Value) :
    Draws prog w A it [it, l] items.size (fun i v => items[i]? = some v) (fun i h => ItB h t it l i ∧ ObB h t l items) := by
  cases t with
  | false => exact Draws.list hh it l hne items
  | true => exact Draws.tuple hh it l hne items
theorem ItB.at {h h' : Heap} {t : Bool} {it l : Addr} {i : Nat} (x : ItB h t it l i) (k : ∀ o, h.get? it = some o → h'.get? it = some o) : ItB h' t it l i := by
  cases t with
  | false => exact Heap.IsListIter.at x k
  | true => exact Heap.IsTupleIter.at x k
theorem ItB.ob {h : Heap} {t : Bool} {it l : Addr} {i : Nat} (x : ItB h t it l i) : ∃ o, h.get? it = some o ∧ ∀ v, o.data ≠ .cell v := by
  cases t with
  | false => obtain ⟨o, e, _, d⟩ := x; exact ⟨o, e, fun v q => by rw [d] at q; cases q⟩
  | true => obtain ⟨o, e, _, d⟩ := x; exact ⟨o, e, fun v q => by rw [d] at q; cases q⟩
def obB (t : Bool) (l : Addr) : Obj := if t = true then { cls := .type "tuple_iterator", data := .fields #[.ref l, .int 0 0] } else { cls := .type "list_iterator", data := .fields #[.ref l, .int 0 0] }
theorem beginsB (t : Bool) (l : Addr) (items : Array Value) : Begins (.ref l) (obB t l) fun h => ObB h t l items := by
  cases t with
  | false => exact begins_list l items
  | true => exact begins_tuple l items
theorem itB_new {h : Heap} {t : Bool} {it l : Addr} (e : h.get? it = some (obB t l)) : ItB h t it l 0 := by
  cases t with
  | false => exact ⟨_, e, rfl, rfl⟩
  | true => exact ⟨_, e, rfl, rfl⟩
section
variable {X : Cx} {pins : List (Addr × Obj)} {σ : L2.St} {H : Hp} {s : Shared}
theorem Inv.sqB {t : Bool} {a : Addr} {xs : List V} (I : Inv X pins σ H s) (h : SqB X.K t H a xs) : ∃ its : List Value, Vals xs its ∧ ObB s.heap t a its.toArray ∧ a < s.heap.objs.size := by
  cases t with
  | false =>
    obtain ⟨its, rv, p, _⟩ := I.list h
    exact ⟨its, rv, p.isList, p.lt⟩
  | true =>
    obtain ⟨its, rv, p, _⟩ := I.tuple h
    obtain ⟨o, ho, _⟩ := id p
    exact ⟨its, rv, p, Heap.lt_size ho⟩
theorem Inv.sqB_inj {t : Bool} {a : Addr} {xs ys : List V} (I : Inv X pins σ H s) (h : SqB X.K t H a xs) (h2 : SqB X.K t H a ys) : xs = ys := by
  cases t with
  | false => exact I.list_inj h h2
  | true => exact I.tuple_inj h h2
end
/-- the sequences at a and b as they stand at each turn, the items in new pairs -/
def ItzM (K : PySem.W.Frag) (t u : Bool) (a b : Addr) : It :=
  ⟨fun i H => ∃ (xs ys : List V) (x y : V), SqB K t H a xs ∧ SqB K u H b ys ∧ xs[i]? = some x ∧ ys[i]? = some y,
    fun i H v H' => ∃ T x y, v = .ref T ∧ H T = none ∧ H' = upd H T (.tup [x, y]) ∧ (∀ xs, SqB K t H a xs → xs[i]? = some x) ∧ ∀ ys, SqB K u H b ys → ys[i]? = some y,
    fun i H => ∃ xs ys : List V, SqB K t H a xs ∧ SqB K u H b ys ∧ i ≤ xs.length ∧ i ≤ ys.length ∧ (i = xs.length ∨ i = ys.length)⟩
theorem turn_zipM {P : Program} {w : World} {K : PySem.W.Frag} {elts : List Expr} {kk : Nat} {tpos : Pos} {t u : Bool} {a b z TI TO i1 i2 : Addr} (D : ZipSep2 z TI TO i1 i2 [i1, a] [i2, b]) (n1 : a ≠ i1) (n2 : b ≠ i2) :
    Turn P w K (.Tuple elts kk tpos) (ItzM K t u a b) [z, TI, TO, i1, i2] z (fun i h => IsZip h z TI TO .none ∧ IsTupOf2 h TI (.ref i1) (.ref i2) ∧ (∃ x y, IsTupOf2 h TO x y) ∧ ItB h t i1 a i ∧ ItB h u i2 b i) where
  mem := by simp
  obj := fun i h st c hc => by
    obtain ⟨hz, hTI, ⟨x, y, hTO⟩, h1, h2⟩ := st
    have e' : c = z ∨ c = TI ∨ c = TO ∨ c = i1 ∨ c = i2 := by simpa using hc
    rcases e' with q | q | q | q | q
    · rw [q]; exact ⟨_, hz, fun v q => nomatch q⟩
    · rw [q]; exact ⟨_, hTI, fun v q => nomatch q⟩
    · rw [q]; exact ⟨_, hTO, fun v q => nomatch q⟩
    · rw [q]; exact h1.ob
    · rw [q]; exact h2.ob
  keep := fun i h h' st k => by
    obtain ⟨hz, hTI, ⟨x, y, hTO⟩, h1, h2⟩ := st
    exact ⟨k z (by simp) _ hz, k TI (by simp) _ hTI, ⟨x, y, k TO (by simp) _ hTO⟩, h1.at fun o q => k i1 (by simp) o q, h2.at fun o q => k i2 (by simp) o q⟩
  item := by
    rintro X rfl rfl rfl hc i pins s σ H E I hf ⟨hz, hTI, ⟨x0, y0, hTO⟩, h1, h2⟩ ⟨xs, ys, x, y, hqx, hqy, hx, hy⟩
    obtain ⟨its, rv, p, _⟩ := Inv.sqB I hqx
    obtain ⟨its2, rv2, p2, _⟩ := Inv.sqB I hqy
    have l1 : its.length = xs.length := rv.length.symm
    have l2 : its2.length = ys.length := rv2.length.symm
    obtain ⟨v1, hu, ru⟩ := rv.get hx
    obtain ⟨v2, hu2, ru2⟩ := rv2.get hy
    have hzl : z < s.heap.objs.size := Heap.lt_size hz
    have g1 := (List.getElem?_eq_some_iff.mp hx).1
    have g2 := (List.getElem?_eq_some_iff.mp hy).1
    refine wpAny_pyNext_zipD2_item D (drawsB (A := X.A.in1) (show X.A.in1.handled = none from I.ok.hd hc) t i1 a n1 its.toArray) (drawsB (A := X.A.in1) (show X.A.in1.handled = none from I.ok.hd hc) u i2 b n2 its2.toArray) hz hTI hTO ⟨h1, p⟩ ⟨h2, p2⟩ (by simp; omega) (by simp; omega) fun x1 x2 h' tk e1 e2 z' TO' st1 st2 hT hsz hk => ?_
    have e1 : its.toArray[i]? = some x1 := e1
    have e2 : its2.toArray[i]? = some x2 := e2
    have e1 : v1 = x1 := by
      have q : its[i]? = some x1 := by simpa using e1
      rw [hu] at q; exact Option.some.inj q
    have e2 : v2 = x2 := by
      have q : its2[i]? = some x2 := by simpa using e2
      rw [hu2] at q; exact Option.some.inj q
    subst e1 e2
    refine ⟨_, rfl, wpAny_letOwnedTupleGo_zip (s := { s with heap := h', toks := tk }) z' fun h'' z'' sb => ?_⟩
    have hT2 : h''.get? s.heap.objs.size = some { cls := .type "tuple", data := .seq #[v1, v2] } := (sb.2 _ (Nat.ne_of_gt hzl)).trans hT
    have new : ObjOk X.prog X.w (upd H s.heap.objs.size (.tup [x, y])) h'' s.heap.objs.size (.tup [x, y]) :=
      ⟨by show 2 ≤ sizeLine; decide, [v1, v2], .cons ru (.cons ru2 .nil), ⟨_, hT2, rfl, _, rfl⟩⟩
    have I1 : Inv X pins σ (upd H s.heap.objs.size (.tup [x, y])) { s with heap := h'', toks := tk } :=
      I.turnedNew (t' := tk) (ch := [z, TI, TO, i1, i2]) (fun c o hb q => (sb.2 c (fun q' => hb (by simp [q']))).trans (hk c o (fun q' => hb (by simp [q'])) (fun q' => hb (by simp [q'])) (fun q' => hb (by simp [q'])) (fun q' => hb (by simp [q'])) q)) hf (Nat.le_refl _) new
    have ni1 : i1 ≠ z := fun q => D.zf1 (by rw [← q]; simp)
    have ni2 : i2 ≠ z := fun q => D.zf2 (by rw [← q]; simp)
    refine ⟨.ref s.heap.objs.size, _, I1, rfl, ⟨_, x, y, rfl, I.hok.fresh (Nat.le_refl _), rfl, fun l hl => by rw [Inv.sqB_inj I hl hqx]; exact hx, fun l hl => by rw [Inv.sqB_inj I hl hqy]; exact hy⟩, ⟨z'', ?_, ⟨v1, v2, ?_⟩, ?_, ?_⟩, fun c hcm => ?_⟩
    · exact (sb.2 _ D.TIz).trans (hk _ _ D.TIz D.TITO D.TIi1 D.TIi2 hTI)
    · exact (sb.2 _ D.TOz).trans TO'
    · exact st1.1.at fun o q => (sb.2 _ ni1).trans q
    · exact st2.1.at fun o q => (sb.2 _ ni2).trans q
    · have hlt : c < s.heap.objs.size := by
        have e' : c = z ∨ c = TI ∨ c = TO ∨ c = i1 ∨ c = i2 := by simpa using hcm
        rcases e' with q | q | q | q | q
        · rw [q]; exact hzl
        · rw [q]; exact Heap.lt_size hTI
        · rw [q]; exact Heap.lt_size hTO
        · rw [q]; obtain ⟨_, e1, _⟩ := h1.ob; exact Heap.lt_size e1
        · rw [q]; obtain ⟨_, e2, _⟩ := h2.ob; exact Heap.lt_size e2
      rw [upd_ne (Nat.ne_of_lt hlt)]
      exact (hf c hcm).1
  done := by
    rintro X rfl rfl rfl hc i pins s σ H E I hf ⟨hz, hTI, ⟨x0, y0, hTO⟩, h1, h2⟩ ⟨xs, ys, hqx, hqy, m1, m2, hend⟩
    obtain ⟨its, rv, p, _⟩ := Inv.sqB I hqx
    obtain ⟨its2, rv2, p2, _⟩ := Inv.sqB I hqy
    have l1 : its.length = xs.length := rv.length.symm
    have l2 : its2.length = ys.length := rv2.length.symm
    exact wpAny_pyNext_zipD2_end D (drawsB (A := X.A.in1) (show X.A.in1.handled = none from I.ok.hd hc) t i1 a n1 its.toArray) (drawsB (A := X.A.in1) (show X.A.in1.handled = none from I.ok.hd hc) u i2 b n2 its2.toArray) hz hTI hTO ⟨h1, p⟩ ⟨h2, p2⟩ (by simp; omega) (by simp; omega) (by simp; omega) fun h' tk hk =>
      ⟨rfl, I.turnedL (t' := tk) (ch := [z, TI, TO, i1, i2]) (fun c o hb q => hk c o (fun q' => hb (by simp [q'])) (fun q' => hb (by simp [q'])) (fun q' => hb (by simp [q'])) (fun q' => hb (by simp [q'])) q) hf⟩
  self := fun A i s Q E st h => wpAny_pyIter_zip st.1 h
def iZipM (K : PySem.W.Frag) (ta : TA) : TI := fun σ H R => ta σ H fun vs H1 => ∃ a b t u xs ys, vs = [.ref a, .ref b] ∧ SqB K t H1 a xs ∧ SqB K u H1 b ys ∧ R (ItzM K t u a b) H1
theorem pi_zipM {X : Cx} {e e2 : Expr} {ta : TA} {p pos tpos : Pos} {elts : List Expr} {kk : Nat} (hg : Gl X "zip") (hm : X.mg "zip" = none) (ha : PA X [e, e2] ta)
    (hs : starEach [e, e2] X.env = (false, eval e X.env) :: starEach [e2] X.env := by rfl) (hpl : (backTo pos (starEach [e2] X.env)).any (·.1) = false := by rfl) :
    PI X (.Tuple elts kk tpos) (.Call (.Name "zip" p) [e, e2] [] pos) (iZipM X.K ta) := by
  refine ⟨fun pins s σ H R I h => ?_⟩
  refine Call_ (ld_blt I hg hm PyProof.Rows.boot_zip (PyProof.Rows.callWith_type1 (thn (ha.run pos pins s σ H _ I h) fun us s1 ⟨vs, H1, I1, r1, q1⟩ => ?_) hs hpl))
  obtain ⟨a, b, t, u, xs, ys, ex, hqx, hqy, q⟩ := q1
  subst ex
  cases r1 with
  | cons r rr =>
    cases rr with
    | cons r' rr =>
      cases rr
      cases r
      cases r'
      obtain ⟨its, rv, p1, a1⟩ := Inv.sqB I1 hqx
      obtain ⟨its2, rv2, p2, a2⟩ := Inv.sqB I1 hqy
      refine zip_begins2 (beginsB t a its.toArray) (beginsB u b its2.toArray) p1 p2 fun h' hz hTI hTO h1 h2 hsz hk => wpAny_pyIter_zip hz ?_
      have fresh5 : ∀ c, c ∈ [s1.heap.objs.size + 4, s1.heap.objs.size + 2, s1.heap.objs.size + 3, s1.heap.objs.size, s1.heap.objs.size + 1] → FpOk X pins H1 c := fun c hcm => by
        have hle : s1.heap.objs.size ≤ c := by
          simp only [List.mem_cons, List.not_mem_nil, or_false] at hcm
          rcases hcm with z | z | z | z | z
          · rw [z]; exact Nat.le_add_right _ _
          · rw [z]; exact Nat.le_add_right _ _
          · rw [z]; exact Nat.le_add_right _ _
          · rw [z]; exact Nat.le_refl _
          · rw [z]; exact Nat.le_add_right _ _
        exact I1.fpOk hle (I1.hok.fresh hle)
      have I2 : Inv X pins σ H1 { s1 with heap := h' } := I1.kept (t' := s1.toks) hk
      exact ⟨s1.heap.objs.size + 4, [s1.heap.objs.size + 4, s1.heap.objs.size + 2, s1.heap.objs.size + 3, s1.heap.objs.size, s1.heap.objs.size + 1], _, _, H1, rfl, I2,
        turn_zipM (zip_sep2 (fp1 := [a]) (fp2 := [b]) (fun c hc => by rw [List.mem_singleton.mp hc]; exact a1) (fun c hc => by rw [List.mem_singleton.mp hc]; exact a2)) (Nat.ne_of_lt a1) (Nat.ne_of_lt (Nat.lt_succ_of_lt a2)), ⟨hz, hTI, ⟨_, _, hTO⟩, itB_new h1, itB_new h2⟩, fresh5, q⟩
/-- two sequences of one length that stand -/
theorem walk_zipM {K : PySem.W.Frag} {t u : Bool} {a b : Addr} {xs ys : List V} (hl : xs.length = ys.length) : Walk (ItzM K t u a b) xs.length (fun H => SqB K t H a xs ∧ SqB K u H b ys) (fun i H v H' => ∃ T x y, v = .ref T ∧ H T = none ∧ H' = upd H T (.tup [x, y]) ∧ xs[i]? = some x ∧ ys[i]? = some y) where
  goes := fun i H hi g => ⟨xs, ys, xs[i], ys[i]'(by omega), g.1, g.2, by simp [hi], by simp⟩
  stops := fun H g => ⟨xs, ys, g.1, g.2, Nat.le_refl _, by omega, .inl rfl⟩
  yields := fun i H x H' hi g h => by
    obtain ⟨T, x, y, h1, h2, h3, h4, h5⟩ := h
    exact ⟨T, x, y, h1, h2, h3, h4 _ g.1, h5 _ g.2⟩
theorem pe_fldK {X : Cx} {K : PySem.W.Frag} {e : Expr} {te : TE} {pos : Pos} {n : Str} (eK : X.K = K) (he : PE X e te) (hb : attributeBase e n X.env (eval e X.env) = eval e X.env := by rfl) : PE X (.Attribute e n pos) (tFld K te n) := by
  subst eK; exact pe_fld he hb
end Gs

set_option Elab.async false
set_option linter.all false
set_option maxRecDepth 100000
set_option maxHeartbeats 4000000
namespace K57
open PySem PySem.Spec PyProof.Rows L2 Gs
section
variable {P : Program} {w : World} {K : PySem.W.Frag} {mg : Str → Option Value} {base : Heap}
/-- at k a kind -/
def KindAt (K : PySem.W.Frag) (C : Addr) (H : Hp) (k : Addr) (z : Str) (ps : List (Int × Int)) (rs : List Str) (q : Bool) : Prop :=
  ∃ (dx tl tr : Addr) (ls : List (Addr × Int × Int)), H k = some (.ins C dx (kdF (.str z) tl tr (.bl q))) ∧ SqT K H tl (ls.map fun p => V.ref p.1) ∧ (∀ p ∈ ls, SqT K H p.1 [.int p.2.1, .int p.2.2]) ∧ ls.map (·.2) = ps ∧ SqT K H tr (rs.map V.str)
theorem KindAt.same {C : Addr} {H H' : Hp} {k : Addr} {z : Str} {ps : List (Int × Int)} {rs : List Str} {q : Bool} (h : KindAt K C H k z ps rs q) (s : Same H H') : KindAt K C H' k z ps rs q := by
  obtain ⟨dx, tl, tr, ls, h1, h2, h3, h4, h5⟩ := h
  exact ⟨dx, tl, tr, ls, s _ _ h1, s.seqT h2, fun p hp => s.seqT (h3 p hp), h4, s.seqT h5⟩
structure KdT where
  a : Addr
  z : Str
  ps : List (Int × Int)
  rs : List Str
  q : Bool
/-- kinds stand -/
def KAs (K : PySem.W.Frag) (C : Addr) (H : Hp) (ks : List KdT) : Prop := ∀ k ∈ ks, KindAt K C H k.a k.z k.ps k.rs k.q
theorem KAs.same {C : Addr} {H H' : Hp} {ks : List KdT} (h : KAs K C H ks) (s : Same H H') : KAs K C H' ks := fun k hk => (h k hk).same s
abbrev refsK (ks : List KdT) : List V := ks.map fun k => V.ref k.a
theorem ty_seq {H : Hp} {l : Addr} {xs : List V} (h : Seq K H l xs) : ∃ d, isSeq d = true ∧ TyX K H (.ref l) (.type (tyN d)) := by
  rcases h with s | s
  · refine ⟨.list [], rfl, ?_⟩
    rcases s with (s | ⟨o, s⟩) | ⟨o, its, n, e, q, _⟩
    · exact .base (.lst s)
    · exact .base (.frz s)
    · exact .kList e q
  · refine ⟨.tuple [], rfl, ?_⟩
    rcases s with (s | ⟨o, s⟩) | ⟨o, its, n, e, q, _⟩
    · exact .base (.tup s)
    · exact .fTuple s
    · exact .kTuple e q
def spSeqT (K : PySem.W.Frag) : Sp := fun vs H Q _ => ∃ (l : Addr) (xs : List V), vs = [.ref l] ∧ Seq K H l xs ∧ ∀ H', Same H H' → Q (.bl true) H'
theorem O_is_listS (T : Tx K mg w) : FnOk P w K mg base CX0 1 T.a_is_list T.d_is_list ["value"] (spSeqT K) := by
  refine T.F_is_list.ok sc_is_list (fun vs H Q E h => ?_) (fun cdv A outer s H vs Q E hr h => ?_)
  · obtain ⟨l, xs, rfl, _⟩ := h; rfl
  obtain ⟨l, xs, rfl, hs, k⟩ := h
  refine ⟨_, (pss_one (ps_ret (pe_callB call_isiT (by rfl) T.z_isinstance (by decide +kernel) (pa_cons (pv 0) (pa_cons (pe_tup (pa_cons (pe_bltn (v := .ty "list") (u := .type "list") (by rfl) T.z_list (by decide +kernel) rfl) (pa_cons (pe_bltn (v := .ty "tuple") (u := .type "tuple") (by rfl) T.z_tuple (by decide +kernel) rfl) pa_nil))) pa_nil))))), ?_⟩
  refine ⟨_, rfl, szl rfl, fun p hp => ?_⟩
  have st : Same H (upd H p (.tup [.ty "list", .ty "tuple"])) := same_new hp
  obtain ⟨d, hq, ty⟩ := ty_seq (hs.imp st.seq st.seqT)
  refine ⟨.ref l, _, [.ty "list", .ty "tuple"], .type (tyN d), [.type "list", .type "tuple"], isSeq d, rfl, upd_same, .cons (.ty _) (.cons (.ty _) .nil), ty, kit_seq _, ?_⟩
  rw [hq]
  exact k _ st
def spKinds (K : PySem.W.Frag) (C : Addr) : Sp := fun vs H Q _ => ∃ (l : Addr) (ks : List KdT), vs = [.ref l] ∧ SqL K H l (refsK ks) ∧ KAs K C H ks ∧ 1 ≤ ks.length ∧ ks.length ≤ 8 ∧ (ks.map (·.z)).Nodup ∧ ∀ H', Same H H' → Q (.bl true) H'
theorem O_are_kinds (T : Tx K mg w) : FnOk P w K mg base CX0 3 T.a_are_kinds T.d_are_kinds ["value"] (spKinds K T.c_Kind) := by
  refine T.F_are_kinds.ok sc_are_kinds (fun vs H Q E h => ?_) (fun cdv A outer s H vs Q E hr h => ?_)
  · obtain ⟨l, ks, rfl, _⟩ := h; rfl
  obtain ⟨l, ks, rfl, hs, hk, z1, z8, nd, k⟩ := h
  obtain ⟨tK, hMK⟩ := T.g_MK
  refine ⟨_, (pss_cons (ps_if (PW.pt (pw_or (pt_not (pt_val (pe_call (O_is_listS T) (hr.mono (by decide)) (by rfl) T.m_is_list T.F_is_list.kp T.b_is_list .nil pass0 (pa_cons (pv 0) pa_nil)))) (pw_or1 (pt_not (pt_chain op_le op_le pe_int (pe_callB call_len_seq (by rfl) T.z_len (by decide +kernel) (pa_cons (pv 0) pa_nil)) (pe_glob (v := .int 8) (by rfl) hMK ⟨_, rfl⟩)))))) (pss_one (ps_ret pe_bl)) pss_nil)
      (pss_cons (ps_if (pt_not (pt_val (pe_callB (cr_all rfl) (by rfl) T.z_all (by decide +kernel) (pa_cons (pe_lc (own := [("kind", 1)]) (g := (gName 1)) rfl sc_are_kinds.nd (pi_list (pv 0)) (blkOk_by (N := n_are_kinds) (sc := defScope s_are_kinds) (by decide +kernel)) (fun _ _ _ _ _ => (pg_name (i := 1) sc_are_kinds.nd rfl (Or.inl rfl))) (fun _ _ _ _ _ => pts_nil) (fun _ _ _ _ _ => (pe_callB (r := rIsi K) call_isi (by rfl) T.z_isinstance (by decide +kernel) (pa_cons (pv 1) (pa_cons (pe_glob (v := .ref T.c_Kind) (by rfl) T.m_Kind rfl) pa_nil))))) pa_nil)))) (pss_one (ps_ret pe_bl)) pss_nil)
      (pss_one (ps_ret (pe_cmpR op_eq (pe_callB (r := rLenK P w) call_lenK (by rfl) T.z_len (by decide +kernel) (pa_cons (pe_setc (own := [("kind", 1)]) (g := (gName 1)) (keyKd P w K) (hu_two hr) rfl sc_are_kinds.nd (pi_list (pv 0)) (blkOk_by (N := n_are_kinds) (sc := defScope s_are_kinds) (by decide +kernel)) (fun _ _ _ _ _ => (pg_name (i := 1) sc_are_kinds.nd rfl (Or.inl rfl))) (fun _ _ _ _ _ => pts_nil) (fun _ _ _ _ _ => (pe_fldK (K := K) rfl (pv 1)))) pa_nil)) (pe_callB call_len_seq (by rfl) T.z_len (by decide +kernel) (pa_cons (pv 0) pa_nil)) (nomark _)))))), ?_⟩
  have len : (refsK ks).length = ks.length := List.length_map ..
  refine ⟨_, rfl, l, _, rfl, .inl hs, fun H1 s1 => ⟨_, rfl, iteF ?_⟩⟩
  have hs1 := s1.seq hs
  have hk1 := hk.same s1
  refine ⟨_, rfl, _, _, rfl, .inl hs1, ?_⟩
  refine ⟨_, _, rfl, rfl, _, rfl, ?_⟩
  rw [len]
  refine iteB (fun _ => ?_) (fun e => absurd (of_decide_eq_false e) (by omega))
  refine ⟨_, _, rfl, rfl, _, rfl, ?_⟩
  refine iteB (fun e => ?_) (fun _ => ?_)
  · have e : (!decide ((ks.length : Int) ≤ 8)) = true := e
    rw [decide_eq_true (by omega)] at e; cases e
  refine ⟨_, rfl, _, rfl, ⟨_, hs1⟩, fun D hD => ?_⟩
  refine lc_it (walk_list (K := K) (a := l) (xs := refsK ks)) (fun i H' => Same H1 H' ∧ H' D = some (.lst ((List.replicate i true).map V.bl))) ⟨same_new hD, upd_same⟩ (fun i H' _ h => h.1.seq hs1) ?_ ?_
  · rintro i x H2 H3 hi ⟨s2, hD2⟩ ⟨rfl, hx⟩
    refine ⟨rfl, ?_⟩
    rw [List.getElem?_map] at hx
    obtain ⟨kd, hkd, rfl⟩ := Option.map_eq_some_iff.mp hx
    obtain ⟨dx, tl, tr, ls, g1, _⟩ := (hk1.same s2) kd (List.mem_of_getElem? hkd)
    refine ⟨_, rfl, .ref kd.a, .ref T.c_Kind, .ref T.c_Kind, .ref T.c_Kind, true, rfl, .own _, T.ty_Kind.ty g1, T.kk_Kind, _, hD2, ?_, same_own s2 hD, ?_⟩
    · rw [List.length_map, List.length_replicate]
      exact szK (by have hi : i < (refsK ks).length := hi; omega)
    · rw [upd_same, List.replicate_succ', List.map_append]; rfl
  rintro H2 ⟨s2, hD2⟩
  have hs2 := s2.seq hs1
  have hk2 := hk1.same s2
  refine ⟨D, _, rfl, .of hD2, _, rfl, ?_⟩
  have all : (List.replicate (refsK ks).length true).all id = true := by
    rw [List.all_eq_true]; intro b hb; rw [(List.mem_replicate.mp hb).2]; rfl
  rw [all]
  refine iteF ?_
  refine ⟨_, rfl, _, rfl, ⟨_, hs2⟩, fun S hS => ?_⟩
  refine sc_it (walk_list (K := K) (a := l) (xs := refsK ks)) (fun i H' => Same H2 H' ∧ ∃ F : Key → Bool, H' S = some (SetK P w S F i) ∧ ∀ z : Str, F (.inr z) = true → z ∈ (ks.take i).map (·.z)) ⟨same_new hS, _, upd_same, fun z h => by cases h⟩ (fun i H' _ h => h.1.seq hs2) ?_ ?_
  · rintro i x H3 H4 hi ⟨s3, F, hF, hm⟩ ⟨rfl, hx⟩
    refine ⟨rfl, ?_⟩
    rw [List.getElem?_map] at hx
    obtain ⟨kd, hkd, rfl⟩ := Option.map_eq_some_iff.mp hx
    obtain ⟨dx, tl, tr, ls, g1, _⟩ := (hk2.same s3) kd (List.mem_of_getElem? hkd)
    have new : F (.inr kd.z) = false := by
      cases e : F (.inr kd.z) with
      | false => rfl
      | true =>
        have m := hm _ e
        obtain ⟨k2, h2, e2⟩ := List.mem_map.mp m
        have sp : ks = ks.take i ++ kd :: ks.drop (i + 1) := by
          obtain ⟨hlt, e⟩ := List.getElem?_eq_some_iff.mp hkd
          rw [← e, List.getElem_cons_drop, List.take_append_drop]
        rw [sp, List.map_append, List.nodup_append] at nd
        exact absurd rfl (nd.2.2 _ m kd.z List.mem_cons_self)
    refine ⟨_, rfl, kd.a, _, dx, _, _, rfl, g1, T.cl_Kind, T.nF_Kind_name, rfl, .inr kd.z, F, i, rfl, hF, ?_, ?_⟩
    · have hi : i < (refsK ks).length := hi
      exact Nat.lt_of_lt_of_le (show i + 1 < 100 by omega) (by decide)
    · rw [if_neg (by rw [new]; decide)]
      refine ⟨same_own s3 hS, _, upd_same, fun z h => ?_⟩
      rw [List.take_add_one, hkd, List.map_append, List.mem_append]
      rcases Bool.or_eq_true_iff.mp h with h | h
      · exact .inl (hm z h)
      · have e := Sum.inr.inj (of_decide_eq_true h)
        exact .inr (by rw [e]; exact List.mem_cons_self)
  rintro H3 ⟨s3, F, hF, _⟩
  rw [len] at hF
  refine ⟨S, F, ks.length, rfl, hF, by omega, _, rfl, l, _, rfl, .inl (s3.seq hs2), rfl, ?_⟩
  rw [len, decide_eq_true rfl]
  exact k _ ((s1.trans s2).trans s3)
theorem seq_cut {te : TE} {tg : TG} {r : TS} {D : Ends} {σ : L2.St} {H : Hp} (R : V → Hp → Prop) (h1 : ∀ Q : VK, (∀ v H', R v H' → Q v H') → te σ H Q) (h2 : ∀ v H', R v H' → tg v σ H' (r D)) : tSeq (tAsg te tg) r D σ H := h1 _ h2
def sides4 : List Str := ["left", "right", "low", "high"]
/-- the sides that have an edge -/
def sidesOf (es : List (Option Int)) : List Str := ((sides4.zip es).filter fun p => p.2.isSome).map (·.1)
def plainOf (ks : List KdT) : List Str := (ks.filter fun k => !k.q).map (·.z)
def GoalIs (ks : List KdT) (es : List (Option Int)) (ws : List Str) : Prop :=
  ws = [("hold" : Str)] ∨ (∃ n : Str, ws = [("take" : Str), n] ∧ n ∈ plainOf ks) ∨ ∃ s n : Str, ws = [("reach" : Str), s, n] ∧ s ∈ sidesOf es ∧ n ∈ ks.map (·.z)
def spGoal (K : PySem.W.Frag) (C : Addr) : Sp := fun vs H Q _ => ∃ (l e g : Addr) (ks : List KdT) (a b c d : Option Int) (ws : List Str), vs = [.ref l, .ref e, .ref g] ∧ SqL K H l (refsK ks) ∧ KAs K C H ks ∧ ks.length ≤ 8 ∧ Seq K H e [oV a, oV b, oV c, oV d] ∧
  Seq K H g (ws.map V.str) ∧ GoalIs ks [a, b, c, d] ws ∧ ∀ H', Same H H' → Q (.bl true) H'
theorem O_is_goal (T : Tx K mg w) : FnOk P w K mg base CX0 3 T.a_is_goal T.d_is_goal ["kinds", "edges", "value"] (spGoal K T.c_Kind) := by
  refine T.F_is_goal.ok sc_is_goal (fun vs H Q E h => ?_) (fun cdv A outer s H vs Q E hr h => ?_)
  · obtain ⟨l, e, g, ks, a, b, c, d, ws, rfl, _⟩ := h; rfl
  obtain ⟨l, e, g, ks, a, b, c, d, ws, rfl, hl, hk, z8, he, hg, gi, k⟩ := h
  refine ⟨_, (pss_cons (ps_if (PW.pt (pw_or (pt_not (pt_val (pe_call (O_is_listS T) (hr.mono (by decide)) (by rfl) T.m_is_list T.F_is_list.kp T.b_is_list .nil pass0 (pa_cons (pv 2) pa_nil)))) (pw_or1 (pt_not (pt_val (pe_callB (cr_all rfl) (by rfl) T.z_all (by decide +kernel) (pa_cons (pe_lc (own := [("word", 3)]) (g := (gName 3)) rfl sc_is_goal.nd (pi_or (pi_list (pv 2)) (pi_tup (pv 2))) (blkOk_by (N := n_is_goal) (sc := defScope s_is_goal) (by decide +kernel)) (fun _ _ _ _ _ => (pg_name (i := 3) sc_is_goal.nd rfl (Or.inl rfl))) (fun _ _ _ _ _ => pts_nil) (fun _ _ _ _ _ => (pe_callB (r := rIsi K) call_isi (by rfl) T.z_isinstance (by decide +kernel) (pa_cons (pv 3) (pa_cons (pe_bltn (v := .ty "str") (u := .type "str") (by rfl) T.z_str (by decide +kernel) rfl) pa_nil))))) pa_nil))))))) (pss_one (ps_ret pe_bl)) pss_nil)
      (pss_cons (ps_set (i := 4) sc_is_goal.nd rfl (Or.inl rfl) (pe_callTy (T := "tuple") (r := rTupOf K) call_tuple_of (by rfl) T.z_tuple (by decide +kernel) (pa_cons (pv 2) pa_nil)))
      (pss_cons (ps_if (PW.pt (pw_and (pt_cmpR op_eq (pe_callB call_len_seq (by rfl) T.z_len (by decide +kernel) (pa_cons (pv 4) pa_nil)) pe_int (nomark _)) (pw_and1 (pt_cmpR op_eq (pe_ix ix_tup (pv 4) pe_int (fun _ _ => rfl)) pe_str (nomark _))))) (pss_one (ps_ret (pe_cmpR op_in_seq (pe_ix ix_tup (pv 4) pe_int (fun _ _ => rfl)) (pe_lc (own := [("kind", 5)]) (g := (gName 5)) rfl sc_is_goal.nd (pi_list (pv 0)) (blkOk_by (N := n_is_goal) (sc := defScope s_is_goal) (by decide +kernel)) (fun _ _ _ _ _ => (pg_name (i := 5) sc_is_goal.nd rfl (Or.inl rfl))) (fun _ _ _ _ _ => pts_one (pt_not (pt_val (pe_fldK (K := K) rfl (pv 5))))) (fun _ _ _ _ _ => (pe_fldK (K := K) rfl (pv 5)))) (by rfl)))) pss_nil)
      (pss_cons (ps_if (PW.pt (pw_and (pt_cmpR op_eq (pe_callB call_len_seq (by rfl) T.z_len (by decide +kernel) (pa_cons (pv 4) pa_nil)) pe_int (nomark _)) (pw_and1 (pt_cmpR op_eq (pe_ix ix_tup (pv 4) pe_int (fun _ _ => rfl)) pe_str (nomark _))))) (pss_cons (ps_setLc (i := 6) (own := [("side", 7), ("edge", 8)]) (g := (gTup K 2 (gCons (gName 7) (gCons (gName 8) gNil)))) rfl sc_is_goal.nd rfl rfl (sw_true rfl rfl rfl (by decide +kernel)) (pi_zipM (by rfl) T.z_zip (pa_cons (pe_glob (v := .ref T.t_SD) (by rfl) T.g_SD rfl) (pa_cons (pv 1) pa_nil))) (blkOk_by (N := n_is_goal) (sc := defScope s_is_goal) (by decide +kernel)) (fun _ _ _ _ _ => (pg_tup rfl (pgs_cons (pg_name (i := 7) sc_is_goal.nd rfl (Or.inl rfl)) (pgs_cons (pg_name (i := 8) sc_is_goal.nd rfl (Or.inl rfl)) pgs_nil)))) (fun _ _ _ _ _ => pts_one (pt_cmpR op_notN (pv 8) pe_non (nomark _))) (fun _ _ _ _ _ => (pv 7)))
      (pss_one (ps_ret (pe_and (pe_cmpR op_in_seq (pe_ix ix_tup (pv 4) pe_int (fun _ _ => rfl)) (pv 6) (by rfl)) (pe_one (pe_cmpR op_in_seq (pe_ix ix_tup (pv 4) pe_int (fun _ _ => rfl)) (pe_lc (own := [("kind", 5)]) (g := (gName 5)) rfl sc_is_goal.nd (pi_list (pv 0)) (blkOk_by (N := n_is_goal) (sc := defScope s_is_goal) (by decide +kernel)) (fun _ _ _ _ _ => (pg_name (i := 5) sc_is_goal.nd rfl (Or.inl rfl))) (fun _ _ _ _ _ => pts_nil) (fun _ _ _ _ _ => (pe_fldK (K := K) rfl (pv 5)))) (by rfl))))))) pss_nil)
      (pss_one (ps_ret (pe_cmpR (op_eqD hr.units) (pv 4) (pe_tup (pa_cons pe_str pa_nil)) (nomark _)))))))), ?_⟩
  have wz : ws.length ≤ 3 := by
    rcases gi with rfl | ⟨n, rfl, _⟩ | ⟨s, n, rfl, _⟩
    · exact Nat.le_of_ble_eq_true rfl
    · exact Nat.le_of_ble_eq_true rfl
    · exact Nat.le_refl _
  refine ⟨_, rfl, g, _, rfl, hg, fun H1 s1 => ⟨_, rfl, iteF ?_⟩⟩
  have hg1 : Seq K H1 g _ := hg.imp s1.seq s1.seqT
  refine pi_seq_rd (a := g) rfl hg1 (fun J G hG W => fun D hD => ?_)
  refine lc_it W (fun i H' => Same H1 H' ∧ H' D = some (.lst ((List.replicate i true).map V.bl))) ⟨same_new hD, upd_same⟩ (fun i H' _ h => hG H' (ExtI.of h.1)) ?_ ?_
  · rintro i x H2 H3 hi ⟨s2, hD2⟩ ⟨rfl, hx⟩
    refine ⟨rfl, ?_⟩
    rw [List.getElem?_map] at hx
    obtain ⟨z, hz, rfl⟩ := Option.map_eq_some_iff.mp hx
    refine ⟨_, rfl, .str z, .ty "str", .type "str", .type "str", true, rfl, .ty _, .base (.str z), kit_ty (kS (.str z)), _, hD2, ?_, same_own s2 hD, ?_⟩
    · rw [List.length_map, List.length_replicate]
      exact szK (by have hi : i < (ws.map V.str).length := hi; rw [List.length_map] at hi; omega)
    · rw [upd_same, List.replicate_succ', List.map_append]; rfl
  rintro H2 ⟨s2, hD2⟩
  refine ⟨D, _, rfl, .of hD2, _, rfl, ?_⟩
  have all : (List.replicate (ws.map V.str).length true).all id = true := by
    rw [List.all_eq_true]; intro b hb; rw [(List.mem_replicate.mp hb).2]; rfl
  rw [all]
  refine iteF ?_
  have s3 := s1.trans s2
  have hg2 : Seq K H2 g _ := hg.imp s3.seq s3.seqT
  show tSeq (tAsg (tCB (rTupOf K) (tCons (tVar 2) tNil)) (gName 4)) _ _ _ H2
  refine seq_cut (fun v H' => ∃ t, v = .ref t ∧ SqT K H' t (ws.map V.str) ∧ Same H H') (fun Q q => ?_) ?_
  · rcases hg2 with h | h
    · exact ⟨_, rfl, g, _, rfl, .inl ⟨h, fun t ht => q _ _ ⟨t, rfl, .of upd_same, s3.trans (same_new ht)⟩⟩⟩
    · exact ⟨_, rfl, g, _, rfl, .inr ⟨h, q _ _ ⟨g, rfl, h, s3⟩⟩⟩
  rintro v H3 ⟨t, rfl, ht, s4⟩
  clear hD2 all hg2 s3 s2 hg1 s1 W hG hD
  refine ⟨_, rfl, t, _, rfl, .inr ht, rfl, _, rfl, ?_⟩
  have hl3 := s4.seq hl
  have hk3 := hk.same s4
  have he3 : Seq K H3 e _ := he.imp s4.seq s4.seqT
  rcases gi with rfl | ⟨n, rfl, hn⟩ | ⟨sd, n, rfl, hsd, hn⟩
  · refine iteB (fun e => absurd (V.int.inj (of_decide_eq_true e)) (by decide)) (fun _ => ?_)
    refine ⟨_, rfl, t, _, rfl, .inr ht, rfl, _, rfl, ?_⟩
    refine iteB (fun e => absurd (V.int.inj (of_decide_eq_true e)) (by decide)) (fun _ => ?_)
    refine ⟨_, rfl, szl rfl, fun p hp => ?_⟩
    have st : Same H3 (upd H3 p (.tup [.str "hold"])) := same_new hp
    have sh : SeqAt.shaped (.tuple [.str "hold"]) = true := by decide +kernel
    refine ⟨.tuple [.str "hold"], .tuple [.str "hold"], .tup (st.seqT ht) (.cons (.str _) .nil), .tup (.of upd_same) (.cons (.str _) .nil), sh, sh, ?_⟩
    exact k _ (s4.trans st)
  · refine iteB (fun _ => ?_) (fun e => absurd (of_decide_eq_false e) (fun z => z rfl))
    refine ⟨_, rfl, t, _, 0, .str "take", rfl, rfl, ht, rfl, rfl, _, rfl, ?_⟩
    refine iteB (fun _ => ?_) (fun e => absurd (of_decide_eq_false e) (fun z => z rfl))
    refine ⟨_, rfl, t, _, 1, .str n, rfl, rfl, ht, rfl, _, rfl, _, rfl, ⟨_, hl3⟩, fun D hD => ?_⟩
    refine lc_it (walk_list (K := K) (a := l) (xs := refsK ks)) (fun i H' => Same H3 H' ∧ H' D = some (.lst ((plainOf (ks.take i)).map V.str))) ⟨same_new hD, upd_same⟩ (fun i H' _ h => h.1.seq hl3) ?_ ?_
    · rintro i x H4 H5 hi ⟨s5, hD5⟩ ⟨rfl, hx⟩
      refine ⟨rfl, ?_⟩
      rw [List.getElem?_map] at hx
      obtain ⟨kd, hkd, rfl⟩ := Option.map_eq_some_iff.mp hx
      obtain ⟨dx, tl, tr, ls, g1, _⟩ := (hk3.same s5) kd (List.mem_of_getElem? hkd)
      have nx : plainOf (ks.take (i + 1)) = plainOf (ks.take i) ++ (if kd.q = true then [] else [kd.z]) := by
        unfold plainOf
        rw [List.take_add_one, hkd, List.filter_append, List.map_append]
        cases hq : kd.q <;> simp [hq]
      refine ⟨_, rfl, kd.a, _, dx, _, _, rfl, g1, T.cl_Kind, T.nF_Kind_is_lord, rfl, _, rfl, ?_⟩
      have hi : i < ks.length := by have hi : i < (refsK ks).length := hi; rw [List.length_map] at hi; exact hi
      refine iteB (fun e => ?_) (fun e => ?_)
      · have e : kd.q = false := by simpa using e
        refine ⟨_, rfl, kd.a, _, dx, _, _, rfl, g1, T.cl_Kind, T.nF_Kind_name, rfl, _, hD5, ?_, same_own s5 hD, ?_⟩
        · rw [List.length_map]
          exact szK (by
            have h1 : (plainOf (ks.take i)).length ≤ (ks.take i).length := by unfold plainOf; rw [List.length_map]; exact List.length_filter_le ..
            have h2 := List.length_take_le' i ks
            omega)
        · rw [upd_same, nx, e, if_neg (by decide), List.map_append]; rfl
      · have e : kd.q = true := by simpa using e
        refine ⟨s5, ?_⟩
        rw [nx, e, if_pos rfl, List.append_nil]; exact hD5
    rintro H4 ⟨s5, hD5⟩
    rw [show (refsK ks).length = ks.length from List.length_map .., List.take_length] at hD5
    refine ⟨D, _, rfl, .inl (.of hD5), rfl, all_flat _, ?_⟩
    rw [inV_str, decide_eq_true hn]
    exact k _ (s4.trans s5)
  · refine iteB (fun e => absurd (V.int.inj (of_decide_eq_true e)) (fun z => by cases z)) (fun _ => ?_)
    refine ⟨_, rfl, t, _, rfl, .inr ht, rfl, _, rfl, ?_⟩
    refine iteB (fun _ => ?_) (fun e => absurd (of_decide_eq_false e) (fun z => z rfl))
    refine ⟨_, rfl, t, _, 0, .str "reach", rfl, rfl, ht, rfl, rfl, _, rfl, ?_⟩
    refine iteB (fun _ => ?_) (fun e => absurd (of_decide_eq_false e) (fun z => z rfl))
    obtain ⟨u, hu⟩ : ∃ u, SqB K u H3 e (([a, b, c, d] : List (Option Int)).map oV) := he3.elim (fun h => ⟨false, h⟩) (fun h => ⟨true, h⟩)
    have hS : ∀ H, SqB K true H T.t_SD (sides4.map V.str) := fun H => T.s_SD H
    have upB : ∀ {H' : Hp}, Same H3 H' → SqB K u H' e (([a, b, c, d] : List (Option Int)).map oV) := fun {H'} s => by
      cases u with
      | false => exact s.seq hu
      | true => exact s.seqT hu
    refine seq_cut (fun v H' => ∃ D, v = .ref D ∧ SqL K H' D ((sidesOf [a, b, c, d]).map V.str) ∧ Same H3 H') (fun Q q => ?_) ?_
    · refine ⟨_, rfl, T.t_SD, e, true, u, _, _, rfl, hS _, hu, fun D hD => ?_⟩
      refine lc_it (walk_zipM (K := K) (t := true) (u := u) (a := T.t_SD) (b := e) (xs := sides4.map V.str) (ys := ([a, b, c, d] : List (Option Int)).map oV) rfl) (fun i H' => Same H3 H' ∧ H' D = some (.lst (((((sides4.zip [a, b, c, d]).take i).filter fun p => p.2.isSome).map (·.1)).map V.str))) ⟨same_new hD, upd_same⟩ (fun i H' _ h => ⟨hS _, upB h.1⟩) ?_ ?_
      · rintro i x H4 H5 hi ⟨s5, hD5⟩ ⟨T1, x1, y1, rfl, hT1, rfl, hx, hy⟩
        have sT : Same H4 (upd H4 T1 (.tup [x1, y1])) := same_new hT1
        rw [List.getElem?_map] at hx hy
        obtain ⟨z, hz, rfl⟩ := Option.map_eq_some_iff.mp hx
        obtain ⟨eo, heo, rfl⟩ := Option.map_eq_some_iff.mp hy
        have hzip : (sides4.zip [a, b, c, d])[i]? = some (z, eo) := by rw [List.getElem?_zip_eq_some]; exact ⟨hz, heo⟩
        have hi : i < 4 := hi
        refine ⟨T1, _, rfl, .of upd_same, rfl, _, _, rfl, _, _, rfl, rfl, rfl, ?_⟩
        have nx : (((sides4.zip [a, b, c, d]).take (i + 1)).filter fun p => p.2.isSome).map (·.1) = (((sides4.zip [a, b, c, d]).take i).filter fun p => p.2.isSome).map (·.1) ++ (if eo.isSome = true then [z] else []) := by
          rw [List.take_add_one, hzip, List.filter_append, List.map_append]
          cases eo <;> rfl
        have hD6 := sT _ _ hD5
        refine ⟨_, rfl, rfl, _, rfl, ?_⟩
        cases eo with
        | none => 
          refine iteF ⟨s5.trans sT, ?_⟩
          rw [nx]
          simpa using hD6
        | some q0 =>
          refine iteT ⟨_, rfl, _, hD6, ?_, same_own (s5.trans sT) hD, ?_⟩
          · rw [List.length_map, List.length_map]
            exact szK (by
              have h1 := List.length_filter_le (fun p : Str × Option Int => p.2.isSome) ((sides4.zip [a, b, c, d]).take i)
              have h2 := List.length_take_le' i (sides4.zip [a, b, c, d])
              have h3 : (sides4.zip [a, b, c, d]).length = 4 := rfl
              omega)
          · rw [upd_same, nx, List.map_append]; rfl
      rintro H4 ⟨s5, hD5⟩
      exact q _ _ ⟨D, rfl, .of hD5, s5⟩
    rintro v H4 ⟨D, rfl, hD4, s5⟩
    refine ⟨_, rfl, t, _, 1, .str sd, rfl, rfl, s5.seqT ht, rfl, _, rfl, D, _, rfl, .inl hD4, rfl, all_flat _, _, rfl, ?_⟩
    rw [inV_str, decide_eq_true hsd]
    refine iteT ?_
    refine ⟨_, rfl, t, _, 2, .str n, rfl, rfl, s5.seqT ht, rfl, _, rfl, _, rfl, ⟨_, s5.seq hl3⟩, fun D2 hD2 => ?_⟩
    have hl4 := s5.seq hl3
    have hk4 := hk3.same s5
    refine lc_it (walk_list (K := K) (a := l) (xs := refsK ks)) (fun i H' => Same H4 H' ∧ H' D2 = some (.lst (((ks.take i).map (·.z)).map V.str))) ⟨same_new hD2, upd_same⟩ (fun i H' _ h => h.1.seq hl4) ?_ ?_
    · rintro i x H5 H6 hi ⟨s6, hD6⟩ ⟨rfl, hx⟩
      refine ⟨rfl, ?_⟩
      rw [List.getElem?_map] at hx
      obtain ⟨kd, hkd, rfl⟩ := Option.map_eq_some_iff.mp hx
      obtain ⟨dx, tl, tr, ls, g1, _⟩ := (hk4.same s6) kd (List.mem_of_getElem? hkd)
      have hi : i < ks.length := by have hi : i < (refsK ks).length := hi; rw [List.length_map] at hi; exact hi
      refine ⟨_, rfl, kd.a, _, dx, _, _, rfl, g1, T.cl_Kind, T.nF_Kind_name, rfl, _, hD6, ?_, same_own s6 hD2, ?_⟩
      · rw [List.length_map, List.length_map]
        exact szK (by have h2 := List.length_take_le' i ks; omega)
      · rw [upd_same, List.take_add_one, hkd, List.map_append, List.map_append]; rfl
    rintro H5 ⟨s6, hD6⟩
    rw [show (refsK ks).length = ks.length from List.length_map .., List.take_length] at hD6
    refine ⟨D2, _, rfl, .inl (.of hD6), rfl, all_flat _, ?_⟩
    rw [inV_str, decide_eq_true hn]
    exact k _ ((s4.trans s5).trans s6)
end
end K57

set_option Elab.async false
set_option linter.all false
set_option maxRecDepth 100000
set_option maxHeartbeats 8000000
namespace K57
open PySem PySem.Spec PyProof.Rows L2 Gs
open LamX (Tabs TabB TabS CodeO ExtN)
theorem pi_tupK {X : Cx} {K : PySem.W.Frag} {tg e : Expr} {te : TE} (eK : X.K = K) (h : PE X e te) : PI X tg e (iTup K te) := by
  subst eK; exact pi_tup h
section
variable {J : It} {n : Nat} {G : Hp → Prop} {Y : Nat → Hp → V → Hp → Prop}
/-- a comprehension of two clauses: the outer turns -/
theorem lc2_it (wk : Walk J n G Y) {g g1 : TG} {tt tt1 : TT} {wi1 : TI} {te : TE} {vs vs1 : List Nat} {σ : L2.St} {H1 : Hp} {D : Addr} {Qd : Hp → Prop} (Pv : Nat → Hp → Prop) (h0 : Pv 0 (upd H1 D (.lst []))) (hG : ∀ i H, i ≤ n → Pv i H → G H)
    (hs : ∀ i x H H', i < n → Pv i H → Y i H x H' → g x (wipe σ vs) H' fun σ2 H2 => wipe σ2 vs = wipe σ vs ∧ tt σ2 H2 fun b H3 =>
      if b = true then wi1 σ2 H3 fun J1 H4 => ∃ W1 : Nat → Nat → Hp → Prop, (∃ m, W1 0 m H4) ∧ ∀ j k H, W1 j k H →
        (J1.stop j H ∧ Pv (i + 1) H) ∨ (J1.go j H ∧ ∃ Nx1 : Hp → Prop, (∀ H', Nx1 H' → ∃ k', k' < k ∧ W1 (j + 1) k' H') ∧ ∀ x H', J1.yld j H x H' → g1 x (wipe σ2 vs1) H' fun σ3 H5 => wipe σ3 vs1 = wipe σ2 vs1 ∧ tt1 σ3 H5 fun b H6 =>
          if b = true then te σ3 H6 fun y H7 => ∃ acc, H7 D = some (.lst acc) ∧ acc.length < sizeLine ∧ Nx1 (upd H7 D (.lst (acc ++ [y]))) else Nx1 H6)
      else Pv (i + 1) H3) (hd : ∀ H, Pv n H → Qd H) :
    ∃ W : Nat → Nat → Hp → Prop, (∃ m, W 0 m (upd H1 D (.lst []))) ∧ ∀ i m H, W i m H →
  (J.stop i H ∧ Qd H) ∨ (J.go i H ∧ ∃ Nx : Hp → Prop, (∀ H', Nx H' → ∃ m', m' < m ∧ W (i + 1) m' H') ∧ ∀ x H', J.yld i H x H' → g x (wipe σ vs) H' fun σ2 H2 => wipe σ2 vs = wipe σ vs ∧ tt σ2 H2 fun b H3 =>
    if b = true then wi1 σ2 H3 fun J1 H4 => ∃ W1 : Nat → Nat → Hp → Prop, (∃ m, W1 0 m H4) ∧ ∀ j k H, W1 j k H →
      (J1.stop j H ∧ Nx H) ∨ (J1.go j H ∧ ∃ Nx1 : Hp → Prop, (∀ H', Nx1 H' → ∃ k', k' < k ∧ W1 (j + 1) k' H') ∧ ∀ x H', J1.yld j H x H' → g1 x (wipe σ2 vs1) H' fun σ3 H5 => wipe σ3 vs1 = wipe σ2 vs1 ∧ tt1 σ3 H5 fun b H6 =>
        if b = true then te σ3 H6 fun y H7 => ∃ acc, H7 D = some (.lst acc) ∧ acc.length < sizeLine ∧ Nx1 (upd H7 D (.lst (acc ++ [y]))) else Nx1 H6)
    else Nx H3) := by
  refine ⟨fun i m H => m = n - i ∧ i ≤ n ∧ Pv i H, ⟨n, (Nat.sub_zero n).symm, Nat.zero_le _, h0⟩, ?_⟩
  rintro i m H ⟨rfl, hi, p⟩
  have q := hG i H hi p
  by_cases lt : i < n
  · exact .inr ⟨wk.goes i H lt q, Pv (i + 1), fun H' p' => ⟨n - (i + 1), by omega, rfl, lt, p'⟩, fun x H' y => hs i x H H' lt p (wk.yields i H x H' lt q y)⟩
  · obtain rfl : i = n := by omega
    exact .inl ⟨wk.stops H q, hd H p⟩
/-- .. the inner turns -/
theorem in2_it (wk : Walk J n G Y) {g1 : TG} {tt1 : TT} {te : TE} {vs1 : List Nat} {σ2 : L2.St} {H4 : Hp} {D : Addr} {Qd : Hp → Prop} (P1 : Nat → Hp → Prop) (h0 : P1 0 H4) (hG : ∀ i H, i ≤ n → P1 i H → G H)
    (hs : ∀ i x H H', i < n → P1 i H → Y i H x H' → g1 x (wipe σ2 vs1) H' fun σ3 H5 => wipe σ3 vs1 = wipe σ2 vs1 ∧ tt1 σ3 H5 fun b H6 =>
      if b = true then te σ3 H6 fun y H7 => ∃ acc, H7 D = some (.lst acc) ∧ acc.length < sizeLine ∧ P1 (i + 1) (upd H7 D (.lst (acc ++ [y]))) else P1 (i + 1) H6) (hd : ∀ H, P1 n H → Qd H) :
    ∃ W1 : Nat → Nat → Hp → Prop, (∃ m, W1 0 m H4) ∧ ∀ j k H, W1 j k H →
      (J.stop j H ∧ Qd H) ∨ (J.go j H ∧ ∃ Nx1 : Hp → Prop, (∀ H', Nx1 H' → ∃ k', k' < k ∧ W1 (j + 1) k' H') ∧ ∀ x H', J.yld j H x H' → g1 x (wipe σ2 vs1) H' fun σ3 H5 => wipe σ3 vs1 = wipe σ2 vs1 ∧ tt1 σ3 H5 fun b H6 =>
        if b = true then te σ3 H6 fun y H7 => ∃ acc, H7 D = some (.lst acc) ∧ acc.length < sizeLine ∧ Nx1 (upd H7 D (.lst (acc ++ [y]))) else Nx1 H6) := by
  refine ⟨fun i m H => m = n - i ∧ i ≤ n ∧ P1 i H, ⟨n, (Nat.sub_zero n).symm, Nat.zero_le _, h0⟩, ?_⟩
  rintro i m H ⟨rfl, hi, p⟩
  have q := hG i H hi p
  by_cases lt : i < n
  · exact .inr ⟨wk.goes i H lt q, P1 (i + 1), fun H' p' => ⟨n - (i + 1), by omega, rfl, lt, p'⟩, fun x H' y => hs i x H H' lt p (wk.yields i H x H' lt q y)⟩
  · obtain rfl : i = n := by omega
    exact .inl ⟨wk.stops H q, hd H p⟩
end
section
variable {P : Program} {w : World} {K : PySem.W.Frag} {mg : Str → Option Value} {base : Heap} {CX : CXT} {k : Nat} {f : Addr} {fd : FuncData} {ps : List Str} {sp : Sp}
/-- a def with defaults; its code object is told -/
theorem funD_okC {x qual : Str} {params : Arguments} {body : List Stmt} {scope : Scope} {dvs : List V} {kws : List (Str × V)} {N : List Str} (F : FunD K x qual params body scope dvs kws f fd) (S : FnScope N ps scope)
    (len : ∀ vs H Q E, sp vs H Q E → vs.length = ps.length)
    (hb : ∀ (cdv : Value), fd.code = cdv → ∀ (A : Around) (outer : List Env) (s : Shared) (H : Hp) (vs : List V) (Q : VK) (E : XK), Room k (A.deeper (envOfC qual scope s.heap.objs.size f cdv)) → sp vs H Q E →
      ∃ t, PSs (cxOf CX P w K mg base N qual scope f cdv A outer s H E) body t ∧ t { nx := fun _ H' => Q .non H', rt := Q } (L2.start N vs) H) : FnOk P w K mg base CX (k + 1) f fd ps sp := by
  obtain ⟨oc, od, dV, kV, doc, pm, an, cdv, ct, osl, rfl, lk, hcd, _, _⟩ := F.ex
  exact fn_of lk hcd S len fun A outer s H vs Q E hr hsp => hb cdv rfl A outer s H vs Q E hr hsp
end
section
variable {P : Program} {w : World} {K : PySem.W.Frag} {mg : Str → Option Value} {base : Heap}
/-- everything but the bag and the tables stays -/
def ExtNc (c : Addr) (H H' : Hp) : Prop := ∀ b o, b ≠ c → H b = some o → (∀ ps, o ≠ .tbl ps) → H' b = some o
theorem ExtNc.of {c : Addr} {H H' : Hp} (s : Same H H') : ExtNc c H H' := fun b o _ e _ => s b o e
theorem ExtNc.trans {c : Addr} {H H1 H2 : Hp} (a : ExtNc c H H1) (b : ExtNc c H1 H2) : ExtNc c H H2 := fun d o n h q => b d o n (a d o n h q) q
theorem ExtNc.put {x : Addr} {H : Hp} {o : HO} : ExtNc x H (upd H x o) := fun b u n h _ => by rw [upd_ne n]; exact h
theorem ExtNc.tab {x : Addr} {H H' : Hp} (e : ExtN H H') : ExtNc x H H' := fun b o _ h q => e b o h q
section
variable {x dx C : Addr} {fs : List (Str × V)} {H H' : Hp}
theorem ExtNc.sqL {a : Addr} {xs : List V} (e : ExtNc x H H') (hx : H x = some (.ins C dx fs)) (h : SqL K H a xs) : SqL K H' a xs := by
  rcases h with (h | ⟨q, h⟩) | h
  · exact .inl (.inl (e _ _ (fun z => by rw [z, hx] at h; cases h) h fun _ z => nomatch z))
  · exact .inl (.inr ⟨q, e _ _ (fun z => by rw [z, hx] at h; cases h) h fun _ z => nomatch z⟩)
  · exact .inr h
theorem ExtNc.sqT {a : Addr} {xs : List V} (e : ExtNc x H H') (hx : H x = some (.ins C dx fs)) (h : SqT K H a xs) : SqT K H' a xs := by
  rcases h with (h | ⟨q, h⟩) | h
  · exact .inl (.inl (e _ _ (fun z => by rw [z, hx] at h; cases h) h fun _ z => nomatch z))
  · exact .inl (.inr ⟨q, e _ _ (fun z => by rw [z, hx] at h; cases h) h fun _ z => nomatch z⟩)
  · exact .inr h
theorem ExtNc.seq {a : Addr} {xs : List V} (e : ExtNc x H H') (hx : H x = some (.ins C dx fs)) (h : Seq K H a xs) : Seq K H' a xs := h.imp (e.sqL hx) (e.sqT hx)
theorem ExtNc.kind {CK k : Addr} {z : Str} {ps : List (Int × Int)} {rs : List Str} {q : Bool} (e : ExtNc x H H') (hx : H x = some (.ins C dx [])) (h : KindAt K CK H k z ps rs q) : KindAt K CK H' k z ps rs q := by
  obtain ⟨d2, tl, tr, ls, h1, h2, h3, h4, h5⟩ := h
  exact ⟨d2, tl, tr, ls, e _ _ (fun z => by rw [z, hx] at h1; cases h1) h1 (fun _ z => nomatch z), e.sqT hx h2, fun p hp => e.sqT hx (h3 p hp), h4, e.sqT hx h5⟩
theorem ExtNc.kinds {CK : Addr} {ks : List KdT} (e : ExtNc x H H') (hx : H x = some (.ins C dx [])) (h : KAs K CK H ks) : KAs K CK H' ks := fun k hk => e.kind hx (h k hk)
theorem tabs_same {TT : List (Addr × Str)} (s : Same H H') (h : Tabs TT H) : Tabs TT H' := fun p hp => by
  obtain ⟨ps, a1, a2, a3⟩ := h p hp
  exact ⟨ps, s _ _ a1, a2, fun p' cv hc => by obtain ⟨c0, e1, e2⟩ := a3 p' cv hc; exact ⟨c0, e1, s _ _ e2⟩⟩
theorem tabs_put {TT : List (Addr × Str)} {o : HO} (hx : H x = some (.ins C dx fs)) (h : Tabs TT H) : Tabs TT (upd H x o) := fun p hp => by
  obtain ⟨ps, a1, a2, a3⟩ := h p hp
  refine ⟨ps, by rw [upd_ne (fun z => by rw [z, hx] at a1; cases a1)]; exact a1, a2, fun p' cv hc => ?_⟩
  obtain ⟨c0, e1, e2⟩ := a3 p' cv hc
  exact ⟨c0, e1, by rw [upd_ne (fun z => by rw [z, hx] at e2; cases e2)]; exact e2⟩
end
theorem tup_fld {i j : Nat} {l : Addr} {xs : List V} {f : Str} {r : TS} {D : Ends} {σ : L2.St} {H : Hp} (hv : σ[i]? = some (some (.ref l))) (hs : Seq K H l xs)
    (h : ∀ t H', SqT K H' t xs → Same H H' → tSeq (sFld K (tVar j) (tC (.ref t)) f) r D σ H') : tSeq (sFld K (tVar j) (tCB (rTupOf K) (tCons (tVar i) tNil)) f) r D σ H := by
  rcases hs with hs | hs
  · exact ⟨_, hv, l, _, rfl, .inl ⟨hs, fun t ht => h t _ (.of upd_same) (same_new ht)⟩⟩
  · exact ⟨_, hv, l, _, rfl, .inr ⟨hs, h l H hs (Same.refl H)⟩⟩
def abI (a : Int) : Int := if a < 0 then -a else a
def mxI (p : Int × Int) : Int := if abI p.2 > abI p.1 then abI p.2 else abI p.1
def nsOf (k : KdT) : List Int := k.ps.map mxI
theorem mx_spec (p : Int × Int) : (mxI p = (p.1.natAbs : Int) ∨ mxI p = (p.2.natAbs : Int)) ∧ (p.1.natAbs : Int) ≤ mxI p ∧ (p.2.natAbs : Int) ≤ mxI p := by
  unfold mxI abI
  refine ⟨?_, ?_, ?_⟩ <;> (repeat' split) <;> omega
theorem flat_len : ∀ {ks : List KdT}, (∀ k ∈ ks, k.ps.length ≤ 62) → (ks.flatMap nsOf).length ≤ 62 * ks.length
  | [], _ => Nat.le_refl _
  | k :: ks, h => by
    have ih := flat_len (ks := ks) fun q hq => h q (List.mem_cons_of_mem _ hq)
    have h1 := h k List.mem_cons_self
    have h2 : (nsOf k).length = k.ps.length := List.length_map ..
    rw [List.flatMap_cons, List.length_append, List.length_cons]
    omega
abbrev gQ : Str := ("Game.__init__.<locals>." : Str) ++ "<lambda>"
/-- the greatest number of a leap of these kinds, 1 at least -/
def IsFar (n : Int) (ks : List KdT) : Prop := 1 ≤ n ∧ (n = 1 ∨ ∃ k ∈ ks, ∃ p ∈ k.ps, n = (p.1.natAbs : Int) ∨ n = (p.2.natAbs : Int)) ∧ ∀ k ∈ ks, ∀ p ∈ k.ps, (p.1.natAbs : Int) ≤ n ∧ (p.2.natAbs : Int) ≤ n
def gmF (tk te tg tt : Addr) (n : Int) : List (Str × V) := [("kinds", .ref tk), ("edges", .ref te), ("goal", .ref tg), ("table", .ref tt), ("farthest", .int n)]
/-- kinds by their names, ascending -/
def sortKd (ks : List KdT) : List KdT := ks.mergeSort (PySem.W.dataLe false fun k => PyData.str k.z)
theorem sortKd_map (ks : List KdT) : sortF (ks.map fun k => (k.a, k.z)) = (sortKd ks).map fun k => (k.a, k.z) := by
  unfold sortF sortKd
  exact (List.map_mergeSort (f := fun k : KdT => (k.a, k.z)) (r := PySem.W.dataLe false fun k : KdT => PyData.str k.z) (l := ks) (fun _ _ _ _ => rfl)).symm
theorem sortKd_perm (ks : List KdT) : (sortKd ks).Perm ks := List.mergeSort_perm _ _
theorem sortKd_refs (ks : List KdT) : (sortF (ks.map fun k => (k.a, k.z))).map (fun b => V.ref b.1) = refsK (sortKd ks) := by
  rw [sortKd_map, List.map_map]; rfl
def tabOf (ks : List KdT) : List (Key × V) := ks.map fun k => (.inr k.z, .ref k.a)
theorem tabOf_val : ∀ {ks : List KdT} {k : KdT}, (ks.map (·.z)).Nodup → k ∈ ks → valV (tabOf ks) (.inr k.z) = some (.ref k.a)
  | q :: ks, k, nd, h => by
    obtain ⟨n1, n2⟩ := List.nodup_cons.mp nd
    rcases List.mem_cons.mp h with rfl | h
    · exact valV_pos rfl
    · refine (valV_neg (p := ((.inr q.z : Key), V.ref q.a)) fun e => n1 ?_).trans (tabOf_val n2 h)
      have e : q.z = k.z := Sum.inr.inj e
      show q.z ∈ _
      rw [e]; exact List.mem_map_of_mem h
theorem tabOf_none : ∀ {ks : List KdT} {z : Str}, z ∉ ks.map (·.z) → valV (tabOf ks) (.inr z) = none
  | [], _, _ => rfl
  | q :: ks, z, h => by
    refine (valV_neg (p := ((.inr q.z : Key), V.ref q.a)) fun e => h ?_).trans (tabOf_none fun m => h (List.mem_cons_of_mem _ m))
    have e : q.z = z := Sum.inr.inj e
    rw [← e]; exact List.mem_cons_self
/-- at g a game: its kinds, edges, goal, the longest number of a leap -/
def GameAt (K : PySem.W.Frag) (CK CG : Addr) (H : Hp) (g : Addr) (ks : List KdT) (a b c d : Option Int) (ws : List Str) (n : Int) : Prop := ∃ dx tk te tg tt, H g = some (.ins CG dx (gmF tk te tg tt n)) ∧ SqT K H tk (refsK (sortKd ks)) ∧
  SqT K H te [oV a, oV b, oV c, oV d] ∧ SqT K H tg (ws.map V.str) ∧ H tt = some (.dK (tabOf (sortKd ks))) ∧ KAs K CK H ks
theorem GameAt.same {CK CG : Addr} {H H' : Hp} {g : Addr} {ks : List KdT} {a b c d : Option Int} {ws : List Str} {n : Int} (h : GameAt K CK CG H g ks a b c d ws n) (s : Same H H') : GameAt K CK CG H' g ks a b c d ws n := by
  obtain ⟨dx, tk, te, tg, tt, h1, h2, h3, h4, h5, h6⟩ := h
  exact ⟨dx, tk, te, tg, tt, s _ _ h1, s.seqT h2, s.seqT h3, s.seqT h4, s _ _ h5, h6.same s⟩
def spGame (K : PySem.W.Frag) (CK CG : Addr) (TT : List (Addr × Str)) : Sp := fun vs H Q _ => ∃ (x dx l e g : Addr) (ks : List KdT) (a b c d : Option Int) (ws : List Str), vs = [.ref x, .ref l, .ref e, .ref g] ∧ H x = some (.ins CG dx []) ∧
  SqL K H l (refsK ks) ∧ KAs K CK H ks ∧ 1 ≤ ks.length ∧ ks.length ≤ 8 ∧ (∀ k ∈ ks, k.ps.length ≤ 62) ∧ (ks.map (·.z)).Nodup ∧ Seq K H e [oV a, oV b, oV c, oV d] ∧ leO a b = true ∧ leO c d = true ∧ Seq K H g (ws.map V.str) ∧ GoalIs ks [a, b, c, d] ws ∧ Tabs TT H ∧
  ∀ n H', ExtNc x H H' → Tabs TT H' → GameAt K CK CG H' x ks a b c d ws n → IsFar n ks → Q .non H'
theorem O_Game___init__ (T : Tx K mg w) {ccG PG : Addr} {TT : List (Addr × Str)} (TB : TabB base mg ccG PG) (hcc : T.d_Game___init__.code = .ref ccG) (hmT : (PG, gQ) ∈ TT) (hu : ∀ p ∈ TT, p.1 = PG → p.2 = gQ) :
    FnOk P w K mg base (L2.CX P w) 9 T.a_Game___init__ T.d_Game___init__ ["self", "kinds", "edges", "goal"] (spGame K T.c_Kind T.c_Game TT) := by
  refine funD_okC T.F_Game___init__ sc_Game___init__ (fun vs H Q E h => ?_) (fun cdv hcd A outer s H vs Q E hr h => ?_)
  · obtain ⟨x, dx, l, e, g, ks, a, b, c, d, ws, rfl, _⟩ := h; rfl
  obtain ⟨x, dx, l, e, g, ks, a, b, c, d, ws, rfl, hx, hl, hk, z1, z8, z62, nd, he, hab, hcd2, hg, gi, ht, k⟩ := h
  have hcode : cdv = .ref ccG := hcd.symm.trans hcc
  refine ⟨_, (pss_cons (ps_if (pt_not (pt_val (pe_call (O_are_kinds T) (hr.mono (by decide)) (by rfl) T.m_are_kinds T.F_are_kinds.kp T.b_are_kinds .nil pass0 (pa_cons (pv 1) pa_nil)))) (pss_one (ps_raise rfl (takes_of rfl rfl rfl rfl) (pmk_oex T.ox_BadGame T.ic_BadGame T.ti_BadGame (O_BadGame___init__ T) (hr.mono (by decide)) T.b_BadGame___init__ .nil pass0 (by rfl) T.m_BadGame (pa_cons pe_str pa_nil)))) pss_nil)
      (pss_cons (ps_if (pt_not (pt_val (pe_call (O_are_edges T) (hr.mono (by decide)) (by rfl) T.m_are_edges T.F_are_edges.kp T.b_are_edges .nil pass0 (pa_cons (pv 2) pa_nil)))) (pss_one (ps_raise rfl (takes_of rfl rfl rfl rfl) (pmk_oex T.ox_BadGame T.ic_BadGame T.ti_BadGame (O_BadGame___init__ T) (hr.mono (by decide)) T.b_BadGame___init__ .nil pass0 (by rfl) T.m_BadGame (pa_cons pe_str pa_nil)))) pss_nil)
      (pss_cons (ps_if (pt_not (pt_val (pe_call (O_is_goal T) (hr.mono (by decide)) (by rfl) T.m_is_goal T.F_is_goal.kp T.b_is_goal .nil pass0 (pa_cons (pv 1) (pa_cons (pv 2) (pa_cons (pv 3) pa_nil)))))) (pss_one (ps_raise rfl (takes_of rfl rfl rfl rfl) (pmk_oex T.ox_BadGame T.ic_BadGame T.ti_BadGame (O_BadGame___init__ T) (hr.mono (by decide)) T.b_BadGame___init__ .nil pass0 (by rfl) T.m_BadGame (pa_cons pe_str pa_nil)))) pss_nil)
      (pss_cons (ps_fld (pv 0) (pe_callTy (T := "tuple") (r := rTupOf K) call_tuple_of (by rfl) T.z_tuple (by decide +kernel) (pa_cons (pe_callBK (cr_sortF (q := gQ) (p := "kind") (fld := "name") (params := { posonlyargs := [], args := [{ arg := "kind", annotation := none, pos := ⟨245, 52, 245, 56⟩ }], vararg := none, kwonlyargs := [], kw_defaults := [], kwarg := none, defaults := [] }) (q1 := ⟨245, 58, 245, 62⟩) (q2 := ⟨245, 58, 245, 67⟩) (scope := { kind := .function, names := [("kind", .local)], isGenerator := false, isCoroutine := false, more := [] }) (hr.mono (by decide)) ⟨rfl, rfl, rfl, by decide, rfl, fun _ _ _ _ _ => rfl, by decide⟩) (by rfl) T.z_sorted (by decide +kernel) (pa_cons (pv 1) pa_nil) (pk_cons (pe_lamV (T := TT) (P := PG) rfl TB hcode hmT hu (by rfl) (by decide)) pk_nil)) pa_nil)) rfl)
      (pss_cons (ps_fld (pv 0) (pe_callTy (T := "tuple") (r := rTupOf K) call_tuple_of (by rfl) T.z_tuple (by decide +kernel) (pa_cons (pv 2) pa_nil)) rfl)
      (pss_cons (ps_fld (pv 0) (pe_callTy (T := "tuple") (r := rTupOf K) call_tuple_of (by rfl) T.z_tuple (by decide +kernel) (pa_cons (pv 3) pa_nil)) rfl)
      (pss_cons (ps_fld (pv 0) (pe_dc (own := [("kind", 4)]) (g := gName 4) rfl sc_Game___init__.nd (pi_tup (pe_fldK (K := K) rfl (pv 0))) (blkOk_by (N := n_Game___init__) (sc := defScope s_Game___init__) (by decide +kernel)) (fun _ _ _ _ _ => (pg_name (i := 4) sc_Game___init__.nd rfl (Or.inl rfl))) (fun _ _ _ _ _ => pts_nil) (fun _ _ _ _ _ => (pe_fldK (K := K) rfl (pv 4))) (fun _ _ _ _ _ => (pv 4))) rfl)
      (pss_one (ps_fld (pv 0) (pe_callB (r := rMax K) (cr_max rfl) (by rfl) T.z_max (by decide +kernel) (pa_cons (pe_op op_cat (pe_lst (pa_cons pe_int pa_nil)) (pe_lc2 (own := [("kind", 4), ("across", 5), ("up", 6)]) (vs1 := [5, 6]) (g := gName 4) (g1 := gTup K 2 (gCons (gName 5) (gCons (gName 6) gNil))) rfl sc_Game___init__.nd (pi_list (pv 1)) (blkOk_by (N := n_Game___init__) (sc := defScope s_Game___init__) (by decide +kernel)) (by decide) (fun _ _ _ _ _ => (pg_name (i := 4) sc_Game___init__.nd rfl (Or.inl rfl))) (fun _ _ _ _ _ => pts_nil) (fun _ _ _ _ _ => (pi_tupK (K := K) rfl (pe_fldK (K := K) rfl (pv 4)))) (fun _ _ _ _ _ => (pg_tup rfl (pgs_cons (pg_name (i := 5) sc_Game___init__.nd rfl (Or.inl rfl)) (pgs_cons (pg_name (i := 6) sc_Game___init__.nd rfl (Or.inl rfl)) pgs_nil)))) (fun _ _ _ _ _ => pts_nil) (fun _ _ _ _ _ => (pe_callB (call_max2 rfl) (by rfl) T.z_max (by decide +kernel) (pa_cons (pe_callB call_abs (by rfl) T.z_abs (by decide +kernel) (pa_cons (pv 5) pa_nil)) (pa_cons (pe_callB call_abs (by rfl) T.z_abs (by decide +kernel) (pa_cons (pv 6) pa_nil)) pa_nil)))))) pa_nil)) rfl))))))))), ?_⟩
  refine ⟨_, rfl, l, ks, rfl, hl, hk, z1, z8, nd, fun H1 s1 => ⟨_, rfl, iteF ?_⟩⟩
  refine ⟨_, rfl, e, a, b, c, d, rfl, he.imp s1.seq s1.seqT, fun H2 t2 => ⟨_, rfl, ?_⟩⟩
  rw [hab, hcd2]
  refine iteF ?_
  have s2 := s1.trans t2
  clear t2 s1
  refine ⟨_, rfl, _, rfl, _, rfl, l, e, g, ks, a, b, c, d, ws, rfl, s2.seq hl, hk.same s2, z8, he.imp s2.seq s2.seqT, hg.imp s2.seq s2.seqT, gi, fun H3 t3 => ⟨_, rfl, iteF ?_⟩⟩
  have s3 := s2.trans t3
  clear t3 s2
  -- self.kinds
  refine ⟨_, rfl, tabs_same s3 ht, fun f c' H4 eN t4 hfn hc => ?_⟩
  have e4 : ExtNc x H H4 := (ExtNc.of s3).trans (.tab eN)
  have sfo : ∀ o, Same H4 (upd H4 f o) := fun o => same_new hfn
  refine ⟨l, f, c', ks.map (fun k => (k.a, k.z)), rfl, rfl, ?_, ?_, upd_same, sfo _ _ _ hc, fun P0 hP0 => ?_⟩
  · rw [List.map_map]
    exact (sfo _).seq (e4.sqL hx hl)
  · intro b hb
    obtain ⟨kd, hkd, rfl⟩ := List.mem_map.mp hb
    obtain ⟨d2, tl, tr, ls, g1, _⟩ := e4.kinds hx hk kd hkd
    exact ⟨T.c_Kind, d2, _, sfo _ _ _ g1, T.cl_Kind, T.nF_Kind_name, rfl⟩
  refine ⟨P0, _, rfl, .inl ⟨.of upd_same, fun tk htk => ?_⟩⟩
  have h4x : H4 x = some (.ins T.c_Game dx []) := eN _ _ (s3 _ _ hx) (fun _ z => nomatch z)
  generalize e7 : upd _ tk _ = H7
  have s7 : Same H4 H7 := by rw [← e7]; exact (sfo _).trans ((same_new hP0).trans (same_new htk))
  have htk7 : SqT K H7 tk ((sortF (ks.map fun k => (k.a, k.z))).map fun b => .ref b.1) := by rw [← e7]; exact .of upd_same
  have t7 : Tabs TT H7 := tabs_same s7 t4
  have e7' : ExtNc x H H7 := e4.trans (.of s7)
  have h7x : H7 x = some (.ins T.c_Game dx []) := s7 _ _ h4x
  clear e7 htk hP0 hc hfn sfo s7 h4x t4 e4 eN s3
  refine ⟨_, rfl, x, _, dx, _, rfl, h7x, T.cl_Game, T.nF_Game_kinds, Nat.le_of_ble_eq_true rfl, ?_⟩
  have e8 : ExtNc x H (upd H7 x (.ins T.c_Game dx [("kinds", .ref tk)])) := e7'.trans .put
  have t8 := tabs_put (o := .ins T.c_Game dx [("kinds", .ref tk)]) h7x t7
  have i8 : ExtI H7 (upd H7 x (.ins T.c_Game dx [("kinds", .ref tk)])) := ExtI.put h7x
  have h8x : upd H7 x (.ins T.c_Game dx [("kinds", .ref tk)]) x = some (.ins T.c_Game dx [("kinds", .ref tk)]) := upd_same
  change tSeq _ _ _ _ (upd H7 x (.ins T.c_Game dx [("kinds", .ref tk)]))
  generalize upd H7 x (.ins T.c_Game dx [("kinds", .ref tk)]) = H8 at e8 t8 i8 h8x ⊢
  have htk8 := i8.sqT htk7
  clear htk7 i8 h7x e7' t7
  -- self.edges
  refine tup_fld rfl (e8.seq hx he) fun te H9 hte s9 => ?_
  have h9x := s9 _ _ h8x
  refine ⟨_, rfl, x, _, dx, _, rfl, h9x, T.cl_Game, T.nF_Game_edges, Nat.le_of_ble_eq_true rfl, ?_⟩
  have e10 : ExtNc x H (upd H9 x (.ins T.c_Game dx [("kinds", .ref tk), ("edges", .ref te)])) := (e8.trans (.of s9)).trans .put
  have t10 := tabs_put (o := .ins T.c_Game dx [("kinds", .ref tk), ("edges", .ref te)]) h9x (tabs_same s9 t8)
  have i10 : ExtI H9 (upd H9 x (.ins T.c_Game dx [("kinds", .ref tk), ("edges", .ref te)])) := ExtI.put h9x
  have h10x : upd H9 x (.ins T.c_Game dx [("kinds", .ref tk), ("edges", .ref te)]) x = some (.ins T.c_Game dx [("kinds", .ref tk), ("edges", .ref te)]) := upd_same
  change tSeq _ _ _ _ (upd H9 x (.ins T.c_Game dx [("kinds", .ref tk), ("edges", .ref te)]))
  generalize upd H9 x (.ins T.c_Game dx [("kinds", .ref tk), ("edges", .ref te)]) = H10 at e10 t10 i10 h10x ⊢
  have htk10 := i10.sqT (s9.seqT htk8)
  have hte10 := i10.sqT hte
  clear htk8 hte i10 h9x e8 t8 s9 h8x
  -- self.goal
  refine tup_fld rfl (e10.seq hx hg) fun tg H11 htg s11 => ?_
  have h11x := s11 _ _ h10x
  refine ⟨_, rfl, x, _, dx, _, rfl, h11x, T.cl_Game, T.nF_Game_goal, Nat.le_of_ble_eq_true rfl, ?_⟩
  have e12 : ExtNc x H (upd H11 x (.ins T.c_Game dx [("kinds", .ref tk), ("edges", .ref te), ("goal", .ref tg)])) := (e10.trans (.of s11)).trans .put
  have t12 := tabs_put (o := .ins T.c_Game dx [("kinds", .ref tk), ("edges", .ref te), ("goal", .ref tg)]) h11x (tabs_same s11 t10)
  have i12 : ExtI H11 (upd H11 x (.ins T.c_Game dx [("kinds", .ref tk), ("edges", .ref te), ("goal", .ref tg)])) := ExtI.put h11x
  have h12x : upd H11 x (.ins T.c_Game dx [("kinds", .ref tk), ("edges", .ref te), ("goal", .ref tg)]) x = some (.ins T.c_Game dx [("kinds", .ref tk), ("edges", .ref te), ("goal", .ref tg)]) := upd_same
  change tSeq _ _ _ _ (upd H11 x (.ins T.c_Game dx [("kinds", .ref tk), ("edges", .ref te), ("goal", .ref tg)]))
  generalize upd H11 x (.ins T.c_Game dx [("kinds", .ref tk), ("edges", .ref te), ("goal", .ref tg)]) = H12 at e12 t12 i12 h12x ⊢
  have htk12 := i12.sqT (s11.seqT htk10)
  have hte12 := i12.sqT (s11.seqT hte10)
  have htg12 := i12.sqT htg
  clear htk10 hte10 htg i12 h11x e10 t10 s11 h10x
  have hk12 : KAs K T.c_Kind H12 ks := e12.kinds hx hk
  -- self.table
  rw [sortKd_refs] at htk12
  have nds : ((sortKd ks).map (·.z)).Nodup := ((sortKd_perm ks).map (·.z)).nodup_iff.mpr nd
  have lens : (sortKd ks).length = ks.length := (sortKd_perm ks).length_eq
  refine ⟨_, rfl, x, _, dx, _, _, rfl, h12x, T.cl_Game, T.nF_Game_kinds, rfl, tk, rfl, ⟨_, htk12⟩, fun D hD => ?_⟩
  refine dc_tup (xs := refsK (sortKd ks)) (fun i H' => Same H12 H' ∧ H' D = some (.dK (tabOf ((sortKd ks).take i)))) ⟨same_new hD, upd_same⟩ (fun i H' _ h => h.1.seqT htk12) ?_ ?_
  · rintro i v H13 hv ⟨s13, hkv⟩
    rw [List.getElem?_map] at hv
    obtain ⟨kd, hp, rfl⟩ := Option.map_eq_some_iff.mp hv
    have hkd : kd ∈ ks := (sortKd_perm ks).mem_iff.mp (List.mem_of_getElem? hp)
    obtain ⟨d2, tl, tr, ls, g1, _⟩ := (hk12.same s13) kd hkd
    have hi : i < ks.length := by rw [← lens]; exact (List.getElem?_eq_some_iff.mp hp).1
    refine ⟨rfl, ?_⟩
    have few : (tabOf ((sortKd ks).take i)).length ≤ i := by unfold tabOf; rw [List.length_map]; exact List.length_take_le ..
    refine ⟨_, rfl, kd.a, _, d2, _, _, rfl, g1, T.cl_Kind, T.nF_Kind_name, rfl, _, rfl, _, .inr kd.z, rfl, hkv, szK (by omega), same_own s13 hD, ?_⟩
    have no : kd.z ∉ ((sortKd ks).take i).map (·.z) := fun m => by
      rw [List.map_take] at m
      obtain ⟨j, hj, ej⟩ := List.mem_iff_getElem.mp m
      rw [List.getElem_take] at ej
      have hj2 : j < i := by rw [List.length_take] at hj; omega
      have e2 : ((sortKd ks).map (·.z))[i]? = some kd.z := by rw [List.getElem?_map, hp]; rfl
      obtain ⟨hi3, e3⟩ := List.getElem?_eq_some_iff.mp e2
      exact absurd (ej.trans e3.symm) (List.pairwise_iff_getElem.mp nds j i (Nat.lt_trans hj2 hi3) hi3 hj2)
    rw [upd_same, putK_new _ (tabOf_none no), List.take_add_one, hp]
    unfold tabOf
    rw [List.map_append]; rfl
  rintro H13 ⟨s13, hkv⟩
  rw [show (refsK (sortKd ks)).length = (sortKd ks).length from List.length_map .., List.take_length] at hkv
  have h13x := s13 _ _ h12x
  refine ⟨_, rfl, x, _, dx, _, rfl, h13x, T.cl_Game, T.nF_Game_table, Nat.le_of_ble_eq_true rfl, ?_⟩
  have nDx : D ≠ x := fun z => by rw [z, h12x] at hD; cases hD
  generalize e13 : upd H13 x _ = H14
  have e14 : ExtNc x H H14 := by rw [← e13]; exact (e12.trans (.of s13)).trans .put
  have t14 : Tabs TT H14 := by rw [← e13]; exact tabs_put h13x (tabs_same s13 t12)
  have i14 : ExtI H13 H14 := by rw [← e13]; exact ExtI.put h13x
  have h14x : H14 x = some (.ins T.c_Game dx [("kinds", .ref tk), ("edges", .ref te), ("goal", .ref tg), ("table", .ref D)]) := by rw [← e13]; exact upd_same
  have hkv14 : H14 D = some (.dK (tabOf (sortKd ks))) := by rw [← e13, upd_ne nDx]; exact hkv
  have htk14 := i14.sqT (s13.seqT htk12)
  have hte14 := i14.sqT (s13.seqT hte12)
  have htg14 := i14.sqT (s13.seqT htg12)
  clear e13 htk12 hte12 htg12 i14 h13x e12 t12 s13 h12x hk12 hkv hD
  have hk14 : KAs K T.c_Kind H14 ks := e14.kinds hx hk
  -- self.farthest
  refine ⟨szl rfl, fun p1 hp1 => ?_⟩
  have sp1 : Same H14 (upd H14 p1 (.lst [.int 1])) := same_new hp1
  have hp1' : upd H14 p1 (.lst [.int 1]) p1 = some (.lst [.int 1]) := upd_same
  generalize upd H14 p1 (.lst [V.int 1]) = H15 at sp1 hp1' ⊢
  have hk15 := hk14.same sp1
  have hl15 := sp1.seq (e14.sqL hx hl)
  refine ⟨_, rfl, l, rfl, ⟨_, hl15⟩, fun D2 hD2 => ?_⟩
  refine lc2_it (walk_list (K := K) (a := l) (xs := refsK ks)) (fun i H' => Same H15 H' ∧ H' D2 = some (.lst (((ks.take i).flatMap nsOf).map V.int))) ⟨same_new hD2, upd_same⟩ (fun i H' _ h => h.1.seq hl15) ?_ ?_
  · rintro i v H16 H17 hi ⟨s16, hD16⟩ ⟨rfl, hv⟩
    rw [List.getElem?_map] at hv
    obtain ⟨kd, hkd, rfl⟩ := Option.map_eq_some_iff.mp hv
    obtain ⟨d2, tl, tr, ls, g1, g2, g3, g4, _⟩ := hk15 kd (List.mem_of_getElem? hkd)
    have hi : i < ks.length := (List.getElem?_eq_some_iff.mp hkd).1
    have hkl := z62 kd (List.mem_of_getElem? hkd)
    have hll : ls.length = kd.ps.length := by rw [← g4, List.length_map]
    have hfl : ((ks.take i).flatMap nsOf).length ≤ 62 * 8 := by
      have h1 := flat_len (ks := ks.take i) fun k hk => z62 k (List.mem_of_mem_take hk)
      have h2 := List.length_take_le' i ks
      have h3 : (ks.take i).length ≤ i := List.length_take_le ..
      omega
    refine ⟨rfl, ?_⟩
    refine ⟨_, rfl, kd.a, _, d2, _, _, rfl, s16 _ _ g1, T.cl_Kind, T.nF_Kind_leaps, rfl, tl, rfl, ⟨_, s16.seqT g2⟩, ?_⟩
    refine in2_it (walk_tup (K := K) (a := tl) (xs := ls.map fun p => V.ref p.1)) (fun j H' => Same H15 H' ∧ H' D2 = some (.lst (((ks.take i).flatMap nsOf ++ (kd.ps.take j).map mxI).map V.int))) ⟨s16, by rw [List.take_zero]; simpa using hD16⟩ (fun j H' _ h => h.1.seqT g2) ?_ ?_
    · rintro j v H18 H19 hj ⟨s18, hD18⟩ ⟨rfl, hv⟩
      rw [List.getElem?_map] at hv
      obtain ⟨lp, hlp, rfl⟩ := Option.map_eq_some_iff.mp hv
      have hps : kd.ps[j]? = some lp.2 := by rw [← g4, List.getElem?_map, hlp]; rfl
      have hj : j < kd.ps.length := (List.getElem?_eq_some_iff.mp hps).1
      refine ⟨lp.1, _, rfl, s18.seqT (g3 lp (List.mem_of_getElem? hlp)), rfl, _, _, rfl, _, _, rfl, rfl, rfl, ?_⟩
      refine ⟨_, rfl, _, rfl, _, rfl, _, rfl, _, _, rfl, _, hD18, ?_, same_own s18 hD2, ?_⟩
      · rw [List.length_map, List.length_append, List.length_map]
        have h2 := List.length_take_le' j kd.ps
        exact szK (by omega)
      · rw [upd_same, List.take_add_one, hps, List.map_append, List.map_append (f := mxI), ← List.append_assoc, List.map_append]
        simp only [List.map_append]
        rfl
    · rintro H18 ⟨s18, hD18⟩
      refine ⟨s18, ?_⟩
      rw [hD18, List.take_add_one, hkd, List.flatMap_append, List.length_map, hll, List.take_length]
      simp [nsOf]
  rintro H16 ⟨s16, hD16⟩
  rw [show (refsK ks).length = ks.length from List.length_map .., List.take_length] at hD16
  have hfl := flat_len z62
  refine ⟨p1, D2, _, _, rfl, rfl, s16 _ _ hp1', hD16, ?_, fun p2 hp2 => ?_⟩
  · rw [List.length_map]
    exact Nat.le_trans (show _ ≤ 1000 by simp only [List.length_cons, List.length_nil]; omega) (by decide)
  have s17 : ∀ o, Same H16 (upd H16 p2 o) := fun o => same_new hp2
  refine ⟨p2, 1 :: ks.flatMap nsOf, rfl, .of upd_same, by simp, fun m hm hmax => ?_⟩
  generalize e17 : upd H16 p2 _ = H17
  have s18 : Same H14 H17 := by rw [← e17]; exact (sp1.trans s16).trans (s17 _)
  clear e17 s17
  have h17x := s18 _ _ h14x
  refine ⟨_, rfl, x, _, dx, _, rfl, h17x, T.cl_Game, T.nF_Game_farthest, Nat.le_of_ble_eq_true rfl, ?_⟩
  have i18 : ExtI H17 (upd H17 x (.ins T.c_Game dx (gmF tk te tg D m))) := ExtI.put h17x
  show Q .non (upd H17 x (.ins T.c_Game dx (gmF tk te tg D m)))
  generalize e18 : upd H17 x (.ins T.c_Game dx (gmF tk te tg D m)) = H18 at i18 ⊢
  have x18 : ExtNc x H H18 := by rw [← e18]; exact (e14.trans (.of s18)).trans .put
  have t18 : Tabs TT H18 := by rw [← e18]; exact tabs_put h17x (tabs_same s18 t14)
  have h18x : H18 x = some (.ins T.c_Game dx (gmF tk te tg D m)) := by rw [← e18]; exact upd_same
  have h18D : H18 D = some (.dK (tabOf (sortKd ks))) := by rw [← e18, upd_ne nDx]; exact s18 _ _ hkv14
  refine k m H18 x18 t18 ⟨dx, tk, te, tg, D, h18x, i18.sqT (s18.seqT htk14), i18.sqT (s18.seqT hte14), i18.sqT (s18.seqT htg14), h18D, x18.kinds hx hk⟩ ⟨?_, ?_, ?_⟩
  · exact hmax 1 List.mem_cons_self
  · rcases List.mem_cons.mp hm with e0 | h0
    · exact .inl e0
    · obtain ⟨kd, hkd, hm2⟩ := List.mem_flatMap.mp h0
      obtain ⟨p, hp, rfl⟩ := List.mem_map.mp hm2
      exact .inr ⟨kd, hkd, p, hp, (mx_spec p).1⟩
  · intro kd hkd p hp
    have h0 : mxI p ∈ 1 :: ks.flatMap nsOf := List.mem_cons_of_mem _ (List.mem_flatMap.mpr ⟨kd, hkd, List.mem_map_of_mem hp⟩)
    have := hmax _ h0
    have := mx_spec p
    omega
end
end K57

set_option Elab.async false
set_option linter.all false
set_option maxRecDepth 100000
set_option maxHeartbeats 4000000
namespace K57
open PySem PySem.Spec PyProof.Rows L2 Gs
theorem pX {X : Cx} {E : XK} {W : WX} (tk : Takes X W) (hW : ∀ cls d σ H, E cls d H → W cls d σ H) : Passes (L2.CX X.prog X.w) X E := passes_call tk hW
section
variable {P : Program} {w : World} {K : PySem.W.Frag} {mg : Str → Option Value} {base : Heap}
theorem O_is_move (T : Tx K mg w) : FnOk P w K mg base CX0 3 T.a_is_move T.d_is_move ["value"] (spB K (pairP isSq)) := by
  refine T.F_is_move.ok sc_is_move spB_len (fun cdv A outer s H vs Q E hr h => ?_)
  obtain ⟨c, v, d, rfl, hd, k⟩ := h
  refine ⟨_, (pss_one (ps_ret (pe_and (pe_call (O_is_list T) (hr.mono (by decide)) (by rfl) T.m_is_list T.F_is_list.kp T.b_is_list .nil pass0 (pa_cons (pv 0) pa_nil)) (pe_and (pe_cmpR op_eq (pe_callB call_len (by rfl) T.z_len (by decide +kernel) (pa_cons (pv 0) pa_nil)) pe_int (nomark _)) (pe_and (pe_call (O_is_square T) (hr.mono (by decide)) (by rfl) T.m_is_square T.F_is_square.kp T.b_is_square .nil pass0 (pa_cons (pe_ix ix_seq (pv 0) pe_int (fun _ _ => rfl)) pa_nil)) (pe_one (pe_call (O_is_square T) (hr.mono (by decide)) (by rfl) T.m_is_square T.F_is_square.kp T.b_is_square .nil pass0 (pa_cons (pe_ix ix_seq (pv 0) pe_int (fun _ _ => rfl)) pa_nil)))))))), ?_⟩
  refine ⟨_, rfl, c, v, d, rfl, hd, fun H1 s1 => ⟨_, rfl, ?_⟩⟩
  have hd1 := hd.up (Ext.of s1)
  cases hd1 with
  | @lst a xs ds na hs hv =>
    refine iteT ⟨_, rfl, _, _, rfl, .inl ⟨xs, hs, rfl⟩, rfl, _, rfl, ?_⟩
    refine ite2 (fun e => ?_) (fun e => ?_)
    · have e2 : xs.length = 2 := by
        have := V.int.inj (of_decide_eq_true e); omega
      obtain ⟨x, y, rfl⟩ := two_of e2
      cases hv with
      | cons hx hv =>
      cases hv with
      | cons hy hv =>
      cases hv with
      | nil =>
      rename_i dx dy
      refine ⟨_, rfl, .inl ⟨a, _, 0, x, rfl, rfl, hs, rfl, c, x, dx, rfl, hx, fun H2 s2 => ⟨_, rfl, ?_⟩⟩⟩
      have hs2 := (Ext.of (c := c) s2).sqL na hs
      have hy2 := hy.up (Ext.of s2)
      refine iteB (fun e => ?_) (fun e => ?_)
      rotate_left
      · have := k H2 (s1.trans s2)
        simp only [pairP, e, Bool.false_and] at this
        exact this
      · refine ⟨_, rfl, .inl ⟨a, _, 1, y, rfl, rfl, hs2, rfl, c, y, dy, rfl, hy2, fun H3 s3 => ?_⟩⟩
        have := k H3 ((s1.trans s2).trans s3)
        simp only [pairP, e, Bool.true_and] at this
        exact this
    · have e2 : ds.length ≠ 2 := fun z => e (decide_eq_true (by rw [hv.len, z]; rfl))
      have := k H1 s1
      rw [(pair_no e2).1] at this
      exact this
  | @tup a xs ds na hs hv =>
    refine iteT ⟨_, rfl, _, _, rfl, .inr ⟨xs, hs, rfl⟩, rfl, _, rfl, ?_⟩
    refine ite2 (fun e => ?_) (fun e => ?_)
    · have e2 : xs.length = 2 := by
        have := V.int.inj (of_decide_eq_true e); omega
      obtain ⟨x, y, rfl⟩ := two_of e2
      cases hv with
      | cons hx hv =>
      cases hv with
      | cons hy hv =>
      cases hv with
      | nil =>
      rename_i dx dy
      refine ⟨_, rfl, .inr (.inl ⟨a, _, 0, x, rfl, rfl, hs, rfl, c, x, dx, rfl, hx, fun H2 s2 => ⟨_, rfl, ?_⟩⟩)⟩
      have hs2 := (Ext.of (c := c) s2).sqT na hs
      have hy2 := hy.up (Ext.of s2)
      refine iteB (fun e => ?_) (fun e => ?_)
      rotate_left
      · have := k H2 (s1.trans s2)
        simp only [pairP, e, Bool.false_and] at this
        exact this
      · refine ⟨_, rfl, .inr (.inl ⟨a, _, 1, y, rfl, rfl, hs2, rfl, c, y, dy, rfl, hy2, fun H3 s3 => ?_⟩)⟩
        have := k H3 ((s1.trans s2).trans s3)
        simp only [pairP, e, Bool.true_and] at this
        exact this
    · have e2 : ds.length ≠ 2 := fun z => e (decide_eq_true (by rw [hv.len, z]; rfl))
      have := k H1 s1
      rw [(pair_no e2).2] at this
      exact this
  | non => exact iteF (k H1 s1)
  | bl => exact iteF (k H1 s1)
  | int => exact iteF (k H1 s1)
  | str => exact iteF (k H1 s1)
  | dic => exact iteF (k H1 s1)
  | dct => exact iteF (k H1 s1)


def spNmI : Sp := fun vs H Q _ => ∃ n : Int, vs = [.int n] ∧ ∀ H', Same H H' → Q (.bl false) H'
/-- D with this part is let out -/
def XP (D : Addr) (p : Str) (H : Hp) (E : XK) : Prop := ∀ d H', H d = none → Same H H' → H' d = some (.xd [("part", .str p)]) → E (.ref D) (some d) H'
theorem XP.up {D : Addr} {p : Str} {H H1 : Hp} {E : XK} (h : XP D p H E) (s : Same H H1) : XP D p H1 E := fun d H' a b c => h d H' (s.free a) (s.trans b) c
/-- whatever is no Position is refused -/
def spNeedP (K : PySem.W.Frag) (CP DP : Addr) : Sp := fun vs H Q E => ∃ (v : V) (p : Str) (t : Value), vs = [v, .str p] ∧ TyX K H v t ∧
  ((PySem.W.kitOne K t (.ref CP) = some false ∧ XP DP p H E) ∨ (PySem.W.kitOne K t (.ref CP) = some true ∧ Q .non H))
theorem O_need_position (T : Tx K mg w) : FnOk P w K mg base (L2.CX P w) 3 T.a_need_position T.d_need_position ["value", "part"] (spNeedP K T.c_Position T.c_BadPosition) := by
  refine T.F_need_position.okX sc_need_position (fun vs H Q E h => ?_) (fun cdv A outer s H vs Q E hr h => ?_)
  · obtain ⟨v, p, t, rfl, _⟩ := h; rfl
  obtain ⟨v, p, t, rfl, ty, h⟩ := h
  refine ⟨_, (pss_one (ps_if (pt_not (pt_val (pe_callB (r := rIsi K) call_isi (by rfl) T.z_isinstance (by decide +kernel) (pa_cons (pv 0) (pa_cons (pe_glob (v := .ref T.c_Position) (by rfl) T.m_Position rfl) pa_nil))))) (pss_one (ps_raise rfl (takes_of rfl rfl rfl rfl) (pmk_oex T.ox_BadPosition T.ic_BadPosition T.ti_BadPosition (O_BadPosition___init__ T) (hr.mono (by decide)) T.b_BadPosition___init__ .nil pass0 (by rfl) T.m_BadPosition (pa_cons (pv 1) pa_nil)))) pss_nil)), ?_⟩
  rcases h with ⟨hk, kx⟩ | ⟨hk, kg⟩
  · refine ⟨_, rfl, v, .ref T.c_Position, t, .ref T.c_Position, false, rfl, .own _, ty, hk, _, rfl, iteT ?_⟩
    exact ⟨_, rfl, Nat.le_of_ble_eq_true rfl, mk_err fun d H' a b c => kx d H' a b c⟩
  · exact ⟨_, rfl, v, .ref T.c_Position, t, .ref T.c_Position, true, rfl, .own _, ty, hk, _, rfl, iteF kg⟩
/-- the first of two that is no integer -/
def spWay (K : PySem.W.Frag) (DN : Addr) : Sp := fun vs H Q E => ∃ (c : Addr) (v u : V) (dv du : PyData), vs = [v, u] ∧ DV K c H v dv ∧ DV K c H u du ∧
  (isInt dv = false → XP DN "across" H E) ∧ (isInt dv = true → isInt du = false → XP DN "up" H E) ∧ (isInt dv = true → isInt du = true → ∀ H', Same H H' → Q .non H')
theorem O_need_way (T : Tx K mg w) : FnOk P w K mg base (L2.CX P w) 3 T.a_need_way T.d_need_way ["across", "up"] (spWay K T.c_BadNumber) := by
  refine T.F_need_way.okX sc_need_way (fun vs H Q E h => ?_) (fun cdv A outer s H vs Q E hr h => ?_)
  · obtain ⟨c, v, u, dv, du, rfl, _⟩ := h; rfl
  obtain ⟨c, v, u, dv, du, rfl, hv, hu, k1, k2, k3⟩ := h
  refine ⟨_, (pss_cons (ps_if (pt_not (pt_val (pe_call (O_is_integer T) (hr.mono (by decide)) (by rfl) T.m_is_integer T.F_is_integer.kp T.b_is_integer .nil pass0 (pa_cons (pv 0) pa_nil)))) (pss_one (ps_raise rfl (takes_of rfl rfl rfl rfl) (pmk_oex T.ox_BadNumber T.ic_BadNumber T.ti_BadNumber (O_BadNumber___init__ T) (hr.mono (by decide)) T.b_BadNumber___init__ .nil pass0 (by rfl) T.m_BadNumber (pa_cons pe_str pa_nil)))) pss_nil)
      (pss_one (ps_if (pt_not (pt_val (pe_call (O_is_integer T) (hr.mono (by decide)) (by rfl) T.m_is_integer T.F_is_integer.kp T.b_is_integer .nil pass0 (pa_cons (pv 1) pa_nil)))) (pss_one (ps_raise rfl (takes_of rfl rfl rfl rfl) (pmk_oex T.ox_BadNumber T.ic_BadNumber T.ti_BadNumber (O_BadNumber___init__ T) (hr.mono (by decide)) T.b_BadNumber___init__ .nil pass0 (by rfl) T.m_BadNumber (pa_cons pe_str pa_nil)))) pss_nil))), ?_⟩
  refine ⟨_, rfl, c, v, dv, rfl, hv, fun H1 s1 => ⟨_, rfl, ?_⟩⟩
  refine iteB (fun e => ?_) (fun e => ?_)
  · have e0 : isInt dv = false := by simpa using e
    exact ⟨Nat.le_of_ble_eq_true rfl, mk_err fun d H' a b c => ((k1 e0).up s1) d H' a b c⟩
  have e1 : isInt dv = true := by simpa using e
  refine ⟨_, rfl, c, u, du, rfl, hu.up (Ext.of s1), fun H2 s2 => ⟨_, rfl, ?_⟩⟩
  refine iteB (fun e => ?_) (fun e => ?_)
  · have e0 : isInt du = false := by simpa using e
    exact ⟨Nat.le_of_ble_eq_true rfl, mk_err fun d H' a b c => ((k2 e1 e0).up (s1.trans s2)) d H' a b c⟩
  have e2 : isInt du = true := by simpa using e
  exact k3 e1 e2 _ (s1.trans s2)
end
end K57

set_option Elab.async false
set_option linter.all false
set_option maxRecDepth 100000
set_option maxHeartbeats 4000000
namespace K57
open PySem PySem.Spec PyProof.Rows L2 Gs
/-- a piece: its hand, name, column, row -/
structure PcT where
  h : Int
  z : Str
  x : Int
  y : Int
abbrev pcV (p : PcT) : List V := [.int p.h, .str p.z, .int p.x, .int p.y]
abbrev pcK (p : PcT) : List Key := [.inl p.h, .inr p.z, .inl p.x, .inl p.y]
abbrev sqV (p : Int × Int) : List V := [.int p.1, .int p.2]
abbrev sqK (p : Int × Int) : List Key := [.inl p.1, .inl p.2]
/-- a list or a tuple that the heap knows -/
def TrS (H : Hp) (l : Addr) (xs : List V) : Prop := H l = some (.lst xs) ∨ H l = some (.tup xs)
section
variable {P : Program} {w : World} {K : PySem.W.Frag} {mg : Str → Option Value} {base : Heap} {H H' : Hp} {l : Addr} {xs : List V}
theorem TrS.seq (h : TrS H l xs) : Seq K H l xs := h.imp .of .of
theorem TrS.same (h : TrS H l xs) (s : Same H H') : TrS H' l xs := h.imp (s _ _) (s _ _)
/-- pieces, squares at their addresses -/
def PcsAt (H : Hp) (ps : List (Addr × PcT)) : Prop := ∀ p ∈ ps, TrS H p.1 (pcV p.2)
def SqsAt (H : Hp) (ps : List (Addr × Int × Int)) : Prop := ∀ p ∈ ps, TrS H p.1 (sqV p.2)
theorem PcsAt.same {ps : List (Addr × PcT)} (h : PcsAt H ps) (s : Same H H') : PcsAt H' ps := fun p hp => (h p hp).same s
theorem SqsAt.same {ps : List (Addr × Int × Int)} (h : SqsAt H ps) (s : Same H H') : SqsAt H' ps := fun p hp => (h p hp).same s
abbrev refsA {α : Type} (ps : List (Addr × α)) : List V := ps.map fun p => V.ref p.1
def sqOf (p : PcT) : Int × Int := (p.x, p.y)
def spPiece (K : PySem.W.Frag) (CK CG : Addr) : Sp := fun vs H Q _ => ∃ (g l : Addr) (ks : List KdT) (a b c d : Option Int) (ws : List Str) (n : Int) (p : PcT), vs = [.ref g, .ref l] ∧ GameAt K CK CG H g ks a b c d ws n ∧ (ks.map (·.z)).Nodup ∧ TrS H l (pcV p) ∧ (p.h = 0 ∨ p.h = 1) ∧ p.z ∈ ks.map (·.z) ∧
  ∀ H', Same H H' → Q (.bl true) H'
theorem tab_has {ks : List KdT} {z : Str} (nd : (ks.map (·.z)).Nodup) (h : z ∈ ks.map (·.z)) : ∃ kd ∈ ks, kd.z = z ∧ valV (tabOf (sortKd ks)) (.inr z) = some (.ref kd.a) := by
  obtain ⟨kd, h1, rfl⟩ := List.mem_map.mp h
  exact ⟨kd, h1, rfl, tabOf_val (((sortKd_perm ks).map (·.z)).nodup_iff.mpr nd) ((sortKd_perm ks).mem_iff.mpr h1)⟩
theorem O_is_piece (T : Tx K mg w) : FnOk P w K mg base CX0 3 T.a_is_piece T.d_is_piece ["game", "value"] (spPiece K T.c_Kind T.c_Game) := by
  refine T.F_is_piece.ok sc_is_piece (fun vs H Q E h => ?_) (fun cdv A outer s H vs Q E hr h => ?_)
  · obtain ⟨g, l, ks, a, b, c, d, ws, n, p, rfl, _⟩ := h; rfl
  obtain ⟨g, l, ks, a, b, c, d, ws, n, p, rfl, hg, nd, hl, hh, hz, k⟩ := h
  refine ⟨_, (pss_cons (ps_if (PW.pt (pw_or (pt_not (pt_val (pe_call (O_is_listS T) (hr.mono (by decide)) (by rfl) T.m_is_list T.F_is_list.kp T.b_is_list .nil pass0 (pa_cons (pv 1) pa_nil)))) (pw_or1 (pt_cmpR op_ne (pe_callB call_len_seq (by rfl) T.z_len (by decide +kernel) (pa_cons (pv 1) pa_nil)) pe_int (nomark _))))) (pss_one (ps_ret pe_bl)) pss_nil)
      (pss_cons (ps_asg (pv 1) (pg_seq rfl (pgs_cons (pg_name (i := 2) sc_is_piece.nd rfl (Or.inl rfl)) (pgs_cons (pg_name (i := 3) sc_is_piece.nd rfl (Or.inl rfl)) (pgs_cons (pg_name (i := 4) sc_is_piece.nd rfl (Or.inl rfl)) (pgs_cons (pg_name (i := 5) sc_is_piece.nd rfl (Or.inl rfl)) pgs_nil))))))
      (pss_cons (ps_if (PW.pt (pw_or (pt_not (pt_val (pe_call (O_is_within T) (hr.mono (by decide)) (by rfl) T.m_is_within T.F_is_within.kp T.b_is_within .nil pass0 (pa_cons (pv 2) (pa_cons pe_int (pa_cons pe_int pa_nil)))))) (pw_or (pt_not (pt_val (pe_callB (r := rIsi K) call_isi (by rfl) T.z_isinstance (by decide +kernel) (pa_cons (pv 3) (pa_cons (pe_bltn (v := .ty "str") (u := .type "str") (by rfl) T.z_str (by decide +kernel) rfl) pa_nil))))) (pw_or1 (pt_cmp (pc_dnotin (Nat.lt_of_le_of_lt (Nat.add_le_add_left (by decide) _) hr.units) (pv 3) (pe_fldK (K := K) rfl (pv 0)))))))) (pss_one (ps_ret pe_bl)) pss_nil)
      (pss_one (ps_ret (pe_and (pe_call (O_is_integer T) (hr.mono (by decide)) (by rfl) T.m_is_integer T.F_is_integer.kp T.b_is_integer .nil pass0 (pa_cons (pv 4) pa_nil)) (pe_one (pe_call (O_is_integer T) (hr.mono (by decide)) (by rfl) T.m_is_integer T.F_is_integer.kp T.b_is_integer .nil pass0 (pa_cons (pv 5) pa_nil))))))))), ?_⟩
  refine ⟨_, rfl, l, _, rfl, hl.seq, fun H1 s1 => ⟨_, rfl, iteF ?_⟩⟩
  have hl1 := hl.same s1
  refine ⟨_, rfl, l, _, rfl, hl1.seq, rfl, _, rfl, iteF ?_⟩
  refine ⟨_, rfl, gSeq.of hl1.seq rfl ⟨_, _, rfl, _, _, rfl, _, _, rfl, _, _, rfl, rfl, ?_⟩⟩
  refine ⟨_, rfl, l + 1, .int p.h, .int p.h, some 0, some 1, rfl, .int _, fun H2 s2 => ⟨_, rfl, ?_⟩⟩
  have e1 : inB (some 0) (some 1) (.int p.h) = true := by
    show (decide ((0 : Int) ≤ p.h) && decide (p.h ≤ 1)) = true
    rw [decide_eq_true (by omega), decide_eq_true (by omega)]; rfl
  rw [e1]
  refine iteF ?_
  have hs : DV K (l + 1) H2 (.str p.z) (.str p.z) := .str _
  refine ⟨_, rfl, _, .ty "str", .type (tyN _), .type "str", _, rfl, .ty _, ty_of hs, kit_ty (kS _), _, rfl, iteF ?_⟩
  have s12 := s1.trans s2
  obtain ⟨dx, tk, te, tg, tt, h1, h2, h3, h4, h5, h6⟩ := hg.same s12
  obtain ⟨kd, hkd, ez, hv⟩ := tab_has nd hz
  refine ⟨_, rfl, _, rfl, g, _, dx, _, _, rfl, h1, T.cl_Game, T.nF_Game_table, rfl, tt, _, rfl, DGet.k (k := Sum.inr p.z) h5, _, rfl, ?_⟩
  rw [hv]
  refine iteF ?_
  refine ⟨_, rfl, l + 1, .int p.x, .int p.x, rfl, .int _, fun H3 s3 => ⟨_, rfl, iteT ?_⟩⟩
  exact ⟨_, rfl, l + 1, .int p.y, .int p.y, rfl, .int _, fun H4 s4 => k H4 ((s12.trans s3).trans s4)⟩
def spPieces (K : PySem.W.Frag) (CK CG : Addr) : Sp := fun vs H Q _ => ∃ (g l : Addr) (ks : List KdT) (a b c d : Option Int) (ws : List Str) (n : Int) (ps : List (Addr × PcT)), vs = [.ref g, .ref l] ∧ GameAt K CK CG H g ks a b c d ws n ∧ (ks.map (·.z)).Nodup ∧ Seq K H l (refsA ps) ∧ PcsAt H ps ∧
  1 ≤ ps.length ∧ ps.length ≤ 16 ∧ (∀ p ∈ ps, (p.2.h = 0 ∨ p.2.h = 1) ∧ p.2.z ∈ ks.map (·.z)) ∧ ∀ H', Same H H' → Q (.bl true) H'
theorem rep_bl {D : Addr} {H2 H4 : Hp} {i : Nat} (hi : i < 1000) (hD2 : H2 D = some (.lst ((List.replicate i true).map V.bl))) (s : Same H2 H4) : ∃ acc, H4 D = some (.lst acc) ∧ acc.length < sizeLine ∧ upd H4 D (.lst (acc ++ [V.bl true])) D = some (.lst ((List.replicate (i + 1) true).map V.bl)) := by
  refine ⟨_, s _ _ hD2, ?_, ?_⟩
  · rw [List.length_map, List.length_replicate]; exact szK (by omega)
  · rw [upd_same, List.replicate_succ', List.map_append]; rfl
theorem rep_all (n : Nat) : (List.replicate n true).all id = true := by
  rw [List.all_eq_true]; intro x hx; rw [List.eq_of_mem_replicate hx]; rfl
theorem O_are_pieces (T : Tx K mg w) : FnOk P w K mg base CX0 4 T.a_are_pieces T.d_are_pieces ["game", "value"] (spPieces K T.c_Kind T.c_Game) := by
  refine T.F_are_pieces.ok sc_are_pieces (fun vs H Q E h => ?_) (fun cdv A outer s H vs Q E hr h => ?_)
  · obtain ⟨g, l, ks, a, b, c, d, ws, n, ps, rfl, _⟩ := h; rfl
  obtain ⟨g, l, ks, a, b, c, d, ws, n, ps, rfl, hg, nd, hl, hp, z1, z16, hh, k⟩ := h
  obtain ⟨tP, hMP⟩ := T.g_MP
  refine ⟨_, (pss_one (ps_ret (pe_and (pe_call (O_is_listS T) (hr.mono (by decide)) (by rfl) T.m_is_list T.F_is_list.kp T.b_is_list .nil pass0 (pa_cons (pv 1) pa_nil)) (pe_and (pe_chain op_le op_le pe_int (pe_callB call_len_seq (by rfl) T.z_len (by decide +kernel) (pa_cons (pv 1) pa_nil)) (pe_glob (v := .int 16) (by rfl) hMP ⟨_, rfl⟩)) (pe_one (pe_callB (cr_all rfl) (by rfl) T.z_all (by decide +kernel) (pa_cons (pe_lc (own := [("piece", 2)]) (g := (gName 2)) rfl sc_are_pieces.nd (pi_or (pi_list (pv 1)) (pi_tup (pv 1))) (blkOk_by (N := n_are_pieces) (sc := defScope s_are_pieces) (by decide +kernel)) (fun _ _ _ _ _ => (pg_name (i := 2) sc_are_pieces.nd rfl (Or.inl rfl))) (fun _ _ _ _ _ => pts_nil) (fun _ _ _ _ _ => (pe_call (O_is_piece T) (hr.mono (by decide)) (by rfl) T.m_is_piece T.F_is_piece.kp T.b_is_piece .nil pass0 (pa_cons (pv 0) (pa_cons (pv 2) pa_nil))))) pa_nil))))))), ?_⟩
  have len : (refsA ps).length = ps.length := List.length_map ..
  refine ⟨_, rfl, l, _, rfl, hl, fun H1 s1 => ⟨_, rfl, iteT ?_⟩⟩
  have hl1 : Seq K H1 l _ := hl.imp s1.seq s1.seqT
  refine ⟨_, rfl, l, _, rfl, hl1, _, _, rfl, rfl, _, rfl, ?_⟩
  rw [len]
  refine iteB (fun _ => ?_) (fun e => absurd (of_decide_eq_false e) (by omega))
  refine ⟨_, _, rfl, rfl, _, rfl, ?_⟩
  refine iteB (fun _ => ?_) (fun e => absurd (of_decide_eq_false e) (by omega))
  refine pi_seq_rd (a := l) rfl hl1 (fun J G hG W => fun D hD => ?_)
  refine lc_it W (fun i H' => Same H1 H' ∧ H' D = some (.lst ((List.replicate i true).map V.bl))) ⟨same_new hD, upd_same⟩ (fun i H' _ h => hG H' (ExtI.of h.1)) ?_ ?_
  · rintro i x H2 H3 hi ⟨s2, hD2⟩ ⟨rfl, hx⟩
    refine ⟨rfl, ?_⟩
    rw [List.getElem?_map] at hx
    obtain ⟨p, hpi, rfl⟩ := Option.map_eq_some_iff.mp hx
    have hm := List.mem_of_getElem? hpi
    have s12 := s1.trans s2
    refine ⟨_, rfl, _, rfl, g, p.1, ks, a, b, c, d, ws, n, p.2, rfl, hg.same s12, nd, (hp p hm).same s12, (hh p hm).1, (hh p hm).2, fun H4 s4 => ?_⟩
    have hi' : i < 1000 := by rw [len] at hi; omega
    obtain ⟨acc, q1, q2, q3⟩ := rep_bl hi' hD2 s4
    exact ⟨acc, q1, q2, same_own (s2.trans s4) hD, q3⟩
  rintro H2 ⟨s2, hD2⟩
  refine ⟨D, _, rfl, .of hD2, ?_⟩
  rw [rep_all]
  exact k H2 (s1.trans s2)
end
end K57

set_option Elab.async false
set_option linter.all false
set_option maxRecDepth 100000
set_option maxHeartbeats 4000000
namespace K57
open PySem PySem.Spec PyProof.Rows L2 Gs
section
variable {P : Program} {w : World} {K : PySem.W.Frag} {mg : Str → Option Value} {base : Heap} {H H' : Hp} {l : Addr} {xs : List V}
theorem sq_dv (H : Hp) {l : Addr} {x y : Int} (h : Seq K H l [.int x, .int y]) : ∃ d, DV K (l + 1) H (.ref l) d ∧ pairP isInt d = true := by
  rcases h with h | h
  · exact ⟨_, .lst (ne_succ l) h (.cons (.int x) (.cons (.int y) .nil)), rfl⟩
  · exact ⟨_, .tup (ne_succ l) h (.cons (.int x) (.cons (.int y) .nil)), rfl⟩
def spStones (K : PySem.W.Frag) : Sp := fun vs H Q _ => ∃ (l : Addr) (ps : List (Addr × Int × Int)), vs = [.ref l] ∧ Seq K H l (refsA ps) ∧ SqsAt H ps ∧ ps.length ≤ 16 ∧ ∀ H', Same H H' → Q (.bl true) H'
theorem O_are_stones (T : Tx K mg w) : FnOk P w K mg base CX0 3 T.a_are_stones T.d_are_stones ["value"] (spStones K) := by
  refine T.F_are_stones.ok sc_are_stones (fun vs H Q E h => ?_) (fun cdv A outer s H vs Q E hr h => ?_)
  · obtain ⟨l, ps, rfl, _⟩ := h; rfl
  obtain ⟨l, ps, rfl, hl, hp, z16, k⟩ := h
  obtain ⟨tP, hMS⟩ := T.g_MS
  refine ⟨_, (pss_one (ps_ret (pe_and (pe_call (O_is_listS T) (hr.mono (by decide)) (by rfl) T.m_is_list T.F_is_list.kp T.b_is_list .nil pass0 (pa_cons (pv 0) pa_nil)) (pe_and (pe_cmpR op_le (pe_callB call_len_seq (by rfl) T.z_len (by decide +kernel) (pa_cons (pv 0) pa_nil)) (pe_glob (v := .int 16) (by rfl) hMS ⟨_, rfl⟩) (nomark _)) (pe_one (pe_callB (cr_all rfl) (by rfl) T.z_all (by decide +kernel) (pa_cons (pe_lc (own := [("stone", 1)]) (g := (gName 1)) rfl sc_are_stones.nd (pi_or (pi_list (pv 0)) (pi_tup (pv 0))) (blkOk_by (N := n_are_stones) (sc := defScope s_are_stones) (by decide +kernel)) (fun _ _ _ _ _ => (pg_name (i := 1) sc_are_stones.nd rfl (Or.inl rfl))) (fun _ _ _ _ _ => pts_nil) (fun _ _ _ _ _ => (pe_call (O_is_square T) (hr.mono (by decide)) (by rfl) T.m_is_square T.F_is_square.kp T.b_is_square .nil pass0 (pa_cons (pv 1) pa_nil)))) pa_nil))))))), ?_⟩
  have len : (refsA ps).length = ps.length := List.length_map ..
  refine ⟨_, rfl, l, _, rfl, hl, fun H1 s1 => ⟨_, rfl, iteT ?_⟩⟩
  have hl1 : Seq K H1 l _ := hl.imp s1.seq s1.seqT
  refine ⟨_, rfl, l, _, rfl, hl1, _, _, rfl, rfl, _, rfl, ?_⟩
  rw [len]
  refine iteB (fun _ => ?_) (fun e => absurd (of_decide_eq_false e) (by omega))
  refine pi_seq_rd (a := l) rfl hl1 (fun J G hG W => fun D hD => ?_)
  refine lc_it W (fun i H' => Same H1 H' ∧ H' D = some (.lst ((List.replicate i true).map V.bl))) ⟨same_new hD, upd_same⟩ (fun i H' _ h => hG H' (ExtI.of h.1)) ?_ ?_
  · rintro i x H2 H3 hi ⟨s2, hD2⟩ ⟨rfl, hx⟩
    refine ⟨rfl, ?_⟩
    rw [List.getElem?_map] at hx
    obtain ⟨p, hpi, rfl⟩ := Option.map_eq_some_iff.mp hx
    have hm := List.mem_of_getElem? hpi
    have s12 := s1.trans s2
    obtain ⟨d, hd, e⟩ := sq_dv H3 ((hp p hm).same s12).seq
    refine ⟨_, rfl, _, _, d, rfl, hd, fun H4 s4 => ?_⟩
    rw [e]
    have hi' : i < 1000 := by rw [len] at hi; omega
    obtain ⟨acc, q1, q2, q3⟩ := rep_bl hi' hD2 s4
    exact ⟨acc, q1, q2, same_own (s2.trans s4) hD, q3⟩
  rintro H2 ⟨s2, hD2⟩
  refine ⟨D, _, rfl, .of hD2, ?_⟩
  rw [rep_all]
  exact k H2 (s1.trans s2)
/-- new tuples of squares -/
def NewSq (H : Hp) (v : Addr) (qs : List (Addr × Int × Int)) : Prop := H v = some (.lst (refsA qs)) ∧ ∀ q ∈ qs, H q.1 = some (.tup (sqV q.2))
theorem NewSq.same {v : Addr} {qs : List (Addr × Int × Int)} (h : NewSq H v qs) (s : Same H H') : NewSq H' v qs := ⟨s _ _ h.1, fun q hq => s _ _ (h.2 q hq)⟩
def spSquares (K : PySem.W.Frag) : Sp := fun vs H Q _ => ∃ (l : Addr) (ps : List (Addr × PcT)), vs = [.ref l] ∧ Seq K H l (refsA ps) ∧ PcsAt H ps ∧ ps.length ≤ 1000 ∧
  ∀ H' v qs, Same H H' → NewSq H' v qs → qs.map (·.2) = ps.map (fun p => sqOf p.2) → Q (.ref v) H'
theorem lst_tup {H : Hp} {D q : Addr} {xs ys zs : List V} (hD : H D = some (.lst xs)) (h : H q = some (.tup ys)) : upd H D (.lst zs) q = some (.tup ys) := by
  rw [upd_ne (fun e => by rw [e, hD] at h; cases h)]; exact h
theorem O_squares_of (T : Tx K mg w) : FnOk P w K mg base CX0 1 T.a_squares_of T.d_squares_of ["pieces"] (spSquares K) := by
  refine T.F_squares_of.ok sc_squares_of (fun vs H Q E h => ?_) (fun cdv A outer s H vs Q E hr h => ?_)
  · obtain ⟨l, ps, rfl, _⟩ := h; rfl
  obtain ⟨l, ps, rfl, hl, hp, z, k⟩ := h
  refine ⟨_, (pss_one (ps_ret (pe_lc (own := [("_", 1), ("column", 2), ("row", 3)]) (g := (gSeq K 4 (gCons (gName 1) (gCons (gName 1) (gCons (gName 2) (gCons (gName 3) gNil)))))) rfl sc_squares_of.nd (pi_or (pi_list (pv 0)) (pi_tup (pv 0))) (blkOk_by (N := n_squares_of) (sc := defScope s_squares_of) (by decide +kernel)) (fun _ _ _ _ _ => (pg_seq rfl (pgs_cons (pg_name (i := 1) sc_squares_of.nd rfl (Or.inl rfl)) (pgs_cons (pg_name (i := 1) sc_squares_of.nd rfl (Or.inl rfl)) (pgs_cons (pg_name (i := 2) sc_squares_of.nd rfl (Or.inl rfl)) (pgs_cons (pg_name (i := 3) sc_squares_of.nd rfl (Or.inl rfl)) pgs_nil)))))) (fun _ _ _ _ _ => pts_nil) (fun _ _ _ _ _ => (pe_tup (pa_cons (pv 2) (pa_cons (pv 3) pa_nil))))))), ?_⟩
  have len : (refsA ps).length = ps.length := List.length_map ..
  refine pi_seq_rd (a := l) rfl hl (fun J G hG W => fun D hD => ?_)
  refine lc_it W (fun i H' => Same H H' ∧ ∃ qs, NewSq H' D qs ∧ qs.map (·.2) = (ps.take i).map (fun p => sqOf p.2)) ⟨same_new hD, [], ⟨upd_same, fun q hq => nomatch hq⟩, rfl⟩ (fun i H' _ h => hG H' (ExtI.of h.1)) ?_ ?_
  · rintro i x H2 H3 hi ⟨s2, qs, hq, he⟩ ⟨rfl, hx⟩
    rw [List.getElem?_map] at hx
    obtain ⟨p, hpi, rfl⟩ := Option.map_eq_some_iff.mp hx
    have hm := List.mem_of_getElem? hpi
    refine gSeq.of ((hp p hm).same s2).seq rfl ⟨_, _, rfl, _, _, rfl, _, _, rfl, _, _, rfl, rfl, rfl, ?_⟩
    refine ⟨_, rfl, _, rfl, szl rfl, fun t ht => ⟨_, (same_new ht) _ _ hq.1, ?_, same_own (s2.trans (same_new ht)) hD, qs ++ [(t, sqOf p.2)], ⟨?_, ?_⟩, ?_⟩⟩
    · have : qs.length = ((ps.take i).map (fun p => sqOf p.2)).length := by rw [← he, List.length_map]
      rw [List.length_map] at this ⊢
      rw [this]
      have := List.length_take_le i ps
      have hi' : i < ps.length := by rw [len] at hi; exact hi
      exact szs (by omega)
    · rw [upd_same]
      show _ = some (HO.lst (List.map _ _))
      rw [List.map_append]; rfl
    · intro q hqm
      have hD3 := (same_new ht (o := .tup (sqV (sqOf p.2)))) _ _ hq.1
      rcases List.mem_append.mp hqm with hqm | hqm
      · exact lst_tup hD3 ((same_new ht) _ _ (hq.2 q hqm))
      · rw [List.mem_singleton.mp hqm]; exact lst_tup hD3 upd_same
    · rw [List.map_append, he, List.take_add_one, hpi, List.map_append]; rfl
  rintro H2 ⟨s2, qs, hq, he⟩
  rw [len, List.take_length] at he
  exact k H2 D qs s2 hq he
end
end K57

set_option Elab.async false
set_option linter.all false
set_option maxRecDepth 100000
set_option maxHeartbeats 4000000
namespace K57
open PySem PySem.Spec PyProof.Rows L2 Gs
section
variable {P : Program} {w : World} {K : PySem.W.Frag} {mg : Str → Option Value} {base : Heap} {H H' : Hp} {l : Addr} {xs : List V}
def spOnF (K : PySem.W.Frag) (CK CG : Addr) : Sp := fun vs H Q _ => ∃ (g l : Addr) (ks : List KdT) (a b c d : Option Int) (ws : List Str) (n : Int) (qs : List (Addr × Int × Int)), vs = [.ref g, .ref l] ∧ GameAt K CK CG H g ks a b c d ws n ∧ Seq K H l (refsA qs) ∧ SqsAt H qs ∧ qs.length ≤ 1000 ∧
  ∀ H', Same H H' → Q (.bl (qs.all fun q => inE a b c d q.2.1 q.2.2)) H'
theorem O_are_on_field (T : Tx K mg w) : FnOk P w K mg base CX0 2 T.a_are_on_field T.d_are_on_field ["game", "squares"] (spOnF K T.c_Kind T.c_Game) := by
  refine T.F_are_on_field.ok sc_are_on_field (fun vs H Q E h => ?_) (fun cdv A outer s H vs Q E hr h => ?_)
  · obtain ⟨g, l, ks, a, b, c, d, ws, n, qs, rfl, _⟩ := h; rfl
  obtain ⟨g, l, ks, a, b, c, d, ws, n, qs, rfl, hg, hl, hq, hz, k⟩ := h
  refine ⟨_, (pss_one (ps_ret (pe_callB (cr_all rfl) (by rfl) T.z_all (by decide +kernel) (pa_cons (pe_lc (own := [("square", 2)]) (g := (gName 2)) rfl sc_are_on_field.nd (pi_or (pi_list (pv 1)) (pi_tup (pv 1))) (blkOk_by (N := n_are_on_field) (sc := defScope s_are_on_field) (by decide +kernel)) (fun _ _ _ _ _ => (pg_name (i := 2) sc_are_on_field.nd rfl (Or.inl rfl))) (fun _ _ _ _ _ => pts_nil) (fun _ _ _ _ _ => (pe_call (O_is_between T) (hr.mono (by decide)) (by rfl) T.m_is_between T.F_is_between.kp T.b_is_between .nil pass0 (pa_cons (pe_fldK (K := K) rfl (pv 0)) (pa_cons (pv 2) pa_nil))))) pa_nil)))), ?_⟩
  have len : (refsA qs).length = qs.length := List.length_map ..
  refine pi_seq_rd (a := l) rfl hl (fun J G hG W => fun D hD => ?_)
  refine lc_it W (fun i H' => Same H H' ∧ H' D = some (.lst (((qs.take i).map fun q => inE a b c d q.2.1 q.2.2).map V.bl))) ⟨same_new hD, upd_same⟩ (fun i H' _ h => hG H' (ExtI.of h.1)) ?_ ?_
  · rintro i x H2 H3 hi ⟨s2, hD2⟩ ⟨rfl, hx⟩
    refine ⟨rfl, ?_⟩
    rw [List.getElem?_map] at hx
    obtain ⟨q, hqi, rfl⟩ := Option.map_eq_some_iff.mp hx
    have hm := List.mem_of_getElem? hqi
    obtain ⟨dx, tk, te, tg, tt, h1, h2, h3, h4, h5, h6⟩ := hg.same s2
    refine ⟨_, rfl, g, _, dx, _, _, rfl, h1, T.cl_Game, T.nF_Game_edges, rfl, _, rfl, te, q.1, a, b, c, d, q.2.1, q.2.2, rfl, h3, ((hq q hm).same s2).seq, ?_⟩
    refine ⟨_, hD2, ?_, same_own s2 hD, ?_⟩
    · rw [List.length_map, List.length_map]
      have := List.length_take_le i qs
      have hi' : i < qs.length := by rw [len] at hi; exact hi
      exact szK (by omega)
    · rw [upd_same, List.take_add_one, hqi, List.map_append, List.map_append]; rfl
  rintro H2 ⟨s2, hD2⟩
  rw [len, List.take_length] at hD2
  refine ⟨D, _, rfl, .of hD2, ?_⟩
  rw [List.all_map]
  exact k H2 s2
/-- whether the name is that of a lord -/
def lordZ (ks : List KdT) (z : Str) : Bool := ks.any fun k => decide (k.z = z) && k.q
theorem lordZ_of {ks : List KdT} {k : KdT} (nd : (ks.map (·.z)).Nodup) (h : k ∈ ks) : lordZ ks k.z = k.q := by
  unfold lordZ
  induction ks with
  | nil => cases h
  | cons q ks ih =>
    obtain ⟨n1, n2⟩ := List.nodup_cons.mp nd
    rw [List.any_cons]
    rcases List.mem_cons.mp h with rfl | h
    · have : (ks.any fun q => decide (q.z = k.z) && q.q) = false := by
        rw [List.any_eq_false]
        intro q hq e
        rw [Bool.and_eq_true] at e
        exact n1 (by show k.z ∈ _; rw [← of_decide_eq_true e.1]; exact List.mem_map_of_mem hq)
      rw [this, decide_eq_true rfl, Bool.true_and, Bool.or_false]
    · have e : decide (q.z = k.z) = false := decide_eq_false fun e => n1 (by show q.z ∈ _; rw [e]; exact List.mem_map_of_mem h)
      rw [e, Bool.false_and, Bool.false_or]
      exact ih n2 h
/-- the hands of the lords -/
def lordsH (ks : List KdT) (ps : List PcT) : List Int := (ps.filter fun p => lordZ ks p.z).map (·.h)
structure FitP (ks : List KdT) (a b c d : Option Int) (ws : List Str) (ps : List PcT) : Prop where
  nd : (ps.map sqOf).Nodup
  on : ∀ p ∈ ps, inE a b c d p.x p.y = true
  l0 : (lordsH ks ps).count 0 ≤ 1
  l1 : (lordsH ks ps).count 1 ≤ 1
  ho : ws = [("hold" : Str)] → (1 : Int) ∈ lordsH ks ps
  nm : ∀ p ∈ ps, p.z ∈ ks.map (·.z)
  fw : ps.length ≤ 16
  nk : ∀ k ∈ ks, PyData.strOk k.z = true
def tysK (p : PcT) : PcT := p
theorem set_two {x y : Int} {x' y' : Int} (h : ([x, y] : List Int) = [x', y']) : (x, y) = (x', y') := by
  obtain ⟨h1, h2⟩ := List.cons.inj h
  rw [h1, (List.cons.inj h2).1]
/-- the tuples of a new list of squares as keys -/
def sqT (q : Addr × Int × Int) : Addr × List Int := (q.1, [q.2.1, q.2.2])
theorem sqT_refs (qs : List (Addr × Int × Int)) : (qs.map sqT).map (fun p => V.ref p.1) = refsA qs := by rw [List.map_map]; rfl
theorem sqT_at {K : PySem.W.Frag} {H : Hp} {qs : List (Addr × Int × Int)} (h : ∀ q ∈ qs, H q.1 = some (.tup (sqV q.2))) : ∀ p ∈ qs.map sqT, SqT K H p.1 (p.2.map V.int) := fun p hp => by
  obtain ⟨q, hq, rfl⟩ := List.mem_map.mp hp
  exact .of (h q hq)
theorem sqT_nd {qs : List (Addr × Int × Int)} (h : (qs.map (·.2)).Nodup) : ((qs.map sqT).map (·.2)).Nodup := by
  have e : (qs.map sqT).map (·.2) = (qs.map (·.2)).map fun p => [p.1, p.2] := by rw [List.map_map, List.map_map]; rfl
  rw [e]
  refine List.Pairwise.map _ (fun x y hne e => hne ?_) h
  exact set_two e
theorem SetTO_keep {P : Program} {w : World} {H : Hp} {a q : Addr} {o : HO} {xs : List V} (ha : H a = none) (h : H q = some (.tup xs)) : upd H a o q = some (.tup xs) := by
  rw [upd_ne (ne_of_none h ha)]; exact h
/-- what set(squares) asks, and its len -/
theorem set_ask {K : PySem.W.Frag} {H : Hp} {v : Addr} {qs : List (Addr × Int × Int)} (h : NewSq H v qs) (hz : qs.length < 64) : SqL K H v ((qs.map sqT).map fun p => V.ref p.1) ∧ (∀ p ∈ qs.map sqT, SqT K H p.1 (p.2.map V.int)) ∧ (qs.map sqT).length < 64 :=
  ⟨by rw [sqT_refs]; exact .of h.1, sqT_at h.2, by rw [List.length_map]; exact hz⟩
theorem set_tell {K : PySem.W.Frag} {H : Hp} {v a : Addr} {o : HO} {qs : List (Addr × Int × Int)} {L : List (Addr × List Int)} (h : NewSq H v qs) (ha : H a = none) (nL : (L.map (·.2)).Nodup) (h1 : ∀ p ∈ L, p ∈ qs.map sqT)
    (h2 : ∀ p ∈ qs.map sqT, p.2 ∈ L.map (·.2)) : (∀ p ∈ L, SqT K (upd H a o) p.1 (p.2.map V.int)) ∧ decide ((L.length : Int) = (qs.length : Int)) = decide (qs.map (·.2)).Nodup := by
  refine ⟨fun p hp => (same_new ha).seqT (sqT_at h.2 p (h1 p hp)), ?_⟩
  have e := set_size nL h1 h2
  rw [List.length_map] at e
  rw [e]
  refine decide_eq_decide.mpr ⟨fun z => ?_, sqT_nd⟩
  have e2 : (qs.map sqT).map (·.2) = (qs.map (·.2)).map fun p => [p.1, p.2] := by rw [List.map_map, List.map_map]; rfl
  rw [e2] at z
  exact (List.pairwise_map.mp z).imp fun hne e => hne (by rw [e])
end
end K57

set_option Elab.async false
set_option linter.all false
set_option maxRecDepth 100000
set_option maxHeartbeats 4000000
namespace K57
open PySem PySem.Spec PyProof.Rows L2 Gs
section
variable {P : Program} {w : World} {K : PySem.W.Frag} {mg : Str → Option Value} {base : Heap} {H H' : Hp} {l : Addr} {xs : List V}
theorem hu64 {A : Around} {k : Nat} (hr : Room k A) : A.units + 64 < cLine := hr.units
def spFitP (K : PySem.W.Frag) (CK CG : Addr) : Sp := fun vs H Q _ => ∃ (g l : Addr) (ks : List KdT) (a b c d : Option Int) (ws : List Str) (n : Int) (ps : List (Addr × PcT)), vs = [.ref g, .ref l] ∧ GameAt K CK CG H g ks a b c d ws n ∧ (ks.map (·.z)).Nodup ∧ GoalIs ks [a, b, c, d] ws ∧ Seq K H l (refsA ps) ∧ PcsAt H ps ∧
  FitP ks a b c d ws (ps.map (·.2)) ∧ ∀ H', Same H H' → Q (.bl true) H'
theorem pcs_all {f : Int → Int → Bool} {qs : List (Addr × Int × Int)} {ps : List (Addr × PcT)} (he : qs.map (·.2) = ps.map (fun p => sqOf p.2)) (h : ∀ p ∈ ps, f p.2.x p.2.y = true) : (qs.all fun q => f q.2.1 q.2.2) = true := by
  rw [List.all_eq_true]
  intro q hq
  have : q.2 ∈ ps.map (fun p => sqOf p.2) := by rw [← he]; exact List.mem_map_of_mem hq
  obtain ⟨p, hp, e⟩ := List.mem_map.mp this
  rw [← e]; exact h p hp
theorem goal_dp {K : PySem.W.Frag} {H : Hp} {t : Addr} {ws : List Str} (h : SqT K H t (ws.map V.str)) : Dp K H (.ref t) (.tuple (ws.map .str)) := .tup h (by
  clear h
  induction ws with
  | nil => exact .nil
  | cons w ws ih => exact .cons (.str w) ih)
theorem goal_sh {ks : List KdT} {a b c d : Option Int} {ws : List Str} (nk : ∀ k ∈ ks, PyData.strOk k.z = true) (h : GoalIs ks [a, b, c, d] ws) : SeqAt.shaped (.tuple (ws.map .str)) = true := by
  have pl : ∀ n ∈ plainOf ks, PyData.strOk n = true := fun n hn => by
    unfold plainOf at hn
    obtain ⟨k, hk, rfl⟩ := List.mem_map.mp hn
    exact nk k ((List.mem_filter.mp hk).1)
  have sd : ∀ s ∈ sidesOf [a, b, c, d], PyData.strOk s = true := fun s hs => by
    have all : ∀ s ∈ sides4, PyData.strOk s = true := by decide +kernel
    unfold sidesOf at hs
    obtain ⟨⟨p1, p2⟩, hp, rfl⟩ := List.mem_map.mp hs
    exact all _ (List.of_mem_zip ((List.mem_filter.mp hp).1)).1
  have n1 : PyData.strOk (Str.ofString "hold") = true := by decide +kernel
  have n2 : PyData.strOk (Str.ofString "take") = true := by decide +kernel
  have n3 : PyData.strOk (Str.ofString "reach") = true := by decide +kernel
  rcases h with rfl | ⟨n, rfl, hn⟩ | ⟨s, n, rfl, hs, hn⟩
  · simp [SeqAt.shaped, PyData.canLay0, PyData.canLayAll0, PyData.depth, PyData.depthAll, n1]
  · simp [SeqAt.shaped, PyData.canLay0, PyData.canLayAll0, PyData.depth, PyData.depthAll, n2, pl n hn]
  · obtain ⟨k, hk, rfl⟩ := List.mem_map.mp hn
    simp [SeqAt.shaped, PyData.canLay0, PyData.canLayAll0, PyData.depth, PyData.depthAll, n3, sd s hs, nk k hk]
theorem goal_eqv {ks : List KdT} {es : List (Option Int)} {ws : List Str} (h : GoalIs ks es ws) : PyData.eqv (.tuple (ws.map .str)) (.tuple [.str "hold"]) = decide (ws = [("hold" : Str)]) := by
  rcases h with rfl | ⟨n, rfl, _⟩ | ⟨s, n, rfl, _⟩
  · simp [PyData.eqv, PyData.eqvAll]
  · simp [PyData.eqv, PyData.eqvAll]
  · simp [PyData.eqv, PyData.eqvAll]
theorem O_do_pieces_fit (T : Tx K mg w) : FnOk P w K mg base CX0 3 T.a_do_pieces_fit T.d_do_pieces_fit ["game", "pieces"] (spFitP K T.c_Kind T.c_Game) := by
  refine T.F_do_pieces_fit.ok sc_do_pieces_fit (fun vs H Q E h => ?_) (fun cdv A outer s H vs Q E hr h => ?_)
  · obtain ⟨g, l, ks, a, b, c, d, ws, n, ps, rfl, _⟩ := h; rfl
  obtain ⟨g, l, ks, a, b, c, d, ws, n, ps, rfl, hg, nd, gi, hl, hp, fit, k⟩ := h
  have z16 : ps.length ≤ 16 := by have := fit.fw; rw [List.length_map] at this; exact this
  refine ⟨_, (pss_cons (ps_set (i := 2) sc_do_pieces_fit.nd rfl (Or.inl rfl) (pe_call (O_squares_of T) (hr.mono (by decide)) (by rfl) T.m_squares_of T.F_squares_of.kp T.b_squares_of .nil pass0 (pa_cons (pv 1) pa_nil)))
      (pss_cons (ps_if (PW.pt (pw_or (pt_cmpR op_ne (pe_callB (r := Gs.rLenT K P w) call_lenT (by rfl) T.z_len (by decide +kernel) (pa_cons (pe_callTy (T := "set") (r := rSetOfN K P w) (cr_setOfN rfl hr.units) (by rfl) T.z_set (by decide +kernel) (pa_cons (pv 2) pa_nil)) pa_nil)) (pe_callB call_len_seq (by rfl) T.z_len (by decide +kernel) (pa_cons (pv 2) pa_nil)) (nomark _)) (pw_or1 (pt_not (pt_truth (pe_call (O_are_on_field T) (hr.mono (by decide)) (by rfl) T.m_are_on_field T.F_are_on_field.kp T.b_are_on_field .nil pass0 (pa_cons (pv 0) (pa_cons (pv 2) pa_nil))) (by intro _; rfl)))))) (pss_one (ps_ret pe_bl)) pss_nil)
      (pss_cons (ps_setLc (i := 3) (own := [("hand", 4), ("name", 5), ("_", 6)]) (g := (gSeq K 4 (gCons (gName 4) (gCons (gName 5) (gCons (gName 6) (gCons (gName 6) gNil)))))) rfl sc_do_pieces_fit.nd rfl rfl (sw_true rfl rfl rfl (by decide +kernel)) (pi_or (pi_list (pv 1)) (pi_tup (pv 1))) (blkOk_by (N := n_do_pieces_fit) (sc := defScope s_do_pieces_fit) (by decide +kernel)) (fun _ _ _ _ _ => (pg_seq rfl (pgs_cons (pg_name (i := 4) sc_do_pieces_fit.nd rfl (Or.inl rfl)) (pgs_cons (pg_name (i := 5) sc_do_pieces_fit.nd rfl (Or.inl rfl)) (pgs_cons (pg_name (i := 6) sc_do_pieces_fit.nd rfl (Or.inl rfl)) (pgs_cons (pg_name (i := 6) sc_do_pieces_fit.nd rfl (Or.inl rfl)) pgs_nil)))))) (fun _ _ _ _ _ => pts_one (pt_val (pe_fldK (K := K) rfl (pe_dget (Nat.lt_of_le_of_lt (Nat.add_le_add_left (by decide) _) hr.units) (pe_fldK (K := K) rfl (pv 0)) (pv 5) (fun _ _ => rfl))))) (fun _ _ _ _ _ => (pv 4)))
      (pss_cons (ps_if (PW.pt (pw_or (pt_cmpR op_gt (pe_bm PySem.F.plainAttrs_list PySem.F.slot_list_count PySem.F.type_list_count mt_lcount (pv 3) (pa_cons pe_int pa_nil)) pe_int (nomark _)) (pw_or1 (pt_cmpR op_gt (pe_bm PySem.F.plainAttrs_list PySem.F.slot_list_count PySem.F.type_list_count mt_lcount (pv 3) (pa_cons pe_int pa_nil)) pe_int (nomark _))))) (pss_one (ps_ret pe_bl)) pss_nil)
      (pss_one (ps_ret (pe_or (pe_cmpR (op_neD hr.units) (pe_fldK (K := K) rfl (pv 0)) (pe_tup (pa_cons pe_str pa_nil)) (nomark _)) (pe_one (pe_cmpR op_in_seq pe_int (pv 3) (by rfl)))))))))), ?_⟩
  refine ⟨_, rfl, l, ps, rfl, hl, hp, by omega, fun H1 v qs s1 hq he => ?_⟩
  have ndq : (qs.map (·.2)).Nodup := by
    have := fit.nd
    rw [List.map_map] at this
    rw [he]; exact this
  have lq : qs.length = ps.length := by have := congrArg List.length he; rw [List.length_map, List.length_map] at this; exact this
  dsimp only [gName]
  obtain ⟨q1, q2, q3⟩ := set_ask (K := K) hq (by omega)
  refine ⟨_, rfl, v, _, rfl, q1, q2, q3, fun sa L ha nL h1 h2 => ?_⟩
  have s2 : Same H1 (upd H1 sa (SetTO P w sa L)) := same_new ha
  obtain ⟨r1, r2⟩ := set_tell (K := K) (o := SetTO P w sa L) hq ha nL h1 h2
  rw [decide_eq_true ndq] at r2
  have r2 := of_decide_eq_true r2
  refine ⟨sa, L, rfl, upd_same, r1, ?_⟩
  rw [r2]
  generalize upd H1 sa (SetTO P w sa L) = H2 at s2 r1 ⊢
  have hq2 := hq.same s2
  have s12 := s1.trans s2
  refine ⟨_, rfl, v, _, rfl, .inl (.of hq2.1), ?_⟩
  rw [show (refsA qs).length = qs.length from List.length_map ..]
  refine ⟨rfl, _, rfl, ?_⟩
  refine iteB (fun e => ?_) (fun _ => ?_)
  · rw [decide_eq_true rfl] at e; cases e
  refine ⟨_, rfl, _, rfl, g, v, ks, a, b, c, d, ws, n, qs, rfl, hg.same s12, .inl (.of hq2.1), fun q hqm => .inr (hq2.2 q hqm), by omega, fun H3 s3 => ⟨_, rfl, ?_⟩⟩
  rw [pcs_all he (f := inE a b c d) fun p hp => fit.on p.2 (List.mem_map_of_mem hp)]
  refine iteF ?_
  have s13 := s12.trans s3
  have hl3 : Seq K H3 l (refsA ps) := hl.imp s13.seq s13.seqT
  have hp3 := hp.same s13
  have hg3 := hg.same s13
  clear hq2 hq r1 r2 q1 q2 q3 h1 h2 nL ha
  -- the hands of the lords
  have len : (refsA ps).length = ps.length := List.length_map ..
  refine pi_seq_rd (a := l) rfl hl3 (fun J G hG W => fun D hD => ?_)
  refine lc_it W (fun i H' => Same H3 H' ∧ H' D = some (.lst ((lordsH ks ((ps.take i).map (·.2))).map V.int))) ⟨same_new hD, upd_same⟩ (fun i H' _ h => hG H' (ExtI.of h.1)) ?_ ?_
  · rintro i x H4 H5 hi ⟨s4, hD4⟩ ⟨rfl, hx⟩
    rw [List.getElem?_map] at hx
    obtain ⟨p, hpi, rfl⟩ := Option.map_eq_some_iff.mp hx
    have hm := List.mem_of_getElem? hpi
    obtain ⟨kd, hkd, ez, hv⟩ := tab_has nd (fit.nm p.2 (List.mem_map_of_mem hm))
    refine gSeq.of ((hp3 p hm).same s4).seq rfl ⟨_, _, rfl, _, _, rfl, _, _, rfl, _, _, rfl, rfl, rfl, ?_⟩
    obtain ⟨dx, tk, te, tg, tt, g1, g2, g3, g4, g5, g6⟩ := hg3.same s4
    obtain ⟨dk, tl, tr, ls, f1, _⟩ := g6 kd hkd
    refine ⟨_, rfl, g, _, dx, _, _, rfl, g1, T.cl_Game, T.nF_Game_table, rfl, _, rfl, tt, .ref kd.a, rfl, ?_, ?_⟩
    · rw [← hv]; exact DGet.k (k := Sum.inr p.2.z) g5
    refine ⟨kd.a, _, dk, _, _, rfl, f1, T.cl_Kind, T.nF_Kind_is_lord, rfl, _, rfl, ?_⟩
    have el : lordZ ks p.2.z = kd.q := by rw [← ez]; exact lordZ_of nd hkd
    have nx : lordsH ks ((ps.take (i + 1)).map (·.2)) = lordsH ks ((ps.take i).map (·.2)) ++ (if kd.q = true then [p.2.h] else []) := by
      unfold lordsH
      rw [List.take_add_one, hpi, List.map_append, List.filter_append, List.map_append]
      congr 1
      show (List.filter _ [p.2]).map _ = _
      rw [List.filter_cons, el]
      cases kd.q <;> rfl
    refine iteB (fun e => ?_) (fun e => ?_)
    · refine ⟨_, rfl, _, hD4, ?_, same_own s4 hD, ?_⟩
      · rw [List.length_map]
        unfold lordsH
        rw [List.length_map]
        have h1 := List.length_filter_le (fun p => lordZ ks p.z) ((ps.take i).map (·.2))
        have h2 := List.length_take_le i ps
        rw [List.length_map] at h1
        have hi' : i < ps.length := by rw [len] at hi; exact hi
        exact szK (by omega)
      · rw [upd_same, nx, if_pos e, List.map_append]; rfl
    · refine ⟨s4, ?_⟩
      rw [nx, if_neg (by rw [e]; decide), List.append_nil]; exact hD4
  rintro H4 ⟨s4, hD4⟩
  rw [len, List.take_length] at hD4
  dsimp only [gName]
  have gz := fit.l0
  have go := fit.l1
  refine ⟨_, rfl, .inl ⟨rfl, _, .of hD4⟩, D, _, 0, rfl, rfl, .of hD4, _, _, rfl, rfl, _, rfl, ?_⟩
  refine iteB (fun e => absurd (of_decide_eq_true e) (by omega)) (fun _ => ?_)
  refine ⟨_, rfl, .inl ⟨rfl, _, .of hD4⟩, D, _, 1, rfl, rfl, .of hD4, _, _, rfl, rfl, _, rfl, ?_⟩
  refine iteB (fun e => absurd (of_decide_eq_true e) (by omega)) (fun _ => ?_)
  obtain ⟨dx, tk, te, tg, tt, g1, g2, g3, g4, g5, g6⟩ := hg3.same s4
  refine ⟨_, rfl, g, _, dx, _, _, rfl, g1, T.cl_Game, T.nF_Game_goal, rfl, szl rfl, fun th hth => ?_⟩
  have st : Same H4 (upd H4 th (.tup [.str "hold"])) := same_new hth
  refine ⟨_, .tuple [.str "hold"], goal_dp (st.seqT g4), .tup (.of upd_same) (.cons (.str _) .nil), goal_sh fit.nk gi, by decide +kernel, _, rfl, ?_⟩
  rw [goal_eqv gi]
  have s14 := (s13.trans s4).trans st
  refine iteB (fun e => ?_) (fun e => ?_)
  · exact k _ s14
  · have e : (!decide (ws = [("hold" : Str)])) = false := e
    have e2 : ws = [("hold" : Str)] := by simpa using e
    refine ⟨_, rfl, D, _, rfl, .inl (.of (st _ _ hD4)), rfl, ?_, ?_⟩
    · rw [List.all_map]; exact List.all_eq_true.mpr fun _ _ => rfl
    · have : inV (.int 1) ((lordsH ks (ps.map (·.2))).map V.int) = true := by
        unfold inV
        rw [List.any_eq_true]
        exact ⟨.int 1, List.mem_map_of_mem (fit.ho e2), rfl⟩
      rw [this]
      exact k _ s14
/-- the stones on the field, on none of them a piece -/
def spFitS (K : PySem.W.Frag) (CK CG : Addr) : Sp := fun vs H Q _ => ∃ (g l l2 : Addr) (ks : List KdT) (a b c d : Option Int) (ws : List Str) (n : Int) (ps : List (Addr × PcT)) (ss : List (Addr × Int × Int)), vs = [.ref g, .ref l, .ref l2] ∧ GameAt K CK CG H g ks a b c d ws n ∧ Seq K H l (refsA ps) ∧ PcsAt H ps ∧ Seq K H l2 (refsA ss) ∧ SqsAt H ss ∧
  ps.length ≤ 16 ∧ ss.length ≤ 16 ∧ (ps.map (fun p => sqOf p.2) ++ ss.map (·.2)).Nodup ∧ (∀ q ∈ ss, inE a b c d q.2.1 q.2.2 = true) ∧ ∀ H', Same H H' → Q (.bl true) H'
theorem O_do_stones_fit (T : Tx K mg w) : FnOk P w K mg base CX0 3 T.a_do_stones_fit T.d_do_stones_fit ["game", "pieces", "stones"] (spFitS K T.c_Kind T.c_Game) := by
  refine T.F_do_stones_fit.ok sc_do_stones_fit (fun vs H Q E h => ?_) (fun cdv A outer s H vs Q E hr h => ?_)
  · obtain ⟨g, l, l2, ks, a, b, c, d, ws, n, ps, ss, rfl, _⟩ := h; rfl
  obtain ⟨g, l, l2, ks, a, b, c, d, ws, n, ps, ss, rfl, hg, hl, hp, hl2, hs, z16, y16, nd, on, k⟩ := h
  refine ⟨_, (pss_cons (ps_set (i := 3) sc_do_stones_fit.nd rfl (Or.inl rfl) (pe_op op_cat (pe_call (O_squares_of T) (hr.mono (by decide)) (by rfl) T.m_squares_of T.F_squares_of.kp T.b_squares_of .nil pass0 (pa_cons (pv 1) pa_nil)) (pe_lc (own := [("stone", 4)]) (g := (gName 4)) rfl sc_do_stones_fit.nd (pi_or (pi_list (pv 2)) (pi_tup (pv 2))) (blkOk_by (N := n_do_stones_fit) (sc := defScope s_do_stones_fit) (by decide +kernel)) (fun _ _ _ _ _ => (pg_name (i := 4) sc_do_stones_fit.nd rfl (Or.inl rfl))) (fun _ _ _ _ _ => pts_nil) (fun _ _ _ _ _ => (pe_callTy (T := "tuple") (r := rTupOf K) call_tuple_of (by rfl) T.z_tuple (by decide +kernel) (pa_cons (pv 4) pa_nil))))))
      (pss_one (ps_ret (pe_and (pe_cmpR op_eq (pe_callB (r := Gs.rLenT K P w) call_lenT (by rfl) T.z_len (by decide +kernel) (pa_cons (pe_callTy (T := "set") (r := rSetOfN K P w) (cr_setOfN rfl hr.units) (by rfl) T.z_set (by decide +kernel) (pa_cons (pv 3) pa_nil)) pa_nil)) (pe_callB call_len_seq (by rfl) T.z_len (by decide +kernel) (pa_cons (pv 3) pa_nil)) (nomark _)) (pe_one (pe_call (O_are_on_field T) (hr.mono (by decide)) (by rfl) T.m_are_on_field T.F_are_on_field.kp T.b_are_on_field .nil pass0 (pa_cons (pv 0) (pa_cons (pv 2) pa_nil)))))))), ?_⟩
  refine ⟨_, rfl, l, ps, rfl, hl, hp, by omega, fun H1 v qs s1 hq he => ?_⟩
  have lq : qs.length = ps.length := by have := congrArg List.length he; rw [List.length_map, List.length_map] at this; exact this
  have hl21 : Seq K H1 l2 (refsA ss) := hl2.imp s1.seq s1.seqT
  have hs1 := hs.same s1
  have len : (refsA ss).length = ss.length := List.length_map ..
  refine pi_seq_rd (a := l2) rfl hl21 (fun J G hG W => fun D hD => ?_)
  refine lc_it W (fun i H' => Same H1 H' ∧ ∃ rs : List (Addr × Int × Int), H' D = some (.lst (refsA rs)) ∧ (∀ q ∈ rs, H' q.1 = some (.tup (sqV q.2))) ∧ rs.map (·.2) = (ss.take i).map (·.2)) ⟨same_new hD, [], upd_same, (fun q hq => nomatch hq), rfl⟩ (fun i H' _ h => hG H' (ExtI.of h.1)) ?_ ?_
  · rintro i x H2 H3 hi ⟨s2, rs, hD2, hr2, he2⟩ ⟨rfl, hx⟩
    refine ⟨rfl, ?_⟩
    rw [List.getElem?_map] at hx
    obtain ⟨p, hpi, rfl⟩ := Option.map_eq_some_iff.mp hx
    have hm := List.mem_of_getElem? hpi
    have few : rs.length < 1000 := by
      have := congrArg List.length he2
      rw [List.length_map, List.length_map] at this
      have := List.length_take_le i ss
      omega
    have fin : ∀ (t : Addr) (H4 : Hp), Same H3 H4 → H4 t = some (.tup (sqV p.2)) → ∃ acc, H4 D = some (.lst acc) ∧ acc.length < sizeLine ∧ Same H1 (upd H4 D (.lst (acc ++ [V.ref t]))) ∧ ∃ rs : List (Addr × Int × Int), upd H4 D (.lst (acc ++ [V.ref t])) D = some (.lst (refsA rs)) ∧ (∀ q ∈ rs, upd H4 D (.lst (acc ++ [V.ref t])) q.1 = some (.tup (sqV q.2))) ∧ rs.map (·.2) = (ss.take (i + 1)).map (·.2) := fun t H4 s4 ht => by
      refine ⟨_, s4 _ _ hD2, by rw [List.length_map]; exact szs few, same_own (s2.trans s4) hD, rs ++ [(t, p.2)], by rw [upd_same]; unfold refsA; rw [List.map_append]; rfl, fun q hqm => ?_, ?_⟩
      · rcases List.mem_append.mp hqm with hqm | hqm
        · exact lst_tup (s4 _ _ hD2) (s4 _ _ (hr2 q hqm))
        · rw [List.mem_singleton.mp hqm]; exact lst_tup (s4 _ _ hD2) ht
      · rw [List.map_append, he2, List.take_add_one, hpi, List.map_append]; rfl
    refine ⟨_, rfl, p.1, sqV p.2, rfl, ?_⟩
    rcases (hs1 p hm).same s2 with h | h
    · exact .inl ⟨.of h, fun t ht => fin t _ (same_new ht) upd_same⟩
    · exact .inr ⟨.of h, fin p.1 _ (Same.refl _) h⟩
  rintro H2 ⟨s2, rs, hD2, hr2, he2⟩
  rw [len, List.take_length] at he2
  have hq2 := hq.same s2
  refine ⟨v, D, _, _, rfl, rfl, hq2.1, hD2, ?_, fun m hm => ?_⟩
  · rw [List.length_map, List.length_map]
    have := congrArg List.length he2
    rw [List.length_map, List.length_map] at this
    exact Nat.le_trans (show qs.length + rs.length ≤ 1000 by omega) (by decide)
  have lr : rs.length = ss.length := by have := congrArg List.length he2; rw [List.length_map, List.length_map] at this; exact this
  have sm : Same H2 (upd H2 m (.lst (refsA qs ++ refsA rs))) := same_new hm
  have hn : NewSq (upd H2 m (.lst (refsA qs ++ refsA rs))) m (qs ++ rs) := ⟨by rw [upd_same]; unfold refsA; rw [List.map_append], fun q hqm => by
    rcases List.mem_append.mp hqm with hqm | hqm
    · exact sm _ _ (hq2.2 q hqm)
    · exact sm _ _ (hr2 q hqm)⟩
  have ndn : ((qs ++ rs).map (·.2)).Nodup := by rw [List.map_append, he, he2]; exact nd
  have s3 := (s1.trans s2).trans sm
  dsimp only [gName]
  generalize upd H2 m (.lst (refsA qs ++ refsA rs)) = H3 at hn s3 ⊢
  have ln : (qs ++ rs).length < 64 := by rw [List.length_append]; omega
  obtain ⟨q1, q2, q3⟩ := set_ask (K := K) hn ln
  refine ⟨_, rfl, m, _, rfl, q1, q2, q3, fun sa L ha nL h1 h2 => ?_⟩
  have s4 : Same H3 (upd H3 sa (SetTO P w sa L)) := same_new ha
  obtain ⟨r1, r2⟩ := set_tell (K := K) (o := SetTO P w sa L) hn ha nL h1 h2
  rw [decide_eq_true ndn] at r2
  have r2 := of_decide_eq_true r2
  refine ⟨sa, L, rfl, upd_same, r1, ?_⟩
  rw [r2]
  generalize upd H3 sa (SetTO P w sa L) = H4 at s4 r1 ⊢
  have hn4 := hn.same s4
  have s14 := s3.trans s4
  refine ⟨_, rfl, m, _, rfl, .inl (.of hn4.1), ?_⟩
  rw [show (refsA (qs ++ rs)).length = (qs ++ rs).length from List.length_map ..]
  refine ⟨rfl, _, rfl, ?_⟩
  refine iteB (fun _ => ?_) (fun e => absurd (of_decide_eq_false e) (fun z => z rfl))
  refine ⟨_, rfl, _, rfl, g, l2, ks, a, b, c, d, ws, n, ss, rfl, hg.same s14, hl2.imp s14.seq s14.seqT, hs.same s14, by omega, fun H5 s5 => ?_⟩
  rw [List.all_eq_true.mpr on]
  exact k H5 (s14.trans s5)
end
end K57

set_option Elab.async false
set_option linter.all false
set_option maxRecDepth 100000
set_option maxHeartbeats 4000000
/-! Layer G26: a name stored by a dict comprehension whose keys are tuples. -/
namespace Gs
open PySem PySem.Spec PyProof.Rows L2
section
variable {X : Cx}
theorem swD_true {kx vx : Expr} {gs : List Comprehension} {scope : Scope} {pos py : Pos} {y : Str} {l : Nat} {env : Env} (kind : env.scope.kind = .function) (loc : env.scope.names.lookup y = some .local) (line : (py.line == pos.line) = true)
    (apart : (scope.names.any fun (n, k) => n == y && (k == .local || k == .cell)) = false) : swapsWith (.DictComp kx vx gs scope pos) (some (.Name y py)) l env = pure true := by
  have ky : env.kindOf y = some .local := loc
  have block : env.blockKind = ScopeKind.function := by simp [Env.blockKind, kind]
  have at_ : (kx.DictComp vx gs scope pos).pos = pos := rfl
  unfold swapsWith
  simp only [ky, apart, block, at_, line]
  rfl
/-- y = {(a, ..): v for tg in iter ..} -/
theorem ps_setDct {i : Nat} {y : Str} {py : Pos} {kx vx tg iter : Expr} {ifs : List Expr} {scope : Scope} {own : List (Str × Nat)} {pos spos : Pos} {wi : TI} {g : TG} {tt : TT} {tk tv : TE} (hu : X.A.units + 2 < cLine) (calm : X.calm = true) (nod : X.N.Nodup)
    (slot : X.N[i]? = some y) (loc : X.env.scope.names.lookup y = some .local) (sw : swapsWith (.DictComp kx vx [⟨tg, iter, ifs, 0⟩] scope pos) (some (.Name y py)) spos.line X.env = pure true) (pi : PI X tg iter wi) (bok : BlkOk X.N X.env.scope scope own)
    (pg : ∀ (s : Shared) (H : Hp) (C : Addr) (cl : List (Str × Addr)) (fp : List Addr), PG (X.blk s H scope (compEnvC scope cl C X.env) fp) tg g)
    (pt : ∀ (s : Shared) (H : Hp) (C : Addr) (cl : List (Str × Addr)) (fp : List Addr), PTs (X.blk s H scope (compEnvC scope cl C X.env) fp) ifs tt)
    (pk : ∀ (s : Shared) (H : Hp) (C : Addr) (cl : List (Str × Addr)) (fp : List Addr), PE (X.blk s H scope (compEnvC scope cl C X.env) fp) kx tk)
    (pe : ∀ (s : Shared) (H : Hp) (C : Addr) (cl : List (Str × Addr)) (fp : List Addr), PE (X.blk s H scope (compEnvC scope cl C X.env) fp) vx tv) (plain : ∀ x, foldedSetIterable iter X.env x = pure x := by intro _; rfl) :
    PS X (.Assign [.Name y py] (.DictComp kx vx [⟨tg, iter, ifs, 0⟩] scope pos) spos) (tAsg (tDcT wi g tt tk tv (own.map (·.2))) (gName i)) := by
  constructor
  intro pins s σ H D I h
  rw [exec_Assign_Name_used _ _ _ _ sw]
  refine wpAny_bind (wpAny_standAt (wpAny_bind ?_))
  show wpAny _ X.A (do let _ ← comprehension (.DictComp kx vx [⟨tg, iter, ifs, 0⟩] scope pos) scope X.env (firstIterPos [⟨tg, iter, ifs, 0⟩] pos) newDict false (eval iter X.env) (some (assign (.Name y py) X.env))) _ _ s
  have h' : tDcT wi g tt tk tv (own.map (·.2)) σ H (fun x H1 => gName i x σ H1 D.nx) := h
  have run := dct_run (use := some (assign (.Name y py) X.env)) (Qf := fun _ s' => SP X pins D .next s') (pos' := firstIterPos [⟨tg, iter, ifs, 0⟩] pos) (pos := pos) hu calm nod I pi bok pg pt pk pe plain h' ?_
  · exact wpAny_bind (thn run fun _ s' hq => wpAny_pure (wpAny_pure hq))
  intro L C s' m H' I' q hn f
  show wpAny _ _ (assign (.Name y py) X.env (.ref L)) _ _ _
  refine wpAny_assign_Name (store_ok2 (v := V.ref L) I' nod slot (.inl loc) rfl ?_ (.inr loc))
  rintro s2 I2 ⟨a, sb, ha⟩
  obtain ⟨f0, f1, f2, f3, f4, f5⟩ := f
  have apart : C ≠ a := ha.elim (fun z => by rw [z]; exact f1) fun z e => f4 y a z e.symm
  exact ⟨m, hn.sameBut sb apart, fun h3 sb3 => ⟨_, H', I2.turned (t' := s2.toks) (fun b o hb e => (sb3.2 b hb).trans e) f0 f1 f3 f4 f5, q⟩⟩
end
end Gs

set_option Elab.async false
set_option linter.all false
set_option maxRecDepth 100000
set_option maxHeartbeats 4000000
namespace K57
open PySem PySem.Spec PyProof.Rows L2 Gs
section
variable {P : Program} {w : World} {K : PySem.W.Frag} {mg : Str → Option Value} {base : Heap} {H H' : Hp} {l : Addr} {xs : List V}
/-- what stands: pieces, then stones -/
def stand (ps : List (Addr × PcT)) (ss : List (Int × Int)) : List (List Key × V) := ps.map (fun p => (sqK (sqOf p.2), V.ref p.1)) ++ ss.map fun q => (sqK q, V.str "stone")
theorem sqK_inj {p q : Int × Int} (h : sqK p = sqK q) : p = q := by
  obtain ⟨h1, h2⟩ := List.cons.inj h
  have h2 := (List.cons.inj h2).1
  exact Prod.ext (Sum.inl.inj h1) (Sum.inl.inj h2)
theorem val_no {kvs : List (List Key × V)} {k : List Key} (h : k ∉ kvs.map (·.1)) : valV kvs k = none := by
  unfold valV
  rw [List.find?_eq_none.mpr fun p hp e => h ?_]; rfl
  have e := of_decide_eq_true e
  rw [← e]; exact List.mem_map_of_mem hp
/-- a dict by squares: at d -/
def StandAt (H : Hp) (d : Addr) (ps : List PcT) (ss : List (Int × Int)) : Prop := ∃ qs : List (Addr × PcT), H d = some (.dT (stand qs ss)) ∧ qs.map (·.2) = ps ∧ ∀ q ∈ qs, H q.1 = some (.tup (pcV q.2))
theorem StandAt.same {d : Addr} {ps : List PcT} {ss : List (Int × Int)} (h : StandAt H d ps ss) (s : Same H H') : StandAt H' d ps ss := by
  obtain ⟨qs, h1, h2, h3⟩ := h
  exact ⟨qs, s _ _ h1, h2, fun q hq => s _ _ (h3 q hq)⟩
/-- tuples of pieces, of squares, at a tuple -/
def PTup (K : PySem.W.Frag) (H : Hp) (t : Addr) (ps : List (Addr × PcT)) : Prop := SqT K H t (refsA ps) ∧ ∀ p ∈ ps, H p.1 = some (.tup (pcV p.2))
def STup (K : PySem.W.Frag) (H : Hp) (t : Addr) (ps : List (Addr × Int × Int)) : Prop := SqT K H t (refsA ps) ∧ ∀ p ∈ ps, H p.1 = some (.tup (sqV p.2))
theorem PTup.same {t : Addr} {ps : List (Addr × PcT)} (h : PTup K H t ps) (s : Same H H') : PTup K H' t ps := ⟨s.seqT h.1, fun p hp => s _ _ (h.2 p hp)⟩
theorem STup.same {t : Addr} {ps : List (Addr × Int × Int)} (h : STup K H t ps) (s : Same H H') : STup K H' t ps := ⟨s.seqT h.1, fun p hp => s _ _ (h.2 p hp)⟩
theorem seqT_dT {D a : Addr} {kvs : List (List Key × V)} {zs : List V} {o : HO} (hD : H D = some (.dT kvs)) (h : SqT K H a zs) : SqT K (upd H D o) a zs := by
  rcases h with (h | ⟨q, h⟩) | h
  · exact .inl (.inl (by rw [upd_ne (fun e => by rw [e, hD] at h; cases h)]; exact h))
  · exact .inl (.inr ⟨q, by rw [upd_ne (fun e => by rw [e, hD] at h; cases h)]; exact h⟩)
  · exact .inr h
def spStandOf (K : PySem.W.Frag) : Sp := fun vs H Q _ => ∃ (t u : Addr) (ps : List (Addr × PcT)) (ss : List (Addr × Int × Int)), vs = [.ref t, .ref u] ∧ PTup K H t ps ∧ STup K H u ss ∧ ps.length ≤ 16 ∧ ss.length ≤ 16 ∧ (ps.map (fun p => sqOf p.2) ++ ss.map (·.2)).Nodup ∧
  ∀ H' d, Same H H' → StandAt H' d (ps.map (·.2)) (ss.map (·.2)) → Q (.ref d) H'
theorem O_standing_of (T : Tx K mg w) : FnOk P w K mg base CX0 1 T.a_standing_of T.d_standing_of ["pieces", "stones"] (spStandOf K) := by
  refine T.F_standing_of.ok sc_standing_of (fun vs H Q E h => ?_) (fun cdv A outer s H vs Q E hr h => ?_)
  · obtain ⟨t, u, ps, ss, rfl, _⟩ := h; rfl
  obtain ⟨t, u, ps, ss, rfl, ht, hu, z16, y16, nd, k⟩ := h
  refine ⟨_, (pss_cons (ps_setDct (i := 2) (own := [("hand", 3), ("name", 4), ("column", 5), ("row", 6)]) (g := (gTup K 4 (gCons (gName 3) (gCons (gName 4) (gCons (gName 5) (gCons (gName 6) gNil)))))) (hu_two hr) rfl sc_standing_of.nd rfl rfl (swD_true rfl rfl rfl (by decide +kernel)) (pi_tup (pv 0)) (blkOk_by (N := n_standing_of) (sc := defScope s_standing_of) (by decide +kernel)) (fun _ _ _ _ _ => (pg_tup rfl (pgs_cons (pg_name (i := 3) sc_standing_of.nd rfl (Or.inl rfl)) (pgs_cons (pg_name (i := 4) sc_standing_of.nd rfl (Or.inl rfl)) (pgs_cons (pg_name (i := 5) sc_standing_of.nd rfl (Or.inl rfl)) (pgs_cons (pg_name (i := 6) sc_standing_of.nd rfl (Or.inl rfl)) pgs_nil)))))) (fun _ _ _ _ _ => pts_nil) (fun _ _ _ _ _ => (pe_tup (pa_cons (pv 5) (pa_cons (pv 6) pa_nil)))) (fun _ _ _ _ _ => (pe_tup (pa_cons (pv 3) (pa_cons (pv 4) (pa_cons (pv 5) (pa_cons (pv 6) pa_nil)))))))
      (pss_cons (ps_for PassesOwn.never rfl (pi_tup (pv 1)) (pg_name (i := 7) sc_standing_of.nd rfl (Or.inl rfl)) (pss_one (ps_dput (Nat.lt_of_le_of_lt (Nat.add_le_add_left (by decide) _) hr.units) (pv 2) (pv 7) pe_str rfl)))
      (pss_one (ps_ret (pv 2))))), ?_⟩
  obtain ⟨nd1, nd2, nd3⟩ := List.nodup_append.mp nd
  refine ⟨_, rfl, t, rfl, ⟨_, ht.1⟩, fun D hD => ?_⟩
  refine dct_it (walk_tup (K := K) (a := t) (xs := refsA ps)) (fun i H' => Same H H' ∧ ∃ qs : List (Addr × PcT), H' D = some (.dT (stand qs [])) ∧ qs.map (·.2) = (ps.take i).map (·.2) ∧ ∀ q ∈ qs, H' q.1 = some (.tup (pcV q.2))) ⟨same_new hD, [], upd_same, rfl, fun q hq => nomatch hq⟩ (fun i H' _ h => h.1.seqT ht.1) ?_ ?_
  · rintro i x H2 H3 hi ⟨s2, qs, hD2, he, hq⟩ ⟨rfl, hx⟩
    rw [List.getElem?_map] at hx
    obtain ⟨p, hpi, rfl⟩ := Option.map_eq_some_iff.mp hx
    have hm := List.mem_of_getElem? hpi
    refine ⟨p.1, _, rfl, .of (s2 _ _ (ht.2 p hm)), rfl, _, _, rfl, _, _, rfl, _, _, rfl, _, _, rfl, rfl, rfl, ?_⟩
    refine ⟨_, rfl, _, rfl, szl rfl, fun k1 hk1 => ?_⟩
    have s3 : Same H3 (upd H3 k1 (.tup (sqV (sqOf p.2)))) := same_new hk1
    have g1 : upd H3 k1 (.tup (sqV (sqOf p.2))) k1 = some (.tup (sqV (sqOf p.2))) := upd_same
    refine ⟨_, rfl, _, rfl, _, rfl, _, rfl, szl rfl, fun k2 hk2 => ?_⟩
    have s4 : Same (upd H3 k1 (.tup (sqV (sqOf p.2)))) (upd (upd H3 k1 (.tup (sqV (sqOf p.2)))) k2 (.tup (pcV p.2))) := same_new hk2
    have s34 := s3.trans s4
    have no : sqK (sqOf p.2) ∉ (stand qs []).map (·.1) := fun m => by
      unfold stand at m
      rw [List.map_nil, List.append_nil, List.map_map] at m
      obtain ⟨q, hqm, e⟩ := List.mem_map.mp m
      have e2 : sqOf q.2 = sqOf p.2 := sqK_inj e
      have m2 : q.2 ∈ (ps.take i).map (·.2) := by rw [← he]; exact List.mem_map_of_mem hqm
      obtain ⟨r, hr1, hr2⟩ := List.mem_map.mp m2
      obtain ⟨j, hj, ej⟩ := List.mem_iff_getElem.mp hr1
      rw [List.getElem_take] at ej
      have hj2 : j < i := by rw [List.length_take] at hj; omega
      have a2 : (ps.map (fun p => sqOf p.2))[i]? = some (sqOf p.2) := by rw [List.getElem?_map, hpi]; rfl
      obtain ⟨hi3, e3⟩ := List.getElem?_eq_some_iff.mp a2
      have hj3 := Nat.lt_trans hj2 hi3
      have e4 : (ps.map (fun p => sqOf p.2))[j] = sqOf p.2 := by
        rw [List.getElem_map, ej, hr2]; exact e2
      exact absurd (e4.trans e3.symm) (List.pairwise_iff_getElem.mp nd1 j i hj3 hi3 hj2)
    have few : (stand qs []).length ≤ 16 := by
      unfold stand
      have h1 := congrArg List.length he
      rw [List.length_map, List.length_map] at h1
      have h2 := List.length_take_le' i ps
      rw [List.length_append, List.length_map]
      simp only [List.map_nil, List.length_nil]
      omega
    refine ⟨_, sqK (sqOf p.2), k1, rfl, s4 _ _ g1, s34 _ _ hD2, Nat.lt_of_le_of_lt few (by decide), same_own (s2.trans s34) hD, qs ++ [(k2, p.2)], ?_, ?_, fun q hqm => ?_⟩
    · rw [upd_same, putK_new _ (val_no no)]
      unfold stand
      rw [List.map_append, List.map_nil, List.append_nil, List.append_nil]; rfl
    · rw [List.map_append, he, List.take_add_one, hpi, List.map_append]; rfl
    · have hD4 := s34 _ _ hD2
      rw [upd_ne (fun e => ?_)]
      · rcases List.mem_append.mp hqm with hqm | hqm
        · exact s34 _ _ (hq q hqm)
        · rw [List.mem_singleton.mp hqm]; exact upd_same
      · rcases List.mem_append.mp hqm with hqm | hqm
        · have := s34 _ _ (hq q hqm)
          rw [e, hD4] at this; cases this
        · rw [List.mem_singleton.mp hqm] at e
          have e : k2 = D := e
          have := s3 _ _ hD2
          have hk3 : upd H3 k1 (.tup (sqV (sqOf p.2))) k2 = none := hk2
          rw [← e, hk3] at this; cases this
  rintro H2 ⟨s2, qs, hD2, he, hq⟩
  rw [show (refsA ps).length = ps.length from List.length_map .., List.take_length] at he
  dsimp only [gName]
  have hu2 := hu.same s2
  refine ⟨_, rfl, u, rfl, ⟨_, hu2.1⟩, ?_⟩
  refine for_it (walk_tup (K := K) (a := u) (xs := refsA ss)) (fun i σ H' => (∃ x3 x4 x5 x6 x7 : Option V, σ = [some (.ref t), some (.ref u), some (.ref D), x3, x4, x5, x6, x7]) ∧ Same H H' ∧ (∀ q ∈ qs, H' q.1 = some (.tup (pcV q.2))) ∧ STup K H' u ss ∧ H' D = some (.dT (stand qs ((ss.take i).map (·.2))))) ⟨⟨_, _, _, _, _, rfl⟩, s2, hq, hu2, hD2⟩ (fun i σ H' _ h => h.2.2.2.1.1) ?_ ?_
  · rintro i x σ H3 H4 hi ⟨⟨x3, x4, x5, x6, x7, rfl⟩, s3, hq3, hu3, hD3⟩ ⟨rfl, hx⟩
    rw [List.getElem?_map] at hx
    obtain ⟨p, hpi, rfl⟩ := Option.map_eq_some_iff.mp hx
    have hm := List.mem_of_getElem? hpi
    have lss : (refsA ss).length = ss.length := List.length_map ..
    have hi : i < ss.length := by rw [← lss]; exact hi
    have ke : (stand qs ((ss.take i).map (·.2))).map (·.1) = (ps.map (fun p => sqOf p.2) ++ (ss.take i).map (·.2)).map sqK := by
      have : ps.map (fun p => sqOf p.2) = qs.map fun p => sqOf p.2 := by
        have := congrArg (List.map sqOf) he
        rw [List.map_map, List.map_map] at this; exact this.symm
      rw [this]
      simp [stand, Function.comp_def]
    have no : sqK p.2 ∉ (stand qs ((ss.take i).map (·.2))).map (·.1) := fun m => by
      rw [ke] at m
      obtain ⟨r, hr1, hr2⟩ := List.mem_map.mp m
      have hr2 := sqK_inj hr2
      subst hr2
      rcases List.mem_append.mp hr1 with hr1 | hr1
      · exact nd3 _ hr1 _ (List.mem_map_of_mem hm) rfl
      · rw [List.map_take] at hr1
        obtain ⟨j, hj, ej⟩ := List.mem_iff_getElem.mp hr1
        rw [List.getElem_take] at ej
        have hj2 : j < i := by rw [List.length_take] at hj; omega
        have a2 : (ss.map (·.2))[i]? = some p.2 := by rw [List.getElem?_map, hpi]; rfl
        obtain ⟨hi3, e3⟩ := List.getElem?_eq_some_iff.mp a2
        exact absurd (ej.trans e3.symm) (List.pairwise_iff_getElem.mp nd2 j i (Nat.lt_trans hj2 hi3) hi3 hj2)
    have few : (stand qs ((ss.take i).map (·.2))).length ≤ 40 := by
      have h1 := congrArg List.length he
      rw [List.length_map, List.length_map] at h1
      have h2 := List.length_take_le' i ss
      unfold stand
      rw [List.length_append, List.length_map, List.length_map, List.length_map]
      omega
    have hp3 := hu3.2 p hm
    have nt : ∀ {q : Addr} {zs : List V}, H4 q = some (.tup zs) → upd H4 D (.dT (putK (stand qs ((ss.take i).map (·.2))) (sqK p.2) (V.str "stone"))) q = some (.tup zs) := fun {q zs} h => by
      rw [upd_ne (fun e => by rw [e, hD3] at h; cases h)]; exact h
    refine ⟨_, rfl, _, rfl, D, _, rfl, DPut.t (k := sqK p.2) hD3 hp3 (Nat.lt_of_le_of_lt few (by decide)), ⟨_, _, _, _, _, rfl⟩, fun b o e => ?_, fun q hqm => nt (hq3 q hqm), ⟨seqT_dT hD3 hu3.1, fun q hqm => nt (hu3.2 q hqm)⟩, ?_⟩
    · rw [upd_ne (fun z => by rw [z, hD] at e; cases e)]; exact s3 _ _ e
    · rw [upd_same, putK_new _ (val_no no), List.take_add_one, hpi]
      unfold stand
      rw [List.map_append, List.map_append, List.append_assoc]; rfl
  · rintro σ H3 ⟨⟨x3, x4, x5, x6, x7, rfl⟩, s3, hq3, hu3, hD3⟩
    rw [show (refsA ss).length = ss.length from List.length_map .., List.take_length] at hD3
    exact ⟨_, rfl, k H3 D s3 ⟨qs, hD3, he, hq3⟩⟩
/-- the square of a hand's lord -/
def lordSq (ks : List KdT) (ps : List PcT) (h : Int) : Option (Int × Int) := ((ps.filter fun p => lordZ ks p.z && decide (p.h = h)).map sqOf).getLast?
/-- at t a tuple of the squares of the lords -/
def LordAt (H : Hp) (v : V) : Option (Int × Int) → Prop
  | none => v = .non
  | some q => ∃ a, v = .ref a ∧ H a = some (.tup (sqV q))
theorem LordAt.same {v : V} {o : Option (Int × Int)} (h : LordAt H v o) (s : Same H H') : LordAt H' v o := by
  cases o with
  | none => exact h
  | some q => obtain ⟨a, e, h⟩ := h; exact ⟨a, e, s _ _ h⟩
def LordsAt (K : PySem.W.Frag) (H : Hp) (t : Addr) (ks : List KdT) (ps : List PcT) : Prop := ∃ v0 v1, H t = some (.tup [v0, v1]) ∧ LordAt H v0 (lordSq ks ps 0) ∧ LordAt H v1 (lordSq ks ps 1)
theorem LordsAt.same {t : Addr} {ks : List KdT} {ps : List PcT} (h : LordsAt K H t ks ps) (s : Same H H') : LordsAt K H' t ks ps := by
  obtain ⟨v0, v1, h1, h2, h3⟩ := h
  exact ⟨v0, v1, s _ _ h1, h2.same s, h3.same s⟩
def spLordsOf (K : PySem.W.Frag) (CK CG : Addr) : Sp := fun vs H Q _ => ∃ (g t : Addr) (ks : List KdT) (a b c d : Option Int) (ws : List Str) (n : Int) (ps : List (Addr × PcT)), vs = [.ref g, .ref t] ∧ GameAt K CK CG H g ks a b c d ws n ∧ (ks.map (·.z)).Nodup ∧ PTup K H t ps ∧ (∀ p ∈ ps, (p.2.h = 0 ∨ p.2.h = 1) ∧ p.2.z ∈ ks.map (·.z)) ∧
  ∀ H' u, Same H H' → LordsAt K H' u ks (ps.map (·.2)) → Q (.ref u) H'
theorem lordSq_snoc {ks : List KdT} {ps : List PcT} {p : PcT} (h : Int) : lordSq ks (ps ++ [p]) h = if (lordZ ks p.z && decide (p.h = h)) = true then some (sqOf p) else lordSq ks ps h := by
  unfold lordSq
  rw [List.filter_append, List.map_append]
  by_cases e : (lordZ ks p.z && decide (p.h = h)) = true
  · rw [if_pos e, List.filter_cons, if_pos e]
    simp
  · rw [if_neg e, List.filter_cons, if_neg e]
    simp
theorem O_lords_of (T : Tx K mg w) : FnOk P w K mg base CX0 1 T.a_lords_of T.d_lords_of ["game", "pieces"] (spLordsOf K T.c_Kind T.c_Game) := by
  refine T.F_lords_of.ok sc_lords_of (fun vs H Q E h => ?_) (fun cdv A outer s H vs Q E hr h => ?_)
  · obtain ⟨g, t, ks, a, b, c, d, ws, n, ps, rfl, _⟩ := h; rfl
  obtain ⟨g, t, ks, a, b, c, d, ws, n, ps, rfl, hg, nd, ht, hh, k⟩ := h
  refine ⟨_, (pss_cons (ps_set (i := 2) sc_lords_of.nd rfl (Or.inl rfl) (pe_lst (pa_cons pe_non (pa_cons pe_non pa_nil))))
      (pss_cons (ps_for PassesOwn.never rfl (pi_tup (pv 1)) (pg_tup rfl (pgs_cons (pg_name (i := 3) sc_lords_of.nd rfl (Or.inl rfl)) (pgs_cons (pg_name (i := 4) sc_lords_of.nd rfl (Or.inl rfl)) (pgs_cons (pg_name (i := 5) sc_lords_of.nd rfl (Or.inl rfl)) (pgs_cons (pg_name (i := 6) sc_lords_of.nd rfl (Or.inl rfl)) pgs_nil))))) (pss_one (ps_if (pt_val (pe_fldK (K := K) rfl (pe_dget (Nat.lt_of_le_of_lt (Nat.add_le_add_left (by decide) _) hr.units) (pe_fldK (K := K) rfl (pv 0)) (pv 4) (fun _ _ => rfl)))) (pss_one (ps_asg (pe_tup (pa_cons (pv 5) (pa_cons (pv 6) pa_nil))) (pg_sub (pv 2) (pv 3) set_list))) pss_nil)))
      (pss_one (ps_ret (pe_callTy (T := "tuple") (r := rTupOf K) call_tuple_of (by rfl) T.z_tuple (by decide +kernel) (pa_cons (pv 2) pa_nil)))))), ?_⟩
  refine ⟨szl rfl, fun l hl => ?_⟩
  have s1 : Same H (upd H l (.lst [.non, .non])) := same_new hl
  have g1 : upd H l (.lst [.non, .non]) l = some (.lst [.non, .non]) := upd_same
  dsimp only [gName]
  generalize upd H l (.lst [V.non, V.non]) = H1 at s1 g1 ⊢
  refine ⟨_, rfl, t, rfl, ⟨_, (ht.same s1).1⟩, ?_⟩
  refine for_it (walk_tup (K := K) (a := t) (xs := refsA ps)) (fun i σ H' => (∃ x3 x4 x5 x6 : Option V, σ = [some (.ref g), some (.ref t), some (.ref l), x3, x4, x5, x6]) ∧ Same H H' ∧ ∃ v0 v1, H' l = some (.lst [v0, v1]) ∧ LordAt H' v0 (lordSq ks ((ps.take i).map (·.2)) 0) ∧ LordAt H' v1 (lordSq ks ((ps.take i).map (·.2)) 1)) ⟨⟨_, _, _, _, rfl⟩, s1, _, _, g1, rfl, rfl⟩ (fun i σ H' _ h => (ht.same h.2.1).1) ?_ ?_
  · rintro i x σ H2 H3 hi ⟨⟨x3, x4, x5, x6, rfl⟩, s2, v0, v1, hl2, l0, l1⟩ ⟨rfl, hx⟩
    rw [List.getElem?_map] at hx
    obtain ⟨p, hpi, rfl⟩ := Option.map_eq_some_iff.mp hx
    have hm := List.mem_of_getElem? hpi
    obtain ⟨kd, hkd, ez, hv⟩ := tab_has nd (hh p hm).2
    have nx : (ps.take (i + 1)).map (·.2) = (ps.take i).map (·.2) ++ [p.2] := by rw [List.take_add_one, hpi, List.map_append]; rfl
    refine ⟨p.1, _, rfl, .of (s2 _ _ (ht.2 p hm)), rfl, _, _, rfl, _, _, rfl, _, _, rfl, _, _, rfl, rfl, ?_⟩
    obtain ⟨dx, tk, te, tg, tt, f1, f2, f3, f4, f5, f6⟩ := hg.same s2
    obtain ⟨dk, tl, tr, ls, q1, _⟩ := f6 kd hkd
    refine ⟨_, rfl, g, _, dx, _, _, rfl, f1, T.cl_Game, T.nF_Game_table, rfl, _, rfl, tt, .ref kd.a, rfl, by rw [← hv]; exact DGet.k (k := Sum.inr p.2.z) f5, ?_⟩
    refine ⟨kd.a, _, dk, _, _, rfl, q1, T.cl_Kind, T.nF_Kind_is_lord, rfl, _, rfl, ?_⟩
    have el : lordZ ks p.2.z = kd.q := by rw [← ez]; exact lordZ_of nd hkd
    refine iteB (fun e => ?_) (fun e => ?_)
    · refine ⟨_, rfl, _, rfl, szl rfl, fun q hq => ?_⟩
      have sq : Same H3 (upd H3 q (.tup (sqV (sqOf p.2)))) := same_new hq
      have gq : upd H3 q (.tup (sqV (sqOf p.2))) q = some (.tup (sqV (sqOf p.2))) := upd_same
      have hl3 := sq _ _ hl2
      have l03 := l0.same sq
      have l13 := l1.same sq
      have up : ∀ {v : V} {o : Option (Int × Int)} {z : List V}, LordAt (upd H3 q (.tup (sqV (sqOf p.2)))) v o → LordAt (upd (upd H3 q (.tup (sqV (sqOf p.2)))) l (.lst z)) v o := fun {v o z} h => by
        cases o with
        | none => exact h
        | some r => obtain ⟨a, e, h⟩ := h; exact ⟨a, e, by rw [upd_ne (fun e => by rw [e, hl3] at h; cases h)]; exact h⟩
      have old : ∀ z, Same H (upd (upd H3 q (.tup (sqV (sqOf p.2)))) l (.lst z)) := fun z b o e => by
        rw [upd_ne (fun x => by rw [x, hl] at e; cases e)]; exact sq _ _ (s2 _ _ e)
      have new : LordAt (upd H3 q (.tup (sqV (sqOf p.2)))) (.ref q) (some (sqOf p.2)) := ⟨q, rfl, gq⟩
      rcases (hh p hm).1 with h0 | h0
      · refine ⟨_, rfl, _, rfl, l, _, _, 0, rfl, rfl, hl3, by rw [h0]; rfl, ⟨_, _, _, _, rfl⟩, old _, .ref q, v1, upd_same, ?_, ?_⟩
        · rw [nx, lordSq_snoc, el, e, h0]; exact up new
        · rw [nx, lordSq_snoc, el, e, h0]; exact up l13
      · refine ⟨_, rfl, _, rfl, l, _, _, 1, rfl, rfl, hl3, by rw [h0]; rfl, ⟨_, _, _, _, rfl⟩, old _, v0, .ref q, upd_same, ?_, ?_⟩
        · rw [nx, lordSq_snoc, el, e, h0]; exact up l03
        · rw [nx, lordSq_snoc, el, e, h0]; exact up new
    · refine ⟨⟨_, _, _, _, rfl⟩, s2, v0, v1, hl2, ?_, ?_⟩
      · rw [nx, lordSq_snoc, el, e]; exact l0
      · rw [nx, lordSq_snoc, el, e]; exact l1
  · rintro σ H2 ⟨⟨x3, x4, x5, x6, rfl⟩, s2, v0, v1, hl2, l0, l1⟩
    rw [show (refsA ps).length = ps.length from List.length_map .., List.take_length] at l0 l1
    refine ⟨_, rfl, l, _, rfl, .inl ⟨.of hl2, fun u hu => ?_⟩⟩
    have su : Same H2 (upd H2 u (.tup [v0, v1])) := same_new hu
    exact k _ u (s2.trans su) ⟨v0, v1, upd_same, l0.same su, l1.same su⟩
end
end K57

set_option Elab.async false
set_option linter.all false
set_option maxRecDepth 100000
set_option maxHeartbeats 4000000
namespace K57
open PySem PySem.Spec PyProof.Rows L2 Gs
section
variable {P : Program} {w : World} {K : PySem.W.Frag} {mg : Str → Option Value} {base : Heap} {H H' : Hp} {l : Addr} {xs : List V}
def encP (p : PcT) : PyData := .tuple ((pcK p).map kD)
def encS (p : Int × Int) : PyData := .tuple ((sqK p).map kD)
/-- pieces, squares, ascending -/
def sortP (ps : List PcT) : List PcT := ps.mergeSort (PySem.W.dataLe false encP)
def sortS (ps : List (Int × Int)) : List (Int × Int) := ps.mergeSort (PySem.W.dataLe false encS)
theorem sortP_perm (ps : List PcT) : (sortP ps).Perm ps := List.mergeSort_perm _ _
theorem sortS_perm (ps : List (Int × Int)) : (sortS ps).Perm ps := List.mergeSort_perm _ _
def sortPA (qs : List (Addr × PcT)) : List (Addr × PcT) := qs.mergeSort (PySem.W.dataLe false fun q => encP q.2)
theorem sortPA_perm (qs : List (Addr × PcT)) : (sortPA qs).Perm qs := List.mergeSort_perm _ _
theorem sortPA_map (qs : List (Addr × PcT)) : (sortPA qs).map (·.2) = sortP (qs.map (·.2)) := by
  unfold sortPA sortP
  exact List.map_mergeSort (f := fun q : Addr × PcT => q.2) (r := PySem.W.dataLe false fun q : Addr × PcT => encP q.2) (s := PySem.W.dataLe false encP) (l := qs) (fun _ _ _ _ => rfl)
theorem sortPA_refs (qs : List (Addr × PcT)) : (sortK (qs.map fun q => (q.1, pcK q.2))).map (fun b => V.ref b.1) = refsA (sortPA qs) := by
  have e : sortK (qs.map fun q => (q.1, pcK q.2)) = (sortPA qs).map fun q => (q.1, pcK q.2) := by
    unfold sortK sortPA
    exact (List.map_mergeSort (f := fun q : Addr × PcT => ((q.1, pcK q.2) : TK)) (r := PySem.W.dataLe false fun q : Addr × PcT => encP q.2) (s := PySem.W.dataLe false encT) (l := qs) (fun _ _ _ _ => rfl)).symm
  rw [e, List.map_map]; rfl
/-- self.pieces = tuple(sorted([tuple(x) for x in xs])) -/
theorem srtP {r : TS} {D : Ends} {x0 x1 x2 x3 x4 x5 x6 : Option V} {ps : List (Addr × PcT)} {f : Str} (hi : x2 = some (.ref l)) (hl : Seq K H l (refsA ps)) (hp : ∀ p ∈ ps, TrS H p.1 (pcV p.2)) (hz : ps.length ≤ 1000)
    (k : ∀ t qs H', Same H H' → SqT K H' t (refsA qs) → (∀ q ∈ qs, H' q.1 = some (.tup (pcV q.2))) → qs.map (·.2) = sortP (ps.map (·.2)) → tSeq (sFld K (tVar 0) (tC (.ref t)) f) r D [x0, x1, x2, x3, x4, x5, x6] H') :
    tSeq (sFld K (tVar 0) (tCB (rTupOf K) (tCons (tCB (rSortK K) (tCons (tLc (fun σ H R => iList K (tVar 2) σ H R ∨ iTup K (tVar 2) σ H R) (gName 5) tYes (tCB (rTupOf K) (tCons (tVar 5) tNil)) [5]) tNil)) tNil)) f) r D [x0, x1, x2, x3, x4, x5, x6] H := by
  subst hi
  have len : (refsA ps).length = ps.length := List.length_map ..
  refine pi_seq_rd (a := l) rfl hl (fun J G hG W => fun D hD => ?_)
  refine lc_it W (fun i H' => Same H H' ∧ ∃ qs : List (Addr × PcT), H' D = some (.lst (refsA qs)) ∧ (∀ q ∈ qs, H' q.1 = some (.tup (pcV q.2))) ∧ qs.map (·.2) = (ps.take i).map (·.2)) ⟨same_new hD, [], upd_same, (fun q hq => nomatch hq), rfl⟩ (fun i H' _ h => hG H' (ExtI.of h.1)) ?_ ?_
  · rintro i x H2 H3 hi ⟨s2, qs, hD2, hq, he⟩ ⟨rfl, hx⟩
    refine ⟨rfl, ?_⟩
    rw [List.getElem?_map] at hx
    obtain ⟨p, hpi, rfl⟩ := Option.map_eq_some_iff.mp hx
    have hm := List.mem_of_getElem? hpi
    have few : qs.length < 10000 := by
      have := congrArg List.length he
      rw [List.length_map, List.length_map] at this
      have := List.length_take_le' i ps
      omega
    have fin : ∀ (t : Addr) (H4 : Hp), Same H3 H4 → H4 t = some (.tup (pcV p.2)) → ∃ acc, H4 D = some (.lst acc) ∧ acc.length < sizeLine ∧ Same H (upd H4 D (.lst (acc ++ [V.ref t]))) ∧ ∃ qs : List (Addr × PcT), upd H4 D (.lst (acc ++ [V.ref t])) D = some (.lst (refsA qs)) ∧ (∀ q ∈ qs, upd H4 D (.lst (acc ++ [V.ref t])) q.1 = some (.tup (pcV q.2))) ∧ qs.map (·.2) = (ps.take (i + 1)).map (·.2) := fun t H4 s4 ht => by
      refine ⟨_, s4 _ _ hD2, by rw [List.length_map]; exact szK (by omega), same_own (s2.trans s4) hD, qs ++ [(t, p.2)], by rw [upd_same]; unfold refsA; rw [List.map_append]; rfl, fun q hqm => ?_, ?_⟩
      · rcases List.mem_append.mp hqm with hqm | hqm
        · exact lst_tup (s4 _ _ hD2) (s4 _ _ (hq q hqm))
        · rw [List.mem_singleton.mp hqm]; exact lst_tup (s4 _ _ hD2) ht
      · rw [List.map_append, he, List.take_add_one, hpi, List.map_append]; rfl
    refine ⟨_, rfl, p.1, pcV p.2, rfl, ?_⟩
    rcases (hp p hm).same s2 with h | h
    · exact .inl ⟨.of h, fun t ht => fin t _ (same_new ht) upd_same⟩
    · exact .inr ⟨.of h, fin p.1 _ (Same.refl _) h⟩
  rintro H2 ⟨s2, qs, hD2, hq, he⟩
  rw [len, List.take_length] at he
  refine ⟨D, qs.map (fun q => (q.1, pcK q.2)), rfl, ?_, ?_, ?_, ?_, fun Pp hP => ⟨Pp, _, rfl, .inl ⟨.of upd_same, fun t ht => ?_⟩⟩⟩
  · rw [List.map_map]; exact .of hD2
  · intro p hpm
    obtain ⟨q, hqm, rfl⟩ := List.mem_map.mp hpm
    exact .of (hq q hqm)
  · intro p hpm
    obtain ⟨q, hqm, rfl⟩ := List.mem_map.mp hpm
    exact fun z => nomatch z
  · intro p hpm p' hpm'
    obtain ⟨q, hqm, rfl⟩ := List.mem_map.mp hpm
    obtain ⟨q', hqm', rfl⟩ := List.mem_map.mp hpm'
    rfl
  rw [sortPA_refs] at ht ⊢
  have s3 : Same H2 (upd H2 Pp (.lst (refsA (sortPA qs)))) := same_new hP
  have s4 := s3.trans (same_new ht (o := .tup (refsA (sortPA qs))))
  refine k t (sortPA qs) _ (s2.trans s4) (.of upd_same) (fun q hqm => s4 _ _ (hq q ((sortPA_perm qs).mem_iff.mp hqm))) ?_
  rw [sortPA_map, he]
def sortSA (qs : List (Addr × Int × Int)) : List (Addr × Int × Int) := qs.mergeSort (PySem.W.dataLe false fun q => encS q.2)
theorem sortSA_perm (qs : List (Addr × Int × Int)) : (sortSA qs).Perm qs := List.mergeSort_perm _ _
theorem sortSA_map (qs : List (Addr × Int × Int)) : (sortSA qs).map (·.2) = sortS (qs.map (·.2)) := by
  unfold sortSA sortS
  exact List.map_mergeSort (f := fun q : Addr × Int × Int => q.2) (r := PySem.W.dataLe false fun q : Addr × Int × Int => encS q.2) (s := PySem.W.dataLe false encS) (l := qs) (fun _ _ _ _ => rfl)
theorem sortSA_refs (qs : List (Addr × Int × Int)) : (sortK (qs.map fun q => (q.1, sqK q.2))).map (fun b => V.ref b.1) = refsA (sortSA qs) := by
  have e : sortK (qs.map fun q => (q.1, sqK q.2)) = (sortSA qs).map fun q => (q.1, sqK q.2) := by
    unfold sortK sortSA
    exact (List.map_mergeSort (f := fun q : Addr × Int × Int => ((q.1, sqK q.2) : TK)) (r := PySem.W.dataLe false fun q : Addr × Int × Int => encS q.2) (s := PySem.W.dataLe false encT) (l := qs) (fun _ _ _ _ => rfl)).symm
  rw [e, List.map_map]; rfl
/-- self.stones = tuple(sorted([tuple(x) for x in xs])) -/
theorem srtS {r : TS} {D : Ends} {x0 x1 x2 x3 x4 x5 x6 : Option V} {ps : List (Addr × Int × Int)} {f : Str} (hi : x3 = some (.ref l)) (hl : Seq K H l (refsA ps)) (hp : ∀ p ∈ ps, TrS H p.1 (sqV p.2)) (hz : ps.length ≤ 1000)
    (k : ∀ t qs H', Same H H' → SqT K H' t (refsA qs) → (∀ q ∈ qs, H' q.1 = some (.tup (sqV q.2))) → qs.map (·.2) = sortS (ps.map (·.2)) → tSeq (sFld K (tVar 0) (tC (.ref t)) f) r D [x0, x1, x2, x3, x4, x5, x6] H') :
    tSeq (sFld K (tVar 0) (tCB (rTupOf K) (tCons (tCB (rSortK K) (tCons (tLc (fun σ H R => iList K (tVar 3) σ H R ∨ iTup K (tVar 3) σ H R) (gName 6) tYes (tCB (rTupOf K) (tCons (tVar 6) tNil)) [6]) tNil)) tNil)) f) r D [x0, x1, x2, x3, x4, x5, x6] H := by
  subst hi
  have len : (refsA ps).length = ps.length := List.length_map ..
  refine pi_seq_rd (a := l) rfl hl (fun J G hG W => fun D hD => ?_)
  refine lc_it W (fun i H' => Same H H' ∧ ∃ qs : List (Addr × Int × Int), H' D = some (.lst (refsA qs)) ∧ (∀ q ∈ qs, H' q.1 = some (.tup (sqV q.2))) ∧ qs.map (·.2) = (ps.take i).map (·.2)) ⟨same_new hD, [], upd_same, (fun q hq => nomatch hq), rfl⟩ (fun i H' _ h => hG H' (ExtI.of h.1)) ?_ ?_
  · rintro i x H2 H3 hi ⟨s2, qs, hD2, hq, he⟩ ⟨rfl, hx⟩
    refine ⟨rfl, ?_⟩
    rw [List.getElem?_map] at hx
    obtain ⟨p, hpi, rfl⟩ := Option.map_eq_some_iff.mp hx
    have hm := List.mem_of_getElem? hpi
    have few : qs.length < 10000 := by
      have := congrArg List.length he
      rw [List.length_map, List.length_map] at this
      have := List.length_take_le' i ps
      omega
    have fin : ∀ (t : Addr) (H4 : Hp), Same H3 H4 → H4 t = some (.tup (sqV p.2)) → ∃ acc, H4 D = some (.lst acc) ∧ acc.length < sizeLine ∧ Same H (upd H4 D (.lst (acc ++ [V.ref t]))) ∧ ∃ qs : List (Addr × Int × Int), upd H4 D (.lst (acc ++ [V.ref t])) D = some (.lst (refsA qs)) ∧ (∀ q ∈ qs, upd H4 D (.lst (acc ++ [V.ref t])) q.1 = some (.tup (sqV q.2))) ∧ qs.map (·.2) = (ps.take (i + 1)).map (·.2) := fun t H4 s4 ht => by
      refine ⟨_, s4 _ _ hD2, by rw [List.length_map]; exact szK (by omega), same_own (s2.trans s4) hD, qs ++ [(t, p.2)], by rw [upd_same]; unfold refsA; rw [List.map_append]; rfl, fun q hqm => ?_, ?_⟩
      · rcases List.mem_append.mp hqm with hqm | hqm
        · exact lst_tup (s4 _ _ hD2) (s4 _ _ (hq q hqm))
        · rw [List.mem_singleton.mp hqm]; exact lst_tup (s4 _ _ hD2) ht
      · rw [List.map_append, he, List.take_add_one, hpi, List.map_append]; rfl
    refine ⟨_, rfl, p.1, sqV p.2, rfl, ?_⟩
    rcases (hp p hm).same s2 with h | h
    · exact .inl ⟨.of h, fun t ht => fin t _ (same_new ht) upd_same⟩
    · exact .inr ⟨.of h, fin p.1 _ (Same.refl _) h⟩
  rintro H2 ⟨s2, qs, hD2, hq, he⟩
  rw [len, List.take_length] at he
  refine ⟨D, qs.map (fun q => (q.1, sqK q.2)), rfl, ?_, ?_, ?_, ?_, fun Pp hP => ⟨Pp, _, rfl, .inl ⟨.of upd_same, fun t ht => ?_⟩⟩⟩
  · rw [List.map_map]; exact .of hD2
  · intro p hpm
    obtain ⟨q, hqm, rfl⟩ := List.mem_map.mp hpm
    exact .of (hq q hqm)
  · intro p hpm
    obtain ⟨q, hqm, rfl⟩ := List.mem_map.mp hpm
    exact fun z => nomatch z
  · intro p hpm p' hpm'
    obtain ⟨q, hqm, rfl⟩ := List.mem_map.mp hpm
    obtain ⟨q', hqm', rfl⟩ := List.mem_map.mp hpm'
    rfl
  rw [sortSA_refs] at ht ⊢
  have s3 : Same H2 (upd H2 Pp (.lst (refsA (sortSA qs)))) := same_new hP
  have s4 := s3.trans (same_new ht (o := .tup (refsA (sortSA qs))))
  refine k t (sortSA qs) _ (s2.trans s4) (.of upd_same) (fun q hqm => s4 _ _ (hq q ((sortSA_perm qs).mem_iff.mp hqm))) ?_
  rw [sortSA_map, he]
end
end K57

set_option Elab.async false
set_option linter.all false
set_option maxRecDepth 100000
set_option maxHeartbeats 4000000
namespace K57
open PySem PySem.Spec PyProof.Rows L2 Gs
section
variable {P : Program} {w : World} {K : PySem.W.Frag} {mg : Str → Option Value} {base : Heap} {H H' : Hp}
def psF (g tp ts : Addr) (t : Int) (td tl : Addr) : List (Str × V) := [("game", .ref g), ("pieces", .ref tp), ("stones", .ref ts), ("turn", .int t), ("standing", .ref td), ("lords", .ref tl)]
/-- what a position is made of -/
structure PosD where
  ks : List KdT
  a : Option Int
  b : Option Int
  c : Option Int
  d : Option Int
  ws : List Str
  n : Int
  pcs : List PcT
  sts : List (Int × Int)
  t : Int
/-- at p a position, its game at g -/
def PosAt (K : PySem.W.Frag) (CK CG CP : Addr) (H : Hp) (p g : Addr) (z : PosD) : Prop := ∃ (dx tp ts td tl : Addr) (ps : List (Addr × PcT)) (ss : List (Addr × Int × Int)), H p = some (.ins CP dx (psF g tp ts z.t td tl)) ∧ PTup K H tp ps ∧ ps.map (·.2) = z.pcs ∧ STup K H ts ss ∧ ss.map (·.2) = z.sts ∧
  StandAt H td z.pcs z.sts ∧ LordsAt K H tl z.ks z.pcs ∧ GameAt K CK CG H g z.ks z.a z.b z.c z.d z.ws z.n
theorem PosAt.same {CK CG CP : Addr} {p g : Addr} {z : PosD} (h : PosAt K CK CG CP H p g z) (s : Same H H') : PosAt K CK CG CP H' p g z := by
  obtain ⟨dx, tp, ts, td, tl, ps, ss, h1, h2, h3, h4, h5, h6, h7, h8⟩ := h
  exact ⟨dx, tp, ts, td, tl, ps, ss, s _ _ h1, h2.same s, h3, h4.same s, h5, h6.same s, h7.same s, h8.same s⟩
/-- what is no instance stays -/
theorem ExtI.tup {q : Addr} {zs : List V} (e : ExtI H H') (h : H q = some (.tup zs)) : H' q = some (.tup zs) := e _ _ h fun _ _ _ z => nomatch z
theorem ExtI.lst {q : Addr} {zs : List V} (e : ExtI H H') (h : H q = some (.lst zs)) : H' q = some (.lst zs) := e _ _ h fun _ _ _ z => nomatch z
theorem PTup.upI {t : Addr} {ps : List (Addr × PcT)} (h : PTup K H t ps) (e : ExtI H H') : PTup K H' t ps := ⟨e.sqT h.1, fun p hp => ExtI.tup e (h.2 p hp)⟩
theorem STup.upI {t : Addr} {ps : List (Addr × Int × Int)} (h : STup K H t ps) (e : ExtI H H') : STup K H' t ps := ⟨e.sqT h.1, fun p hp => ExtI.tup e (h.2 p hp)⟩
theorem StandAt.upI {d : Addr} {ps : List PcT} {ss : List (Int × Int)} (h : StandAt H d ps ss) (e : ExtI H H') : StandAt H' d ps ss := by
  obtain ⟨qs, h1, h2, h3⟩ := h
  exact ⟨qs, e _ _ h1 (fun _ _ _ z => nomatch z), h2, fun q hq => ExtI.tup e (h3 q hq)⟩
theorem TrS.upI {l : Addr} {xs : List V} (h : TrS H l xs) (e : ExtI H H') : TrS H' l xs := h.imp (ExtI.lst e) (ExtI.tup e)
/-- everything but x stays -/
theorem ext_game {x CX dx CK CG g : Addr} {fs : List (Str × V)} {ks : List KdT} {a b c d : Option Int} {ws : List Str} {n : Int} (e : Gs.Ext x H H') (hx : H x = some (.ins CX dx fs)) (gx : g ≠ x) (kx : ∀ k ∈ ks, k.a ≠ x) (h : GameAt K CK CG H g ks a b c d ws n) : GameAt K CK CG H' g ks a b c d ws n := by
  obtain ⟨d2, tk, te, tg, tt, h1, h2, h3, h4, h5, h6⟩ := h
  have i : ExtI H H' := ExtI.put' hx e
  refine ⟨d2, tk, te, tg, tt, e _ _ gx h1, i.sqT h2, i.sqT h3, i.sqT h4, i _ _ h5 (fun _ _ _ z => nomatch z), fun k hk => ?_⟩
  obtain ⟨d3, tl, tr, ls, f1, f2, f3, f4, f5⟩ := h6 k hk
  exact ⟨d3, tl, tr, ls, e _ _ (kx k hk) f1, i.sqT f2, fun p hp => i.sqT (f3 p hp), f4, i.sqT f5⟩
def spPos (K : PySem.W.Frag) (CK CG CP : Addr) : Sp := fun vs H Q _ => ∃ (x dx g l m : Addr) (z : PosD) (ps : List (Addr × PcT)) (ss : List (Addr × Int × Int)), vs = [.ref x, .ref g, .ref l, .ref m, .int z.t] ∧ H x = some (.ins CP dx []) ∧ g ≠ x ∧ (∀ k ∈ z.ks, k.a ≠ x) ∧
  GameAt K CK CG H g z.ks z.a z.b z.c z.d z.ws z.n ∧ (z.ks.map (·.z)).Nodup ∧ GoalIs z.ks [z.a, z.b, z.c, z.d] z.ws ∧ Seq K H l (refsA ps) ∧ PcsAt H ps ∧ 1 ≤ ps.length ∧ (∀ p ∈ ps, p.2.h = 0 ∨ p.2.h = 1) ∧ Seq K H m (refsA ss) ∧ SqsAt H ss ∧ ss.length ≤ 16 ∧ (z.t = 0 ∨ z.t = 1) ∧
  FitP z.ks z.a z.b z.c z.d z.ws (ps.map (·.2)) ∧ (ps.map (fun p => sqOf p.2) ++ ss.map (·.2)).Nodup ∧ (∀ q ∈ ss, inE z.a z.b z.c z.d q.2.1 q.2.2 = true) ∧ z.pcs = sortP (ps.map (·.2)) ∧ z.sts = sortS (ss.map (·.2)) ∧
  ∀ H', Gs.Ext x H H' → PosAt K CK CG CP H' x g z → Q .non H'
theorem O_Position___init__ (T : Tx K mg w) : FnOk P w K mg base (L2.CX P w) 6 T.a_Position___init__ T.d_Position___init__ ["self", "game", "pieces", "stones", "turn"] (spPos K T.c_Kind T.c_Game T.c_Position) := by
  refine funD_okC T.F_Position___init__ sc_Position___init__ (fun vs H Q E h => ?_) (fun cdv hcd A outer s H vs Q E hr h => ?_)
  · obtain ⟨x, dx, g, l, m, z, ps, ss, rfl, _⟩ := h; rfl
  obtain ⟨x, dx, g, l, m, z, ps, ss, rfl, hx, gx, kx, hg, nd, gi, hl, hp, z1, hh, hm, hs, y16, ht, fit, nda, on, ep, es, k⟩ := h
  have z16 : ps.length ≤ 16 := by have := fit.fw; rw [List.length_map] at this; exact this
  refine ⟨_, (pss_cons (ps_if (pt_not (pt_val (pe_callB (r := rIsi K) call_isi (by rfl) T.z_isinstance (by decide +kernel) (pa_cons (pv 1) (pa_cons (pe_glob (v := .ref T.c_Game) (by rfl) T.m_Game rfl) pa_nil))))) (pss_one (ps_raise rfl (takes_of rfl rfl rfl rfl) (pmk_oex T.ox_BadGame T.ic_BadGame T.ti_BadGame (O_BadGame___init__ T) (hr.mono (by decide)) T.b_BadGame___init__ .nil pass0 (by rfl) T.m_BadGame (pa_cons pe_str pa_nil)))) pss_nil)
      (pss_cons (ps_if (pt_not (pt_truth (pe_call (O_are_pieces T) (hr.mono (by decide)) (by rfl) T.m_are_pieces T.F_are_pieces.kp T.b_are_pieces .nil pass0 (pa_cons (pv 1) (pa_cons (pv 2) pa_nil))) (by intro _; rfl))) (pss_one (ps_raise rfl (takes_of rfl rfl rfl rfl) (pmk_oex T.ox_BadPosition T.ic_BadPosition T.ti_BadPosition (O_BadPosition___init__ T) (hr.mono (by decide)) T.b_BadPosition___init__ .nil pass0 (by rfl) T.m_BadPosition (pa_cons pe_str pa_nil)))) pss_nil)
      (pss_cons (ps_if (pt_not (pt_truth (pe_call (O_are_stones T) (hr.mono (by decide)) (by rfl) T.m_are_stones T.F_are_stones.kp T.b_are_stones .nil pass0 (pa_cons (pv 3) pa_nil)) (by intro _; rfl))) (pss_one (ps_raise rfl (takes_of rfl rfl rfl rfl) (pmk_oex T.ox_BadPosition T.ic_BadPosition T.ti_BadPosition (O_BadPosition___init__ T) (hr.mono (by decide)) T.b_BadPosition___init__ .nil pass0 (by rfl) T.m_BadPosition (pa_cons pe_str pa_nil)))) pss_nil)
      (pss_cons (ps_if (pt_not (pt_val (pe_call (O_is_within T) (hr.mono (by decide)) (by rfl) T.m_is_within T.F_is_within.kp T.b_is_within .nil pass0 (pa_cons (pv 4) (pa_cons pe_int (pa_cons pe_int pa_nil)))))) (pss_one (ps_raise rfl (takes_of rfl rfl rfl rfl) (pmk_oex T.ox_BadNumber T.ic_BadNumber T.ti_BadNumber (O_BadNumber___init__ T) (hr.mono (by decide)) T.b_BadNumber___init__ .nil pass0 (by rfl) T.m_BadNumber (pa_cons pe_str pa_nil)))) pss_nil)
      (pss_cons (ps_if (pt_not (pt_truth (pe_call (O_do_pieces_fit T) (hr.mono (by decide)) (by rfl) T.m_do_pieces_fit T.F_do_pieces_fit.kp T.b_do_pieces_fit .nil pass0 (pa_cons (pv 1) (pa_cons (pv 2) pa_nil))) (by intro _; rfl))) (pss_one (ps_raise rfl (takes_of rfl rfl rfl rfl) (pmk_oex T.ox_Misfit T.ic_Misfit T.ti_Misfit (O_Misfit___init__ T) (hr.mono (by decide)) T.b_Misfit___init__ .nil pass0 (by rfl) T.m_Misfit (pa_cons pe_str pa_nil)))) pss_nil)
      (pss_cons (ps_if (pt_not (pt_truth (pe_call (O_do_stones_fit T) (hr.mono (by decide)) (by rfl) T.m_do_stones_fit T.F_do_stones_fit.kp T.b_do_stones_fit .nil pass0 (pa_cons (pv 1) (pa_cons (pv 2) (pa_cons (pv 3) pa_nil)))) (by intro _; rfl))) (pss_one (ps_raise rfl (takes_of rfl rfl rfl rfl) (pmk_oex T.ox_Misfit T.ic_Misfit T.ti_Misfit (O_Misfit___init__ T) (hr.mono (by decide)) T.b_Misfit___init__ .nil pass0 (by rfl) T.m_Misfit (pa_cons pe_str pa_nil)))) pss_nil)
      (pss_cons (ps_fld (pv 0) (pv 1) rfl)
      (pss_cons (ps_fld (pv 0) (pe_callTy (T := "tuple") (r := rTupOf K) call_tuple_of (by rfl) T.z_tuple (by decide +kernel) (pa_cons (pe_callB (r := rSortK K) (cr_sortK hr.units) (by rfl) T.z_sorted (by decide +kernel) (pa_cons (pe_lc (own := [("piece", 5)]) (g := (gName 5)) rfl sc_Position___init__.nd (pi_or (pi_list (pv 2)) (pi_tup (pv 2))) (blkOk_by (N := n_Position___init__) (sc := defScope s_Position___init__) (by decide +kernel)) (fun _ _ _ _ _ => (pg_name (i := 5) sc_Position___init__.nd rfl (Or.inl rfl))) (fun _ _ _ _ _ => pts_nil) (fun _ _ _ _ _ => (pe_callTy (T := "tuple") (r := rTupOf K) call_tuple_of (by rfl) T.z_tuple (by decide +kernel) (pa_cons (pv 5) pa_nil)))) pa_nil)) pa_nil)) rfl)
      (pss_cons (ps_fld (pv 0) (pe_callTy (T := "tuple") (r := rTupOf K) call_tuple_of (by rfl) T.z_tuple (by decide +kernel) (pa_cons (pe_callB (r := rSortK K) (cr_sortK hr.units) (by rfl) T.z_sorted (by decide +kernel) (pa_cons (pe_lc (own := [("stone", 6)]) (g := (gName 6)) rfl sc_Position___init__.nd (pi_or (pi_list (pv 3)) (pi_tup (pv 3))) (blkOk_by (N := n_Position___init__) (sc := defScope s_Position___init__) (by decide +kernel)) (fun _ _ _ _ _ => (pg_name (i := 6) sc_Position___init__.nd rfl (Or.inl rfl))) (fun _ _ _ _ _ => pts_nil) (fun _ _ _ _ _ => (pe_callTy (T := "tuple") (r := rTupOf K) call_tuple_of (by rfl) T.z_tuple (by decide +kernel) (pa_cons (pv 6) pa_nil)))) pa_nil)) pa_nil)) rfl)
      (pss_cons (ps_fld (pv 0) (pv 4) rfl)
      (pss_cons (ps_fld (pv 0) (pe_call (O_standing_of T) (hr.mono (by decide)) (by rfl) T.m_standing_of T.F_standing_of.kp T.b_standing_of .nil pass0 (pa_cons (pe_fldK (K := K) rfl (pv 0)) (pa_cons (pe_fldK (K := K) rfl (pv 0)) pa_nil))) rfl)
      (pss_one (ps_fld (pv 0) (pe_call (O_lords_of T) (hr.mono (by decide)) (by rfl) T.m_lords_of T.F_lords_of.kp T.b_lords_of .nil pass0 (pa_cons (pv 1) (pa_cons (pe_fldK (K := K) rfl (pv 0)) pa_nil))) rfl))))))))))))), ?_⟩
  obtain ⟨dg, tk, te, tg, tt, hg1, _⟩ := id hg
  refine ⟨_, rfl, .ref g, .ref T.c_Game, .ref T.c_Game, .ref T.c_Game, true, rfl, .own _, T.ty_Game.ty hg1, T.kk_Game, _, rfl, iteF ?_⟩
  have hh2 : ∀ p ∈ ps, (p.2.h = 0 ∨ p.2.h = 1) ∧ p.2.z ∈ z.ks.map (·.z) := fun p hpm => ⟨hh p hpm, fit.nm p.2 (List.mem_map_of_mem hpm)⟩
  refine ⟨_, rfl, _, rfl, g, l, z.ks, z.a, z.b, z.c, z.d, z.ws, z.n, ps, rfl, hg, nd, hl, hp, z1, z16, hh2, fun H1 s1 => ⟨_, rfl, iteF ?_⟩⟩
  refine ⟨_, rfl, m, ss, rfl, hm.imp s1.seq s1.seqT, hs.same s1, y16, fun H2 t2 => ⟨_, rfl, iteF ?_⟩⟩
  have s2 := s1.trans t2
  refine ⟨_, rfl, g, .int z.t, .int z.t, some 0, some 1, rfl, .int _, fun H3 t3 => ⟨_, rfl, ?_⟩⟩
  have e1 : inB (some 0) (some 1) (.int z.t) = true := by
    show (decide ((0 : Int) ≤ z.t) && decide (z.t ≤ 1)) = true
    rw [decide_eq_true (by omega), decide_eq_true (by omega)]; rfl
  rw [e1]
  refine iteF ?_
  have s3 := s2.trans t3
  refine ⟨_, rfl, _, rfl, g, l, z.ks, z.a, z.b, z.c, z.d, z.ws, z.n, ps, rfl, hg.same s3, nd, gi, hl.imp s3.seq s3.seqT, hp.same s3, fit, fun H4 t4 => ⟨_, rfl, iteF ?_⟩⟩
  have s4 := s3.trans t4
  refine ⟨_, rfl, _, rfl, _, rfl, g, l, m, z.ks, z.a, z.b, z.c, z.d, z.ws, z.n, ps, ss, rfl, hg.same s4, hl.imp s4.seq s4.seqT, hp.same s4, hm.imp s4.seq s4.seqT, hs.same s4, z16, y16, nda, on, fun H5 t5 => ⟨_, rfl, iteF ?_⟩⟩
  have s5 := s4.trans t5
  clear t5 t4 t3 t2 s1 s2 s3 s4 e1 hg1
  -- self.game
  have hx5 := s5 _ _ hx
  refine ⟨_, rfl, _, rfl, x, _, dx, _, rfl, hx5, T.cl_Position, T.nF_Position_game, Nat.le_of_ble_eq_true rfl, ?_⟩
  change tSeq _ _ _ _ (upd H5 x (.ins T.c_Position dx [("game", .ref g)]))
  have x6 : Gs.Ext x H (upd H5 x (.ins T.c_Position dx [("game", .ref g)])) := (Ext.of s5).trans Ext.bag
  have h6 : upd H5 x (.ins T.c_Position dx [("game", .ref g)]) x = some (.ins T.c_Position dx [("game", .ref g)]) := upd_same
  generalize upd H5 x (.ins T.c_Position dx [("game", .ref g)]) = H6 at x6 h6 ⊢
  have i6 : ExtI H H6 := ExtI.put' hx x6
  clear hx5 s5
  -- self.pieces
  refine srtP (l := l) (ps := ps) rfl (hl.imp i6.sqL i6.sqT) (fun p hpm => (hp p hpm).upI i6) (by omega) fun tp qs H7 s7 htp hqs eqs => ?_
  have h7 := s7 _ _ h6
  refine ⟨_, rfl, x, _, dx, _, rfl, h7, T.cl_Position, T.nF_Position_pieces, Nat.le_of_ble_eq_true rfl, ?_⟩
  change tSeq _ _ _ _ (upd H7 x (.ins T.c_Position dx [("game", .ref g), ("pieces", .ref tp)]))
  have x8 : Gs.Ext x H (upd H7 x (.ins T.c_Position dx [("game", .ref g), ("pieces", .ref tp)])) := (x6.trans (Ext.of s7)).trans Ext.bag
  have h8 : upd H7 x (.ins T.c_Position dx [("game", .ref g), ("pieces", .ref tp)]) x = some (.ins T.c_Position dx [("game", .ref g), ("pieces", .ref tp)]) := upd_same
  have pt8 : PTup K (upd H7 x (.ins T.c_Position dx [("game", .ref g), ("pieces", .ref tp)])) tp qs := PTup.upI ⟨htp, hqs⟩ (ExtI.put h7)
  generalize upd H7 x (.ins T.c_Position dx [("game", .ref g), ("pieces", .ref tp)]) = H8 at x8 h8 pt8 ⊢
  have i8 : ExtI H H8 := ExtI.put' hx x8
  clear h7 htp hqs s7 i6 h6 x6
  -- self.stones
  refine srtS (l := m) (ps := ss) rfl (hm.imp i8.sqL i8.sqT) (fun p hpm => (hs p hpm).upI i8) (by omega) fun ts rs H9 s9 hts hrs ers => ?_
  have h9 := s9 _ _ h8
  refine ⟨_, rfl, x, _, dx, _, rfl, h9, T.cl_Position, T.nF_Position_stones, Nat.le_of_ble_eq_true rfl, ?_⟩
  change tSeq _ _ _ _ (upd H9 x (.ins T.c_Position dx [("game", .ref g), ("pieces", .ref tp), ("stones", .ref ts)]))
  have h10 : upd H9 x (.ins T.c_Position dx [("game", .ref g), ("pieces", .ref tp), ("stones", .ref ts)]) x = some (.ins T.c_Position dx [("game", .ref g), ("pieces", .ref tp), ("stones", .ref ts)]) := upd_same
  have x10 : Gs.Ext x H (upd H9 x (.ins T.c_Position dx [("game", .ref g), ("pieces", .ref tp), ("stones", .ref ts)])) := (x8.trans (Ext.of s9)).trans Ext.bag
  have pt10 : PTup K (upd H9 x (.ins T.c_Position dx [("game", .ref g), ("pieces", .ref tp), ("stones", .ref ts)])) tp qs := (pt8.same s9).upI (ExtI.put h9)
  have st10 : STup K (upd H9 x (.ins T.c_Position dx [("game", .ref g), ("pieces", .ref tp), ("stones", .ref ts)])) ts rs := STup.upI ⟨hts, hrs⟩ (ExtI.put h9)
  generalize upd H9 x (.ins T.c_Position dx [("game", .ref g), ("pieces", .ref tp), ("stones", .ref ts)]) = H10 at x10 h10 pt10 st10 ⊢
  clear h9 hts hrs s9 i8 h8 x8 pt8
  -- self.turn
  refine ⟨_, rfl, _, rfl, x, _, dx, _, rfl, h10, T.cl_Position, T.nF_Position_turn, Nat.le_of_ble_eq_true rfl, ?_⟩
  change tSeq _ _ _ _ (upd H10 x (.ins T.c_Position dx [("game", .ref g), ("pieces", .ref tp), ("stones", .ref ts), ("turn", .int z.t)]))
  have h11 : upd H10 x (.ins T.c_Position dx [("game", .ref g), ("pieces", .ref tp), ("stones", .ref ts), ("turn", .int z.t)]) x = some (.ins T.c_Position dx [("game", .ref g), ("pieces", .ref tp), ("stones", .ref ts), ("turn", .int z.t)]) := upd_same
  have x11 : Gs.Ext x H (upd H10 x (.ins T.c_Position dx [("game", .ref g), ("pieces", .ref tp), ("stones", .ref ts), ("turn", .int z.t)])) := x10.trans Ext.bag
  have pt11 := pt10.upI (ExtI.put h10 (o := .ins T.c_Position dx [("game", .ref g), ("pieces", .ref tp), ("stones", .ref ts), ("turn", .int z.t)]))
  have st11 := st10.upI (ExtI.put h10 (o := .ins T.c_Position dx [("game", .ref g), ("pieces", .ref tp), ("stones", .ref ts), ("turn", .int z.t)]))
  generalize upd H10 x (.ins T.c_Position dx [("game", .ref g), ("pieces", .ref tp), ("stones", .ref ts), ("turn", .int z.t)]) = H11 at x11 h11 pt11 st11 ⊢
  clear h10 x10 pt10 st10
  -- self.standing
  have lq : qs.length = ps.length := by have := congrArg List.length eqs; rw [List.length_map, (sortP_perm _).length_eq, List.length_map] at this; exact this
  have lr : rs.length = ss.length := by have := congrArg List.length ers; rw [List.length_map, (sortS_perm _).length_eq, List.length_map] at this; exact this
  have ndq : (qs.map (fun p => sqOf p.2) ++ rs.map (·.2)).Nodup := by
    have e2 : qs.map (fun p => sqOf p.2) = (sortP (ps.map (·.2))).map sqOf := by rw [← eqs, List.map_map]; rfl
    have e3 : (qs.map (fun p => sqOf p.2) ++ rs.map (·.2)).Perm (ps.map (fun p => sqOf p.2) ++ ss.map (·.2)) := by
      rw [e2, ers]
      refine List.Perm.append ?_ (sortS_perm _)
      have := (sortP_perm (ps.map (·.2))).map sqOf
      rw [List.map_map] at this; exact this
    exact e3.nodup_iff.mpr nda
  refine ⟨_, rfl, x, _, dx, _, _, rfl, h11, T.cl_Position, T.nF_Position_pieces, rfl, _, rfl, x, _, dx, _, _, rfl, h11, T.cl_Position, T.nF_Position_stones, rfl, tp, ts, qs, rs, rfl, pt11, st11, by omega, by omega, ndq, fun H12 td s12 hst => ?_⟩
  have h12 := s12 _ _ h11
  refine ⟨_, rfl, x, _, dx, _, rfl, h12, T.cl_Position, T.nF_Position_standing, Nat.le_of_ble_eq_true rfl, ?_⟩
  generalize e13 : upd H12 x _ = H13
  have h13 : H13 x = some (.ins T.c_Position dx [("game", .ref g), ("pieces", .ref tp), ("stones", .ref ts), ("turn", .int z.t), ("standing", .ref td)]) := by rw [← e13]; exact upd_same
  have i13 : ExtI H12 H13 := by rw [← e13]; exact ExtI.put h12
  have x13 : Gs.Ext x H H13 := by rw [← e13]; exact (x11.trans (Ext.of s12)).trans Ext.bag
  have pt13 := (pt11.same s12).upI i13
  have st13 := (st11.same s12).upI i13
  have sd13 := hst.upI i13
  clear e13 h12 i13 h11 x11 pt11 st11 s12 hst
  have eq1 : qs.map (·.2) = z.pcs := eqs.trans ep.symm
  have eq2 : rs.map (·.2) = z.sts := ers.trans es.symm
  rw [eq1, eq2] at sd13
  have hhq : ∀ p ∈ qs, (p.2.h = 0 ∨ p.2.h = 1) ∧ p.2.z ∈ z.ks.map (·.z) := fun p hpm => by
    have : p.2 ∈ sortP (ps.map (·.2)) := by rw [← eqs]; exact List.mem_map_of_mem hpm
    obtain ⟨q, hq, e⟩ := List.mem_map.mp ((sortP_perm _).mem_iff.mp this)
    rw [← e]; exact hh2 q hq
  -- self.lords
  refine ⟨_, rfl, _, rfl, x, _, dx, _, _, rfl, h13, T.cl_Position, T.nF_Position_pieces, rfl, g, tp, z.ks, z.a, z.b, z.c, z.d, z.ws, z.n, qs, rfl, ext_game x13 hx gx kx hg, nd, pt13, hhq, fun H14 tl s14 hlo => ?_⟩
  have h14 := s14 _ _ h13
  refine ⟨_, rfl, x, _, dx, _, rfl, h14, T.cl_Position, T.nF_Position_lords, Nat.le_of_ble_eq_true rfl, ?_⟩
  rw [eq1] at hlo
  have i15 : ExtI H14 (upd H14 x (.ins T.c_Position dx (psF g tp ts z.t td tl))) := ExtI.put h14
  have x15 : Gs.Ext x H (upd H14 x (.ins T.c_Position dx (psF g tp ts z.t td tl))) := (x13.trans (Ext.of s14)).trans Ext.bag
  have lo15 : LordsAt K (upd H14 x (.ins T.c_Position dx (psF g tp ts z.t td tl))) tl z.ks z.pcs := by
    obtain ⟨v0, v1, q1, q2, q3⟩ := hlo
    have up : ∀ {v : V} {o : Option (Int × Int)}, LordAt H14 v o → LordAt (upd H14 x (.ins T.c_Position dx (psF g tp ts z.t td tl))) v o := fun {v o} h => by
      cases o with
      | none => exact h
      | some r => obtain ⟨a, e, h⟩ := h; exact ⟨a, e, ExtI.tup i15 h⟩
    exact ⟨v0, v1, ExtI.tup i15 q1, up q2, up q3⟩
  exact k _ x15 ⟨dx, tp, ts, td, tl, qs, rs, upd_same, (pt13.same s14).upI i15, eq1, (st13.same s14).upI i15, eq2, (sd13.same s14).upI i15, lo15, ext_game x15 hx gx kx hg⟩
end
end K57

set_option Elab.async false
set_option linter.all false
set_option maxRecDepth 100000
set_option maxHeartbeats 4000000
/-! Layer G10: list(D), D a written dict. -/
namespace Gs
open PySem PySem.Spec PyProof.Rows L2
theorem pairs_w {P : Program} {w : World} : ∀ (ks : List Str) (es : List DictEntry), es.length = ks.length → (∀ (i : Nat) k, ks[i]? = some k → ∃ en t, es[i]? = some en ∧ en.key = .str k t) →
    Pairs (strKind P w) es (List.zipWith (fun k e => (k, e.val)) ks es) ∧ (List.zipWith (fun (k : Str) (e : DictEntry) => (k, e.val)) ks es).map (·.1) = ks
  | [], [], _, _ => ⟨.nil, rfl⟩
  | [], _ :: _, h, _ => by simp at h
  | _ :: _, [], h, _ => by simp at h
  | k :: ks, e :: es, h, a => by
    obtain ⟨en, t, h1, h2⟩ := a 0 k rfl
    obtain rfl : e = en := Option.some.inj h1
    obtain ⟨r1, r2⟩ := pairs_w ks es (by simpa using h) fun i z hz => a (i + 1) z hz
    exact ⟨.cons (by rw [h2]; exact strKind_is P w k t) rfl r1, by simp only [List.zipWith_cons_cons, List.map_cons, r2]⟩
theorem isStr_is {k : Str} {v : Value} (h : Value.isStrOf k v = true) : ∃ t, v = .str k t := by
  rw [← PySem.W.isStr_of] at h
  cases v with
  | str x t =>
    rw [isStr_str] at h
    exact ⟨t, by rw [of_decide_eq_true h]⟩
  | _ => cases h
theorem vals_str : ∀ {us : List Value} {ks : List Str}, us.length = ks.length → (∀ (j : Nat) v, us[j]? = some v → ∃ k t, ks[j]? = some k ∧ v = Value.str k t) → Vals (ks.map V.str) us
  | [], [], _, _ => .nil
  | [], _ :: _, h, _ => by simp at h
  | _ :: _, [], h, _ => by simp at h
  | u :: us, k :: ks, h, a => by
    obtain ⟨k', t, e1, e2⟩ := a 0 u rfl
    obtain rfl : k = k' := Option.some.inj e1
    exact .cons ⟨t, e2⟩ (vals_str (by simpa using h) fun j v e => a (j + 1) v e)
def rListW (K : PySem.W.Frag) (w : World) : List V → Hp → VK → Prop := fun xs H Q => ∃ (d : Addr) (kvs : List (Str × V)), xs = [.ref d] ∧ WD K w d kvs ∧ (kvs.map (·.1)).Nodup ∧ kvs.length ≤ 1000 ∧
  ∀ p, H p = none → Q (.ref p) (upd H p (.lst ((kvs.map (·.1)).map V.str)))
theorem call_listW {X : Cx} (calm : X.calm = true) : CallR X (.type "list") (rListW X.K X.w) := by
  intro pins s σ H xs us Q I r h
  obtain ⟨d, kvs, rfl, ⟨es, n, D, hz, hk⟩, nd, few, q⟩ := h
  rw [Vals.ref1 r]
  have hk' : ∀ (i : Nat) k, (kvs.map (·.1))[i]? = some k → ∃ en t, es.toList[i]? = some en ∧ en.key = .str k t := by
    intro i k e
    rw [List.getElem?_map] at e
    cases z : kvs[i]? with
    | none => rw [z] at e; cases e
    | some q =>
      rw [z] at e
      cases e
      obtain ⟨en, t, h1, h2, _⟩ := hk i q.1 q.2 z
      exact ⟨en, t, by rw [Array.getElem?_toList]; exact h1, h2⟩
  obtain ⟨p1, p2⟩ := pairs_w (P := X.prog) (w := X.w) (kvs.map (·.1)) es.toList (by rw [Array.length_toList, hz, List.length_map]) hk'
  generalize List.zipWith (fun (k : Str) (e : DictEntry) => (k, e.val)) (kvs.map (·.1)) es.toList = vs at p1 p2
  obtain ⟨o, es', n', ho, hx, hd, ko, _⟩ := PySem.W.mapOf_K (prog := X.prog) (w := X.w) I.kIn D.at_ D.lit
  have hat : s.heap.DictAt (strKind X.prog X.w) d vs n := by
    have e := I.kIn _ _ D.at_
    rw [ho] at e
    obtain rfl := Option.some.inj e
    obtain ⟨e1, e2⟩ := Data.dict.inj hd
    subst e1 e2
    exact ⟨_, _, ho, hx, rfl, ko, p1, by rw [p2]; exact nd⟩
  have hl : vs.length = kvs.length := by
    have := congrArg List.length p2
    simpa using this
  refine PySem.W.kdl_call (PySem.W.kdl_dict (knd := strKind X.prog X.w) (kvs := vs) (ep := n) D.low) (I.ok.hd calm) hat (by rw [hl]; exact szm few) fun h' tk acc c' keep hD hacc => ?_
  have hv : Vals ((kvs.map (·.1)).map V.str) acc.toList := by
    have len : acc.toList.length = (kvs.map (·.1)).length := by rw [Array.length_toList, hacc.1, hl, List.length_map]
    have at_ : ∀ (j : Nat) v, acc.toList[j]? = some v → ∃ k t, (kvs.map (·.1))[j]? = some k ∧ v = .str k t := by
      intro j v e
      obtain ⟨k, x, h1, h2⟩ := hacc.2 j v (by rw [← Array.getElem?_toList]; exact e)
      refine ⟨k, ?_⟩
      have hk1 : (kvs.map (·.1))[j]? = some k := by rw [← p2, List.getElem?_map, h1]; rfl
      obtain ⟨en, t, h3, h4⟩ := hk' j k hk1
      have h5 : ∃ t, v = .str k t := isStr_is h2
      obtain ⟨t, e⟩ := h5
      exact ⟨t, hk1, e⟩
    exact vals_str len at_
  refine ⟨.ref s.heap.objs.size, upd H s.heap.objs.size (.lst ((kvs.map (·.1)).map V.str)), I.laid (t' := tk) keep (Nat.le_refl _) (show ObjOk X.prog X.w _ _ _ (.lst ((kvs.map (·.1)).map V.str)) from
    ⟨by rw [List.length_map, List.length_map]; exact szm few, acc.toList, c', hv, by rw [Array.toArray_toList]; exact hD⟩), rfl, q _ (I.hok.fresh (Nat.le_refl _))⟩
end Gs

set_option Elab.async false
set_option linter.all false
set_option maxRecDepth 100000
set_option maxHeartbeats 4000000
/-! Layer G11: xs.extend(t), t a tuple. -/
namespace Gs
open PySem PySem.Spec PyProof.Rows L2
open AutoSeq1 in
theorem ext_tup (l : Addr) (its : Array Value) (n : Nat) (b : Addr) (jts : Array Value) (m : Nat) (dd : Option Addr) (sl : Array (Option Value))
    (door : ¬(!its.isEmpty && Builtin.List.listTooLong (its.size + jts.size)) = true) (h1 : its.size ≤ sizeLine) (h2 : its.size + jts.size ≤ sizeLine + 1) :
    Meets (Builtin.«list.extend» ⟨[.ref l, .ref b], []⟩) (fun _ R s => s.heap.get? l = some { cls := .type "list", dict := none, data := .seq its n, slots := #[] } ∧
      s.heap.get? b = some { cls := .type "tuple", dict := dd, data := .seq jts m, slots := sl } ∧ R (.ok (.ret Value.none)) { s with heap := s.heap.update l (Obj.mapSeq fun x => x ++ jts), toks := s.toks }) :=
  .of_wp fun prog w A R s h => by
    obtain ⟨hp, g, d, tk, os⟩ := s
    obtain ⟨hl, hb, h⟩ := h
    have f1 := idx_int
    have f2 := AutoSeq1.sub_tuple_tuple
    have f3 := AutoSeq1.sub_list_list
    have f4 := AutoSeq1.sub_tuple_list
    have f5 := AutoSeq1.sub_list_tuple
    have all : (its ++ jts).size ≤ sizeLine + 1 := by rw [Array.size_append]; exact h2
    wp_walk using (wpAny_updateSeq hl rfl (hz := h1) (_hz' := all)), wpAny_loadPart' hl, wpAny_loadPart' hb
    exact ⟨_, rfl, h⟩
section
variable {X : Cx}
def rExtT (K : PySem.W.Frag) : V → List V → Hp → VK → Prop := fun x vs H Q => ∃ (l b : Addr) (xs zs : List V), x = .ref l ∧ vs = [.ref b] ∧ H l = some (.lst xs) ∧ SqT K H b zs ∧ xs.length + zs.length ≤ 1000000 ∧ Q .non (upd H l (.lst (xs ++ zs)))
theorem mt_extT : MtM X "list.extend" (rExtT X.K) := by
  intro pins s σ H x vs v us Q I rx rv h
  obtain ⟨l, b, xs, zs, rfl, rfl, hH, hB, hz, q⟩ := h
  cases rx
  obtain ⟨u, rfl, ru⟩ := rv.one
  cases ru
  obtain ⟨z, its, n, r, hl, e⟩ := I.lstM hH
  obtain ⟨jts, r2, ⟨⟨oc, od, odt, os⟩, e2, c2, m, d2⟩, z2⟩ := I.tuple hB
  dsimp only at c2 d2
  subst c2 d2
  have hl2 : zs.length = jts.length := r2.length
  have big : (1000000 : Nat) ≤ sizeLine := by decide
  have hsz : its.toArray.size + jts.toArray.size ≤ sizeLine := by rw [List.size_toArray, List.size_toArray]; omega
  have door : ¬(!its.toArray.isEmpty && Builtin.List.listTooLong (its.toArray.size + jts.toArray.size)) = true := by
    rw [notLongL hsz, Bool.and_false]
    decide
  refine call_meets F.slot_list_extend ⟨_, e, rfl⟩ F.entry_list_extend (F.args_list_extend_2 _ _) (ext_tup l its.toArray n b jts.toArray m od os door (by omega) (by omega)) ⟨e, e2, ?_⟩
  refine ⟨.non, _, I.lset (its' := its ++ jts) hH e (by simp) (r.append r2) ?_, rfl, q⟩
  rw [List.length_append]
  omega
end
end Gs

set_option Elab.async false
set_option linter.all false
set_option maxRecDepth 100000
set_option maxHeartbeats 4000000
namespace K57
open PySem PySem.Spec PyProof.Rows L2 Gs
theorem seq_st {t r : TS} {D : Ends} {σ : L2.St} {H : Hp} (R : L2.St → Hp → Prop) (h1 : ∀ N : L2.St → Hp → Prop, (∀ σ' H', R σ' H' → N σ' H') → t { D with nx := N } σ H) (h2 : ∀ σ' H', R σ' H' → r D σ' H') : tSeq t r D σ H := h1 _ h2
theorem iteT' {b : Bool} {A B : Prop} (e : b = true) (h : A) : if b = true then A else B := by rw [if_pos e]; exact h
def pairT (p : Int × Int) : Str := ((Str.empty ++ (toString p.1 : Str)) ++ (" " : Str)) ++ (toString p.2 : Str)
def leapsT (ps : List (Int × Int)) : Str := Txt.join " , " (ps.map pairT)
def wordsK (z : Str) (ps : List (Int × Int)) (rs : List Str) (q : Bool) : List Str :=
  ([z] ++ (if q = true then [("lord" : Str)] else [])) ++ ((if ps.isEmpty = true then [] else [("leaps" : Str), leapsT ps]) ++ (if rs.isEmpty = true then [] else ("rides" : Str) :: rs))
def textK (z : Str) (ps : List (Int × Int)) (rs : List Str) (q : Bool) : Str := Txt.join " " (wordsK z ps rs q)
theorem three {i : Int} (h : -3 ≤ i ∧ i ≤ 3) : i = -3 ∨ i = -2 ∨ i = -1 ∨ i = 0 ∨ i = 1 ∨ i = 2 ∨ i = 3 := by omega
theorem tos_len {i : Int} (h : -3 ≤ i ∧ i ≤ 3) : (toString i : Str).length ≤ 2 := by
  rcases three h with rfl | rfl | rfl | rfl | rfl | rfl | rfl <;> decide +kernel
theorem log3 {i : Int} (h : -3 ≤ i ∧ i ≤ 3) : i.natAbs.log2 < 1920 := by
  rcases three h with rfl | rfl | rfl | rfl | rfl | rfl | rfl <;> decide +kernel
theorem szl2' {n : Nat} (h : n ≤ 7) : n ≤ sizeLine := Nat.le_trans h (by decide)
theorem pairT_len {p : Int × Int} (h1 : -3 ≤ p.1 ∧ p.1 ≤ 3) (h2 : -3 ≤ p.2 ∧ p.2 ≤ 3) : (Str.empty ++ (toString p.1 : Str)).length ≤ 7 ∧ (Str.empty ++ (toString p.1 : Str) ++ (" " : Str)).length ≤ 7 ∧ (Str.empty ++ (toString p.1 : Str) ++ (" " : Str) ++ (toString p.2 : Str)).length ≤ 7 := by
  have t1 := tos_len h1
  have t2 := tos_len h2
  have e0 : Str.empty.length = 0 := rfl
  have e1 : (" " : Str).length = 1 := rfl
  simp only [Str.length_append, e0, e1]
  omega
theorem pairs_sum : ∀ {ps : List (Int × Int)}, (∀ p ∈ ps, (-3 ≤ p.1 ∧ p.1 ≤ 3) ∧ (-3 ≤ p.2 ∧ p.2 ≤ 3)) → ((ps.map pairT).map (·.length)).sum ≤ 7 * ps.length
  | [], _ => Nat.le_refl _
  | p :: ps, h => by
    have ih := pairs_sum (ps := ps) fun q hq => h q (List.mem_cons_of_mem _ hq)
    have hp := h p List.mem_cons_self
    have : (pairT p).length ≤ 7 := (pairT_len hp.1 hp.2).2.2
    simp only [List.map_cons, List.sum_cons, List.length_cons]
    omega
theorem steps_sum : ∀ {rs : List Str}, (∀ z ∈ rs, z ∈ steps4) → (rs.map (·.length)).sum ≤ 5 * rs.length
  | [], _ => Nat.le_refl _
  | r :: rs, h => by
    have ih := steps_sum (rs := rs) fun q hq => h q (List.mem_cons_of_mem _ hq)
    have all : ∀ z ∈ steps4, z.length ≤ 5 := by decide
    have := all r (h r List.mem_cons_self)
    simp only [List.map_cons, List.sum_cons, List.length_cons]
    omega
theorem joinL_le (S : List Nat) : ∀ ps : List (List Nat), (TL.joinL S ps).length ≤ (ps.map (·.length)).sum + ps.length * S.length
  | [] => Nat.zero_le _
  | [p] => by
    show p.length ≤ _
    simp only [List.map_cons, List.map_nil, List.sum_cons, List.sum_nil]
    omega
  | p :: q :: r => by
    have ih := joinL_le S (q :: r)
    show (p ++ (S ++ TL.joinL S (q :: r))).length ≤ _
    rw [List.length_append, List.length_append]
    simp only [List.map_cons, List.sum_cons, List.length_cons, Nat.add_mul, Nat.one_mul] at ih ⊢
    omega
theorem join_le (y : Str) (ps : List Str) : (Txt.join y ps).length ≤ (ps.map (·.length)).sum + ps.length * y.length := by
  have h := joinL_le (TL.tl y) (ps.map TL.tl)
  have e : TL.tl (Txt.join y ps) = TL.joinL (TL.tl y) (ps.map TL.tl) := by rw [TL.join_eq, TL.tl_join]
  have e1 : (Txt.join y ps).length = (TL.tl (Txt.join y ps)).length := Array.length_toList.symm
  have e2 : (ps.map TL.tl).map (·.length) = ps.map (·.length) := by
    rw [List.map_map]
    exact List.map_congr_left fun p _ => Array.length_toList
  have e3 : (TL.tl y).length = y.length := Array.length_toList
  rw [e1, e]
  rw [e2, e3, List.length_map] at h
  exact h
section
variable {P : Program} {w : World} {K : PySem.W.Frag} {mg : Str → Option Value} {base : Heap}
def spStrK (K : PySem.W.Frag) (CK : Addr) : Sp := fun vs H Q _ => ∃ (k : Addr) (z : Str) (ps : List (Int × Int)) (rs : List Str) (q : Bool), vs = [.ref k] ∧ KindAt K CK H k z ps rs q ∧ z.length ≤ 1000 ∧ ps.length ≤ 100 ∧ (∀ p ∈ ps, (-3 ≤ p.1 ∧ p.1 ≤ 3) ∧ (-3 ≤ p.2 ∧ p.2 ≤ 3)) ∧ rs.length ≤ 10 ∧ (∀ z ∈ rs, z ∈ steps4) ∧
  ∀ H', Same H H' → Q (.str (textK z ps rs q)) H'
theorem O_Kind___str__ (T : Tx K mg w) : FnOk P w K mg base CX0 1 T.a_Kind___str__ T.d_Kind___str__ ["self"] (spStrK K T.c_Kind) := by
  refine T.F_Kind___str__.ok sc_Kind___str__ (fun vs H Q E h => ?_) (fun cdv A outer s H vs Q E hr h => ?_)
  · obtain ⟨k, z, ps, rs, q, rfl, _⟩ := h; rfl
  obtain ⟨k, z, ps, rs, q, rfl, ⟨dx, tl, tr, ls, h1, h2, h3, rfl, h5⟩, hz, hps, hb, hrs, hr4, kt⟩ := h
  refine ⟨_, (pss_cons (ps_set (i := 1) sc_Kind___str__.nd rfl (Or.inl rfl) (pe_lst (pa_cons (pe_fldK (K := K) rfl (pv 0)) pa_nil)))
      (pss_cons (ps_if (pt_val (pe_fldK (K := K) rfl (pv 0))) (pss_one (ps_expr (pe_bm PySem.F.plainAttrs_list PySem.F.slot_list_append PySem.F.type_list_append mt_append (pv 1) (pa_cons pe_str pa_nil)))) pss_nil)
      (pss_cons (ps_if (pt_truth (pe_fldK (K := K) rfl (pv 0)) (by intro _; rfl)) (pss_cons (ps_expr (pe_bm PySem.F.plainAttrs_list PySem.F.slot_list_append PySem.F.type_list_append mt_append (pv 1) (pa_cons pe_str pa_nil)))
      (pss_one (ps_expr (pe_bm PySem.F.plainAttrs_list PySem.F.slot_list_append PySem.F.type_list_append mt_append (pv 1) (pa_cons (pe_join pe_str (pe_lc (own := [("across", 2), ("up", 3)]) (g := (gTup K 2 (gCons (gName 2) (gCons (gName 3) gNil)))) rfl sc_Kind___str__.nd (pi_tup (pe_fldK (K := K) rfl (pv 0))) (blkOk_by (N := n_Kind___str__) (sc := defScope s_Kind___str__) (by decide +kernel)) (fun _ _ _ _ _ => (pg_tup rfl (pgs_cons (pg_name (i := 2) sc_Kind___str__.nd rfl (Or.inl rfl)) (pgs_cons (pg_name (i := 3) sc_Kind___str__.nd rfl (Or.inl rfl)) pgs_nil)))) (fun _ _ _ _ _ => pts_nil) (fun _ _ _ _ _ => (pe_joined (PJ.cons (pe_fmt (pv 2)) (PJ.cons pe_str (PJ.cons (pe_fmt (pv 3)) PJ.nil))))))) pa_nil))))) pss_nil)
      (pss_cons (ps_if (pt_truth (pe_fldK (K := K) rfl (pv 0)) (by intro _; rfl)) (pss_cons (ps_expr (pe_bm PySem.F.plainAttrs_list PySem.F.slot_list_append PySem.F.type_list_append mt_append (pv 1) (pa_cons pe_str pa_nil)))
      (pss_one (ps_expr (pe_bm PySem.F.plainAttrs_list PySem.F.slot_list_extend PySem.F.type_list_extend mt_extT (pv 1) (pa_cons (pe_fldK (K := K) rfl (pv 0)) pa_nil))))) pss_nil)
      (pss_one (ps_ret (pe_join pe_str (pv 1)))))))), ?_⟩
  refine ⟨_, rfl, k, _, dx, _, _, rfl, h1, T.cl_Kind, T.nF_Kind_name, rfl, szl rfl, fun v hv => ?_⟩
  have nkv : k ≠ v := ne_of_none h1 hv
  have s1 : Same H (upd H v (.lst [.str z])) := same_new hv
  have g1 : upd H v (.lst [.str z]) v = some (.lst (([z] : List Str).map V.str)) := upd_same
  dsimp only [gName]
  generalize upd H v (.lst [.str z]) = H1 at s1 g1 ⊢
  -- the lord
  refine seq_st (fun σ' H' => σ' = [some (.ref k), some (.ref v), none, none] ∧ Same H H' ∧ H' v = some (.lst ((([z] : List Str) ++ (if q = true then [("lord" : Str)] else [])).map V.str))) (fun N hN => ?_) ?_
  · refine ⟨_, rfl, k, _, dx, _, _, rfl, s1 _ _ h1, T.cl_Kind, T.nF_Kind_is_lord, rfl, _, rfl, ?_⟩
    cases q with
    | false => exact iteF (hN _ _ ⟨rfl, s1, g1⟩)
    | true =>
      refine iteT ⟨_, rfl, .inl ⟨rfl, _, .of g1⟩, v, _, _, rfl, rfl, g1, szs (by simp), ?_⟩
      exact hN _ _ ⟨rfl, same_own s1 hv, upd_same⟩
  rintro _ H2 ⟨rfl, s2, g2⟩
  clear s1 g1 H1
  generalize hA : (([z] : List Str) ++ (if q = true then [("lord" : Str)] else [])) = A0 at g2
  have lA : A0.length ≤ 2 := by rw [← hA]; cases q <;> simp
  have sA : (A0.map (·.length)).sum ≤ 2000 := by
    rw [← hA]
    cases q with
    | false => simp; omega
    | true =>
      show z.length + (4 + 0) ≤ 2000
      omega
  -- the leaps
  refine seq_st (fun σ' H' => (∃ o1 o2, σ' = [some (.ref k), some (.ref v), o1, o2]) ∧ Same H H' ∧ H' v = some (.lst ((A0 ++ (if (ls.map (·.2)).isEmpty = true then [] else [("leaps" : Str), leapsT (ls.map (·.2))])).map V.str))) (fun N hN => ?_) ?_
  · refine ⟨_, rfl, k, _, dx, _, _, rfl, s2 _ _ h1, T.cl_Kind, T.nF_Kind_leaps, rfl, _, .inr (.inl ⟨_, s2.seqT h2, rfl⟩), ?_⟩
    cases hls : ls with
    | nil =>
      refine iteF (hN _ _ ⟨⟨_, _, rfl⟩, s2, ?_⟩)
      rw [g2, hls]
      show _ = some (HO.lst ((A0 ++ []).map V.str))
      rw [List.append_nil]
    | cons l0 lr =>
    have ne : (ls.map (·.2)).isEmpty = false := by rw [hls]; rfl
    have ne2 : (!(ls.map fun p => V.ref p.1).isEmpty) = true := by rw [hls]; rfl
    rw [← hls]
    clear hls
    refine iteT' ne2 ?_
    refine ⟨_, rfl, .inl ⟨rfl, _, .of g2⟩, v, _, _, rfl, rfl, g2, szs (by rw [List.length_map]; omega), ?_⟩
    have s3 : Same H (upd H2 v (.lst (A0.map V.str ++ [V.str "leaps"]))) := same_own s2 hv
    have g3 : upd H2 v (.lst (A0.map V.str ++ [V.str "leaps"])) v = some (.lst ((A0 ++ [("leaps" : Str)]).map V.str)) := by rw [upd_same, List.map_append]; rfl
    dsimp only
    generalize upd H2 v (.lst (A0.map V.str ++ [V.str "leaps"])) = H3 at s3 g3 ⊢
    refine ⟨_, rfl, .inl ⟨rfl, _, .of g3⟩, ⟨_, rfl⟩, _, rfl, k, _, dx, _, _, rfl, s3 _ _ h1, T.cl_Kind, T.nF_Kind_leaps, rfl, tl, rfl, ⟨_, s3.seqT h2⟩, fun D hD => ?_⟩
    refine lc_it (te := fun σ H Q => tJs [tFmt (tVar 2), tC (.str " "), tFmt (tVar 3)] Str.empty σ H fun out H1 => Q (.str out) H1) (walk_tup (K := K) (a := tl) (xs := ls.map fun p => V.ref p.1)) (fun i H' => Same H3 H' ∧ H' D = some (.lst ((((ls.map (·.2)).take i).map pairT).map V.str))) ⟨same_new hD, upd_same⟩ (fun i H' _ h => h.1.seqT (s3.seqT h2)) ?_ ?_
    · rintro i y H4 H5 hi ⟨s4, hD4⟩ ⟨rfl, hy⟩
      obtain ⟨p, hp, rfl⟩ : ∃ p, ls[i]? = some p ∧ V.ref p.1 = y := by
        rw [List.getElem?_map] at hy
        cases e : ls[i]? with
        | none => rw [e] at hy; cases hy
        | some u => rw [e] at hy; exact ⟨u, rfl, Option.some.inj hy⟩
      have hpm := List.mem_of_getElem? hp
      obtain ⟨b1, b2⟩ := hb p.2 (List.mem_map_of_mem hpm)
      have t1 := tos_len b1
      have t2 := tos_len b2
      refine ⟨p.1, _, rfl, s4.seqT (s3.seqT (h3 p hpm)), rfl, _, _, rfl, _, _, rfl, rfl, rfl, ?_⟩
      refine ⟨_, rfl, .inr ⟨_, rfl, log3 b1, _, rfl, ?_, _, rfl, ?_, _, rfl, .inr ⟨_, rfl, log3 b2, _, rfl, ?_, ?_⟩⟩⟩
      · exact szl2' (pairT_len b1 b2).1
      · exact szl2' (pairT_len b1 b2).2.1
      · exact szl2' (pairT_len b1 b2).2.2
      · refine ⟨_, hD4, ?_, same_own s4 hD, ?_⟩
        · rw [List.length_map, List.length_map]
          have := List.length_take_le' i (ls.map fun p : Addr × Int × Int => p.2)
          exact szs (by omega)
        · rw [upd_same, List.take_add_one, List.getElem?_map, hp, List.map_append, List.map_append]; rfl
    · rintro H4 ⟨s4, hD4⟩
      rw [List.length_map, ← List.length_map (f := fun p : Addr × Int × Int => p.2), List.take_length] at hD4
      refine ⟨_, D, _, rfl, rfl, .inl (.of hD4), ?_, v, _, _, rfl, rfl, s4 _ _ g3, szs (by rw [List.length_map, List.length_append]; simp only [List.length_cons, List.length_nil]; omega), ?_⟩
      · rw [List.length_map]
        have h7 : (((ls.map fun p : Addr × Int × Int => p.2).map pairT).map (·.length)).sum ≤ 7 * (ls.map fun p : Addr × Int × Int => p.2).length := pairs_sum hb
        have h3 : (" , " : Str).length = 3 := rfl
        rw [h3]
        omega
      · refine hN _ _ ⟨⟨_, _, rfl⟩, same_own (s3.trans s4) hv, ?_⟩
        rw [upd_same, ne, if_neg (by decide)]
        show some (HO.lst ((A0 ++ [("leaps" : Str)]).map V.str ++ [V.str (leapsT (ls.map fun p : Addr × Int × Int => p.2))])) = _
        rw [List.map_append, List.map_append, List.append_assoc]; rfl
  rintro _ H3 ⟨⟨o1, o2, rfl⟩, s3, g3⟩
  clear s2 g2 H2
  generalize hB : (A0 ++ (if (ls.map fun p : Addr × Int × Int => p.2).isEmpty = true then [] else [("leaps" : Str), leapsT (ls.map fun p : Addr × Int × Int => p.2)])) = B0 at g3
  have eW : wordsK z (ls.map fun p : Addr × Int × Int => p.2) rs q = B0 ++ (if rs.isEmpty = true then [] else ("rides" : Str) :: rs) := by
    rw [← hB, ← hA, List.append_assoc]; rfl
  have lB : B0.length ≤ 4 := by
    rw [← hB]
    by_cases h : (ls.map fun p : Addr × Int × Int => p.2).isEmpty = true
    · rw [if_pos h, List.append_nil]; omega
    · rw [if_neg h, List.length_append]; simp only [List.length_cons, List.length_nil]; omega
  have sB : (B0.map (·.length)).sum ≤ 5000 := by
    rw [← hB]
    by_cases h : (ls.map fun p : Addr × Int × Int => p.2).isEmpty = true
    · rw [if_pos h, List.append_nil]; omega
    · rw [if_neg h, List.map_append, List.sum_append]
      have h7 := pairs_sum hb
      have hj := join_le (" , " : Str) ((ls.map fun p : Addr × Int × Int => p.2).map pairT)
      rw [List.length_map] at hj
      have h3 : (" , " : Str).length = 3 := rfl
      rw [h3] at hj
      have h5 : ("leaps" : Str).length = 5 := rfl
      show _ + (("leaps" : Str).length + ((leapsT (ls.map fun p : Addr × Int × Int => p.2)).length + 0)) ≤ 5000
      have hj : (leapsT (ls.map fun p : Addr × Int × Int => p.2)).length ≤ _ := hj
      omega
  -- the rides
  refine seq_st (fun σ' H' => σ' = [some (.ref k), some (.ref v), o1, o2] ∧ Same H H' ∧ H' v = some (.lst ((B0 ++ (if rs.isEmpty = true then [] else ("rides" : Str) :: rs)).map V.str))) (fun N hN => ?_) ?_
  · refine ⟨_, rfl, k, _, dx, _, _, rfl, s3 _ _ h1, T.cl_Kind, T.nF_Kind_rides, rfl, _, .inr (.inl ⟨_, s3.seqT h5, rfl⟩), ?_⟩
    cases hrs' : rs with
    | nil =>
      refine iteF (hN _ _ ⟨rfl, s3, ?_⟩)
      rw [g3, hrs']
      show _ = some (HO.lst ((B0 ++ []).map V.str))
      rw [List.append_nil]
    | cons r0 rr =>
    have ne : rs.isEmpty = false := by rw [hrs']; rfl
    have ne2 : (!(rs.map V.str).isEmpty) = true := by rw [hrs']; rfl
    rw [← hrs']
    clear hrs'
    refine iteT' ne2 ?_
    refine ⟨_, rfl, .inl ⟨rfl, _, .of g3⟩, v, _, _, rfl, rfl, g3, szs (by rw [List.length_map]; omega), ?_⟩
    have s4 : Same H (upd H3 v (.lst (B0.map V.str ++ [V.str "rides"]))) := same_own s3 hv
    have g4 : upd H3 v (.lst (B0.map V.str ++ [V.str "rides"])) v = some (.lst ((B0 ++ [("rides" : Str)]).map V.str)) := by rw [upd_same, List.map_append]; rfl
    dsimp only
    generalize upd H3 v (.lst (B0.map V.str ++ [V.str "rides"])) = H4 at s4 g4 ⊢
    refine ⟨_, rfl, .inl ⟨rfl, _, .of g4⟩, _, rfl, k, _, dx, _, _, rfl, s4 _ _ h1, T.cl_Kind, T.nF_Kind_rides, rfl, v, tr, _, _, rfl, rfl, g4, s4.seqT h5, ?_, ?_⟩
    · rw [List.length_map, List.length_map, List.length_append]
      simp only [List.length_cons, List.length_nil]
      omega
    · refine hN _ _ ⟨rfl, same_own s4 hv, ?_⟩
      rw [upd_same, ne, if_neg (by decide)]
      show some (HO.lst ((B0 ++ [("rides" : Str)]).map V.str ++ rs.map V.str)) = _
      rw [List.map_append, List.map_append, List.append_assoc]; rfl
  rintro _ H4 ⟨rfl, s4, g4⟩
  rw [← eW] at g4
  refine ⟨⟨_, rfl⟩, _, rfl, _, v, _, rfl, rfl, .inl (.of g4), ?_, kt H4 s4⟩
  rw [eW, List.map_append, List.sum_append, List.length_append]
  have h1' : (" " : Str).length = 1 := rfl
  rw [h1']
  have hR : ((if rs.isEmpty = true then [] else ("rides" : Str) :: rs).map (·.length)).sum ≤ 100 ∧ (if rs.isEmpty = true then [] else ("rides" : Str) :: rs).length ≤ 11 := by
    by_cases h : rs.isEmpty = true
    · rw [if_pos h]; exact ⟨Nat.zero_le _, Nat.zero_le _⟩
    · rw [if_neg h]
      have h5 : ("rides" : Str).length = 5 := rfl
      have hs := steps_sum hr4
      simp only [List.map_cons, List.sum_cons, List.length_cons, h5]
      omega
  omega
end
end K57

set_option Elab.async false
set_option linter.all false
set_option maxRecDepth 100000
set_option maxHeartbeats 4000000
namespace K57
open PySem PySem.Spec PyProof.Rows L2 Gs
/-- kinds whose texts are short -/
structure KindS (k : KdT) : Prop where
  z : k.z.length ≤ 8
  p : k.ps.length ≤ 62
  b : ∀ p ∈ k.ps, (-3 ≤ p.1 ∧ p.1 ≤ 3) ∧ (-3 ≤ p.2 ∧ p.2 ≤ 3)
  r : k.rs.length ≤ 4
  s : ∀ z ∈ k.rs, z ∈ steps4
theorem textK_len {k : KdT} (h : KindS k) : (textK k.z k.ps k.rs k.q).length ≤ 2000 := by
  unfold textK
  refine Nat.le_trans (join_le _ _) ?_
  have h1 : (" " : Str).length = 1 := rfl
  have h2 : (" , " : Str).length = 3 := rfl
  have h4 : ("lord" : Str).length = 4 := rfl
  have h5 : ("leaps" : Str).length = 5 := rfl
  have h6 : ("rides" : Str).length = 5 := rfl
  have a1 := h.z
  have a2 := h.p
  have a3 := pairs_sum h.b
  have a4 := steps_sum h.s
  have a5 := h.r
  have a6 := join_le (" , " : Str) (k.ps.map pairT)
  rw [List.length_map, h2] at a6
  have a6 : (leapsT k.ps).length ≤ _ := a6
  rw [h1]
  unfold wordsK
  have q1 : ((([k.z] ++ (if k.q = true then [("lord" : Str)] else [])).map (·.length)).sum ≤ 12) ∧ ([k.z] ++ (if k.q = true then [("lord" : Str)] else [])).length ≤ 2 := by
    cases k.q
    · rw [if_neg (by decide)]; simp; omega
    · rw [if_pos rfl]
      show k.z.length + (("lord" : Str).length + 0) ≤ 12 ∧ 2 ≤ 2
      omega
  have q2 : (((if k.ps.isEmpty = true then [] else [("leaps" : Str), leapsT k.ps]).map (·.length)).sum ≤ 700) ∧ (if k.ps.isEmpty = true then [] else [("leaps" : Str), leapsT k.ps]).length ≤ 2 := by
    by_cases e : k.ps.isEmpty = true
    · rw [if_pos e]; exact ⟨Nat.zero_le _, Nat.zero_le _⟩
    · rw [if_neg e]
      show ("leaps" : Str).length + ((leapsT k.ps).length + 0) ≤ 700 ∧ 2 ≤ 2
      omega
  have q3 : (((if k.rs.isEmpty = true then [] else ("rides" : Str) :: k.rs).map (·.length)).sum ≤ 30) ∧ (if k.rs.isEmpty = true then [] else ("rides" : Str) :: k.rs).length ≤ 5 := by
    by_cases e : k.rs.isEmpty = true
    · rw [if_pos e]; exact ⟨Nat.zero_le _, Nat.zero_le _⟩
    · rw [if_neg e]
      simp only [List.map_cons, List.sum_cons, List.length_cons, h6]
      omega
  simp only [List.map_append, List.sum_append, List.length_append] at q1 q2 q3 ⊢
  omega
def rowK (k : KdT) : Str := (Str.empty ++ ("kind " : Str)) ++ textK k.z k.ps k.rs k.q
def rowE (p : Str × Int) : Str := (((Str.empty ++ ("edge " : Str)) ++ p.1) ++ (" " : Str)) ++ (toString p.2 : Str)
/-- the edges that there are, with the words of their sides -/
def edgesOf (es : List (Option Int)) : List (Str × Int) := (sides4.zip es).filterMap fun p => p.2.map fun e => (p.1, e)
def rowsG (ks : List KdT) (es : List (Option Int)) (ws : List Str) : List Str := ks.map rowK ++ ((edgesOf es).map rowE ++ [("goal " : Str) ++ Txt.join " " ws])
def textG (ks : List KdT) (es : List (Option Int)) (ws : List Str) : Str := Txt.join "\n" (rowsG (sortKd ks) es ws)
theorem toS_len {i : Int} (h : i.natAbs < 2 ^ 1000) : (toString i : Str).length ≤ 1100 := (int_len h).1
theorem log_ok {i : Int} (h : i.natAbs < 2 ^ 1000) : i.natAbs.log2 < 1920 := (int_len h).2
theorem szA {n m : Nat} (h : n ≤ m) (hm : Nat.ble m 1000000 = true) : n ≤ sizeLine := szM (Nat.le_trans h (Nat.le_of_ble_eq_true hm))
/-- what a game's text must not go beyond -/
structure GameS (ks : List KdT) (es : List (Option Int)) (ws : List Str) : Prop where
  k : ∀ k ∈ ks, KindS k
  n : ks.length ≤ 8
  e : ∀ e, some e ∈ es → e.natAbs < 2 ^ 1000
  w : ws.length ≤ 3 ∧ ∀ w ∈ ws, w.length ≤ 8
theorem sum_le {m : Nat} : ∀ {xs : List Str}, (∀ x ∈ xs, x.length ≤ m) → (xs.map (·.length)).sum ≤ m * xs.length
  | [], _ => Nat.le_refl _
  | x :: xs, h => by
    have h1 := sum_le (xs := xs) fun w hw => h w (List.mem_cons_of_mem _ hw)
    have h2 := h x List.mem_cons_self
    simp only [List.map_cons, List.sum_cons, List.length_cons, Nat.mul_add, Nat.mul_one]
    omega
theorem rowK_len {k : KdT} (h : KindS k) : (rowK k).length ≤ 2010 := by
  unfold rowK
  have e0 : (Str.empty ++ ("kind " : Str)).length = 5 := by decide +kernel
  have := textK_len h
  rw [Str.length_append, e0]; omega
theorem rowE_len {p : Str × Int} (h1 : p.1.length ≤ 5) (h2 : p.2.natAbs < 2 ^ 1000) : (rowE p).length ≤ 1200 := by
  unfold rowE
  have e5 : (Str.empty ++ ("edge " : Str)).length = 5 := by decide +kernel
  have e1 : (" " : Str).length = 1 := rfl
  have := toS_len h2
  rw [Str.length_append, Str.length_append, Str.length_append, e5, e1]; omega
theorem goal_len {ws : List Str} (h : ws.length ≤ 3 ∧ ∀ w ∈ ws, w.length ≤ 8) : (Txt.join " " ws).length ≤ 30 := by
  have wl := sum_le h.2
  have jl := join_le (" " : Str) ws
  have e1 : (" " : Str).length = 1 := rfl
  rw [e1] at jl
  have := h.1
  omega
theorem edgesOf_mem {a b c d : Option Int} {p : Str × Int} (h : p ∈ edgesOf [a, b, c, d]) : p.1.length ≤ 5 ∧ some p.2 ∈ [a, b, c, d] := by
  unfold edgesOf at h
  obtain ⟨⟨s, e⟩, h1, h2⟩ := List.mem_filterMap.mp h
  have all : ∀ s ∈ sides4, s.length ≤ 5 := by decide +kernel
  have hz := List.of_mem_zip h1
  cases e with
  | none => cases h2
  | some e => cases h2; exact ⟨all _ hz.1, hz.2⟩
theorem rowsG_len {ks : List KdT} {a b c d : Option Int} {ws : List Str} (h : GameS ks [a, b, c, d] ws) : (∀ r ∈ rowsG ks [a, b, c, d] ws, r.length ≤ 2010) ∧ (rowsG ks [a, b, c, d] ws).length ≤ 13 := by
  constructor
  · intro r hr
    unfold rowsG at hr
    rcases List.mem_append.mp hr with hr | hr
    · obtain ⟨k, hk, rfl⟩ := List.mem_map.mp hr
      exact rowK_len (h.k k hk)
    · rcases List.mem_append.mp hr with hr | hr
      · obtain ⟨p, hp, rfl⟩ := List.mem_map.mp hr
        obtain ⟨q1, q2⟩ := edgesOf_mem hp
        exact Nat.le_trans (rowE_len q1 (h.e _ q2)) (by decide)
      · rw [List.mem_singleton.mp hr]
        have e5 : ("goal " : Str).length = 5 := rfl
        have := goal_len h.w
        rw [Str.length_append, e5]; omega
  · unfold rowsG
    have l4 : (edgesOf [a, b, c, d]).length ≤ 4 := by
      unfold edgesOf
      exact Nat.le_trans (List.length_filterMap_le _ _) (Nat.le_of_eq rfl)
    have := h.n
    simp only [List.length_append, List.length_map, List.length_cons, List.length_nil]
    omega
theorem GameS.perm {ks qs : List KdT} {es : List (Option Int)} {ws : List Str} (h : GameS ks es ws) (p : qs.Perm ks) : GameS qs es ws := ⟨fun k hk => h.k k (p.mem_iff.mp hk), by rw [p.length_eq]; exact h.n, h.e, h.w⟩
theorem textG_len {ks : List KdT} {a b c d : Option Int} {ws : List Str} (h : GameS ks [a, b, c, d] ws) : (textG ks [a, b, c, d] ws).length ≤ 30000 := by
  obtain ⟨h1, h2⟩ := rowsG_len (h.perm (sortKd_perm ks))
  have h3 := sum_le h1
  have h4 := join_le ("\n" : Str) (rowsG (sortKd ks) [a, b, c, d] ws)
  have e1 : ("\n" : Str).length = 1 := rfl
  rw [e1] at h4
  unfold textG
  omega
section
variable {P : Program} {w : World} {K : PySem.W.Frag} {mg : Str → Option Value} {base : Heap} {H H' : Hp}
def spStrG (K : PySem.W.Frag) (CK CG : Addr) : Sp := fun vs H Q _ => ∃ (g : Addr) (ks : List KdT) (a b c d : Option Int) (ws : List Str) (n : Int), vs = [.ref g] ∧ GameAt K CK CG H g ks a b c d ws n ∧ GameS ks [a, b, c, d] ws ∧ ∀ H', Same H H' → Q (.str (textG ks [a, b, c, d] ws)) H'
theorem O_Game___str__ (T : Tx K mg w) : FnOk P w K mg base CX0 4 T.a_Game___str__ T.d_Game___str__ ["self"] (spStrG K T.c_Kind T.c_Game) := by
  refine T.F_Game___str__.ok sc_Game___str__ (fun vs H Q E h => ?_) (fun cdv A outer s H vs Q E hr h => ?_)
  · obtain ⟨g, ks, a, b, c, d, ws, n, rfl, _⟩ := h; rfl
  obtain ⟨g, ks, a, b, c, d, ws, n, rfl, ⟨dx, tk, te, tg, tt, h1, h2, h3, h4, h5, h6⟩, hS, k⟩ := h
  refine ⟨_, (pss_cons (ps_setLc (i := 1) (own := [("kind", 2)]) (g := (gName 2)) rfl sc_Game___str__.nd rfl rfl (sw_true rfl rfl rfl (by decide +kernel)) (pi_tup (pe_fldK (K := K) rfl (pv 0))) (blkOk_by (N := n_Game___str__) (sc := defScope s_Game___str__) (by decide +kernel)) (fun _ _ _ _ _ => (pg_name (i := 2) sc_Game___str__.nd rfl (Or.inl rfl))) (fun _ _ _ _ _ => pts_nil) (fun _ _ _ _ _ => (pe_joined (PJ.cons pe_str (PJ.cons (pe_fmtO T.of_Kind (O_Kind___str__ T) (hr.mono (by decide)) T.b_Kind___str__ pass0 (pv 2)) PJ.nil)))))
      (pss_cons (ps_expr (pe_bm PySem.F.plainAttrs_list PySem.F.slot_list_extend PySem.F.type_list_extend mt_extend (pv 1) (pa_cons (pe_lc (own := [("side", 3), ("edge", 4)]) (g := (gTup K 2 (gCons (gName 3) (gCons (gName 4) gNil)))) rfl sc_Game___str__.nd (pi_zipM (by rfl) T.z_zip (pa_cons (pe_glob (v := .ref T.t_SD) (by rfl) T.g_SD rfl) (pa_cons (pe_fldK (K := K) rfl (pv 0)) pa_nil))) (blkOk_by (N := n_Game___str__) (sc := defScope s_Game___str__) (by decide +kernel)) (fun _ _ _ _ _ => (pg_tup rfl (pgs_cons (pg_name (i := 3) sc_Game___str__.nd rfl (Or.inl rfl)) (pgs_cons (pg_name (i := 4) sc_Game___str__.nd rfl (Or.inl rfl)) pgs_nil)))) (fun _ _ _ _ _ => pts_one (pt_cmpR op_notN (pv 4) pe_non (nomark _))) (fun _ _ _ _ _ => (pe_joined (PJ.cons pe_str (PJ.cons (pe_fmt (pv 3)) (PJ.cons pe_str (PJ.cons (pe_fmt (pv 4)) PJ.nil))))))) pa_nil)))
      (pss_cons (ps_expr (pe_bm PySem.F.plainAttrs_list PySem.F.slot_list_append PySem.F.type_list_append mt_append (pv 1) (pa_cons (pe_op op_add_str pe_str (pe_join pe_str (pe_fldK (K := K) rfl (pv 0)))) pa_nil)))
      (pss_one (ps_ret (pe_join pe_str (pv 1))))))), ?_⟩
  refine ⟨_, rfl, g, _, dx, _, _, rfl, h1, T.cl_Game, T.nF_Game_kinds, rfl, tk, rfl, ⟨_, h2⟩, fun D hD => ?_⟩
  have lens : (sortKd ks).length = ks.length := (sortKd_perm ks).length_eq
  have lenr : (refsK (sortKd ks)).length = (sortKd ks).length := List.length_map ..
  refine lc_it (te := fun σ H Q => tJs [tC (.str "kind "), tFmtO T.c_Kind (spStrK K T.c_Kind) E0 (tVar 2)] Str.empty σ H fun out H1 => Q (.str out) H1) (walk_tup (K := K) (a := tk) (xs := refsK (sortKd ks))) (fun i H' => Same H H' ∧ H' D = some (.lst ((((sortKd ks).take i).map rowK).map V.str))) ⟨same_new hD, upd_same⟩ (fun i H' _ h => h.1.seqT h2) ?_ ?_
  · rintro i x H2 H3 hi ⟨s2, hD2⟩ ⟨rfl, hx⟩
    refine ⟨rfl, ?_⟩
    rw [List.getElem?_map] at hx
    obtain ⟨kd, hkd, rfl⟩ := Option.map_eq_some_iff.mp hx
    have hm : kd ∈ ks := (sortKd_perm ks).mem_iff.mp (List.mem_of_getElem? hkd)
    have ka := (h6 kd hm).same s2
    obtain ⟨d2, tl, tr, ls, q1, _⟩ := id ka
    have sk := hS.k kd hm
    have tl2 := textK_len sk
    refine ⟨_, rfl, by decide, _, rfl, kd.a, d2, _, rfl, q1, kd.a, kd.z, kd.ps, kd.rs, kd.q, rfl, ka, Nat.le_trans sk.z (by decide), Nat.le_trans sk.p (by decide), sk.b, Nat.le_trans sk.r (by decide), sk.s, fun H4 s4 => ⟨_, rfl, _, rfl, ?_, ?_⟩⟩
    · have e0 : (Str.empty ++ ("kind " : Str)).length = 5 := by decide +kernel
      rw [Str.length_append, e0]
      exact szA (m := 3000) (by omega) rfl
    · refine ⟨_, s4 _ _ hD2, ?_, same_own (s2.trans s4) hD, ?_⟩
      · rw [List.length_map, List.length_map]
        have := List.length_take_le' i (sortKd ks)
        have := hS.n
        exact szs (by omega)
      · rw [upd_same, List.take_add_one, hkd, List.map_append, List.map_append]; rfl
  rintro H2 ⟨s2, hD2⟩
  rw [lenr, List.take_length] at hD2
  dsimp only [gName]
  -- the edges
  have hS4 : ∀ H', SqT K H' T.t_SD (sides4.map V.str) := T.s_SD
  refine ⟨_, rfl, .inl ⟨rfl, _, .of hD2⟩, _, rfl, g, _, dx, _, _, rfl, s2 _ _ h1, T.cl_Game, T.nF_Game_edges, rfl, T.t_SD, te, true, true, sides4.map V.str, ([a, b, c, d] : List (Option Int)).map oV, rfl, hS4 _, s2.seqT h3, fun D2 hE => ?_⟩
  refine lc_it (te := fun σ H Q => tJs [tC (V.str (Str.ofString "edge ")), tFmt (tVar 3), tC (V.str (Str.ofString " ")), tFmt (tVar 4)] Str.empty σ H fun out H1 => Q (V.str out) H1) (walk_zipM (K := K) (t := true) (u := true) (a := T.t_SD) (b := te) (xs := sides4.map V.str) (ys := ([a, b, c, d] : List (Option Int)).map oV) rfl)
    (fun i H' => Same H2 H' ∧ H' D2 = some (.lst (((((sides4.zip [a, b, c, d]).take i).filterMap fun p => p.2.map fun e => (p.1, e)).map rowE).map V.str))) ⟨same_new hE, upd_same⟩ (fun i H' _ h => ⟨hS4 _, (s2.trans h.1).seqT h3⟩) ?_ ?_
  · rintro i x H4 H5 hi ⟨s5, hD5⟩ ⟨T1, x1, y1, rfl, hT1, rfl, hx, hy⟩
    have sT : Same H4 (upd H4 T1 (.tup [x1, y1])) := same_new hT1
    rw [List.getElem?_map] at hx hy
    obtain ⟨z, hz, rfl⟩ := Option.map_eq_some_iff.mp hx
    obtain ⟨eo, heo, rfl⟩ := Option.map_eq_some_iff.mp hy
    have hzip : (sides4.zip [a, b, c, d])[i]? = some (z, eo) := by rw [List.getElem?_zip_eq_some]; exact ⟨hz, heo⟩
    have hi : i < 4 := hi
    have zl : z.length ≤ 5 := by
      have all : ∀ s ∈ sides4, s.length ≤ 5 := by decide +kernel
      exact all z (List.mem_of_getElem? hz)
    refine ⟨T1, _, rfl, .of upd_same, rfl, _, _, rfl, _, _, rfl, rfl, rfl, ?_⟩
    have nx : ((sides4.zip [a, b, c, d]).take (i + 1)).filterMap (fun p => p.2.map fun e => (p.1, e)) = ((sides4.zip [a, b, c, d]).take i).filterMap (fun p => p.2.map fun e => (p.1, e)) ++ (eo.map fun e => (z, e)).toList := by
      rw [List.take_add_one, hzip, List.filterMap_append]
      cases eo <;> rfl
    have hD6 := sT _ _ hD5
    refine ⟨_, rfl, rfl, _, rfl, ?_⟩
    cases eo with
    | none =>
      refine iteF ⟨s5.trans sT, ?_⟩
      rw [nx]
      simpa using hD6
    | some q0 =>
      have hq := hS.e q0 (List.mem_of_getElem? heo)
      have ql := toS_len hq
      have e5 : (Str.empty ++ ("edge " : Str)).length = 5 := by decide +kernel
      have e1 : (" " : Str).length = 1 := rfl
      refine iteT ⟨_, rfl, by decide, _, rfl, .inl ⟨z, rfl, szA (m := 10) (by omega) rfl, _, rfl, ?_, _, rfl, ?_, _, rfl, .inr ⟨q0, rfl, log_ok hq, _, rfl, ?_, _, hD6, ?_, same_own (s5.trans sT) hE, ?_⟩⟩⟩
      · rw [Str.length_append, e5]; exact szA (m := 10) (by omega) rfl
      · rw [Str.length_append, Str.length_append, e5, e1]; exact szA (m := 20) (by omega) rfl
      · rw [Str.length_append, Str.length_append, Str.length_append, e5, e1]; exact szA (m := 2000) (by omega) rfl
      · rw [List.length_map, List.length_map]
        have h1 := List.length_filterMap_le (fun p : Str × Option Int => p.2.map fun e => (p.1, e)) ((sides4.zip [a, b, c, d]).take i)
        have h2 := List.length_take_le' i (sides4.zip [a, b, c, d])
        have h3 : (sides4.zip [a, b, c, d]).length = 4 := rfl
        exact szK (by omega)
      · rw [upd_same, nx, List.map_append, List.map_append]; rfl
  rintro H3 ⟨s3, hD3⟩
  have hD3 : H3 D2 = some (.lst (((edgesOf [a, b, c, d]).map rowE).map V.str)) := hD3
  have ndd : D ≠ D2 := fun e => by rw [← e, hD2] at hE; cases hE
  have l4 : (edgesOf [a, b, c, d]).length ≤ 4 := by
    unfold edgesOf
    exact Nat.le_trans (List.length_filterMap_le _ _) (Nat.le_of_eq rfl)
  have le8 := hS.n
  refine ⟨D, D2, _, _, rfl, rfl, s3 _ _ hD2, hD3, ?_, ?_⟩
  · rw [List.length_map, List.length_map, List.length_map, List.length_map]
    exact szA (m := 100) (by omega) rfl
  have s4 : Same H (upd H3 D (.lst (((sortKd ks).map rowK).map V.str ++ ((edgesOf [a, b, c, d]).map rowE).map V.str))) := same_own (s2.trans s3) hD
  have g4 : upd H3 D (.lst (((sortKd ks).map rowK).map V.str ++ ((edgesOf [a, b, c, d]).map rowE).map V.str)) D = some (.lst (((sortKd ks).map rowK ++ (edgesOf [a, b, c, d]).map rowE).map V.str)) := by rw [upd_same, List.map_append]
  generalize upd H3 D _ = H4 at s4 g4 ⊢
  -- the goal
  have w3 := hS.w.1
  have wl := sum_le hS.w.2
  have jl := join_le (" " : Str) ws
  have e1 : (" " : Str).length = 1 := rfl
  rw [e1] at jl
  refine ⟨_, rfl, .inl ⟨rfl, _, .of g4⟩, ⟨_, rfl⟩, _, rfl, g, _, dx, _, _, rfl, s4 _ _ h1, T.cl_Game, T.nF_Game_goal, rfl, _, tg, ws, rfl, rfl, .inr (s4.seqT h4), by rw [e1]; omega, ?_⟩
  have gl := goal_len hS.w
  have e5 : ("goal " : Str).length = 5 := rfl
  refine ⟨_, _, rfl, rfl, by rw [e5]; exact szA (m := 100) (by omega) rfl, D, _, _, rfl, rfl, g4, ?_, ?_⟩
  · rw [List.length_map, List.length_append, List.length_map, List.length_map]
    exact szK (by omega)
  have s5 : Same H (upd H4 D (.lst (((sortKd ks).map rowK ++ (edgesOf [a, b, c, d]).map rowE).map V.str ++ [V.str (("goal " : Str) ++ Txt.join " " ws)]))) := same_own s4 hD
  have g5 : upd H4 D (.lst (((sortKd ks).map rowK ++ (edgesOf [a, b, c, d]).map rowE).map V.str ++ [V.str (("goal " : Str) ++ Txt.join " " ws)])) D = some (.lst ((rowsG (sortKd ks) [a, b, c, d] ws).map V.str)) := by
    rw [upd_same]
    unfold rowsG
    rw [← List.append_assoc, List.map_append (l₂ := [_])]; rfl
  obtain ⟨r1, r2⟩ := rowsG_len (hS.perm (sortKd_perm ks))
  have r3 := sum_le r1
  refine ⟨⟨_, rfl⟩, _, rfl, _, D, _, rfl, rfl, .inl (.of g5), ?_, k _ s5⟩
  have n1 : ("\n" : Str).length = 1 := rfl
  rw [n1]
  omega
end
end K57

set_option Elab.async false
set_option linter.all false
set_option maxRecDepth 100000
set_option maxHeartbeats 4000000
namespace K57
open PySem PySem.Spec PyProof.Rows L2 Gs
def rowT (t : Int) : Str := (Str.empty ++ ("turn " : Str)) ++ (toString t : Str)
def rowP (p : PcT) : Str := (((((((Str.empty ++ ("piece " : Str)) ++ (toString p.h : Str)) ++ (" " : Str)) ++ p.z) ++ (" " : Str)) ++ (toString p.x : Str)) ++ (" " : Str)) ++ (toString p.y : Str)
def rowS (q : Int × Int) : Str := (((Str.empty ++ ("stone " : Str)) ++ (toString q.1 : Str)) ++ (" " : Str)) ++ (toString q.2 : Str)
def rowsP (z : PosD) : List Str := [textG z.ks [z.a, z.b, z.c, z.d] z.ws, rowT z.t] ++ (z.pcs.map rowP ++ z.sts.map rowS)
def textP (z : PosD) : Str := Txt.join "\n" (rowsP z)
/-- what a position's text must not go beyond -/
structure PosS (z : PosD) : Prop where
  g : GameS z.ks [z.a, z.b, z.c, z.d] z.ws
  t : z.t = 0 ∨ z.t = 1
  n : z.pcs.length ≤ 16
  m : z.sts.length ≤ 16
  p : ∀ p ∈ z.pcs, (p.h = 0 ∨ p.h = 1) ∧ p.z.length ≤ 8 ∧ p.x.natAbs < 2 ^ 1000 ∧ p.y.natAbs < 2 ^ 1000
  s : ∀ q ∈ z.sts, q.1.natAbs < 2 ^ 1000 ∧ q.2.natAbs < 2 ^ 1000
theorem bit_small {i : Int} (h : i = 0 ∨ i = 1) : i.natAbs < 2 ^ 1000 := by
  rcases h with rfl | rfl <;> decide +kernel
theorem rowP_lens {p : PcT} (h : (p.h = 0 ∨ p.h = 1) ∧ p.z.length ≤ 8 ∧ p.x.natAbs < 2 ^ 1000 ∧ p.y.natAbs < 2 ^ 1000) :
    (Str.empty ++ ("piece " : Str)).length ≤ 4000 ∧ ((Str.empty ++ ("piece " : Str)) ++ (toString p.h : Str)).length ≤ 4000 ∧ (((Str.empty ++ ("piece " : Str)) ++ (toString p.h : Str)) ++ (" " : Str)).length ≤ 4000 ∧ ((((Str.empty ++ ("piece " : Str)) ++ (toString p.h : Str)) ++ (" " : Str)) ++ p.z).length ≤ 4000 ∧
    (((((Str.empty ++ ("piece " : Str)) ++ (toString p.h : Str)) ++ (" " : Str)) ++ p.z) ++ (" " : Str)).length ≤ 4000 ∧ ((((((Str.empty ++ ("piece " : Str)) ++ (toString p.h : Str)) ++ (" " : Str)) ++ p.z) ++ (" " : Str)) ++ (toString p.x : Str)).length ≤ 4000 ∧
    (((((((Str.empty ++ ("piece " : Str)) ++ (toString p.h : Str)) ++ (" " : Str)) ++ p.z) ++ (" " : Str)) ++ (toString p.x : Str)) ++ (" " : Str)).length ≤ 4000 ∧ (rowP p).length ≤ 4000 := by
  have e6 : (Str.empty ++ ("piece " : Str)).length = 6 := by decide +kernel
  have e1 : (" " : Str).length = 1 := rfl
  have h1 := toS_len (bit_small h.1)
  have h2 := toS_len h.2.2.1
  have h3 := toS_len h.2.2.2
  have h4 := h.2.1
  unfold rowP
  simp only [Str.length_append (Str.empty ++ ("piece " : Str)), Str.length_append _ (" " : Str), Str.length_append _ p.z, Str.length_append _ (toString p.x : Str), Str.length_append _ (toString p.y : Str), e6, e1]
  omega
theorem rowS_lens {q : Int × Int} (h : q.1.natAbs < 2 ^ 1000 ∧ q.2.natAbs < 2 ^ 1000) :
    (Str.empty ++ ("stone " : Str)).length ≤ 4000 ∧ ((Str.empty ++ ("stone " : Str)) ++ (toString q.1 : Str)).length ≤ 4000 ∧ (((Str.empty ++ ("stone " : Str)) ++ (toString q.1 : Str)) ++ (" " : Str)).length ≤ 4000 ∧ (rowS q).length ≤ 4000 := by
  have e6 : (Str.empty ++ ("stone " : Str)).length = 6 := by decide +kernel
  have e1 : (" " : Str).length = 1 := rfl
  have h2 := toS_len h.1
  have h3 := toS_len h.2
  unfold rowS
  simp only [Str.length_append (Str.empty ++ ("stone " : Str)), Str.length_append _ (" " : Str), Str.length_append _ (toString q.1 : Str), Str.length_append _ (toString q.2 : Str), e6, e1]
  omega
theorem sz4 {n : Nat} (h : n ≤ 4000) : n ≤ sizeLine := szA h rfl
theorem rowsP_len {z : PosD} (h : PosS z) : (∀ r ∈ rowsP z, r.length ≤ 30000) ∧ (rowsP z).length ≤ 34 := by
  constructor
  · intro r hr
    unfold rowsP at hr
    rcases List.mem_append.mp hr with hr | hr
    · rcases List.mem_cons.mp hr with rfl | hr
      · exact textG_len h.g
      · rw [List.mem_singleton.mp hr]
        unfold rowT
        have e6 : (Str.empty ++ ("turn " : Str)).length = 5 := by decide +kernel
        have := toS_len (bit_small h.t)
        rw [Str.length_append, e6]; omega
    · rcases List.mem_append.mp hr with hr | hr
      · obtain ⟨p, hp, rfl⟩ := List.mem_map.mp hr
        have := (rowP_lens (h.p p hp)).2.2.2.2.2.2.2
        omega
      · obtain ⟨p, hp, rfl⟩ := List.mem_map.mp hr
        have := (rowS_lens (h.s p hp)).2.2.2
        omega
  · unfold rowsP
    have := h.n
    have := h.m
    simp only [List.length_append, List.length_map, List.length_cons, List.length_nil]
    omega
theorem textP_len {z : PosD} (h : PosS z) : (textP z).length ≤ 1100000 := by
  obtain ⟨h1, h2⟩ := rowsP_len h
  have h3 := sum_le h1
  have h4 := join_le ("\n" : Str) (rowsP z)
  have e1 : ("\n" : Str).length = 1 := rfl
  rw [e1] at h4
  unfold textP
  omega
section
variable {P : Program} {w : World} {K : PySem.W.Frag} {mg : Str → Option Value} {base : Heap} {H H' : Hp}
def spStrP (K : PySem.W.Frag) (CK CG CP : Addr) : Sp := fun vs H Q _ => ∃ (p g : Addr) (z : PosD), vs = [.ref p] ∧ PosAt K CK CG CP H p g z ∧ PosS z ∧ ∀ H', Same H H' → Q (.str (textP z)) H'
theorem O_Position___str__ (T : Tx K mg w) : FnOk P w K mg base CX0 8 T.a_Position___str__ T.d_Position___str__ ["self"] (spStrP K T.c_Kind T.c_Game T.c_Position) := by
  refine T.F_Position___str__.ok sc_Position___str__ (fun vs H Q E h => ?_) (fun cdv A outer s H vs Q E hr h => ?_)
  · obtain ⟨p, g, z, rfl, _⟩ := h; rfl
  obtain ⟨p, g, z, rfl, ⟨dx, tp, ts, td, tl, ps, ss, h1, h2, h3, h4, h5, h6, h7, h8⟩, hS, k⟩ := h
  refine ⟨_, (pss_cons (ps_set (i := 1) sc_Position___str__.nd rfl (Or.inl rfl) (pe_lst (pa_cons (pe_callTy (T := "str") (call_strO T.os_Game (O_Game___str__ T) (hr.mono (by decide)) T.b_Game___str__ pass0) (by rfl) T.z_str (by decide +kernel) (pa_cons (pe_fldK (K := K) rfl (pv 0)) pa_nil)) (pa_cons (pe_joined (PJ.cons pe_str (PJ.cons (pe_fmt (pe_fldK (K := K) rfl (pv 0))) PJ.nil))) pa_nil))))
      (pss_cons (ps_expr (pe_bm PySem.F.plainAttrs_list PySem.F.slot_list_extend PySem.F.type_list_extend mt_extend (pv 1) (pa_cons (pe_lc (own := [("hand", 2), ("name", 3), ("column", 4), ("row", 5)]) (g := (gTup K 4 (gCons (gName 2) (gCons (gName 3) (gCons (gName 4) (gCons (gName 5) gNil)))))) rfl sc_Position___str__.nd (pi_tup (pe_fldK (K := K) rfl (pv 0))) (blkOk_by (N := n_Position___str__) (sc := defScope s_Position___str__) (by decide +kernel)) (fun _ _ _ _ _ => (pg_tup rfl (pgs_cons (pg_name (i := 2) sc_Position___str__.nd rfl (Or.inl rfl)) (pgs_cons (pg_name (i := 3) sc_Position___str__.nd rfl (Or.inl rfl)) (pgs_cons (pg_name (i := 4) sc_Position___str__.nd rfl (Or.inl rfl)) (pgs_cons (pg_name (i := 5) sc_Position___str__.nd rfl (Or.inl rfl)) pgs_nil)))))) (fun _ _ _ _ _ => pts_nil) (fun _ _ _ _ _ => (pe_joined (PJ.cons pe_str (PJ.cons (pe_fmt (pv 2)) (PJ.cons pe_str (PJ.cons (pe_fmt (pv 3)) (PJ.cons pe_str (PJ.cons (pe_fmt (pv 4)) (PJ.cons pe_str (PJ.cons (pe_fmt (pv 5)) PJ.nil))))))))))) pa_nil)))
      (pss_cons (ps_expr (pe_bm PySem.F.plainAttrs_list PySem.F.slot_list_extend PySem.F.type_list_extend mt_extend (pv 1) (pa_cons (pe_lc (own := [("column", 4), ("row", 5)]) (g := (gTup K 2 (gCons (gName 4) (gCons (gName 5) gNil)))) rfl sc_Position___str__.nd (pi_tup (pe_fldK (K := K) rfl (pv 0))) (blkOk_by (N := n_Position___str__) (sc := defScope s_Position___str__) (by decide +kernel)) (fun _ _ _ _ _ => (pg_tup rfl (pgs_cons (pg_name (i := 4) sc_Position___str__.nd rfl (Or.inl rfl)) (pgs_cons (pg_name (i := 5) sc_Position___str__.nd rfl (Or.inl rfl)) pgs_nil)))) (fun _ _ _ _ _ => pts_nil) (fun _ _ _ _ _ => (pe_joined (PJ.cons pe_str (PJ.cons (pe_fmt (pv 4)) (PJ.cons pe_str (PJ.cons (pe_fmt (pv 5)) PJ.nil))))))) pa_nil)))
      (pss_one (ps_ret (pe_join pe_str (pv 1))))))), ?_⟩
  have gl := textG_len hS.g
  obtain ⟨dg, tk, te, tg, tt, g1, _⟩ := id h8
  refine ⟨_, rfl, p, _, dx, _, _, rfl, h1, T.cl_Position, T.nF_Position_game, rfl, g, dg, _, rfl, g1, g, z.ks, z.a, z.b, z.c, z.d, z.ws, z.n, rfl, h8, hS.g, fun H1 s1 => ⟨_, rfl, ?_⟩⟩
  have e5 : (Str.empty ++ ("turn " : Str)).length = 5 := by decide +kernel
  have tl2 := toS_len (bit_small hS.t)
  refine ⟨_, rfl, by decide, _, rfl, p, _, dx, _, _, rfl, s1 _ _ h1, T.cl_Position, T.nF_Position_turn, rfl, .inr ⟨z.t, rfl, log_ok (bit_small hS.t), _, rfl, ?_, szl rfl, fun D hD => ?_⟩⟩
  · rw [Str.length_append, e5]; exact sz4 (by omega)
  have hD0 : H D = none := s1.free hD
  have s2 : Same H (upd H1 D (.lst [.str (textG z.ks [z.a, z.b, z.c, z.d] z.ws), .str (rowT z.t)])) := s1.trans (same_new hD)
  have g2 : upd H1 D (.lst [.str (textG z.ks [z.a, z.b, z.c, z.d] z.ws), .str (rowT z.t)]) D = some (.lst ([textG z.ks [z.a, z.b, z.c, z.d] z.ws, rowT z.t].map V.str)) := upd_same
  dsimp only [gName]
  change tSeq _ _ _ _ (upd H1 D (.lst [.str (textG z.ks [z.a, z.b, z.c, z.d] z.ws), .str (rowT z.t)]))
  generalize upd H1 D (.lst [.str (textG z.ks [z.a, z.b, z.c, z.d] z.ws), .str (rowT z.t)]) = H2 at s2 g2 ⊢
  -- the pieces
  have h22 := h2.same s2
  have lp : (refsA ps).length = ps.length := List.length_map ..
  have np : ps.length ≤ 16 := by have := congrArg List.length h3; rw [List.length_map] at this; rw [this]; exact hS.n
  refine ⟨_, rfl, .inl ⟨rfl, _, .of g2⟩, _, rfl, p, _, dx, _, _, rfl, s2 _ _ h1, T.cl_Position, T.nF_Position_pieces, rfl, tp, rfl, ⟨_, h22.1⟩, fun D2 hE => ?_⟩
  refine lc_it (te := fun σ H Q => tJs [tC (.str "piece "), tFmt (tVar 2), tC (.str " "), tFmt (tVar 3), tC (.str " "), tFmt (tVar 4), tC (.str " "), tFmt (tVar 5)] Str.empty σ H fun out H1 => Q (.str out) H1) (walk_tup (K := K) (a := tp) (xs := refsA ps)) (fun i H' => Same H2 H' ∧ H' D2 = some (.lst (((((ps.map (·.2)).take i).map rowP).map V.str)))) ⟨same_new hE, upd_same⟩ (fun i H' _ h => h.1.seqT h22.1) ?_ ?_
  · rintro i x H4 H5 hi ⟨s5, hD5⟩ ⟨rfl, hx⟩
    rw [List.getElem?_map] at hx
    obtain ⟨q, hq, rfl⟩ := Option.map_eq_some_iff.mp hx
    have hm : q.2 ∈ z.pcs := by rw [← h3]; exact List.mem_map_of_mem (List.mem_of_getElem? hq)
    have ok := hS.p q.2 hm
    obtain ⟨l1, l2, l3, l4, l5, l6, l7, l8⟩ := rowP_lens ok
    refine ⟨q.1, _, rfl, .of (s5 _ _ (h22.2 q (List.mem_of_getElem? hq))), rfl, _, _, rfl, _, _, rfl, _, _, rfl, _, _, rfl, rfl, rfl, ?_⟩
    refine ⟨_, rfl, sz4 l1, _, rfl, .inr ⟨_, rfl, log_ok (bit_small ok.1), _, rfl, sz4 l2, _, rfl, sz4 l3, _, rfl, .inl ⟨_, rfl, sz4 (Nat.le_trans ok.2.1 (by decide)), _, rfl, sz4 l4, _, rfl, sz4 l5, _, rfl, .inr ⟨_, rfl, log_ok ok.2.2.1, _, rfl, sz4 l6, _, rfl, sz4 l7, _, rfl, .inr ⟨_, rfl, log_ok ok.2.2.2, _, rfl, sz4 l8, _, hD5, ?_, same_own s5 hE, ?_⟩⟩⟩⟩⟩
    · rw [List.length_map, List.length_map]
      have := List.length_take_le' i (ps.map (·.2))
      rw [List.length_map] at this
      exact szs (by omega)
    · rw [upd_same, List.take_add_one, List.getElem?_map, hq, List.map_append, List.map_append]; rfl
  rintro H3 ⟨s3, hD3⟩
  rw [lp, ← List.length_map (f := fun p : Addr × PcT => p.2), List.take_length, h3] at hD3
  refine ⟨D, D2, _, _, rfl, rfl, s3 _ _ g2, hD3, ?_, ?_⟩
  · rw [List.length_map, List.length_map, List.length_map]
    have := hS.n
    exact szA (m := 100) (by simp only [List.length_cons, List.length_nil]; omega) rfl
  have s4 : Same H (upd H3 D (.lst ([textG z.ks [z.a, z.b, z.c, z.d] z.ws, rowT z.t].map V.str ++ (z.pcs.map rowP).map V.str))) := by
    refine fun b o e => ?_
    rw [upd_ne (fun x => by rw [x, hD0] at e; cases e)]; exact s3 _ _ (s2 _ _ e)
  have g4 : upd H3 D (.lst ([textG z.ks [z.a, z.b, z.c, z.d] z.ws, rowT z.t].map V.str ++ (z.pcs.map rowP).map V.str)) D = some (.lst (([textG z.ks [z.a, z.b, z.c, z.d] z.ws, rowT z.t] ++ z.pcs.map rowP).map V.str)) := by rw [upd_same, List.map_append]
  generalize upd H3 D _ = H4 at s4 g4 ⊢
  clear s3 hD3 g2 s2 h22 hE
  -- the stones
  have h42 := h4.same s4
  have lq : (refsA ss).length = ss.length := List.length_map ..
  have nq : ss.length ≤ 16 := by have := congrArg List.length h5; rw [List.length_map] at this; rw [this]; exact hS.m
  refine ⟨_, rfl, .inl ⟨rfl, _, .of g4⟩, _, rfl, p, _, dx, _, _, rfl, s4 _ _ h1, T.cl_Position, T.nF_Position_stones, rfl, ts, rfl, ⟨_, h42.1⟩, fun D3 hE => ?_⟩
  refine lc_it (te := fun σ H Q => tJs [tC (.str "stone "), tFmt (tVar 4), tC (.str " "), tFmt (tVar 5)] Str.empty σ H fun out H1 => Q (.str out) H1) (walk_tup (K := K) (a := ts) (xs := refsA ss)) (fun i H' => Same H4 H' ∧ H' D3 = some (.lst (((((ss.map (·.2)).take i).map rowS).map V.str)))) ⟨same_new hE, upd_same⟩ (fun i H' _ h => h.1.seqT h42.1) ?_ ?_
  · rintro i x H5 H6 hi ⟨s5, hD5⟩ ⟨rfl, hx⟩
    rw [List.getElem?_map] at hx
    obtain ⟨q, hq, rfl⟩ := Option.map_eq_some_iff.mp hx
    have hm : q.2 ∈ z.sts := by rw [← h5]; exact List.mem_map_of_mem (List.mem_of_getElem? hq)
    have ok := hS.s q.2 hm
    obtain ⟨l1, l2, l3, l4⟩ := rowS_lens ok
    refine ⟨q.1, _, rfl, .of (s5 _ _ (h42.2 q (List.mem_of_getElem? hq))), rfl, _, _, rfl, _, _, rfl, rfl, rfl, ?_⟩
    refine ⟨_, rfl, sz4 l1, _, rfl, .inr ⟨_, rfl, log_ok ok.1, _, rfl, sz4 l2, _, rfl, sz4 l3, _, rfl, .inr ⟨_, rfl, log_ok ok.2, _, rfl, sz4 l4, _, hD5, ?_, same_own s5 hE, ?_⟩⟩⟩
    · rw [List.length_map, List.length_map]
      have := List.length_take_le' i (ss.map (·.2))
      rw [List.length_map] at this
      exact szs (by omega)
    · rw [upd_same, List.take_add_one, List.getElem?_map, hq, List.map_append, List.map_append]; rfl
  rintro H5 ⟨s5, hD5⟩
  rw [lq, ← List.length_map (f := fun p : Addr × Int × Int => p.2), List.take_length, h5] at hD5
  refine ⟨D, D3, _, _, rfl, rfl, s5 _ _ g4, hD5, ?_, ?_⟩
  · rw [List.length_map, List.length_append, List.length_map, List.length_map, List.length_map]
    have := hS.n
    have := hS.m
    exact szA (m := 100) (by simp only [List.length_cons, List.length_nil]; omega) rfl
  have s6 : Same H (upd H5 D (.lst (([textG z.ks [z.a, z.b, z.c, z.d] z.ws, rowT z.t] ++ z.pcs.map rowP).map V.str ++ (z.sts.map rowS).map V.str))) := by
    refine fun b o e => ?_
    rw [upd_ne (fun x => by rw [x, hD0] at e; cases e)]; exact s5 _ _ (s4 _ _ e)
  have g6 : upd H5 D (.lst (([textG z.ks [z.a, z.b, z.c, z.d] z.ws, rowT z.t] ++ z.pcs.map rowP).map V.str ++ (z.sts.map rowS).map V.str)) D = some (.lst ((rowsP z).map V.str)) := by
    rw [upd_same]
    unfold rowsP
    rw [← List.append_assoc, List.map_append (l₂ := z.sts.map rowS)]
  obtain ⟨r1, r2⟩ := rowsP_len hS
  have r3 := sum_le r1
  refine ⟨⟨_, rfl⟩, _, rfl, _, D, _, rfl, rfl, .inl (.of g6), ?_, k _ s6⟩
  have n1 : ("\n" : Str).length = 1 := rfl
  rw [n1]
  omega
end
end K57

set_option Elab.async false
set_option linter.all false
set_option maxRecDepth 100000
set_option maxHeartbeats 4000000
namespace K57
open PySem PySem.Spec PyProof.Rows L2 Gs
theorem fresh3 (p q r : Nat) : ∃ c : Nat, p ≠ c ∧ q ≠ c ∧ r ≠ c := ⟨p + q + r + 1, by omega, by omega, by omega⟩
section
variable {P : Program} {w : World} {K : PySem.W.Frag} {mg : Str → Option Value} {base : Heap} {H H' : Hp}
def spTurned (K : PySem.W.Frag) (CP DP : Addr) : Sp := fun vs H Q E => ∃ (v : V) (t : Value), vs = [v] ∧ TyX K H v t ∧ PySem.W.kitOne K t (.ref CP) = some false ∧ XP DP "position" H E
theorem O_turned (T : Tx K mg w) : FnOk P w K mg base (L2.CX P w) 4 T.a_turned T.d_turned ["position"] (spTurned K T.c_Position T.c_BadPosition) := by
  refine T.F_turned.okX sc_turned (fun vs H Q E h => ?_) (fun cdv A outer s H vs Q E hr h => ?_)
  · obtain ⟨v, t, rfl, _⟩ := h; rfl
  obtain ⟨v, t, rfl, ty, hk, kx⟩ := h
  refine ⟨_, (pss_cons (ps_expr (pe_call (O_need_position T) (hr.mono (by decide)) (by rfl) T.m_need_position T.F_need_position.kp T.b_need_position .nil (pX (takes_of rfl rfl rfl rfl) (fun _ _ _ _ h => h)) (pa_cons (pv 0) (pa_cons pe_str pa_nil))))
      pss_dead), ?_⟩
  exact ⟨_, rfl, v, _, t, rfl, ty, .inl ⟨hk, kx⟩⟩
theorem O_mirrored (T : Tx K mg w) : FnOk P w K mg base (L2.CX P w) 4 T.a_mirrored T.d_mirrored ["position"] (spTurned K T.c_Position T.c_BadPosition) := by
  refine T.F_mirrored.okX sc_mirrored (fun vs H Q E h => ?_) (fun cdv A outer s H vs Q E hr h => ?_)
  · obtain ⟨v, t, rfl, _⟩ := h; rfl
  obtain ⟨v, t, rfl, ty, hk, kx⟩ := h
  refine ⟨_, (pss_cons (ps_expr (pe_call (O_need_position T) (hr.mono (by decide)) (by rfl) T.m_need_position T.F_need_position.kp T.b_need_position .nil (pX (takes_of rfl rfl rfl rfl) (fun _ _ _ _ h => h)) (pa_cons (pv 0) (pa_cons pe_str pa_nil))))
      pss_dead), ?_⟩
  exact ⟨_, rfl, v, _, t, rfl, ty, .inl ⟨hk, kx⟩⟩
def spMoved (K : PySem.W.Frag) (CP DP DN : Addr) : Sp := fun vs H Q E => ∃ (v u1 u2 : V) (t : Value), vs = [v, u1, u2] ∧ TyX K H v t ∧ ((PySem.W.kitOne K t (.ref CP) = some false ∧ XP DP "position" H E) ∨
  (PySem.W.kitOne K t (.ref CP) = some true ∧ ∃ (c : Addr) (d1 d2 : PyData), DV K c H u1 d1 ∧ DV K c H u2 d2 ∧ ((isInt d1 = false ∧ XP DN "across" H E) ∨ (isInt d1 = true ∧ isInt d2 = false ∧ XP DN "up" H E))))
theorem O_moved (T : Tx K mg w) : FnOk P w K mg base (L2.CX P w) 4 T.a_moved T.d_moved ["position", "across", "up"] (spMoved K T.c_Position T.c_BadPosition T.c_BadNumber) := by
  refine T.F_moved.okX sc_moved (fun vs H Q E h => ?_) (fun cdv A outer s H vs Q E hr h => ?_)
  · obtain ⟨v, u1, u2, t, rfl, _⟩ := h; rfl
  obtain ⟨v, u1, u2, t, rfl, ty, h⟩ := h
  refine ⟨_, (pss_cons (ps_expr (pe_call (O_need_position T) (hr.mono (by decide)) (by rfl) T.m_need_position T.F_need_position.kp T.b_need_position .nil (pX (takes_of rfl rfl rfl rfl) (fun _ _ _ _ h => h)) (pa_cons (pv 0) (pa_cons pe_str pa_nil))))
      (pss_cons (ps_expr (pe_call (O_need_way T) (hr.mono (by decide)) (by rfl) T.m_need_way T.F_need_way.kp T.b_need_way .nil (pX (takes_of rfl rfl rfl rfl) (fun _ _ _ _ h => h)) (pa_cons (pv 1) (pa_cons (pv 2) pa_nil))))
      pss_dead)), ?_⟩
  rcases h with ⟨hk, kx⟩ | ⟨hk, c, d1, d2, h1, h2, h⟩
  · exact ⟨_, rfl, v, _, t, rfl, ty, .inl ⟨hk, kx⟩⟩
  refine ⟨_, rfl, v, _, t, rfl, ty, .inr ⟨hk, ?_⟩⟩
  refine ⟨_, rfl, _, rfl, c, u1, u2, d1, d2, rfl, h1, h2, ?_, ?_, ?_⟩
  · intro e
    rcases h with ⟨_, kx⟩ | ⟨e2, _, _⟩
    · exact kx
    · rw [e] at e2; cases e2
  · intro e e2
    rcases h with ⟨e3, _⟩ | ⟨_, _, kx⟩
    · rw [e] at e3; cases e3
    · exact kx
  · intro e e2
    rcases h with ⟨e3, _⟩ | ⟨_, e3, kx⟩
    · rw [e] at e3; cases e3
    · rw [e2] at e3; cases e3
def ways3 : List Str := ["turned", "mirrored", "moved"]
def isWay : PyData → Bool
  | .str x => decide (x ∈ ways3)
  | _ => false
def goneXY (s : Str) (q : Int × Int) (a u : Int) : Int × Int := if s = ("turned" : Str) then (-q.2, q.1) else if s = ("mirrored" : Str) then (-q.1, q.2) else (q.1 + a, q.2 + u)
def spPair (K : PySem.W.Frag) : Sp := fun vs H Q _ => ∃ (l : Addr) (s : Str) (q : Int × Int) (a u : Int), vs = [.ref l, .str s, .int a, .int u] ∧ Seq K H l (sqV q) ∧ ∀ H' r, Same H H' → H' r = some (.tup (sqV (goneXY s q a u))) → Q (.ref r) H'
theorem O_pair_along (T : Tx K mg w) : FnOk P w K mg base CX0 1 T.a_pair_along T.d_pair_along ["pair", "how", "across", "up"] (spPair K) := by
  refine T.F_pair_along.ok sc_pair_along (fun vs H Q E h => ?_) (fun cdv A outer s H vs Q E hr h => ?_)
  · obtain ⟨l, s, q, a, u, rfl, _⟩ := h; rfl
  obtain ⟨l, sw, q, a, u, rfl, hl, k⟩ := h
  refine ⟨_, (pss_cons (ps_asg (pv 0) (pg_seq rfl (pgs_cons (pg_name (i := 4) sc_pair_along.nd rfl (Or.inl rfl)) (pgs_cons (pg_name (i := 5) sc_pair_along.nd rfl (Or.inl rfl)) pgs_nil))))
      (pss_cons (ps_if (pt_cmpR op_eq (pv 1) pe_str (nomark _)) (pss_one (ps_ret (pe_tup (pa_cons (pe_un un_neg (pv 5)) (pa_cons (pv 4) pa_nil))))) pss_nil)
      (pss_cons (ps_if (pt_cmpR op_eq (pv 1) pe_str (nomark _)) (pss_one (ps_ret (pe_tup (pa_cons (pe_un un_neg (pv 4)) (pa_cons (pv 5) pa_nil))))) pss_nil)
      (pss_one (ps_ret (pe_tup (pa_cons (pe_op op_add (pv 4) (pv 2)) (pa_cons (pe_op op_add (pv 5) (pv 3)) pa_nil)))))))), ?_⟩
  refine ⟨_, rfl, gSeq.of hl rfl ⟨_, _, rfl, _, _, rfl, rfl, ?_⟩⟩
  refine ⟨_, rfl, rfl, _, rfl, ?_⟩
  refine iteB (fun e => ?_) (fun e => ?_)
  · have e : sw = ("turned" : Str) := V.str.inj (of_decide_eq_true e)
    refine ⟨_, rfl, _, rfl, _, rfl, szl rfl, fun r hr => ?_⟩
    exact k _ r (same_new hr) (by unfold goneXY; rw [if_pos e]; exact upd_same)
  have n1 : ¬ sw = ("turned" : Str) := fun z => of_decide_eq_false e (by rw [z])
  refine ⟨_, rfl, rfl, _, rfl, ?_⟩
  refine iteB (fun e => ?_) (fun e => ?_)
  · have e : sw = ("mirrored" : Str) := V.str.inj (of_decide_eq_true e)
    refine ⟨_, rfl, _, rfl, _, rfl, szl rfl, fun r hr => ?_⟩
    exact k _ r (same_new hr) (by unfold goneXY; rw [if_neg n1, if_pos e]; exact upd_same)
  have n2 : ¬ sw = ("mirrored" : Str) := fun z => of_decide_eq_false e (by rw [z])
  refine ⟨_, rfl, _, rfl, _, _, rfl, rfl, _, rfl, _, rfl, _, _, rfl, rfl, szl rfl, fun r hr => ?_⟩
  exact k _ r (same_new hr) (by unfold goneXY; rw [if_neg n1, if_neg n2]; exact upd_same)
/-- a move stands -/
def MvAt (K : PySem.W.Frag) (H : Hp) (l : Addr) (p q : Int × Int) : Prop := ∃ a b, Seq K H l [.ref a, .ref b] ∧ Seq K H a (sqV p) ∧ Seq K H b (sqV q)
theorem seq_same {l : Addr} {xs : List V} (h : Seq K H l xs) (s : Same H H') : Seq K H' l xs := h.imp s.seq s.seqT
theorem MvAt.same {l : Addr} {p q : Int × Int} (h : MvAt K H l p q) (s : Same H H') : MvAt K H' l p q := by
  obtain ⟨a, b, h1, h2, h3⟩ := h
  exact ⟨a, b, seq_same h1 s, seq_same h2 s, seq_same h3 s⟩
theorem sq_dv2 {c l : Addr} {q : Int × Int} (n : l ≠ c) (h : Seq K H l (sqV q)) : ∃ d, DV K c H (.ref l) d ∧ isSq d = true := by
  rcases h with h | h
  · exact ⟨_, .lst n h (.cons (.int _) (.cons (.int _) .nil)), rfl⟩
  · exact ⟨_, .tup n h (.cons (.int _) (.cons (.int _) .nil)), rfl⟩
theorem MvAt.dv {l : Addr} {p q : Int × Int} (h : MvAt K H l p q) : ∃ c d, DV K c H (.ref l) d ∧ isMv d = true := by
  obtain ⟨a, b, h1, h2, h3⟩ := h
  obtain ⟨c0, na, nb, nl⟩ := fresh3 a b l
  obtain ⟨d2, q2, e2⟩ := sq_dv2 (c := c0) na h2
  obtain ⟨d3, q3, e3⟩ := sq_dv2 (c := c0) nb h3
  rcases h1 with h1 | h1
  · exact ⟨c0, _, .lst nl h1 (.cons q2 (.cons q3 .nil)), by show (isSq d2 && isSq d3) = true; rw [e2, e3]; rfl⟩
  · exact ⟨c0, _, .tup nl h1 (.cons q2 (.cons q3 .nil)), by show (isSq d2 && isSq d3) = true; rw [e2, e3]; rfl⟩
/-- a new move -/
def NewMv (H : Hp) (r : Addr) (p q : Int × Int) : Prop := ∃ a b, H r = some (.tup [.ref a, .ref b]) ∧ H a = some (.tup (sqV p)) ∧ H b = some (.tup (sqV q))
def spGone (K : PySem.W.Frag) (DM DW DN : Addr) : Sp := fun vs H Q E => ∃ (vm vh va vu : V), vs = [vm, vh, va, vu] ∧
  ((∃ c d, DV K c H vm d ∧ isMv d = false ∧ XP DM "move" H E) ∨ ∃ (l : Addr) (p q : Int × Int), vm = .ref l ∧ MvAt K H l p q ∧
    ((∃ c d, DV K c H vh d ∧ isWay d = false ∧ XP DW "how" H E) ∨ ∃ sw : Str, vh = .str sw ∧ sw ∈ ways3 ∧
      ((∃ c da du, DV K c H va da ∧ DV K c H vu du ∧ isInt da = false ∧ XP DN "across" H E) ∨ ∃ a : Int, va = .int a ∧
        ((∃ c du, DV K c H vu du ∧ isInt du = false ∧ XP DN "up" H E) ∨ ∃ u : Int, vu = .int u ∧ ∀ H' r, Same H H' → NewMv H' r (goneXY sw p a u) (goneXY sw q a u) → Q (.ref r) H'))))
theorem way_in {K : PySem.W.Frag} (sw : Str) : (!inV (.str sw) (ways3.map V.str)) = !decide (sw ∈ ways3) := by rw [inV_str]
theorem O_gone_along (T : Tx K mg w) : FnOk P w K mg base (L2.CX P w) 4 T.a_gone_along T.d_gone_along ["move", "how", "across", "up"] (spGone K T.c_BadMove T.c_BadWords T.c_BadNumber) := by
  refine funD_okC T.F_gone_along sc_gone_along (fun vs H Q E h => ?_) (fun cdv hcd A outer s H vs Q E hr h => ?_)
  · obtain ⟨vm, vh, va, vu, rfl, _⟩ := h; rfl
  obtain ⟨vm, vh, va, vu, rfl, h⟩ := h
  refine ⟨_, (pss_cons (ps_if (pt_not (pt_truth (pe_call (O_is_move T) (hr.mono (by decide)) (by rfl) T.m_is_move T.F_is_move.kp T.b_is_move .nil pass0 (pa_cons (pv 0) pa_nil)) (by intro _; rfl))) (pss_one (ps_raise rfl (takes_of rfl rfl rfl rfl) (pmk_oex T.ox_BadMove T.ic_BadMove T.ti_BadMove (O_BadMove___init__ T) (hr.mono (by decide)) T.b_BadMove___init__ .nil pass0 (by rfl) T.m_BadMove (pa_cons pe_str pa_nil)))) pss_nil)
      (pss_cons (ps_if (PW.pt (pw_or (pt_not (pt_val (pe_callB (r := rIsi K) call_isi (by rfl) T.z_isinstance (by decide +kernel) (pa_cons (pv 1) (pa_cons (pe_bltn (v := .ty "str") (u := .type "str") (by rfl) T.z_str (by decide +kernel) rfl) pa_nil))))) (pw_or1 (pt_cmpR (r := rIn K true) op_notIn_seq (pv 1) (pe_glob (v := .ref T.t_WY) (by rfl) T.g_WY rfl) (by rfl))))) (pss_one (ps_raise rfl (takes_of rfl rfl rfl rfl) (pmk_oex T.ox_BadWords T.ic_BadWords T.ti_BadWords (O_BadWords___init__ T) (hr.mono (by decide)) T.b_BadWords___init__ .nil pass0 (by rfl) T.m_BadWords (pa_cons pe_str pa_nil)))) pss_nil)
      (pss_cons (ps_expr (pe_call (O_need_way T) (hr.mono (by decide)) (by rfl) T.m_need_way T.F_need_way.kp T.b_need_way .nil (pX (takes_of rfl rfl rfl rfl) (fun _ _ _ _ h => h)) (pa_cons (pv 2) (pa_cons (pv 3) pa_nil))))
      (pss_cons (ps_asg (pv 0) (pg_seq rfl (pgs_cons (pg_name (i := 4) sc_gone_along.nd rfl (Or.inl rfl)) (pgs_cons (pg_name (i := 5) sc_gone_along.nd rfl (Or.inl rfl)) pgs_nil))))
      (pss_one (ps_ret (pe_tup (pa_cons (pe_call (O_pair_along T) (hr.mono (by decide)) (by rfl) T.m_pair_along T.F_pair_along.kp T.b_pair_along .nil pass0 (pa_cons (pv 4) (pa_cons (pv 1) (pa_cons (pv 2) (pa_cons (pv 3) pa_nil))))) (pa_cons (pe_call (O_pair_along T) (hr.mono (by decide)) (by rfl) T.m_pair_along T.F_pair_along.kp T.b_pair_along .nil pass0 (pa_cons (pv 5) (pa_cons (pv 1) (pa_cons (pv 2) (pa_cons (pv 3) pa_nil))))) pa_nil))))))))), ?_⟩
  rcases h with ⟨c, d, hd, e, kx⟩ | ⟨l, p, q, rfl, hm, h⟩
  · refine ⟨_, rfl, c, vm, d, rfl, hd, fun H1 s1 => ⟨_, rfl, ?_⟩⟩
    have e' : pairP isSq d = false := e
    rw [e']
    refine iteT ?_
    exact ⟨Nat.le_of_ble_eq_true rfl, mk_err fun d H' a b c => (kx.up s1) d H' a b c⟩
  obtain ⟨c, d, hd, e⟩ := hm.dv
  refine ⟨_, rfl, c, .ref l, d, rfl, hd, fun H1 s1 => ⟨_, rfl, ?_⟩⟩
  have e' : pairP isSq d = true := e
  rw [e']
  refine iteF ?_
  clear hd e e'
  rcases h with ⟨c, dh, hh, e, kx⟩ | ⟨sw, rfl, hsw, h⟩
  · have hh1 := hh.up (Ext.of s1)
    have bad : (∀ d H', H1 d = none → Same H1 H' → H' d = some (.xd [("part", .str "how")]) → E (.ref T.c_BadWords) (some d) H') := fun d H' a b c => (kx.up s1) d H' a b c
    refine ⟨_, rfl, _, .ty "str", .type (tyN _), .type "str", _, rfl, .ty _, ty_of hh1, kit_ty (kS _), _, rfl, ?_⟩
    refine iteB (fun e1 => ?_) (fun e1 => ?_)
    · exact iteT ⟨Nat.le_of_ble_eq_true rfl, mk_err bad⟩
    · have e1 : isStr dh = true := by simpa using e1
      cases hh1 with
      | str x =>
        have e : decide (x ∈ ways3) = false := e
        refine ⟨_, rfl, T.t_WY, ways3.map V.str, rfl, .inr (T.s_WY H1), rfl, rfl, _, rfl, ?_⟩
        rw [way_in (K := K), e]
        exact iteT ⟨Nat.le_of_ble_eq_true rfl, mk_err bad⟩
      | _ => cases e1
  have hs : DV K c H1 (.str sw) (.str sw) := .str _
  refine ⟨_, rfl, _, .ty "str", .type (tyN _), .type "str", _, rfl, .ty _, ty_of hs, kit_ty (kS _), _, rfl, iteF ?_⟩
  refine ⟨_, rfl, T.t_WY, ways3.map V.str, rfl, .inr (T.s_WY H1), rfl, rfl, _, rfl, ?_⟩
  rw [way_in (K := K), decide_eq_true hsw]
  refine iteF ?_
  rcases h with ⟨c, da, du, ha, hu, e, kx⟩ | ⟨a, rfl, h⟩
  · exact ⟨_, rfl, _, rfl, c, va, vu, da, du, rfl, ha.up (Ext.of s1), hu.up (Ext.of s1), fun _ => kx.up s1, (fun z => by rw [e] at z; cases z), fun z => by rw [e] at z; cases z⟩
  rcases h with ⟨c, du, hu, e, kx⟩ | ⟨u, rfl, k⟩
  · exact ⟨_, rfl, _, rfl, c, .int a, vu, .int a, du, rfl, .int a, hu.up (Ext.of s1), (fun z => nomatch z), (fun _ _ => kx.up s1), fun _ z => by rw [e] at z; cases z⟩
  refine ⟨_, rfl, _, rfl, c, .int a, .int u, .int a, .int u, rfl, .int a, .int u, (fun z => nomatch z), (fun _ z => nomatch z), fun _ _ H2 s2 => ?_⟩
  have s12 := s1.trans s2
  obtain ⟨la, lb, h1, h2, h3⟩ := hm.same s12
  refine ⟨_, rfl, gSeq.of h1 rfl ⟨_, _, rfl, _, _, rfl, rfl, ?_⟩⟩
  refine ⟨_, rfl, _, rfl, _, rfl, _, rfl, la, sw, p, a, u, rfl, h2, fun H3 r1 s3 g1 => ?_⟩
  refine ⟨_, rfl, _, rfl, _, rfl, _, rfl, lb, sw, q, a, u, rfl, seq_same h3 s3, fun H4 r2 s4 g2 => ?_⟩
  refine ⟨szl rfl, fun r hr => ?_⟩
  have s5 : Same H4 (upd H4 r (.tup [.ref r1, .ref r2])) := same_new hr
  exact k _ r (s12.trans (s3.trans (s4.trans s5))) ⟨r1, r2, upd_same, s5 _ _ (s4 _ _ g1), s5 _ _ g2⟩
end
end K57

set_option Elab.async false
set_option linter.all false
set_option maxRecDepth 100000
set_option maxHeartbeats 4000000
namespace K57
open PySem PySem.Spec PyProof.Rows L2 Gs
section
variable {P : Program} {w : World} {K : PySem.W.Frag} {mg : Str → Option Value} {base : Heap}
def spCrate (K : PySem.W.Frag) : Sp := fun vs H Q _ => ∃ (a : Addr) (ns : List Int), vs = [.ref a] ∧ SqL K H a (ns.map V.int) ∧ ns.length ≤ 63 ∧
  ∀ c l H', H c = none → H l = none → Ext c H H' → Bag c l 0 H' → Q (.ref c) H'
theorem cut60 (ns : List Int) : cutV (ns.map V.int) none (some 60) = (ns.take 60).map V.int := by
  unfold cutV
  rw [HT.sIx_none, show (some (60 : Int)) = some ((60 : Nat) : Int) from rfl, HT.sIx_nat, List.drop_zero, Nat.sub_zero, List.map_take, ← List.take_take, List.take_length]
theorem G__law_hinge (T : Tx K mg w) : FnG P w K mg base CX0 1 T.a__law_hinge T.d__law_hinge ["script"] (spCrate K) := by
  refine fun_okG T.F__law_hinge sc__law_hinge (fun vs H Q E h => ?_) (fun cdv A outer s H vs Q E hr hg h => ?_)
  · obtain ⟨a, ns, rfl, _⟩ := h; rfl
  · obtain ⟨a, ns, rfl, hS, hl, k⟩ := h
    refine ⟨_, (pss_one (ps_ret (pe_lst (pa_cons (pe_lc (own := [("cell", 1)]) (g := (gName 1)) rfl sc__law_hinge.nd (pi_list (pe_slice sl_list (pv 0) po_none (po_some pe_int))) (blkOk_by (N := n__law_hinge) (sc := defScope s__law_hinge) (by decide +kernel)) (fun _ _ _ _ _ => (pg_name (i := 1) sc__law_hinge.nd rfl (Or.inl rfl))) (fun _ _ _ _ _ => pts_nil) (fun _ _ _ _ _ => (pe_callTy call_int1 (by rfl) T.z_int (by decide +kernel) (pa_cons (pv 1) pa_nil)))) (pa_cons pe_int (pa_cons pe_int pa_nil)))))), ?_⟩
    refine ⟨_, rfl, _, rfl, a, _, rfl, hS, fun p hp => ?_⟩
    rw [cut60]
    have h60 : (ns.take 60).length ≤ 60 := List.length_take_le ..
    revert h60
    generalize ns.take 60 = ks
    intro h60
    refine ⟨p, rfl, ⟨_, .of upd_same⟩, fun D hD => ?_⟩
    have np : p ≠ D := fun e => by rw [← e, upd_same] at hD; cases hD
    have hD0 : H D = none := by rwa [upd_ne np.symm] at hD
    refine lc_list (K := K) (a := p) (xs := ks.map V.int) (fun i H' => H' p = some (.lst (ks.map V.int)) ∧ H' D = some (.lst ((ks.take i).map V.int)) ∧ ∀ b o, H b = some o → H' b = some o) ?_ ?_ ?_ ?_
    · refine ⟨by rw [upd_ne np, upd_same], upd_same, fun b o e => ?_⟩
      rw [upd_ne (ne_of_none e hD0), upd_ne (ne_of_none e hp)]; exact e
    · intro i H' _ h; exact .of h.1
    · rintro i x H' hx ⟨h1, h2, h3⟩
      obtain ⟨v, hv, rfl⟩ : ∃ v, ks[i]? = some v ∧ V.int v = x := by
        rw [List.getElem?_map] at hx
        cases e : ks[i]? with
        | none => rw [e] at hx; cases hx
        | some v => rw [e] at hx; exact ⟨v, rfl, Option.some.inj hx⟩
      refine ⟨rfl, ?_⟩
      refine ⟨_, rfl, .inl ⟨v, rfl, _, h2, ?_, ?_, ?_, ?_⟩⟩
      · rw [List.length_map]; exact szs (Nat.lt_of_le_of_lt (List.length_take_le' ..) (by omega))
      · rw [upd_ne np]; exact h1
      · rw [upd_same, List.take_add_one, hv, List.map_append]; rfl
      · intro b o e; rw [upd_ne (ne_of_none e hD0)]; exact h3 _ _ e
    · rintro H' ⟨h1, h2, h3⟩
      rw [List.length_map, List.take_length] at h2
      refine ⟨szl rfl, fun c hc => ?_⟩
      have nc : D ≠ c := ne_of_none h2 hc
      have hc0 : H c = none := by
        cases e : H c with
        | none => rfl
        | some o => rw [h3 _ _ e] at hc; cases hc
      refine k c D _ hc0 hD0 (fun b o _ e => ?_) ⟨ks, 0, 0, upd_same, by rw [upd_ne nc]; exact h2, nc, h60, by decide, by decide, by decide⟩
      rw [upd_ne (ne_of_none e hc0)]; exact h3 _ _ e
def spLift : Sp := fun vs H Q _ => ∃ (c l : Addr) (n : Nat) (m : Int), vs = [.ref c, .int m] ∧ Bag c l n H ∧ n ≤ 1000000 ∧ 0 < m ∧ m < 1073741824 ∧
  ∀ v H', 0 ≤ v → v < m → Bag c l (n + 1) H' → Ext c H H' → Q (.int v) H'
theorem O__law_swing (T : Tx K mg w) : FnOk P w K mg base CX0 1 T.a__law_swing T.d__law_swing ["hinge", "many"] spLift := by
  refine T.F__law_swing.ok sc__law_swing (fun vs H Q E h => ?_) (fun cdv A outer s H vs Q E hr h => ?_)
  · obtain ⟨c, l, n, m, rfl, _⟩ := h; rfl
  · obtain ⟨c, l, n, m, rfl, ⟨ns, pt, rest, hc, hl, nlc, hn, h0, h1, h2⟩, hN, hm0, hm1, k⟩ := h
    refine ⟨_, (pss_cons (ps_if (pt_cmpR (op_eqD hr.units) (pe_ix ix_list (pv 0) pe_int (fun _ _ => rfl)) (pe_lst pa_nil) (nomark _)) (pss_one (ps_ret pe_int)) pss_nil)
      (pss_cons (ps_if (pt_cmpR op_gt (pe_ix ix_list (pv 0) pe_int (fun _ _ => rfl)) pe_int (nomark _)) (pss_cons (ps_set (i := 2) sc__law_swing.nd rfl (Or.inl rfl) (pe_callTy call_int1 (by rfl) T.z_int (by decide +kernel) (pa_cons (pe_ix ix_list (pv 0) pe_int (fun _ _ => rfl)) pa_nil)))
      (pss_cons (ps_asg (pe_op op_fdiv (pv 2) (pv 1)) (pg_sub (pv 0) pe_int set_list))
      (pss_one (ps_ret (pe_op op_mod (pe_callTy call_int1 (by rfl) T.z_int (by decide +kernel) (pa_cons (pv 2) pa_nil)) (pv 1)))))) pss_nil)
      (pss_cons (ps_set (i := 3) sc__law_swing.nd rfl (Or.inl rfl) (pe_ix ix_list (pv 0) pe_int (fun _ _ => rfl)))
      (pss_cons (ps_asg (pe_op op_add (pv 3) pe_int) (pg_sub (pv 0) pe_int set_list))
      (pss_cons (ps_set (i := 4) sc__law_swing.nd rfl (Or.inl rfl) (pe_ix ix_list (pe_ix ix_list (pv 0) pe_int (fun _ _ => rfl)) (pe_op op_mod (pe_callTy call_int1 (by rfl) T.z_int (by decide +kernel) (pa_cons (pv 3) pa_nil)) (pe_callB call_len_seq (by rfl) T.z_len (by decide +kernel) (pa_cons (pe_ix ix_list (pv 0) pe_int (fun _ _ => rfl)) pa_nil))) (fun _ _ => rfl)))
      (pss_cons (ps_if (PW.pt (pw_and (pt_cmpR op_lt (pv 3) (pe_callB call_len_seq (by rfl) T.z_len (by decide +kernel) (pa_cons (pe_ix ix_list (pv 0) pe_int (fun _ _ => rfl)) pa_nil)) (nomark _)) (pw_and1 (pt_cmpR op_ge (pe_callB call_abs (by rfl) T.z_abs (by decide +kernel) (pa_cons (pv 4) pa_nil)) (pe_op op_pow pe_int pe_int) (nomark _))))) (pss_cons (ps_set (i := 2) sc__law_swing.nd rfl (Or.inl rfl) (pe_op op_add (pe_op op_mul pe_int (pe_op op_sub (pe_callB call_abs (by rfl) T.z_abs (by decide +kernel) (pa_cons (pv 4) pa_nil)) (pe_op op_pow pe_int pe_int))) (pe_callTy call_int1 (by rfl) T.z_int (by decide +kernel) (pa_cons (pe_cmpR op_lt (pv 4) pe_int (nomark _)) pa_nil))))
      (pss_cons (ps_asg (pe_op op_fdiv (pe_callTy call_int1 (by rfl) T.z_int (by decide +kernel) (pa_cons (pv 2) pa_nil)) (pv 1)) (pg_sub (pv 0) pe_int set_list))
      (pss_one (ps_ret (pe_op op_mod (pe_callTy call_int1 (by rfl) T.z_int (by decide +kernel) (pa_cons (pv 2) pa_nil)) (pv 1)))))) pss_nil)
      (pss_cons (ps_set (i := 5) sc__law_swing.nd rfl (Or.inl rfl) (pe_op op_mod (pe_callTy call_int1 (by rfl) T.z_int (by decide +kernel) (pa_cons (pe_op op_pow (pe_op op_add (pe_op op_add (pe_op op_mod (pe_callTy call_int1 (by rfl) T.z_int (by decide +kernel) (pa_cons (pv 4) pa_nil)) pe_int) (pe_op op_mul pe_int (pv 3))) pe_int) pe_int) pa_nil)) pe_int))
      (pss_cons (ps_set (i := 5) sc__law_swing.nd rfl (Or.inl rfl) (pe_op op_mod (pe_callTy call_int1 (by rfl) T.z_int (by decide +kernel) (pa_cons (pe_op op_pow (pe_op op_add (pe_op op_add (pe_op op_mul (pv 5) (pe_op op_add (pe_op op_mul pe_int (pv 3)) pe_int)) (pe_op op_mul (pe_op op_mul pe_int (pv 3)) (pv 3))) pe_int) pe_int) pa_nil)) pe_int))
      (pss_one (ps_ret (pe_op op_mod (pe_callTy call_int1 (by rfl) T.z_int (by decide +kernel) (pa_cons (pe_op op_fdiv (pv 5) pe_int) pa_nil)) (pv 1)))))))))))), ?_⟩
    have hb : Bag c l n H := ⟨ns, pt, rest, hc, hl, nlc, hn, h0, h1, h2⟩
    -- the bag's list, is it empty
    refine ⟨_, rfl, c, _, 0, _, rfl, rfl, .of hc, rfl, szl rfl, fun e he => ?_⟩
    have nle : l ≠ e := ne_of_none hl he
    have nce : c ≠ e := ne_of_none hc he
    have hc1 : upd H e (.lst []) c = some (.lst [.ref l, .int pt, .int rest]) := by rw [upd_ne nce]; exact hc
    have hl1 : upd H e (.lst []) l = some (.lst (ns.map V.int)) := by rw [upd_ne nle]; exact hl
    have x1 : Ext c H (upd H e (.lst [])) := Ext.new he
    refine ⟨.list (ns.map .int), .list [], .lst (.of hl1) (dp_ints ns), .lst (.of upd_same) .nil, shaped_ints ns, by decide, _, rfl, ?_⟩
    refine ite2 (fun e0 => ?_) (fun e0 => ?_)
    · exact k 0 _ (by decide) hm0 (hb.mono (Nat.le_succ n) |>.new he) x1
    have hne : ns ≠ [] := fun z => by
      apply e0; rw [eqv_nil, z]; rfl
    generalize upd H e (.lst []) = H1 at hc1 hl1 x1
    -- what is left of a great number
    refine ⟨_, rfl, c, _, 2, _, rfl, rfl, .of hc1, rfl, _, _, rfl, rfl, _, rfl, ?_⟩
    refine ite2 (fun e2 => ?_) (fun e2 => ?_)
    · refine ⟨_, rfl, c, _, 2, _, rfl, rfl, .of hc1, rfl, .inl ⟨_, rfl, ?_⟩⟩
      refine ⟨_, rfl, _, rfl, _, _, rfl, rfl, ⟨hm0, hm1⟩, _, rfl, c, _, 2, 2, rfl, rfl, hc1, rfl, ?_⟩
      refine ⟨_, rfl, .inl ⟨_, rfl, _, rfl, _, _, rfl, rfl, hm0, ?_⟩⟩
      exact k (rest % m) _ (Int.emod_nonneg _ (by omega)) (Int.emod_lt_of_pos _ hm0) ⟨ns, pt, rest / m, upd_same, by rw [upd_ne nlc]; exact hl1, nlc, hn, h0, by omega, Int.ediv_nonneg h2 (by omega)⟩ (x1.trans Ext.bag)
    -- the next cell
    refine ⟨_, rfl, c, _, 1, _, rfl, rfl, .of hc1, rfl, ?_⟩
    refine ⟨_, rfl, _, _, rfl, rfl, _, rfl, c, _, 1, 1, rfl, rfl, hc1, rfl, ?_⟩
    refine gcut (fun H2 => H2 c = some (.lst [.ref l, .int (pt + 1), .int rest]) ∧ H2 l = some (.lst (ns.map V.int)) ∧ Ext c H H2) ⟨upd_same, by rw [upd_ne nlc]; exact hl1, x1.trans Ext.bag⟩ ?_
    rintro H2 ⟨hc2, hl2, x2⟩
    have x3 : ∀ r : Int, Ext c H (upd H2 c (.lst [.ref l, .int (pt + 1), .int r])) := fun r => x2.trans Ext.bag
    have hpt : pt ≤ 1000000 := by omega
    obtain ⟨v, hv⟩ := at_mod (pt := pt) hne h0
    have hlen : 0 < ((ns.map V.int).length : Int) := by
      have := List.length_pos_iff.mpr hne
      rw [List.length_map]; omega
    refine ⟨_, rfl, c, _, 0, _, rfl, rfl, .of hc2, rfl, _, rfl, .inl ⟨_, rfl, _, rfl, c, _, 0, _, rfl, rfl, .of hc2, rfl, l, _, rfl, .inl (.of hl2), _, _, rfl, rfl, hlen, l, _, _, .int v, rfl, rfl, .of hl2, hv, ?_⟩⟩
    -- at < len(bag[0]) and abs(cell) >= 10 ** 18
    refine ⟨_, rfl, _, rfl, c, _, 0, _, rfl, rfl, .of hc2, rfl, l, _, rfl, .inl (.of hl2), _, _, rfl, rfl, _, rfl, ?_⟩
    have fin : ∀ r : Int, 0 ≤ r → Bag c l (n + 1) (upd H2 c (.lst [.ref l, .int (pt + 1), .int r])) := fun r hr0 =>
      ⟨ns, pt + 1, r, upd_same, by rw [upd_ne nlc]; exact hl2, nlc, hn, by omega, by omega, hr0⟩
    have fin0 : Bag c l (n + 1) H2 := ⟨ns, pt + 1, rest, hc2, hl2, nlc, hn, by omega, by omega, h2⟩
    refine ite2 (fun e3 => ?_) (fun e3 => ?_)
    · refine ⟨_, rfl, _, rfl, _, _, rfl, rfl, ⟨by decide, by decide, by decide⟩, _, _, rfl, rfl, _, rfl, ?_⟩
      refine ite2 (fun e4 => ?_) (fun e4 => ?_)
      · -- a great number: what it tells is handed out bit by bit
        refine ⟨_, rfl, _, rfl, _, _, rfl, rfl, ⟨by decide, by decide, by decide⟩, _, _, rfl, rfl, _, _, rfl, rfl, .inl ⟨by decide, by decide⟩, _, rfl, _, _, rfl, rfl, .inr ⟨_, rfl, _, _, rfl, rfl, ?_⟩⟩
        have hbig : (0 : Int) ≤ 2 * ((if v < 0 then -v else v) - 10 ^ (18 : Int).toNat) + (if decide (v < 0) = true then 1 else 0) := by
          have := of_decide_eq_true e4
          split <;> omega
        refine ⟨_, rfl, .inl ⟨_, rfl, _, rfl, _, _, rfl, rfl, ⟨hm0, hm1⟩, _, rfl, c, _, 2, 2, rfl, rfl, hc2, rfl, ?_⟩⟩
        refine ⟨_, rfl, .inl ⟨_, rfl, _, rfl, _, _, rfl, rfl, hm0, ?_⟩⟩
        exact k _ _ (Int.emod_nonneg _ (by omega)) (Int.emod_lt_of_pos _ hm0) (fin _ (Int.ediv_nonneg hbig (Int.le_of_lt hm0))) (x3 _)
      · refine ⟨_, rfl, .inl ⟨_, rfl, _, _, rfl, rfl, pos_lit (by decide), _, rfl, _, _, rfl, rfl, .inl ⟨by decide, by decide⟩, _, _, rfl, rfl, _, _, rfl, rfl, _, _, rfl, rfl, ⟨by decide, by decide, by omega⟩, .inl ⟨_, rfl, _, _, rfl, rfl, pos_lit (by decide), ?_⟩⟩⟩
        refine ⟨_, rfl, _, rfl, _, _, rfl, rfl, .inl ⟨by decide, by decide⟩, _, _, rfl, rfl, _, _, rfl, rfl, .inl (emod_w (by decide) (by decide)), _, rfl, _, _, rfl, rfl, .inl ⟨by decide, by decide⟩, _, rfl, _, _, rfl, rfl, mul_pt h0 hpt (by decide) (by decide), _, _, rfl, rfl, _, _, rfl, rfl, _, _, rfl, rfl, ⟨by decide, by decide, mix_bound (emod_b (by decide) (by decide)).1 (emod_b (by decide) (by decide)).2 h0 hpt (by decide) (by decide) (by decide) (by decide) (by decide) (by decide)⟩, .inl ⟨_, rfl, _, _, rfl, rfl, pos_lit (by decide), ?_⟩⟩
        refine ⟨_, rfl, _, _, rfl, rfl, ⟨by decide, by decide⟩, .inl ⟨_, rfl, _, rfl, _, _, rfl, rfl, hm0, ?_⟩⟩
        exact k _ H2 (Int.emod_nonneg _ (by omega)) (Int.emod_lt_of_pos _ hm0) fin0 x2
    · refine ⟨_, rfl, .inl ⟨_, rfl, _, _, rfl, rfl, pos_lit (by decide), _, rfl, _, _, rfl, rfl, .inl ⟨by decide, by decide⟩, _, _, rfl, rfl, _, _, rfl, rfl, _, _, rfl, rfl, ⟨by decide, by decide, by omega⟩, .inl ⟨_, rfl, _, _, rfl, rfl, pos_lit (by decide), ?_⟩⟩⟩
      refine ⟨_, rfl, _, rfl, _, _, rfl, rfl, .inl ⟨by decide, by decide⟩, _, _, rfl, rfl, _, _, rfl, rfl, .inl (emod_w (by decide) (by decide)), _, rfl, _, _, rfl, rfl, .inl ⟨by decide, by decide⟩, _, rfl, _, _, rfl, rfl, mul_pt h0 hpt (by decide) (by decide), _, _, rfl, rfl, _, _, rfl, rfl, _, _, rfl, rfl, ⟨by decide, by decide, mix_bound (emod_b (by decide) (by decide)).1 (emod_b (by decide) (by decide)).2 h0 hpt (by decide) (by decide) (by decide) (by decide) (by decide) (by decide)⟩, .inl ⟨_, rfl, _, _, rfl, rfl, pos_lit (by decide), ?_⟩⟩
      refine ⟨_, rfl, _, _, rfl, rfl, ⟨by decide, by decide⟩, .inl ⟨_, rfl, _, rfl, _, _, rfl, rfl, hm0, ?_⟩⟩
      exact k _ H2 (Int.emod_nonneg _ (by omega)) (Int.emod_lt_of_pos _ hm0) fin0 x2
def spOne (K : PySem.W.Frag) : Sp := fun vs H Q _ => ∃ (c l s : Addr) (n : Nat) (xs : List V), vs = [.ref c, .ref s] ∧ Bag c l n H ∧ n ≤ 1000000 ∧ s ≠ c ∧ SqL K H s xs ∧ xs ≠ [] ∧ xs.length ≤ 1000 ∧
  ∀ (i : Nat) (v : V) (H' : Hp), xs[i]? = some v → Bag c l (n + 1) H' → Ext c H H' → Q v H'
theorem O__law_one (T : Tx K mg w) : FnOk P w K mg base CX0 2 T.a__law_one T.d__law_one ["hinge", "some"] (spOne K) := by
  refine T.F__law_one.ok sc__law_one (fun vs H Q E h => ?_) (fun cdv A outer s H vs Q E hr h => ?_)
  · obtain ⟨c, l, s, n, xs, rfl, _⟩ := h; rfl
  · obtain ⟨c, l, a, n, xs, rfl, hb, hN, na, hS, hne, hl, k⟩ := h
    have h0 : 0 < xs.length := List.length_pos_iff.mpr hne
    refine ⟨_, (pss_one (ps_ret (pe_ix ix_list (pv 1) (pe_call (O__law_swing T) (hr.mono (by decide)) (by rfl) T.m__law_swing T.F__law_swing.kp T.b__law_swing .nil pass0 (pa_cons (pv 0) (pa_cons (pe_callB call_len_seq (by rfl) T.z_len (by decide +kernel) (pa_cons (pv 1) pa_nil)) pa_nil))) (fun _ _ => rfl)))), ?_⟩
    refine ⟨_, rfl, _, rfl, _, rfl, a, xs, rfl, .inl hS, c, l, n, _, rfl, hb, hN, by omega, by omega, fun v H1 v0 v1 b1 x1 => ?_⟩
    obtain ⟨j, rfl⟩ := Int.eq_ofNat_of_zero_le v0
    have hj : j < xs.length := by omega
    refine ⟨a, xs, _, xs[j], rfl, rfl, x1.sqL na hS, atI_nat (List.getElem?_eq_getElem hj), ?_⟩
    exact k j _ H1 (List.getElem?_eq_getElem hj) b1 x1
end
end K57

set_option Elab.async false
set_option linter.all false
set_option maxRecDepth 100000
set_option maxHeartbeats 4000000
namespace K57
open PySem PySem.Spec PyProof.Rows L2 Gs
section
variable {P : Program} {w : World} {K : PySem.W.Frag} {mg : Str → Option Value} {base : Heap}
def Tx.ers (T : Tx K mg w) : List Addr := [T.c_BadPosition, T.c_BadMove, T.c_BadWords, T.c_BadNumber]
def wordsE : List Str := ["position", "move", "words", "number"]
/-- what is told of an exception with a part -/
def Told (T : Tx K mg w) (Q : VK) (cls : Value) (d : Option Addr) (H' : Hp) : Prop := ∃ (C d0 : Addr) (j : Nat) (wd p : Str), cls = .ref C ∧ d = some d0 ∧ T.ers[j]? = some C ∧ wordsE[j]? = some wd ∧ XfC K C ∧ PySem.W.findIn K (.ref C) "part" = some none ∧
  PySem.W.exmOne K (.ref C) (.ref T.c_FieldError) = some true ∧ H' d0 = some (.xd [("part", .str p)]) ∧ ∀ t H'', Same H' H'' → H'' t = some (.tup [.str wd, .str p]) → Q (.ref t) H''
/-- .. where nothing is raised -/
def TellN (Q : VK) (H' : Hp) : Prop := ∀ H'', Same H' H'' → Q .non H''
/-- _law_heard: what it makes of what is asked -/
def TTH (T : Tx K mg w) : (XK → Hp → VK → Prop) → Hp → VK → Prop := fun tl H Q => ∀ N : VK, (∀ v H', TellN Q H' → N v H') → tl (fun cls d H' => Told T Q cls d H') H N
theorem heard_gives (T : Tx K mg w) {X : Cx} {q : Str} {cdg : Value} (eK : X.K = K) (em : X.mg = mg) : LamX.GivesTo X n__law_heard "_law_heard" (defScope s__law_heard) T.a__law_heard cdg (defBody s__law_heard) "ask" q (TTH T) := by
  subst eK em
  intro f c' s H Q tl act hc h
  have hgF : Names (cxOf C8.CX0 X.prog X.w X.K X.mg X.base n__law_heard "_law_heard" (defScope s__law_heard) T.a__law_heard cdg X.A X.stack s H C8.E0).nox "FieldError" (.ref T.c_FieldError) := ⟨rfl, by decide, .inl T.m_FieldError⟩
  refine ⟨_, pss_cons (ps_set (i := 1) sc__law_heard.nd rfl (Or.inl rfl) pe_non) (pss_cons (ps_tryK
      (tb := fun W D σ H => ∃ Ech : XK, (∀ cls d σ' H', Ech cls d H' → W cls d σ' H') ∧ σ[0]? = some (some (.ref f)) ∧ H c' = some (LamX.CodeO c' q) ∧ tl Ech H (fun _ H' => D.nx σ H'))
      (i := 2) rfl rfl rfl LamX.takes0 (fun W pn xe tk _ => ?_) hgF sc__law_heard.nd rfl rfl
      (fun a ob cls d pn hz hf => pss_one (ps_set (i := 1) sc__law_heard.nd rfl (Or.inl rfl) (pv 2)))) (pss_cons (ps_set (i := 3) sc__law_heard.nd rfl (Or.inl rfl) (pe_lst (pa_cons (pe_callB (cr_or call_isV call_isi) (by rfl) T.z_isinstance (by decide +kernel) (pa_cons (pv 1) (pa_cons (pe_glob (v := .ref T.c_BadPosition) (by rfl) T.m_BadPosition rfl) pa_nil))) (pa_cons (pe_callB (cr_or call_isV call_isi) (by rfl) T.z_isinstance (by decide +kernel) (pa_cons (pv 1) (pa_cons (pe_glob (v := .ref T.c_BadMove) (by rfl) T.m_BadMove rfl) pa_nil))) (pa_cons (pe_callB (cr_or call_isV call_isi) (by rfl) T.z_isinstance (by decide +kernel) (pa_cons (pv 1) (pa_cons (pe_glob (v := .ref T.c_BadWords) (by rfl) T.m_BadWords rfl) pa_nil))) (pa_cons (pe_callB (cr_or call_isV call_isi) (by rfl) T.z_isinstance (by decide +kernel) (pa_cons (pv 1) (pa_cons (pe_glob (v := .ref T.c_BadNumber) (by rfl) T.m_BadNumber rfl) pa_nil))) pa_nil))))))
      (pss_cons (ps_if (pt_cmpR (r := rIn X.K false) op_in_seq pe_bl (pv 3) (by rfl)) (pss_one (ps_ret (pe_tup (pa_cons (pe_ix ix_list (pe_lst (pa_cons pe_str (pa_cons pe_str (pa_cons pe_str (pa_cons pe_str pa_nil))))) (pe_bm PySem.F.plainAttrs_list PySem.F.slot_list_index PySem.F.type_list_index mt_index (pv 3) (pa_cons pe_bl pa_nil)) (fun _ _ => rfl)) (pa_cons (pe_fv (pv 1)) pa_nil))))) pss_nil)
      (pss_one (ps_ret (pe_ifExp (pt_cmpR op_isN (pv 1) pe_non (nomark _)) pe_non (pe_tup (pa_cons pe_str (pa_cons pe_non pa_nil))))))))), ?_⟩
  · refine ⟨fun pins s' σ H' D I h' => ?_⟩
    obtain ⟨Ech, hW, h1, h2, h3⟩ := h'
    exact (pss_one (ps_expr (act W pn xe Ech _ _ tk hW))).run pins s' σ H' D I ⟨h1, h2, h3⟩
  have len4 : ∀ {σ' : L2.St}, σ'.length = n__law_heard.length → ∃ x y z x3, σ' = [x, y, z, x3] := fun {σ'} h => by
    match σ', h with
    | [x, y, z, x3], _ => exact ⟨x, y, z, x3, rfl⟩
  refine ⟨_, fun cls d σ' H' => ?_, rfl, hc, h _ fun v H' hN => ?_⟩
  · rintro ⟨C, d0, j, wd, p, rfl, rfl, hC, hw, xf, no, ex, hd0, k⟩
    refine ⟨true, ex, fun _ hl a na => ?_, fun z => nomatch z⟩
    obtain ⟨x, y, z, x3, rfl⟩ := len4 hl
    have sa : Same H' (upd H' a (exv a (.ref C) (some d0))) := same_new na
    have hE : ExI (upd H' a (exv a (.ref C) (some d0))) a C (some [("part", .str p)]) := ⟨d0, .inl upd_same, .inl (by rw [upd_ne (ne_of_none hd0 na)]; exact hd0)⟩
    refine ⟨_, rfl, ?_⟩
    have xc : ExcC X.K C := T.xc C (by exact List.mem_of_getElem? hC)
    have kk : ∀ (i : Nat) (D : Addr), T.ers[i]? = some D → PySem.W.kitOne X.K (.ref C) (.ref D) = some (decide (i = j)) := fun i D h => T.kk i j D C h hC
    refine ⟨_, rfl, .inl ⟨a, C, _, _, _, decide (0 = j), rfl, hE, xc, .own _, kk 0 _ rfl, ?_⟩⟩
    refine ⟨_, rfl, .inl ⟨a, C, _, _, _, decide (1 = j), rfl, hE, xc, .own _, kk 1 _ rfl, ?_⟩⟩
    refine ⟨_, rfl, .inl ⟨a, C, _, _, _, decide (2 = j), rfl, hE, xc, .own _, kk 2 _ rfl, ?_⟩⟩
    refine ⟨_, rfl, .inl ⟨a, C, _, _, _, decide (3 = j), rfl, hE, xc, .own _, kk 3 _ rfl, szl rfl, fun l hl => ?_⟩⟩
    have jl : j < 4 := (List.getElem?_eq_some_iff.mp hw).1
    have s1 : Same (upd H' a (exv a (.ref C) (some d0))) (upd (upd H' a (exv a (.ref C) (some d0))) l (.lst [.bl (decide (0 = j)), .bl (decide (1 = j)), .bl (decide (2 = j)), .bl (decide (3 = j))])) := same_new hl
    have g1 : upd (upd H' a (exv a (.ref C) (some d0))) l (.lst [.bl (decide (0 = j)), .bl (decide (1 = j)), .bl (decide (2 = j)), .bl (decide (3 = j))]) l = some (.lst [.bl (decide (0 = j)), .bl (decide (1 = j)), .bl (decide (2 = j)), .bl (decide (3 = j))]) := upd_same
    dsimp only [gName]
    generalize upd (upd H' a (exv a (.ref C) (some d0))) l _ = G1 at s1 g1 ⊢
    have E1 := hE.same s1
    refine ⟨_, rfl, l, _, rfl, .inl (.of g1), rfl, rfl, _, rfl, ?_⟩
    have all : ∀ j : Fin 4, inV (.bl true) [V.bl (decide (0 = j.1)), .bl (decide (1 = j.1)), .bl (decide (2 = j.1)), .bl (decide (3 = j.1))] = true := by decide
    have alf : ∀ j : Fin 4, ([V.bl (decide (0 = j.1)), .bl (decide (1 = j.1)), .bl (decide (2 = j.1)), .bl (decide (3 = j.1))] : List V)[j.1]? = some (.bl true) ∧ ∀ m : Fin 4, m.1 < j.1 → ([V.bl (decide (0 = j.1)), .bl (decide (1 = j.1)), .bl (decide (2 = j.1)), .bl (decide (3 = j.1))] : List V)[m.1]? = some (.bl false) := by decide
    rw [show inV (.bl true) [V.bl (decide (0 = j)), .bl (decide (1 = j)), .bl (decide (2 = j)), .bl (decide (3 = j))] = true from all ⟨j, jl⟩]
    refine iteT ?_
    refine ⟨szl rfl, fun m hm => ?_⟩
    have s2 : Same G1 (upd G1 m (.lst (wordsE.map V.str))) := same_new hm
    have g2 : upd G1 m (.lst (wordsE.map V.str)) m = some (.lst (wordsE.map V.str)) := upd_same
    have hw2 : (wordsE.map V.str)[j]? = some (.str wd) := by rw [List.getElem?_map, hw]; rfl
    obtain ⟨at1, at2⟩ := alf ⟨j, jl⟩
    refine ⟨_, rfl, .inl ⟨rfl, _, .of (s2 _ _ g1)⟩, l, _, .bl true, j, .bl true, rfl, rfl, .of (s2 _ _ g1), rfl, rfl, at1, rfl, fun m2 z' lt hz' => ?_, m, _, _, .str wd, rfl, rfl, .of g2, atI_nat hw2, ?_⟩
    · have := at2 ⟨m2, by omega⟩ lt
      rw [this] at hz'
      cases hz'; rfl
    have E2 := E1.same s2
    refine ⟨_, rfl, a, C, _, .str p, rfl, xf, no, E2, rfl, szl rfl, fun t ht => ?_⟩
    exact k t _ (sa.trans ((s1.trans s2).trans (same_new ht))) upd_same
  · have nn : ∀ (i : Nat) (D : Addr), T.ers[i]? = some D → PySem.W.kitOne X.K (.type "NoneType") (.ref D) = some false := fun i D h => T.kN D (by exact List.mem_of_getElem? h)
    refine ⟨_, rfl, .inr ⟨.non, .ref T.c_BadPosition, .type "NoneType", .ref T.c_BadPosition, false, rfl, .own _, .base .non, nn 0 _ rfl, ?_⟩⟩
    refine ⟨_, rfl, .inr ⟨.non, .ref T.c_BadMove, .type "NoneType", .ref T.c_BadMove, false, rfl, .own _, .base .non, nn 1 _ rfl, ?_⟩⟩
    refine ⟨_, rfl, .inr ⟨.non, .ref T.c_BadWords, .type "NoneType", .ref T.c_BadWords, false, rfl, .own _, .base .non, nn 2 _ rfl, ?_⟩⟩
    refine ⟨_, rfl, .inr ⟨.non, .ref T.c_BadNumber, .type "NoneType", .ref T.c_BadNumber, false, rfl, .own _, .base .non, nn 3 _ rfl, szl rfl, fun l hl => ?_⟩⟩
    have s1 : Same H' (upd H' l (.lst [.bl false, .bl false, .bl false, .bl false])) := same_new hl
    have g1 : upd H' l (.lst [.bl false, .bl false, .bl false, .bl false]) l = some (.lst [.bl false, .bl false, .bl false, .bl false]) := upd_same
    dsimp only [gName]
    refine ⟨_, rfl, l, _, rfl, .inl (.of g1), rfl, rfl, _, rfl, ?_⟩
    refine iteF ?_
    exact ⟨_, rfl, rfl, _, rfl, iteT (hN _ s1)⟩
end
open LamX (Tabs TabB TabS CodeO ExtN)
section
variable {P : Program} {w : World} {K : PySem.W.Frag} {mg : Str → Option Value} {base : Heap}
/-- _law_heard(lambda: body) -/
theorem pe_heard (T : Tx K mg w) {X : Cx} (eK : X.K = K) (em : X.mg = mg) {tabs : List (Addr × Str)} {c P' : Addr} {k : Nat} {params : Arguments} {body : Expr} {scope : Scope} {t : XK → TE} {p lpos pos : Pos} (hg : Gl X "_law_heard")
    (TB : LamX.TabB X.base X.mg c P') (hcode : X.env.code = .ref c) (hmT : (P', X.env.qual ++ "<lambda>") ∈ tabs) (hu : ∀ p ∈ tabs, p.1 = P' → p.2 = X.env.qual ++ "<lambda>") (hr : Room (k + 2) X.A) (L : LamX.LamS X.env.scope scope) (hdef : defaultsOf params X.env = ([], []))
    (hbind : ∀ (q : Str) (cl : List (Str × Addr)) (pm cv ctv : Value), bindArgs (PySem.W.kla_fn "<lambda>" q params body scope cl pm cv ctv) ⟨[], []⟩ = pure [])
    (hbody : ∀ (A : Around) (outer : List Env) (s : Shared) (H : Hp) (E : XK) (f c' : Addr), Room k (A.deeper (LamX.lamEnv X scope s.heap.objs.size f c')) → PE (LamX.lamCx X A outer s H E scope f c') body (t E)) :
    PE X (.Call (.Name "_law_heard" p) [.Lambda params body scope lpos] [] pos) (LamX.tLam tabs (TTH T) t) := by
  subst eK em
  obtain ⟨oc, od, kV, doc, pm, an, cdv, ct, osl, e, lk, hcd⟩ := T.F__law_heard.ex
  have hb := T.b__law_heard
  rw [e] at hb lk
  exact LamX.pe_lamcall (Ng := n__law_heard) (a := "ask") hg T.m__law_heard T.F__law_heard.kp lk hcd hb sc__law_heard rfl (.inl rfl) (heard_gives T rfl rfl) TB hcode hmT hu hr L hdef hbind hbody
/-- _law_heard(lambda one=0: body) -/
theorem pe_heardD (T : Tx K mg w) {X : Cx} (eK : X.K = K) (em : X.mg = mg) {tabs : List (Addr × Str)} {c P' : Addr} {k : Nat} {params : Arguments} {body : Expr} {scope : Scope} {ps : List Str} {ns : List Int} {t : XK → TE} {p lpos pos : Pos} (hg : Gl X "_law_heard")
    (TB : LamX.TabB X.base X.mg c P') (hcode : X.env.code = .ref c) (hmT : (P', X.env.qual ++ "<lambda>") ∈ tabs) (hu : ∀ p ∈ tabs, p.1 = P' → p.2 = X.env.qual ++ "<lambda>") (hr : Room (k + 2) X.A) (L : LamP X.N ps X.env.scope scope)
    (hne : params.defaults.isEmpty = false) (hns : ns ≠ []) (hnz : ns.length ≤ 100) (hdef : DefV params X.env (model X.prog X.w) X.A ns) (hbind : BindD params body scope ps ns.length)
    (hbody : ∀ (A : Around) (outer : List Env) (s : Shared) (H : Hp) (E : XK) (f c' : Addr), Room k (A.deeper (LamX.lamEnv X scope s.heap.objs.size f c')) → PE (LamX.lamCx X A outer s H E scope f c') body (t E)) :
    PE X (.Call (.Name "_law_heard" p) [.Lambda params body scope lpos] [] pos) (LamX.tLam tabs (TTH T) t) := by
  subst eK em
  obtain ⟨oc, od, kV, doc, pm, an, cdv, ct, osl, e, lk, hcd⟩ := T.F__law_heard.ex
  have hb := T.b__law_heard
  rw [e] at hb lk
  exact pe_lamcallD (Ng := n__law_heard) (a := "ask") hg T.m__law_heard T.F__law_heard.kp lk hcd hb sc__law_heard rfl (.inl rfl) (heard_gives T rfl rfl) TB hcode hmT hu hr L hne hns hnz hdef hbind hbody
end
end K57

set_option Elab.async false
set_option linter.all false
set_option maxRecDepth 100000
set_option maxHeartbeats 4000000
namespace K57
open PySem PySem.Spec PyProof.Rows L2 Gs
open LamX (Tabs TabB TabS CodeO ExtN)
def prD (p : Int × Int) : PyData := .tuple [.int p.1, .int p.2]
def ridL (R : List Str) : List Str := steps4.filter fun z => decide (z ∈ R)
/-- lists or tuples of leaps that bear pr -/
structure Leaps (dl : PyData) (pr : List (Int × Int)) : Prop where
  ok : areLeaps dl = true
  pr : (seqOf dl).map pairOf = pr
  few : few dl
structure Rides (dr : PyData) (R : List Str) : Prop where
  ok : areRides dr = true
  rs : (seqOf dr).map rkey = R
  few : few dr
theorem leaps_of {ds : List PyData} {pr : List (Int × Int)} (hk : ds.map lkey = pr.map fun p => [p.1, p.2]) (nd : pr.Nodup) (ok : ∀ p ∈ pr, lpair (.int p.1) (.int p.2) = true) (hd : ∀ d ∈ ds, ∃ a u : Int, d = .list [.int a, .int u] ∨ d = .tuple [.int a, .int u]) (hf : pr.length ≤ 62) : Leaps (.list ds) pr ∧ Leaps (.tuple ds) pr := by
  have hlen : ds.length = pr.length := by have := congrArg List.length hk; simpa using this
  have h1 : ds.all isLeap = true := by
    refine List.all_eq_true.mpr fun d hdm => ?_
    obtain ⟨a, u, e⟩ := hd d hdm
    have hm : lkey d ∈ pr.map fun p => [p.1, p.2] := by rw [← hk]; exact List.mem_map_of_mem hdm
    obtain ⟨p, hp, ep⟩ := List.mem_map.mp hm
    have hok := ok p hp
    rcases e with rfl | rfl
    · have ep : [p.1, p.2] = [a, u] := ep
      injection ep with e1 e2
      injection e2 with e2
      rw [e1, e2] at hok
      exact hok
    · have ep : [p.1, p.2] = [a, u] := ep
      injection ep with e1 e2
      injection e2 with e2
      rw [e1, e2] at hok
      exact hok
  have h2 : (ds.map lkey).Nodup := by
    rw [hk]
    refine List.Pairwise.map _ (fun a b hab z => hab ?_) nd
    have e1 := (List.cons.inj z).1
    have e2 := (List.cons.inj (List.cons.inj z).2).1
    exact Prod.ext e1 e2
  have h3 : leapsOk ds = true := by
    unfold leapsOk
    rw [h1, decide_eq_true h2]; rfl
  have h4 : ds.map pairOf = pr := by
    have e : pairOf = (fun l : List Int => match l with | [a, b] => (a, b) | _ => (0, 0)) ∘ lkey := by funext d; rfl
    rw [e, ← List.map_map, hk, List.map_map]
    exact (List.map_congr_left fun p _ => rfl).trans (List.map_id _)
  have hf2 : ds.length ≤ 62 := by omega
  exact ⟨⟨h3, h4, hf2⟩, ⟨h3, h4, hf2⟩⟩
theorem leaps_pairs {pr : List (Int × Int)} (nd : pr.Nodup) (ok : ∀ p ∈ pr, lpair (.int p.1) (.int p.2) = true) (hf : pr.length ≤ 62) : Leaps (.list (pr.map prD)) pr ∧ Leaps (.tuple (pr.map prD)) pr :=
  leaps_of (by rw [List.map_map]; rfl) nd ok (fun d hd => by
    obtain ⟨p, _, rfl⟩ := List.mem_map.mp hd
    exact ⟨p.1, p.2, .inr rfl⟩) hf
theorem rides_of {R : List Str} (nd : R.Nodup) (st : ∀ r ∈ R, r ∈ steps4) : Rides (.list (R.map PyData.str)) R ∧ Rides (.tuple (R.map PyData.str)) R := by
  have e : (R.map PyData.str).map rkey = R := by
    rw [List.map_map]
    exact (List.map_congr_left fun r _ => rfl).trans (List.map_id _)
  have h : ridesOk (R.map PyData.str) = true := by
    unfold ridesOk
    rw [e, decide_eq_true nd, Bool.and_true, List.all_map]
    exact List.all_eq_true.mpr fun r hr => decide_eq_true (st r hr)
  have hl : (R.map PyData.str).length ≤ 62 := by
    rw [List.length_map]
    have := nodup_le R steps4 nd st
    have h4 : steps4.length = 4 := rfl
    omega
  exact ⟨⟨h, e, hl⟩, ⟨h, e, hl⟩⟩
section
variable {K : PySem.W.Frag}
theorem sp_ok {C DB DM c x dx : Addr} {H0 : Hp} {Q : VK} {E : XK} {z : Str} {vl vr : V} {dl dr : PyData} {pr : List (Int × Int)} {R : List Str} {q : Bool} (hx : H0 x = none) (hdx : H0 dx = none) (hxc : x ≠ c) (hdc : dx ≠ c) (nm : isNameS z = true)
    (hl : DV K c H0 vl dl) (hr : DV K c H0 vr dr) (L : Leaps dl pr) (Rd : Rides dr R) (hq : q = true → R = []) (hne : pr ≠ [] ∨ R ≠ [])
    (k : ∀ ps H', Same H0 H' → KindAt K C H' x z ps (ridL R) q → ps.Perm pr → ps.Pairwise (fun x y => SrtO.lexB y x = false) → Q .non H') :
    spKind K C DB DM [.ref x, .str z, vl, vr, .bl q] (upd (upd H0 dx (.own x)) x (.ins C dx [])) Q E := by
  have old : Same H0 (upd (upd H0 dx (.own x)) x (.ins C dx [])) := fun y o h => by
    rw [upd_ne (ne_of_none h hx), upd_ne (ne_of_none h hdx)]; exact h
  have kb : kindBad (.str z) dl dr (.bool q) = none := by
    have e1 : isNm (.str z) = true := nm
    unfold kindBad
    rw [if_neg (by rw [e1]; decide), if_neg (by rw [L.ok]; decide), if_neg (by rw [Rd.ok]; decide), if_neg (fun z : isBl (.bool q) = false => by cases z), if_neg, if_neg]
    · intro h
      obtain ⟨h1, h2⟩ := Bool.and_eq_true_iff.mp h
      have g1 : seqOf dl = [] := List.isEmpty_iff.mp h1
      have g2 : seqOf dr = [] := List.isEmpty_iff.mp h2
      rcases hne with h | h
      · exact h (by rw [← L.pr, g1]; rfl)
      · exact h (by rw [← Rd.rs, g2]; rfl)
    · intro h
      obtain ⟨h1, h2⟩ := Bool.and_eq_true_iff.mp h
      have h1 : q = true := h1
      have e := Rd.rs
      rw [hq h1] at e
      have : seqOf dr = [] := List.map_eq_nil_iff.mp e
      rw [this] at h2
      cases h2
  refine ⟨x, dx, c, .str z, vl, vr, .bl q, .str z, dl, dr, .bool q, rfl, upd_same, .str z, hl.up (Ext.of old), hr.up (Ext.of old), .bl q, fun y e => ?_, L.few, Rd.few, fun m p e => (by rw [kb] at e; cases e),
    fun _ tl tr ls2 H5 e5 h5 htl hls2 perm pw htr => ?_⟩
  · cases e
    have h := nm
    unfold isNameS at h
    rw [Bool.and_eq_true, Bool.and_eq_true, Bool.and_eq_true] at h
    have := of_decide_eq_true h.1.1.2
    omega
  have e : ridesOf dr = ridL R := by unfold ridesOf ridL; rw [Rd.rs]
  rw [e] at htr
  rw [L.pr] at perm
  refine k (ls2.map (·.2)) H5 (fun y o h => e5 y o (ne_of_none h hx) (old y o h)) ⟨dx, tl, tr, ls2, h5, htl, hls2, rfl, htr⟩ perm (List.pairwise_map.mpr pw)
end
/-! ### the ways in which Kind, Game, Position and gone_along are called -/
section
variable {K : PySem.W.Frag} {mg : Str → Option Value} {w : World}
theorem b2_Kind (T : Tx K mg w) : ∃ ds : List Value, Vals (([.ref T.t_E, .bl false] : List V).drop 0) ds ∧ Binds K T.d_Kind___init__ ["self", "name", "leaps", "rides", "is_lord"] ds :=
  FunD.binds1 T.F_Kind___init__ 3 0 (by simp) rfl fun T kV doc pm an cdv ct us its l1 l2 => by
    match us, its, l1, l2 with
    | [x, n, l], [d1, d2], _, _ => exact ⟨_, rfl, rfl⟩
theorem b2_Position (T : Tx K mg w) : ∃ ds : List Value, Vals (([.ref T.t_PE, .int 0] : List V).drop 0) ds ∧ Binds K T.d_Position___init__ ["self", "game", "pieces", "stones", "turn"] ds :=
  FunD.binds1 T.F_Position___init__ 3 0 (by simp) rfl fun T kV doc pm an cdv ct us its l1 l2 => by
    match us, its, l1, l2 with
    | [x, n, l], [d1, d2], _, _ => exact ⟨_, rfl, rfl⟩
theorem b2_gone (T : Tx K mg w) : ∃ ds : List Value, Vals (([.int 0, .int 0] : List V).drop 0) ds ∧ Binds K T.d_gone_along ["move", "how", "across", "up"] ds :=
  FunD.binds1 T.F_gone_along 2 0 (by simp) rfl fun T kV doc pm an cdv ct us its l1 l2 => by
    match us, its, l1, l2 with
    | [x, n], [d1, d2], _, _ => exact ⟨_, rfl, rfl⟩
theorem b4_gone (T : Tx K mg w) : Binds K T.d_gone_along ["move", "how", "across", "up"] [] := by
  obtain ⟨ds, v, b⟩ : ∃ ds : List Value, Vals (([.int 0, .int 0] : List V).drop 2) ds ∧ Binds K T.d_gone_along ["move", "how", "across", "up"] ds :=
    FunD.binds1 T.F_gone_along 4 2 (by simp) rfl fun T kV doc pm an cdv ct us its l1 l2 => by
      match us, its, l1, l2 with
      | [x, n, l, r], [d1, d2], _, _ => exact ⟨_, rfl, rfl⟩
  cases v
  exact b
def gGm {α : Type} (us its ws : List α) : List α := us ++ (its.take 1 ++ ws)
theorem kb_Game (T : Tx K mg w) : ∃ its : List Value, KBn K T.d_Game___init__ ["self", "kinds", "edges", "goal"] 2 ["goal"] (fun us ws => gGm us its ws) (fun vs zs => gGm vs [.ref T.t_N4, .ref T.t_H1] zs) :=
  kbn_dfl T.F_Game___init__ 2 ["goal"] (fun {_} us its ws => gGm us its ws) (by simp) (fun rv rd rz => rv.append ((rd.take 1).append rz)) fun T kV doc pm an cdv ct us its ws l1 l2 l3 => by
    match us, its, ws, l1, l2, l3 with
    | [x, n], [d1, d2], [g], _, _, _ => exact ⟨_, rfl, rfl⟩
def gGo {α : Type} (_us its ws : List α) : List α := ws.reverse ++ its
theorem kb_gone (T : Tx K mg w) : ∃ its : List Value, KBn K T.d_gone_along ["move", "how", "across", "up"] 0 ["how", "move"] (fun us ws => gGo us its ws) (fun vs zs => gGo vs [.int 0, .int 0] zs) :=
  kbn_dfl T.F_gone_along 0 ["how", "move"] (fun {_} us its ws => gGo us its ws) (by simp) (fun rv rd rz => rz.reverse.append rd) fun T kV doc pm an cdv ct us its ws l1 l2 l3 => by
    match us, its, ws, l1, l2, l3 with
    | [], [d1, d2], [h, m], _, _, _ => exact ⟨_, rfl, rfl⟩
end
theorem pss_any {X : Cx} {ss : List Stmt} : PSs X ss (fun D σ H => ∃ t, PSs X ss t ∧ t D σ H) := ⟨fun pins s σ H D I ⟨t, h, q⟩ => h.run pins s σ H D I q⟩
def forB : Stmt → List Stmt
  | .For _ _ b _ _ => b
  | _ => []
def turnB (ss : List Stmt) : List Stmt := match ss with
  | _ :: _ :: f :: _ => forB f
  | _ => []
section
variable {P : Program} {w : World} {K : PySem.W.Frag} {mg : Str → Option Value} {base : Heap}
abbrev lamQ : Str := ("law.<locals>." : Str) ++ "<lambda>"
abbrev XL (P : Program) (w : World) (K : PySem.W.Frag) (mg : Str → Option Value) (base : Heap) (f : Addr) (cdv : Value) (A : Around) (outer : List Env) (s : Shared) (H : Hp) (E : XK) : Cx :=
  (cxOf CX0 P w K mg base n_law "law" (defScope s_law) f cdv A outer s H E).nox
theorem tabs_bag {TT : List (Addr × Str)} {c l : Addr} {n : Nat} {G G' : Hp} (hb : Bag c l n G) (x : Gs.Ext c G G') (h : Tabs TT G) : Tabs TT G' := fun p hp => by
  obtain ⟨ns, pt, rs, hc1, _⟩ := hb
  obtain ⟨ps, a1, a2, a3⟩ := h p hp
  refine ⟨ps, x _ _ (fun z => by rw [z, hc1] at a1; cases a1) a1, a2, fun p' cv hc => ?_⟩
  obtain ⟨c0, e1, e2⟩ := a3 p' cv hc
  exact ⟨c0, e1, x _ _ (fun z => by rw [z, hc1] at e2; cases e2) e2⟩
theorem sqT_bag {c : Addr} {G G' : Hp} {ys xs : List V} {a : Addr} (hc : G c = some (.lst ys)) (x : Gs.Ext c G G') (h : SqT K G a xs) : SqT K G' a xs := by
  rcases h with (h | ⟨q, h⟩) | h
  · exact .inl (.inl (x _ _ (fun z => by rw [z, hc] at h; cases h) h))
  · exact .inl (.inr ⟨q, x _ _ (fun z => by rw [z, hc] at h; cases h) h⟩)
  · exact .inr h
theorem kas_bag {CK c : Addr} {G G' : Hp} {ys : List V} {ks : List KdT} (hc : G c = some (.lst ys)) (x : Gs.Ext c G G') (h : KAs K CK G ks) : KAs K CK G' ks := fun k hk => by
  obtain ⟨d2, tl, tr, ls, h1, h2, h3, h4, h5⟩ := h k hk
  exact ⟨d2, tl, tr, ls, x _ _ (fun z => by rw [z, hc] at h1; cases h1) h1, sqT_bag hc x h2, fun p hp => sqT_bag hc x (h3 p hp), h4, sqT_bag hc x h5⟩
theorem bag_nc {c l x C dx : Addr} {n : Nat} {fs : List (Str × V)} {G G' : Hp} (hb : Bag c l n G) (hx : G x = some (.ins C dx fs)) (e : ExtNc x G G') : Bag c l n G' := by
  obtain ⟨ns, pt, rs, hc, hl, r⟩ := hb
  exact ⟨ns, pt, rs, e _ _ (fun z => by rw [z, hx] at hc; cases hc) hc (fun _ z => nomatch z), e _ _ (fun z => by rw [z, hx] at hl; cases hl) hl (fun _ z => nomatch z), r⟩
end
section
variable {K : PySem.W.Frag} {c : Addr} {H H' : Hp}
theorem ExtNc.sqL' {a : Addr} {xs : List V} (e : ExtNc c H H') (n : a ≠ c) (h : SqL K H a xs) : SqL K H' a xs := by
  rcases h with (h | ⟨o, h⟩) | h
  · exact .inl (.inl (e _ _ n h fun _ z => nomatch z))
  · exact .inl (.inr ⟨o, e _ _ n h fun _ z => nomatch z⟩)
  · exact .inr h
theorem ExtNc.sqT' {a : Addr} {xs : List V} (e : ExtNc c H H') (n : a ≠ c) (h : SqT K H a xs) : SqT K H' a xs := by
  rcases h with (h | ⟨o, h⟩) | h
  · exact .inl (.inl (e _ _ n h fun _ z => nomatch z))
  · exact .inl (.inr ⟨o, e _ _ n h fun _ z => nomatch z⟩)
  · exact .inr h
mutual
theorem dv_n (e : ExtNc c H H') : ∀ (d : PyData) (v : V), DV K c H v d → DV K c H' v d
  | .none, _, h => by cases h; exact .non
  | .bool _, _, h => by cases h; exact .bl _
  | .int _, _, h => by cases h; exact .int _
  | .str _, _, h => by cases h; exact .str _
  | .list ds, _, h => by
    cases h with
    | lst n s r => exact .lst n (e.sqL' n s) (dvs_n e ds _ r)
  | .tuple ds, _, h => by
    cases h with
    | tup n s r => exact .tup n (e.sqT' n s) (dvs_n e ds _ r)
  | .dict ps, _, h => by
    cases h with
    | dic n s r => exact .dic n (e _ _ n s fun _ z => nomatch z) (dks_n e ps _ r)
    | dct n s z => exact .dct n (e _ _ n s fun _ z => nomatch z) z
theorem dvs_n (e : ExtNc c H H') : ∀ (ds : List PyData) (vs : List V), DVs K c H vs ds → DVs K c H' vs ds
  | [], _, h => by cases h; exact .nil
  | d :: ds, _, h => by
    cases h with
    | cons a b => exact .cons (dv_n e d _ a) (dvs_n e ds _ b)
theorem dks_n (e : ExtNc c H H') : ∀ (ps : List (PyData × PyData)) (vs : List (Key × V)), DKs K c H vs ps → DKs K c H' vs ps
  | [], _, h => by cases h; exact .nil
  | (d, f) :: ps, _, h => by
    cases h with
    | cons a b r => exact .cons (dv_n e d _ a) (dv_n e f _ b) (dks_n e ps _ r)
end
end
section
variable {P : Program} {w : World} {K : PySem.W.Frag} {mg : Str → Option Value} {base : Heap}
end
end K57

set_option Elab.async false
set_option linter.all false
set_option maxRecDepth 100000
set_option maxHeartbeats 4000000
namespace K57
open PySem PySem.Spec PyProof.Rows L2 Gs
open LamX (Tabs TabB TabS CodeO ExtN)
section
variable {P : Program} {w : World} {K : PySem.W.Frag} {mg : Str → Option Value} {base : Heap}
theorem fresh5 (p q r t u : Nat) : ∃ c : Nat, p ≠ c ∧ q ≠ c ∧ r ≠ c ∧ t ≠ c ∧ u ≠ c := ⟨p + q + r + t + u + 1, by omega, by omega, by omega, by omega, by omega⟩
theorem ExtNc.ofX {c : Addr} {H H' : Hp} (e : Gs.Ext c H H') : ExtNc c H H' := fun b o n h _ => e b o n h
section
variable {c : Addr} {ys : List V} {H H' : Hp}
theorem nc_ne {o : HO} {q : Addr} (hc : H c = some (.lst ys)) (h : H q = some o) (n : ∀ zs, o ≠ .lst zs) : q ≠ c := fun e => by rw [e, hc] at h; cases h; exact n _ rfl
theorem nc_tup {q : Addr} {zs : List V} (hc : H c = some (.lst ys)) (e : ExtNc c H H') (h : H q = some (.tup zs)) : H' q = some (.tup zs) := e _ _ (nc_ne hc h (fun _ z => nomatch z)) h fun _ z => nomatch z
theorem nc_ins {q C dx : Addr} {fs : List (Str × V)} (hc : H c = some (.lst ys)) (e : ExtNc c H H') (h : H q = some (.ins C dx fs)) : H' q = some (.ins C dx fs) := e _ _ (nc_ne hc h (fun _ z => nomatch z)) h fun _ z => nomatch z
theorem nc_sqT {a : Addr} {xs : List V} (hc : H c = some (.lst ys)) (e : ExtNc c H H') (h : SqT K H a xs) : SqT K H' a xs := by
  rcases h with (h | ⟨q, h⟩) | h
  · exact .inl (.inl (e _ _ (fun z => by rw [z, hc] at h; cases h) h fun _ z => nomatch z))
  · exact .inl (.inr ⟨q, e _ _ (fun z => by rw [z, hc] at h; cases h) h fun _ z => nomatch z⟩)
  · exact .inr h
theorem nc_game {CK CG g : Addr} {ks : List KdT} {a b c' d : Option Int} {ws : List Str} {n : Int} (hc : H c = some (.lst ys)) (e : ExtNc c H H') (h : GameAt K CK CG H g ks a b c' d ws n) : GameAt K CK CG H' g ks a b c' d ws n := by
  obtain ⟨d2, tk, te, tg, tt, h1, h2, h3, h4, h5, h6⟩ := h
  refine ⟨d2, tk, te, tg, tt, nc_ins hc e h1, nc_sqT hc e h2, nc_sqT hc e h3, nc_sqT hc e h4, e _ _ (nc_ne hc h5 (fun _ z => nomatch z)) h5 (fun _ z => nomatch z), fun k hk => ?_⟩
  obtain ⟨d3, tl, tr, ls, f1, f2, f3, f4, f5⟩ := h6 k hk
  exact ⟨d3, tl, tr, ls, nc_ins hc e f1, nc_sqT hc e f2, fun p hp => nc_sqT hc e (f3 p hp), f4, nc_sqT hc e f5⟩
theorem nc_pos {CK CG CP p g : Addr} {z : PosD} (hc : H c = some (.lst ys)) (e : ExtNc c H H') (h : PosAt K CK CG CP H p g z) : PosAt K CK CG CP H' p g z := by
  obtain ⟨dx, tp, ts, td, tl, ps, ss, h1, h2, h3, h4, h5, h6, h7, h8⟩ := h
  obtain ⟨qs, a1, a2, a3⟩ := h6
  obtain ⟨v0, v1, b1, b2, b3⟩ := h7
  have up : ∀ {v : V} {o : Option (Int × Int)}, LordAt H v o → LordAt H' v o := fun {v o} h => by
    cases o with
    | none => exact h
    | some r => obtain ⟨a, e1, h⟩ := h; exact ⟨a, e1, nc_tup hc e h⟩
  exact ⟨dx, tp, ts, td, tl, ps, ss, nc_ins hc e h1, ⟨nc_sqT hc e h2.1, fun p hp => nc_tup hc e (h2.2 p hp)⟩, h3, ⟨nc_sqT hc e h4.1, fun p hp => nc_tup hc e (h4.2 p hp)⟩, h5,
    ⟨qs, e _ _ (nc_ne hc a1 (fun _ z => nomatch z)) a1 (fun _ z => nomatch z), a2, fun q hq => nc_tup hc e (a3 q hq)⟩, ⟨v0, v1, nc_tup hc e b1, up b2, up b3⟩, nc_game hc e h8⟩
end
theorem bag_at {c l : Addr} {n : Nat} {H : Hp} (b : Bag c l n H) : ∃ ys, H c = some (.lst ys) := by
  obtain ⟨ns, pt, rs, hc, _⟩ := b
  exact ⟨_, hc⟩
/-- what stands behind the position's making -/
structure Tn (T : Tx K mg w) (TT : List (Addr × Str)) (c l : Addr) (n : Nat) (p g : Addr) (z : PosD) (H : Hp) : Prop where
  bag : Bag c l n H
  tb : Tabs TT H
  pos : PosAt K T.c_Kind T.c_Game T.c_Position H p g z
  ps : PosS z
theorem Tn.same {T : Tx K mg w} {TT : List (Addr × Str)} {c l : Addr} {n : Nat} {p g : Addr} {z : PosD} {H H' : Hp} (t : Tn T TT c l n p g z H) (s : Same H H') : Tn T TT c l n p g z H' := ⟨t.bag.same s, tabs_same s t.tb, t.pos.same s, t.ps⟩
theorem Tn.ext {T : Tx K mg w} {TT : List (Addr × Str)} {c l : Addr} {n m : Nat} {p g : Addr} {z : PosD} {H H' : Hp} (t : Tn T TT c l n p g z H) (x : Gs.Ext c H H') (b : Bag c l m H') : Tn T TT c l m p g z H' := by
  obtain ⟨ys, hc⟩ := bag_at t.bag
  exact ⟨b, tabs_bag t.bag x t.tb, nc_pos hc (.ofX x) t.pos, t.ps⟩
theorem Tn.nN {T : Tx K mg w} {TT : List (Addr × Str)} {c l : Addr} {n : Nat} {p g : Addr} {z : PosD} {H H' : Hp} (t : Tn T TT c l n p g z H) (x : ExtN H H') (tb : Tabs TT H') : Tn T TT c l n p g z H' := by
  obtain ⟨ys, hc⟩ := bag_at t.bag
  obtain ⟨ns, pt, rs, hc1, hl1, r⟩ := id t.bag
  exact ⟨⟨ns, pt, rs, x _ _ hc1 (fun _ z => nomatch z), x _ _ hl1 (fun _ z => nomatch z), r⟩, tb, nc_pos hc (.tab x) t.pos, t.ps⟩
theorem tabs_ins {TT : List (Addr × Str)} {x C dx : Addr} {fs : List (Str × V)} {G G' : Hp} (hx : G x = some (.ins C dx fs)) (e : Gs.Ext x G G') (h : Tabs TT G) : Tabs TT G' := fun p hp => by
  obtain ⟨ps, a1, a2, a3⟩ := h p hp
  refine ⟨ps, e _ _ (fun z => by rw [z, hx] at a1; cases a1) a1, a2, fun p' cv hc => ?_⟩
  obtain ⟨c0, e1, e2⟩ := a3 p' cv hc
  exact ⟨c0, e1, e _ _ (fun z => by rw [z, hx] at e2; cases e2) e2⟩
theorem made_same {H : Hp} {x dx C : Addr} (hx : H x = none) (hdx : H dx = none) : Same H (upd (upd H dx (.own x)) x (.ins C dx [])) := fun y o h => by
  rw [upd_ne (ne_of_none h hx), upd_ne (ne_of_none h hdx)]; exact h
theorem rid0 : ridL [] = [] := by decide +kernel
/-- the kind, the piece of the law -/
def kX (x : Addr) : KdT := ⟨x, "x", [(1, 0)], ridL [], false⟩
def pX1 (v : Int) : PcT := ⟨0, "x", v, 0⟩
def zX (x : Addr) (far v : Int) : PosD := { ks := [kX x], a := none, b := none, c := none, d := none, ws := ["take", "x"], n := far, pcs := [pX1 v], sts := [], t := 0 }
theorem kX_lord (x : Addr) : lordZ [kX x] "x" = false := by simp [lordZ, kX]
theorem fitX (x : Addr) (v : Int) : FitP [kX x] none none none none ["take", "x"] [pX1 v] := by
  have lh : lordsH [kX x] [pX1 v] = [] := by
    unfold lordsH
    rw [List.filter_cons, show lordZ [kX x] (pX1 v).z = false from kX_lord x]; rfl
  refine ⟨by simp, fun p hp => by rw [List.mem_singleton.mp hp]; rfl, by rw [lh]; decide, by rw [lh]; decide, fun e => ?_, fun p hp => by rw [List.mem_singleton.mp hp]; exact List.mem_cons_self, Nat.le_of_ble_eq_true rfl, fun k hk => by rw [List.mem_singleton.mp hk]; show PyData.strOk ("x" : Str) = true; decide +kernel⟩
  have e : [("take" : Str), ("x" : Str)].length = [("hold" : Str)].length := congrArg List.length e
  cases e
theorem posSX (x : Addr) {far v : Int} (h0 : 0 ≤ v) (h1 : v < 9) : PosS (zX x far v) := by
  have small : v.natAbs < 2 ^ 1000 := Nat.lt_of_lt_of_le (show v.natAbs < 9 by omega) (by decide +kernel)
  refine ⟨⟨fun k hk => ?_, by show 1 ≤ 8; decide, fun e he => ?_, by show 2 ≤ 3; decide, fun w hw => ?_⟩, .inl rfl, by show 1 ≤ 16; decide, by show 0 ≤ 16; decide, fun p hp => ?_, fun q hq => nomatch hq⟩
  · have hk : k = kX x := List.mem_singleton.mp hk
    subst hk
    refine ⟨by show ("x" : Str).length ≤ 8; decide, by show 1 ≤ 62; decide, fun p hp => ?_, by show (ridL []).length ≤ 4; rw [rid0]; decide, fun z hz => ?_⟩
    · have hp : p = (1, 0) := List.mem_singleton.mp hp
      subst hp; decide
    · have hz : z ∈ ridL [] := hz
      rw [rid0] at hz; cases hz
  · have he : some e ∈ [none, none, none, none] := he
    simp at he
  · have hw : w ∈ [("take" : Str), ("x" : Str)] := hw
    have all : ∀ w ∈ [("take" : Str), ("x" : Str)], w.length ≤ 8 := by decide
    exact all w hw
  · have hp : p = pX1 v := List.mem_singleton.mp hp
    subst hp
    exact ⟨.inl rfl, by show ("x" : Str).length ≤ 8; decide, small, by show (0 : Int).natAbs < 2 ^ 1000; decide +kernel⟩
/-- the position -/
theorem lwA (T : Tx K mg w) {cdv : Value} {A : Around} {outer : List Env} {s : Shared} {H0 : Hp} {E : XK} {D : Ends} {rest : TS} {TT : List (Addr × Str)} {ccG PG : Addr} {c l : Addr} {n : Nat} {x0 x2 x3 x4 x5 x6 x7 x8 x9 x10 x11 x12 x13 x14 x15 : Option V} {H : Hp}
    (hr : Room 13 (A.deeper (envOfC "law" (defScope s_law) s.heap.objs.size T.a_law cdv))) (hg : (A.deeper (envOfC "law" (defScope s_law) s.heap.objs.size T.a_law cdv)).guards = some [])
    (TG : TabB base mg ccG PG) (hcG : T.d_Game___init__.code = .ref ccG) (hmG : (PG, gQ) ∈ TT) (huG : ∀ p ∈ TT, p.1 = PG → p.2 = gQ)
    (HT : PSs (XL P w K mg base T.a_law cdv A outer s H0 E) ((defBody s_law).drop 2) rest) (ht : Tabs TT H) (hb : Bag c l n H) (hN : n ≤ 900000)
    (go : ∀ p g z H', Tn T TT c l (n + 1) p g z H' → rest D [x0, some (.ref c), some (.ref p), x3, x4, x5, x6, x7, x8, x9, x10, x11, x12, x13, x14, x15] H') :
    ∃ t, PSs (XL P w K mg base T.a_law cdv A outer s H0 E) ((defBody s_law).drop 1) t ∧ t D [x0, some (.ref c), x2, x3, x4, x5, x6, x7, x8, x9, x10, x11, x12, x13, x14, x15] H := by
  obtain ⟨d2, rb2, hb2⟩ := b2_Kind T
  obtain ⟨dp, rbp, hbp⟩ := b2_Position T
  obtain ⟨gi, kbG⟩ := kb_Game T
  refine ⟨_, (pss_cons (ps_set (i := 2) sc_law.nd rfl (Or.inr rfl) (pe_make T.mk_Position (O_Position___init__ T) (hr.mono (by decide)) (by rfl) T.m_Position hbp rbp passL (pa_cons (pe_makeN T.mk_Game (O_Game___init__ T TG hcG hmG huG) (hr.mono (by decide)) (by rfl) T.m_Game kbG passL (pa_cons (pe_lst (pa_cons (pe_make T.mk_Kind (O_Kind___init__ T) (hr.mono (by decide)) (by rfl) T.m_Kind hb2 rb2 passL (pa_cons pe_str (pa_cons (pe_lst (pa_cons (pe_tup (pa_cons pe_int (pa_cons pe_int pa_nil))) pa_nil)) pa_nil))) pa_nil)) pa_nil) (pk_cons (pe_tup (pa_cons pe_str (pa_cons pe_str pa_nil))) pk_nil)) (pa_cons (pe_lst (pa_cons (pe_tup (pa_cons pe_int (pa_cons pe_str (pa_cons (pe_call (O__law_swing T) (hr.mono (by decide)) (by rfl) T.m__law_swing T.F__law_swing.kp T.b__law_swing .nil pass0 (pa_cons (pv 1) (pa_cons pe_int pa_nil))) (pa_cons pe_int pa_nil))))) pa_nil)) pa_nil))))
      HT), ?_⟩
  -- Kind("x", [(1, 0)])
  refine ⟨szl rfl, fun t1 h1 => ⟨szl rfl, fun p1 h2 => ?_⟩⟩
  have st := same_new h1 (o := .tup [.int 1, .int 0])
  have g1 : SqT K (upd H t1 (.tup [.int 1, .int 0])) t1 [.int 1, .int 0] := .of upd_same
  have sp := same_new h2 (o := .lst [.ref t1])
  have gp : upd (upd H t1 (.tup [.int 1, .int 0])) p1 (.lst [.ref t1]) p1 = some (.lst [.ref t1]) := upd_same
  have gt2 := sp.seqT g1
  have s1 := st.trans sp
  intro x dx hx hdx ndx
  obtain ⟨c0, q1, q2, q3, q4, q5⟩ := fresh5 t1 p1 x dx T.t_E
  have L1 := (leaps_pairs (pr := [((1 : Int), (0 : Int))]) (List.nodup_cons.mpr ⟨by simp, List.nodup_nil⟩) (fun p h => by rw [List.mem_singleton.mp h]; decide) (Nat.le_of_ble_eq_true rfl)).1
  have R1 := (rides_of (R := []) List.nodup_nil (fun r h => by cases h)).2
  refine sp_ok (c := c0) (pr := [(1, 0)]) (R := []) hx hdx q3 q4 (by decide +kernel) (.lst q2 (.of gp) (.cons (.tup q1 gt2 (.cons (.int 1) (.cons (.int 0) .nil))) .nil)) (.tup q5 (T.s_E _) .nil) L1 R1 (fun z => by cases z) (.inl (by simp)) fun ps H2 s2 kat perm _ => ⟨rfl, ?_⟩
  have ps1 : ps = [(1, 0)] := List.perm_singleton.mp perm
  subst ps1
  have s12 := s1.trans s2
  have kr : KAs K T.c_Kind H2 [⟨x, "x", [(1, 0)], ridL [], false⟩] := fun k hk => by rw [List.mem_singleton.mp hk]; exact kat
  clear kat perm L1 R1 q1 q2 q3 q4 q5 gt2 gp g1 st sp h1 h2 s1 s2 hx hdx ndx
  -- Game
  refine ⟨szl rfl, fun kl hkl => ⟨szl rfl, fun tg htg => ⟨rfl, rfl, fun y dy hy hdy ndy => ?_⟩⟩⟩
  have sa := (same_new hkl (o := .lst [.ref x])).trans (same_new htg (o := .tup [.str "take", .str "x"]))
  have gl : upd (upd H2 kl (.lst [.ref x])) tg (.tup [.str "take", .str "x"]) kl = some (.lst (refsK [kX x])) := (same_new htg) _ _ upd_same
  have gg : upd (upd H2 kl (.lst [.ref x])) tg (.tup [.str "take", .str "x"]) tg = some (.tup ([("take" : Str), ("x" : Str)].map V.str)) := upd_same
  have kr3 : KAs K T.c_Kind (upd (upd H2 kl (.lst [.ref x])) tg (.tup [.str "take", .str "x"])) [kX x] := kr.same sa
  have s13 := s12.trans sa
  generalize upd (upd H2 kl (.lst [V.ref x])) tg (.tup [V.str "take", V.str "x"]) = H3 at s13 gl gg kr3 hy hdy ⊢
  have old := made_same (C := T.c_Game) hy hdy
  have hy' : upd (upd H3 dy (.own y)) y (.ins T.c_Game dy []) y = some (.ins T.c_Game dy []) := upd_same
  have gi : GoalIs [kX x] [none, none, none, none] [("take" : Str), ("x" : Str)] := .inr (.inl ⟨"x", rfl, List.mem_cons_self⟩)
  have ndk : ([kX x].map (·.z)).Nodup := List.nodup_cons.mpr ⟨by simp, List.nodup_nil⟩
  refine ⟨y, dy, kl, T.t_N4, tg, [kX x], none, none, none, none, ["take", "x"], rfl, hy', .of (old _ _ gl), kr3.same old, Nat.le_refl 1, by show 1 ≤ 8; decide, fun k hk => by rw [List.mem_singleton.mp hk]; show 1 ≤ 62; decide, ndk, .inr (T.s_N4 _), rfl, rfl, .inr (.of (old _ _ gg)), gi, tabs_same (s13.trans old) ht, fun far H6 e6 t6 gm _ => ⟨rfl, ?_⟩⟩
  have b6 : Bag c l n H6 := bag_nc (hb.same (s13.trans old)) hy' e6
  clear e6 old hy' gl gg kr3 kr s13 s12 sa hy hdy ndy hkl htg ht hb
  -- the piece
  refine ⟨_, rfl, c, l, n, 9, rfl, b6, by omega, by decide, by decide, fun v H7 v0 v1 b7 x7 => ⟨szl rfl, fun tp htp => ⟨szl rfl, fun pl hpl => ?_⟩⟩⟩
  obtain ⟨ys, hc6⟩ := bag_at b6
  have gm7 := nc_game hc6 (.ofX x7) gm
  have t7 := tabs_bag b6 x7 t6
  have sb := (same_new htp (o := .tup (pcV (pX1 v)))).trans (same_new hpl (o := .lst [.ref tp]))
  have gp : upd (upd H7 tp (.tup (pcV (pX1 v)))) pl (.lst [.ref tp]) pl = some (.lst [.ref tp]) := upd_same
  have gt : upd (upd H7 tp (.tup (pcV (pX1 v)))) pl (.lst [.ref tp]) tp = some (.tup (pcV (pX1 v))) := (same_new hpl) _ _ upd_same
  have gm8 := gm7.same sb
  have b8 := b7.same sb
  have t8 := tabs_same sb t7
  intro px pdx hpx hpdx npx
  change spPos _ _ _ _ _ (upd (upd (upd (upd H7 tp (.tup (pcV (pX1 v)))) pl (.lst [.ref tp])) pdx (.own px)) px (.ins T.c_Position pdx [])) _ _
  have hpx : upd (upd H7 tp (.tup (pcV (pX1 v)))) pl (.lst [.ref tp]) px = none := hpx
  have hpdx : upd (upd H7 tp (.tup (pcV (pX1 v)))) pl (.lst [.ref tp]) pdx = none := hpdx
  generalize upd (upd H7 tp (.tup (pcV (pX1 v)))) pl (.lst [V.ref tp]) = H8 at gp gt gm8 b8 t8 hpx hpdx ⊢
  have old := made_same (C := T.c_Position) hpx hpdx
  have hp' : upd (upd H8 pdx (.own px)) px (.ins T.c_Position pdx []) px = some (.ins T.c_Position pdx []) := upd_same
  have ny : y ≠ px := fun e => by
    obtain ⟨_, _, _, _, _, h1, _⟩ := gm8
    rw [e, hpx] at h1; cases h1
  have nx : ∀ k ∈ [kX x], k.a ≠ px := fun k hk e => by
    obtain ⟨_, _, _, _, _, _, _, _, _, _, h6⟩ := gm8
    obtain ⟨_, _, _, _, f1, _⟩ := h6 k hk
    rw [e, hpx] at f1; cases f1
  refine ⟨px, pdx, y, pl, T.t_PE, zX x far v, [(tp, pX1 v)], [], rfl, hp', ny, nx, gm8.same old, ndk, gi, .inl (.of (old _ _ gp)), fun p hp => ?_, Nat.le_refl 1, fun p hp => ?_, .inr (T.s_PE _), (fun p hp => nomatch hp), by decide, .inl rfl, fitX x v, ?_, (fun q hq => nomatch hq), ?_, ?_, fun H9 e9 pos => ⟨rfl, ?_⟩⟩
  · rw [List.mem_singleton.mp hp]; exact .inr (old _ _ gt)
  · rw [List.mem_singleton.mp hp]; exact .inl rfl
  · show ([(v, (0 : Int))] ++ []).Nodup
    simp
  · show [pX1 v] = sortP [pX1 v]
    unfold sortP; exact (List.mergeSort_singleton _).symm
  · show [] = sortS []
    unfold sortS; exact List.mergeSort_nil.symm
  · exact go px y (zX x far v) H9 ⟨bag_nc (b8.same old) hp' (.ofX e9), tabs_ins hp' e9 (tabs_same old t8), pos, posSX x v0 v1⟩
end
end K57

set_option Elab.async false
set_option linter.all false
set_option maxRecDepth 100000
set_option maxHeartbeats 8000000
namespace K57
open PySem PySem.Spec PyProof.Rows L2 Gs
open LamX (Tabs TabB TabS CodeO ExtN)
section
variable {P : Program} {w : World} {K : PySem.W.Frag} {mg : Str → Option Value} {base : Heap}
/-- no position -/
def NoP (K : PySem.W.Frag) (CG c : Addr) (H : Hp) (v : V) : Prop := v = .non ∨ v = .int 5 ∨ (∃ x, v = .str x) ∨ v = .bl true ∨ (∃ g dx fs, v = .ref g ∧ H g = some (.ins CG dx fs)) ∨ (∃ a xs, v = .ref a ∧ SqT K H a xs) ∨ ∃ a xs, v = .ref a ∧ H a = some (.lst xs) ∧ a ≠ c
theorem NoP.nc {CG c : Addr} {H H' : Hp} {v : V} {ys : List V} (h : NoP K CG c H v) (hc : H c = some (.lst ys)) (e : ExtNc c H H') : NoP K CG c H' v := by
  rcases h with h | h | h | h | ⟨g, dx, fs, h, h1⟩ | ⟨a, xs, h, h1⟩ | ⟨a, xs, h, h1, h2⟩
  · exact .inl h
  · exact .inr (.inl h)
  · exact .inr (.inr (.inl h))
  · exact .inr (.inr (.inr (.inl h)))
  · exact .inr (.inr (.inr (.inr (.inl ⟨g, dx, fs, h, nc_ins hc e h1⟩))))
  · exact .inr (.inr (.inr (.inr (.inr (.inl ⟨a, xs, h, nc_sqT hc e h1⟩)))))
  · exact .inr (.inr (.inr (.inr (.inr (.inr ⟨a, xs, h, e _ _ h2 h1 (fun _ z => nomatch z), h2⟩)))))
theorem NoP.ty {T : Tx K mg w} {c : Addr} {H : Hp} {v : V} (h : NoP K T.c_Game c H v) : ∃ t, TyX K H v t ∧ PySem.W.kitOne K t (.ref T.c_Position) = some false := by
  rcases h with rfl | rfl | ⟨x, rfl⟩ | rfl | ⟨g, dx, fs, rfl, h1⟩ | ⟨a, xs, rfl, h1⟩ | ⟨a, xs, rfl, h1, _⟩
  · exact ⟨_, .base .non, T.kn_Position "NoneType" (by simp)⟩
  · exact ⟨_, .base (.int _), T.kn_Position "int" (by simp)⟩
  · exact ⟨_, .base (.str _), T.kn_Position "str" (by simp)⟩
  · exact ⟨_, .base (.bl _), T.kn_Position "bool" (by simp)⟩
  · exact ⟨_, T.ty_Game.ty h1, T.kg_Position⟩
  · rcases h1 with (s | ⟨o, s⟩) | ⟨o, its, n, e, q, _⟩
    · exact ⟨_, .base (.tup s), T.kn_Position "tuple" (by simp)⟩
    · exact ⟨_, .fTuple s, T.kn_Position "tuple" (by simp)⟩
    · exact ⟨_, .kTuple e q, T.kn_Position "tuple" (by simp)⟩
  · exact ⟨_, .base (.lst h1), T.kn_Position "list" (by simp)⟩
/-- data of which f does not hold -/
def BadV (K : PySem.W.Frag) (c : Addr) (f : PyData → Bool) (H : Hp) (v : V) : Prop := ∃ d, DV K c H v d ∧ f d = false
theorem BadV.nc {c : Addr} {f : PyData → Bool} {H H' : Hp} {v : V} (h : BadV K c f H v) (e : ExtNc c H H') : BadV K c f H' v := by
  obtain ⟨d, h1, h2⟩ := h
  exact ⟨d, dv_n e d v h1, h2⟩
/-- none, odd -/
theorem lwB (T : Tx K mg w) {cdv : Value} {A : Around} {outer : List Env} {s : Shared} {H0 : Hp} {E : XK} {D : Ends} {rest : TS} {TT : List (Addr × Str)} {c l : Addr} {n : Nat} {p g : Addr} {z : PosD} {x0 x3 x4 x5 x6 x7 x8 x9 x10 x11 x12 x13 x14 x15 : Option V} {H : Hp}
    (hr : Room 13 (A.deeper (envOfC "law" (defScope s_law) s.heap.objs.size T.a_law cdv))) (hg : (A.deeper (envOfC "law" (defScope s_law) s.heap.objs.size T.a_law cdv)).guards = some [])
    (HT : PSs (XL P w K mg base T.a_law cdv A outer s H0 E) ((turnB (defBody s_law)).drop 1) rest) (t : Tn T TT c l n p g z H) (hN : n ≤ 900000)
    (go : ∀ vn vo H', Tn T TT c l (n + 2) p g z H' → NoP K T.c_Game c H' vn → BadV K c isInt H' vo → rest D [x0, some (.ref c), some (.ref p), x3, some vn, some vo, x6, x7, x8, x9, x10, x11, x12, x13, x14, x15] H') :
    ∃ t, PSs (XL P w K mg base T.a_law cdv A outer s H0 E) (turnB (defBody s_law)) t ∧ t D [x0, some (.ref c), some (.ref p), x3, x4, x5, x6, x7, x8, x9, x10, x11, x12, x13, x14, x15] H := by
  refine ⟨_, (pss_cons (ps_asg (pe_tup (pa_cons (pe_call (O__law_one T) (hr.mono (by decide)) (by rfl) T.m__law_one T.F__law_one.kp T.b__law_one .nil pass0 (pa_cons (pv 1) (pa_cons (pe_lst (pa_cons pe_non (pa_cons pe_int (pa_cons (pe_callTy (T := "str") (call_strO T.os_Position (O_Position___str__ T) (hr.mono (by decide)) T.b_Position___str__ pass0) (by rfl) T.z_str (by decide +kernel) (pa_cons (pv 2) pa_nil)) (pa_cons (pe_fldK (K := K) rfl (pv 2)) (pa_cons (pe_fldK (K := K) rfl (pv 2)) (pa_cons (pe_lst (pa_cons (pv 2) pa_nil)) (pa_cons pe_bl pa_nil)))))))) pa_nil))) (pa_cons (pe_call (O__law_one T) (hr.mono (by decide)) (by rfl) T.m__law_one T.F__law_one.kp T.b__law_one .nil pass0 (pa_cons (pv 1) (pa_cons (pe_lst (pa_cons pe_non (pa_cons pe_str (pa_cons pe_bl (pa_cons (pe_lst (pa_cons pe_int pa_nil)) (pa_cons (pe_tup (pa_cons pe_int (pa_cons pe_int pa_nil))) (pa_cons pe_dnewK (pa_cons pe_bl pa_nil)))))))) pa_nil))) pa_nil))) (pg_tup rfl (pgs_cons (pg_name (i := 4) sc_law.nd rfl (Or.inr rfl)) (pgs_cons (pg_name (i := 5) sc_law.nd rfl (Or.inr rfl)) pgs_nil))))
      HT), ?_⟩
  obtain ⟨dx, tp, ts, td, tl, ps, ss, h1, h2, h3, h4, h5, h6, h7, h8⟩ := id t.pos
  refine ⟨_, rfl, _, rfl, p, dx, _, rfl, h1, p, g, z, rfl, t.pos, t.ps, fun H1 s1 => ⟨_, rfl, ?_⟩⟩
  refine ⟨_, rfl, p, _, dx, _, _, rfl, s1 _ _ h1, T.cl_Position, T.nF_Position_game, rfl, _, rfl, p, _, dx, _, _, rfl, s1 _ _ h1, T.cl_Position, T.nF_Position_pieces, rfl, ?_⟩
  refine ⟨_, rfl, szl rfl, fun a1 ha1 => ⟨szl rfl, fun q1 hq1 => ?_⟩⟩
  have sa := same_new ha1 (o := .lst [.ref p])
  have ga : upd H1 a1 (.lst [.ref p]) a1 = some (.lst [.ref p]) := upd_same
  have t1 := (t.same s1).same sa
  have na : a1 ≠ c := (t.same s1).bag.ne ha1
  have g8 := (h8.same s1).same sa
  have tp8 := sa.seqT (s1.seqT h2.1)
  generalize upd H1 a1 (.lst [V.ref p]) = H2 at sa ga t1 g8 tp8 hq1 ⊢
  have sq := same_new hq1 (o := .lst [.non, .int 5, .str (textP z), .ref g, .ref tp, .ref a1, .bl true])
  refine ⟨c, l, q1, n, _, rfl, t1.bag.new hq1, by omega, t1.bag.ne hq1, .of upd_same, by simp, szl2 rfl, fun i v H3 hi b3 x3 => ?_⟩
  have tq := t1.same sq
  have t3 := tq.ext x3 b3
  obtain ⟨ys, hcq⟩ := bag_at tq.bag
  have e13 : ExtNc c H2 H3 := (ExtNc.of sq).trans (.ofX x3)
  obtain ⟨ys1, hc1⟩ := bag_at t1.bag
  have np : NoP K T.c_Game c H2 v := by
    have hm := one_of hi
    simp only [List.mem_cons, List.not_mem_nil, or_false] at hm
    obtain ⟨dg, _, _, _, _, gi, _⟩ := g8
    rcases hm with rfl | rfl | rfl | rfl | rfl | rfl | rfl
    · exact .inl rfl
    · exact .inr (.inl rfl)
    · exact .inr (.inr (.inl ⟨_, rfl⟩))
    · exact .inr (.inr (.inr (.inr (.inl ⟨_, _, _, rfl, gi⟩))))
    · exact .inr (.inr (.inr (.inr (.inr (.inl ⟨_, _, rfl, tp8⟩)))))
    · exact .inr (.inr (.inr (.inr (.inr (.inr ⟨_, _, rfl, ga, na⟩)))))
    · exact .inr (.inr (.inr (.inl rfl)))
  have np3 := np.nc hc1 e13
  clear np e13 hcq tq sq sa ga g8 tp8 hq1 h1 h2 h3 h4 h5 h6 h7 h8 t1 s1 t ha1 na x3 hi hc1
  -- odd
  refine ⟨_, rfl, szl rfl, fun a2 ha2 => ⟨szl rfl, fun a3 ha3 => fun a4 ha4 => ⟨szl rfl, fun q2 hq2 => ?_⟩⟩⟩
  have s2 := same_new ha2 (o := .lst [.int 1])
  have s3 := same_new ha3 (o := .tup [.int 1, .int 0])
  have s4 := same_new ha4 (o := .dK [])
  have g2 : upd H3 a2 (.lst [.int 1]) a2 = some (.lst [.int 1]) := upd_same
  have g3 : upd (upd H3 a2 (.lst [.int 1])) a3 (.tup [.int 1, .int 0]) a3 = some (.tup [.int 1, .int 0]) := upd_same
  have g4 : upd (upd (upd H3 a2 (.lst [.int 1])) a3 (.tup [.int 1, .int 0])) a4 (.dK []) a4 = some (.dK []) := upd_same
  have n2 : a2 ≠ c := t3.bag.ne ha2
  have n3 : a3 ≠ c := (t3.same s2).bag.ne ha3
  have n4 : a4 ≠ c := ((t3.same s2).same s3).bag.ne ha4
  have g2' := s4 _ _ (s3 _ _ g2)
  have g3' := s4 _ _ g3
  have s24 := (s2.trans s3).trans s4
  have t4 := t3.same s24
  generalize upd (upd (upd H3 a2 (.lst [V.int 1])) a3 (.tup [V.int 1, V.int 0])) a4 (.dK []) = H4 at s24 g2' g3' g4 t4 hq2 ⊢
  have sq := same_new hq2 (o := .lst [.non, .str "1", .bl true, .ref a2, .ref a3, .ref a4, .bl false])
  refine ⟨c, l, q2, n + 1, _, rfl, t4.bag.new hq2, by omega, t4.bag.ne hq2, .of upd_same, by simp, szl2 rfl, fun j u H5 hj b5 x5 => ?_⟩
  have bo : BadV K c isInt H4 u := by
    have hm := one_of hj
    simp only [List.mem_cons, List.not_mem_nil, or_false] at hm
    rcases hm with rfl | rfl | rfl | rfl | rfl | rfl | rfl
    · exact ⟨.none, .non, rfl⟩
    · exact ⟨.str "1", .str _, rfl⟩
    · exact ⟨.bool true, .bl true, rfl⟩
    · exact ⟨.list [.int 1], .lst n2 (.of g2') (.cons (.int 1) .nil), rfl⟩
    · exact ⟨.tuple [.int 1, .int 0], .tup n3 (.of g3') (.cons (.int 1) (.cons (.int 0) .nil)), rfl⟩
    · exact ⟨.dict [], .dic n4 g4 .nil, rfl⟩
    · exact ⟨.bool false, .bl false, rfl⟩
  have e35 : ExtNc c H3 H5 := (ExtNc.of s24).trans ((ExtNc.of sq).trans (.ofX x5))
  have e45 : ExtNc c H4 H5 := (ExtNc.of sq).trans (.ofX x5)
  obtain ⟨ys3, hc3⟩ := bag_at t3.bag
  have np5 := np3.nc hc3 e35
  have bo5 := bo.nc e45
  have t5 := (t4.same sq).ext x5 b5
  refine ⟨szl rfl, fun tt htt => ⟨tt, _, rfl, .of upd_same, rfl, _, _, rfl, _, _, rfl, rfl, ?_⟩⟩
  have st := same_new htt (o := .tup [v, u])
  obtain ⟨ys5, hc5⟩ := bag_at t5.bag
  exact go v u _ (t5.same st) (np5.nc hc5 (.of st)) (bo5.nc (.of st))
/-- what is no move, no way; a way, a move -/
structure Dr (K : PySem.W.Frag) (CG c : Addr) (H : Hp) (vn vo vb vh : V) (sw : Str) (m mb : Addr) (mx my : Int) : Prop where
  n : NoP K CG c H vn
  o : BadV K c isInt H vo
  b : BadV K c isMv H vb
  h : BadV K c isWay H vh
  w : sw ∈ ways3
  m : ∃ a, H m = some (.tup [.ref a, .ref mb]) ∧ H a = some (.tup [.int mx, .int 0]) ∧ H mb = some (.lst [.int 0, .int my]) ∧ mb ≠ c
  x : 0 ≤ mx ∧ mx < 9 ∧ 0 ≤ my ∧ my < 9
theorem Dr.nc {CG c : Addr} {H H' : Hp} {vn vo vb vh : V} {sw : Str} {m mb : Addr} {mx my : Int} {ys : List V} (d : Dr K CG c H vn vo vb vh sw m mb mx my) (hc : H c = some (.lst ys)) (e : ExtNc c H H') : Dr K CG c H' vn vo vb vh sw m mb mx my := by
  obtain ⟨a, h1, h2, h3, h4⟩ := d.m
  exact ⟨d.n.nc hc e, d.o.nc e, d.b.nc e, d.h.nc e, d.w, ⟨a, nc_tup hc e h1, nc_tup hc e h2, e _ _ h4 h3 (fun _ z => nomatch z), h4⟩, d.x⟩
/-- bad -/
theorem lwC (T : Tx K mg w) {cdv : Value} {A : Around} {outer : List Env} {s : Shared} {H0 : Hp} {E : XK} {D : Ends} {rest : TS} {TT : List (Addr × Str)} {c l : Addr} {n : Nat} {p g : Addr} {z : PosD} {vn vo : V} {x0 x3 x6 x7 x8 x9 x10 x11 x12 x13 x14 x15 : Option V} {H : Hp}
    (hr : Room 13 (A.deeper (envOfC "law" (defScope s_law) s.heap.objs.size T.a_law cdv))) (hg : (A.deeper (envOfC "law" (defScope s_law) s.heap.objs.size T.a_law cdv)).guards = some [])
    (HT : PSs (XL P w K mg base T.a_law cdv A outer s H0 E) ((turnB (defBody s_law)).drop 2) rest) (t : Tn T TT c l n p g z H) (hN : n ≤ 900000) (hn : NoP K T.c_Game c H vn) (ho : BadV K c isInt H vo)
    (go : ∀ vb H', Tn T TT c l (n + 1) p g z H' → NoP K T.c_Game c H' vn → BadV K c isInt H' vo → BadV K c isMv H' vb → rest D [x0, some (.ref c), some (.ref p), x3, some vn, some vo, some vb, x7, x8, x9, x10, x11, x12, x13, x14, x15] H') :
    ∃ t, PSs (XL P w K mg base T.a_law cdv A outer s H0 E) ((turnB (defBody s_law)).drop 1) t ∧ t D [x0, some (.ref c), some (.ref p), x3, some vn, some vo, x6, x7, x8, x9, x10, x11, x12, x13, x14, x15] H := by
  refine ⟨_, (pss_cons (ps_set (i := 6) sc_law.nd rfl (Or.inr rfl) (pe_call (O__law_one T) (hr.mono (by decide)) (by rfl) T.m__law_one T.F__law_one.kp T.b__law_one .nil pass0 (pa_cons (pv 1) (pa_cons (pe_lst (pa_cons pe_non (pa_cons pe_int (pa_cons (pe_tup (pa_cons pe_int (pa_cons pe_int pa_nil))) (pa_cons (pe_tup (pa_cons (pe_tup (pa_cons pe_int (pa_cons pe_int pa_nil))) pa_nil)) (pa_cons (pe_tup (pa_cons (pe_tup (pa_cons pe_int (pa_cons pe_int pa_nil))) (pa_cons (pe_tup (pa_cons pe_int (pa_cons pe_bl pa_nil))) pa_nil))) (pa_cons (pe_tup (pa_cons (pe_tup (pa_cons pe_int (pa_cons pe_int pa_nil))) (pa_cons (pe_tup (pa_cons pe_int (pa_cons pe_int pa_nil))) (pa_cons (pe_tup (pa_cons pe_int (pa_cons pe_int pa_nil))) pa_nil)))) (pa_cons (pe_lst (pa_cons pe_str (pa_cons pe_str pa_nil))) (pa_cons (pe_tup (pa_cons (pe_tup (pa_cons pe_int (pa_cons pe_int pa_nil))) (pa_cons (pe_tup (pa_cons pe_int pa_nil)) pa_nil))) (pa_cons (pe_dispT (Nat.lt_of_le_of_lt (Nat.add_le_add_left (by decide) _) hr.units) (pe_tup (pa_cons pe_int (pa_cons pe_int pa_nil))) (pe_tup (pa_cons pe_int (pa_cons pe_int pa_nil)))) pa_nil)))))))))) pa_nil))))
      HT), ?_⟩
  refine ⟨_, rfl, szl rfl, fun a1 ha1 => ?_⟩
  obtain ⟨da1, xa1⟩ : DV K c (upd H a1 (.tup [.int 0, .int 1])) (.ref a1) (.tuple [.int 0, .int 1]) ∧ Gs.Ext c H (upd H a1 (.tup [.int 0, .int 1])) := new_tup ha1 (t.bag.ne ha1) (.cons (.int 0) (.cons (.int 1) .nil))
  have sa := same_new ha1 (o := .tup [.int 0, .int 1])
  generalize ea1 : upd H a1 _ = H_a1 at da1 sa ⊢
  clear ea1 xa1 ha1
  refine ⟨szl rfl, fun a2 ha2 => ?_⟩
  obtain ⟨da2, xa2⟩ : DV K c (upd H_a1 a2 (.tup [.int 0, .int 0])) (.ref a2) (.tuple [.int 0, .int 0]) ∧ Gs.Ext c H_a1 (upd H_a1 a2 (.tup [.int 0, .int 0])) := new_tup ha2 ((t.bag.same sa).ne ha2) (.cons (.int 0) (.cons (.int 0) .nil))
  replace da1 := da1.up xa2
  replace sa := sa.trans (same_new ha2 (o := .tup [.int 0, .int 0]))
  generalize ea2 : upd H_a1 a2 _ = H_a2 at da2 sa da1 ⊢
  clear ea2 xa2 ha2
  refine ⟨szl rfl, fun a3 ha3 => ?_⟩
  obtain ⟨da3, xa3⟩ : DV K c (upd H_a2 a3 (.tup [.ref a2])) (.ref a3) (.tuple [.tuple [.int 0, .int 0]]) ∧ Gs.Ext c H_a2 (upd H_a2 a3 (.tup [.ref a2])) := new_tup ha3 ((t.bag.same sa).ne ha3) (.cons da2 .nil)
  replace da1 := da1.up xa3
  replace da2 := da2.up xa3
  replace sa := sa.trans (same_new ha3 (o := .tup [.ref a2]))
  generalize ea3 : upd H_a2 a3 _ = H_a3 at da3 sa da1 da2 ⊢
  clear ea3 xa3 ha3
  refine ⟨szl rfl, fun a4 ha4 => ?_⟩
  obtain ⟨da4, xa4⟩ : DV K c (upd H_a3 a4 (.tup [.int 0, .int 0])) (.ref a4) (.tuple [.int 0, .int 0]) ∧ Gs.Ext c H_a3 (upd H_a3 a4 (.tup [.int 0, .int 0])) := new_tup ha4 ((t.bag.same sa).ne ha4) (.cons (.int 0) (.cons (.int 0) .nil))
  replace da1 := da1.up xa4
  replace da3 := da3.up xa4
  replace sa := sa.trans (same_new ha4 (o := .tup [.int 0, .int 0]))
  generalize ea4 : upd H_a3 a4 _ = H_a4 at da4 sa da1 da3 ⊢
  clear ea4 xa4 ha4
  refine ⟨szl rfl, fun a5 ha5 => ?_⟩
  obtain ⟨da5, xa5⟩ : DV K c (upd H_a4 a5 (.tup [.int 0, .bl true])) (.ref a5) (.tuple [.int 0, .bool true]) ∧ Gs.Ext c H_a4 (upd H_a4 a5 (.tup [.int 0, .bl true])) := new_tup ha5 ((t.bag.same sa).ne ha5) (.cons (.int 0) (.cons (.bl true) .nil))
  replace da1 := da1.up xa5
  replace da3 := da3.up xa5
  replace da4 := da4.up xa5
  replace sa := sa.trans (same_new ha5 (o := .tup [.int 0, .bl true]))
  generalize ea5 : upd H_a4 a5 _ = H_a5 at da5 sa da1 da3 da4 ⊢
  clear ea5 xa5 ha5
  refine ⟨szl rfl, fun a6 ha6 => ?_⟩
  obtain ⟨da6, xa6⟩ : DV K c (upd H_a5 a6 (.tup [.ref a4, .ref a5])) (.ref a6) (.tuple [.tuple [.int 0, .int 0], .tuple [.int 0, .bool true]]) ∧ Gs.Ext c H_a5 (upd H_a5 a6 (.tup [.ref a4, .ref a5])) := new_tup ha6 ((t.bag.same sa).ne ha6) (.cons da4 (.cons da5 .nil))
  replace da1 := da1.up xa6
  replace da3 := da3.up xa6
  replace da4 := da4.up xa6
  replace da5 := da5.up xa6
  replace sa := sa.trans (same_new ha6 (o := .tup [.ref a4, .ref a5]))
  generalize ea6 : upd H_a5 a6 _ = H_a6 at da6 sa da1 da3 da4 da5 ⊢
  clear ea6 xa6 ha6
  refine ⟨szl rfl, fun a7 ha7 => ?_⟩
  obtain ⟨da7, xa7⟩ : DV K c (upd H_a6 a7 (.tup [.int 0, .int 0])) (.ref a7) (.tuple [.int 0, .int 0]) ∧ Gs.Ext c H_a6 (upd H_a6 a7 (.tup [.int 0, .int 0])) := new_tup ha7 ((t.bag.same sa).ne ha7) (.cons (.int 0) (.cons (.int 0) .nil))
  replace da1 := da1.up xa7
  replace da3 := da3.up xa7
  replace da6 := da6.up xa7
  replace sa := sa.trans (same_new ha7 (o := .tup [.int 0, .int 0]))
  generalize ea7 : upd H_a6 a7 _ = H_a7 at da7 sa da1 da3 da6 ⊢
  clear ea7 xa7 ha7
  refine ⟨szl rfl, fun a8 ha8 => ?_⟩
  obtain ⟨da8, xa8⟩ : DV K c (upd H_a7 a8 (.tup [.int 0, .int 1])) (.ref a8) (.tuple [.int 0, .int 1]) ∧ Gs.Ext c H_a7 (upd H_a7 a8 (.tup [.int 0, .int 1])) := new_tup ha8 ((t.bag.same sa).ne ha8) (.cons (.int 0) (.cons (.int 1) .nil))
  replace da1 := da1.up xa8
  replace da3 := da3.up xa8
  replace da6 := da6.up xa8
  replace da7 := da7.up xa8
  replace sa := sa.trans (same_new ha8 (o := .tup [.int 0, .int 1]))
  generalize ea8 : upd H_a7 a8 _ = H_a8 at da8 sa da1 da3 da6 da7 ⊢
  clear ea8 xa8 ha8
  refine ⟨szl rfl, fun a9 ha9 => ?_⟩
  obtain ⟨da9, xa9⟩ : DV K c (upd H_a8 a9 (.tup [.int 0, .int 2])) (.ref a9) (.tuple [.int 0, .int 2]) ∧ Gs.Ext c H_a8 (upd H_a8 a9 (.tup [.int 0, .int 2])) := new_tup ha9 ((t.bag.same sa).ne ha9) (.cons (.int 0) (.cons (.int 2) .nil))
  replace da1 := da1.up xa9
  replace da3 := da3.up xa9
  replace da6 := da6.up xa9
  replace da7 := da7.up xa9
  replace da8 := da8.up xa9
  replace sa := sa.trans (same_new ha9 (o := .tup [.int 0, .int 2]))
  generalize ea9 : upd H_a8 a9 _ = H_a9 at da9 sa da1 da3 da6 da7 da8 ⊢
  clear ea9 xa9 ha9
  refine ⟨szl rfl, fun a10 ha10 => ?_⟩
  obtain ⟨da10, xa10⟩ : DV K c (upd H_a9 a10 (.tup [.ref a7, .ref a8, .ref a9])) (.ref a10) (.tuple [.tuple [.int 0, .int 0], .tuple [.int 0, .int 1], .tuple [.int 0, .int 2]]) ∧ Gs.Ext c H_a9 (upd H_a9 a10 (.tup [.ref a7, .ref a8, .ref a9])) := new_tup ha10 ((t.bag.same sa).ne ha10) (.cons da7 (.cons da8 (.cons da9 .nil)))
  replace da1 := da1.up xa10
  replace da3 := da3.up xa10
  replace da6 := da6.up xa10
  replace da7 := da7.up xa10
  replace da8 := da8.up xa10
  replace da9 := da9.up xa10
  replace sa := sa.trans (same_new ha10 (o := .tup [.ref a7, .ref a8, .ref a9]))
  generalize ea10 : upd H_a9 a10 _ = H_a10 at da10 sa da1 da3 da6 da7 da8 da9 ⊢
  clear ea10 xa10 ha10
  refine ⟨szl rfl, fun a11 ha11 => ?_⟩
  obtain ⟨da11, xa11⟩ : DV K c (upd H_a10 a11 (.lst [.str "00", .str "01"])) (.ref a11) (.list [.str "00", .str "01"]) ∧ Gs.Ext c H_a10 (upd H_a10 a11 (.lst [.str "00", .str "01"])) := new_lst ha11 ((t.bag.same sa).ne ha11) (.cons (.str _) (.cons (.str _) .nil))
  replace da1 := da1.up xa11
  replace da3 := da3.up xa11
  replace da6 := da6.up xa11
  replace da10 := da10.up xa11
  replace sa := sa.trans (same_new ha11 (o := .lst [.str "00", .str "01"]))
  generalize ea11 : upd H_a10 a11 _ = H_a11 at da11 sa da1 da3 da6 da10 ⊢
  clear ea11 xa11 ha11
  refine ⟨szl rfl, fun a12 ha12 => ?_⟩
  obtain ⟨da12, xa12⟩ : DV K c (upd H_a11 a12 (.tup [.int 0, .int 0])) (.ref a12) (.tuple [.int 0, .int 0]) ∧ Gs.Ext c H_a11 (upd H_a11 a12 (.tup [.int 0, .int 0])) := new_tup ha12 ((t.bag.same sa).ne ha12) (.cons (.int 0) (.cons (.int 0) .nil))
  replace da1 := da1.up xa12
  replace da3 := da3.up xa12
  replace da6 := da6.up xa12
  replace da10 := da10.up xa12
  replace da11 := da11.up xa12
  replace sa := sa.trans (same_new ha12 (o := .tup [.int 0, .int 0]))
  generalize ea12 : upd H_a11 a12 _ = H_a12 at da12 sa da1 da3 da6 da10 da11 ⊢
  clear ea12 xa12 ha12
  refine ⟨szl rfl, fun a13 ha13 => ?_⟩
  obtain ⟨da13, xa13⟩ : DV K c (upd H_a12 a13 (.tup [.int 0])) (.ref a13) (.tuple [.int 0]) ∧ Gs.Ext c H_a12 (upd H_a12 a13 (.tup [.int 0])) := new_tup ha13 ((t.bag.same sa).ne ha13) (.cons (.int 0) .nil)
  replace da1 := da1.up xa13
  replace da3 := da3.up xa13
  replace da6 := da6.up xa13
  replace da10 := da10.up xa13
  replace da11 := da11.up xa13
  replace da12 := da12.up xa13
  replace sa := sa.trans (same_new ha13 (o := .tup [.int 0]))
  generalize ea13 : upd H_a12 a13 _ = H_a13 at da13 sa da1 da3 da6 da10 da11 da12 ⊢
  clear ea13 xa13 ha13
  refine ⟨szl rfl, fun a14 ha14 => ?_⟩
  obtain ⟨da14, xa14⟩ : DV K c (upd H_a13 a14 (.tup [.ref a12, .ref a13])) (.ref a14) (.tuple [.tuple [.int 0, .int 0], .tuple [.int 0]]) ∧ Gs.Ext c H_a13 (upd H_a13 a14 (.tup [.ref a12, .ref a13])) := new_tup ha14 ((t.bag.same sa).ne ha14) (.cons da12 (.cons da13 .nil))
  replace da1 := da1.up xa14
  replace da3 := da3.up xa14
  replace da6 := da6.up xa14
  replace da10 := da10.up xa14
  replace da11 := da11.up xa14
  replace da12 := da12.up xa14
  replace da13 := da13.up xa14
  replace sa := sa.trans (same_new ha14 (o := .tup [.ref a12, .ref a13]))
  generalize ea14 : upd H_a13 a14 _ = H_a14 at da14 sa da1 da3 da6 da10 da11 da12 da13 ⊢
  clear ea14 xa14 ha14
  intro pd hpd
  refine ⟨szl rfl, fun k1 hk1 => ⟨szl rfl, fun k2 hk2 => ⟨k1, [.inl 0, .inl 0], rfl, ?_, ?_, szl rfl, fun q hq => ?_⟩⟩⟩
  · exact (same_new hk2) _ _ upd_same
  · exact (same_new hk2) _ _ ((same_new hk1) _ _ upd_same)
  have odd_no : PyData.showable (.dict [(.int (2 ^ 2000), .none)]) = false := by decide +kernel
  have tb := t.same sa
  have xd : Gs.Ext c H_a14 (upd (upd (upd (upd H_a14 pd (.dT [])) k1 (.tup [.int 0, .int 0])) k2 (.tup [.int 0, .int 1])) pd (.dT [([.inl 0, .inl 0], .ref k2)])) := (((Ext.new hpd).trans (Ext.new hk1)).trans (Ext.new hk2)).own hpd
  have sd : Same H_a14 (upd (upd (upd (upd H_a14 pd (.dT [])) k1 (.tup [.int 0, .int 0])) k2 (.tup [.int 0, .int 1])) pd (.dT [([.inl 0, .inl 0], .ref k2)])) := same_own (((same_new hpd).trans (same_new hk1)).trans (same_new hk2)) hpd
  have dd : DV K c (upd (upd (upd (upd H_a14 pd (.dT [])) k1 (.tup [.int 0, .int 0])) k2 (.tup [.int 0, .int 1])) pd (.dT [([.inl 0, .inl 0], .ref k2)])) (.ref pd) (.dict [(.int (2 ^ 2000), .none)]) := .dct (tb.bag.ne hpd) upd_same odd_no
  replace da1 := da1.up xd
  replace da3 := da3.up xd
  replace da6 := da6.up xd
  replace da10 := da10.up xd
  replace da11 := da11.up xd
  replace da14 := da14.up xd
  have t2 := tb.same sd
  have s2 := sa.trans sd
  generalize upd _ pd (.dT [([Sum.inl 0, Sum.inl 0], V.ref k2)]) = H2 at dd t2 s2 da1 da3 da6 da10 da11 da14 hq ⊢
  have sq := same_new hq (o := .lst [.non, .int 5, .ref a1, .ref a3, .ref a6, .ref a10, .ref a11, .ref a14, .ref pd])
  refine ⟨c, l, q, n, _, rfl, t2.bag.new hq, by omega, t2.bag.ne hq, .of upd_same, by simp, szl2 rfl, fun j u H5 hj b5 x5 => ?_⟩
  have bo : BadV K c isMv H2 u := by
    have hm := one_of hj
    simp only [List.mem_cons, List.not_mem_nil, or_false] at hm
    rcases hm with rfl | rfl | rfl | rfl | rfl | rfl | rfl | rfl | rfl
    · exact ⟨_, .non, rfl⟩
    · exact ⟨_, .int 5, rfl⟩
    · exact ⟨_, da1, rfl⟩
    · exact ⟨_, da3, rfl⟩
    · exact ⟨_, da6, rfl⟩
    · exact ⟨_, da10, rfl⟩
    · exact ⟨_, da11, rfl⟩
    · exact ⟨_, da14, rfl⟩
    · exact ⟨_, dd, rfl⟩
  have e25 : ExtNc c H2 H5 := (ExtNc.of sq).trans (.ofX x5)
  have e5 : ExtNc c H H5 := (ExtNc.of s2).trans e25
  obtain ⟨ys, hc⟩ := bag_at t.bag
  exact go u H5 ((t2.same sq).ext x5 b5) (hn.nc hc e5) (ho.nc e5) (bo.nc e25)
/-- how, good, move -/
theorem lwD (T : Tx K mg w) {cdv : Value} {A : Around} {outer : List Env} {s : Shared} {H0 : Hp} {E : XK} {D : Ends} {rest : TS} {TT : List (Addr × Str)} {c l : Addr} {n : Nat} {p g : Addr} {z : PosD} {vn vo vb : V} {x0 x3 x7 x8 x9 x10 x11 x12 x13 x14 x15 : Option V} {H : Hp}
    (hr : Room 13 (A.deeper (envOfC "law" (defScope s_law) s.heap.objs.size T.a_law cdv))) (hg : (A.deeper (envOfC "law" (defScope s_law) s.heap.objs.size T.a_law cdv)).guards = some [])
    (HT : PSs (XL P w K mg base T.a_law cdv A outer s H0 E) ((turnB (defBody s_law)).drop 4) rest) (t : Tn T TT c l n p g z H) (hN : n ≤ 900000) (hn : NoP K T.c_Game c H vn) (ho : BadV K c isInt H vo) (hb : BadV K c isMv H vb)
    (go : ∀ vh sw m mb mx my H', Tn T TT c l (n + 4) p g z H' → Dr K T.c_Game c H' vn vo vb vh sw m mb mx my → rest D [x0, some (.ref c), some (.ref p), x3, some vn, some vo, some vb, some vh, some (.str sw), some (.ref m), x10, x11, x12, x13, x14, x15] H') :
    ∃ t, PSs (XL P w K mg base T.a_law cdv A outer s H0 E) ((turnB (defBody s_law)).drop 2) t ∧ t D [x0, some (.ref c), some (.ref p), x3, some vn, some vo, some vb, x7, x8, x9, x10, x11, x12, x13, x14, x15] H := by
  refine ⟨_, (pss_cons (ps_asg (pe_tup (pa_cons (pe_call (O__law_one T) (hr.mono (by decide)) (by rfl) T.m__law_one T.F__law_one.kp T.b__law_one .nil pass0 (pa_cons (pv 1) (pa_cons (pe_lst (pa_cons pe_non (pa_cons pe_int (pa_cons pe_str (pa_cons pe_str (pa_cons pe_str (pa_cons (pe_lst (pa_cons pe_str pa_nil)) (pa_cons pe_str (pa_cons pe_bl pa_nil))))))))) pa_nil))) (pa_cons (pe_call (O__law_one T) (hr.mono (by decide)) (by rfl) T.m__law_one T.F__law_one.kp T.b__law_one .nil pass0 (pa_cons (pv 1) (pa_cons (pe_lst (pa_cons pe_str (pa_cons pe_str (pa_cons pe_str pa_nil)))) pa_nil))) pa_nil))) (pg_tup rfl (pgs_cons (pg_name (i := 7) sc_law.nd rfl (Or.inr rfl)) (pgs_cons (pg_name (i := 8) sc_law.nd rfl (Or.inr rfl)) pgs_nil))))
      (pss_cons (ps_set (i := 9) sc_law.nd rfl (Or.inr rfl) (pe_tup (pa_cons (pe_tup (pa_cons (pe_call (O__law_swing T) (hr.mono (by decide)) (by rfl) T.m__law_swing T.F__law_swing.kp T.b__law_swing .nil pass0 (pa_cons (pv 1) (pa_cons pe_int pa_nil))) (pa_cons pe_int pa_nil))) (pa_cons (pe_lst (pa_cons pe_int (pa_cons (pe_call (O__law_swing T) (hr.mono (by decide)) (by rfl) T.m__law_swing T.F__law_swing.kp T.b__law_swing .nil pass0 (pa_cons (pv 1) (pa_cons pe_int pa_nil))) pa_nil))) pa_nil))))
      HT)), ?_⟩
  refine ⟨_, rfl, szl rfl, fun a1 ha1 => ?_⟩
  obtain ⟨da1, xa1⟩ : DV K c (upd H a1 (.lst [.str "moved"])) (.ref a1) (.list [.str "moved"]) ∧ Gs.Ext c H (upd H a1 (.lst [.str "moved"])) := new_lst ha1 (t.bag.ne ha1) (.cons (.str _) .nil)
  have sa := same_new ha1 (o := .lst [.str "moved"])
  generalize ea1 : upd H a1 _ = H_a1 at da1 sa ⊢
  clear ea1 xa1 ha1
  refine ⟨szl rfl, fun q hq => ?_⟩
  have t1 := t.same sa
  have sq := same_new hq (o := .lst [.non, .int 5, .str "left", .str "Turned", .str "", .ref a1, .str "turn", .bl true])
  refine ⟨c, l, q, n, _, rfl, t1.bag.new hq, by omega, t1.bag.ne hq, .of upd_same, by simp, szl2 rfl, fun j vh H2 hj b2 x2 => ?_⟩
  have bh : BadV K c isWay H_a1 vh := by
    have hm := one_of hj
    simp only [List.mem_cons, List.not_mem_nil, or_false] at hm
    rcases hm with rfl | rfl | rfl | rfl | rfl | rfl | rfl | rfl
    · exact ⟨_, .non, rfl⟩
    · exact ⟨_, .int 5, rfl⟩
    · exact ⟨_, .str "left", by decide +kernel⟩
    · exact ⟨_, .str "Turned", by decide +kernel⟩
    · exact ⟨_, .str "", by decide +kernel⟩
    · exact ⟨_, da1, rfl⟩
    · exact ⟨_, .str "turn", by decide +kernel⟩
    · exact ⟨_, .bl true, rfl⟩
  have e12 : ExtNc c H_a1 H2 := (ExtNc.of sq).trans (.ofX x2)
  have e2 : ExtNc c H H2 := (ExtNc.of sa).trans e12
  obtain ⟨ys, hc⟩ := bag_at t.bag
  have t2 := (t1.same sq).ext x2 b2
  have hn2 := hn.nc hc e2
  have ho2 := ho.nc e2
  have hb2 := hb.nc e2
  have bh2 := bh.nc e12
  clear e12 e2 hc bh sq t1 da1 sa hn ho hb t hq x2 b2 hj
  -- good
  refine ⟨_, rfl, szl rfl, fun q hq => ?_⟩
  have sq := same_new hq (o := .lst (ways3.map V.str))
  refine ⟨c, l, q, n + 1, _, rfl, t2.bag.new hq, by omega, t2.bag.ne hq, .of upd_same, by simp, szl2 rfl, fun j vg H3 hj b3 x3 => ?_⟩
  obtain ⟨sw, rfl, hw⟩ : ∃ sw : Str, vg = .str sw ∧ sw ∈ ways3 := by
    have hm : vg ∈ ways3.map V.str := one_of hj
    obtain ⟨sw, h1, h2⟩ := List.mem_map.mp hm
    exact ⟨sw, h2.symm, h1⟩
  have e3 : ExtNc c H2 H3 := (ExtNc.of sq).trans (.ofX x3)
  obtain ⟨ys, hc⟩ := bag_at t2.bag
  have t3 := (t2.same sq).ext x3 b3
  refine ⟨szl rfl, fun tt htt => ⟨tt, _, rfl, .of upd_same, rfl, _, _, rfl, _, _, rfl, rfl, ?_⟩⟩
  have st := same_new htt (o := .tup [vh, .str sw])
  have e4 : ExtNc c H2 (upd H3 tt (.tup [vh, .str sw])) := e3.trans (.of st)
  have t4 := t3.same st
  have hn4 := hn2.nc hc e4
  have ho4 := ho2.nc e4
  have hb4 := hb2.nc e4
  have bh4 := bh2.nc e4
  generalize upd H3 tt (.tup [vh, V.str sw]) = H4 at t4 hn4 ho4 hb4 bh4 ⊢
  clear e4 e3 hc t3 t2 hn2 ho2 hb2 bh2 sq hq x3 b3 hj htt st
  -- move
  refine ⟨_, rfl, c, l, n + 2, 9, rfl, t4.bag, by omega, by decide, by decide, fun mx H5 m0 m1 b5 x5 => ⟨szl rfl, fun ta hta => ?_⟩⟩
  have sA := same_new hta (o := .tup [.int mx, .int 0])
  have gA : upd H5 ta (.tup [.int mx, .int 0]) ta = some (.tup [.int mx, .int 0]) := upd_same
  have t5 := (t4.ext x5 b5).same sA
  have e5 : ExtNc c H4 (upd H5 ta (.tup [.int mx, .int 0])) := (ExtNc.ofX x5).trans (.of sA)
  generalize upd H5 ta (.tup [V.int mx, V.int 0]) = H6 at gA t5 e5 ⊢
  refine ⟨_, rfl, c, l, n + 3, 9, rfl, t5.bag, by omega, by decide, by decide, fun my H7 w0 w1 b7 x7 => ⟨szl rfl, fun tb htb => ⟨szl rfl, fun m hm => ?_⟩⟩⟩
  obtain ⟨ys6, hc6⟩ := bag_at t5.bag
  have t7 := t5.ext x7 b7
  have nb : tb ≠ c := t7.bag.ne htb
  have gA7 := nc_tup hc6 (.ofX x7) gA
  have sB := same_new htb (o := .lst [.int 0, .int my])
  have sM := same_new hm (o := .tup [.ref ta, .ref tb])
  have gB : upd H7 tb (.lst [.int 0, .int my]) tb = some (.lst [.int 0, .int my]) := upd_same
  have gA8 := sM _ _ (sB _ _ gA7)
  have gB8 := sM _ _ gB
  have gM8 : upd (upd H7 tb (.lst [.int 0, .int my])) m (.tup [.ref ta, .ref tb]) m = some (.tup [.ref ta, .ref tb]) := upd_same
  have e8 : ExtNc c H4 (upd (upd H7 tb (.lst [.int 0, .int my])) m (.tup [.ref ta, .ref tb])) := e5.trans ((ExtNc.ofX x7).trans ((ExtNc.of sB).trans (.of sM)))
  obtain ⟨ys4, hc4⟩ := bag_at t4.bag
  exact go vh sw m tb mx my _ ((t7.same sB).same sM) ⟨hn4.nc hc4 e8, ho4.nc e8, hb4.nc e8, bh4.nc e8, hw, ⟨ta, gM8, gA8, gB8, nb⟩, m0, m1, w0, w1⟩
end
end K57

set_option Elab.async false
set_option linter.all false
set_option maxRecDepth 100000
set_option maxHeartbeats 8000000
namespace K57
open PySem PySem.Spec PyProof.Rows L2 Gs
open LamX (Tabs TabB TabS CodeO ExtN)
section
variable {P : Program} {w : World} {K : PySem.W.Frag} {mg : Str → Option Value} {base : Heap}
theorem extN_refl (H : Hp) : ExtN H H := fun _ _ h _ => h
/-- all that the lambdas look at -/
structure Al (T : Tx K mg w) (TT : List (Addr × Str)) (c l : Addr) (n : Nat) (p g : Addr) (z : PosD) (vn vo vb vh : V) (sw : Str) (m mb : Addr) (mx my : Int) (H : Hp) : Prop where
  tn : Tn T TT c l n p g z H
  dr : Dr K T.c_Game c H vn vo vb vh sw m mb mx my
section
variable {T : Tx K mg w} {TT : List (Addr × Str)} {c l : Addr} {n : Nat} {p g : Addr} {z : PosD} {vn vo vb vh : V} {sw : Str} {m mb : Addr} {mx my : Int} {H H1 H2 : Hp}
theorem Al.go (t : Al T TT c l n p g z vn vo vb vh sw m mb mx my H) (x : ExtN H H1) (tb : Tabs TT H1) (s : Same H1 H2) : Al T TT c l n p g z vn vo vb vh sw m mb mx my H2 := by
  obtain ⟨ys, hc⟩ := bag_at t.tn.bag
  exact ⟨(t.tn.nN x tb).same s, t.dr.nc hc ((ExtNc.tab x).trans (.of s))⟩
theorem Al.mv (t : Al T TT c l n p g z vn vo vb vh sw m mb mx my H) : MvAt K H m (mx, 0) (0, my) := by
  obtain ⟨a, h1, h2, h3, _⟩ := t.dr.m
  exact ⟨a, mb, .inr (.of h1), .inr (.of h2), .inl (.of h3)⟩
end
theorem Al.at_ {T : Tx K mg w} {TT : List (Addr × Str)} {c l : Addr} {n : Nat} {p g : Addr} {z : PosD} {vn vo vb vh : V} {sw : Str} {m mb : Addr} {mx my : Int} {H : Hp} (t : Al T TT c l n p g z vn vo vb vh sw m mb mx my H) {q : Addr} (h : H q = none) : q ≠ c ∧ q ≠ l ∧ q ≠ mb := by
  obtain ⟨a, h1, h2, h3, _⟩ := t.dr.m
  exact ⟨t.tn.bag.ne h, t.tn.bag.ne2 h, (ne_of_none h3 h).symm⟩
/-- what was heard: a list of ds -/
def Hd (K : PySem.W.Frag) (c l mb : Addr) (H : Hp) (hl : Addr) (ds : List PyData) : Prop := ∃ vs, H hl = some (.lst vs) ∧ DVs K c H vs ds ∧ hl ≠ c ∧ hl ≠ l ∧ hl ≠ mb
theorem Hd.nc {c l mb : Addr} {H H' : Hp} {hl : Addr} {ds : List PyData} (h : Hd K c l mb H hl ds) (e : ExtNc c H H') : Hd K c l mb H' hl ds := by
  obtain ⟨vs, h1, h2, h3⟩ := h
  exact ⟨vs, e _ _ h3.1 h1 (fun _ z => nomatch z), dvs_n e ds vs h2, h3⟩
def Told2 (d : PyData) : Prop := ∃ a b : Str, d = .tuple [.str a, .str b]
theorem dvs_told {c q : Addr} {H : Hp} {xs : List V} {o : HO} (hq : H q = some (.lst xs)) : ∀ (ds : List PyData) (vs : List V), (∀ d ∈ ds, Told2 d) → DVs K c H vs ds → DVs K c (upd H q o) vs ds
  | [], _, _, h => by cases h; exact .nil
  | d :: ds, _, hd, h => by
    cases h with
    | cons a b =>
      refine .cons ?_ (dvs_told hq ds _ (fun e he => hd e (List.mem_cons_of_mem _ he)) b)
      obtain ⟨s1, s2, rfl⟩ := hd _ List.mem_cons_self
      cases a with
      | tup n hs hv =>
        refine .tup n (seqT_lst hq hs) ?_
        cases hv with
        | cons a1 hv =>
          cases hv with
          | cons a2 hv =>
            cases hv
            cases a1
            cases a2
            exact .cons (.str _) (.cons (.str _) .nil)
theorem tabs_lst {TT : List (Addr × Str)} {c : Addr} {ys : List V} {G G' : Hp} (hc1 : G c = some (.lst ys)) (x : Gs.Ext c G G') (h : Tabs TT G) : Tabs TT G' := fun p hp => by
  obtain ⟨ps, a1, a2, a3⟩ := h p hp
  refine ⟨ps, x _ _ (fun z => by rw [z, hc1] at a1; cases a1) a1, a2, fun p' cv hc => ?_⟩
  obtain ⟨c0, e1, e2⟩ := a3 p' cv hc
  exact ⟨c0, e1, x _ _ (fun z => by rw [z, hc1] at e2; cases e2) e2⟩
/-- what the turn's end looks at -/
structure Fn (T : Tx K mg w) (TT : List (Addr × Str)) (c l : Addr) (n : Nat) (p g : Addr) (z : PosD) (sw : Str) (m mb : Addr) (mx my : Int) (H : Hp) : Prop where
  tn : Tn T TT c l n p g z H
  w : sw ∈ ways3
  m : ∃ a, H m = some (.tup [.ref a, .ref mb]) ∧ H a = some (.tup [.int mx, .int 0]) ∧ H mb = some (.lst [.int 0, .int my]) ∧ mb ≠ c
  x : 0 ≤ mx ∧ mx < 9 ∧ 0 ≤ my ∧ my < 9
def toldD (a b : Str) : PyData := .tuple [.str a, .str b]
theorem told_dv {c : Addr} {H : Hp} {t : Addr} {a b : Str} {ys : List V} (hc : H c = some (.lst ys)) (h : H t = some (.tup [.str a, .str b])) : DV K c H (.ref t) (toldD a b) := .tup (nc_ne hc h fun _ z => nomatch z) (.of h) (.cons (.str a) (.cons (.str b) .nil))
theorem lwE (T : Tx K mg w) {cdv : Value} {A : Around} {outer : List Env} {s : Shared} {H0 : Hp} {E : XK} {D : Ends} {rest : TS} {TT : List (Addr × Str)} {c l : Addr} {n : Nat} {p g : Addr} {z : PosD} {vn vo vb vh : V} {sw : Str} {m mb : Addr} {mx my : Int} {x0 x3 x11 x12 x13 x14 x15 x10 : Option V} {H : Hp}
    (hr : Room 13 (A.deeper (envOfC "law" (defScope s_law) s.heap.objs.size T.a_law cdv))) (hg : (A.deeper (envOfC "law" (defScope s_law) s.heap.objs.size T.a_law cdv)).guards = some [])
    {cc PL : Addr} (TB : TabB base mg cc PL) (hcode : cdv = .ref cc) (hmT : (PL, lamQ) ∈ TT) (hu : ∀ p ∈ TT, p.1 = PL → p.2 = lamQ)
    (HT : PSs (XL P w K mg base T.a_law cdv A outer s H0 E) ((turnB (defBody s_law)).drop 5) rest) (a : Al T TT c l n p g z vn vo vb vh sw m mb mx my H)
    (go : ∀ hk H', Al T TT c l n p g z vn vo vb vh sw m mb mx my H' → Hd K c l mb H' hk [toldD "position" "position", toldD "position" "position", toldD "position" "position"] → rest D [x0, some (.ref c), some (.ref p), x3, some vn, some vo, some vb, some vh, some (.str sw), some (.ref m), some (.ref hk), x11, x12, x13, x14, x15] H') :
    ∃ t, PSs (XL P w K mg base T.a_law cdv A outer s H0 E) ((turnB (defBody s_law)).drop 4) t ∧ t D [x0, some (.ref c), some (.ref p), x3, some vn, some vo, some vb, some vh, some (.str sw), some (.ref m), x10, x11, x12, x13, x14, x15] H := by
  obtain ⟨d2g, rb2g, hb2g⟩ := b2_gone T
  have hb4g := b4_gone T
  refine ⟨_, (pss_cons (ps_set (i := 10) sc_law.nd rfl (Or.inl rfl) (pe_lst (pa_cons (pe_heard (k := 9) T rfl rfl (by rfl) TB hcode hmT hu (hr.mono (by decide)) (LamX.lamS_by (sc := defScope s_law) (by decide +kernel)) rfl (fun _ _ _ _ _ => rfl) (fun _ _ _ _ _ _ _ hr' => (pe_call (O_turned T) (hr'.mono (by decide)) (by rfl) T.m_turned T.F_turned.kp T.b_turned .nil (pX (takes_of rfl rfl rfl rfl) (fun _ _ _ _ h => h)) (pa_cons (pv 4) pa_nil)))) (pa_cons (pe_heardD (k := 9) (ps := ["a1"]) (ns := [0]) T rfl rfl (by rfl) TB hcode hmT hu (hr.mono (by decide)) (lamP_by (N := n_law) (sc := defScope s_law) (by decide +kernel)) rfl (by decide) (by decide) (defV_one rfl rfl) (fun _ _ _ _ _ _ _ => ⟨_, rfl, fun dv h => by match dv, h with | [x], _ => rfl⟩) (fun _ _ _ _ _ _ _ hr' => (pe_call (O_mirrored T) (hr'.mono (by decide)) (by rfl) T.m_mirrored T.F_mirrored.kp T.b_mirrored .nil (pX (takes_of rfl rfl rfl rfl) (fun _ _ _ _ h => h)) (pa_cons (pv 4) pa_nil)))) (pa_cons (pe_heardD (k := 9) (ps := ["a2"]) (ns := [0]) T rfl rfl (by rfl) TB hcode hmT hu (hr.mono (by decide)) (lamP_by (N := n_law) (sc := defScope s_law) (by decide +kernel)) rfl (by decide) (by decide) (defV_one rfl rfl) (fun _ _ _ _ _ _ _ => ⟨_, rfl, fun dv h => by match dv, h with | [x], _ => rfl⟩) (fun _ _ _ _ _ _ _ hr' => (pe_call (O_moved T) (hr'.mono (by decide)) (by rfl) T.m_moved T.F_moved.kp T.b_moved .nil (pX (takes_of rfl rfl rfl rfl) (fun _ _ _ _ h => h)) (pa_cons (pv 4) (pa_cons (pv 5) (pa_cons (pv 5) pa_nil)))))) pa_nil)))))
      HT), ?_⟩
  refine ⟨a.tn.tb, fun Hn0 eN T1 N hN => ?_⟩
  have b := a.go eN T1 (Same.refl _)
  have y : ExtNc c _ _ := .tab eN
  obtain ⟨ty, ht, kf⟩ := b.dr.n.ty (T := T)
  refine ⟨_, rfl, vn, ty, rfl, ht, kf, fun dd H' hdd s1 hx => ⟨T.c_BadPosition, dd, 0, "position", "position", rfl, rfl, rfl, rfl, T.xf_BadPosition, T.no_BadPosition_part, T.xm_BadPosition_FieldError, hx, fun t0 G0 s2 htt => ?_⟩⟩
  replace a := b.go (extN_refl _) T1 (s1.trans s2)
  have y2 : ExtNc c _ _ := .of (s1.trans s2)
  obtain ⟨ys, hcc⟩ := bag_at a.tn.bag
  have d0 : DV K c G0 (.ref t0) (toldD "position" "position") := told_dv hcc htt
  clear hcc htt y2 y b hx hdd s1 s2 eN T1 hN
  refine ⟨a.tn.tb, fun Hn1 eN T1 N hN => ?_⟩
  have b := a.go eN T1 (Same.refl _)
  have y : ExtNc c _ _ := .tab eN
  replace d0 := dv_n y _ _ d0
  obtain ⟨ty, ht, kf⟩ := b.dr.n.ty (T := T)
  refine ⟨_, rfl, vn, ty, rfl, ht, kf, fun dd H' hdd s1 hx => ⟨T.c_BadPosition, dd, 0, "position", "position", rfl, rfl, rfl, rfl, T.xf_BadPosition, T.no_BadPosition_part, T.xm_BadPosition_FieldError, hx, fun t1 G1 s2 htt => ?_⟩⟩
  replace a := b.go (extN_refl _) T1 (s1.trans s2)
  have y2 : ExtNc c _ _ := .of (s1.trans s2)
  replace d0 := dv_n y2 _ _ d0
  obtain ⟨ys, hcc⟩ := bag_at a.tn.bag
  have d1 : DV K c G1 (.ref t1) (toldD "position" "position") := told_dv hcc htt
  clear hcc htt y2 y b hx hdd s1 s2 eN T1 hN
  refine ⟨a.tn.tb, fun Hn2 eN T1 N hN => ?_⟩
  have b := a.go eN T1 (Same.refl _)
  have y : ExtNc c _ _ := .tab eN
  replace d0 := dv_n y _ _ d0
  replace d1 := dv_n y _ _ d1
  obtain ⟨ty, ht, kf⟩ := b.dr.n.ty (T := T)
  refine ⟨_, rfl, _, rfl, _, rfl, vn, vo, vo, ty, rfl, ht, .inl ⟨kf, fun dd H' hdd s1 hx => ⟨T.c_BadPosition, dd, 0, "position", "position", rfl, rfl, rfl, rfl, T.xf_BadPosition, T.no_BadPosition_part, T.xm_BadPosition_FieldError, hx, fun t2 G2 s2 htt => ?_⟩⟩⟩
  replace a := b.go (extN_refl _) T1 (s1.trans s2)
  have y2 : ExtNc c _ _ := .of (s1.trans s2)
  replace d0 := dv_n y2 _ _ d0
  replace d1 := dv_n y2 _ _ d1
  obtain ⟨ys, hcc⟩ := bag_at a.tn.bag
  have d2 : DV K c G2 (.ref t2) (toldD "position" "position") := told_dv hcc htt
  clear hcc htt y2 y b hx hdd s1 s2 eN T1 hN
  refine ⟨szl rfl, fun hk hhk => ?_⟩
  have sk := same_new hhk (o := .lst [.ref t0, .ref t1, .ref t2])
  replace d0 := dv_n (.of sk) _ _ d0
  replace d1 := dv_n (.of sk) _ _ d1
  replace d2 := dv_n (.of sk) _ _ d2
  exact go hk _ (a.go (extN_refl _) a.tn.tb sk) ⟨_, upd_same, (.cons d0 (.cons d1 (.cons d2 .nil))), a.at_ hhk⟩
theorem lwF (T : Tx K mg w) {cdv : Value} {A : Around} {outer : List Env} {s : Shared} {H0 : Hp} {E : XK} {D : Ends} {rest : TS} {TT : List (Addr × Str)} {c l : Addr} {n : Nat} {p g : Addr} {z : PosD} {vn vo vb vh : V} {sw : Str} {m mb : Addr} {mx my : Int} {hl : Addr} {x0 x3 x11 x12 x13 x14 x15 : Option V} {H : Hp}
    (hr : Room 13 (A.deeper (envOfC "law" (defScope s_law) s.heap.objs.size T.a_law cdv))) (hg : (A.deeper (envOfC "law" (defScope s_law) s.heap.objs.size T.a_law cdv)).guards = some [])
    {cc PL : Addr} (TB : TabB base mg cc PL) (hcode : cdv = .ref cc) (hmT : (PL, lamQ) ∈ TT) (hu : ∀ p ∈ TT, p.1 = PL → p.2 = lamQ)
    (HT : PSs (XL P w K mg base T.a_law cdv A outer s H0 E) ((turnB (defBody s_law)).drop 6) rest) (a : Al T TT c l n p g z vn vo vb vh sw m mb mx my H) (hd : Hd K c l mb H hl [toldD "position" "position", toldD "position" "position", toldD "position" "position"])
    (go : ∀ hk H', Al T TT c l n p g z vn vo vb vh sw m mb mx my H' → Hd K c l mb H' hk [toldD "position" "position", toldD "position" "position", toldD "position" "position", toldD "number" "across", toldD "number" "up"] → rest D [x0, some (.ref c), some (.ref p), x3, some vn, some vo, some vb, some vh, some (.str sw), some (.ref m), some (.ref hk), x11, x12, x13, x14, x15] H') :
    ∃ t, PSs (XL P w K mg base T.a_law cdv A outer s H0 E) ((turnB (defBody s_law)).drop 5) t ∧ t D [x0, some (.ref c), some (.ref p), x3, some vn, some vo, some vb, some vh, some (.str sw), some (.ref m), some (.ref hl), x11, x12, x13, x14, x15] H := by
  obtain ⟨d2g, rb2g, hb2g⟩ := b2_gone T
  have hb4g := b4_gone T
  refine ⟨_, (pss_cons (ps_set (i := 10) sc_law.nd rfl (Or.inl rfl) (pe_op op_cat (pv 10) (pe_lst (pa_cons (pe_heard (k := 9) T rfl rfl (by rfl) TB hcode hmT hu (hr.mono (by decide)) (LamX.lamS_by (sc := defScope s_law) (by decide +kernel)) rfl (fun _ _ _ _ _ => rfl) (fun _ _ _ _ _ _ _ hr' => (pe_call (O_moved T) (hr'.mono (by decide)) (by rfl) T.m_moved T.F_moved.kp T.b_moved .nil (pX (takes_of rfl rfl rfl rfl) (fun _ _ _ _ h => h)) (pa_cons (pv 2) (pa_cons (pv 5) (pa_cons (pv 5) pa_nil)))))) (pa_cons (pe_heardD (k := 9) (ps := ["a1"]) (ns := [0]) T rfl rfl (by rfl) TB hcode hmT hu (hr.mono (by decide)) (lamP_by (N := n_law) (sc := defScope s_law) (by decide +kernel)) rfl (by decide) (by decide) (defV_one rfl rfl) (fun _ _ _ _ _ _ _ => ⟨_, rfl, fun dv h => by match dv, h with | [x], _ => rfl⟩) (fun _ _ _ _ _ _ _ hr' => (pe_call (O_moved T) (hr'.mono (by decide)) (by rfl) T.m_moved T.F_moved.kp T.b_moved .nil (pX (takes_of rfl rfl rfl rfl) (fun _ _ _ _ h => h)) (pa_cons (pv 2) (pa_cons pe_int (pa_cons (pv 5) pa_nil)))))) pa_nil)))))
      HT), ?_⟩
  refine ⟨_, rfl, a.tn.tb, fun Hn3 eN T1 N hN => ?_⟩
  have b := a.go eN T1 (Same.refl _)
  have y : ExtNc c _ _ := .tab eN
  replace hd := hd.nc y
  obtain ⟨dx, tp, ts, td, tl, ps, ss, q1, q2, q3, q4, q5, q6, q7, q8⟩ := id b.tn.pos
  obtain ⟨od, ho, eo⟩ := b.dr.o
  refine ⟨_, rfl, _, rfl, _, rfl, .ref p, vo, vo, .ref T.c_Position, rfl, T.ty_Position.ty q1, .inr ⟨T.kk_Position, c, od, od, ho, ho, .inl ⟨eo, fun dd H' hdd s1 hx => ⟨T.c_BadNumber, dd, 3, "number", "across", rfl, rfl, rfl, rfl, T.xf_BadNumber, T.no_BadNumber_part, T.xm_BadNumber_FieldError, hx, fun t3 G3 s2 htt => ?_⟩⟩⟩⟩
  replace a := b.go (extN_refl _) T1 (s1.trans s2)
  have y2 : ExtNc c _ _ := .of (s1.trans s2)
  replace hd := hd.nc y2
  obtain ⟨ys, hcc⟩ := bag_at a.tn.bag
  have d3 : DV K c G3 (.ref t3) (toldD "number" "across") := told_dv hcc htt
  clear hcc htt y2 y b hx hdd s1 s2 eN T1 hN
  refine ⟨a.tn.tb, fun Hn4 eN T1 N hN => ?_⟩
  have b := a.go eN T1 (Same.refl _)
  have y : ExtNc c _ _ := .tab eN
  replace d3 := dv_n y _ _ d3
  replace hd := hd.nc y
  obtain ⟨dx, tp, ts, td, tl, ps, ss, q1, q2, q3, q4, q5, q6, q7, q8⟩ := id b.tn.pos
  obtain ⟨od, ho, eo⟩ := b.dr.o
  refine ⟨_, rfl, _, rfl, .ref p, .int 4, vo, .ref T.c_Position, rfl, T.ty_Position.ty q1, .inr ⟨T.kk_Position, c, .int 4, od, .int 4, ho, .inr ⟨rfl, eo, fun dd H' hdd s1 hx => ⟨T.c_BadNumber, dd, 3, "number", "up", rfl, rfl, rfl, rfl, T.xf_BadNumber, T.no_BadNumber_part, T.xm_BadNumber_FieldError, hx, fun t4 G4 s2 htt => ?_⟩⟩⟩⟩
  replace a := b.go (extN_refl _) T1 (s1.trans s2)
  have y2 : ExtNc c _ _ := .of (s1.trans s2)
  replace d3 := dv_n y2 _ _ d3
  replace hd := hd.nc y2
  obtain ⟨ys, hcc⟩ := bag_at a.tn.bag
  have d4 : DV K c G4 (.ref t4) (toldD "number" "up") := told_dv hcc htt
  clear hcc htt y2 y b hx hdd s1 s2 eN T1 hN
  refine ⟨szl rfl, fun hk hhk => ?_⟩
  have sk := same_new hhk (o := .lst [.ref t3, .ref t4])
  replace d3 := dv_n (.of sk) _ _ d3
  replace d4 := dv_n (.of sk) _ _ d4
  replace hd := hd.nc (.of sk)
  replace a := a.go (extN_refl _) a.tn.tb sk
  have gk : upd G4 hk (.lst [.ref t3, .ref t4]) hk = some (.lst [.ref t3, .ref t4]) := upd_same
  generalize upd G4 hk (.lst [V.ref t3, V.ref t4]) = G at gk a hd d3 d4 ⊢
  obtain ⟨vs, hv, dv, nc⟩ := hd
  have lv : vs.length = 3 := dv.len
  refine ⟨hl, hk, vs, _, rfl, rfl, hv, gk, by rw [lv]; exact szl rfl, fun q hq => ?_⟩
  have sq := same_new hq (o := .lst (vs ++ [.ref t3, .ref t4]))
  have all := DVs.append dv (show DVs K c G [.ref t3, .ref t4] [toldD "number" "across", toldD "number" "up"] from (.cons d3 (.cons d4 .nil)))
  exact go q _ (a.go (extN_refl _) a.tn.tb sq) ⟨_, upd_same, dvs_n (.of sq) _ _ all, a.at_ hq⟩
theorem lwG (T : Tx K mg w) {cdv : Value} {A : Around} {outer : List Env} {s : Shared} {H0 : Hp} {E : XK} {D : Ends} {rest : TS} {TT : List (Addr × Str)} {c l : Addr} {n : Nat} {p g : Addr} {z : PosD} {vn vo vb vh : V} {sw : Str} {m mb : Addr} {mx my : Int} {hl : Addr} {x0 x3 x11 x12 x13 x14 x15 : Option V} {H : Hp}
    (hr : Room 13 (A.deeper (envOfC "law" (defScope s_law) s.heap.objs.size T.a_law cdv))) (hg : (A.deeper (envOfC "law" (defScope s_law) s.heap.objs.size T.a_law cdv)).guards = some [])
    {cc PL : Addr} (TB : TabB base mg cc PL) (hcode : cdv = .ref cc) (hmT : (PL, lamQ) ∈ TT) (hu : ∀ p ∈ TT, p.1 = PL → p.2 = lamQ)
    (HT : PSs (XL P w K mg base T.a_law cdv A outer s H0 E) ((turnB (defBody s_law)).drop 7) rest) (a : Al T TT c l n p g z vn vo vb vh sw m mb mx my H) (hd : Hd K c l mb H hl [toldD "position" "position", toldD "position" "position", toldD "position" "position", toldD "number" "across", toldD "number" "up"])
    (go : ∀ hk H', Al T TT c l n p g z vn vo vb vh sw m mb mx my H' → Hd K c l mb H' hk [toldD "position" "position", toldD "position" "position", toldD "position" "position", toldD "number" "across", toldD "number" "up", toldD "move" "move", toldD "words" "how"] → rest D [x0, some (.ref c), some (.ref p), x3, some vn, some vo, some vb, some vh, some (.str sw), some (.ref m), some (.ref hk), x11, x12, x13, x14, x15] H') :
    ∃ t, PSs (XL P w K mg base T.a_law cdv A outer s H0 E) ((turnB (defBody s_law)).drop 6) t ∧ t D [x0, some (.ref c), some (.ref p), x3, some vn, some vo, some vb, some vh, some (.str sw), some (.ref m), some (.ref hl), x11, x12, x13, x14, x15] H := by
  obtain ⟨d2g, rb2g, hb2g⟩ := b2_gone T
  have hb4g := b4_gone T
  refine ⟨_, (pss_cons (ps_set (i := 10) sc_law.nd rfl (Or.inl rfl) (pe_op op_cat (pv 10) (pe_lst (pa_cons (pe_heard (k := 9) T rfl rfl (by rfl) TB hcode hmT hu (hr.mono (by decide)) (LamX.lamS_by (sc := defScope s_law) (by decide +kernel)) rfl (fun _ _ _ _ _ => rfl) (fun _ _ _ _ _ _ _ hr' => (pe_call (O_gone_along T) (hr'.mono (by decide)) (by rfl) T.m_gone_along T.F_gone_along.kp hb4g .nil (pX (takes_of rfl rfl rfl rfl) (fun _ _ _ _ h => h)) (pa_cons (pv 6) (pa_cons (pv 7) (pa_cons (pv 5) (pa_cons (pv 5) pa_nil))))))) (pa_cons (pe_heardD (k := 9) (ps := ["a1"]) (ns := [0]) T rfl rfl (by rfl) TB hcode hmT hu (hr.mono (by decide)) (lamP_by (N := n_law) (sc := defScope s_law) (by decide +kernel)) rfl (by decide) (by decide) (defV_one rfl rfl) (fun _ _ _ _ _ _ _ => ⟨_, rfl, fun dv h => by match dv, h with | [x], _ => rfl⟩) (fun _ _ _ _ _ _ _ hr' => (pe_call (O_gone_along T) (hr'.mono (by decide)) (by rfl) T.m_gone_along T.F_gone_along.kp hb4g .nil (pX (takes_of rfl rfl rfl rfl) (fun _ _ _ _ h => h)) (pa_cons (pv 9) (pa_cons (pv 7) (pa_cons (pv 5) (pa_cons (pv 5) pa_nil))))))) pa_nil)))))
      HT), ?_⟩
  refine ⟨_, rfl, a.tn.tb, fun Hn5 eN T1 N hN => ?_⟩
  have b := a.go eN T1 (Same.refl _)
  have y : ExtNc c _ _ := .tab eN
  replace hd := hd.nc y
  obtain ⟨bd, hb, eb⟩ := b.dr.b
  refine ⟨_, rfl, _, rfl, _, rfl, _, rfl, vb, vh, vo, vo, rfl, .inl ⟨c, bd, hb, eb, fun dd H' hdd s1 hx => ⟨T.c_BadMove, dd, 1, "move", "move", rfl, rfl, rfl, rfl, T.xf_BadMove, T.no_BadMove_part, T.xm_BadMove_FieldError, hx, fun t5 G5 s2 htt => ?_⟩⟩⟩
  replace a := b.go (extN_refl _) T1 (s1.trans s2)
  have y2 : ExtNc c _ _ := .of (s1.trans s2)
  replace hd := hd.nc y2
  obtain ⟨ys, hcc⟩ := bag_at a.tn.bag
  have d5 : DV K c G5 (.ref t5) (toldD "move" "move") := told_dv hcc htt
  clear hcc htt y2 y b hx hdd s1 s2 eN T1 hN
  refine ⟨a.tn.tb, fun Hn6 eN T1 N hN => ?_⟩
  have b := a.go eN T1 (Same.refl _)
  have y : ExtNc c _ _ := .tab eN
  replace d5 := dv_n y _ _ d5
  replace hd := hd.nc y
  obtain ⟨wd, hh, eh⟩ := b.dr.h
  refine ⟨_, rfl, _, rfl, _, rfl, _, rfl, .ref m, vh, vo, vo, rfl, .inr ⟨m, (mx, 0), (0, my), rfl, b.mv, .inl ⟨c, wd, hh, eh, fun dd H' hdd s1 hx => ⟨T.c_BadWords, dd, 2, "words", "how", rfl, rfl, rfl, rfl, T.xf_BadWords, T.no_BadWords_part, T.xm_BadWords_FieldError, hx, fun t6 G6 s2 htt => ?_⟩⟩⟩⟩
  replace a := b.go (extN_refl _) T1 (s1.trans s2)
  have y2 : ExtNc c _ _ := .of (s1.trans s2)
  replace d5 := dv_n y2 _ _ d5
  replace hd := hd.nc y2
  obtain ⟨ys, hcc⟩ := bag_at a.tn.bag
  have d6 : DV K c G6 (.ref t6) (toldD "words" "how") := told_dv hcc htt
  clear hcc htt y2 y b hx hdd s1 s2 eN T1 hN
  refine ⟨szl rfl, fun hk hhk => ?_⟩
  have sk := same_new hhk (o := .lst [.ref t5, .ref t6])
  replace d5 := dv_n (.of sk) _ _ d5
  replace d6 := dv_n (.of sk) _ _ d6
  replace hd := hd.nc (.of sk)
  replace a := a.go (extN_refl _) a.tn.tb sk
  have gk : upd G6 hk (.lst [.ref t5, .ref t6]) hk = some (.lst [.ref t5, .ref t6]) := upd_same
  generalize upd G6 hk (.lst [V.ref t5, V.ref t6]) = G at gk a hd d5 d6 ⊢
  obtain ⟨vs, hv, dv, nc⟩ := hd
  have lv : vs.length = 5 := dv.len
  refine ⟨hl, hk, vs, _, rfl, rfl, hv, gk, by rw [lv]; exact szl rfl, fun q hq => ?_⟩
  have sq := same_new hq (o := .lst (vs ++ [.ref t5, .ref t6]))
  have all := DVs.append dv (show DVs K c G [.ref t5, .ref t6] [toldD "move" "move", toldD "words" "how"] from (.cons d5 (.cons d6 .nil)))
  exact go q _ (a.go (extN_refl _) a.tn.tb sq) ⟨_, upd_same, dvs_n (.of sq) _ _ all, a.at_ hq⟩
theorem lwH (T : Tx K mg w) {cdv : Value} {A : Around} {outer : List Env} {s : Shared} {H0 : Hp} {E : XK} {D : Ends} {rest : TS} {TT : List (Addr × Str)} {c l : Addr} {n : Nat} {p g : Addr} {z : PosD} {vn vo vb vh : V} {sw : Str} {m mb : Addr} {mx my : Int} {hl : Addr} {x0 x3 x11 x12 x13 x14 x15 : Option V} {H : Hp}
    (hr : Room 13 (A.deeper (envOfC "law" (defScope s_law) s.heap.objs.size T.a_law cdv))) (hg : (A.deeper (envOfC "law" (defScope s_law) s.heap.objs.size T.a_law cdv)).guards = some [])
    {cc PL : Addr} (TB : TabB base mg cc PL) (hcode : cdv = .ref cc) (hmT : (PL, lamQ) ∈ TT) (hu : ∀ p ∈ TT, p.1 = PL → p.2 = lamQ)
    (HT : PSs (XL P w K mg base T.a_law cdv A outer s H0 E) ((turnB (defBody s_law)).drop 8) rest) (a : Al T TT c l n p g z vn vo vb vh sw m mb mx my H) (hd : Hd K c l mb H hl [toldD "position" "position", toldD "position" "position", toldD "position" "position", toldD "number" "across", toldD "number" "up", toldD "move" "move", toldD "words" "how"])
    (go : ∀ hk H', Al T TT c l n p g z vn vo vb vh sw m mb mx my H' → Hd K c l mb H' hk [toldD "position" "position", toldD "position" "position", toldD "position" "position", toldD "number" "across", toldD "number" "up", toldD "move" "move", toldD "words" "how", toldD "number" "across", toldD "number" "up"] → rest D [x0, some (.ref c), some (.ref p), x3, some vn, some vo, some vb, some vh, some (.str sw), some (.ref m), some (.ref hk), x11, x12, x13, x14, x15] H') :
    ∃ t, PSs (XL P w K mg base T.a_law cdv A outer s H0 E) ((turnB (defBody s_law)).drop 7) t ∧ t D [x0, some (.ref c), some (.ref p), x3, some vn, some vo, some vb, some vh, some (.str sw), some (.ref m), some (.ref hl), x11, x12, x13, x14, x15] H := by
  obtain ⟨d2g, rb2g, hb2g⟩ := b2_gone T
  have hb4g := b4_gone T
  refine ⟨_, (pss_cons (ps_set (i := 10) sc_law.nd rfl (Or.inl rfl) (pe_op op_cat (pv 10) (pe_lst (pa_cons (pe_heard (k := 9) T rfl rfl (by rfl) TB hcode hmT hu (hr.mono (by decide)) (LamX.lamS_by (sc := defScope s_law) (by decide +kernel)) rfl (fun _ _ _ _ _ => rfl) (fun _ _ _ _ _ _ _ hr' => (pe_call (O_gone_along T) (hr'.mono (by decide)) (by rfl) T.m_gone_along T.F_gone_along.kp hb4g .nil (pX (takes_of rfl rfl rfl rfl) (fun _ _ _ _ h => h)) (pa_cons (pv 9) (pa_cons (pv 8) (pa_cons (pv 5) (pa_cons (pv 5) pa_nil))))))) (pa_cons (pe_heardD (k := 9) (ps := ["a1"]) (ns := [0]) T rfl rfl (by rfl) TB hcode hmT hu (hr.mono (by decide)) (lamP_by (N := n_law) (sc := defScope s_law) (by decide +kernel)) rfl (by decide) (by decide) (defV_one rfl rfl) (fun _ _ _ _ _ _ _ => ⟨_, rfl, fun dv h => by match dv, h with | [x], _ => rfl⟩) (fun _ _ _ _ _ _ _ hr' => (pe_call (O_gone_along T) (hr'.mono (by decide)) (by rfl) T.m_gone_along T.F_gone_along.kp hb4g .nil (pX (takes_of rfl rfl rfl rfl) (fun _ _ _ _ h => h)) (pa_cons (pv 9) (pa_cons (pv 8) (pa_cons pe_int (pa_cons (pv 5) pa_nil))))))) pa_nil)))))
      HT), ?_⟩
  refine ⟨_, rfl, a.tn.tb, fun Hn7 eN T1 N hN => ?_⟩
  have b := a.go eN T1 (Same.refl _)
  have y : ExtNc c _ _ := .tab eN
  replace hd := hd.nc y
  obtain ⟨od, ho, eo⟩ := b.dr.o
  refine ⟨_, rfl, _, rfl, _, rfl, _, rfl, .ref m, .str sw, vo, vo, rfl, .inr ⟨m, (mx, 0), (0, my), rfl, b.mv, .inr ⟨sw, rfl, b.dr.w, .inl ⟨c, od, od, ho, ho, eo, fun dd H' hdd s1 hx => ⟨T.c_BadNumber, dd, 3, "number", "across", rfl, rfl, rfl, rfl, T.xf_BadNumber, T.no_BadNumber_part, T.xm_BadNumber_FieldError, hx, fun t7 G7 s2 htt => ?_⟩⟩⟩⟩⟩
  replace a := b.go (extN_refl _) T1 (s1.trans s2)
  have y2 : ExtNc c _ _ := .of (s1.trans s2)
  replace hd := hd.nc y2
  obtain ⟨ys, hcc⟩ := bag_at a.tn.bag
  have d7 : DV K c G7 (.ref t7) (toldD "number" "across") := told_dv hcc htt
  clear hcc htt y2 y b hx hdd s1 s2 eN T1 hN
  refine ⟨a.tn.tb, fun Hn8 eN T1 N hN => ?_⟩
  have b := a.go eN T1 (Same.refl _)
  have y : ExtNc c _ _ := .tab eN
  replace d7 := dv_n y _ _ d7
  replace hd := hd.nc y
  obtain ⟨od, ho, eo⟩ := b.dr.o
  refine ⟨_, rfl, _, rfl, _, rfl, .ref m, .str sw, .int 3, vo, rfl, .inr ⟨m, (mx, 0), (0, my), rfl, b.mv, .inr ⟨sw, rfl, b.dr.w, .inr ⟨3, rfl, .inl ⟨c, od, ho, eo, fun dd H' hdd s1 hx => ⟨T.c_BadNumber, dd, 3, "number", "up", rfl, rfl, rfl, rfl, T.xf_BadNumber, T.no_BadNumber_part, T.xm_BadNumber_FieldError, hx, fun t8 G8 s2 htt => ?_⟩⟩⟩⟩⟩⟩
  replace a := b.go (extN_refl _) T1 (s1.trans s2)
  have y2 : ExtNc c _ _ := .of (s1.trans s2)
  replace d7 := dv_n y2 _ _ d7
  replace hd := hd.nc y2
  obtain ⟨ys, hcc⟩ := bag_at a.tn.bag
  have d8 : DV K c G8 (.ref t8) (toldD "number" "up") := told_dv hcc htt
  clear hcc htt y2 y b hx hdd s1 s2 eN T1 hN
  refine ⟨szl rfl, fun hk hhk => ?_⟩
  have sk := same_new hhk (o := .lst [.ref t7, .ref t8])
  replace d7 := dv_n (.of sk) _ _ d7
  replace d8 := dv_n (.of sk) _ _ d8
  replace hd := hd.nc (.of sk)
  replace a := a.go (extN_refl _) a.tn.tb sk
  have gk : upd G8 hk (.lst [.ref t7, .ref t8]) hk = some (.lst [.ref t7, .ref t8]) := upd_same
  generalize upd G8 hk (.lst [V.ref t7, V.ref t8]) = G at gk a hd d7 d8 ⊢
  obtain ⟨vs, hv, dv, nc⟩ := hd
  have lv : vs.length = 7 := dv.len
  refine ⟨hl, hk, vs, _, rfl, rfl, hv, gk, by rw [lv]; exact szl rfl, fun q hq => ?_⟩
  have sq := same_new hq (o := .lst (vs ++ [.ref t7, .ref t8]))
  have all := DVs.append dv (show DVs K c G [.ref t7, .ref t8] [toldD "number" "across", toldD "number" "up"] from (.cons d7 (.cons d8 .nil)))
  exact go q _ (a.go (extN_refl _) a.tn.tb sq) ⟨_, upd_same, dvs_n (.of sq) _ _ all, a.at_ hq⟩
theorem lwI (T : Tx K mg w) {cdv : Value} {A : Around} {outer : List Env} {s : Shared} {H0 : Hp} {E : XK} {D : Ends} {rest : TS} {TT : List (Addr × Str)} {c l : Addr} {n : Nat} {p g : Addr} {z : PosD} {vn vo vb vh : V} {sw : Str} {m mb : Addr} {mx my : Int} {hl : Addr} {x0 x3 x11 x12 x13 x14 x15 : Option V} {H : Hp}
    (hr : Room 13 (A.deeper (envOfC "law" (defScope s_law) s.heap.objs.size T.a_law cdv))) (hg : (A.deeper (envOfC "law" (defScope s_law) s.heap.objs.size T.a_law cdv)).guards = some [])
    {cc PL : Addr} (TB : TabB base mg cc PL) (hcode : cdv = .ref cc) (hmT : (PL, lamQ) ∈ TT) (hu : ∀ p ∈ TT, p.1 = PL → p.2 = lamQ)
    (HT : PSs (XL P w K mg base T.a_law cdv A outer s H0 E) ((turnB (defBody s_law)).drop 9) rest) (a : Al T TT c l n p g z vn vo vb vh sw m mb mx my H) (hd : Hd K c l mb H hl [toldD "position" "position", toldD "position" "position", toldD "position" "position", toldD "number" "across", toldD "number" "up", toldD "move" "move", toldD "words" "how", toldD "number" "across", toldD "number" "up"])
    (go : ∀ hk H', Fn T TT c l n p g z sw m mb mx my H' → Hd K c l mb H' hk [toldD "position" "position", toldD "position" "position", toldD "position" "position", toldD "number" "across", toldD "number" "up", toldD "move" "move", toldD "words" "how", toldD "number" "across", toldD "number" "up", .none] → rest D [x0, some (.ref c), some (.ref p), x3, some vn, some vo, some vb, some vh, some (.str sw), some (.ref m), some (.ref hk), x11, x12, x13, x14, x15] H') :
    ∃ t, PSs (XL P w K mg base T.a_law cdv A outer s H0 E) ((turnB (defBody s_law)).drop 8) t ∧ t D [x0, some (.ref c), some (.ref p), x3, some vn, some vo, some vb, some vh, some (.str sw), some (.ref m), some (.ref hl), x11, x12, x13, x14, x15] H := by
  obtain ⟨d2g, rb2g, hb2g⟩ := b2_gone T
  have hb4g := b4_gone T
  refine ⟨_, (pss_cons (ps_expr (pe_bm PySem.F.plainAttrs_list PySem.F.slot_list_append PySem.F.type_list_append mt_append (pv 10) (pa_cons (pe_heard (k := 9) T rfl rfl (by rfl) TB hcode hmT hu (hr.mono (by decide)) (LamX.lamS_by (sc := defScope s_law) (by decide +kernel)) rfl (fun _ _ _ _ _ => rfl) (fun _ _ _ _ _ _ _ hr' => (pe_call (O_gone_along T) (hr'.mono (by decide)) (by rfl) T.m_gone_along T.F_gone_along.kp hb2g rb2g (pX (takes_of rfl rfl rfl rfl) (fun _ _ _ _ h => h)) (pa_cons (pv 9) (pa_cons (pv 8) pa_nil))))) pa_nil)))
      HT), ?_⟩
  obtain ⟨vs0, hv0, _, _⟩ := id hd
  refine ⟨_, rfl, .inl ⟨rfl, _, .of hv0⟩, a.tn.tb, fun Hn eN T1 N hN => ?_⟩
  have b := a.go eN T1 (Same.refl _)
  have hb := hd.nc (.tab eN)
  refine ⟨_, rfl, _, rfl, .ref m, .str sw, .int 0, .int 0, rfl, .inr ⟨m, (mx, 0), (0, my), rfl, b.mv, .inr ⟨sw, rfl, b.dr.w, .inr ⟨0, rfl, .inr ⟨0, rfl, fun H1 r s1 nm => hN _ _ fun H2 s2 => ?_⟩⟩⟩⟩⟩
  replace b := b.go (extN_refl _) T1 (s1.trans s2)
  replace hb := hb.nc (.of (s1.trans s2))
  obtain ⟨vs, hv, dv, nc⟩ := hb
  have lv : vs.length = 9 := dv.len
  refine ⟨hl, _, _, rfl, rfl, hv, szs (by omega), ?_⟩
  have x : Gs.Ext hl H2 (upd H2 hl (.lst (vs ++ [.non]))) := Ext.bag
  obtain ⟨ma, g1, g2, g3, g4⟩ := b.dr.m
  refine go hl _ ⟨⟨b.tn.bag.put nc.1 nc.2.1, tabs_lst hv x b.tn.tb, nc_pos hv (.ofX x) b.tn.pos, b.tn.ps⟩, b.dr.w, ⟨ma, lst_tup hv g1, lst_tup hv g2, ?_, g4⟩, b.dr.x⟩ ⟨_, upd_same, DVs.append (dvs_told hv _ _ ?_ dv) (.cons .non .nil), nc⟩
  · rw [upd_ne (Ne.symm nc.2.2)]; exact g3
  · intro d hd
    simp only [List.mem_cons, List.not_mem_nil, or_false] at hd
    rcases hd with rfl | rfl | rfl | rfl | rfl | rfl | rfl | rfl | rfl <;> exact ⟨_, _, rfl⟩
end
end K57

set_option Elab.async false
set_option linter.all false
set_option maxRecDepth 100000
set_option maxHeartbeats 8000000
namespace K57
open PySem PySem.Spec PyProof.Rows L2 Gs
open LamX (Tabs TabB TabS CodeO ExtN)
section
variable {P : Program} {w : World} {K : PySem.W.Frag} {mg : Str → Option Value} {base : Heap}
theorem Fn.same {T : Tx K mg w} {TT : List (Addr × Str)} {c l : Addr} {n : Nat} {p g : Addr} {z : PosD} {sw : Str} {m mb : Addr} {mx my : Int} {H H' : Hp} (t : Fn T TT c l n p g z sw m mb mx my H) (s : Same H H') : Fn T TT c l n p g z sw m mb mx my H' := by
  obtain ⟨a, h1, h2, h3, h4⟩ := t.m
  exact ⟨t.tn.same s, t.w, ⟨a, s _ _ h1, s _ _ h2, s _ _ h3, h4⟩, t.x⟩
theorem dp_told {c : Addr} {H : Hp} : ∀ (ds : List PyData) (vs : List V), (∀ d ∈ ds, Told2 d ∨ d = .none) → DVs K c H vs ds → DpAll K H vs ds
  | [], _, _, h => by cases h; exact .nil
  | d :: ds, _, hd, h => by
    cases h with
    | cons a b =>
      refine .cons ?_ (dp_told ds _ (fun e he => hd e (List.mem_cons_of_mem _ he)) b)
      rcases hd _ List.mem_cons_self with ⟨s1, s2, rfl⟩ | rfl
      · cases a with
        | tup n hs hv =>
          refine .tup hs ?_
          cases hv with
          | cons a1 hv =>
            cases hv with
            | cons a2 hv =>
              cases hv
              cases a1
              cases a2
              exact .cons (.str _) (.cons (.str _) .nil)
      · cases a; exact .non
/-- what was due-/
theorem lwJ (T : Tx K mg w) {cdv : Value} {A : Around} {outer : List Env} {s : Shared} {H0 : Hp} {E : XK} {D : Ends} {rest : TS} {TT : List (Addr × Str)} {c l : Addr} {n : Nat} {p g : Addr} {z : PosD} {sw : Str} {m mb : Addr} {mx my : Int} {hl : Addr} {x0 x3 x4 x5 x6 x7 x11 x12 x13 x14 x15 : Option V} {H : Hp}
    (hr : Room 13 (A.deeper (envOfC "law" (defScope s_law) s.heap.objs.size T.a_law cdv))) (hg : (A.deeper (envOfC "law" (defScope s_law) s.heap.objs.size T.a_law cdv)).guards = some [])
    (HT : PSs (XL P w K mg base T.a_law cdv A outer s H0 E) ((turnB (defBody s_law)).drop 11) rest) (t : Fn T TT c l n p g z sw m mb mx my H) (hd : Hd K c l mb H hl [toldD "position" "position", toldD "position" "position", toldD "position" "position", toldD "number" "across", toldD "number" "up", toldD "move" "move", toldD "words" "how", toldD "number" "across", toldD "number" "up", .none])
    (go : ∀ dl H', Fn T TT c l n p g z sw m mb mx my H' → rest D [x0, some (.ref c), some (.ref p), x3, x4, x5, x6, x7, some (.str sw), some (.ref m), some (.ref hl), some (.ref dl), x12, x13, x14, x15] H') :
    ∃ t, PSs (XL P w K mg base T.a_law cdv A outer s H0 E) ((turnB (defBody s_law)).drop 9) t ∧ t D [x0, some (.ref c), some (.ref p), x3, x4, x5, x6, x7, some (.str sw), some (.ref m), some (.ref hl), x11, x12, x13, x14, x15] H := by
  refine ⟨_, (pss_cons (ps_set (i := 11) sc_law.nd rfl (Or.inl rfl) (pe_op op_cat (pe_op op_rep (pe_lst (pa_cons (pe_tup (pa_cons pe_str (pa_cons pe_str pa_nil))) pa_nil)) pe_int) (pe_lst (pa_cons (pe_tup (pa_cons pe_str (pa_cons pe_str pa_nil))) (pa_cons (pe_tup (pa_cons pe_str (pa_cons pe_str pa_nil))) (pa_cons (pe_tup (pa_cons pe_str (pa_cons pe_str pa_nil))) (pa_cons (pe_tup (pa_cons pe_str (pa_cons pe_str pa_nil))) (pa_cons (pe_tup (pa_cons pe_str (pa_cons pe_str pa_nil))) (pa_cons (pe_tup (pa_cons pe_str (pa_cons pe_str pa_nil))) (pa_cons pe_non pa_nil))))))))))
      (pss_cons (ps_if (pt_cmpR (op_neD hr.units) (pv 10) (pv 11) (nomark _)) (pss_one (ps_ret pe_bl)) pss_nil)
      HT)), ?_⟩
  refine ⟨szl rfl, fun a1 ha1 => ?_⟩
  obtain ⟨da1, xa1⟩ : DV K c (upd H a1 (.tup [.str "position", .str "position"])) (.ref a1) (.tuple [.str "position", .str "position"]) ∧ Gs.Ext c H (upd H a1 (.tup [.str "position", .str "position"])) := new_tup ha1 (t.tn.bag.ne ha1) (.cons (.str _) (.cons (.str _) .nil))
  have sa := same_new ha1 (o := .tup [.str "position", .str "position"])
  generalize ea1 : upd H a1 _ = H_a1 at da1 sa ⊢
  clear ea1 xa1 ha1
  refine ⟨szl rfl, fun l1 hl1 => ?_⟩
  have sl := same_new hl1 (o := .lst [.ref a1])
  have gl : upd H_a1 l1 (.lst [.ref a1]) l1 = some (.lst [.ref a1]) := upd_same
  have da := dv_n (.of sl) _ _ da1
  have s1 := sa.trans sl
  generalize upd H_a1 l1 (.lst [V.ref a1]) = H1 at gl da s1 ⊢
  refine ⟨l1, 3, _, rfl, rfl, gl, by decide, by decide, szl rfl, fun r hrn => ?_⟩
  have sr := same_new hrn (o := .lst [.ref a1, .ref a1, .ref a1])
  have gr : upd H1 r (.lst [.ref a1, .ref a1, .ref a1]) r = some (.lst [.ref a1, .ref a1, .ref a1]) := upd_same
  replace da := dv_n (.of sr) _ _ da
  replace s1 := s1.trans sr
  change tLst _ _ (upd H1 r (.lst [.ref a1, .ref a1, .ref a1])) _
  generalize upd H1 r (.lst [V.ref a1, V.ref a1, V.ref a1]) = Hr at gr da s1 ⊢
  have t2 := t.same s1
  replace hd := hd.nc (.of s1)
  refine ⟨szl rfl, fun b1 hb1 => ?_⟩
  obtain ⟨db1, xb1⟩ : DV K c (upd Hr b1 (.tup [.str "number", .str "across"])) (.ref b1) (.tuple [.str "number", .str "across"]) ∧ Gs.Ext c Hr (upd Hr b1 (.tup [.str "number", .str "across"])) := new_tup hb1 (t2.tn.bag.ne hb1) (.cons (.str _) (.cons (.str _) .nil))
  have sb := same_new hb1 (o := .tup [.str "number", .str "across"])
  generalize eb1 : upd Hr b1 _ = Hr_b1 at db1 sb ⊢
  clear eb1 xb1 hb1
  refine ⟨szl rfl, fun b2 hb2 => ?_⟩
  obtain ⟨db2, xb2⟩ : DV K c (upd Hr_b1 b2 (.tup [.str "number", .str "up"])) (.ref b2) (.tuple [.str "number", .str "up"]) ∧ Gs.Ext c Hr_b1 (upd Hr_b1 b2 (.tup [.str "number", .str "up"])) := new_tup hb2 ((t2.tn.bag.same sb).ne hb2) (.cons (.str _) (.cons (.str _) .nil))
  replace db1 := db1.up xb2
  replace sb := sb.trans (same_new hb2 (o := .tup [.str "number", .str "up"]))
  generalize eb2 : upd Hr_b1 b2 _ = Hr_b2 at db2 sb db1 ⊢
  clear eb2 xb2 hb2
  refine ⟨szl rfl, fun b3 hb3 => ?_⟩
  obtain ⟨db3, xb3⟩ : DV K c (upd Hr_b2 b3 (.tup [.str "move", .str "move"])) (.ref b3) (.tuple [.str "move", .str "move"]) ∧ Gs.Ext c Hr_b2 (upd Hr_b2 b3 (.tup [.str "move", .str "move"])) := new_tup hb3 ((t2.tn.bag.same sb).ne hb3) (.cons (.str _) (.cons (.str _) .nil))
  replace db1 := db1.up xb3
  replace db2 := db2.up xb3
  replace sb := sb.trans (same_new hb3 (o := .tup [.str "move", .str "move"]))
  generalize eb3 : upd Hr_b2 b3 _ = Hr_b3 at db3 sb db1 db2 ⊢
  clear eb3 xb3 hb3
  refine ⟨szl rfl, fun b4 hb4 => ?_⟩
  obtain ⟨db4, xb4⟩ : DV K c (upd Hr_b3 b4 (.tup [.str "words", .str "how"])) (.ref b4) (.tuple [.str "words", .str "how"]) ∧ Gs.Ext c Hr_b3 (upd Hr_b3 b4 (.tup [.str "words", .str "how"])) := new_tup hb4 ((t2.tn.bag.same sb).ne hb4) (.cons (.str _) (.cons (.str _) .nil))
  replace db1 := db1.up xb4
  replace db2 := db2.up xb4
  replace db3 := db3.up xb4
  replace sb := sb.trans (same_new hb4 (o := .tup [.str "words", .str "how"]))
  generalize eb4 : upd Hr_b3 b4 _ = Hr_b4 at db4 sb db1 db2 db3 ⊢
  clear eb4 xb4 hb4
  refine ⟨szl rfl, fun b5 hb5 => ?_⟩
  obtain ⟨db5, xb5⟩ : DV K c (upd Hr_b4 b5 (.tup [.str "number", .str "across"])) (.ref b5) (.tuple [.str "number", .str "across"]) ∧ Gs.Ext c Hr_b4 (upd Hr_b4 b5 (.tup [.str "number", .str "across"])) := new_tup hb5 ((t2.tn.bag.same sb).ne hb5) (.cons (.str _) (.cons (.str _) .nil))
  replace db1 := db1.up xb5
  replace db2 := db2.up xb5
  replace db3 := db3.up xb5
  replace db4 := db4.up xb5
  replace sb := sb.trans (same_new hb5 (o := .tup [.str "number", .str "across"]))
  generalize eb5 : upd Hr_b4 b5 _ = Hr_b5 at db5 sb db1 db2 db3 db4 ⊢
  clear eb5 xb5 hb5
  refine ⟨szl rfl, fun b6 hb6 => ?_⟩
  obtain ⟨db6, xb6⟩ : DV K c (upd Hr_b5 b6 (.tup [.str "number", .str "up"])) (.ref b6) (.tuple [.str "number", .str "up"]) ∧ Gs.Ext c Hr_b5 (upd Hr_b5 b6 (.tup [.str "number", .str "up"])) := new_tup hb6 ((t2.tn.bag.same sb).ne hb6) (.cons (.str _) (.cons (.str _) .nil))
  replace db1 := db1.up xb6
  replace db2 := db2.up xb6
  replace db3 := db3.up xb6
  replace db4 := db4.up xb6
  replace db5 := db5.up xb6
  replace sb := sb.trans (same_new hb6 (o := .tup [.str "number", .str "up"]))
  generalize eb6 : upd Hr_b5 b6 _ = Hr_b6 at db6 sb db1 db2 db3 db4 db5 ⊢
  clear eb6 xb6 hb6
  refine ⟨szl rfl, fun q hq => ?_⟩
  have sq := same_new hq (o := .lst [.ref b1, .ref b2, .ref b3, .ref b4, .ref b5, .ref b6, .non])
  have gq : upd Hr_b6 q (.lst [.ref b1, .ref b2, .ref b3, .ref b4, .ref b5, .ref b6, .non]) q = some (.lst [.ref b1, .ref b2, .ref b3, .ref b4, .ref b5, .ref b6, .non]) := upd_same
  have gr2 := sq _ _ (sb _ _ gr)
  have all : DVs K c Hr_b6 [.ref a1, .ref a1, .ref a1, .ref b1, .ref b2, .ref b3, .ref b4, .ref b5, .ref b6, .non] [toldD "position" "position", toldD "position" "position", toldD "position" "position", toldD "number" "across", toldD "number" "up", toldD "move" "move", toldD "words" "how", toldD "number" "across", toldD "number" "up", .none] := by
    have da := dv_n (.of sb) _ _ da
    exact .cons da (.cons da (.cons da (.cons db1 (.cons db2 (.cons db3 (.cons db4 (.cons db5 (.cons db6 (.cons .non .nil)))))))))
  refine ⟨r, q, _, _, rfl, rfl, gr2, gq, szl rfl, fun e he => ?_⟩
  have se := same_new he (o := .lst ([.ref a1, .ref a1, .ref a1] ++ [.ref b1, .ref b2, .ref b3, .ref b4, .ref b5, .ref b6, .non]))
  have s3 := sb.trans (sq.trans se)
  have dueL := dvs_n (.of (sq.trans se)) _ _ all
  have ge : upd (upd Hr_b6 q (.lst [.ref b1, .ref b2, .ref b3, .ref b4, .ref b5, .ref b6, .non])) e (.lst ([.ref a1, .ref a1, .ref a1] ++ [.ref b1, .ref b2, .ref b3, .ref b4, .ref b5, .ref b6, .non])) e = some (.lst [.ref a1, .ref a1, .ref a1, .ref b1, .ref b2, .ref b3, .ref b4, .ref b5, .ref b6, .non]) := upd_same
  have t3 := t2.same s3
  have hd3 := hd.nc (.of s3)
  dsimp only [gName]
  generalize upd (upd Hr_b6 q _) e _ = H5 at ge dueL t3 hd3 ⊢
  obtain ⟨vs, hv, dv, _⟩ := hd3
  have tl : ∀ d ∈ ([toldD "position" "position", toldD "position" "position", toldD "position" "position", toldD "number" "across", toldD "number" "up", toldD "move" "move", toldD "words" "how", toldD "number" "across", toldD "number" "up", .none] : List PyData), Told2 d ∨ d = .none := fun d hd => by
    simp only [List.mem_cons, List.not_mem_nil, or_false] at hd
    rcases hd with rfl | rfl | rfl | rfl | rfl | rfl | rfl | rfl | rfl | rfl
    all_goals first | exact .inl ⟨_, _, rfl⟩ | exact .inr rfl
  have sh : SeqAt.shaped (.list [toldD "position" "position", toldD "position" "position", toldD "position" "position", toldD "number" "across", toldD "number" "up", toldD "move" "move", toldD "words" "how", toldD "number" "across", toldD "number" "up", .none]) = true := by decide +kernel
  refine ⟨_, rfl, _, rfl, _, _, .lst (.of hv) (dp_told _ _ tl dv), .lst (.of ge) (dp_told _ _ tl dueL), sh, sh, _, rfl, ?_⟩
  have eq : PyData.eqv (.list [toldD "position" "position", toldD "position" "position", toldD "position" "position", toldD "number" "across", toldD "number" "up", toldD "move" "move", toldD "words" "how", toldD "number" "across", toldD "number" "up", .none]) (.list [toldD "position" "position", toldD "position" "position", toldD "position" "position", toldD "number" "across", toldD "number" "up", toldD "move" "move", toldD "words" "how", toldD "number" "across", toldD "number" "up", .none]) = true := by decide +kernel
  rw [eq]
  exact iteF (go e H5 t3)
end
end K57

set_option Elab.async false
set_option linter.all false
set_option maxRecDepth 100000
set_option maxHeartbeats 8000000
namespace K57
open PySem PySem.Spec PyProof.Rows L2 Gs
open LamX (Tabs TabB TabS CodeO ExtN)
section
variable {P : Program} {w : World} {K : PySem.W.Frag} {mg : Str → Option Value} {base : Heap}
abbrev TuL (H : Hp) (x : Addr) (q : Int × Int) : Prop := H x = some (.tup (sqV q)) ∨ H x = some (.lst (sqV q))
theorem TuL.seq {H : Hp} {x : Addr} {q : Int × Int} (h : TuL H x q) : SqL K H x (sqV q) ∨ SqT K H x (sqV q) := h.elim (fun h => .inr (.of h)) fun h => .inl (.of h)
theorem TuL.same {H H' : Hp} {x : Addr} {q : Int × Int} (h : TuL H x q) (s : Same H H') : TuL H' x q := h.imp (s _ _) (s _ _)
/-- a list out of a move's two squares -/
theorem lc_mv {σ : L2.St} {H1 : Hp} {D m a b : Addr} {p q : Int × Int} {g : TG} {te : TE} {vs : List Nat} {Qd : Hp → Prop} (f : Int × Int → Int × Int)
    (hm : H1 m = some (.tup [.ref a, .ref b])) (ha : TuL H1 a p) (hb : TuL H1 b q) (hD : H1 D = none)
    (step : ∀ (x : Addr) (q : Int × Int) (H : Hp) (Z : V → Hp → Prop) (Y : Hp → Prop), TuL H x q → (∀ r H', Same H H' → H' r = some (.tup (sqV (f q))) → Z (.ref r) H') →
      g (.ref x) (wipe σ vs) H fun σ2 H2 => wipe σ2 vs = wipe σ vs ∧ tYes σ2 H2 fun b H3 => if b = true then te σ2 H3 Z else Y H3)
    (hd : ∀ H' r1 r2, Same H1 H' → H' D = some (.lst [.ref r1, .ref r2]) → H' r1 = some (.tup (sqV (f p))) → H' r2 = some (.tup (sqV (f q))) → Qd H') :
    ∃ W : Nat → Nat → Hp → Prop, (∃ m, W 0 m (upd H1 D (.lst []))) ∧ ∀ i k H, W i k H →
      ((Itt K m).stop i H ∧ Qd H) ∨ ((Itt K m).go i H ∧ ∃ Nx : Hp → Prop, (∀ H', Nx H' → ∃ m', m' < k ∧ W (i + 1) m' H') ∧ ∀ x H', (Itt K m).yld i H x H' → g x (wipe σ vs) H' fun σ2 H2 => wipe σ2 vs = wipe σ vs ∧ tYes σ2 H2 fun b H3 =>
        if b = true then te σ2 H3 fun y H4 => ∃ acc, H4 D = some (.lst acc) ∧ acc.length < sizeLine ∧ Nx (upd H4 D (.lst (acc ++ [y]))) else Nx H3) := by
  refine lc_it (walk_tup (K := K) (a := m) (xs := [.ref a, .ref b])) (fun i H' => Same H1 H' ∧ ((i = 0 ∧ H' D = some (.lst [])) ∨ (i = 1 ∧ ∃ r1, H' D = some (.lst [.ref r1]) ∧ H' r1 = some (.tup (sqV (f p)))) ∨
    (i = 2 ∧ ∃ r1 r2, H' D = some (.lst [.ref r1, .ref r2]) ∧ H' r1 = some (.tup (sqV (f p))) ∧ H' r2 = some (.tup (sqV (f q)))))) ⟨same_new hD, .inl ⟨rfl, upd_same⟩⟩ (fun i H' _ h => .of (h.1 _ _ hm)) ?_ ?_
  · rintro i x H2 H3 hi ⟨s2, h⟩ ⟨rfl, hx⟩
    rcases h with ⟨rfl, hD2⟩ | ⟨rfl, r1, hD2, g1⟩ | ⟨rfl, _⟩
    · cases hx
      refine step a p _ _ _ (ha.same s2) fun r H4 s4 gr => ⟨_, s4 _ _ hD2, szl rfl, same_own (s2.trans s4) hD, .inr (.inl ⟨rfl, r, upd_same, ?_⟩)⟩
      rw [upd_ne (fun z => by rw [z, s4 _ _ hD2] at gr; cases gr)]; exact gr
    · cases hx
      refine step b q _ _ _ (hb.same s2) fun r H4 s4 gr => ⟨_, s4 _ _ hD2, szl rfl, same_own (s2.trans s4) hD, .inr (.inr ⟨rfl, r1, r, upd_same, ?_, ?_⟩)⟩
      · rw [upd_ne (fun z => by rw [z, hD2] at g1; cases g1)]; exact s4 _ _ g1
      · rw [upd_ne (fun z => by rw [z, s4 _ _ hD2] at gr; cases gr)]; exact gr
    · exact absurd hi (by simp)
  · rintro H2 ⟨s2, h⟩
    rcases h with ⟨e, _⟩ | ⟨e, _⟩ | ⟨_, r1, r2, h1, h2, h3⟩
    · cases e
    · cases e
    · exact hd H2 r1 r2 s2 h1 h2 h3
/-- what goes along, by own going -/
theorem lwK (T : Tx K mg w) {cdv : Value} {A : Around} {outer : List Env} {s : Shared} {H0 : Hp} {E : XK} {D : Ends} {rest : TS} {TT : List (Addr × Str)} {c l : Addr} {n : Nat} {p g : Addr} {z : PosD} {sw : Str} {m mb : Addr} {mx my : Int} {x0 x3 x4 x5 x6 x7 x10 x11 x12 x13 x14 x15 : Option V} {H : Hp}
    (hr : Room 13 (A.deeper (envOfC "law" (defScope s_law) s.heap.objs.size T.a_law cdv))) (hg : (A.deeper (envOfC "law" (defScope s_law) s.heap.objs.size T.a_law cdv)).guards = some [])
    (HT : PSs (XL P w K mg base T.a_law cdv A outer s H0 E) ((turnB (defBody s_law)).drop 12) rest) (t : Fn T TT c l n p g z sw m mb mx my H)
    (go : ∀ gd L r1 r2 H', Fn T TT c l n p g z sw m mb mx my H' → DGet H' gd (.str sw) (some (.ref L)) → L ≠ c → H' L = some (.lst [.ref r1, .ref r2]) → H' r1 = some (.tup (sqV (goneXY sw (mx, 0) 0 0))) → H' r2 = some (.tup (sqV (goneXY sw (0, my) 0 0))) → rest D [x0, some (.ref c), some (.ref p), x3, x4, x5, x6, x7, some (.str sw), some (.ref m), x10, x11, some (.ref gd), x13, x14, x15] H') :
    ∃ t, PSs (XL P w K mg base T.a_law cdv A outer s H0 E) ((turnB (defBody s_law)).drop 11) t ∧ t D [x0, some (.ref c), some (.ref p), x3, x4, x5, x6, x7, some (.str sw), some (.ref m), x10, x11, x12, x13, x14, x15] H := by
  refine ⟨_, (pss_cons (ps_set (i := 12) sc_law.nd rfl (Or.inl rfl) (pe_disp (pps_cons pe_str (pe_lc (own := [("column", 13), ("row", 14)]) (g := (gSeq K 2 (gCons (gName 13) (gCons (gName 14) gNil)))) rfl sc_law.nd (pi_tup (pv 9)) (blkOk_by (N := n_law) (sc := defScope s_law) (by decide +kernel)) (fun _ _ _ _ _ => (pg_seq rfl (pgs_cons (pg_name (i := 13) sc_law.nd rfl (Or.inl rfl)) (pgs_cons (pg_name (i := 14) sc_law.nd rfl (Or.inl rfl)) pgs_nil)))) (fun _ _ _ _ _ => pts_nil) (fun _ _ _ _ _ => (pe_tup (pa_cons (pe_un un_neg (pv 14)) (pa_cons (pv 13) pa_nil))))) (pps_cons pe_str (pe_lc (own := [("column", 13), ("row", 14)]) (g := (gSeq K 2 (gCons (gName 13) (gCons (gName 14) gNil)))) rfl sc_law.nd (pi_tup (pv 9)) (blkOk_by (N := n_law) (sc := defScope s_law) (by decide +kernel)) (fun _ _ _ _ _ => (pg_seq rfl (pgs_cons (pg_name (i := 13) sc_law.nd rfl (Or.inl rfl)) (pgs_cons (pg_name (i := 14) sc_law.nd rfl (Or.inl rfl)) pgs_nil)))) (fun _ _ _ _ _ => pts_nil) (fun _ _ _ _ _ => (pe_tup (pa_cons (pe_un un_neg (pv 13)) (pa_cons (pv 14) pa_nil))))) (pps_cons pe_str (pe_lc (own := [("square", 15)]) (g := (gName 15)) rfl sc_law.nd (pi_tup (pv 9)) (blkOk_by (N := n_law) (sc := defScope s_law) (by decide +kernel)) (fun _ _ _ _ _ => (pg_name (i := 15) sc_law.nd rfl (Or.inl rfl))) (fun _ _ _ _ _ => pts_nil) (fun _ _ _ _ _ => (pe_callTy (T := "tuple") (r := rTupOf K) call_tuple_of (by rfl) T.z_tuple (by decide +kernel) (pa_cons (pv 15) pa_nil)))) pps_nil))) rfl rfl (by simp) (by decide)))
      HT), ?_⟩
  obtain ⟨a, gm, ga, gb, nb⟩ := t.m
  have hA : TuL H a (mx, 0) := .inl ga
  have hB : TuL H mb (0, my) := .inr gb
  refine fun gd hgd => ?_
  have s0 := same_new hgd (o := .dK [])
  have gd0 : upd H gd (.dK []) gd = some (.dK []) := upd_same
  refine ⟨_, rfl, m, rfl, ⟨_, .of (s0 _ _ gm)⟩, fun D1 hD1 => lc_mv (fun q => (-q.2, q.1)) (s0 _ _ gm) (hA.same s0) (hB.same s0) hD1 (fun x q Hx Z Y hx k => ?_) fun H1 r1 u1 s1 gD1 gr1 gu1 => ?_⟩
  · exact gSeq.of hx.seq rfl ⟨_, _, rfl, _, _, rfl, rfl, rfl, _, rfl, _, rfl, _, rfl, szl rfl, fun r hr => k r _ (same_new hr) upd_same⟩
  have s01 := s0.trans s1
  refine ⟨_, rfl, m, rfl, ⟨_, .of (s01 _ _ gm)⟩, fun D2 hD2 => lc_mv (fun q => (-q.1, q.2)) (s01 _ _ gm) (hA.same s01) (hB.same s01) hD2 (fun x q Hx Z Y hx k => ?_) fun H2 r2 u2 s2 gD2 gr2 gu2 => ?_⟩
  · exact gSeq.of hx.seq rfl ⟨_, _, rfl, _, _, rfl, rfl, rfl, _, rfl, _, rfl, _, rfl, szl rfl, fun r hr => k r _ (same_new hr) upd_same⟩
  have s02 := s01.trans s2
  refine ⟨_, rfl, m, rfl, ⟨_, .of (s02 _ _ gm)⟩, fun D3 hD3 => lc_mv (fun q => (q.1, q.2)) (s02 _ _ gm) (hA.same s02) (hB.same s02) hD3 (fun x q Hx Z Y hx k => ?_) fun H3 r3 u3 s3 gD3 gr3 gu3 => ?_⟩
  · refine ⟨rfl, _, rfl, x, sqV q, rfl, ?_⟩
    rcases hx with hx | hx
    · exact .inr ⟨.of hx, k x _ (Same.refl _) hx⟩
    · exact .inl ⟨.of hx, fun r hr => k r _ (same_new hr) upd_same⟩
  have gdk : H3 gd = some (.dK []) := s3 _ _ (s2 _ _ (s1 _ _ gd0))
  refine ⟨gdk, [(.inr ("turned" : Str), .ref D1), (.inr ("mirrored" : Str), .ref D2), (.inr ("moved" : Str), .ref D3)], rfl, by simp, ?_⟩
  have ne : ∀ (x : Addr) (xs : List V), H3 x = some (.tup xs) → x ≠ gd := fun x xs h z => by rw [z, gdk] at h; cases h
  have nl : ∀ (x : Addr) (xs : List V), H3 x = some (.lst xs) → x ≠ gd := fun x xs h z => by rw [z, gdk] at h; cases h
  have sf : Same H (upd H3 gd (.dK (mergeK [] [(.inr ("turned" : Str), .ref D1), (.inr ("mirrored" : Str), .ref D2), (.inr ("moved" : Str), .ref D3)]))) := same_own (s02.trans s3) hgd
  have tf := t.same sf
  have n1 : D1 ≠ c := (t.same s0).tn.bag.ne hD1
  have n2 : D2 ≠ c := (t.same s01).tn.bag.ne hD2
  have n3 : D3 ≠ c := (t.same s02).tn.bag.ne hD3
  have dg : ∀ k v, valV (mergeK [] [(.inr ("turned" : Str), .ref D1), (.inr ("mirrored" : Str), .ref D2), (.inr ("moved" : Str), .ref D3)]) k = v → DGet (upd H3 gd (.dK (mergeK [] [(.inr ("turned" : Str), .ref D1), (.inr ("mirrored" : Str), .ref D2), (.inr ("moved" : Str), .ref D3)]))) gd (kV k) v := fun k v e => e ▸ DGet.k upd_same
  have put : ∀ (x : Addr) (xs : List V), H3 x = some (.tup xs) → ∀ o, upd H3 gd o x = some (.tup xs) := fun x xs h o => by rw [upd_ne (ne x xs h)]; exact h
  have putl : ∀ (x : Addr) (xs : List V), H3 x = some (.lst xs) → ∀ o, upd H3 gd o x = some (.lst xs) := fun x xs h o => by rw [upd_ne (nl x xs h)]; exact h
  have hw := t.w
  simp only [ways3, List.mem_cons, List.not_mem_nil, or_false] at hw
  rcases hw with rfl | rfl | rfl
  · exact go gd D1 r1 u1 _ tf (dg (.inr ("turned" : Str)) _ rfl) n1 (putl _ _ (s3 _ _ (s2 _ _ gD1)) _) (put _ _ (s3 _ _ (s2 _ _ gr1)) _) (put _ _ (s3 _ _ (s2 _ _ gu1)) _)
  · exact go gd D2 r2 u2 _ tf (dg (.inr ("mirrored" : Str)) _ rfl) n2 (putl _ _ (s3 _ _ gD2) _) (put _ _ (s3 _ _ gr2) _) (put _ _ (s3 _ _ gu2) _)
  · refine go gd D3 r3 u3 _ tf (dg (.inr ("moved" : Str)) _ rfl) n3 (putl _ _ gD3 _) ?_ ?_
    · rw [put _ _ gr3 _, show goneXY ("moved" : Str) (mx, 0) 0 0 = (mx + 0, 0 + 0) from rfl]; simp only [Int.add_zero]
    · rw [put _ _ gu3 _, show goneXY ("moved" : Str) (0, my) 0 0 = (0 + 0, my + 0) from rfl]; simp only [Int.add_zero]
end
end K57

set_option Elab.async false
set_option linter.all false
set_option maxRecDepth 100000
set_option maxHeartbeats 8000000
namespace K57
open PySem PySem.Spec PyProof.Rows L2 Gs
open LamX (Tabs TabB TabS CodeO ExtN)
section
variable {P : Program} {w : World} {K : PySem.W.Frag} {mg : Str → Option Value} {base : Heap}
theorem rd_same {H H' : Hp} {a : Addr} {u : HO} (h : Rd H a u) (s : Same H H') : Rd H' a u := h.imp (s _ _) fun ⟨o, e⟩ => ⟨o, s _ _ e⟩
theorem dget_same {H H' : Hp} {a : Addr} {y : V} {r : Option V} (h : DGet H a y r) (s : Same H H') : DGet H' a y r := by
  rcases h with ⟨kvs, k, h, e1, e2⟩ | ⟨kvs, k, b, h, e1, hb, e2⟩
  · exact .inl ⟨kvs, k, rd_same h s, e1, e2⟩
  · exact .inr ⟨kvs, k, b, rd_same h s, e1, s _ _ hb, e2⟩
def mvD (p q : Int × Int) : PyData := .tuple [.tuple [.int p.1, .int p.2], .tuple [.int q.1, .int q.2]]
theorem sqr_dv {c r : Addr} {ys : List V} {p : Int × Int} {H : Hp} (hc : H c = some (.lst ys)) (h : H r = some (.tup (sqV p))) : DV K c H (.ref r) (.tuple [.int p.1, .int p.2]) :=
  .tup (nc_ne hc h fun _ z => nomatch z) (.of h) (.cons (.int _) (.cons (.int _) .nil))
theorem newmv_dv {c r : Addr} {ys : List V} {p q : Int × Int} {H : Hp} (hc : H c = some (.lst ys)) (h : NewMv H r p q) : DV K c H (.ref r) (mvD p q) := by
  obtain ⟨a, b, h1, h2, h3⟩ := h
  exact .tup (nc_ne hc h1 fun _ z => nomatch z) (.of h1) (.cons (sqr_dv hc h2) (.cons (sqr_dv hc h3) .nil))
theorem sqr_dp {r : Addr} {p : Int × Int} {H : Hp} (h : H r = some (.tup (sqV p))) : Dp K H (.ref r) (.tuple [.int p.1, .int p.2]) :=
  .tup (.of h) (.cons (.int _) (.cons (.int _) .nil))
theorem newmv_dp {r : Addr} {p q : Int × Int} {H : Hp} (h : NewMv H r p q) : Dp K H (.ref r) (mvD p q) := by
  obtain ⟨a, b, h1, h2, h3⟩ := h
  exact .tup (.of h1) (.cons (sqr_dp h2) (.cons (sqr_dp h3) .nil))
theorem small_pow {n : Nat} (h : n < 10) : n < 2 ^ 1000 := Nat.lt_of_lt_of_le h (by decide +kernel)
theorem mvD_fine {p q : Int × Int} (h1 : p.1.natAbs < 10) (h2 : p.2.natAbs < 10) (h3 : q.1.natAbs < 10) (h4 : q.2.natAbs < 10) : Fine 2 6 (mvD p q) :=
  .tuple (fine2 (k := 1) (n := 2) (.tuple (fine2 (k := 0) (n := 0) (.int (small_pow h1)) (.int (small_pow h2)))) (.tuple (fine2 (k := 0) (n := 0) (.int (small_pow h3)) (.int (small_pow h4)))))
theorem gone_small {sw : Str} {q : Int × Int} (h1 : q.1.natAbs < 10) (h2 : q.2.natAbs < 10) : (goneXY sw q 0 0).1.natAbs < 10 ∧ (goneXY sw q 0 0).2.natAbs < 10 := by
  unfold goneXY
  split
  · exact ⟨by simpa using h2, h1⟩
  split
  · exact ⟨by simpa using h1, h2⟩
  · exact ⟨by simpa using h1, by simpa using h2⟩
theorem mvD_shaped (p q : Int × Int) : SeqAt.shaped (mvD p q) = true := rfl
theorem mvD_eqv (p q : Int × Int) : PyData.eqv (mvD p q) (mvD p q) = true := PySem.SeqAt.eqv_refl _ rfl
theorem ne_self {x : V} : (!decide (x = x)) = false := by simp
/-- gone, held against going -/
theorem lwL (T : Tx K mg w) {cdv : Value} {A : Around} {outer : List Env} {s : Shared} {H0 : Hp} {E : XK} {D : Ends} {TT : List (Addr × Str)} {c l : Addr} {n : Nat} {p g : Addr} {z : PosD} {sw : Str} {m mb : Addr} {mx my : Int} {gd L r1 r2 : Addr} {x0 x3 x4 x5 x6 x7 x10 x11 x13 x14 x15 : Option V} {H : Hp}
    (hr : Room 13 (A.deeper (envOfC "law" (defScope s_law) s.heap.objs.size T.a_law cdv))) (hg : (A.deeper (envOfC "law" (defScope s_law) s.heap.objs.size T.a_law cdv)).guards = some [])
    (t : Fn T TT c l n p g z sw m mb mx my H) (hgd : DGet H gd (.str sw) (some (.ref L))) (hL : L ≠ c) (gL : H L = some (.lst [.ref r1, .ref r2])) (g1 : H r1 = some (.tup (sqV (goneXY sw (mx, 0) 0 0)))) (g2 : H r2 = some (.tup (sqV (goneXY sw (0, my) 0 0))))
    (go : ∀ H', Fn T TT c l n p g z sw m mb mx my H' → tNext D [x0, some (.ref c), some (.ref p), x3, x4, x5, x6, x7, some (.str sw), some (.ref m), x10, x11, some (.ref gd), x13, x14, x15] H') :
    ∃ t, PSs (XL P w K mg base T.a_law cdv A outer s H0 E) ((turnB (defBody s_law)).drop 12) t ∧ t D [x0, some (.ref c), some (.ref p), x3, x4, x5, x6, x7, some (.str sw), some (.ref m), x10, x11, some (.ref gd), x13, x14, x15] H := by
  obtain ⟨d2g, rb2g, hb2g⟩ := b2_gone T
  have hb4g := b4_gone T
  obtain ⟨gi, kbn⟩ := kb_gone T
  refine ⟨_, (pss_one (ps_if (PW.pt (pw_or (pt_cmpR op_ne (pe_callB (call_repr hr hg) (by rfl) T.z_repr (by decide +kernel) (pa_cons (pe_call (O_gone_along T) (hr.mono (by decide)) (by rfl) T.m_gone_along T.F_gone_along.kp hb2g rb2g passL (pa_cons (pv 9) (pa_cons (pv 8) pa_nil))) pa_nil)) (pe_callB (call_repr hr hg) (by rfl) T.z_repr (by decide +kernel) (pa_cons (pe_callTy (T := "tuple") (r := rTupOf K) call_tuple_of (by rfl) T.z_tuple (by decide +kernel) (pa_cons (pe_dget (Nat.lt_of_le_of_lt (Nat.add_le_add_left (by decide) _) hr.units) (pv 12) (pv 8) (fun _ _ => rfl)) pa_nil)) pa_nil)) (nomark _)) (pw_or1 (pt_cmpR (op_neD hr.units) (pg_callK0 (FnG.of (O_gone_along T)) (hr.mono (by decide)) hg (by rfl) T.m_gone_along T.F_gone_along.kp (⟨kbn.to, fun _ _ => kbn.rel⟩ : KB K T.d_gone_along ["move", "how", "across", "up"] ["how", "move"] 0 (fun us ws => gGo us gi ws) (fun vs zs => gGo vs [.int 0, .int 0] zs)) passL (pk_cons (pv 8) (pk_cons (pv 9) pk_nil))) (pe_callTy (T := "tuple") (r := rTupOf K) call_tuple_of (by rfl) T.z_tuple (by decide +kernel) (pa_cons (pe_dget (Nat.lt_of_le_of_lt (Nat.add_le_add_left (by decide) _) hr.units) (pv 12) (pv 8) (fun _ _ => rfl)) pa_nil)) (nomark _))))) (pss_one (ps_ret pe_bl)) pss_nil)), ?_⟩
  obtain ⟨b1, b2, b3, b4⟩ := t.x
  obtain ⟨sA, sB⟩ := gone_small (sw := sw) (q := (mx, 0)) (by show mx.natAbs < 10; omega) (by show (0 : Int).natAbs < 10; decide)
  obtain ⟨sC, sD⟩ := gone_small (sw := sw) (q := (0, my)) (by show (0 : Int).natAbs < 10; decide) (by show my.natAbs < 10; omega)
  have fin : Fine 2 6 (mvD (goneXY sw (mx, 0) 0 0) (goneXY sw (0, my) 0 0)) := mvD_fine sA sB sC sD
  have eqv := mvD_eqv (goneXY sw (mx, 0) 0 0) (goneXY sw (0, my) 0 0)
  have shp := mvD_shaped (goneXY sw (mx, 0) 0 0) (goneXY sw (0, my) 0 0)
  have mv : ∀ {H}, Fn T TT c l n p g z sw m mb mx my H → MvAt K H m (mx, 0) (0, my) := fun {H} t => by
    obtain ⟨a, h1, h2, h3, _⟩ := t.m
    exact ⟨a, mb, .inr (.of h1), .inr (.of h2), .inl (.of h3)⟩
  refine ⟨_, rfl, _, rfl, .ref m, .str sw, .int 0, .int 0, rfl, .inr ⟨m, (mx, 0), (0, my), rfl, mv t, .inr ⟨sw, rfl, t.w, .inr ⟨0, rfl, .inr ⟨0, rfl, fun H1 r s1 nm => ?_⟩⟩⟩⟩⟩
  replace t := t.same s1
  replace hgd := dget_same hgd s1
  replace gL := s1 _ _ gL
  replace g1 := s1 _ _ g1
  replace g2 := s1 _ _ g2
  obtain ⟨ys, hc⟩ := bag_at t.tn.bag
  refine ⟨c, r, _, rfl, newmv_dv hc nm, fin.sh, Nat.le_trans fin.dp (by decide), fin.fits (by decide), ?_⟩
  refine ⟨_, rfl, _, rfl, gd, .ref L, rfl, hgd, L, _, rfl, .inl ⟨.of gL, fun q hq => ?_⟩⟩
  have sq := same_new hq (o := .tup [.ref r1, .ref r2])
  have nq : NewMv (upd H1 q (.tup [.ref r1, .ref r2])) q (goneXY sw (mx, 0) 0 0) (goneXY sw (0, my) 0 0) := ⟨r1, r2, upd_same, sq _ _ g1, sq _ _ g2⟩
  refine ⟨c, q, _, rfl, newmv_dv (sq _ _ hc) nq, fin.sh, Nat.le_trans fin.dp (by decide), fin.fits (by decide), rfl, _, rfl, ?_⟩
  rw [ne_self]
  refine iteF ?_
  replace t := t.same sq
  replace hgd := dget_same hgd sq
  replace gL := sq _ _ gL
  replace g1 := sq _ _ g1
  replace g2 := sq _ _ g2
  generalize upd H1 q (.tup [V.ref r1, V.ref r2]) = H2 at t hgd gL g1 g2 ⊢
  clear hc nq nm
  refine ⟨_, rfl, _, rfl, rfl, rfl, .ref m, .str sw, .int 0, .int 0, rfl, .inr ⟨m, (mx, 0), (0, my), rfl, mv t, .inr ⟨sw, rfl, t.w, .inr ⟨0, rfl, .inr ⟨0, rfl, fun H3 r' s3 nm => ?_⟩⟩⟩⟩⟩
  replace t := t.same s3
  replace hgd := dget_same hgd s3
  replace gL := s3 _ _ gL
  replace g1 := s3 _ _ g1
  replace g2 := s3 _ _ g2
  refine ⟨_, rfl, _, rfl, gd, .ref L, rfl, hgd, L, _, rfl, .inl ⟨.of gL, fun q' hq' => ?_⟩⟩
  have sq' := same_new hq' (o := .tup [.ref r1, .ref r2])
  have nq' : NewMv (upd H3 q' (.tup [.ref r1, .ref r2])) q' (goneXY sw (mx, 0) 0 0) (goneXY sw (0, my) 0 0) := ⟨r1, r2, upd_same, sq' _ _ g1, sq' _ _ g2⟩
  obtain ⟨a1, a2, m1, m2, m3⟩ := nm
  refine ⟨_, _, newmv_dp ⟨a1, a2, sq' _ _ m1, sq' _ _ m2, sq' _ _ m3⟩, newmv_dp nq', shp, shp, _, rfl, ?_⟩
  rw [eqv]
  exact iteF (go _ (t.same sq'))
end
end K57

set_option Elab.async false
set_option linter.all false
set_option maxRecDepth 100000
set_option maxHeartbeats 16000000
namespace K57
open PySem PySem.Spec PyProof.Rows L2 Gs
open LamX (Tabs TabB TabS CodeO ExtN)
section
variable {P : Program} {w : World} {K : PySem.W.Frag} {mg : Str → Option Value} {base : Heap} {CX : CXT} {k : Nat} {f : Addr} {fd : FuncData} {ps : List Str} {sp : Sp}
/-- a def without defaults, entered with no guard; its code object is told -/
theorem fun_okCG {x qual : Str} {st : Stmt} {N : List Str} (F : Fun K x qual st f fd) (S : FnScope N ps (defScope st))
    (len : ∀ vs H Q E, sp vs H Q E → vs.length = ps.length)
    (hb : ∀ (cdv : Value), fd.code = cdv → ∀ (A : Around) (outer : List Env) (s : Shared) (H : Hp) (vs : List V) (Q : VK) (E : XK),
      Room k (A.deeper (envOfC qual (defScope st) s.heap.objs.size f cdv)) → (A.deeper (envOfC qual (defScope st) s.heap.objs.size f cdv)).guards = some [] → sp vs H Q E →
      ∃ t, PSs (cxOf CX0 P w K mg base N qual (defScope st) f cdv A outer s H E).nox (defBody st) t ∧
        t { nx := fun _ H' => Q .non H', rt := Q } (L2.start N vs) H) : FnG P w K mg base CX0 (k + 1) f fd ps sp := by
  obtain ⟨oc, od, kV, doc, pm, an, cdv, ct, osl, rfl, lk, hcd⟩ := F.ex
  refine fn_ofG lk hcd S len (fun A outer s H vs Q E hr hg hsp => ?_)
  obtain ⟨t, h, q⟩ := hb cdv rfl A outer s H vs Q E hr hg hsp
  exact ⟨t, h.nox, q⟩
end
section
variable {P : Program} {w : World} {K : PySem.W.Frag} {mg : Str → Option Value} {base : Heap}
theorem tabs_new {TT : List (Addr × Str)} {c : Addr} {G G' : Hp} (hc : G c = none) (x : Gs.Ext c G G') (h : Tabs TT G) : Tabs TT G' := fun p hp => by
  obtain ⟨ps, a1, a2, a3⟩ := h p hp
  refine ⟨ps, x _ _ (fun z => by rw [z, hc] at a1; cases a1) a1, a2, fun p' cv hv => ?_⟩
  obtain ⟨c0, e1, e2⟩ := a3 p' cv hv
  exact ⟨c0, e1, x _ _ (fun z => by rw [z, hc] at e2; cases e2) e2⟩
/-- one turn -/
theorem lwTurn (T : Tx K mg w) {cdv : Value} {A : Around} {outer : List Env} {s : Shared} {H0 : Hp} {E : XK} {D : Ends} {TT : List (Addr × Str)} {cc PL : Addr} {c l : Addr} {n : Nat} {p g : Addr} {z : PosD} {x0 x3 x4 x5 x6 x7 x8 x9 x10 x11 x12 x13 x14 x15 : Option V} {H : Hp}
    (hr : Room 13 (A.deeper (envOfC "law" (defScope s_law) s.heap.objs.size T.a_law cdv))) (hg : (A.deeper (envOfC "law" (defScope s_law) s.heap.objs.size T.a_law cdv)).guards = some [])
    (TB : TabB base mg cc PL) (hcode : cdv = .ref cc) (hmT : (PL, lamQ) ∈ TT) (hu : ∀ p ∈ TT, p.1 = PL → p.2 = lamQ)
    (t : Tn T TT c l n p g z H) (hN : n ≤ 800000)
    (k : ∀ x3 x4 x5 x6 x7 x8 x9 x10 x11 x12 x13 x14 x15 H', Tn T TT c l (n + 7) p g z H' → D.nx [x0, some (.ref c), some (.ref p), x3, x4, x5, x6, x7, x8, x9, x10, x11, x12, x13, x14, x15] H') :
    ∃ t, PSs (XL P w K mg base T.a_law cdv A outer s H0 E) (turnB (defBody s_law)) t ∧ t D [x0, some (.ref c), some (.ref p), x3, x4, x5, x6, x7, x8, x9, x10, x11, x12, x13, x14, x15] H := by
  refine lwB T hr hg pss_any t (by omega) fun vn vo H1 t1 hn ho => ?_
  refine lwC T hr hg pss_any t1 (by omega) hn ho fun vb H2 t2 hn2 ho2 hb2 => ?_
  refine lwD T hr hg pss_any t2 (by omega) hn2 ho2 hb2 fun vh sw m mb mx my H3 t3 d3 => ?_
  refine lwE T hr hg TB hcode hmT hu pss_any ⟨t3, d3⟩ fun h4 H4 a4 l4 => ?_
  refine lwF T hr hg TB hcode hmT hu pss_any a4 l4 fun h5 H5 a5 l5 => ?_
  refine lwG T hr hg TB hcode hmT hu pss_any a5 l5 fun h6 H6 a6 l6 => ?_
  refine lwH T hr hg TB hcode hmT hu pss_any a6 l6 fun h7 H7 a7 l7 => ?_
  refine lwI T hr hg TB hcode hmT hu pss_any a7 l7 fun h8 H8 f8 l8 => ?_
  refine lwJ T hr hg pss_any f8 l8 fun dl H9 f9 => ?_
  refine lwK T hr hg pss_any f9 fun gd L r1 r2 H10 f10 hgd hL gL g1 g2 => ?_
  refine lwL T hr hg f10 hgd hL gL g1 g2 fun H11 f11 => ?_
  exact k _ _ _ _ _ _ _ _ _ _ _ _ _ H11 f11.tn
abbrev TTl (PL PG : Addr) : List (Addr × Str) := [(PL, lamQ), (PG, gQ)]
def spLaw (K : PySem.W.Frag) (PL PG : Addr) : Sp := fun vs H Q _ => ∃ (a : Addr) (ns : List Int), vs = [.ref a] ∧ SqL K H a (ns.map V.int) ∧ ns.length ≤ 63 ∧ Tabs (TTl PL PG) H ∧ ∀ H', Q (.bl true) H'
theorem G_law (T : Tx K mg w) {cc PL ccG PG : Addr} (TB : TabB base mg cc PL) (hcc : T.d_law.code = .ref cc) (TG : TabB base mg ccG PG) (hcG : T.d_Game___init__.code = .ref ccG) (hne : PL ≠ PG) : FnG P w K mg base CX0 14 T.a_law T.d_law ["script"] (spLaw K PL PG) := by
  refine fun_okCG T.F_law sc_law (fun vs H Q E h => ?_) (fun cdv hcd A outer s H vs Q E hr hg h => ?_)
  · obtain ⟨a, ns, rfl, _⟩ := h; rfl
  obtain ⟨a, ns, rfl, hS, hlen, ht, k⟩ := h
  have hcode : cdv = .ref cc := hcd.symm.trans hcc
  have hmT : (PL, lamQ) ∈ TTl PL PG := List.mem_cons_self
  have hmG : (PG, gQ) ∈ TTl PL PG := List.mem_cons_of_mem _ List.mem_cons_self
  have hu : ∀ p ∈ TTl PL PG, p.1 = PL → p.2 = lamQ := fun p hp e => by
    simp only [List.mem_cons, List.not_mem_nil, or_false] at hp
    rcases hp with rfl | rfl
    · rfl
    · exact absurd e.symm hne
  have huG : ∀ p ∈ TTl PL PG, p.1 = PG → p.2 = gQ := fun p hp e => by
    simp only [List.mem_cons, List.not_mem_nil, or_false] at hp
    rcases hp with rfl | rfl
    · exact absurd e hne
    · rfl
  refine ⟨_, pss_cons (ps_set (i := 1) sc_law.nd rfl (Or.inl rfl) (pg_call (G__law_hinge T) (hr.mono (by decide)) hg (by rfl) T.m__law_hinge T.F__law_hinge.kp T.b__law_hinge .nil pass0 (pa_cons (pv 0) pa_nil))) pss_any, ?_⟩
  refine ⟨_, rfl, a, ns, rfl, hS, hlen, fun c l H1 hc hl x1 b1 => ?_⟩
  have t1 : Tabs (TTl PL PG) H1 := tabs_new hc x1 ht
  refine lwA T hr hg TG hcG hmG huG (pss_cons (ps_for PassesOwn.never rfl (pi_range1 (by rfl) T.z_range (pa_cons pe_int pa_nil)) (pg_name (i := 3) sc_law.nd rfl (Or.inl rfl)) pss_any) (pss_one (ps_ret pe_bl))) t1 b1 (by omega) fun p g z H2 t2 => ?_
  refine ⟨3, rfl, by decide, by decide, ?_⟩
  refine for_it (tb := fun D' σ' H' => ∃ t, PSs (XL P w K mg base T.a_law cdv A outer s H E) (turnB (defBody s_law)) t ∧ t D' σ' H') (walk_range (lo := 0) (n := 3)) (fun i σ H' => (∃ x3 x4 x5 x6 x7 x8 x9 x10 x11 x12 x13 x14 x15 : Option V, σ = [some (.ref a), some (.ref c), some (.ref p), x3, x4, x5, x6, x7, x8, x9, x10, x11, x12, x13, x14, x15]) ∧ Tn T (TTl PL PG) c l (7 * i + 1) p g z H')
    ⟨⟨_, _, _, _, _, _, _, _, _, _, _, _, _, rfl⟩, t2⟩ (fun _ _ _ _ _ => trivial) ?_ ?_
  rotate_left
  · rintro σ H3 ⟨⟨x3, x4, x5, x6, x7, x8, x9, x10, x11, x12, x13, x14, x15, rfl⟩, t3⟩
    exact k H3
  rintro i x σ H3 H3' hi ⟨⟨x3, x4, x5, x6, x7, x8, x9, x10, x11, x12, x13, x14, x15, rfl⟩, t3⟩ ⟨rfl, rfl⟩
  refine lwTurn T hr hg TB hcode hmT hu t3 (by omega) fun y3 y4 y5 y6 y7 y8 y9 y10 y11 y12 y13 y14 y15 H4 t4 => ?_
  exact ⟨⟨_, _, _, _, _, _, _, _, _, _, _, _, _, rfl⟩, by rw [show 7 * (i + 1) + 1 = 7 * i + 1 + 7 by omega]; exact t4⟩
end
end K57

set_option Elab.async false
set_option linter.all false
set_option maxRecDepth 100000
set_option maxHeartbeats 4000000
namespace K57
open PySem PySem.Spec PyProof.Rows L2 Gs
section
variable {K : PySem.W.Frag} {w : World}
theorem isFn_of {f : Addr} (h : PySem.W.typeIn K (.ref f) = some (.type "function")) : PySem.W.isFn K (.ref f) = true := by
  unfold PySem.W.isFn; rw [h]; rfl
theorem cls_by {S : Addr} {t : Value} {b : Bool} (h2 : PySem.W.isClsIn K S = true) (h3 : PySem.W.typeIn K (.ref S) = some (.type "type")) (h4 : PySem.W.subIn K t (.ref S) = some b) : PySem.W.kitCls K t (.ref S) = some b := by
  have h2' : (PySem.W.clsIn K S).isSome = true := h2
  show (if ((PySem.W.clsIn K S).isSome && PySem.W.typeIn K (.ref S) == some (.type "type")) = true then PySem.W.subIn K t (.ref S) else none) = some b
  rw [h2', h3]
  exact h4
theorem exm_by {C S : Addr} {b : Bool} (h1 : PySem.W.subIn K (.ref S) (.type "BaseException") = some true) (h2 : PySem.W.isClsIn K S = true) (h3 : PySem.W.typeIn K (.ref S) = some (.type "type")) (h4 : PySem.W.subIn K (.ref C) (.ref S) = some b) :
    PySem.W.exmOne K (.ref C) (.ref S) = some b := by
  have e1 : (PySem.W.subIn K (.ref S) (.type "BaseException") == some true) = true := by rw [h1] <;> rfl
  show (if (PySem.W.subIn K (.ref S) (.type "BaseException") == some true) = true then PySem.W.kitCls K (.ref C) (.ref S) else none) = some b
  rw [if_pos e1]
  exact cls_by h2 h3 h4
theorem kit_by {S : Addr} {t : String} {b : Bool} (h2 : PySem.W.isClsIn K S = true) (h3 : PySem.W.typeIn K (.ref S) = some (.type "type")) (h4 : PySem.W.subIn K (.type t) (.ref S) = some b) : PySem.W.kitOne K (.type t) (.ref S) = some b := by
  show (if ((Value.type t) == (Value.ref S)) = true then some true else PySem.W.kitCls K (.type t) (.ref S)) = some b
  rw [if_neg (by simp)]
  exact cls_by h2 h3 h4
theorem kn_of {S : Addr} (h2 : PySem.W.isClsIn K S = true) (h3 : PySem.W.typeIn K (.ref S) = some (.type "type")) (a1 : PySem.W.subIn K (.type "list") (.ref S) = some false) (a2 : PySem.W.subIn K (.type "str") (.ref S) = some false) (a3 : PySem.W.subIn K (.type "NoneType") (.ref S) = some false)
    (a4 : PySem.W.subIn K (.type "int") (.ref S) = some false) (a5 : PySem.W.subIn K (.type "bool") (.ref S) = some false) (a6 : PySem.W.subIn K (.type "tuple") (.ref S) = some false) (a7 : PySem.W.subIn K (.type "dict") (.ref S) = some false) :
    ∀ t ∈ (["list", "str", "NoneType", "int", "bool", "tuple", "dict"] : List String), PySem.W.kitOne K (.type t) (.ref S) = some false := fun t ht => by
  simp only [List.mem_cons, List.not_mem_nil, or_false] at ht
  rcases ht with rfl | rfl | rfl | rfl | rfl | rfl | rfl
  · exact kit_by h2 h3 a1
  · exact kit_by h2 h3 a2
  · exact kit_by h2 h3 a3
  · exact kit_by h2 h3 a4
  · exact kit_by h2 h3 a5
  · exact kit_by h2 h3 a6
  · exact kit_by h2 h3 a7
theorem wd_of {d r l u o : Addr} {es : Array DictEntry} {n : Nat} (h1 : K.lookup d = some ⟨.type "dict", none, .dict es n, #[]⟩) (h2 : PySem.W.KeysLit w.params es.toList) (h3 : (d == sysModules) = false) (h4 : es.size = 4)
    (a : ∃ en t, es[0]? = some en ∧ en.key = .str "right" t ∧ RelV (.ref r) en.val) (b : ∃ en t, es[1]? = some en ∧ en.key = .str "left" t ∧ RelV (.ref l) en.val) (c : ∃ en t, es[2]? = some en ∧ en.key = .str "up" t ∧ RelV (.ref u) en.val) (e : ∃ en t, es[3]? = some en ∧ en.key = .str "down" t ∧ RelV (.ref o) en.val) :
    WD K w d [("right", .ref r), ("left", .ref l), ("up", .ref u), ("down", .ref o)] :=
  ⟨⟨es, n, ⟨h1, h2, h3⟩, h4, fun i k v h => by
    match i, h with
    | 0, h => cases h; exact a
    | 1, h => cases h; exact b
    | 2, h => cases h; exact c
    | 3, h => cases h; exact e⟩⟩
theorem b5_of {tE a : Addr} {d : FuncData} (F : FunD K "__init__" "Kind.__init__" (defArgs s_Kind___init__) (defBody s_Kind___init__) (defScope s_Kind___init__) [.ref tE, .bl false] [] a d) : Binds K d ["self", "name", "leaps", "rides", "is_lord"] [] := by
  obtain ⟨ds, v, b⟩ : ∃ ds : List Value, Vals (([.ref tE, .bl false] : List V).drop 2) ds ∧ Binds K d ["self", "name", "leaps", "rides", "is_lord"] ds :=
    FunD.binds1 F 5 2 (by simp) rfl fun T kV doc pm an cdv ct us its l1 l2 => by
      match us, its, l1, l2 with
      | [x, n, l, r, q], [d1, d2], _, _ => exact ⟨_, rfl, rfl⟩
  cases v
  exact b
theorem b4_of {t1 t2 a : Addr} {d : FuncData} (F : FunD K "__init__" "Game.__init__" (defArgs s_Game___init__) (defBody s_Game___init__) (defScope s_Game___init__) [.ref t1, .ref t2] [] a d) : Binds K d ["self", "kinds", "edges", "goal"] [] := by
  obtain ⟨ds, v, b⟩ : ∃ ds : List Value, Vals (([.ref t1, .ref t2] : List V).drop 2) ds ∧ Binds K d ["self", "kinds", "edges", "goal"] ds :=
    FunD.binds1 F 4 2 (by simp) rfl fun T kV doc pm an cdv ct us its l1 l2 => by
      match us, its, l1, l2 with
      | [x, n, l, r], [d1, d2], _, _ => exact ⟨_, rfl, rfl⟩
  cases v
  exact b
theorem b5p_of {t1 a : Addr} {d : FuncData} (F : FunD K "__init__" "Position.__init__" (defArgs s_Position___init__) (defBody s_Position___init__) (defScope s_Position___init__) [.ref t1, .int 0] [] a d) : Binds K d ["self", "game", "pieces", "stones", "turn"] [] := by
  obtain ⟨ds, v, b⟩ : ∃ ds : List Value, Vals (([.ref t1, .int 0] : List V).drop 2) ds ∧ Binds K d ["self", "game", "pieces", "stones", "turn"] ds :=
    FunD.binds1 F 5 2 (by simp) rfl fun T kV doc pm an cdv ct us its l1 l2 => by
      match us, its, l1, l2 with
      | [x, n, l, r, q], [d1, d2], _, _ => exact ⟨_, rfl, rfl⟩
  cases v
  exact b
theorem kN4 {a b c d : Addr} (a1 : PySem.W.isClsIn K a = true) (a2 : PySem.W.typeIn K (.ref a) = some (.type "type")) (a3 : PySem.W.subIn K (.type "NoneType") (.ref a) = some false)
    (b1 : PySem.W.isClsIn K b = true) (b2 : PySem.W.typeIn K (.ref b) = some (.type "type")) (b3 : PySem.W.subIn K (.type "NoneType") (.ref b) = some false)
    (c1 : PySem.W.isClsIn K c = true) (c2 : PySem.W.typeIn K (.ref c) = some (.type "type")) (c3 : PySem.W.subIn K (.type "NoneType") (.ref c) = some false)
    (d1 : PySem.W.isClsIn K d = true) (d2 : PySem.W.typeIn K (.ref d) = some (.type "type")) (d3 : PySem.W.subIn K (.type "NoneType") (.ref d) = some false) :
    ∀ x ∈ [a, b, c, d], PySem.W.kitOne K (.type "NoneType") (.ref x) = some false := fun x hx => by
  simp only [List.mem_cons, List.not_mem_nil, or_false] at hx
  rcases hx with rfl | rfl | rfl | rfl
  · exact kit_by a1 a2 a3
  · exact kit_by b1 b2 b3
  · exact kit_by c1 c2 c3
  · exact kit_by d1 d2 d3
theorem kgp_of {C S : Addr} (h2 : PySem.W.isClsIn K S = true) (h3 : PySem.W.typeIn K (.ref S) = some (.type "type")) (h4 : PySem.W.subIn K (.ref C) (.ref S) = some false) (n : (Value.ref C == Value.ref S) = false) : PySem.W.kitOne K (.ref C) (.ref S) = some false := by
  show (if ((Value.ref C) == (Value.ref S)) = true then some true else PySem.W.kitCls K (.ref C) (.ref S)) = some false
  rw [n, if_neg (by decide)]
  exact cls_by h2 h3 h4
theorem mat_ok {cs : List Addr} (hn : cs.Nodup) (h : matB K cs = true) : ∀ (i j : Nat) (a b : Addr), cs[i]? = some a → cs[j]? = some b → PySem.W.kitOne K (.ref b) (.ref a) = some (decide (i = j)) := fun i j a b ha hb => by
  have e := of_decide_eq_true (List.all_eq_true.mp (List.all_eq_true.mp h a (List.mem_of_getElem? ha)) b (List.mem_of_getElem? hb))
  rw [e]
  have : decide (a = b) = decide (i = j) := decide_eq_decide.mpr ⟨fun z => by
    subst z
    obtain ⟨h1, e1⟩ := List.getElem?_eq_some_iff.mp ha
    obtain ⟨h2, e2⟩ := List.getElem?_eq_some_iff.mp hb
    have hp := List.pairwise_iff_getElem.mp hn
    rcases Nat.lt_trichotomy i j with h | h | h
    · exact absurd (e1.trans e2.symm) (hp i j h1 h2 h)
    · exact h
    · exact absurd (e2.trans e1.symm) (hp j i h2 h1 h), fun z => by
    subst z
    rw [ha] at hb; exact Option.some.inj hb⟩
  rw [this]
theorem xc_ok {cs : List Addr} (h : cs.all (xcB K) = true) : ∀ a ∈ cs, ExcC K a := fun a ha => by
  have e := List.all_eq_true.mp h a ha
  obtain ⟨h1, e⟩ := Bool.and_eq_true_iff.mp e
  obtain ⟨h2, e⟩ := Bool.and_eq_true_iff.mp e
  obtain ⟨h3, e⟩ := Bool.and_eq_true_iff.mp e
  obtain ⟨h4, e⟩ := Bool.and_eq_true_iff.mp e
  obtain ⟨h5, e⟩ := Bool.and_eq_true_iff.mp e
  obtain ⟨h6, e⟩ := Bool.and_eq_true_iff.mp e
  obtain ⟨h7, h8⟩ := Bool.and_eq_true_iff.mp e
  exact ⟨of_decide_eq_true h1, of_decide_eq_true h2, of_decide_eq_true h3, h4, of_decide_eq_true h5, of_decide_eq_true h6, of_decide_eq_true h7, of_decide_eq_true h8⟩
end
theorem seq_list {its : Array Value} {n : Nat} : Data.seq its n = Data.seq its.toList.toArray n := by simp
theorem all_mk {l : PySem.W.OpenLaw} {w : World} {K : PySem.W.Frag} {h : Heap} {mg : Str → Option Value} {fa : Addr} (X : K.In h) (G : h.Ns mainGlobals mg) (hfa : mg "law" = some (.ref fa))
    {cAKind : Addr} {cAGame : Addr} {cAPosition : Addr} {cAFieldError : Addr} {nmFieldError qFieldError : Str} {NFieldError : Addr} {bsFieldError bmFieldError : List Value} {snFieldError : List Str} {subFieldError : List Value} {abFieldError : Bool} {colFieldError : Option Bool} {ddFieldError : Option Addr} {m0FieldError m1FieldError m2FieldError m3FieldError m5FieldError : Option Value} {cABadNumber : Addr} {nmBadNumber qBadNumber : Str} {NBadNumber : Addr} {bsBadNumber bmBadNumber : List Value} {snBadNumber : List Str} {subBadNumber : List Value} {abBadNumber : Bool} {colBadNumber : Option Bool} {ddBadNumber : Option Addr} {m0BadNumber m1BadNumber m2BadNumber m3BadNumber m5BadNumber : Option Value} {cABadKind : Addr} {nmBadKind qBadKind : Str} {NBadKind : Addr} {bsBadKind bmBadKind : List Value} {snBadKind : List Str} {subBadKind : List Value} {abBadKind : Bool} {colBadKind : Option Bool} {ddBadKind : Option Addr} {m0BadKind m1BadKind m2BadKind m3BadKind m5BadKind : Option Value} {cABadGame : Addr} {nmBadGame qBadGame : Str} {NBadGame : Addr} {bsBadGame bmBadGame : List Value} {snBadGame : List Str} {subBadGame : List Value} {abBadGame : Bool} {colBadGame : Option Bool} {ddBadGame : Option Addr} {m0BadGame m1BadGame m2BadGame m3BadGame m5BadGame : Option Value} {cABadPosition : Addr} {nmBadPosition qBadPosition : Str} {NBadPosition : Addr} {bsBadPosition bmBadPosition : List Value} {snBadPosition : List Str} {subBadPosition : List Value} {abBadPosition : Bool} {colBadPosition : Option Bool} {ddBadPosition : Option Addr} {m0BadPosition m1BadPosition m2BadPosition m3BadPosition m5BadPosition : Option Value} {cABadMove : Addr} {nmBadMove qBadMove : Str} {NBadMove : Addr} {bsBadMove bmBadMove : List Value} {snBadMove : List Str} {subBadMove : List Value} {abBadMove : Bool} {colBadMove : Option Bool} {ddBadMove : Option Addr} {m0BadMove m1BadMove m2BadMove m3BadMove m5BadMove : Option Value} {cABadWords : Addr} {nmBadWords qBadWords : Str} {NBadWords : Addr} {bsBadWords bmBadWords : List Value} {snBadWords : List Str} {subBadWords : List Value} {abBadWords : Bool} {colBadWords : Option Bool} {ddBadWords : Option Addr} {m0BadWords m1BadWords m2BadWords m3BadWords m5BadWords : Option Value} {cAMisfit : Addr} {nmMisfit qMisfit : Str} {NMisfit : Addr} {bsMisfit bmMisfit : List Value} {snMisfit : List Str} {subMisfit : List Value} {abMisfit : Bool} {colMisfit : Option Bool} {ddMisfit : Option Addr} {m0Misfit m1Misfit m2Misfit m3Misfit m5Misfit : Option Value} {f0 : Addr} {od0 an0 : Option Addr} {sl0 : Array (Option Value)} {oc0 kV0 dc0 pm0 ct0 : Value} {cd0 : Value} {f1 : Addr} {od1 an1 : Option Addr} {sl1 : Array (Option Value)} {oc1 kV1 dc1 pm1 ct1 : Value} {cd1 : Value} {f2 : Addr} {od2 an2 : Option Addr} {sl2 : Array (Option Value)} {oc2 kV2 dc2 pm2 ct2 : Value} {cd2 : Value} {f3 : Addr} {od3 an3 : Option Addr} {sl3 : Array (Option Value)} {oc3 kV3 dc3 pm3 ct3 : Value} {cd3 : Value} {f4 : Addr} {od4 an4 : Option Addr} {sl4 : Array (Option Value)} {oc4 kV4 dc4 pm4 ct4 : Value} {cd4 : Value} {f5 : Addr} {od5 an5 : Option Addr} {sl5 : Array (Option Value)} {oc5 kV5 dc5 pm5 ct5 : Value} {cd5 : Value} {f6 : Addr} {od6 an6 : Option Addr} {sl6 : Array (Option Value)} {oc6 kV6 dc6 pm6 ct6 : Value} {cd6 : Value} {f7 : Addr} {od7 an7 : Option Addr} {sl7 : Array (Option Value)} {oc7 kV7 dc7 pm7 ct7 : Value} {cd7 : Value} {f8 : Addr} {od8 an8 : Option Addr} {sl8 : Array (Option Value)} {oc8 kV8 dc8 pm8 ct8 : Value} {cd8 : Value} {f9 : Addr} {od9 an9 : Option Addr} {sl9 : Array (Option Value)} {oc9 kV9 dc9 pm9 ct9 : Value} {cd9 : Value} {f10 : Addr} {od10 an10 : Option Addr} {sl10 : Array (Option Value)} {oc10 kV10 dc10 pm10 ct10 : Value} {cd10 : Value} {f11 : Addr} {od11 an11 : Option Addr} {sl11 : Array (Option Value)} {oc11 kV11 dc11 pm11 ct11 : Value} {cd11 : Value} {f12 : Addr} {od12 an12 : Option Addr} {sl12 : Array (Option Value)} {oc12 kV12 dc12 pm12 ct12 : Value} {cd12 : Value} {f13 : Addr} {od13 an13 : Option Addr} {sl13 : Array (Option Value)} {oc13 kV13 dc13 pm13 ct13 : Value} {cd13 : Value} {dT13 : Addr} {dO13 : Option Addr} {dI13 : Array Value} {dN13 : Nat} {dS13 : Array (Option Value)} {eT : Addr} {eO : Option Addr} {eI : Array Value} {eN : Nat} {eS : Array (Option Value)} {f14 : Addr} {od14 an14 : Option Addr} {sl14 : Array (Option Value)} {oc14 kV14 dc14 pm14 ct14 : Value} {cd14 : Value} {f15 : Addr} {od15 an15 : Option Addr} {sl15 : Array (Option Value)} {oc15 kV15 dc15 pm15 ct15 : Value} {cd15 : Value} {f16 : Addr} {od16 an16 : Option Addr} {sl16 : Array (Option Value)} {oc16 kV16 dc16 pm16 ct16 : Value} {cd16 : Value} {f17 : Addr} {od17 an17 : Option Addr} {sl17 : Array (Option Value)} {oc17 kV17 dc17 pm17 ct17 : Value} {cd17 : Value} {f18 : Addr} {od18 an18 : Option Addr} {sl18 : Array (Option Value)} {oc18 kV18 dc18 pm18 ct18 : Value} {cd18 : Value} {f19 : Addr} {od19 an19 : Option Addr} {sl19 : Array (Option Value)} {oc19 kV19 dc19 pm19 ct19 : Value} {cd19 : Value} {f20 : Addr} {od20 an20 : Option Addr} {sl20 : Array (Option Value)} {oc20 kV20 dc20 pm20 ct20 : Value} {ccG : Addr} {dT20 : Addr} {dO20 : Option Addr} {dI20 : Array Value} {dN20 : Nat} {dS20 : Array (Option Value)} {n4T h1T : Addr} {f21 : Addr} {od21 an21 : Option Addr} {sl21 : Array (Option Value)} {oc21 kV21 dc21 pm21 ct21 : Value} {cd21 : Value} {f22 : Addr} {od22 an22 : Option Addr} {sl22 : Array (Option Value)} {oc22 kV22 dc22 pm22 ct22 : Value} {cd22 : Value} {f23 : Addr} {od23 an23 : Option Addr} {sl23 : Array (Option Value)} {oc23 kV23 dc23 pm23 ct23 : Value} {cd23 : Value} {f24 : Addr} {od24 an24 : Option Addr} {sl24 : Array (Option Value)} {oc24 kV24 dc24 pm24 ct24 : Value} {cd24 : Value} {f25 : Addr} {od25 an25 : Option Addr} {sl25 : Array (Option Value)} {oc25 kV25 dc25 pm25 ct25 : Value} {cd25 : Value} {f26 : Addr} {od26 an26 : Option Addr} {sl26 : Array (Option Value)} {oc26 kV26 dc26 pm26 ct26 : Value} {cd26 : Value} {f27 : Addr} {od27 an27 : Option Addr} {sl27 : Array (Option Value)} {oc27 kV27 dc27 pm27 ct27 : Value} {cd27 : Value} {dT27 : Addr} {dO27 : Option Addr} {dI27 : Array Value} {dN27 : Nat} {dS27 : Array (Option Value)} {peT : Addr} {f28 : Addr} {od28 an28 : Option Addr} {sl28 : Array (Option Value)} {oc28 kV28 dc28 pm28 ct28 : Value} {cd28 : Value} {f29 : Addr} {od29 an29 : Option Addr} {sl29 : Array (Option Value)} {oc29 kV29 dc29 pm29 ct29 : Value} {cd29 : Value} {f30 : Addr} {od30 an30 : Option Addr} {sl30 : Array (Option Value)} {oc30 kV30 dc30 pm30 ct30 : Value} {cd30 : Value} {f31 : Addr} {od31 an31 : Option Addr} {sl31 : Array (Option Value)} {oc31 kV31 dc31 pm31 ct31 : Value} {cd31 : Value} {f32 : Addr} {od32 an32 : Option Addr} {sl32 : Array (Option Value)} {oc32 kV32 dc32 pm32 ct32 : Value} {cd32 : Value} {f33 : Addr} {od33 an33 : Option Addr} {sl33 : Array (Option Value)} {oc33 kV33 dc33 pm33 ct33 : Value} {cd33 : Value} {f34 : Addr} {od34 an34 : Option Addr} {sl34 : Array (Option Value)} {oc34 kV34 dc34 pm34 ct34 : Value} {cd34 : Value} {f35 : Addr} {od35 an35 : Option Addr} {sl35 : Array (Option Value)} {oc35 kV35 dc35 pm35 ct35 : Value} {cd35 : Value} {f36 : Addr} {od36 an36 : Option Addr} {sl36 : Array (Option Value)} {oc36 kV36 dc36 pm36 ct36 : Value} {cd36 : Value} {f37 : Addr} {od37 an37 : Option Addr} {sl37 : Array (Option Value)} {oc37 kV37 dc37 pm37 ct37 : Value} {cd37 : Value} {f38 : Addr} {od38 an38 : Option Addr} {sl38 : Array (Option Value)} {oc38 kV38 dc38 pm38 ct38 : Value} {cd38 : Value} {f39 : Addr} {od39 an39 : Option Addr} {sl39 : Array (Option Value)} {oc39 kV39 dc39 pm39 ct39 : Value} {cd39 : Value} {f40 : Addr} {od40 an40 : Option Addr} {sl40 : Array (Option Value)} {oc40 kV40 dc40 pm40 ct40 : Value} {cd40 : Value} {f41 : Addr} {od41 an41 : Option Addr} {sl41 : Array (Option Value)} {oc41 kV41 dc41 pm41 ct41 : Value} {cd41 : Value} {f42 : Addr} {od42 an42 : Option Addr} {sl42 : Array (Option Value)} {oc42 kV42 dc42 pm42 ct42 : Value} {cd42 : Value} {dT42 : Addr} {dO42 : Option Addr} {dI42 : Array Value} {dN42 : Nat} {dS42 : Array (Option Value)} {f43 : Addr} {od43 an43 : Option Addr} {sl43 : Array (Option Value)} {oc43 kV43 dc43 pm43 ct43 : Value} {cd43 : Value} {f44 : Addr} {od44 an44 : Option Addr} {sl44 : Array (Option Value)} {oc44 kV44 dc44 pm44 ct44 : Value} {cd44 : Value} {f45 : Addr} {od45 an45 : Option Addr} {sl45 : Array (Option Value)} {oc45 kV45 dc45 pm45 ct45 : Value} {cd45 : Value} {f46 : Addr} {od46 an46 : Option Addr} {sl46 : Array (Option Value)} {oc46 kV46 dc46 pm46 ct46 : Value} {cd46 : Value} {f47 : Addr} {od47 an47 : Option Addr} {sl47 : Array (Option Value)} {oc47 kV47 dc47 pm47 ct47 : Value} {cd47 : Value} {f48 : Addr} {od48 an48 : Option Addr} {sl48 : Array (Option Value)} {oc48 kV48 dc48 pm48 ct48 : Value} {cd48 : Value} {f49 : Addr} {od49 an49 : Option Addr} {sl49 : Array (Option Value)} {oc49 kV49 dc49 pm49 ct49 : Value} {ccL : Addr}  {oN4 : Option Addr} {iN4 : Array Value} {nN4 : Nat} {sN4 : Array (Option Value)} {oH1 : Option Addr} {iH1 : Array Value} {nH1 : Nat} {sH1 : Array (Option Value)} {oPE : Option Addr} {iPE : Array Value} {nPE : Nat} {sPE : Array (Option Value)}  {tL1 : Tok} {tN1 : Tok} {tP1 : Tok} {tK1 : Tok} {tM1 tM2 : Tok} {fWY : Addr} {oWY : Option Addr} {iWY : Array Value} {nWY : Nat} {sWY : Array (Option Value)} {fB : Addr} {oB : Option Addr} {iB : Array Value} {nB : Nat} {sB : Array (Option Value)} {fSD : Addr} {oSD : Option Addr} {iSD : Array Value} {nSD : Nat} {sSD : Array (Option Value)} {fS tRr tLl tUu tDd : Addr} {esS : Array DictEntry} {nS : Nat} {oRr : Option Addr} {iRr : Array Value} {nRr : Nat} {sRr : Array (Option Value)} {oLl : Option Addr} {iLl : Array Value} {nLl : Nat} {sLl : Array (Option Value)} {oUu : Option Addr} {iUu : Array Value} {nUu : Nat} {sUu : Array (Option Value)} {oDd : Option Addr} {iDd : Array Value} {nDd : Nat} {sDd : Array (Option Value)} {Tb Tg : Addr}
    (aCKind : PySem.W.nsIn K mainGlobals "Kind" = some (some (.ref cAKind)))
    (pgKind : PySem.W.plainGet K cAKind Str.empty = true)
    (hdKind : PySem.W.hasDictIn K cAKind = true)
    (poKind : PySem.W.plainOver K cAKind = true)
    (saKind : PySem.W.findIn K (.ref cAKind) "__setattr__" = some (some (.builtin "object.__setattr__")))
    (mkKind : PySem.W.makesIn K cAKind = true)
    (kcKind : PySem.W.keepIn K (.ref cAKind) = true)
    (nFKind_name : PySem.W.findIn K (.ref cAKind) "name" = some none)
    (nFKind_leaps : PySem.W.findIn K (.ref cAKind) "leaps" = some none)
    (nFKind_rides : PySem.W.findIn K (.ref cAKind) "rides" = some none)
    (nFKind_is_lord : PySem.W.findIn K (.ref cAKind) "is_lord" = some none)
    (aCGame : PySem.W.nsIn K mainGlobals "Game" = some (some (.ref cAGame)))
    (pgGame : PySem.W.plainGet K cAGame Str.empty = true)
    (hdGame : PySem.W.hasDictIn K cAGame = true)
    (poGame : PySem.W.plainOver K cAGame = true)
    (saGame : PySem.W.findIn K (.ref cAGame) "__setattr__" = some (some (.builtin "object.__setattr__")))
    (mkGame : PySem.W.makesIn K cAGame = true)
    (kcGame : PySem.W.keepIn K (.ref cAGame) = true)
    (nFGame_kinds : PySem.W.findIn K (.ref cAGame) "kinds" = some none)
    (nFGame_edges : PySem.W.findIn K (.ref cAGame) "edges" = some none)
    (nFGame_goal : PySem.W.findIn K (.ref cAGame) "goal" = some none)
    (nFGame_table : PySem.W.findIn K (.ref cAGame) "table" = some none)
    (nFGame_farthest : PySem.W.findIn K (.ref cAGame) "farthest" = some none)
    (aCPosition : PySem.W.nsIn K mainGlobals "Position" = some (some (.ref cAPosition)))
    (pgPosition : PySem.W.plainGet K cAPosition Str.empty = true)
    (hdPosition : PySem.W.hasDictIn K cAPosition = true)
    (poPosition : PySem.W.plainOver K cAPosition = true)
    (saPosition : PySem.W.findIn K (.ref cAPosition) "__setattr__" = some (some (.builtin "object.__setattr__")))
    (mkPosition : PySem.W.makesIn K cAPosition = true)
    (kcPosition : PySem.W.keepIn K (.ref cAPosition) = true)
    (nFPosition_game : PySem.W.findIn K (.ref cAPosition) "game" = some none)
    (nFPosition_pieces : PySem.W.findIn K (.ref cAPosition) "pieces" = some none)
    (nFPosition_stones : PySem.W.findIn K (.ref cAPosition) "stones" = some none)
    (nFPosition_turn : PySem.W.findIn K (.ref cAPosition) "turn" = some none)
    (nFPosition_standing : PySem.W.findIn K (.ref cAPosition) "standing" = some none)
    (nFPosition_lords : PySem.W.findIn K (.ref cAPosition) "lords" = some none)
    (aCFieldError : PySem.W.nsIn K mainGlobals "FieldError" = some (some (.ref cAFieldError)))
    (xLFieldError : K.lookup cAFieldError = some (excClassObj nmFieldError qFieldError cAFieldError NFieldError bsFieldError bmFieldError true snFieldError subFieldError abFieldError colFieldError ddFieldError m0FieldError m1FieldError m2FieldError m3FieldError m5FieldError "ValueError.__new__"))
    (rfFieldError : PySem.HandSPX.refsVE bmFieldError = true)
    (saFieldError : PySem.W.findIn K (.ref cAFieldError) "__setattr__" = some (some (.builtin "object.__setattr__")))
    (eCFieldError : PySem.W.subIn K (.ref cAFieldError) (.type "BaseException") = some true)
    (tCFieldError : PySem.W.typeIn K (.ref cAFieldError) = some (.type "type"))
    (kcFieldError : PySem.W.keepIn K (.ref cAFieldError) = true)
    (hdFieldError : PySem.W.hasDictIn K cAFieldError = true)
    (iCFieldError : PySem.W.isClsIn K cAFieldError = true)
    (gaFieldError : PySem.W.findIn K (.ref cAFieldError) "__getattribute__" = some (some (.builtin "BaseException.__getattribute__")))
    (ggFieldError : PySem.W.findIn K (.ref cAFieldError) "__getattr__" = some none)
    (aCBadNumber : PySem.W.nsIn K mainGlobals "BadNumber" = some (some (.ref cABadNumber)))
    (xLBadNumber : K.lookup cABadNumber = some (excClassObj nmBadNumber qBadNumber cABadNumber NBadNumber bsBadNumber bmBadNumber true snBadNumber subBadNumber abBadNumber colBadNumber ddBadNumber m0BadNumber m1BadNumber m2BadNumber m3BadNumber m5BadNumber "ValueError.__new__"))
    (rfBadNumber : PySem.HandSPX.refsVE bmBadNumber = true)
    (saBadNumber : PySem.W.findIn K (.ref cABadNumber) "__setattr__" = some (some (.builtin "object.__setattr__")))
    (eCBadNumber : PySem.W.subIn K (.ref cABadNumber) (.type "BaseException") = some true)
    (tCBadNumber : PySem.W.typeIn K (.ref cABadNumber) = some (.type "type"))
    (kcBadNumber : PySem.W.keepIn K (.ref cABadNumber) = true)
    (hdBadNumber : PySem.W.hasDictIn K cABadNumber = true)
    (iCBadNumber : PySem.W.isClsIn K cABadNumber = true)
    (gaBadNumber : PySem.W.findIn K (.ref cABadNumber) "__getattribute__" = some (some (.builtin "BaseException.__getattribute__")))
    (ggBadNumber : PySem.W.findIn K (.ref cABadNumber) "__getattr__" = some none)
    (noBadNumber_part : PySem.W.findIn K (.ref cABadNumber) "part" = some none)
    (aCBadKind : PySem.W.nsIn K mainGlobals "BadKind" = some (some (.ref cABadKind)))
    (xLBadKind : K.lookup cABadKind = some (excClassObj nmBadKind qBadKind cABadKind NBadKind bsBadKind bmBadKind true snBadKind subBadKind abBadKind colBadKind ddBadKind m0BadKind m1BadKind m2BadKind m3BadKind m5BadKind "ValueError.__new__"))
    (rfBadKind : PySem.HandSPX.refsVE bmBadKind = true)
    (saBadKind : PySem.W.findIn K (.ref cABadKind) "__setattr__" = some (some (.builtin "object.__setattr__")))
    (eCBadKind : PySem.W.subIn K (.ref cABadKind) (.type "BaseException") = some true)
    (tCBadKind : PySem.W.typeIn K (.ref cABadKind) = some (.type "type"))
    (kcBadKind : PySem.W.keepIn K (.ref cABadKind) = true)
    (hdBadKind : PySem.W.hasDictIn K cABadKind = true)
    (iCBadKind : PySem.W.isClsIn K cABadKind = true)
    (gaBadKind : PySem.W.findIn K (.ref cABadKind) "__getattribute__" = some (some (.builtin "BaseException.__getattribute__")))
    (ggBadKind : PySem.W.findIn K (.ref cABadKind) "__getattr__" = some none)
    (noBadKind_part : PySem.W.findIn K (.ref cABadKind) "part" = some none)
    (aCBadGame : PySem.W.nsIn K mainGlobals "BadGame" = some (some (.ref cABadGame)))
    (xLBadGame : K.lookup cABadGame = some (excClassObj nmBadGame qBadGame cABadGame NBadGame bsBadGame bmBadGame true snBadGame subBadGame abBadGame colBadGame ddBadGame m0BadGame m1BadGame m2BadGame m3BadGame m5BadGame "ValueError.__new__"))
    (rfBadGame : PySem.HandSPX.refsVE bmBadGame = true)
    (saBadGame : PySem.W.findIn K (.ref cABadGame) "__setattr__" = some (some (.builtin "object.__setattr__")))
    (eCBadGame : PySem.W.subIn K (.ref cABadGame) (.type "BaseException") = some true)
    (tCBadGame : PySem.W.typeIn K (.ref cABadGame) = some (.type "type"))
    (kcBadGame : PySem.W.keepIn K (.ref cABadGame) = true)
    (hdBadGame : PySem.W.hasDictIn K cABadGame = true)
    (iCBadGame : PySem.W.isClsIn K cABadGame = true)
    (gaBadGame : PySem.W.findIn K (.ref cABadGame) "__getattribute__" = some (some (.builtin "BaseException.__getattribute__")))
    (ggBadGame : PySem.W.findIn K (.ref cABadGame) "__getattr__" = some none)
    (noBadGame_part : PySem.W.findIn K (.ref cABadGame) "part" = some none)
    (aCBadPosition : PySem.W.nsIn K mainGlobals "BadPosition" = some (some (.ref cABadPosition)))
    (xLBadPosition : K.lookup cABadPosition = some (excClassObj nmBadPosition qBadPosition cABadPosition NBadPosition bsBadPosition bmBadPosition true snBadPosition subBadPosition abBadPosition colBadPosition ddBadPosition m0BadPosition m1BadPosition m2BadPosition m3BadPosition m5BadPosition "ValueError.__new__"))
    (rfBadPosition : PySem.HandSPX.refsVE bmBadPosition = true)
    (saBadPosition : PySem.W.findIn K (.ref cABadPosition) "__setattr__" = some (some (.builtin "object.__setattr__")))
    (eCBadPosition : PySem.W.subIn K (.ref cABadPosition) (.type "BaseException") = some true)
    (tCBadPosition : PySem.W.typeIn K (.ref cABadPosition) = some (.type "type"))
    (kcBadPosition : PySem.W.keepIn K (.ref cABadPosition) = true)
    (hdBadPosition : PySem.W.hasDictIn K cABadPosition = true)
    (iCBadPosition : PySem.W.isClsIn K cABadPosition = true)
    (gaBadPosition : PySem.W.findIn K (.ref cABadPosition) "__getattribute__" = some (some (.builtin "BaseException.__getattribute__")))
    (ggBadPosition : PySem.W.findIn K (.ref cABadPosition) "__getattr__" = some none)
    (noBadPosition_part : PySem.W.findIn K (.ref cABadPosition) "part" = some none)
    (aCBadMove : PySem.W.nsIn K mainGlobals "BadMove" = some (some (.ref cABadMove)))
    (xLBadMove : K.lookup cABadMove = some (excClassObj nmBadMove qBadMove cABadMove NBadMove bsBadMove bmBadMove true snBadMove subBadMove abBadMove colBadMove ddBadMove m0BadMove m1BadMove m2BadMove m3BadMove m5BadMove "ValueError.__new__"))
    (rfBadMove : PySem.HandSPX.refsVE bmBadMove = true)
    (saBadMove : PySem.W.findIn K (.ref cABadMove) "__setattr__" = some (some (.builtin "object.__setattr__")))
    (eCBadMove : PySem.W.subIn K (.ref cABadMove) (.type "BaseException") = some true)
    (tCBadMove : PySem.W.typeIn K (.ref cABadMove) = some (.type "type"))
    (kcBadMove : PySem.W.keepIn K (.ref cABadMove) = true)
    (hdBadMove : PySem.W.hasDictIn K cABadMove = true)
    (iCBadMove : PySem.W.isClsIn K cABadMove = true)
    (gaBadMove : PySem.W.findIn K (.ref cABadMove) "__getattribute__" = some (some (.builtin "BaseException.__getattribute__")))
    (ggBadMove : PySem.W.findIn K (.ref cABadMove) "__getattr__" = some none)
    (noBadMove_part : PySem.W.findIn K (.ref cABadMove) "part" = some none)
    (aCBadWords : PySem.W.nsIn K mainGlobals "BadWords" = some (some (.ref cABadWords)))
    (xLBadWords : K.lookup cABadWords = some (excClassObj nmBadWords qBadWords cABadWords NBadWords bsBadWords bmBadWords true snBadWords subBadWords abBadWords colBadWords ddBadWords m0BadWords m1BadWords m2BadWords m3BadWords m5BadWords "ValueError.__new__"))
    (rfBadWords : PySem.HandSPX.refsVE bmBadWords = true)
    (saBadWords : PySem.W.findIn K (.ref cABadWords) "__setattr__" = some (some (.builtin "object.__setattr__")))
    (eCBadWords : PySem.W.subIn K (.ref cABadWords) (.type "BaseException") = some true)
    (tCBadWords : PySem.W.typeIn K (.ref cABadWords) = some (.type "type"))
    (kcBadWords : PySem.W.keepIn K (.ref cABadWords) = true)
    (hdBadWords : PySem.W.hasDictIn K cABadWords = true)
    (iCBadWords : PySem.W.isClsIn K cABadWords = true)
    (gaBadWords : PySem.W.findIn K (.ref cABadWords) "__getattribute__" = some (some (.builtin "BaseException.__getattribute__")))
    (ggBadWords : PySem.W.findIn K (.ref cABadWords) "__getattr__" = some none)
    (noBadWords_part : PySem.W.findIn K (.ref cABadWords) "part" = some none)
    (aCMisfit : PySem.W.nsIn K mainGlobals "Misfit" = some (some (.ref cAMisfit)))
    (xLMisfit : K.lookup cAMisfit = some (excClassObj nmMisfit qMisfit cAMisfit NMisfit bsMisfit bmMisfit true snMisfit subMisfit abMisfit colMisfit ddMisfit m0Misfit m1Misfit m2Misfit m3Misfit m5Misfit "ValueError.__new__"))
    (rfMisfit : PySem.HandSPX.refsVE bmMisfit = true)
    (saMisfit : PySem.W.findIn K (.ref cAMisfit) "__setattr__" = some (some (.builtin "object.__setattr__")))
    (eCMisfit : PySem.W.subIn K (.ref cAMisfit) (.type "BaseException") = some true)
    (tCMisfit : PySem.W.typeIn K (.ref cAMisfit) = some (.type "type"))
    (kcMisfit : PySem.W.keepIn K (.ref cAMisfit) = true)
    (hdMisfit : PySem.W.hasDictIn K cAMisfit = true)
    (iCMisfit : PySem.W.isClsIn K cAMisfit = true)
    (gaMisfit : PySem.W.findIn K (.ref cAMisfit) "__getattribute__" = some (some (.builtin "BaseException.__getattribute__")))
    (ggMisfit : PySem.W.findIn K (.ref cAMisfit) "__getattr__" = some none)
    (noMisfit_part : PySem.W.findIn K (.ref cAMisfit) "part" = some none)
    (xmBadPosition_FieldError : PySem.W.subIn K (.ref cABadPosition) (.ref cAFieldError) = some true)
    (xmBadMove_FieldError : PySem.W.subIn K (.ref cABadMove) (.ref cAFieldError) = some true)
    (xmBadWords_FieldError : PySem.W.subIn K (.ref cABadWords) (.ref cAFieldError) = some true)
    (xmBadNumber_FieldError : PySem.W.subIn K (.ref cABadNumber) (.ref cAFieldError) = some true)
    (a0 : PySem.W.nsIn K mainGlobals "is_integer" = some (some (.ref f0)))
    (l0 : K.lookup f0 = some ⟨oc0, od0, .func (PySem.W.fnOf "is_integer" "is_integer" (defArgs s_is_integer) (defBody s_is_integer) (defScope s_is_integer) .none kV0 dc0 pm0 an0 cd0 ct0), sl0⟩)
    (c0 : PySem.W.codeIn K cd0 "is_integer" = true)
    (k0 : PySem.W.keepIn K (.ref f0) = true)
    (a1 : PySem.W.nsIn K mainGlobals "is_within" = some (some (.ref f1)))
    (l1 : K.lookup f1 = some ⟨oc1, od1, .func (PySem.W.fnOf "is_within" "is_within" (defArgs s_is_within) (defBody s_is_within) (defScope s_is_within) .none kV1 dc1 pm1 an1 cd1 ct1), sl1⟩)
    (c1 : PySem.W.codeIn K cd1 "is_within" = true)
    (k1 : PySem.W.keepIn K (.ref f1) = true)
    (a2 : PySem.W.nsIn K mainGlobals "is_list" = some (some (.ref f2)))
    (l2 : K.lookup f2 = some ⟨oc2, od2, .func (PySem.W.fnOf "is_list" "is_list" (defArgs s_is_list) (defBody s_is_list) (defScope s_is_list) .none kV2 dc2 pm2 an2 cd2 ct2), sl2⟩)
    (c2 : PySem.W.codeIn K cd2 "is_list" = true)
    (k2 : PySem.W.keepIn K (.ref f2) = true)
    (a3 : PySem.W.nsIn K mainGlobals "is_square" = some (some (.ref f3)))
    (l3 : K.lookup f3 = some ⟨oc3, od3, .func (PySem.W.fnOf "is_square" "is_square" (defArgs s_is_square) (defBody s_is_square) (defScope s_is_square) .none kV3 dc3 pm3 an3 cd3 ct3), sl3⟩)
    (c3 : PySem.W.codeIn K cd3 "is_square" = true)
    (k3 : PySem.W.keepIn K (.ref f3) = true)
    (a4 : PySem.W.nsIn K mainGlobals "is_move" = some (some (.ref f4)))
    (l4 : K.lookup f4 = some ⟨oc4, od4, .func (PySem.W.fnOf "is_move" "is_move" (defArgs s_is_move) (defBody s_is_move) (defScope s_is_move) .none kV4 dc4 pm4 an4 cd4 ct4), sl4⟩)
    (c4 : PySem.W.codeIn K cd4 "is_move" = true)
    (k4 : PySem.W.keepIn K (.ref f4) = true)
    (a5 : PySem.W.nsIn K mainGlobals "is_name" = some (some (.ref f5)))
    (l5 : K.lookup f5 = some ⟨oc5, od5, .func (PySem.W.fnOf "is_name" "is_name" (defArgs s_is_name) (defBody s_is_name) (defScope s_is_name) .none kV5 dc5 pm5 an5 cd5 ct5), sl5⟩)
    (c5 : PySem.W.codeIn K cd5 "is_name" = true)
    (k5 : PySem.W.keepIn K (.ref f5) = true)
    (a6 : PySem.W.findIn K (.ref cABadNumber) "__init__" = some (some (.ref f6)))
    (t6 : PySem.W.typeIn K (.ref f6) = some (.type "function"))
    (l6 : K.lookup f6 = some ⟨oc6, od6, .func (PySem.W.fnOf "__init__" "BadNumber.__init__" (defArgs s_BadNumber___init__) (defBody s_BadNumber___init__) (defScope s_BadNumber___init__) .none kV6 dc6 pm6 an6 cd6 ct6), sl6⟩)
    (c6 : PySem.W.codeIn K cd6 "BadNumber.__init__" = true)
    (k6 : PySem.W.keepIn K (.ref f6) = true)
    (a7 : PySem.W.findIn K (.ref cABadKind) "__init__" = some (some (.ref f7)))
    (t7 : PySem.W.typeIn K (.ref f7) = some (.type "function"))
    (l7 : K.lookup f7 = some ⟨oc7, od7, .func (PySem.W.fnOf "__init__" "BadKind.__init__" (defArgs s_BadKind___init__) (defBody s_BadKind___init__) (defScope s_BadKind___init__) .none kV7 dc7 pm7 an7 cd7 ct7), sl7⟩)
    (c7 : PySem.W.codeIn K cd7 "BadKind.__init__" = true)
    (k7 : PySem.W.keepIn K (.ref f7) = true)
    (a8 : PySem.W.findIn K (.ref cABadGame) "__init__" = some (some (.ref f8)))
    (t8 : PySem.W.typeIn K (.ref f8) = some (.type "function"))
    (l8 : K.lookup f8 = some ⟨oc8, od8, .func (PySem.W.fnOf "__init__" "BadGame.__init__" (defArgs s_BadGame___init__) (defBody s_BadGame___init__) (defScope s_BadGame___init__) .none kV8 dc8 pm8 an8 cd8 ct8), sl8⟩)
    (c8 : PySem.W.codeIn K cd8 "BadGame.__init__" = true)
    (k8 : PySem.W.keepIn K (.ref f8) = true)
    (a9 : PySem.W.findIn K (.ref cABadPosition) "__init__" = some (some (.ref f9)))
    (t9 : PySem.W.typeIn K (.ref f9) = some (.type "function"))
    (l9 : K.lookup f9 = some ⟨oc9, od9, .func (PySem.W.fnOf "__init__" "BadPosition.__init__" (defArgs s_BadPosition___init__) (defBody s_BadPosition___init__) (defScope s_BadPosition___init__) .none kV9 dc9 pm9 an9 cd9 ct9), sl9⟩)
    (c9 : PySem.W.codeIn K cd9 "BadPosition.__init__" = true)
    (k9 : PySem.W.keepIn K (.ref f9) = true)
    (a10 : PySem.W.findIn K (.ref cABadMove) "__init__" = some (some (.ref f10)))
    (t10 : PySem.W.typeIn K (.ref f10) = some (.type "function"))
    (l10 : K.lookup f10 = some ⟨oc10, od10, .func (PySem.W.fnOf "__init__" "BadMove.__init__" (defArgs s_BadMove___init__) (defBody s_BadMove___init__) (defScope s_BadMove___init__) .none kV10 dc10 pm10 an10 cd10 ct10), sl10⟩)
    (c10 : PySem.W.codeIn K cd10 "BadMove.__init__" = true)
    (k10 : PySem.W.keepIn K (.ref f10) = true)
    (a11 : PySem.W.findIn K (.ref cABadWords) "__init__" = some (some (.ref f11)))
    (t11 : PySem.W.typeIn K (.ref f11) = some (.type "function"))
    (l11 : K.lookup f11 = some ⟨oc11, od11, .func (PySem.W.fnOf "__init__" "BadWords.__init__" (defArgs s_BadWords___init__) (defBody s_BadWords___init__) (defScope s_BadWords___init__) .none kV11 dc11 pm11 an11 cd11 ct11), sl11⟩)
    (c11 : PySem.W.codeIn K cd11 "BadWords.__init__" = true)
    (k11 : PySem.W.keepIn K (.ref f11) = true)
    (a12 : PySem.W.findIn K (.ref cAMisfit) "__init__" = some (some (.ref f12)))
    (t12 : PySem.W.typeIn K (.ref f12) = some (.type "function"))
    (l12 : K.lookup f12 = some ⟨oc12, od12, .func (PySem.W.fnOf "__init__" "Misfit.__init__" (defArgs s_Misfit___init__) (defBody s_Misfit___init__) (defScope s_Misfit___init__) .none kV12 dc12 pm12 an12 cd12 ct12), sl12⟩)
    (c12 : PySem.W.codeIn K cd12 "Misfit.__init__" = true)
    (k12 : PySem.W.keepIn K (.ref f12) = true)
    (a13 : PySem.W.findIn K (.ref cAKind) "__init__" = some (some (.ref f13)))
    (t13 : PySem.W.typeIn K (.ref f13) = some (.type "function"))
    (l13 : K.lookup f13 = some ⟨oc13, od13, .func (PySem.W.fnOf "__init__" "Kind.__init__" (defArgs s_Kind___init__) (defBody s_Kind___init__) (defScope s_Kind___init__) (.ref dT13) kV13 dc13 pm13 an13 cd13 ct13), sl13⟩)
    (c13 : PySem.W.codeIn K cd13 "Kind.__init__" = true)
    (k13 : PySem.W.keepIn K (.ref f13) = true)
    (dl13 : K.lookup dT13 = some ⟨.type "tuple", dO13, .seq dI13 dN13, dS13⟩)
    (vE : Vals [.ref eT, .bl false] dI13.toList)
    (lE : K.lookup eT = some ⟨.type "tuple", eO, .seq eI eN, eS⟩)
    (zE : eI.size ≤ sizeLine)
    (uE : Vals [] eI.toList)
    (a14 : PySem.W.findIn K (.ref cAKind) "__str__" = some (some (.ref f14)))
    (t14 : PySem.W.typeIn K (.ref f14) = some (.type "function"))
    (l14 : K.lookup f14 = some ⟨oc14, od14, .func (PySem.W.fnOf "__str__" "Kind.__str__" (defArgs s_Kind___str__) (defBody s_Kind___str__) (defScope s_Kind___str__) .none kV14 dc14 pm14 an14 cd14 ct14), sl14⟩)
    (c14 : PySem.W.codeIn K cd14 "Kind.__str__" = true)
    (k14 : PySem.W.keepIn K (.ref f14) = true)
    (a15 : PySem.W.nsIn K mainGlobals "are_leaps" = some (some (.ref f15)))
    (l15 : K.lookup f15 = some ⟨oc15, od15, .func (PySem.W.fnOf "are_leaps" "are_leaps" (defArgs s_are_leaps) (defBody s_are_leaps) (defScope s_are_leaps) .none kV15 dc15 pm15 an15 cd15 ct15), sl15⟩)
    (c15 : PySem.W.codeIn K cd15 "are_leaps" = true)
    (k15 : PySem.W.keepIn K (.ref f15) = true)
    (a16 : PySem.W.nsIn K mainGlobals "is_leap" = some (some (.ref f16)))
    (l16 : K.lookup f16 = some ⟨oc16, od16, .func (PySem.W.fnOf "is_leap" "is_leap" (defArgs s_is_leap) (defBody s_is_leap) (defScope s_is_leap) .none kV16 dc16 pm16 an16 cd16 ct16), sl16⟩)
    (c16 : PySem.W.codeIn K cd16 "is_leap" = true)
    (k16 : PySem.W.keepIn K (.ref f16) = true)
    (a17 : PySem.W.nsIn K mainGlobals "is_leap_part" = some (some (.ref f17)))
    (l17 : K.lookup f17 = some ⟨oc17, od17, .func (PySem.W.fnOf "is_leap_part" "is_leap_part" (defArgs s_is_leap_part) (defBody s_is_leap_part) (defScope s_is_leap_part) .none kV17 dc17 pm17 an17 cd17 ct17), sl17⟩)
    (c17 : PySem.W.codeIn K cd17 "is_leap_part" = true)
    (k17 : PySem.W.keepIn K (.ref f17) = true)
    (a18 : PySem.W.nsIn K mainGlobals "are_rides" = some (some (.ref f18)))
    (l18 : K.lookup f18 = some ⟨oc18, od18, .func (PySem.W.fnOf "are_rides" "are_rides" (defArgs s_are_rides) (defBody s_are_rides) (defScope s_are_rides) .none kV18 dc18 pm18 an18 cd18 ct18), sl18⟩)
    (c18 : PySem.W.codeIn K cd18 "are_rides" = true)
    (k18 : PySem.W.keepIn K (.ref f18) = true)
    (a19 : PySem.W.nsIn K mainGlobals "is_ride" = some (some (.ref f19)))
    (l19 : K.lookup f19 = some ⟨oc19, od19, .func (PySem.W.fnOf "is_ride" "is_ride" (defArgs s_is_ride) (defBody s_is_ride) (defScope s_is_ride) .none kV19 dc19 pm19 an19 cd19 ct19), sl19⟩)
    (c19 : PySem.W.codeIn K cd19 "is_ride" = true)
    (k19 : PySem.W.keepIn K (.ref f19) = true)
    (a20 : PySem.W.findIn K (.ref cAGame) "__init__" = some (some (.ref f20)))
    (t20 : PySem.W.typeIn K (.ref f20) = some (.type "function"))
    (l20 : K.lookup f20 = some ⟨oc20, od20, .func (PySem.W.fnOf "__init__" "Game.__init__" (defArgs s_Game___init__) (defBody s_Game___init__) (defScope s_Game___init__) (.ref dT20) kV20 dc20 pm20 an20 (.ref ccG) ct20), sl20⟩)
    (c20 : PySem.W.codeIn K (.ref ccG) "Game.__init__" = true)
    (k20 : PySem.W.keepIn K (.ref f20) = true)
    (dl20 : K.lookup dT20 = some ⟨.type "tuple", dO20, .seq dI20 dN20, dS20⟩)
    (vG : Vals [.ref n4T, .ref h1T] dI20.toList)
    (a21 : PySem.W.findIn K (.ref cAGame) "__str__" = some (some (.ref f21)))
    (t21 : PySem.W.typeIn K (.ref f21) = some (.type "function"))
    (l21 : K.lookup f21 = some ⟨oc21, od21, .func (PySem.W.fnOf "__str__" "Game.__str__" (defArgs s_Game___str__) (defBody s_Game___str__) (defScope s_Game___str__) .none kV21 dc21 pm21 an21 cd21 ct21), sl21⟩)
    (c21 : PySem.W.codeIn K cd21 "Game.__str__" = true)
    (k21 : PySem.W.keepIn K (.ref f21) = true)
    (a22 : PySem.W.nsIn K mainGlobals "are_kinds" = some (some (.ref f22)))
    (l22 : K.lookup f22 = some ⟨oc22, od22, .func (PySem.W.fnOf "are_kinds" "are_kinds" (defArgs s_are_kinds) (defBody s_are_kinds) (defScope s_are_kinds) .none kV22 dc22 pm22 an22 cd22 ct22), sl22⟩)
    (c22 : PySem.W.codeIn K cd22 "are_kinds" = true)
    (k22 : PySem.W.keepIn K (.ref f22) = true)
    (a23 : PySem.W.nsIn K mainGlobals "are_edges" = some (some (.ref f23)))
    (l23 : K.lookup f23 = some ⟨oc23, od23, .func (PySem.W.fnOf "are_edges" "are_edges" (defArgs s_are_edges) (defBody s_are_edges) (defScope s_are_edges) .none kV23 dc23 pm23 an23 cd23 ct23), sl23⟩)
    (c23 : PySem.W.codeIn K cd23 "are_edges" = true)
    (k23 : PySem.W.keepIn K (.ref f23) = true)
    (a24 : PySem.W.nsIn K mainGlobals "is_not_above" = some (some (.ref f24)))
    (l24 : K.lookup f24 = some ⟨oc24, od24, .func (PySem.W.fnOf "is_not_above" "is_not_above" (defArgs s_is_not_above) (defBody s_is_not_above) (defScope s_is_not_above) .none kV24 dc24 pm24 an24 cd24 ct24), sl24⟩)
    (c24 : PySem.W.codeIn K cd24 "is_not_above" = true)
    (k24 : PySem.W.keepIn K (.ref f24) = true)
    (a25 : PySem.W.nsIn K mainGlobals "is_goal" = some (some (.ref f25)))
    (l25 : K.lookup f25 = some ⟨oc25, od25, .func (PySem.W.fnOf "is_goal" "is_goal" (defArgs s_is_goal) (defBody s_is_goal) (defScope s_is_goal) .none kV25 dc25 pm25 an25 cd25 ct25), sl25⟩)
    (c25 : PySem.W.codeIn K cd25 "is_goal" = true)
    (k25 : PySem.W.keepIn K (.ref f25) = true)
    (a26 : PySem.W.nsIn K mainGlobals "is_between" = some (some (.ref f26)))
    (l26 : K.lookup f26 = some ⟨oc26, od26, .func (PySem.W.fnOf "is_between" "is_between" (defArgs s_is_between) (defBody s_is_between) (defScope s_is_between) .none kV26 dc26 pm26 an26 cd26 ct26), sl26⟩)
    (c26 : PySem.W.codeIn K cd26 "is_between" = true)
    (k26 : PySem.W.keepIn K (.ref f26) = true)
    (a27 : PySem.W.findIn K (.ref cAPosition) "__init__" = some (some (.ref f27)))
    (t27 : PySem.W.typeIn K (.ref f27) = some (.type "function"))
    (l27 : K.lookup f27 = some ⟨oc27, od27, .func (PySem.W.fnOf "__init__" "Position.__init__" (defArgs s_Position___init__) (defBody s_Position___init__) (defScope s_Position___init__) (.ref dT27) kV27 dc27 pm27 an27 cd27 ct27), sl27⟩)
    (c27 : PySem.W.codeIn K cd27 "Position.__init__" = true)
    (k27 : PySem.W.keepIn K (.ref f27) = true)
    (dl27 : K.lookup dT27 = some ⟨.type "tuple", dO27, .seq dI27 dN27, dS27⟩)
    (vP : Vals [.ref peT, .int 0] dI27.toList)
    (a28 : PySem.W.findIn K (.ref cAPosition) "__str__" = some (some (.ref f28)))
    (t28 : PySem.W.typeIn K (.ref f28) = some (.type "function"))
    (l28 : K.lookup f28 = some ⟨oc28, od28, .func (PySem.W.fnOf "__str__" "Position.__str__" (defArgs s_Position___str__) (defBody s_Position___str__) (defScope s_Position___str__) .none kV28 dc28 pm28 an28 cd28 ct28), sl28⟩)
    (c28 : PySem.W.codeIn K cd28 "Position.__str__" = true)
    (k28 : PySem.W.keepIn K (.ref f28) = true)
    (a29 : PySem.W.nsIn K mainGlobals "need_position" = some (some (.ref f29)))
    (l29 : K.lookup f29 = some ⟨oc29, od29, .func (PySem.W.fnOf "need_position" "need_position" (defArgs s_need_position) (defBody s_need_position) (defScope s_need_position) .none kV29 dc29 pm29 an29 cd29 ct29), sl29⟩)
    (c29 : PySem.W.codeIn K cd29 "need_position" = true)
    (k29 : PySem.W.keepIn K (.ref f29) = true)
    (a30 : PySem.W.nsIn K mainGlobals "are_pieces" = some (some (.ref f30)))
    (l30 : K.lookup f30 = some ⟨oc30, od30, .func (PySem.W.fnOf "are_pieces" "are_pieces" (defArgs s_are_pieces) (defBody s_are_pieces) (defScope s_are_pieces) .none kV30 dc30 pm30 an30 cd30 ct30), sl30⟩)
    (c30 : PySem.W.codeIn K cd30 "are_pieces" = true)
    (k30 : PySem.W.keepIn K (.ref f30) = true)
    (a31 : PySem.W.nsIn K mainGlobals "is_piece" = some (some (.ref f31)))
    (l31 : K.lookup f31 = some ⟨oc31, od31, .func (PySem.W.fnOf "is_piece" "is_piece" (defArgs s_is_piece) (defBody s_is_piece) (defScope s_is_piece) .none kV31 dc31 pm31 an31 cd31 ct31), sl31⟩)
    (c31 : PySem.W.codeIn K cd31 "is_piece" = true)
    (k31 : PySem.W.keepIn K (.ref f31) = true)
    (a32 : PySem.W.nsIn K mainGlobals "are_stones" = some (some (.ref f32)))
    (l32 : K.lookup f32 = some ⟨oc32, od32, .func (PySem.W.fnOf "are_stones" "are_stones" (defArgs s_are_stones) (defBody s_are_stones) (defScope s_are_stones) .none kV32 dc32 pm32 an32 cd32 ct32), sl32⟩)
    (c32 : PySem.W.codeIn K cd32 "are_stones" = true)
    (k32 : PySem.W.keepIn K (.ref f32) = true)
    (a33 : PySem.W.nsIn K mainGlobals "do_pieces_fit" = some (some (.ref f33)))
    (l33 : K.lookup f33 = some ⟨oc33, od33, .func (PySem.W.fnOf "do_pieces_fit" "do_pieces_fit" (defArgs s_do_pieces_fit) (defBody s_do_pieces_fit) (defScope s_do_pieces_fit) .none kV33 dc33 pm33 an33 cd33 ct33), sl33⟩)
    (c33 : PySem.W.codeIn K cd33 "do_pieces_fit" = true)
    (k33 : PySem.W.keepIn K (.ref f33) = true)
    (a34 : PySem.W.nsIn K mainGlobals "do_stones_fit" = some (some (.ref f34)))
    (l34 : K.lookup f34 = some ⟨oc34, od34, .func (PySem.W.fnOf "do_stones_fit" "do_stones_fit" (defArgs s_do_stones_fit) (defBody s_do_stones_fit) (defScope s_do_stones_fit) .none kV34 dc34 pm34 an34 cd34 ct34), sl34⟩)
    (c34 : PySem.W.codeIn K cd34 "do_stones_fit" = true)
    (k34 : PySem.W.keepIn K (.ref f34) = true)
    (a35 : PySem.W.nsIn K mainGlobals "squares_of" = some (some (.ref f35)))
    (l35 : K.lookup f35 = some ⟨oc35, od35, .func (PySem.W.fnOf "squares_of" "squares_of" (defArgs s_squares_of) (defBody s_squares_of) (defScope s_squares_of) .none kV35 dc35 pm35 an35 cd35 ct35), sl35⟩)
    (c35 : PySem.W.codeIn K cd35 "squares_of" = true)
    (k35 : PySem.W.keepIn K (.ref f35) = true)
    (a36 : PySem.W.nsIn K mainGlobals "are_on_field" = some (some (.ref f36)))
    (l36 : K.lookup f36 = some ⟨oc36, od36, .func (PySem.W.fnOf "are_on_field" "are_on_field" (defArgs s_are_on_field) (defBody s_are_on_field) (defScope s_are_on_field) .none kV36 dc36 pm36 an36 cd36 ct36), sl36⟩)
    (c36 : PySem.W.codeIn K cd36 "are_on_field" = true)
    (k36 : PySem.W.keepIn K (.ref f36) = true)
    (a37 : PySem.W.nsIn K mainGlobals "standing_of" = some (some (.ref f37)))
    (l37 : K.lookup f37 = some ⟨oc37, od37, .func (PySem.W.fnOf "standing_of" "standing_of" (defArgs s_standing_of) (defBody s_standing_of) (defScope s_standing_of) .none kV37 dc37 pm37 an37 cd37 ct37), sl37⟩)
    (c37 : PySem.W.codeIn K cd37 "standing_of" = true)
    (k37 : PySem.W.keepIn K (.ref f37) = true)
    (a38 : PySem.W.nsIn K mainGlobals "lords_of" = some (some (.ref f38)))
    (l38 : K.lookup f38 = some ⟨oc38, od38, .func (PySem.W.fnOf "lords_of" "lords_of" (defArgs s_lords_of) (defBody s_lords_of) (defScope s_lords_of) .none kV38 dc38 pm38 an38 cd38 ct38), sl38⟩)
    (c38 : PySem.W.codeIn K cd38 "lords_of" = true)
    (k38 : PySem.W.keepIn K (.ref f38) = true)
    (a39 : PySem.W.nsIn K mainGlobals "turned" = some (some (.ref f39)))
    (l39 : K.lookup f39 = some ⟨oc39, od39, .func (PySem.W.fnOf "turned" "turned" (defArgs s_turned) (defBody s_turned) (defScope s_turned) .none kV39 dc39 pm39 an39 cd39 ct39), sl39⟩)
    (c39 : PySem.W.codeIn K cd39 "turned" = true)
    (k39 : PySem.W.keepIn K (.ref f39) = true)
    (a40 : PySem.W.nsIn K mainGlobals "mirrored" = some (some (.ref f40)))
    (l40 : K.lookup f40 = some ⟨oc40, od40, .func (PySem.W.fnOf "mirrored" "mirrored" (defArgs s_mirrored) (defBody s_mirrored) (defScope s_mirrored) .none kV40 dc40 pm40 an40 cd40 ct40), sl40⟩)
    (c40 : PySem.W.codeIn K cd40 "mirrored" = true)
    (k40 : PySem.W.keepIn K (.ref f40) = true)
    (a41 : PySem.W.nsIn K mainGlobals "moved" = some (some (.ref f41)))
    (l41 : K.lookup f41 = some ⟨oc41, od41, .func (PySem.W.fnOf "moved" "moved" (defArgs s_moved) (defBody s_moved) (defScope s_moved) .none kV41 dc41 pm41 an41 cd41 ct41), sl41⟩)
    (c41 : PySem.W.codeIn K cd41 "moved" = true)
    (k41 : PySem.W.keepIn K (.ref f41) = true)
    (a42 : PySem.W.nsIn K mainGlobals "gone_along" = some (some (.ref f42)))
    (l42 : K.lookup f42 = some ⟨oc42, od42, .func (PySem.W.fnOf "gone_along" "gone_along" (defArgs s_gone_along) (defBody s_gone_along) (defScope s_gone_along) (.ref dT42) kV42 dc42 pm42 an42 cd42 ct42), sl42⟩)
    (c42 : PySem.W.codeIn K cd42 "gone_along" = true)
    (k42 : PySem.W.keepIn K (.ref f42) = true)
    (dl42 : K.lookup dT42 = some ⟨.type "tuple", dO42, .seq dI42 dN42, dS42⟩)
    (vA : Vals [.int 0, .int 0] dI42.toList)
    (a43 : PySem.W.nsIn K mainGlobals "need_way" = some (some (.ref f43)))
    (l43 : K.lookup f43 = some ⟨oc43, od43, .func (PySem.W.fnOf "need_way" "need_way" (defArgs s_need_way) (defBody s_need_way) (defScope s_need_way) .none kV43 dc43 pm43 an43 cd43 ct43), sl43⟩)
    (c43 : PySem.W.codeIn K cd43 "need_way" = true)
    (k43 : PySem.W.keepIn K (.ref f43) = true)
    (a44 : PySem.W.nsIn K mainGlobals "pair_along" = some (some (.ref f44)))
    (l44 : K.lookup f44 = some ⟨oc44, od44, .func (PySem.W.fnOf "pair_along" "pair_along" (defArgs s_pair_along) (defBody s_pair_along) (defScope s_pair_along) .none kV44 dc44 pm44 an44 cd44 ct44), sl44⟩)
    (c44 : PySem.W.codeIn K cd44 "pair_along" = true)
    (k44 : PySem.W.keepIn K (.ref f44) = true)
    (a45 : PySem.W.nsIn K mainGlobals "_law_hinge" = some (some (.ref f45)))
    (l45 : K.lookup f45 = some ⟨oc45, od45, .func (PySem.W.fnOf "_law_hinge" "_law_hinge" (defArgs s__law_hinge) (defBody s__law_hinge) (defScope s__law_hinge) .none kV45 dc45 pm45 an45 cd45 ct45), sl45⟩)
    (c45 : PySem.W.codeIn K cd45 "_law_hinge" = true)
    (k45 : PySem.W.keepIn K (.ref f45) = true)
    (a46 : PySem.W.nsIn K mainGlobals "_law_swing" = some (some (.ref f46)))
    (l46 : K.lookup f46 = some ⟨oc46, od46, .func (PySem.W.fnOf "_law_swing" "_law_swing" (defArgs s__law_swing) (defBody s__law_swing) (defScope s__law_swing) .none kV46 dc46 pm46 an46 cd46 ct46), sl46⟩)
    (c46 : PySem.W.codeIn K cd46 "_law_swing" = true)
    (k46 : PySem.W.keepIn K (.ref f46) = true)
    (a47 : PySem.W.nsIn K mainGlobals "_law_one" = some (some (.ref f47)))
    (l47 : K.lookup f47 = some ⟨oc47, od47, .func (PySem.W.fnOf "_law_one" "_law_one" (defArgs s__law_one) (defBody s__law_one) (defScope s__law_one) .none kV47 dc47 pm47 an47 cd47 ct47), sl47⟩)
    (c47 : PySem.W.codeIn K cd47 "_law_one" = true)
    (k47 : PySem.W.keepIn K (.ref f47) = true)
    (a48 : PySem.W.nsIn K mainGlobals "_law_heard" = some (some (.ref f48)))
    (l48 : K.lookup f48 = some ⟨oc48, od48, .func (PySem.W.fnOf "_law_heard" "_law_heard" (defArgs s__law_heard) (defBody s__law_heard) (defScope s__law_heard) .none kV48 dc48 pm48 an48 cd48 ct48), sl48⟩)
    (c48 : PySem.W.codeIn K cd48 "_law_heard" = true)
    (k48 : PySem.W.keepIn K (.ref f48) = true)
    (a49 : PySem.W.nsIn K mainGlobals "law" = some (some (.ref f49)))
    (l49 : K.lookup f49 = some ⟨oc49, od49, .func (PySem.W.fnOf "law" "law" (defArgs s_law) (defBody s_law) (defScope s_law) .none kV49 dc49 pm49 an49 (.ref ccL) ct49), sl49⟩)
    (c49 : PySem.W.codeIn K (.ref ccL) "law" = true)
    (k49 : PySem.W.keepIn K (.ref f49) = true)
    (z0 : PySem.W.nsIn K mainGlobals "isinstance" = some none)
    (z1 : PySem.W.nsIn K mainGlobals "int" = some none)
    (z2 : PySem.W.nsIn K mainGlobals "bool" = some none)
    (z3 : PySem.W.nsIn K mainGlobals "list" = some none)
    (z4 : PySem.W.nsIn K mainGlobals "tuple" = some none)
    (z5 : PySem.W.nsIn K mainGlobals "len" = some none)
    (z6 : PySem.W.nsIn K mainGlobals "str" = some none)
    (z7 : PySem.W.nsIn K mainGlobals "all" = some none)
    (z8 : PySem.W.nsIn K mainGlobals "sorted" = some none)
    (z9 : PySem.W.nsIn K mainGlobals "set" = some none)
    (z10 : PySem.W.nsIn K mainGlobals "abs" = some none)
    (z11 : PySem.W.nsIn K mainGlobals "range" = some none)
    (z12 : PySem.W.nsIn K mainGlobals "repr" = some none)
    (z13 : PySem.W.nsIn K mainGlobals "max" = some none)
    (z14 : PySem.W.nsIn K mainGlobals "zip" = some none)
    (lN4 : K.lookup n4T = some ⟨.type "tuple", oN4, .seq iN4 nN4, sN4⟩)
    (zN4 : iN4.size ≤ sizeLine)
    (vN4 : Vals [.non, .non, .non, .non] iN4.toList)
    (lH1 : K.lookup h1T = some ⟨.type "tuple", oH1, .seq iH1 nH1, sH1⟩)
    (zH1 : iH1.size ≤ sizeLine)
    (vH1 : Vals [.str "hold"] iH1.toList)
    (lPE : K.lookup peT = some ⟨.type "tuple", oPE, .seq iPE nPE, sPE⟩)
    (zPE : iPE.size ≤ sizeLine)
    (vPE : Vals [] iPE.toList)
    (hn1 : PySem.W.specialIn K (.builtin "object.__class__") "__get__" = some (some (.builtin "getset_descriptor.__get__")))
    (tk1 : PySem.W.takesIn K (.builtin "object.__class__") = some true)
    (haKind : PySem.W.findIn K (.ref cAKind) "__class__" = some (some (.builtin "object.__class__")))
    (moKind : PySem.W.mroIn K cAKind (.type "object") = some true)
    (tCKind : PySem.W.typeIn K (.ref cAKind) = some (.type "type"))
    (iCKind : PySem.W.isClsIn K cAKind = true)
    (haGame : PySem.W.findIn K (.ref cAGame) "__class__" = some (some (.builtin "object.__class__")))
    (moGame : PySem.W.mroIn K cAGame (.type "object") = some true)
    (tCGame : PySem.W.typeIn K (.ref cAGame) = some (.type "type"))
    (iCGame : PySem.W.isClsIn K cAGame = true)
    (haPosition : PySem.W.findIn K (.ref cAPosition) "__class__" = some (some (.builtin "object.__class__")))
    (moPosition : PySem.W.mroIn K cAPosition (.type "object") = some true)
    (tCPosition : PySem.W.typeIn K (.ref cAPosition) = some (.type "type"))
    (iCPosition : PySem.W.isClsIn K cAPosition = true)
    (nnBadPosition : PySem.W.subIn K (.type "NoneType") (.ref cABadPosition) = some false)
    (nnBadMove : PySem.W.subIn K (.type "NoneType") (.ref cABadMove) = some false)
    (nnBadWords : PySem.W.subIn K (.type "NoneType") (.ref cABadWords) = some false)
    (nnBadNumber : PySem.W.subIn K (.type "NoneType") (.ref cABadNumber) = some false)
    (fmKind : PySem.W.findIn K (.ref cAKind) "__format__" = some (some (.builtin "object.__format__")))
    (kgP : PySem.W.subIn K (.ref cAGame) (.ref cAPosition) = some false)
    (ngP : (Value.ref cAGame == Value.ref cAPosition) = false)
    (kp_list : PySem.W.subIn K (.type "list") (.ref cAPosition) = some false)
    (kp_str : PySem.W.subIn K (.type "str") (.ref cAPosition) = some false)
    (kp_NoneType : PySem.W.subIn K (.type "NoneType") (.ref cAPosition) = some false)
    (kp_int : PySem.W.subIn K (.type "int") (.ref cAPosition) = some false)
    (kp_bool : PySem.W.subIn K (.type "bool") (.ref cAPosition) = some false)
    (kp_tuple : PySem.W.subIn K (.type "tuple") (.ref cAPosition) = some false)
    (kp_dict : PySem.W.subIn K (.type "dict") (.ref cAPosition) = some false)
    (kn_list : PySem.W.subIn K (.type "list") (.ref cAGame) = some false)
    (kn_str : PySem.W.subIn K (.type "str") (.ref cAGame) = some false)
    (kn_NoneType : PySem.W.subIn K (.type "NoneType") (.ref cAGame) = some false)
    (kn_int : PySem.W.subIn K (.type "int") (.ref cAGame) = some false)
    (kn_bool : PySem.W.subIn K (.type "bool") (.ref cAGame) = some false)
    (kn_tuple : PySem.W.subIn K (.type "tuple") (.ref cAGame) = some false)
    (kn_dict : PySem.W.subIn K (.type "dict") (.ref cAGame) = some false)
    (mN : ([cABadPosition, cABadMove, cABadWords, cABadNumber] : List Addr).Nodup)
    (mM : matB K [cABadPosition, cABadMove, cABadWords, cABadNumber] = true)
    (mX : ([cABadPosition, cABadMove, cABadWords, cABadNumber] : List Addr).all (xcB K) = true)
    (gL : PySem.W.nsIn K mainGlobals "LETTERS" = some (some (.str "abcdefghijklmnopqrstuvwxyz" tL1)))
    (gN : PySem.W.nsIn K mainGlobals "LONGEST_NAME" = some (some (.int 8 tN1)))
    (gP : PySem.W.nsIn K mainGlobals "LONGEST_LEAP" = some (some (.int 3 tP1)))
    (gMK : PySem.W.nsIn K mainGlobals "MOST_KINDS" = some (some (.int 8 tK1)))
    (gMP : PySem.W.nsIn K mainGlobals "MOST_PIECES" = some (some (.int 16 tM1)))
    (gMS : PySem.W.nsIn K mainGlobals "MOST_STONES" = some (some (.int 16 tM2)))
    (gWY : PySem.W.nsIn K mainGlobals "WAYS" = some (some (.ref fWY)))
    (lWY : K.lookup fWY = some ⟨.type "tuple", oWY, .seq iWY nWY, sWY⟩)
    (zWY : iWY.size ≤ sizeLine)
    (vWY : Vals [.str "turned", .str "mirrored", .str "moved"] iWY.toList)
    (gB : PySem.W.nsIn K mainGlobals "BARRED_NAMES" = some (some (.ref fB)))
    (lB : K.lookup fB = some ⟨.type "tuple", oB, .seq iB nB, sB⟩)
    (zB : iB.size ≤ sizeLine)
    (vB : Vals [.str "lord", .str "leaps", .str "rides", .str "stone"] iB.toList)
    (gSD : PySem.W.nsIn K mainGlobals "SIDES" = some (some (.ref fSD)))
    (lSD : K.lookup fSD = some ⟨.type "tuple", oSD, .seq iSD nSD, sSD⟩)
    (zSD : iSD.size ≤ sizeLine)
    (vSD : Vals [.str "left", .str "right", .str "low", .str "high"] iSD.toList)
    (gS : PySem.W.nsIn K mainGlobals "STEPS" = some (some (.ref fS)))
    (lS : K.lookup fS = some ⟨.type "dict", none, .dict esS nS, #[]⟩)
    (ktS : PySem.W.KeysLit w.params esS.toList)
    (loS : (fS == sysModules) = false)
    (zS : esS.size = 4)
    (eRS : ∃ en t, esS[0]? = some en ∧ en.key = .str "right" t ∧ RelV (.ref tRr) en.val)
    (eLS : ∃ en t, esS[1]? = some en ∧ en.key = .str "left" t ∧ RelV (.ref tLl) en.val)
    (eUS : ∃ en t, esS[2]? = some en ∧ en.key = .str "up" t ∧ RelV (.ref tUu) en.val)
    (eDS : ∃ en t, esS[3]? = some en ∧ en.key = .str "down" t ∧ RelV (.ref tDd) en.val)
    (lRr : K.lookup tRr = some ⟨.type "tuple", oRr, .seq iRr nRr, sRr⟩)
    (zRr : iRr.size ≤ sizeLine)
    (vRr : Vals [.int 1, .int 0] iRr.toList)
    (lLl : K.lookup tLl = some ⟨.type "tuple", oLl, .seq iLl nLl, sLl⟩)
    (zLl : iLl.size ≤ sizeLine)
    (vLl : Vals [.int (-1), .int 0] iLl.toList)
    (lUu : K.lookup tUu = some ⟨.type "tuple", oUu, .seq iUu nUu, sUu⟩)
    (zUu : iUu.size ≤ sizeLine)
    (vUu : Vals [.int 0, .int 1] iUu.toList)
    (lDd : K.lookup tDd = some ⟨.type "tuple", oDd, .seq iDd nDd, sDd⟩)
    (zDd : iDd.size ≤ sizeLine)
    (vDd : Vals [.int 0, .int (-1)] iDd.toList)
    (nT : K.lookup Tb = none)
    (hT : PySem.W.codeHdIn K ccL Tb = true)
    (nT2 : K.lookup Tg = none)
    (hT2 : PySem.W.codeHdIn K ccG Tg = true)
    (hneT : Tb ≠ Tg) :
    ∃ (fd : FuncData) (cc cc2 : Addr), (∀ (s : Shared) (v : Value), BindsTo s fd ⟨[v], []⟩ [("script", v)]) ∧ K.lookup Tb = none ∧ PySem.W.codeHdIn K cc Tb = true ∧ K.lookup Tg = none ∧ PySem.W.codeHdIn K cc2 Tg = true ∧
      ∀ base : Heap, K.In base → base.Ns mainGlobals mg → LamX.TabB base mg cc Tb → LamX.TabB base mg cc2 Tg → FnG l.prog w K mg base CX0 14 fa fd ["script"] (spLaw K Tb Tg) := by
  let T : Tx K mg w := {
      c_Kind := cAKind,
      m_Kind := PySem.W.mg_of X G aCKind,
      cl_Kind := ⟨pgKind, hdKind, poKind, saKind⟩,
      nF_Kind_name := nFKind_name,
      nF_Kind_leaps := nFKind_leaps,
      nF_Kind_rides := nFKind_rides,
      nF_Kind_is_lord := nFKind_is_lord,
      mk_Kind := ⟨mkKind, a13, isFn_of t13, kcKind⟩,
      c_Game := cAGame,
      m_Game := PySem.W.mg_of X G aCGame,
      cl_Game := ⟨pgGame, hdGame, poGame, saGame⟩,
      nF_Game_kinds := nFGame_kinds,
      nF_Game_edges := nFGame_edges,
      nF_Game_goal := nFGame_goal,
      nF_Game_table := nFGame_table,
      nF_Game_farthest := nFGame_farthest,
      mk_Game := ⟨mkGame, a20, isFn_of t20, kcGame⟩,
      c_Position := cAPosition,
      m_Position := PySem.W.mg_of X G aCPosition,
      cl_Position := ⟨pgPosition, hdPosition, poPosition, saPosition⟩,
      nF_Position_game := nFPosition_game,
      nF_Position_pieces := nFPosition_pieces,
      nF_Position_stones := nFPosition_stones,
      nF_Position_turn := nFPosition_turn,
      nF_Position_standing := nFPosition_standing,
      nF_Position_lords := nFPosition_lords,
      mk_Position := ⟨mkPosition, a27, isFn_of t27, kcPosition⟩,
      c_FieldError := cAFieldError,
      m_FieldError := PySem.W.mg_of X G aCFieldError,
      ox_FieldError := ⟨⟨_, _, _, _, _, _, _, _, _, _, _, _, _, _, _, xLFieldError, rfFieldError⟩, saFieldError, eCFieldError, tCFieldError, kcFieldError⟩,
      xf_FieldError := ⟨gaFieldError, ggFieldError, eCFieldError, hdFieldError⟩,
      c_BadNumber := cABadNumber,
      m_BadNumber := PySem.W.mg_of X G aCBadNumber,
      ox_BadNumber := ⟨⟨_, _, _, _, _, _, _, _, _, _, _, _, _, _, _, xLBadNumber, rfBadNumber⟩, saBadNumber, eCBadNumber, tCBadNumber, kcBadNumber⟩,
      xf_BadNumber := ⟨gaBadNumber, ggBadNumber, eCBadNumber, hdBadNumber⟩,
      no_BadNumber_part := noBadNumber_part,
      ic_BadNumber := a6,
      ti_BadNumber := t6,
      c_BadKind := cABadKind,
      m_BadKind := PySem.W.mg_of X G aCBadKind,
      ox_BadKind := ⟨⟨_, _, _, _, _, _, _, _, _, _, _, _, _, _, _, xLBadKind, rfBadKind⟩, saBadKind, eCBadKind, tCBadKind, kcBadKind⟩,
      xf_BadKind := ⟨gaBadKind, ggBadKind, eCBadKind, hdBadKind⟩,
      no_BadKind_part := noBadKind_part,
      ic_BadKind := a7,
      ti_BadKind := t7,
      c_BadGame := cABadGame,
      m_BadGame := PySem.W.mg_of X G aCBadGame,
      ox_BadGame := ⟨⟨_, _, _, _, _, _, _, _, _, _, _, _, _, _, _, xLBadGame, rfBadGame⟩, saBadGame, eCBadGame, tCBadGame, kcBadGame⟩,
      xf_BadGame := ⟨gaBadGame, ggBadGame, eCBadGame, hdBadGame⟩,
      no_BadGame_part := noBadGame_part,
      ic_BadGame := a8,
      ti_BadGame := t8,
      c_BadPosition := cABadPosition,
      m_BadPosition := PySem.W.mg_of X G aCBadPosition,
      ox_BadPosition := ⟨⟨_, _, _, _, _, _, _, _, _, _, _, _, _, _, _, xLBadPosition, rfBadPosition⟩, saBadPosition, eCBadPosition, tCBadPosition, kcBadPosition⟩,
      xf_BadPosition := ⟨gaBadPosition, ggBadPosition, eCBadPosition, hdBadPosition⟩,
      no_BadPosition_part := noBadPosition_part,
      ic_BadPosition := a9,
      ti_BadPosition := t9,
      c_BadMove := cABadMove,
      m_BadMove := PySem.W.mg_of X G aCBadMove,
      ox_BadMove := ⟨⟨_, _, _, _, _, _, _, _, _, _, _, _, _, _, _, xLBadMove, rfBadMove⟩, saBadMove, eCBadMove, tCBadMove, kcBadMove⟩,
      xf_BadMove := ⟨gaBadMove, ggBadMove, eCBadMove, hdBadMove⟩,
      no_BadMove_part := noBadMove_part,
      ic_BadMove := a10,
      ti_BadMove := t10,
      c_BadWords := cABadWords,
      m_BadWords := PySem.W.mg_of X G aCBadWords,
      ox_BadWords := ⟨⟨_, _, _, _, _, _, _, _, _, _, _, _, _, _, _, xLBadWords, rfBadWords⟩, saBadWords, eCBadWords, tCBadWords, kcBadWords⟩,
      xf_BadWords := ⟨gaBadWords, ggBadWords, eCBadWords, hdBadWords⟩,
      no_BadWords_part := noBadWords_part,
      ic_BadWords := a11,
      ti_BadWords := t11,
      c_Misfit := cAMisfit,
      m_Misfit := PySem.W.mg_of X G aCMisfit,
      ox_Misfit := ⟨⟨_, _, _, _, _, _, _, _, _, _, _, _, _, _, _, xLMisfit, rfMisfit⟩, saMisfit, eCMisfit, tCMisfit, kcMisfit⟩,
      xf_Misfit := ⟨gaMisfit, ggMisfit, eCMisfit, hdMisfit⟩,
      no_Misfit_part := noMisfit_part,
      ic_Misfit := a12,
      ti_Misfit := t12,
      xm_BadPosition_FieldError := exm_by eCFieldError iCFieldError tCFieldError xmBadPosition_FieldError,
      xm_BadMove_FieldError := exm_by eCFieldError iCFieldError tCFieldError xmBadMove_FieldError,
      xm_BadWords_FieldError := exm_by eCFieldError iCFieldError tCFieldError xmBadWords_FieldError,
      xm_BadNumber_FieldError := exm_by eCFieldError iCFieldError tCFieldError xmBadNumber_FieldError,
      a_is_integer := f0,
      d_is_integer := _,
      F_is_integer := fun_mk (st := s_is_integer) l0 c0 k0,
      m_is_integer := PySem.W.mg_of X G a0,
      b_is_integer := (fun_mk (st := s_is_integer) l0 c0 k0).binds (ps := ["value"]) fun _ _ _ _ _ _ us hl => match us, hl with | [_], _ => rfl,
      a_is_within := f1,
      d_is_within := _,
      F_is_within := fun_mk (st := s_is_within) l1 c1 k1,
      m_is_within := PySem.W.mg_of X G a1,
      b_is_within := (fun_mk (st := s_is_within) l1 c1 k1).binds (ps := ["value", "least", "most"]) fun _ _ _ _ _ _ us hl => match us, hl with | [_, _, _], _ => rfl,
      a_is_list := f2,
      d_is_list := _,
      F_is_list := fun_mk (st := s_is_list) l2 c2 k2,
      m_is_list := PySem.W.mg_of X G a2,
      b_is_list := (fun_mk (st := s_is_list) l2 c2 k2).binds (ps := ["value"]) fun _ _ _ _ _ _ us hl => match us, hl with | [_], _ => rfl,
      a_is_square := f3,
      d_is_square := _,
      F_is_square := fun_mk (st := s_is_square) l3 c3 k3,
      m_is_square := PySem.W.mg_of X G a3,
      b_is_square := (fun_mk (st := s_is_square) l3 c3 k3).binds (ps := ["value"]) fun _ _ _ _ _ _ us hl => match us, hl with | [_], _ => rfl,
      a_is_move := f4,
      d_is_move := _,
      F_is_move := fun_mk (st := s_is_move) l4 c4 k4,
      m_is_move := PySem.W.mg_of X G a4,
      b_is_move := (fun_mk (st := s_is_move) l4 c4 k4).binds (ps := ["value"]) fun _ _ _ _ _ _ us hl => match us, hl with | [_], _ => rfl,
      a_is_name := f5,
      d_is_name := _,
      F_is_name := fun_mk (st := s_is_name) l5 c5 k5,
      m_is_name := PySem.W.mg_of X G a5,
      b_is_name := (fun_mk (st := s_is_name) l5 c5 k5).binds (ps := ["value"]) fun _ _ _ _ _ _ us hl => match us, hl with | [_], _ => rfl,
      a_BadNumber___init__ := f6,
      d_BadNumber___init__ := _,
      F_BadNumber___init__ := fun_mk (st := s_BadNumber___init__) l6 c6 k6,
      b_BadNumber___init__ := (fun_mk (st := s_BadNumber___init__) l6 c6 k6).binds (ps := ["self", "part"]) fun _ _ _ _ _ _ us hl => match us, hl with | [_, _], _ => rfl,
      a_BadKind___init__ := f7,
      d_BadKind___init__ := _,
      F_BadKind___init__ := fun_mk (st := s_BadKind___init__) l7 c7 k7,
      b_BadKind___init__ := (fun_mk (st := s_BadKind___init__) l7 c7 k7).binds (ps := ["self", "part"]) fun _ _ _ _ _ _ us hl => match us, hl with | [_, _], _ => rfl,
      a_BadGame___init__ := f8,
      d_BadGame___init__ := _,
      F_BadGame___init__ := fun_mk (st := s_BadGame___init__) l8 c8 k8,
      b_BadGame___init__ := (fun_mk (st := s_BadGame___init__) l8 c8 k8).binds (ps := ["self", "part"]) fun _ _ _ _ _ _ us hl => match us, hl with | [_, _], _ => rfl,
      a_BadPosition___init__ := f9,
      d_BadPosition___init__ := _,
      F_BadPosition___init__ := fun_mk (st := s_BadPosition___init__) l9 c9 k9,
      b_BadPosition___init__ := (fun_mk (st := s_BadPosition___init__) l9 c9 k9).binds (ps := ["self", "part"]) fun _ _ _ _ _ _ us hl => match us, hl with | [_, _], _ => rfl,
      a_BadMove___init__ := f10,
      d_BadMove___init__ := _,
      F_BadMove___init__ := fun_mk (st := s_BadMove___init__) l10 c10 k10,
      b_BadMove___init__ := (fun_mk (st := s_BadMove___init__) l10 c10 k10).binds (ps := ["self", "part"]) fun _ _ _ _ _ _ us hl => match us, hl with | [_, _], _ => rfl,
      a_BadWords___init__ := f11,
      d_BadWords___init__ := _,
      F_BadWords___init__ := fun_mk (st := s_BadWords___init__) l11 c11 k11,
      b_BadWords___init__ := (fun_mk (st := s_BadWords___init__) l11 c11 k11).binds (ps := ["self", "part"]) fun _ _ _ _ _ _ us hl => match us, hl with | [_, _], _ => rfl,
      a_Misfit___init__ := f12,
      d_Misfit___init__ := _,
      F_Misfit___init__ := fun_mk (st := s_Misfit___init__) l12 c12 k12,
      b_Misfit___init__ := (fun_mk (st := s_Misfit___init__) l12 c12 k12).binds (ps := ["self", "part"]) fun _ _ _ _ _ _ us hl => match us, hl with | [_, _], _ => rfl,
      a_Kind___init__ := f13,
      d_Kind___init__ := _,
      F_Kind___init__ := ⟨⟨_, _, _, _, _, _, _, _, _, _, rfl, l13, c13, .inr ⟨fun z => (nomatch z), _, _, _, _, rfl, dl13, seq_list, vE⟩, .inl rfl⟩, k13⟩,
      a_Kind___str__ := f14,
      d_Kind___str__ := _,
      F_Kind___str__ := fun_mk (st := s_Kind___str__) l14 c14 k14,
      b_Kind___str__ := (fun_mk (st := s_Kind___str__) l14 c14 k14).binds (ps := ["self"]) fun _ _ _ _ _ _ us hl => match us, hl with | [_], _ => rfl,
      a_are_leaps := f15,
      d_are_leaps := _,
      F_are_leaps := fun_mk (st := s_are_leaps) l15 c15 k15,
      m_are_leaps := PySem.W.mg_of X G a15,
      b_are_leaps := (fun_mk (st := s_are_leaps) l15 c15 k15).binds (ps := ["value"]) fun _ _ _ _ _ _ us hl => match us, hl with | [_], _ => rfl,
      a_is_leap := f16,
      d_is_leap := _,
      F_is_leap := fun_mk (st := s_is_leap) l16 c16 k16,
      m_is_leap := PySem.W.mg_of X G a16,
      b_is_leap := (fun_mk (st := s_is_leap) l16 c16 k16).binds (ps := ["value"]) fun _ _ _ _ _ _ us hl => match us, hl with | [_], _ => rfl,
      a_is_leap_part := f17,
      d_is_leap_part := _,
      F_is_leap_part := fun_mk (st := s_is_leap_part) l17 c17 k17,
      m_is_leap_part := PySem.W.mg_of X G a17,
      b_is_leap_part := (fun_mk (st := s_is_leap_part) l17 c17 k17).binds (ps := ["value"]) fun _ _ _ _ _ _ us hl => match us, hl with | [_], _ => rfl,
      a_are_rides := f18,
      d_are_rides := _,
      F_are_rides := fun_mk (st := s_are_rides) l18 c18 k18,
      m_are_rides := PySem.W.mg_of X G a18,
      b_are_rides := (fun_mk (st := s_are_rides) l18 c18 k18).binds (ps := ["value"]) fun _ _ _ _ _ _ us hl => match us, hl with | [_], _ => rfl,
      a_is_ride := f19,
      d_is_ride := _,
      F_is_ride := fun_mk (st := s_is_ride) l19 c19 k19,
      m_is_ride := PySem.W.mg_of X G a19,
      b_is_ride := (fun_mk (st := s_is_ride) l19 c19 k19).binds (ps := ["value"]) fun _ _ _ _ _ _ us hl => match us, hl with | [_], _ => rfl,
      a_Game___init__ := f20,
      d_Game___init__ := _,
      F_Game___init__ := ⟨⟨_, _, _, _, _, _, _, _, _, _, rfl, l20, c20, .inr ⟨fun z => (nomatch z), _, _, _, _, rfl, dl20, seq_list, vG⟩, .inl rfl⟩, k20⟩,
      a_Game___str__ := f21,
      d_Game___str__ := _,
      F_Game___str__ := fun_mk (st := s_Game___str__) l21 c21 k21,
      b_Game___str__ := (fun_mk (st := s_Game___str__) l21 c21 k21).binds (ps := ["self"]) fun _ _ _ _ _ _ us hl => match us, hl with | [_], _ => rfl,
      a_are_kinds := f22,
      d_are_kinds := _,
      F_are_kinds := fun_mk (st := s_are_kinds) l22 c22 k22,
      m_are_kinds := PySem.W.mg_of X G a22,
      b_are_kinds := (fun_mk (st := s_are_kinds) l22 c22 k22).binds (ps := ["value"]) fun _ _ _ _ _ _ us hl => match us, hl with | [_], _ => rfl,
      a_are_edges := f23,
      d_are_edges := _,
      F_are_edges := fun_mk (st := s_are_edges) l23 c23 k23,
      m_are_edges := PySem.W.mg_of X G a23,
      b_are_edges := (fun_mk (st := s_are_edges) l23 c23 k23).binds (ps := ["value"]) fun _ _ _ _ _ _ us hl => match us, hl with | [_], _ => rfl,
      a_is_not_above := f24,
      d_is_not_above := _,
      F_is_not_above := fun_mk (st := s_is_not_above) l24 c24 k24,
      m_is_not_above := PySem.W.mg_of X G a24,
      b_is_not_above := (fun_mk (st := s_is_not_above) l24 c24 k24).binds (ps := ["least", "most"]) fun _ _ _ _ _ _ us hl => match us, hl with | [_, _], _ => rfl,
      a_is_goal := f25,
      d_is_goal := _,
      F_is_goal := fun_mk (st := s_is_goal) l25 c25 k25,
      m_is_goal := PySem.W.mg_of X G a25,
      b_is_goal := (fun_mk (st := s_is_goal) l25 c25 k25).binds (ps := ["kinds", "edges", "value"]) fun _ _ _ _ _ _ us hl => match us, hl with | [_, _, _], _ => rfl,
      a_is_between := f26,
      d_is_between := _,
      F_is_between := fun_mk (st := s_is_between) l26 c26 k26,
      m_is_between := PySem.W.mg_of X G a26,
      b_is_between := (fun_mk (st := s_is_between) l26 c26 k26).binds (ps := ["edges", "square"]) fun _ _ _ _ _ _ us hl => match us, hl with | [_, _], _ => rfl,
      a_Position___init__ := f27,
      d_Position___init__ := _,
      F_Position___init__ := ⟨⟨_, _, _, _, _, _, _, _, _, _, rfl, l27, c27, .inr ⟨fun z => (nomatch z), _, _, _, _, rfl, dl27, seq_list, vP⟩, .inl rfl⟩, k27⟩,
      a_Position___str__ := f28,
      d_Position___str__ := _,
      F_Position___str__ := fun_mk (st := s_Position___str__) l28 c28 k28,
      b_Position___str__ := (fun_mk (st := s_Position___str__) l28 c28 k28).binds (ps := ["self"]) fun _ _ _ _ _ _ us hl => match us, hl with | [_], _ => rfl,
      a_need_position := f29,
      d_need_position := _,
      F_need_position := fun_mk (st := s_need_position) l29 c29 k29,
      m_need_position := PySem.W.mg_of X G a29,
      b_need_position := (fun_mk (st := s_need_position) l29 c29 k29).binds (ps := ["value", "part"]) fun _ _ _ _ _ _ us hl => match us, hl with | [_, _], _ => rfl,
      a_are_pieces := f30,
      d_are_pieces := _,
      F_are_pieces := fun_mk (st := s_are_pieces) l30 c30 k30,
      m_are_pieces := PySem.W.mg_of X G a30,
      b_are_pieces := (fun_mk (st := s_are_pieces) l30 c30 k30).binds (ps := ["game", "value"]) fun _ _ _ _ _ _ us hl => match us, hl with | [_, _], _ => rfl,
      a_is_piece := f31,
      d_is_piece := _,
      F_is_piece := fun_mk (st := s_is_piece) l31 c31 k31,
      m_is_piece := PySem.W.mg_of X G a31,
      b_is_piece := (fun_mk (st := s_is_piece) l31 c31 k31).binds (ps := ["game", "value"]) fun _ _ _ _ _ _ us hl => match us, hl with | [_, _], _ => rfl,
      a_are_stones := f32,
      d_are_stones := _,
      F_are_stones := fun_mk (st := s_are_stones) l32 c32 k32,
      m_are_stones := PySem.W.mg_of X G a32,
      b_are_stones := (fun_mk (st := s_are_stones) l32 c32 k32).binds (ps := ["value"]) fun _ _ _ _ _ _ us hl => match us, hl with | [_], _ => rfl,
      a_do_pieces_fit := f33,
      d_do_pieces_fit := _,
      F_do_pieces_fit := fun_mk (st := s_do_pieces_fit) l33 c33 k33,
      m_do_pieces_fit := PySem.W.mg_of X G a33,
      b_do_pieces_fit := (fun_mk (st := s_do_pieces_fit) l33 c33 k33).binds (ps := ["game", "pieces"]) fun _ _ _ _ _ _ us hl => match us, hl with | [_, _], _ => rfl,
      a_do_stones_fit := f34,
      d_do_stones_fit := _,
      F_do_stones_fit := fun_mk (st := s_do_stones_fit) l34 c34 k34,
      m_do_stones_fit := PySem.W.mg_of X G a34,
      b_do_stones_fit := (fun_mk (st := s_do_stones_fit) l34 c34 k34).binds (ps := ["game", "pieces", "stones"]) fun _ _ _ _ _ _ us hl => match us, hl with | [_, _, _], _ => rfl,
      a_squares_of := f35,
      d_squares_of := _,
      F_squares_of := fun_mk (st := s_squares_of) l35 c35 k35,
      m_squares_of := PySem.W.mg_of X G a35,
      b_squares_of := (fun_mk (st := s_squares_of) l35 c35 k35).binds (ps := ["pieces"]) fun _ _ _ _ _ _ us hl => match us, hl with | [_], _ => rfl,
      a_are_on_field := f36,
      d_are_on_field := _,
      F_are_on_field := fun_mk (st := s_are_on_field) l36 c36 k36,
      m_are_on_field := PySem.W.mg_of X G a36,
      b_are_on_field := (fun_mk (st := s_are_on_field) l36 c36 k36).binds (ps := ["game", "squares"]) fun _ _ _ _ _ _ us hl => match us, hl with | [_, _], _ => rfl,
      a_standing_of := f37,
      d_standing_of := _,
      F_standing_of := fun_mk (st := s_standing_of) l37 c37 k37,
      m_standing_of := PySem.W.mg_of X G a37,
      b_standing_of := (fun_mk (st := s_standing_of) l37 c37 k37).binds (ps := ["pieces", "stones"]) fun _ _ _ _ _ _ us hl => match us, hl with | [_, _], _ => rfl,
      a_lords_of := f38,
      d_lords_of := _,
      F_lords_of := fun_mk (st := s_lords_of) l38 c38 k38,
      m_lords_of := PySem.W.mg_of X G a38,
      b_lords_of := (fun_mk (st := s_lords_of) l38 c38 k38).binds (ps := ["game", "pieces"]) fun _ _ _ _ _ _ us hl => match us, hl with | [_, _], _ => rfl,
      a_turned := f39,
      d_turned := _,
      F_turned := fun_mk (st := s_turned) l39 c39 k39,
      m_turned := PySem.W.mg_of X G a39,
      b_turned := (fun_mk (st := s_turned) l39 c39 k39).binds (ps := ["position"]) fun _ _ _ _ _ _ us hl => match us, hl with | [_], _ => rfl,
      a_mirrored := f40,
      d_mirrored := _,
      F_mirrored := fun_mk (st := s_mirrored) l40 c40 k40,
      m_mirrored := PySem.W.mg_of X G a40,
      b_mirrored := (fun_mk (st := s_mirrored) l40 c40 k40).binds (ps := ["position"]) fun _ _ _ _ _ _ us hl => match us, hl with | [_], _ => rfl,
      a_moved := f41,
      d_moved := _,
      F_moved := fun_mk (st := s_moved) l41 c41 k41,
      m_moved := PySem.W.mg_of X G a41,
      b_moved := (fun_mk (st := s_moved) l41 c41 k41).binds (ps := ["position", "across", "up"]) fun _ _ _ _ _ _ us hl => match us, hl with | [_, _, _], _ => rfl,
      a_gone_along := f42,
      d_gone_along := _,
      F_gone_along := ⟨⟨_, _, _, _, _, _, _, _, _, _, rfl, l42, c42, .inr ⟨fun z => (nomatch z), _, _, _, _, rfl, dl42, seq_list, vA⟩, .inl rfl⟩, k42⟩,
      m_gone_along := PySem.W.mg_of X G a42,
      a_need_way := f43,
      d_need_way := _,
      F_need_way := fun_mk (st := s_need_way) l43 c43 k43,
      m_need_way := PySem.W.mg_of X G a43,
      b_need_way := (fun_mk (st := s_need_way) l43 c43 k43).binds (ps := ["across", "up"]) fun _ _ _ _ _ _ us hl => match us, hl with | [_, _], _ => rfl,
      a_pair_along := f44,
      d_pair_along := _,
      F_pair_along := fun_mk (st := s_pair_along) l44 c44 k44,
      m_pair_along := PySem.W.mg_of X G a44,
      b_pair_along := (fun_mk (st := s_pair_along) l44 c44 k44).binds (ps := ["pair", "how", "across", "up"]) fun _ _ _ _ _ _ us hl => match us, hl with | [_, _, _, _], _ => rfl,
      a__law_hinge := f45,
      d__law_hinge := _,
      F__law_hinge := fun_mk (st := s__law_hinge) l45 c45 k45,
      m__law_hinge := PySem.W.mg_of X G a45,
      b__law_hinge := (fun_mk (st := s__law_hinge) l45 c45 k45).binds (ps := ["script"]) fun _ _ _ _ _ _ us hl => match us, hl with | [_], _ => rfl,
      a__law_swing := f46,
      d__law_swing := _,
      F__law_swing := fun_mk (st := s__law_swing) l46 c46 k46,
      m__law_swing := PySem.W.mg_of X G a46,
      b__law_swing := (fun_mk (st := s__law_swing) l46 c46 k46).binds (ps := ["hinge", "many"]) fun _ _ _ _ _ _ us hl => match us, hl with | [_, _], _ => rfl,
      a__law_one := f47,
      d__law_one := _,
      F__law_one := fun_mk (st := s__law_one) l47 c47 k47,
      m__law_one := PySem.W.mg_of X G a47,
      b__law_one := (fun_mk (st := s__law_one) l47 c47 k47).binds (ps := ["hinge", "some"]) fun _ _ _ _ _ _ us hl => match us, hl with | [_, _], _ => rfl,
      a__law_heard := f48,
      d__law_heard := _,
      F__law_heard := fun_mk (st := s__law_heard) l48 c48 k48,
      m__law_heard := PySem.W.mg_of X G a48,
      b__law_heard := (fun_mk (st := s__law_heard) l48 c48 k48).binds (ps := ["ask"]) fun _ _ _ _ _ _ us hl => match us, hl with | [_], _ => rfl,
      a_law := f49,
      d_law := _,
      F_law := fun_mk (st := s_law) l49 c49 k49,
      m_law := PySem.W.mg_of X G a49,
      b_law := (fun_mk (st := s_law) l49 c49 k49).binds (ps := ["script"]) fun _ _ _ _ _ _ us hl => match us, hl with | [_], _ => rfl,
      z_isinstance := PySem.W.mg_none_of X G z0,
      z_int := PySem.W.mg_none_of X G z1,
      z_bool := PySem.W.mg_none_of X G z2,
      z_list := PySem.W.mg_none_of X G z3,
      z_tuple := PySem.W.mg_none_of X G z4,
      z_len := PySem.W.mg_none_of X G z5,
      z_str := PySem.W.mg_none_of X G z6,
      z_all := PySem.W.mg_none_of X G z7,
      z_sorted := PySem.W.mg_none_of X G z8,
      z_set := PySem.W.mg_none_of X G z9,
      z_abs := PySem.W.mg_none_of X G z10,
      z_range := PySem.W.mg_none_of X G z11,
      z_repr := PySem.W.mg_none_of X G z12,
      z_max := PySem.W.mg_none_of X G z13,
      z_zip := PySem.W.mg_none_of X G z14,
      t_E := eT,
      s_E := fun _ => .inr ⟨_, eI, eN, lE, rfl, rfl, zE, uE⟩,
      b5_Kind := b5_of ⟨⟨_, _, _, _, _, _, _, _, _, _, rfl, l13, c13, .inr ⟨fun z => (nomatch z), _, _, _, _, rfl, dl13, seq_list, vE⟩, .inl rfl⟩, k13⟩,
      t_N4 := n4T,
      t_H1 := h1T,
      t_PE := peT,
      b5_Position := b5p_of ⟨⟨_, _, _, _, _, _, _, _, _, _, rfl, l27, c27, .inr ⟨fun z => (nomatch z), _, _, _, _, rfl, dl27, seq_list, vP⟩, .inl rfl⟩, k27⟩,
      b4_Game := b4_of ⟨⟨_, _, _, _, _, _, _, _, _, _, rfl, l20, c20, .inr ⟨fun z => (nomatch z), _, _, _, _, rfl, dl20, seq_list, vG⟩, .inl rfl⟩, k20⟩,
      s_N4 := fun _ => .inr ⟨_, iN4, nN4, lN4, rfl, rfl, zN4, vN4⟩,
      s_H1 := fun _ => .inr ⟨_, iH1, nH1, lH1, rfl, rfl, zH1, vH1⟩,
      s_PE := fun _ => .inr ⟨_, iPE, nPE, lPE, rfl, rfl, zPE, vPE⟩,
      ty_Kind := ⟨⟨pgKind, hdKind, poKind, saKind⟩, haKind, hn1, tk1, moKind⟩,
      ty_Game := ⟨⟨pgGame, hdGame, poGame, saGame⟩, haGame, hn1, tk1, moGame⟩,
      kk_Kind := (by simp [PySem.W.kitOne]),
      kk_Game := (by simp [PySem.W.kitOne]),
      kn_Game := kn_of iCGame tCGame kn_list kn_str kn_NoneType kn_int kn_bool kn_tuple kn_dict,
      kk := mat_ok mN mM,
      xc := xc_ok mX,
      ty_Position := ⟨⟨pgPosition, hdPosition, poPosition, saPosition⟩, haPosition, hn1, tk1, moPosition⟩,
      kk_Position := (by simp [PySem.W.kitOne]),
      kg_Position := kgp_of iCPosition tCPosition kgP ngP,
      kn_Position := kn_of iCPosition tCPosition kp_list kp_str kp_NoneType kp_int kp_bool kp_tuple kp_dict,
      kN := kN4 iCBadPosition tCBadPosition nnBadPosition iCBadMove tCBadMove nnBadMove iCBadWords tCBadWords nnBadWords iCBadNumber tCBadNumber nnBadNumber,
      of_Kind := ⟨a14, isFn_of t14, fmKind, moKind⟩,
      os_Game := ⟨a21, isFn_of t21⟩,
      os_Position := ⟨a28, isFn_of t28⟩,
      g_LETTERS := ⟨_, PySem.W.mg_of X G gL⟩,
      g_LONGEST := ⟨_, PySem.W.mg_of X G gN⟩,
      g_LEAP := ⟨_, PySem.W.mg_of X G gP⟩,
      g_MK := ⟨_, PySem.W.mg_of X G gMK⟩,
      g_MP := ⟨_, PySem.W.mg_of X G gMP⟩,
      g_MS := ⟨_, PySem.W.mg_of X G gMS⟩,
      t_WY := fWY,
      g_WY := PySem.W.mg_of X G gWY,
      s_WY := fun _ => .inr ⟨_, iWY, nWY, lWY, rfl, rfl, zWY, vWY⟩,
      t_B := fB,
      g_B := PySem.W.mg_of X G gB,
      s_B := fun _ => .inr ⟨_, iB, nB, lB, rfl, rfl, zB, vB⟩,
      t_SD := fSD,
      g_SD := PySem.W.mg_of X G gSD,
      s_SD := fun _ => .inr ⟨_, iSD, nSD, lSD, rfl, rfl, zSD, vSD⟩,
      t_S := fS,
      g_S := PySem.W.mg_of X G gS,
      w_S := wd_of lS ktS loS zS eRS eLS eUS eDS,
      t_R := tRr,
      t_L := tLl,
      t_U := tUu,
      t_D := tDd,
      s_R := fun _ => .inr ⟨_, iRr, nRr, lRr, rfl, rfl, zRr, vRr⟩,
      s_L := fun _ => .inr ⟨_, iLl, nLl, lLl, rfl, rfl, zLl, vLl⟩,
      s_U := fun _ => .inr ⟨_, iUu, nUu, lUu, rfl, rfl, zUu, vUu⟩,
      s_D := fun _ => .inr ⟨_, iDd, nDd, lDd, rfl, rfl, zDd, vDd⟩ }
  have e : T.a_law = fa := by
    have := T.m_law.symm.trans hfa
    exact Value.ref.inj (Option.some.inj this)
  refine ⟨T.d_law, ccL, ccG, fun s v => .of_eq rfl, nT, hT, nT2, hT2, fun base _ _ TB TG => ?_⟩
  rw [← e]
  exact G_law T TB rfl TG rfl hneT
end K57

set_option Elab.async false
set_option linter.all false
set_option maxRecDepth 100000
set_option maxHeartbeats 0
namespace K57
open PySem PySem.Spec PyProof.Rows L2 Gs
theorem e0_ok {K : PySem.W.Frag} (h : e0 K = true) : (PySem.W.nsIn K mainGlobals "Kind" = some (some (.ref (He.ga K "Kind")))) ∧ (PySem.W.plainGet K (He.ga K "Kind") Str.empty = true) ∧ (PySem.W.hasDictIn K (He.ga K "Kind") = true) ∧ (PySem.W.plainOver K (He.ga K "Kind") = true) ∧ (PySem.W.findIn K (.ref (He.ga K "Kind")) "__setattr__" = some (some (.builtin "object.__setattr__"))) ∧ (PySem.W.makesIn K (He.ga K "Kind") = true) ∧ (PySem.W.keepIn K (.ref (He.ga K "Kind")) = true) ∧ (PySem.W.findIn K (.ref (He.ga K "Kind")) "name" = some none) := by
  unfold e0 at h
  simp only [Bool.and_eq_true, decide_eq_true_eq, and_assoc] at h
  exact h
theorem e1_ok {K : PySem.W.Frag} (h : e1 K = true) : (PySem.W.findIn K (.ref (He.ga K "Kind")) "leaps" = some none) ∧ (PySem.W.findIn K (.ref (He.ga K "Kind")) "rides" = some none) ∧ (PySem.W.findIn K (.ref (He.ga K "Kind")) "is_lord" = some none) ∧ (PySem.W.nsIn K mainGlobals "Game" = some (some (.ref (He.ga K "Game")))) ∧ (PySem.W.plainGet K (He.ga K "Game") Str.empty = true) ∧ (PySem.W.hasDictIn K (He.ga K "Game") = true) ∧ (PySem.W.plainOver K (He.ga K "Game") = true) ∧ (PySem.W.findIn K (.ref (He.ga K "Game")) "__setattr__" = some (some (.builtin "object.__setattr__"))) := by
  unfold e1 at h
  simp only [Bool.and_eq_true, decide_eq_true_eq, and_assoc] at h
  exact h
theorem e2_ok {K : PySem.W.Frag} (h : e2 K = true) : (PySem.W.makesIn K (He.ga K "Game") = true) ∧ (PySem.W.keepIn K (.ref (He.ga K "Game")) = true) ∧ (PySem.W.findIn K (.ref (He.ga K "Game")) "kinds" = some none) ∧ (PySem.W.findIn K (.ref (He.ga K "Game")) "edges" = some none) ∧ (PySem.W.findIn K (.ref (He.ga K "Game")) "goal" = some none) ∧ (PySem.W.findIn K (.ref (He.ga K "Game")) "table" = some none) ∧ (PySem.W.findIn K (.ref (He.ga K "Game")) "farthest" = some none) ∧ (PySem.W.nsIn K mainGlobals "Position" = some (some (.ref (He.ga K "Position")))) := by
  unfold e2 at h
  simp only [Bool.and_eq_true, decide_eq_true_eq, and_assoc] at h
  exact h
theorem e3_ok {K : PySem.W.Frag} (h : e3 K = true) : (PySem.W.plainGet K (He.ga K "Position") Str.empty = true) ∧ (PySem.W.hasDictIn K (He.ga K "Position") = true) ∧ (PySem.W.plainOver K (He.ga K "Position") = true) ∧ (PySem.W.findIn K (.ref (He.ga K "Position")) "__setattr__" = some (some (.builtin "object.__setattr__"))) ∧ (PySem.W.makesIn K (He.ga K "Position") = true) ∧ (PySem.W.keepIn K (.ref (He.ga K "Position")) = true) ∧ (PySem.W.findIn K (.ref (He.ga K "Position")) "game" = some none) ∧ (PySem.W.findIn K (.ref (He.ga K "Position")) "pieces" = some none) := by
  unfold e3 at h
  simp only [Bool.and_eq_true, decide_eq_true_eq, and_assoc] at h
  exact h
theorem e4_ok {K : PySem.W.Frag} (h : e4 K = true) : (PySem.W.findIn K (.ref (He.ga K "Position")) "stones" = some none) ∧ (PySem.W.findIn K (.ref (He.ga K "Position")) "turn" = some none) ∧ (PySem.W.findIn K (.ref (He.ga K "Position")) "standing" = some none) ∧ (PySem.W.findIn K (.ref (He.ga K "Position")) "lords" = some none) ∧ (PySem.W.nsIn K mainGlobals "FieldError" = some (some (.ref (He.ga K "FieldError")))) ∧ (PySem.W.findIn K (.ref (He.ga K "FieldError")) "__setattr__" = some (some (.builtin "object.__setattr__"))) ∧ (PySem.W.subIn K (.ref (He.ga K "FieldError")) (.type "BaseException") = some true) ∧ (PySem.W.typeIn K (.ref (He.ga K "FieldError")) = some (.type "type")) := by
  unfold e4 at h
  simp only [Bool.and_eq_true, decide_eq_true_eq, and_assoc] at h
  exact h
theorem e5_ok {K : PySem.W.Frag} (h : e5 K = true) : (PySem.W.keepIn K (.ref (He.ga K "FieldError")) = true) ∧ (PySem.W.hasDictIn K (He.ga K "FieldError") = true) ∧ (PySem.W.isClsIn K (He.ga K "FieldError") = true) ∧ (PySem.W.findIn K (.ref (He.ga K "FieldError")) "__getattribute__" = some (some (.builtin "BaseException.__getattribute__"))) ∧ (PySem.W.findIn K (.ref (He.ga K "FieldError")) "__getattr__" = some none) ∧ (PySem.W.nsIn K mainGlobals "BadNumber" = some (some (.ref (He.ga K "BadNumber")))) ∧ (PySem.W.findIn K (.ref (He.ga K "BadNumber")) "__setattr__" = some (some (.builtin "object.__setattr__"))) ∧ (PySem.W.subIn K (.ref (He.ga K "BadNumber")) (.type "BaseException") = some true) := by
  unfold e5 at h
  simp only [Bool.and_eq_true, decide_eq_true_eq, and_assoc] at h
  exact h
theorem e6_ok {K : PySem.W.Frag} (h : e6 K = true) : (PySem.W.typeIn K (.ref (He.ga K "BadNumber")) = some (.type "type")) ∧ (PySem.W.keepIn K (.ref (He.ga K "BadNumber")) = true) ∧ (PySem.W.hasDictIn K (He.ga K "BadNumber") = true) ∧ (PySem.W.isClsIn K (He.ga K "BadNumber") = true) ∧ (PySem.W.findIn K (.ref (He.ga K "BadNumber")) "__getattribute__" = some (some (.builtin "BaseException.__getattribute__"))) ∧ (PySem.W.findIn K (.ref (He.ga K "BadNumber")) "__getattr__" = some none) ∧ (PySem.W.findIn K (.ref (He.ga K "BadNumber")) "part" = some none) ∧ (PySem.W.nsIn K mainGlobals "BadKind" = some (some (.ref (He.ga K "BadKind")))) := by
  unfold e6 at h
  simp only [Bool.and_eq_true, decide_eq_true_eq, and_assoc] at h
  exact h
theorem e7_ok {K : PySem.W.Frag} (h : e7 K = true) : (PySem.W.findIn K (.ref (He.ga K "BadKind")) "__setattr__" = some (some (.builtin "object.__setattr__"))) ∧ (PySem.W.subIn K (.ref (He.ga K "BadKind")) (.type "BaseException") = some true) ∧ (PySem.W.typeIn K (.ref (He.ga K "BadKind")) = some (.type "type")) ∧ (PySem.W.keepIn K (.ref (He.ga K "BadKind")) = true) ∧ (PySem.W.hasDictIn K (He.ga K "BadKind") = true) ∧ (PySem.W.isClsIn K (He.ga K "BadKind") = true) ∧ (PySem.W.findIn K (.ref (He.ga K "BadKind")) "__getattribute__" = some (some (.builtin "BaseException.__getattribute__"))) ∧ (PySem.W.findIn K (.ref (He.ga K "BadKind")) "__getattr__" = some none) := by
  unfold e7 at h
  simp only [Bool.and_eq_true, decide_eq_true_eq, and_assoc] at h
  exact h
theorem e8_ok {K : PySem.W.Frag} (h : e8 K = true) : (PySem.W.findIn K (.ref (He.ga K "BadKind")) "part" = some none) ∧ (PySem.W.nsIn K mainGlobals "BadGame" = some (some (.ref (He.ga K "BadGame")))) ∧ (PySem.W.findIn K (.ref (He.ga K "BadGame")) "__setattr__" = some (some (.builtin "object.__setattr__"))) ∧ (PySem.W.subIn K (.ref (He.ga K "BadGame")) (.type "BaseException") = some true) ∧ (PySem.W.typeIn K (.ref (He.ga K "BadGame")) = some (.type "type")) ∧ (PySem.W.keepIn K (.ref (He.ga K "BadGame")) = true) ∧ (PySem.W.hasDictIn K (He.ga K "BadGame") = true) ∧ (PySem.W.isClsIn K (He.ga K "BadGame") = true) := by
  unfold e8 at h
  simp only [Bool.and_eq_true, decide_eq_true_eq, and_assoc] at h
  exact h
theorem e9_ok {K : PySem.W.Frag} (h : e9 K = true) : (PySem.W.findIn K (.ref (He.ga K "BadGame")) "__getattribute__" = some (some (.builtin "BaseException.__getattribute__"))) ∧ (PySem.W.findIn K (.ref (He.ga K "BadGame")) "__getattr__" = some none) ∧ (PySem.W.findIn K (.ref (He.ga K "BadGame")) "part" = some none) ∧ (PySem.W.nsIn K mainGlobals "BadPosition" = some (some (.ref (He.ga K "BadPosition")))) ∧ (PySem.W.findIn K (.ref (He.ga K "BadPosition")) "__setattr__" = some (some (.builtin "object.__setattr__"))) ∧ (PySem.W.subIn K (.ref (He.ga K "BadPosition")) (.type "BaseException") = some true) ∧ (PySem.W.typeIn K (.ref (He.ga K "BadPosition")) = some (.type "type")) ∧ (PySem.W.keepIn K (.ref (He.ga K "BadPosition")) = true) := by
  unfold e9 at h
  simp only [Bool.and_eq_true, decide_eq_true_eq, and_assoc] at h
  exact h
theorem e10_ok {K : PySem.W.Frag} (h : e10 K = true) : (PySem.W.hasDictIn K (He.ga K "BadPosition") = true) ∧ (PySem.W.isClsIn K (He.ga K "BadPosition") = true) ∧ (PySem.W.findIn K (.ref (He.ga K "BadPosition")) "__getattribute__" = some (some (.builtin "BaseException.__getattribute__"))) ∧ (PySem.W.findIn K (.ref (He.ga K "BadPosition")) "__getattr__" = some none) ∧ (PySem.W.findIn K (.ref (He.ga K "BadPosition")) "part" = some none) ∧ (PySem.W.nsIn K mainGlobals "BadMove" = some (some (.ref (He.ga K "BadMove")))) ∧ (PySem.W.findIn K (.ref (He.ga K "BadMove")) "__setattr__" = some (some (.builtin "object.__setattr__"))) ∧ (PySem.W.subIn K (.ref (He.ga K "BadMove")) (.type "BaseException") = some true) := by
  unfold e10 at h
  simp only [Bool.and_eq_true, decide_eq_true_eq, and_assoc] at h
  exact h
theorem e11_ok {K : PySem.W.Frag} (h : e11 K = true) : (PySem.W.typeIn K (.ref (He.ga K "BadMove")) = some (.type "type")) ∧ (PySem.W.keepIn K (.ref (He.ga K "BadMove")) = true) ∧ (PySem.W.hasDictIn K (He.ga K "BadMove") = true) ∧ (PySem.W.isClsIn K (He.ga K "BadMove") = true) ∧ (PySem.W.findIn K (.ref (He.ga K "BadMove")) "__getattribute__" = some (some (.builtin "BaseException.__getattribute__"))) ∧ (PySem.W.findIn K (.ref (He.ga K "BadMove")) "__getattr__" = some none) ∧ (PySem.W.findIn K (.ref (He.ga K "BadMove")) "part" = some none) ∧ (PySem.W.nsIn K mainGlobals "BadWords" = some (some (.ref (He.ga K "BadWords")))) := by
  unfold e11 at h
  simp only [Bool.and_eq_true, decide_eq_true_eq, and_assoc] at h
  exact h
theorem e12_ok {K : PySem.W.Frag} (h : e12 K = true) : (PySem.W.findIn K (.ref (He.ga K "BadWords")) "__setattr__" = some (some (.builtin "object.__setattr__"))) ∧ (PySem.W.subIn K (.ref (He.ga K "BadWords")) (.type "BaseException") = some true) ∧ (PySem.W.typeIn K (.ref (He.ga K "BadWords")) = some (.type "type")) ∧ (PySem.W.keepIn K (.ref (He.ga K "BadWords")) = true) ∧ (PySem.W.hasDictIn K (He.ga K "BadWords") = true) ∧ (PySem.W.isClsIn K (He.ga K "BadWords") = true) ∧ (PySem.W.findIn K (.ref (He.ga K "BadWords")) "__getattribute__" = some (some (.builtin "BaseException.__getattribute__"))) ∧ (PySem.W.findIn K (.ref (He.ga K "BadWords")) "__getattr__" = some none) := by
  unfold e12 at h
  simp only [Bool.and_eq_true, decide_eq_true_eq, and_assoc] at h
  exact h
theorem e13_ok {K : PySem.W.Frag} (h : e13 K = true) : (PySem.W.findIn K (.ref (He.ga K "BadWords")) "part" = some none) ∧ (PySem.W.nsIn K mainGlobals "Misfit" = some (some (.ref (He.ga K "Misfit")))) ∧ (PySem.W.findIn K (.ref (He.ga K "Misfit")) "__setattr__" = some (some (.builtin "object.__setattr__"))) ∧ (PySem.W.subIn K (.ref (He.ga K "Misfit")) (.type "BaseException") = some true) ∧ (PySem.W.typeIn K (.ref (He.ga K "Misfit")) = some (.type "type")) ∧ (PySem.W.keepIn K (.ref (He.ga K "Misfit")) = true) ∧ (PySem.W.hasDictIn K (He.ga K "Misfit") = true) ∧ (PySem.W.isClsIn K (He.ga K "Misfit") = true) := by
  unfold e13 at h
  simp only [Bool.and_eq_true, decide_eq_true_eq, and_assoc] at h
  exact h
theorem e14_ok {K : PySem.W.Frag} (h : e14 K = true) : (PySem.W.findIn K (.ref (He.ga K "Misfit")) "__getattribute__" = some (some (.builtin "BaseException.__getattribute__"))) ∧ (PySem.W.findIn K (.ref (He.ga K "Misfit")) "__getattr__" = some none) ∧ (PySem.W.findIn K (.ref (He.ga K "Misfit")) "part" = some none) ∧ (PySem.W.subIn K (.ref (He.ga K "BadPosition")) (.ref (He.ga K "FieldError")) = some true) ∧ (PySem.W.subIn K (.ref (He.ga K "BadMove")) (.ref (He.ga K "FieldError")) = some true) ∧ (PySem.W.subIn K (.ref (He.ga K "BadWords")) (.ref (He.ga K "FieldError")) = some true) ∧ (PySem.W.subIn K (.ref (He.ga K "BadNumber")) (.ref (He.ga K "FieldError")) = some true) ∧ (PySem.W.nsIn K mainGlobals "is_integer" = some (some (.ref (He.fAd K ("is_integer", none))))) := by
  unfold e14 at h
  simp only [Bool.and_eq_true, decide_eq_true_eq, and_assoc] at h
  exact h
theorem e15_ok {K : PySem.W.Frag} (h : e15 K = true) : (PySem.W.nsIn K mainGlobals "is_within" = some (some (.ref (He.fAd K ("is_within", none))))) ∧ (PySem.W.nsIn K mainGlobals "is_list" = some (some (.ref (He.fAd K ("is_list", none))))) ∧ (PySem.W.nsIn K mainGlobals "is_square" = some (some (.ref (He.fAd K ("is_square", none))))) ∧ (PySem.W.nsIn K mainGlobals "is_move" = some (some (.ref (He.fAd K ("is_move", none))))) ∧ (PySem.W.nsIn K mainGlobals "is_name" = some (some (.ref (He.fAd K ("is_name", none))))) ∧ (PySem.W.findIn K (.ref (He.ga K "BadNumber")) "__init__" = some (some (.ref (He.fAd K ("BadNumber", some "__init__"))))) ∧ (PySem.W.typeIn K (.ref (He.fAd K ("BadNumber", some "__init__"))) = some (.type "function")) ∧ (PySem.W.findIn K (.ref (He.ga K "BadKind")) "__init__" = some (some (.ref (He.fAd K ("BadKind", some "__init__"))))) := by
  unfold e15 at h
  simp only [Bool.and_eq_true, decide_eq_true_eq, and_assoc] at h
  exact h
theorem e16_ok {K : PySem.W.Frag} (h : e16 K = true) : (PySem.W.typeIn K (.ref (He.fAd K ("BadKind", some "__init__"))) = some (.type "function")) ∧ (PySem.W.findIn K (.ref (He.ga K "BadGame")) "__init__" = some (some (.ref (He.fAd K ("BadGame", some "__init__"))))) ∧ (PySem.W.typeIn K (.ref (He.fAd K ("BadGame", some "__init__"))) = some (.type "function")) ∧ (PySem.W.findIn K (.ref (He.ga K "BadPosition")) "__init__" = some (some (.ref (He.fAd K ("BadPosition", some "__init__"))))) ∧ (PySem.W.typeIn K (.ref (He.fAd K ("BadPosition", some "__init__"))) = some (.type "function")) ∧ (PySem.W.findIn K (.ref (He.ga K "BadMove")) "__init__" = some (some (.ref (He.fAd K ("BadMove", some "__init__"))))) ∧ (PySem.W.typeIn K (.ref (He.fAd K ("BadMove", some "__init__"))) = some (.type "function")) ∧ (PySem.W.findIn K (.ref (He.ga K "BadWords")) "__init__" = some (some (.ref (He.fAd K ("BadWords", some "__init__"))))) := by
  unfold e16 at h
  simp only [Bool.and_eq_true, decide_eq_true_eq, and_assoc] at h
  exact h
theorem e17_ok {K : PySem.W.Frag} (h : e17 K = true) : (PySem.W.typeIn K (.ref (He.fAd K ("BadWords", some "__init__"))) = some (.type "function")) ∧ (PySem.W.findIn K (.ref (He.ga K "Misfit")) "__init__" = some (some (.ref (He.fAd K ("Misfit", some "__init__"))))) ∧ (PySem.W.typeIn K (.ref (He.fAd K ("Misfit", some "__init__"))) = some (.type "function")) ∧ (PySem.W.findIn K (.ref (He.ga K "Kind")) "__init__" = some (some (.ref (He.fAd K ("Kind", some "__init__"))))) ∧ (PySem.W.typeIn K (.ref (He.fAd K ("Kind", some "__init__"))) = some (.type "function")) ∧ (PySem.W.findIn K (.ref (He.ga K "Kind")) "__str__" = some (some (.ref (He.fAd K ("Kind", some "__str__"))))) ∧ (PySem.W.typeIn K (.ref (He.fAd K ("Kind", some "__str__"))) = some (.type "function")) ∧ (PySem.W.nsIn K mainGlobals "are_leaps" = some (some (.ref (He.fAd K ("are_leaps", none))))) := by
  unfold e17 at h
  simp only [Bool.and_eq_true, decide_eq_true_eq, and_assoc] at h
  exact h
theorem e18_ok {K : PySem.W.Frag} (h : e18 K = true) : (PySem.W.nsIn K mainGlobals "is_leap" = some (some (.ref (He.fAd K ("is_leap", none))))) ∧ (PySem.W.nsIn K mainGlobals "is_leap_part" = some (some (.ref (He.fAd K ("is_leap_part", none))))) ∧ (PySem.W.nsIn K mainGlobals "are_rides" = some (some (.ref (He.fAd K ("are_rides", none))))) ∧ (PySem.W.nsIn K mainGlobals "is_ride" = some (some (.ref (He.fAd K ("is_ride", none))))) ∧ (PySem.W.findIn K (.ref (He.ga K "Game")) "__init__" = some (some (.ref (He.fAd K ("Game", some "__init__"))))) ∧ (PySem.W.typeIn K (.ref (He.fAd K ("Game", some "__init__"))) = some (.type "function")) ∧ (PySem.W.findIn K (.ref (He.ga K "Game")) "__str__" = some (some (.ref (He.fAd K ("Game", some "__str__"))))) ∧ (PySem.W.typeIn K (.ref (He.fAd K ("Game", some "__str__"))) = some (.type "function")) := by
  unfold e18 at h
  simp only [Bool.and_eq_true, decide_eq_true_eq, and_assoc] at h
  exact h
theorem e19_ok {K : PySem.W.Frag} (h : e19 K = true) : (PySem.W.nsIn K mainGlobals "are_kinds" = some (some (.ref (He.fAd K ("are_kinds", none))))) ∧ (PySem.W.nsIn K mainGlobals "are_edges" = some (some (.ref (He.fAd K ("are_edges", none))))) ∧ (PySem.W.nsIn K mainGlobals "is_not_above" = some (some (.ref (He.fAd K ("is_not_above", none))))) ∧ (PySem.W.nsIn K mainGlobals "is_goal" = some (some (.ref (He.fAd K ("is_goal", none))))) ∧ (PySem.W.nsIn K mainGlobals "is_between" = some (some (.ref (He.fAd K ("is_between", none))))) ∧ (PySem.W.findIn K (.ref (He.ga K "Position")) "__init__" = some (some (.ref (He.fAd K ("Position", some "__init__"))))) ∧ (PySem.W.typeIn K (.ref (He.fAd K ("Position", some "__init__"))) = some (.type "function")) ∧ (PySem.W.findIn K (.ref (He.ga K "Position")) "__str__" = some (some (.ref (He.fAd K ("Position", some "__str__"))))) := by
  unfold e19 at h
  simp only [Bool.and_eq_true, decide_eq_true_eq, and_assoc] at h
  exact h
theorem e20_ok {K : PySem.W.Frag} (h : e20 K = true) : (PySem.W.typeIn K (.ref (He.fAd K ("Position", some "__str__"))) = some (.type "function")) ∧ (PySem.W.nsIn K mainGlobals "need_position" = some (some (.ref (He.fAd K ("need_position", none))))) ∧ (PySem.W.nsIn K mainGlobals "are_pieces" = some (some (.ref (He.fAd K ("are_pieces", none))))) ∧ (PySem.W.nsIn K mainGlobals "is_piece" = some (some (.ref (He.fAd K ("is_piece", none))))) ∧ (PySem.W.nsIn K mainGlobals "are_stones" = some (some (.ref (He.fAd K ("are_stones", none))))) ∧ (PySem.W.nsIn K mainGlobals "do_pieces_fit" = some (some (.ref (He.fAd K ("do_pieces_fit", none))))) ∧ (PySem.W.nsIn K mainGlobals "do_stones_fit" = some (some (.ref (He.fAd K ("do_stones_fit", none))))) ∧ (PySem.W.nsIn K mainGlobals "squares_of" = some (some (.ref (He.fAd K ("squares_of", none))))) := by
  unfold e20 at h
  simp only [Bool.and_eq_true, decide_eq_true_eq, and_assoc] at h
  exact h
theorem e21_ok {K : PySem.W.Frag} (h : e21 K = true) : (PySem.W.nsIn K mainGlobals "are_on_field" = some (some (.ref (He.fAd K ("are_on_field", none))))) ∧ (PySem.W.nsIn K mainGlobals "standing_of" = some (some (.ref (He.fAd K ("standing_of", none))))) ∧ (PySem.W.nsIn K mainGlobals "lords_of" = some (some (.ref (He.fAd K ("lords_of", none))))) ∧ (PySem.W.nsIn K mainGlobals "turned" = some (some (.ref (He.fAd K ("turned", none))))) ∧ (PySem.W.nsIn K mainGlobals "mirrored" = some (some (.ref (He.fAd K ("mirrored", none))))) ∧ (PySem.W.nsIn K mainGlobals "moved" = some (some (.ref (He.fAd K ("moved", none))))) ∧ (PySem.W.nsIn K mainGlobals "gone_along" = some (some (.ref (He.fAd K ("gone_along", none))))) ∧ (PySem.W.nsIn K mainGlobals "need_way" = some (some (.ref (He.fAd K ("need_way", none))))) := by
  unfold e21 at h
  simp only [Bool.and_eq_true, decide_eq_true_eq, and_assoc] at h
  exact h
theorem e22_ok {K : PySem.W.Frag} (h : e22 K = true) : (PySem.W.nsIn K mainGlobals "pair_along" = some (some (.ref (He.fAd K ("pair_along", none))))) ∧ (PySem.W.nsIn K mainGlobals "_law_hinge" = some (some (.ref (He.fAd K ("_law_hinge", none))))) ∧ (PySem.W.nsIn K mainGlobals "_law_swing" = some (some (.ref (He.fAd K ("_law_swing", none))))) ∧ (PySem.W.nsIn K mainGlobals "_law_one" = some (some (.ref (He.fAd K ("_law_one", none))))) ∧ (PySem.W.nsIn K mainGlobals "_law_heard" = some (some (.ref (He.fAd K ("_law_heard", none))))) ∧ (PySem.W.nsIn K mainGlobals "law" = some (some (.ref (He.fAd K ("law", none))))) ∧ (PySem.W.nsIn K mainGlobals "isinstance" = some none) ∧ (PySem.W.nsIn K mainGlobals "int" = some none) := by
  unfold e22 at h
  simp only [Bool.and_eq_true, decide_eq_true_eq, and_assoc] at h
  exact h
theorem e23_ok {K : PySem.W.Frag} (h : e23 K = true) : (PySem.W.nsIn K mainGlobals "bool" = some none) ∧ (PySem.W.nsIn K mainGlobals "list" = some none) ∧ (PySem.W.nsIn K mainGlobals "tuple" = some none) ∧ (PySem.W.nsIn K mainGlobals "len" = some none) ∧ (PySem.W.nsIn K mainGlobals "str" = some none) ∧ (PySem.W.nsIn K mainGlobals "all" = some none) ∧ (PySem.W.nsIn K mainGlobals "sorted" = some none) ∧ (PySem.W.nsIn K mainGlobals "set" = some none) := by
  unfold e23 at h
  simp only [Bool.and_eq_true, decide_eq_true_eq, and_assoc] at h
  exact h
theorem e24_ok {K : PySem.W.Frag} (h : e24 K = true) : (PySem.W.nsIn K mainGlobals "abs" = some none) ∧ (PySem.W.nsIn K mainGlobals "range" = some none) ∧ (PySem.W.nsIn K mainGlobals "repr" = some none) ∧ (PySem.W.nsIn K mainGlobals "max" = some none) ∧ (PySem.W.nsIn K mainGlobals "zip" = some none) ∧ (PySem.W.specialIn K (.builtin "object.__class__") "__get__" = some (some (.builtin "getset_descriptor.__get__"))) ∧ (PySem.W.takesIn K (.builtin "object.__class__") = some true) ∧ (PySem.W.findIn K (.ref (He.ga K "Kind")) "__class__" = some (some (.builtin "object.__class__"))) := by
  unfold e24 at h
  simp only [Bool.and_eq_true, decide_eq_true_eq, and_assoc] at h
  exact h
theorem e25_ok {K : PySem.W.Frag} (h : e25 K = true) : (PySem.W.mroIn K (He.ga K "Kind") (.type "object") = some true) ∧ (PySem.W.typeIn K (.ref (He.ga K "Kind")) = some (.type "type")) ∧ (PySem.W.isClsIn K (He.ga K "Kind") = true) ∧ (PySem.W.findIn K (.ref (He.ga K "Game")) "__class__" = some (some (.builtin "object.__class__"))) ∧ (PySem.W.mroIn K (He.ga K "Game") (.type "object") = some true) ∧ (PySem.W.typeIn K (.ref (He.ga K "Game")) = some (.type "type")) ∧ (PySem.W.isClsIn K (He.ga K "Game") = true) ∧ (PySem.W.findIn K (.ref (He.ga K "Position")) "__class__" = some (some (.builtin "object.__class__"))) := by
  unfold e25 at h
  simp only [Bool.and_eq_true, decide_eq_true_eq, and_assoc] at h
  exact h
theorem e26_ok {K : PySem.W.Frag} (h : e26 K = true) : (PySem.W.mroIn K (He.ga K "Position") (.type "object") = some true) ∧ (PySem.W.typeIn K (.ref (He.ga K "Position")) = some (.type "type")) ∧ (PySem.W.isClsIn K (He.ga K "Position") = true) ∧ (PySem.W.subIn K (.type "NoneType") (.ref (He.ga K "BadPosition")) = some false) ∧ (PySem.W.subIn K (.type "NoneType") (.ref (He.ga K "BadMove")) = some false) ∧ (PySem.W.subIn K (.type "NoneType") (.ref (He.ga K "BadWords")) = some false) ∧ (PySem.W.subIn K (.type "NoneType") (.ref (He.ga K "BadNumber")) = some false) ∧ (PySem.W.findIn K (.ref (He.ga K "Kind")) "__format__" = some (some (.builtin "object.__format__"))) := by
  unfold e26 at h
  simp only [Bool.and_eq_true, decide_eq_true_eq, and_assoc] at h
  exact h
theorem e27_ok {K : PySem.W.Frag} (h : e27 K = true) : (PySem.W.subIn K (.ref (He.ga K "Game")) (.ref (He.ga K "Position")) = some false) ∧ ((Value.ref (He.ga K "Game") == Value.ref (He.ga K "Position")) = false) ∧ (PySem.W.subIn K (.type "list") (.ref (He.ga K "Position")) = some false) ∧ (PySem.W.subIn K (.type "str") (.ref (He.ga K "Position")) = some false) ∧ (PySem.W.subIn K (.type "NoneType") (.ref (He.ga K "Position")) = some false) ∧ (PySem.W.subIn K (.type "int") (.ref (He.ga K "Position")) = some false) ∧ (PySem.W.subIn K (.type "bool") (.ref (He.ga K "Position")) = some false) ∧ (PySem.W.subIn K (.type "tuple") (.ref (He.ga K "Position")) = some false) := by
  unfold e27 at h
  simp only [Bool.and_eq_true, decide_eq_true_eq, and_assoc] at h
  exact h
theorem e28_ok {K : PySem.W.Frag} (h : e28 K = true) : (PySem.W.subIn K (.type "dict") (.ref (He.ga K "Position")) = some false) ∧ (PySem.W.subIn K (.type "list") (.ref (He.ga K "Game")) = some false) ∧ (PySem.W.subIn K (.type "str") (.ref (He.ga K "Game")) = some false) ∧ (PySem.W.subIn K (.type "NoneType") (.ref (He.ga K "Game")) = some false) ∧ (PySem.W.subIn K (.type "int") (.ref (He.ga K "Game")) = some false) ∧ (PySem.W.subIn K (.type "bool") (.ref (He.ga K "Game")) = some false) ∧ (PySem.W.subIn K (.type "tuple") (.ref (He.ga K "Game")) = some false) ∧ (PySem.W.subIn K (.type "dict") (.ref (He.ga K "Game")) = some false) := by
  unfold e28 at h
  simp only [Bool.and_eq_true, decide_eq_true_eq, and_assoc] at h
  exact h
theorem e29_ok {K : PySem.W.Frag} (h : e29 K = true) : (([(He.ga K "BadPosition"), (He.ga K "BadMove"), (He.ga K "BadWords"), (He.ga K "BadNumber")] : List Addr).Nodup) ∧ (matB K [(He.ga K "BadPosition"), (He.ga K "BadMove"), (He.ga K "BadWords"), (He.ga K "BadNumber")] = true) ∧ (([(He.ga K "BadPosition"), (He.ga K "BadMove"), (He.ga K "BadWords"), (He.ga K "BadNumber")] : List Addr).all (xcB K) = true) ∧ (PySem.W.nsIn K mainGlobals "WAYS" = some (some (.ref (He.ga K "WAYS")))) ∧ (PySem.W.nsIn K mainGlobals "BARRED_NAMES" = some (some (.ref (He.ga K "BARRED_NAMES")))) ∧ (PySem.W.nsIn K mainGlobals "SIDES" = some (some (.ref (He.ga K "SIDES")))) ∧ (PySem.W.nsIn K mainGlobals "STEPS" = some (some (.ref (He.ga K "STEPS")))) ∧ ((He.cT K ("law", none)).2 ≠ (He.cT K ("Game", some "__init__")).2) := by
  unfold e29 at h
  simp only [Bool.and_eq_true, decide_eq_true_eq, and_assoc] at h
  exact h
theorem em_ok {K : PySem.W.Frag} (h : em K = true) : (tupC K (dfTup K ("Kind", some "__init__")) [.ref (He.dflAt ("Kind", some "__init__") 0 K), .bl false]) = true ∧ (tupC K (He.dflAt ("Kind", some "__init__") 0 K) []) = true ∧ (tupC K (dfTup K ("Game", some "__init__")) [.ref (He.dflAt ("Game", some "__init__") 0 K), .ref (He.dflAt ("Game", some "__init__") 1 K)]) = true ∧ (tupC K (dfTup K ("Position", some "__init__")) [.ref (He.dflAt ("Position", some "__init__") 0 K), .int 0]) = true ∧ (tupC K (dfTup K ("gone_along", none)) [.int 0, .int 0]) = true ∧ (tupC K (He.dflAt ("Game", some "__init__") 0 K) [.non, .non, .non, .non]) = true ∧ (tupC K (He.dflAt ("Game", some "__init__") 1 K) [.str "hold"]) = true ∧ (tupC K (He.dflAt ("Position", some "__init__") 0 K) []) = true ∧ (tupC K (He.ga K "WAYS") [.str "turned", .str "mirrored", .str "moved"]) = true ∧ (tupC K (He.ga K "BARRED_NAMES") [.str "lord", .str "leaps", .str "rides", .str "stone"]) = true ∧ (tupC K (He.ga K "SIDES") [.str "left", .str "right", .str "low", .str "high"]) = true ∧ (tupC K (dvalAt K (He.ga K "STEPS") 0) [.int 1, .int 0]) = true ∧ (tupC K (dvalAt K (He.ga K "STEPS") 1) [.int (-1), .int 0]) = true ∧ (tupC K (dvalAt K (He.ga K "STEPS") 2) [.int 0, .int 1]) = true ∧ (tupC K (dvalAt K (He.ga K "STEPS") 3) [.int 0, .int (-1)]) = true ∧ (xcC K (He.ga K "FieldError")) = true ∧ (xcC K (He.ga K "BadNumber")) = true ∧ (xcC K (He.ga K "BadKind")) = true ∧ (xcC K (He.ga K "BadGame")) = true ∧ (xcC K (He.ga K "BadPosition")) = true ∧ (xcC K (He.ga K "BadMove")) = true ∧ (xcC K (He.ga K "BadWords")) = true ∧ (xcC K (He.ga K "Misfit")) = true ∧ (strC K "LETTERS" "abcdefghijklmnopqrstuvwxyz") = true ∧ (intC K "LONGEST_NAME" 8) = true ∧ (intC K "LONGEST_LEAP" 3) = true ∧ (intC K "MOST_KINDS" 8) = true ∧ (intC K "MOST_PIECES" 16) = true ∧ (intC K "MOST_STONES" 16) = true ∧ (entC K (He.ga K "STEPS") [("right", dvalAt K (He.ga K "STEPS") 0), ("left", dvalAt K (He.ga K "STEPS") 1), ("up", dvalAt K (He.ga K "STEPS") 2), ("down", dvalAt K (He.ga K "STEPS") 3)]) = true := by
  unfold em at h
  simp only [Bool.and_eq_true, and_assoc] at h
  exact h
theorem ex_ok {K : PySem.W.Frag} (h : ex K = true) : em K = true ∧ e0 K = true ∧ e1 K = true ∧ e2 K = true ∧ e3 K = true ∧ e4 K = true ∧ e5 K = true ∧ e6 K = true ∧ e7 K = true ∧ e8 K = true ∧ e9 K = true ∧ e10 K = true ∧ e11 K = true ∧ e12 K = true ∧ e13 K = true ∧ e14 K = true ∧ e15 K = true ∧ e16 K = true ∧ e17 K = true ∧ e18 K = true ∧ e19 K = true ∧ e20 K = true ∧ e21 K = true ∧ e22 K = true ∧ e23 K = true ∧ e24 K = true ∧ e25 K = true ∧ e26 K = true ∧ e27 K = true ∧ e28 K = true ∧ e29 K = true := by
  unfold ex at h
  simp only [Bool.and_eq_true, and_assoc] at h
  exact h
theorem all_he {l : PySem.W.OpenLaw} {w : World} {K : PySem.W.Frag} {h : Heap} {mg : Str → Option Value} {fa : Addr} (X : K.In h) (G : h.Ns mainGlobals mg) (hfa : mg "law" = some (.ref fa)) (c : He.SaysX [] fn ts tf ex w h K) :
    ∃ (fd : FuncData) (cc cc2 : Addr), (∀ (s : Shared) (v : Value), BindsTo s fd ⟨[v], []⟩ [("script", v)]) ∧ K.lookup (He.cT K ("law", none)).2 = none ∧ PySem.W.codeHdIn K cc (He.cT K ("law", none)).2 = true ∧ K.lookup (He.cT K ("Game", some "__init__")).2 = none ∧ PySem.W.codeHdIn K cc2 (He.cT K ("Game", some "__init__")).2 = true ∧
      ∀ base : Heap, K.In base → base.Ns mainGlobals mg → LamX.TabB base mg cc (He.cT K ("law", none)).2 → LamX.TabB base mg cc2 (He.cT K ("Game", some "__init__")).2 → FnG l.prog w K mg base CX0 14 fa fd ["script"] (spLaw K (He.cT K ("law", none)).2 (He.cT K ("Game", some "__init__")).2) := by
  obtain ⟨hm, h0, h1, h2, h3, h4, h5, h6, h7, h8, h9, h10, h11, h12, h13, h14, h15, h16, h17, h18, h19, h20, h21, h22, h23, h24, h25, h26, h27, h28, h29⟩ := ex_ok c.more
  obtain ⟨tup_dl13, tup_lE, tup_dl20, tup_dl27, tup_dl42, tup_lN4, tup_lH1, tup_lPE, tup_lWY, tup_lB, tup_lSD, tup_lRr, tup_lLl, tup_lUu, tup_lDd, xc_FieldError, xc_BadNumber, xc_BadKind, xc_BadGame, xc_BadPosition, xc_BadMove, xc_BadWords, xc_Misfit, sc_gL, sc_gN, sc_gP, sc_gMK, sc_gMP, sc_gMS, ent_S⟩ := em_ok hm
  obtain ⟨aCKind, pgKind, hdKind, poKind, saKind, mkKind, kcKind, nFKind_name⟩ := e0_ok h0
  obtain ⟨nFKind_leaps, nFKind_rides, nFKind_is_lord, aCGame, pgGame, hdGame, poGame, saGame⟩ := e1_ok h1
  obtain ⟨mkGame, kcGame, nFGame_kinds, nFGame_edges, nFGame_goal, nFGame_table, nFGame_farthest, aCPosition⟩ := e2_ok h2
  obtain ⟨pgPosition, hdPosition, poPosition, saPosition, mkPosition, kcPosition, nFPosition_game, nFPosition_pieces⟩ := e3_ok h3
  obtain ⟨nFPosition_stones, nFPosition_turn, nFPosition_standing, nFPosition_lords, aCFieldError, saFieldError, eCFieldError, tCFieldError⟩ := e4_ok h4
  obtain ⟨kcFieldError, hdFieldError, iCFieldError, gaFieldError, ggFieldError, aCBadNumber, saBadNumber, eCBadNumber⟩ := e5_ok h5
  obtain ⟨tCBadNumber, kcBadNumber, hdBadNumber, iCBadNumber, gaBadNumber, ggBadNumber, noBadNumber_part, aCBadKind⟩ := e6_ok h6
  obtain ⟨saBadKind, eCBadKind, tCBadKind, kcBadKind, hdBadKind, iCBadKind, gaBadKind, ggBadKind⟩ := e7_ok h7
  obtain ⟨noBadKind_part, aCBadGame, saBadGame, eCBadGame, tCBadGame, kcBadGame, hdBadGame, iCBadGame⟩ := e8_ok h8
  obtain ⟨gaBadGame, ggBadGame, noBadGame_part, aCBadPosition, saBadPosition, eCBadPosition, tCBadPosition, kcBadPosition⟩ := e9_ok h9
  obtain ⟨hdBadPosition, iCBadPosition, gaBadPosition, ggBadPosition, noBadPosition_part, aCBadMove, saBadMove, eCBadMove⟩ := e10_ok h10
  obtain ⟨tCBadMove, kcBadMove, hdBadMove, iCBadMove, gaBadMove, ggBadMove, noBadMove_part, aCBadWords⟩ := e11_ok h11
  obtain ⟨saBadWords, eCBadWords, tCBadWords, kcBadWords, hdBadWords, iCBadWords, gaBadWords, ggBadWords⟩ := e12_ok h12
  obtain ⟨noBadWords_part, aCMisfit, saMisfit, eCMisfit, tCMisfit, kcMisfit, hdMisfit, iCMisfit⟩ := e13_ok h13
  obtain ⟨gaMisfit, ggMisfit, noMisfit_part, xmBadPosition_FieldError, xmBadMove_FieldError, xmBadWords_FieldError, xmBadNumber_FieldError, a0⟩ := e14_ok h14
  obtain ⟨a1, a2, a3, a4, a5, a6, t6, a7⟩ := e15_ok h15
  obtain ⟨t7, a8, t8, a9, t9, a10, t10, a11⟩ := e16_ok h16
  obtain ⟨t11, a12, t12, a13, t13, a14, t14, a15⟩ := e17_ok h17
  obtain ⟨a16, a17, a18, a19, a20, t20, a21, t21⟩ := e18_ok h18
  obtain ⟨a22, a23, a24, a25, a26, a27, t27, a28⟩ := e19_ok h19
  obtain ⟨t28, a29, a30, a31, a32, a33, a34, a35⟩ := e20_ok h20
  obtain ⟨a36, a37, a38, a39, a40, a41, a42, a43⟩ := e21_ok h21
  obtain ⟨a44, a45, a46, a47, a48, a49, z0, z1⟩ := e22_ok h22
  obtain ⟨z2, z3, z4, z5, z6, z7, z8, z9⟩ := e23_ok h23
  obtain ⟨z10, z11, z12, z13, z14, hn1, tk1, haKind⟩ := e24_ok h24
  obtain ⟨moKind, tCKind, iCKind, haGame, moGame, tCGame, iCGame, haPosition⟩ := e25_ok h25
  obtain ⟨moPosition, tCPosition, iCPosition, nnBadPosition, nnBadMove, nnBadWords, nnBadNumber, fmKind⟩ := e26_ok h26
  obtain ⟨kgP, ngP, kp_list, kp_str, kp_NoneType, kp_int, kp_bool, kp_tuple⟩ := e27_ok h27
  obtain ⟨kp_dict, kn_list, kn_str, kn_NoneType, kn_int, kn_bool, kn_tuple, kn_dict⟩ := e28_ok h28
  obtain ⟨mN, mM, mX, gWY, gB, gSD, gS, hneT⟩ := e29_ok h29
  obtain ⟨dO13, dI13, dN13, dS13, dl13, zz_dl13, vE⟩ := tupC_ok tup_dl13
  obtain ⟨eO, eI, eN, eS, lE, zE, uE⟩ := tupC_ok tup_lE
  obtain ⟨dO20, dI20, dN20, dS20, dl20, zz_dl20, vG⟩ := tupC_ok tup_dl20
  obtain ⟨dO27, dI27, dN27, dS27, dl27, zz_dl27, vP⟩ := tupC_ok tup_dl27
  obtain ⟨dO42, dI42, dN42, dS42, dl42, zz_dl42, vA⟩ := tupC_ok tup_dl42
  obtain ⟨oN4, iN4, nN4, sN4, lN4, zN4, vN4⟩ := tupC_ok tup_lN4
  obtain ⟨oH1, iH1, nH1, sH1, lH1, zH1, vH1⟩ := tupC_ok tup_lH1
  obtain ⟨oPE, iPE, nPE, sPE, lPE, zPE, vPE⟩ := tupC_ok tup_lPE
  obtain ⟨oWY, iWY, nWY, sWY, lWY, zWY, vWY⟩ := tupC_ok tup_lWY
  obtain ⟨oB, iB, nB, sB, lB, zB, vB⟩ := tupC_ok tup_lB
  obtain ⟨oSD, iSD, nSD, sSD, lSD, zSD, vSD⟩ := tupC_ok tup_lSD
  obtain ⟨oRr, iRr, nRr, sRr, lRr, zRr, vRr⟩ := tupC_ok tup_lRr
  obtain ⟨oLl, iLl, nLl, sLl, lLl, zLl, vLl⟩ := tupC_ok tup_lLl
  obtain ⟨oUu, iUu, nUu, sUu, lUu, zUu, vUu⟩ := tupC_ok tup_lUu
  obtain ⟨oDd, iDd, nDd, sDd, lDd, zDd, vDd⟩ := tupC_ok tup_lDd
  obtain ⟨_, _, _, _, _, _, _, _, _, _, _, _, _, _, _, xLFieldError, rfFieldError⟩ := xcC_ok xc_FieldError
  obtain ⟨_, _, _, _, _, _, _, _, _, _, _, _, _, _, _, xLBadNumber, rfBadNumber⟩ := xcC_ok xc_BadNumber
  obtain ⟨_, _, _, _, _, _, _, _, _, _, _, _, _, _, _, xLBadKind, rfBadKind⟩ := xcC_ok xc_BadKind
  obtain ⟨_, _, _, _, _, _, _, _, _, _, _, _, _, _, _, xLBadGame, rfBadGame⟩ := xcC_ok xc_BadGame
  obtain ⟨_, _, _, _, _, _, _, _, _, _, _, _, _, _, _, xLBadPosition, rfBadPosition⟩ := xcC_ok xc_BadPosition
  obtain ⟨_, _, _, _, _, _, _, _, _, _, _, _, _, _, _, xLBadMove, rfBadMove⟩ := xcC_ok xc_BadMove
  obtain ⟨_, _, _, _, _, _, _, _, _, _, _, _, _, _, _, xLBadWords, rfBadWords⟩ := xcC_ok xc_BadWords
  obtain ⟨_, _, _, _, _, _, _, _, _, _, _, _, _, _, _, xLMisfit, rfMisfit⟩ := xcC_ok xc_Misfit
  obtain ⟨fd0, F0⟩ := c.t.d.defs (d := q_d0) (by simp [fn, fn0, fn1, fn2, fn3, fn4])
  obtain ⟨oc0, od0, an0, sl0, kV0, dc0, pm0, cd0, ct0, l0, c0, k0⟩ := rawF F0
  obtain ⟨fd1, F1⟩ := c.t.d.defs (d := q_d1) (by simp [fn, fn0, fn1, fn2, fn3, fn4])
  obtain ⟨oc1, od1, an1, sl1, kV1, dc1, pm1, cd1, ct1, l1, c1, k1⟩ := rawF F1
  obtain ⟨fd2, F2⟩ := c.t.d.defs (d := q_d2) (by simp [fn, fn0, fn1, fn2, fn3, fn4])
  obtain ⟨oc2, od2, an2, sl2, kV2, dc2, pm2, cd2, ct2, l2, c2, k2⟩ := rawF F2
  obtain ⟨fd3, F3⟩ := c.t.d.defs (d := q_d3) (by simp [fn, fn0, fn1, fn2, fn3, fn4])
  obtain ⟨oc3, od3, an3, sl3, kV3, dc3, pm3, cd3, ct3, l3, c3, k3⟩ := rawF F3
  obtain ⟨fd4, F4⟩ := c.t.d.defs (d := q_d4) (by simp [fn, fn0, fn1, fn2, fn3, fn4])
  obtain ⟨oc4, od4, an4, sl4, kV4, dc4, pm4, cd4, ct4, l4, c4, k4⟩ := rawF F4
  obtain ⟨fd5, F5⟩ := c.t.d.defs (d := q_d5) (by simp [fn, fn0, fn1, fn2, fn3, fn4])
  obtain ⟨oc5, od5, an5, sl5, kV5, dc5, pm5, cd5, ct5, l5, c5, k5⟩ := rawF F5
  obtain ⟨fd6, F6⟩ := c.t.d.defs (d := q_d6) (by simp [fn, fn0, fn1, fn2, fn3, fn4])
  obtain ⟨oc6, od6, an6, sl6, kV6, dc6, pm6, cd6, ct6, l6, c6, k6⟩ := rawF F6
  obtain ⟨fd7, F7⟩ := c.t.d.defs (d := q_d7) (by simp [fn, fn0, fn1, fn2, fn3, fn4])
  obtain ⟨oc7, od7, an7, sl7, kV7, dc7, pm7, cd7, ct7, l7, c7, k7⟩ := rawF F7
  obtain ⟨fd8, F8⟩ := c.t.d.defs (d := q_d8) (by simp [fn, fn0, fn1, fn2, fn3, fn4])
  obtain ⟨oc8, od8, an8, sl8, kV8, dc8, pm8, cd8, ct8, l8, c8, k8⟩ := rawF F8
  obtain ⟨fd9, F9⟩ := c.t.d.defs (d := q_d9) (by simp [fn, fn0, fn1, fn2, fn3, fn4])
  obtain ⟨oc9, od9, an9, sl9, kV9, dc9, pm9, cd9, ct9, l9, c9, k9⟩ := rawF F9
  obtain ⟨fd10, F10⟩ := c.t.d.defs (d := q_d10) (by simp [fn, fn0, fn1, fn2, fn3, fn4])
  obtain ⟨oc10, od10, an10, sl10, kV10, dc10, pm10, cd10, ct10, l10, c10, k10⟩ := rawF F10
  obtain ⟨fd11, F11⟩ := c.t.d.defs (d := q_d11) (by simp [fn, fn0, fn1, fn2, fn3, fn4])
  obtain ⟨oc11, od11, an11, sl11, kV11, dc11, pm11, cd11, ct11, l11, c11, k11⟩ := rawF F11
  obtain ⟨fd12, F12⟩ := c.t.d.defs (d := q_d12) (by simp [fn, fn0, fn1, fn2, fn3, fn4])
  obtain ⟨oc12, od12, an12, sl12, kV12, dc12, pm12, cd12, ct12, l12, c12, k12⟩ := rawF F12
  obtain ⟨fd13, F13⟩ := c.t.d.defs (d := q_d13) (by simp [fn, fn0, fn1, fn2, fn3, fn4])
  obtain ⟨oc13, od13, an13, sl13, kV13, dc13, pm13, cd13, ct13, l13, c13, k13⟩ := rawD (p0 := ("Kind", some "__init__")) F13
  obtain ⟨fd14, F14⟩ := c.t.d.defs (d := q_d14) (by simp [fn, fn0, fn1, fn2, fn3, fn4])
  obtain ⟨oc14, od14, an14, sl14, kV14, dc14, pm14, cd14, ct14, l14, c14, k14⟩ := rawF F14
  obtain ⟨fd15, F15⟩ := c.t.d.defs (d := q_d15) (by simp [fn, fn0, fn1, fn2, fn3, fn4])
  obtain ⟨oc15, od15, an15, sl15, kV15, dc15, pm15, cd15, ct15, l15, c15, k15⟩ := rawF F15
  obtain ⟨fd16, F16⟩ := c.t.d.defs (d := q_d16) (by simp [fn, fn0, fn1, fn2, fn3, fn4])
  obtain ⟨oc16, od16, an16, sl16, kV16, dc16, pm16, cd16, ct16, l16, c16, k16⟩ := rawF F16
  obtain ⟨fd17, F17⟩ := c.t.d.defs (d := q_d17) (by simp [fn, fn0, fn1, fn2, fn3, fn4])
  obtain ⟨oc17, od17, an17, sl17, kV17, dc17, pm17, cd17, ct17, l17, c17, k17⟩ := rawF F17
  obtain ⟨fd18, F18⟩ := c.t.d.defs (d := q_d18) (by simp [fn, fn0, fn1, fn2, fn3, fn4])
  obtain ⟨oc18, od18, an18, sl18, kV18, dc18, pm18, cd18, ct18, l18, c18, k18⟩ := rawF F18
  obtain ⟨fd19, F19⟩ := c.t.d.defs (d := q_d19) (by simp [fn, fn0, fn1, fn2, fn3, fn4])
  obtain ⟨oc19, od19, an19, sl19, kV19, dc19, pm19, cd19, ct19, l19, c19, k19⟩ := rawF F19
  obtain ⟨fd20, F20⟩ := c.t.d.defs (d := q_d20) (by simp [fn, fn0, fn1, fn2, fn3, fn4])
  obtain ⟨oc20, od20, an20, sl20, kV20, dc20, pm20, cd20, ct20, l20, c20, k20⟩ := rawD (p0 := ("Game", some "__init__")) F20
  obtain ⟨cr20, rfl⟩ := He.codeIn_ref c20
  have ce20 := He.codeOf_eq (p := ("Game", some "__init__")) l20 rfl
  subst ce20
  obtain ⟨fd21, F21⟩ := c.t.d.defs (d := q_d21) (by simp [fn, fn0, fn1, fn2, fn3, fn4])
  obtain ⟨oc21, od21, an21, sl21, kV21, dc21, pm21, cd21, ct21, l21, c21, k21⟩ := rawF F21
  obtain ⟨fd22, F22⟩ := c.t.d.defs (d := q_d22) (by simp [fn, fn0, fn1, fn2, fn3, fn4])
  obtain ⟨oc22, od22, an22, sl22, kV22, dc22, pm22, cd22, ct22, l22, c22, k22⟩ := rawF F22
  obtain ⟨fd23, F23⟩ := c.t.d.defs (d := q_d23) (by simp [fn, fn0, fn1, fn2, fn3, fn4])
  obtain ⟨oc23, od23, an23, sl23, kV23, dc23, pm23, cd23, ct23, l23, c23, k23⟩ := rawF F23
  obtain ⟨fd24, F24⟩ := c.t.d.defs (d := q_d24) (by simp [fn, fn0, fn1, fn2, fn3, fn4])
  obtain ⟨oc24, od24, an24, sl24, kV24, dc24, pm24, cd24, ct24, l24, c24, k24⟩ := rawF F24
  obtain ⟨fd25, F25⟩ := c.t.d.defs (d := q_d25) (by simp [fn, fn0, fn1, fn2, fn3, fn4])
  obtain ⟨oc25, od25, an25, sl25, kV25, dc25, pm25, cd25, ct25, l25, c25, k25⟩ := rawF F25
  obtain ⟨fd26, F26⟩ := c.t.d.defs (d := q_d26) (by simp [fn, fn0, fn1, fn2, fn3, fn4])
  obtain ⟨oc26, od26, an26, sl26, kV26, dc26, pm26, cd26, ct26, l26, c26, k26⟩ := rawF F26
  obtain ⟨fd27, F27⟩ := c.t.d.defs (d := q_d27) (by simp [fn, fn0, fn1, fn2, fn3, fn4])
  obtain ⟨oc27, od27, an27, sl27, kV27, dc27, pm27, cd27, ct27, l27, c27, k27⟩ := rawD (p0 := ("Position", some "__init__")) F27
  obtain ⟨fd28, F28⟩ := c.t.d.defs (d := q_d28) (by simp [fn, fn0, fn1, fn2, fn3, fn4])
  obtain ⟨oc28, od28, an28, sl28, kV28, dc28, pm28, cd28, ct28, l28, c28, k28⟩ := rawF F28
  obtain ⟨fd29, F29⟩ := c.t.d.defs (d := q_d29) (by simp [fn, fn0, fn1, fn2, fn3, fn4])
  obtain ⟨oc29, od29, an29, sl29, kV29, dc29, pm29, cd29, ct29, l29, c29, k29⟩ := rawF F29
  obtain ⟨fd30, F30⟩ := c.t.d.defs (d := q_d30) (by simp [fn, fn0, fn1, fn2, fn3, fn4])
  obtain ⟨oc30, od30, an30, sl30, kV30, dc30, pm30, cd30, ct30, l30, c30, k30⟩ := rawF F30
  obtain ⟨fd31, F31⟩ := c.t.d.defs (d := q_d31) (by simp [fn, fn0, fn1, fn2, fn3, fn4])
  obtain ⟨oc31, od31, an31, sl31, kV31, dc31, pm31, cd31, ct31, l31, c31, k31⟩ := rawF F31
  obtain ⟨fd32, F32⟩ := c.t.d.defs (d := q_d32) (by simp [fn, fn0, fn1, fn2, fn3, fn4])
  obtain ⟨oc32, od32, an32, sl32, kV32, dc32, pm32, cd32, ct32, l32, c32, k32⟩ := rawF F32
  obtain ⟨fd33, F33⟩ := c.t.d.defs (d := q_d33) (by simp [fn, fn0, fn1, fn2, fn3, fn4])
  obtain ⟨oc33, od33, an33, sl33, kV33, dc33, pm33, cd33, ct33, l33, c33, k33⟩ := rawF F33
  obtain ⟨fd34, F34⟩ := c.t.d.defs (d := q_d34) (by simp [fn, fn0, fn1, fn2, fn3, fn4])
  obtain ⟨oc34, od34, an34, sl34, kV34, dc34, pm34, cd34, ct34, l34, c34, k34⟩ := rawF F34
  obtain ⟨fd35, F35⟩ := c.t.d.defs (d := q_d35) (by simp [fn, fn0, fn1, fn2, fn3, fn4])
  obtain ⟨oc35, od35, an35, sl35, kV35, dc35, pm35, cd35, ct35, l35, c35, k35⟩ := rawF F35
  obtain ⟨fd36, F36⟩ := c.t.d.defs (d := q_d36) (by simp [fn, fn0, fn1, fn2, fn3, fn4])
  obtain ⟨oc36, od36, an36, sl36, kV36, dc36, pm36, cd36, ct36, l36, c36, k36⟩ := rawF F36
  obtain ⟨fd37, F37⟩ := c.t.d.defs (d := q_d37) (by simp [fn, fn0, fn1, fn2, fn3, fn4])
  obtain ⟨oc37, od37, an37, sl37, kV37, dc37, pm37, cd37, ct37, l37, c37, k37⟩ := rawF F37
  obtain ⟨fd38, F38⟩ := c.t.d.defs (d := q_d38) (by simp [fn, fn0, fn1, fn2, fn3, fn4])
  obtain ⟨oc38, od38, an38, sl38, kV38, dc38, pm38, cd38, ct38, l38, c38, k38⟩ := rawF F38
  obtain ⟨fd39, F39⟩ := c.t.d.defs (d := q_d39) (by simp [fn, fn0, fn1, fn2, fn3, fn4])
  obtain ⟨oc39, od39, an39, sl39, kV39, dc39, pm39, cd39, ct39, l39, c39, k39⟩ := rawF F39
  obtain ⟨fd40, F40⟩ := c.t.d.defs (d := q_d40) (by simp [fn, fn0, fn1, fn2, fn3, fn4])
  obtain ⟨oc40, od40, an40, sl40, kV40, dc40, pm40, cd40, ct40, l40, c40, k40⟩ := rawF F40
  obtain ⟨fd41, F41⟩ := c.t.d.defs (d := q_d41) (by simp [fn, fn0, fn1, fn2, fn3, fn4])
  obtain ⟨oc41, od41, an41, sl41, kV41, dc41, pm41, cd41, ct41, l41, c41, k41⟩ := rawF F41
  obtain ⟨fd42, F42⟩ := c.t.d.defs (d := q_d42) (by simp [fn, fn0, fn1, fn2, fn3, fn4])
  obtain ⟨oc42, od42, an42, sl42, kV42, dc42, pm42, cd42, ct42, l42, c42, k42⟩ := rawD (p0 := ("gone_along", none)) F42
  obtain ⟨fd43, F43⟩ := c.t.d.defs (d := q_d43) (by simp [fn, fn0, fn1, fn2, fn3, fn4])
  obtain ⟨oc43, od43, an43, sl43, kV43, dc43, pm43, cd43, ct43, l43, c43, k43⟩ := rawF F43
  obtain ⟨fd44, F44⟩ := c.t.d.defs (d := q_d44) (by simp [fn, fn0, fn1, fn2, fn3, fn4])
  obtain ⟨oc44, od44, an44, sl44, kV44, dc44, pm44, cd44, ct44, l44, c44, k44⟩ := rawF F44
  obtain ⟨fd45, F45⟩ := c.t.d.defs (d := q_d45) (by simp [fn, fn0, fn1, fn2, fn3, fn4])
  obtain ⟨oc45, od45, an45, sl45, kV45, dc45, pm45, cd45, ct45, l45, c45, k45⟩ := rawF F45
  obtain ⟨fd46, F46⟩ := c.t.d.defs (d := q_d46) (by simp [fn, fn0, fn1, fn2, fn3, fn4])
  obtain ⟨oc46, od46, an46, sl46, kV46, dc46, pm46, cd46, ct46, l46, c46, k46⟩ := rawF F46
  obtain ⟨fd47, F47⟩ := c.t.d.defs (d := q_d47) (by simp [fn, fn0, fn1, fn2, fn3, fn4])
  obtain ⟨oc47, od47, an47, sl47, kV47, dc47, pm47, cd47, ct47, l47, c47, k47⟩ := rawF F47
  obtain ⟨fd48, F48⟩ := c.t.d.defs (d := q_d48) (by simp [fn, fn0, fn1, fn2, fn3, fn4])
  obtain ⟨oc48, od48, an48, sl48, kV48, dc48, pm48, cd48, ct48, l48, c48, k48⟩ := rawF F48
  obtain ⟨fd49, F49⟩ := c.t.d.defs (d := q_d49) (by simp [fn, fn0, fn1, fn2, fn3, fn4])
  obtain ⟨oc49, od49, an49, sl49, kV49, dc49, pm49, cd49, ct49, l49, c49, k49⟩ := rawF F49
  obtain ⟨cr49, rfl⟩ := He.codeIn_ref c49
  have ce49 := He.codeOf_eq (p := ("law", none)) l49 rfl
  subst ce49
  obtain ⟨tL1, gL⟩ := strC_ok sc_gL
  obtain ⟨tN1, gN⟩ := intC_ok sc_gN
  obtain ⟨tP1, gP⟩ := intC_ok sc_gP
  obtain ⟨tK1, gMK⟩ := intC_ok sc_gMK
  obtain ⟨tM1, gMP⟩ := intC_ok sc_gMP
  obtain ⟨tM2, gMS⟩ := intC_ok sc_gMS
  obtain ⟨esS, nS, kdS⟩ := c.t.tab 0 (t := (fun K => He.ga K "STEPS", ["right", "left", "up", "down"])) rfl
  have lS := kdS.at_
  have ktS := kdS.lit
  have loS := kdS.low
  obtain ⟨zS, entS⟩ := entC_ok ent_S lS
  have eRS := entS 0 _ _ rfl
  have eLS := entS 1 _ _ rfl
  have eUS := entS 2 _ _ rfl
  have eDS := entS 3 _ _ rfl
  exact all_mk (Tb := (He.cT K ("law", none)).2) (Tg := (He.cT K ("Game", some "__init__")).2) X G hfa aCKind pgKind hdKind poKind saKind mkKind kcKind nFKind_name nFKind_leaps nFKind_rides nFKind_is_lord aCGame pgGame hdGame poGame saGame mkGame kcGame nFGame_kinds nFGame_edges nFGame_goal nFGame_table nFGame_farthest aCPosition pgPosition hdPosition poPosition saPosition mkPosition kcPosition nFPosition_game nFPosition_pieces nFPosition_stones nFPosition_turn nFPosition_standing nFPosition_lords aCFieldError xLFieldError rfFieldError saFieldError eCFieldError tCFieldError kcFieldError hdFieldError iCFieldError gaFieldError ggFieldError aCBadNumber xLBadNumber rfBadNumber saBadNumber eCBadNumber tCBadNumber kcBadNumber hdBadNumber iCBadNumber gaBadNumber ggBadNumber noBadNumber_part aCBadKind xLBadKind rfBadKind saBadKind eCBadKind tCBadKind kcBadKind hdBadKind iCBadKind gaBadKind ggBadKind noBadKind_part aCBadGame xLBadGame rfBadGame saBadGame eCBadGame tCBadGame kcBadGame hdBadGame iCBadGame gaBadGame ggBadGame noBadGame_part aCBadPosition xLBadPosition rfBadPosition saBadPosition eCBadPosition tCBadPosition kcBadPosition hdBadPosition iCBadPosition gaBadPosition ggBadPosition noBadPosition_part aCBadMove xLBadMove rfBadMove saBadMove eCBadMove tCBadMove kcBadMove hdBadMove iCBadMove gaBadMove ggBadMove noBadMove_part aCBadWords xLBadWords rfBadWords saBadWords eCBadWords tCBadWords kcBadWords hdBadWords iCBadWords gaBadWords ggBadWords noBadWords_part aCMisfit xLMisfit rfMisfit saMisfit eCMisfit tCMisfit kcMisfit hdMisfit iCMisfit gaMisfit ggMisfit noMisfit_part xmBadPosition_FieldError xmBadMove_FieldError xmBadWords_FieldError xmBadNumber_FieldError a0 l0 c0 k0 a1 l1 c1 k1 a2 l2 c2 k2 a3 l3 c3 k3 a4 l4 c4 k4 a5 l5 c5 k5 a6 t6 l6 c6 k6 a7 t7 l7 c7 k7 a8 t8 l8 c8 k8 a9 t9 l9 c9 k9 a10 t10 l10 c10 k10 a11 t11 l11 c11 k11 a12 t12 l12 c12 k12 a13 t13 l13 c13 k13 dl13 vE lE zE uE a14 t14 l14 c14 k14 a15 l15 c15 k15 a16 l16 c16 k16 a17 l17 c17 k17 a18 l18 c18 k18 a19 l19 c19 k19 a20 t20 l20 c20 k20 dl20 vG a21 t21 l21 c21 k21 a22 l22 c22 k22 a23 l23 c23 k23 a24 l24 c24 k24 a25 l25 c25 k25 a26 l26 c26 k26 a27 t27 l27 c27 k27 dl27 vP a28 t28 l28 c28 k28 a29 l29 c29 k29 a30 l30 c30 k30 a31 l31 c31 k31 a32 l32 c32 k32 a33 l33 c33 k33 a34 l34 c34 k34 a35 l35 c35 k35 a36 l36 c36 k36 a37 l37 c37 k37 a38 l38 c38 k38 a39 l39 c39 k39 a40 l40 c40 k40 a41 l41 c41 k41 a42 l42 c42 k42 dl42 vA a43 l43 c43 k43 a44 l44 c44 k44 a45 l45 c45 k45 a46 l46 c46 k46 a47 l47 c47 k47 a48 l48 c48 k48 a49 l49 c49 k49 z0 z1 z2 z3 z4 z5 z6 z7 z8 z9 z10 z11 z12 z13 z14 lN4 zN4 vN4 lH1 zH1 vH1 lPE zPE vPE hn1 tk1 haKind moKind tCKind iCKind haGame moGame tCGame iCGame haPosition moPosition tCPosition iCPosition nnBadPosition nnBadMove nnBadWords nnBadNumber fmKind kgP ngP kp_list kp_str kp_NoneType kp_int kp_bool kp_tuple kp_dict kn_list kn_str kn_NoneType kn_int kn_bool kn_tuple kn_dict mN mM mX gL gN gP gMK gMP gMS gWY lWY zWY vWY gB lB zB vB gSD lSD zSD vSD gS lS ktS loS zS eRS eLS eUS eDS lRr zRr vRr lLl zLl vLl lUu zUu vUu lDd zDd vDd (c.out _ (by simp [tf]) : K.lookup (He.cT K ("law", none)).2 = none) (c.hd ("law", none) (by simp [tf])) (c.out _ (by simp [tf]) : K.lookup (He.cT K ("Game", some "__init__")).2 = none) (c.hd ("Game", some "__init__") (by simp [tf])) hneT
end K57

open PySem PySem.W PySem.Calls PyProof.Rows
set_option maxRecDepth 100000
set_option maxHeartbeats 0 in
theorem PySem.Challenge.cw_gapsame_k57_turns_refused_holds : PySem.Challenge.rw_gapsame_k57_turns_refused.Holds := by
  w_on; o_law
  refine HandSHeadRun.head_any (r := OpenLaw.row PySem.Challenge.rw_gapsame_k57_turns_refused) (q := K57.qv) (H := K57.hk) (ob := K57.ob) (M := 8000) (loose := K57.names) (d := HandSHeadRun.topDef (OpenLaw.row PySem.Challenge.rw_gapsame_k57_turns_refused).prog 97) (kwd := []) K57.ob_eq
    (by kernel_rfl) (fun s => by kernel_rfl) K57.run (by kernel_rfl) (by kernel_rfl) (by kernel_rfl) (by rfl) (by first | assumption | decide +kernel) (by decide +kernel) ⟨rfl, rfl, rfl, rfl, rfl, by decide +kernel⟩ ?hw ?hc
  case hw => w_witness2
  case hc =>
    refine Gs.walkHd2 (l := PySem.Challenge.rw_gapsame_k57_turns_refused) (k := 14) (x := "script") (sp := fun K T T2 => K57.spLaw K T T2) rfl (by kernel_rfl) ⟨rfl, by decide, by decide⟩ ?F
      (fun K T T2 H a ns hl hT hT2 hS => ⟨a, ns, rfl, hS, hl, Gs.tabs_none2 hT hT2, fun _ => rfl⟩)
    intro w mg fa h Y G hmg0
    obtain ⟨K, KX, c⟩ := Y
    have hmg : mg ("law" : PySem.Str) = some (.ref fa) := by
      have e : (HandSHeadRun.topDef (OpenLaw.row PySem.Challenge.rw_gapsame_k57_turns_refused).prog 97).name = ("law" : PySem.Str) := by kernel_rfl
      rw [← e]
      exact hmg0
    obtain ⟨fd, cc, cc2, hb, n1, h1, n2, h2, hF⟩ := K57.all_he (l := PySem.Challenge.rw_gapsame_k57_turns_refused) (w := w) KX G hmg c
    exact ⟨K, fd, cc, cc2, _, _, KX, c.empty _ (by simp [K57.tf]), c.empty _ (by simp [K57.tf]), hb, n1, h1, n2, h2, hF⟩

