import PyProof.Rows.All
import Wide.All
import OpenK.AllK
import Wide.FinOn
import HandS.ForMost
import HandS.IsInst
import HandS.Defaults
import HandS.Flow
import HandS.MakeKwOnly
import PyProof.ReprRoads
import HandS.Wide
import HandS.Walk
import PyProof.ReprBulk
import PyProof.Rows.ReprOcc
import HandS.SetBool
import HandS.TupSets
import HandS.More
import HandS.Iter
import HandS.Strs
import HandS.SortRule
import KE.KDictList
import HandS.ClsMeth
import KE.KCallOwn
import HandS.Exc
import HandS.ExcField
import HandS.TryMany
import HandS.WordsExc
import KE.KDictDisplayH
import HandS.DictTup
import HandS.Lambda
import HandS.NoneIn
import HandS.ExcInit
import HandS.FStr
import PySem.Challenge.RW_gapsame_k04_texts_of_kinds_bent
import HandS.Codes
import KE.IntTextLaws
import HandS.TupLe
import HandS.Style
import HandS.Deep
import PyProof.Rows.StrDouble
import PyProof.Rows.StrFin3
import HandS.MakeKw
import PyProof.StrLawsChain
import PyProof.StrBlock2
set_option Elab.async false
set_option linter.all false
set_option maxRecDepth 100000
set_option maxHeartbeats 4000000
/-! Layer G: calls under which no guard stands, so that repr tells the whole; data with dicts; what a bag of draws is. -/
namespace Gs
open PySem PySem.Spec PyProof.Rows L2

theorem szl {n : Nat} (h : Nat.ble n 1000 = true) : n ≤ sizeLine := Nat.le_trans (Nat.le_of_ble_eq_true h) (by decide)
theorem szl2 {n : Nat} (h : Nat.ble n 1000 = true) : n ≤ 1000 := Nat.le_of_ble_eq_true h
theorem szm {n : Nat} (h : n ≤ 1000) : n ≤ sizeLine := Nat.le_trans h (by decide)
theorem szs {n : Nat} (h : n < 1000) : n < sizeLine := Nat.lt_of_lt_of_le h (by decide)
/-! ### promises of defs that are entered with no guard -/
structure FnG (P : Program) (w : World) (K : PySem.W.Frag) (mg : Str → Option Value) (base : Heap) (CX : CXT) (k : Nat) (f : Addr)
    (fd : FuncData) (ps : List Str) (sp : Sp) : Prop where
  len : ∀ vs H Q E, sp vs H Q E → vs.length = ps.length
  run : ∀ (A : Around) (outer : List Env) (s : Shared) (H : Hp) (args : Args) (us : List Value) (vs : List V) (Q : VK) (E : XK),
    Room k A → A.guards = some [] → Env0 P w K mg base A outer s H → BindsTo s fd args (ps.zip us) → Vals vs us → sp vs H Q E →
      codeAny (model P w) A (.call (.ref f) args) (CR CX outer P w H s Q E) s
section
variable {P : Program} {w : World} {K : PySem.W.Frag} {mg : Str → Option Value} {base : Heap} {CX : CXT} {j k : Nat} {f : Addr} {fd : FuncData} {ps : List Str} {sp sp' : Sp}
theorem FnG.of (F : FnOk P w K mg base CX k f fd ps sp) : FnG P w K mg base CX k f fd ps sp :=
  ⟨F.len, fun A o s H args us vs Q E hr _ => F.run A o s H args us vs Q E hr⟩
theorem FnG.mono (F : FnG P w K mg base CX j f fd ps sp) (h : j ≤ k) : FnG P w K mg base CX k f fd ps sp :=
  ⟨F.len, fun A o s H args us vs Q E hr => F.run A o s H args us vs Q E (hr.mono h)⟩

theorem fn_ofG {name qual : Str} {params : Arguments} {body : List Stmt} {scope : Scope} {dV kV doc pm cdv ct oc : Value} {an od : Option Addr}
    {osl : Array (Option Value)} {N : List Str}
    (lk : K.lookup f = some ⟨oc, od, .func (PySem.W.fnOf name qual params body scope dV kV doc pm an cdv ct), osl⟩)
    (hcd : PySem.W.codeIn K cdv qual = true) (S : FnScope N ps scope)
    (len : ∀ vs H Q E, sp vs H Q E → vs.length = ps.length)
    (hb : ∀ (A : Around) (outer : List Env) (s : Shared) (H : Hp) (vs : List V) (Q : VK) (E : XK),
      Room k (A.deeper (envOfC qual scope s.heap.objs.size f cdv)) → (A.deeper (envOfC qual scope s.heap.objs.size f cdv)).guards = some [] → sp vs H Q E →
      ∃ t, PSs (cxOf CX P w K mg base N qual scope f cdv A outer s H E) body t ∧ t { nx := fun _ H' => Q .non H', rt := Q } (start N vs) H) :
    FnG P w K mg base CX (k + 1) f (PySem.W.fnOf name qual params body scope dV kV doc pm an cdv ct) ps sp := by
  refine ⟨len, fun A outer s H args us vs Q E hr hgd e0 hbind rv hsp => ?_⟩
  have hl : vs.length = ps.length := len _ _ _ _ hsp
  have kin : K.In s.heap := e0.mod.kin.keeps (fun b o e => (e0.bs b o e).1)
  have noL : s.heap.NoLimit := e0.mod.nolimit.keeps (fun b o e => (e0.bs b o e).1)
  have kinds : ∀ y ∈ ps.zip us, scope.names.lookup y.1 = some .local ∨
      (scope.names.lookup y.1 = some .cell ∧ ((cellsFrom (s.heap.objs.size + 1) scope.names []).lookup y.1).isSome = true) := by
    rintro ⟨n, v⟩ hy
    have hn := (List.of_mem_zip hy).1
    cases S.par n hn with
    | inl q => exact Or.inl q
    | inr q => exact Or.inr ⟨q, PySem.W.cellsFrom_some _ _ _ (Or.inl q)⟩
  refine codeAny_call_function hr.depth (kin _ _ lk) rfl S.co S.gen rfl (PySem.W.codeRec_of kin hcd) (hbind _ _ _ _ ?_)
  refine wpAny_newFunctionEnv_cells S.kind kinds (fun env he s1 x => ?_)
  subst he
  refine ⟨noL.keeps x.toInCall.keep, codeAny_func ?_⟩
  obtain ⟨t, ht, hq⟩ := hb A outer s H vs Q E (hr.deeper _) hgd hsp
  have I := inv_start (CX := CX) (f := f) (cd := cdv) (qual := qual) (E := E) S hr.hd e0 hl rv x
  refine wpAny_mono (ht.run [] s1 (start N vs) H _ I hq) (fun fl s' hs => ?_) (fun e s' hs => hs)
  have done : ∀ {σ' : L2.St} {H' : Hp} {v : V} {u : Value}, Inv (cxOf CX P w K mg base N qual scope f cdv A outer s H E) [] σ' H' s' →
      RelV v u → Q v H' → CE outer P w H s Q u s' := by
    intro σ' H' v u J r2 q2
    exact ⟨v, H', J.os, J.bare, J.base, J.hok, r2, q2⟩
  cases fl with
  | ret u => obtain ⟨v, σ', H', J, r2, q2⟩ := hs; exact done J r2 q2
  | next => obtain ⟨σ', H', J, q2⟩ := hs; exact done (v := V.non) (u := Value.none) J rfl q2
  | brk => obtain ⟨_, _, _, q2⟩ := hs; exact q2.elim
  | cont => obtain ⟨_, _, _, q2⟩ := hs; exact q2.elim

/-- a def of the text without defaults; it may let out what CX tells -/
theorem fun_okX {x qual : Str} {st : Stmt} {N : List Str} (F : Fun K x qual st f fd) (S : FnScope N ps (defScope st))
    (len : ∀ vs H Q E, sp vs H Q E → vs.length = ps.length)
    (hb : ∀ (cdv : Value) (A : Around) (outer : List Env) (s : Shared) (H : Hp) (vs : List V) (Q : VK) (E : XK),
      Room k (A.deeper (envOfC qual (defScope st) s.heap.objs.size f cdv)) → (A.deeper (envOfC qual (defScope st) s.heap.objs.size f cdv)).guards = some [] → sp vs H Q E →
      ∃ t, PSs (cxOf CX P w K mg base N qual (defScope st) f cdv A outer s H E) (defBody st) t ∧
        t { nx := fun _ H' => Q .non H', rt := Q } (start N vs) H) : FnG P w K mg base CX (k + 1) f fd ps sp := by
  obtain ⟨oc, od, kV, doc, pm, an, cdv, ct, osl, rfl, lk, hcd⟩ := F.ex
  exact fn_ofG lk hcd S len (fun A outer s H vs Q E hr hg hsp => hb cdv A outer s H vs Q E hr hg hsp)
/-- a def of the text without defaults; nothing is raised out of it -/
theorem fun_okG {x qual : Str} {st : Stmt} {N : List Str} (F : Fun K x qual st f fd) (S : FnScope N ps (defScope st))
    (len : ∀ vs H Q E, sp vs H Q E → vs.length = ps.length)
    (hb : ∀ (cdv : Value) (A : Around) (outer : List Env) (s : Shared) (H : Hp) (vs : List V) (Q : VK) (E : XK),
      Room k (A.deeper (envOfC qual (defScope st) s.heap.objs.size f cdv)) → (A.deeper (envOfC qual (defScope st) s.heap.objs.size f cdv)).guards = some [] → sp vs H Q E →
      ∃ t, PSs (cxOf CX0 P w K mg base N qual (defScope st) f cdv A outer s H E).nox (defBody st) t ∧
        t { nx := fun _ H' => Q .non H', rt := Q } (start N vs) H) : FnG P w K mg base CX0 (k + 1) f fd ps sp := by
  refine fun_okX F S len (fun cdv A outer s H vs Q E hr hg hsp => ?_)
  obtain ⟨t, h, q⟩ := hb cdv A outer s H vs Q E hr hg hsp
  exact ⟨t, h.nox, q⟩
end

section
variable {X : Cx} {CX : CXT} {k n : Nat} {f C : Addr} {fd : FuncData} {ps ks : List Str} {sp : Sp} {dvs : List V} {ds : List Value} {E : XK}
  {x : Str} {p pos : Pos} {e : Expr} {es : List Expr} {kws : List Keyword} {t tk : TA} {g : List Value → List Value → List Value} {gV : List V → List V → List V}
/-- how the parameters are bound by positional values and keywords (names ks) -/
structure KB (K : PySem.W.Frag) (fd : FuncData) (ps ks : List Str) (n : Nat) (g : List Value → List Value → List Value) (gV : List V → List V → List V) : Prop where
  to : ∀ (s : Shared) (us ws : List Value), K.In s.heap → us.length = n → ws.length = ks.length → BindsTo s fd ⟨us, ks.zip ws⟩ (ps.zip (g us ws))
  rel : ∀ {vs : List V} {us : List Value} {zs : List V} {ws : List Value}, vs.length = n → zs.length = ks.length → Vals vs us → Vals zs ws → Vals (gV vs zs) (g us ws)

theorem run_any {pins : List (Addr × Obj)} {σ : L2.St} {H : Hp} {s : Shared} {Q : VK} {us : List Value} {vs : List V} {vals : List Value} {kw : List (Str × Value)}
    (F : FnG X.prog X.w X.K X.mg X.base CX k f fd ps sp) (hr : Room k X.A) (hg : X.A.guards = some []) (hx : Passes CX X E)
    (I : Inv X pins σ H s) (b : BindsTo s fd ⟨vals, kw⟩ (ps.zip us)) (r : Vals vs us) (h : sp vs H Q E) :
    wpAny (model X.prog X.w) X.A (call (.ref f) vals kw) (EP X pins σ Q) X.xe s := by
  refine wpAny_call (codeAny_mono (F.run X.A X.stack s H ⟨vals, kw⟩ us vs Q E hr hg I.env0 b r h) (fun r' s' hq => ?_))
  match r', hq with
  | .error e, hq => exact hx pins σ H s e s' I hq
  | .ok (.ret u), hq => exact I.after hq
  | .ok .next, hq => exact hq.elim
  | .ok .brk, hq => exact hq.elim
  | .ok .cont, hq => exact hq.elim

/-- f(e, ..) -/
theorem pg_call (F : FnG X.prog X.w X.K X.mg X.base CX k f fd ps sp) (hr : Room k X.A) (hgd : X.A.guards = some []) (hg : Gl X x) (hm : X.mg x = some (.ref f))
    (hk : PySem.W.keepIn X.K (.ref f) = true) (hb : Binds X.K fd ps ds) (hd : Vals dvs ds) (hx : Passes CX X E)
    (ha : PA X (e :: es) t) (hdb : (x == ("__debug__" : Str)) = false := by decide) (he : starEach (e :: es) X.env = (false, eval e X.env) :: starEach es X.env := by rfl)
    (hpl : (backTo pos (starEach es X.env)).any (·.1) = false := by rfl) :
    PE X (.Call (.Name x p) (e :: es) [] pos) (tCall sp dvs E t) := by
  constructor
  intro pins s σ H Q I h
  refine wpAny_Call_Name_kw (ld_glob I hg hm ?_ hdb)
  refine PySem.W.callWith_K (h₀ := X.base) I.ok.mod.kin hk (thn (ha.run pos pins s σ H _ I h) fun us s1 ⟨vs, H1, I1, r, q⟩ => ⟨I1.kIn, ?_⟩) he hpl
  have r2 := r.append hd
  exact run_any (vals := us) (kw := []) F hr hgd hx I1 (hb s1 us I1.kIn (by rw [← r2.length]; exact F.len _ _ _ _ q)) r2 q
/-- f() -/
theorem pg_call0 (F : FnG X.prog X.w X.K X.mg X.base CX k f fd ps sp) (hr : Room k X.A) (hgd : X.A.guards = some []) (hg : Gl X x) (hm : X.mg x = some (.ref f))
    (hk : PySem.W.keepIn X.K (.ref f) = true) (hb : Binds X.K fd ps ds) (hd : Vals dvs ds) (hx : Passes CX X E)
    (hdb : (x == ("__debug__" : Str)) = false := by decide) : PE X (.Call (.Name x p) [] [] pos) (tCall sp dvs E tNil) := by
  constructor
  intro pins s σ H Q I h
  refine wpAny_Call_Name_kw (ld_glob I hg hm ?_ hdb)
  have h : sp ([] ++ dvs) H Q E := h
  have r2 : Vals ([] ++ dvs) ([] ++ ds) := Vals.append .nil hd
  exact PySem.W.callWith_K0 I.kIn hk (run_any (vals := []) (kw := []) F hr hgd hx I (hb s [] I.kIn (by rw [← r2.length]; exact F.len _ _ _ _ h)) r2 h)
def tCallG (n m : Nat) (sp : Sp) (gV : List V → List V → List V) (E : XK) (t tk : TA) : TE := fun σ H Q => t σ H fun vs H1 => tk σ H1 fun zs H2 =>
  vs.length = n ∧ zs.length = m ∧ sp (gV vs zs) H2 Q E
/-- f(e, .., k = v, ..) -/
theorem pg_callK (F : FnG X.prog X.w X.K X.mg X.base CX k f fd ps sp) (hr : Room k X.A) (hgd : X.A.guards = some []) (hg : Gl X x) (hm : X.mg x = some (.ref f))
    (hk : PySem.W.keepIn X.K (.ref f) = true) (hb : KB X.K fd ps ks n g gV) (hx : Passes CX X E)
    (ha : PA X (e :: es) t) (hkw : PK X kws tk) (hall : (backToKw pos (keywordEach kws X.env)).all (·.1.isSome) = true := by rfl)
    (hks : (backToKw pos (keywordEach kws X.env)).filterMap (·.1) = ks := by rfl)
    (hdb : (x == ("__debug__" : Str)) = false := by decide) (he : starEach (e :: es) X.env = (false, eval e X.env) :: starEach es X.env := by rfl)
    (hpl : ((backTo pos (starEach (e :: es) X.env)).any (·.1) || (backToKw pos (keywordEach kws X.env)).any (·.1.isNone)) = false := by rfl) :
    PE X (.Call (.Name x p) (e :: es) kws pos) (tCallG n ks.length sp gV E t tk) := by
  constructor
  intro pins s σ H Q I h
  refine wpAny_Call_Name_kw (ld_glob I hg hm ?_ hdb)
  refine PySem.W.callWith_KW (h₀ := X.base) I.ok.mod.kin hk hall (thn (ha.run pos pins s σ H _ I h) fun us s1 ⟨vs, H1, I1, r, q⟩ => ?_) hpl he
  refine thn (hkw.run pos pins s1 σ H1 _ I1 q) fun ws s2 ⟨zs, H2, I2, rz, l1, l2, q2⟩ => ⟨I2.kIn, ?_⟩
  rw [hks]
  exact run_any (vals := us) (kw := ks.zip ws) F hr hgd hx I2 (hb.to s2 us ws I2.kIn (r.length.symm.trans l1) (rz.length.symm.trans l2)) (hb.rel l1 l2 r rz) q2
end

/-- f(k = v, ..) -/
theorem pg_callK0 {X : Cx} {CX : CXT} {k : Nat} {f : Addr} {fd : FuncData} {ps ks : List Str} {sp : Sp} {E : XK} {x : Str} {p pos : Pos} {kws : List Keyword} {tk : TA}
    {g : List Value → List Value → List Value} {gV : List V → List V → List V}
    (F : FnG X.prog X.w X.K X.mg X.base CX k f fd ps sp) (hr : Room k X.A) (hgd : X.A.guards = some []) (hg : Gl X x) (hm : X.mg x = some (.ref f))
    (hk : PySem.W.keepIn X.K (.ref f) = true) (hb : KB X.K fd ps ks 0 g gV) (hx : Passes CX X E) (hkw : PK X kws tk)
    (hall : (backToKw pos (keywordEach kws X.env)).all (·.1.isSome) = true := by rfl)
    (hks : (backToKw pos (keywordEach kws X.env)).filterMap (·.1) = ks := by rfl)
    (hdb : (x == ("__debug__" : Str)) = false := by decide)
    (hpl : ((backTo pos (starEach [] X.env)).any (·.1) || (backToKw pos (keywordEach kws X.env)).any (·.1.isNone)) = false := by rfl) :
    PE X (.Call (.Name x p) [] kws pos) (tCallG 0 ks.length sp gV E tNil tk) := by
  constructor
  intro pins s σ H Q I h
  refine wpAny_Call_Name_kw (ld_glob I hg hm ?_ hdb)
  refine PySem.W.callWith_KW0 (h₀ := X.base) I.ok.mod.kin hk hall ?_ hpl
  refine thn (hkw.run pos pins s σ H _ I h) fun ws s2 ⟨zs, H2, I2, rz, l1, l2, q2⟩ => ⟨I2.kIn, ?_⟩
  rw [hks]
  exact run_any (vals := []) (kw := ks.zip ws) F hr hgd hx I2 (hb.to s2 [] ws I2.kIn rfl (rz.length.symm.trans l2)) (hb.rel l1 l2 .nil rz) q2

/-! ### data, dicts among it; c: one address that is no part of it (the bag of draws) -/
def Ext (c : Addr) (H H' : Hp) : Prop := ∀ b o, b ≠ c → H b = some o → H' b = some o
theorem Ext.refl {c : Addr} {H : Hp} : Ext c H H := fun _ _ _ h => h
theorem Ext.trans {c : Addr} {H H1 H2 : Hp} (a : Ext c H H1) (b : Ext c H1 H2) : Ext c H H2 := fun x o n h => b x o n (a x o n h)
theorem Ext.new {c p : Addr} {H : Hp} {o : HO} (h : H p = none) : Ext c H (upd H p o) := fun b u _ e => by
  rw [upd_ne (ne_of_none e h)]; exact e
theorem Ext.bag {c : Addr} {H : Hp} {o : HO} : Ext c H (upd H c o) := fun b u n e => by
  rw [upd_ne n]; exact e
/-- a thing that the first heap did not know may change -/
theorem Ext.own {c p : Addr} {H H' : Hp} {o : HO} (e : Ext c H H') (h : H p = none) : Ext c H (upd H' p o) := fun b u n x => by
  rw [upd_ne (ne_of_none x h)]; exact e b u n x
theorem Ext.rd {c a : Addr} {H H' : Hp} {u : HO} (e : Ext c H H') (n : a ≠ c) (h : Rd H a u) : Rd H' a u := by
  rcases h with h | ⟨o, h⟩
  · exact .inl (e _ _ n h)
  · exact .inr ⟨o, e _ _ n h⟩
theorem Ext.sqL {K : PySem.W.Frag} {c a : Addr} {H H' : Hp} {xs : List V} (e : Ext c H H') (n : a ≠ c) (h : SqL K H a xs) : SqL K H' a xs := by
  rcases h with h | h
  · exact .inl (e.rd n h)
  · exact .inr h
theorem Ext.sqT {K : PySem.W.Frag} {c a : Addr} {H H' : Hp} {xs : List V} (e : Ext c H H') (n : a ≠ c) (h : SqT K H a xs) : SqT K H' a xs := by
  rcases h with h | h
  · exact .inl (e.rd n h)
  · exact .inr h
mutual
inductive DV (K : PySem.W.Frag) (c : Addr) (H : Hp) : V → PyData → Prop
  | non : DV K c H .non .none
  | bl (b : Bool) : DV K c H (.bl b) (.bool b)
  | int (i : Int) : DV K c H (.int i) (.int i)
  | str (x : Str) : DV K c H (.str x) (.str x)
  | lst {a : Addr} {xs : List V} {ds : List PyData} : a ≠ c → SqL K H a xs → DVs K c H xs ds → DV K c H (.ref a) (.list ds)
  | tup {a : Addr} {xs : List V} {ds : List PyData} : a ≠ c → SqT K H a xs → DVs K c H xs ds → DV K c H (.ref a) (.tuple ds)
  | dic {a : Addr} {kvs : List (Key × V)} {ps : List (PyData × PyData)} : a ≠ c → H a = some (.dK kvs) → DKs K c H kvs ps → DV K c H (.ref a) (.dict ps)
  | dct {a : Addr} {kvs : List (List Key × V)} {ps : List (PyData × PyData)} : a ≠ c → H a = some (.dT kvs) → PyData.showable (.dict ps) = false → DV K c H (.ref a) (.dict ps)
inductive DVs (K : PySem.W.Frag) (c : Addr) (H : Hp) : List V → List PyData → Prop
  | nil : DVs K c H [] []
  | cons {v : V} {vs : List V} {d : PyData} {ds : List PyData} : DV K c H v d → DVs K c H vs ds → DVs K c H (v :: vs) (d :: ds)
inductive DKs (K : PySem.W.Frag) (c : Addr) (H : Hp) : List (Key × V) → List (PyData × PyData) → Prop
  | nil : DKs K c H [] []
  | cons {k : Key} {v : V} {r : List (Key × V)} {d e : PyData} {ps : List (PyData × PyData)} : DV K c H (kV k) d → DV K c H v e → DKs K c H r ps → DKs K c H ((k, v) :: r) ((d, e) :: ps)
end
section
variable {K : PySem.W.Frag} {c : Addr} {H H' : Hp}
mutual
theorem DV.ext (e : Ext c H H') : ∀ (d : PyData) (v : V), DV K c H v d → DV K c H' v d
  | .none, _, h => by cases h; exact .non
  | .bool _, _, h => by cases h; exact .bl _
  | .int _, _, h => by cases h; exact .int _
  | .str _, _, h => by cases h; exact .str _
  | .list ds, _, h => by
    cases h with
    | lst n s r => exact .lst n (e.sqL n s) (DVs.ext e ds _ r)
  | .tuple ds, _, h => by
    cases h with
    | tup n s r => exact .tup n (e.sqT n s) (DVs.ext e ds _ r)
  | .dict ps, _, h => by
    cases h with
    | dic n s r => exact .dic n (e _ _ n s) (DKs.ext e ps _ r)
    | dct n s z => exact .dct n (e _ _ n s) z
theorem DVs.ext (e : Ext c H H') : ∀ (ds : List PyData) (vs : List V), DVs K c H vs ds → DVs K c H' vs ds
  | [], _, h => by cases h; exact .nil
  | d :: ds, _, h => by
    cases h with
    | cons a b => exact .cons (DV.ext e d _ a) (DVs.ext e ds _ b)
theorem DKs.ext (e : Ext c H H') : ∀ (ps : List (PyData × PyData)) (vs : List (Key × V)), DKs K c H vs ps → DKs K c H' vs ps
  | [], _, h => by cases h; exact .nil
  | (d, f) :: ps, _, h => by
    cases h with
    | cons a b r => exact .cons (DV.ext e d _ a) (DV.ext e f _ b) (DKs.ext e ps _ r)
end
theorem DVs.len : ∀ {vs : List V} {ds : List PyData}, DVs K c H vs ds → vs.length = ds.length
  | _, _, .nil => rfl
  | _, _, .cons _ b => congrArg Nat.succ (DVs.len b)
theorem DVs.at : ∀ {vs : List V} {ds : List PyData} {i : Nat} {v : V}, DVs K c H vs ds → vs[i]? = some v → ∃ d, ds[i]? = some d ∧ DV K c H v d
  | _, _, i, _, .nil, h => by simp at h
  | _, _, 0, _, .cons a _, h => by simp at h; subst h; exact ⟨_, rfl, a⟩
  | _, _, i + 1, _, .cons _ b, h => by simpa using DVs.at b (by simpa using h)
theorem DVs.append : ∀ {vs ws : List V} {ds es : List PyData}, DVs K c H vs ds → DVs K c H ws es → DVs K c H (vs ++ ws) (ds ++ es)
  | _, _, _, _, .nil, h => h
  | _, _, _, _, .cons a b, h => .cons a (DVs.append b h)
end
section
variable {X : Cx} {pins : List (Addr × Obj)} {σ : L2.St} {H : Hp} {s : Shared} {c : Addr}
/-- what is known of a value that bears d, for its text -/
def Shows (X : Cx) (h : Heap) (u : Value) (d : PyData) : Prop := (∃ as, Reads h u d as) ∧ ∃ bs, ReadAtMost h d.depth bs ∧ ReprK X.prog X.w bs h d.depth u d.shown
def ShowsS (X : Cx) (h : Heap) (us : List Value) (ds : List PyData) : Prop := (∃ as, ReadsAll h us ds as) ∧
  ∃ bs, ReadAtMost h (PyData.depthAll ds) bs ∧ ReprAllK X.prog X.w bs h (PyData.depthAll ds) us (PyData.shownAll ds)
theorem ShowsS.nil {h : Heap} : ShowsS X h [] [] := ⟨⟨_, .nil⟩, [], (fun _ z => nomatch z), .nil⟩
theorem ShowsS.cons {h : Heap} {u : Value} {us : List Value} {d : PyData} {ds : List PyData} (a : Shows X h u d) (b : ShowsS X h us ds) : ShowsS X h (u :: us) (d :: ds) := by
  obtain ⟨⟨as, r⟩, bs, m, k⟩ := a
  obtain ⟨⟨as', r'⟩, bs', m', k'⟩ := b
  have l1 : d.depth ≤ PyData.depthAll (d :: ds) := by simp only [PyData.depthAll]; exact Nat.le_max_left _ _
  have l2 : PyData.depthAll ds ≤ PyData.depthAll (d :: ds) := by simp only [PyData.depthAll]; exact Nat.le_max_right _ _
  exact ⟨⟨_, .cons r r'⟩, bs ++ bs', (m.mono l1).append (m'.mono l2), .cons ((k.more fun _ z => List.mem_append_left _ z).level_le l1) (k'.more_le (fun _ z => List.mem_append_right _ z) l2)⟩
theorem dict_len {ps : List (PyData × PyData)} (h : (PyData.shown (.dict ps)).length ≤ sizeLine) : (∀ t ∈ PyData.shownAll (ps.map (·.1)), t.length ≤ sizeLine) ∧ ∀ t ∈ PyData.shownAll (ps.map (·.2)), t.length ≤ sizeLine := by
  have h' : (dictText (PyData.shownKv ps)).length ≤ sizeLine := by simpa only [PyData.shown] using h
  constructor
  · intro t ht
    obtain ⟨p, hp, hl⟩ := PyData.shownKv_key_le ps t ht
    exact Nat.le_trans hl (Nat.le_trans (dictText_mem_le hp) h')
  · intro t ht
    obtain ⟨p, hp, hl⟩ := PyData.shownKv_val_le ps t ht
    exact Nat.le_trans hl (Nat.le_trans (dictText_mem_le hp) h')
mutual
theorem DV.shows (I : Inv X pins σ H s) : ∀ (d : PyData) (v : V) (u : Value), DV X.K c H v d → L2.RelV v u → d.showable = true → d.shown.length ≤ sizeLine → Shows X s.heap u d
  | .none, _, _, h, r, _, _ => by
    cases h; cases r
    exact ⟨⟨_, .none⟩, [], (fun _ z => nomatch z), .of_is ReprIs.none _ _ _⟩
  | .bool b, _, _, h, r, _, _ => by
    cases h; cases r
    exact ⟨⟨_, .bool b⟩, [], (fun _ z => nomatch z), .of_is (ReprIs.bool b) _ _ _⟩
  | .int i, _, _, h, r, hs, _ => by
    cases h; obtain ⟨t, rfl⟩ := r
    exact ⟨⟨_, .int i t⟩, [], (fun _ z => nomatch z), .of_is (ReprIs.int t (by simpa [PyData.showable] using hs)) _ _ _⟩
  | .str x, _, _, h, r, _, hz => by
    cases h; obtain ⟨t, rfl⟩ := r
    exact ⟨⟨_, .str x t⟩, [], (fun _ z => nomatch z), .of_is (ReprIs.str x t (by simpa only [PyData.shown] using hz)) _ _ _⟩
  | .list ds, _, _, h, r, hs, hz => by
    cases h with
    | lst n hq ha =>
      cases r
      obtain ⟨its, rv, ⟨o, m, ho, hc, _, hd⟩, _⟩ := I.list hq
      have hz' : (listText (PyData.shownAll ds)).length ≤ sizeLine := by simpa only [PyData.shown] using hz
      obtain ⟨⟨as, rs⟩, bs, mb, kb⟩ := DVs.shows I ds _ its ha rv (by simpa [PyData.showable] using hs) (fun t ht => Nat.le_trans (listText_mem_le ht) hz')
      have rd : Reads s.heap (.ref _) (.list ds) _ := .list ho hc hd rs
      have lt : PyData.depthAll ds < (PyData.list ds).depth := by simp only [PyData.depth]; omega
      have out := not_mem_of_deeper rd lt mb
      refine ⟨⟨_, rd⟩, _, ReadAtMost.cons rd (Nat.le_of_lt lt) mb, ?_⟩
      simp only [PyData.depth, PyData.shown]
      match its, rs, kb, hd with
      | [], rs, _, hd =>
        cases rs
        simp only [PyData.shownAll, listText_nil]
        exact ReprK.listEmpty ho hc hd
      | x :: l, _, kb, hd => exact ReprK.list ho hc hd out (by simpa using kb.length_eq) (fun i y e => kb.item i y (by simpa using e))
  | .tuple ds, _, _, h, r, hs, hz => by
    cases h with
    | tup n hq ha =>
      cases r
      obtain ⟨its, rv, ⟨o, ho, hc, m, hd⟩, _⟩ := I.tuple hq
      have hz' : (tupleText (PyData.shownAll ds)).length ≤ sizeLine := by simpa only [PyData.shown] using hz
      obtain ⟨⟨as, rs⟩, bs, mb, kb⟩ := DVs.shows I ds _ its ha rv (by simpa [PyData.showable] using hs) (fun t ht => Nat.le_trans (tupleText_mem_le ht) hz')
      have rd : Reads s.heap (.ref _) (.tuple ds) _ := .tuple ho hc hd rs
      have lt : PyData.depthAll ds < (PyData.tuple ds).depth := by simp only [PyData.depth]; omega
      have out := not_mem_of_deeper rd lt mb
      refine ⟨⟨_, rd⟩, _, ReadAtMost.cons rd (Nat.le_of_lt lt) mb, ?_⟩
      simp only [PyData.depth, PyData.shown]
      exact ReprK.tuple ho hc hd out kb
  | .dict ps, _, _, h, r, hs, hz => by
    cases h with
    | dic n hq ha =>
      cases r
      obtain ⟨_, hsm, vs, kv, o, es, ep, ho, hx, hd, _, pr, _⟩ := I.hok _ _ hq
      obtain ⟨hs1, hs2⟩ := PyData.showableKv_split ps (by simpa [PyData.showable] using hs)
      obtain ⟨hz1, hz2⟩ := dict_len hz
      obtain ⟨⟨⟨as, r1⟩, b1, m1, k1⟩, ⟨as', r2⟩, b2, m2, k2⟩ := DKs.shows I ps _ es.toList vs ha kv pr hs1 hs2 hz1 hz2
      have rd : Reads s.heap (.ref _) (.dict ps) _ := .dict ho hx.1 hd r1 r2
      have lt : PyData.depthKv ps < (PyData.dict ps).depth := by simp only [PyData.depth]; omega
      have mb := (m1.mono (PyData.depthAll_keys_le ps)).append (m2.mono (PyData.depthAll_vals_le ps))
      have out := not_mem_of_deeper rd lt mb
      refine ⟨⟨_, rd⟩, _, ReadAtMost.cons rd (Nat.le_of_lt lt) mb, ?_⟩
      simp only [PyData.depth, PyData.shown, PyData.shownKv_eq]
      exact ReprK.dict ho hx.1 hd hsm out (.of_two es.toList _ _ (k1.more_le (fun _ z => List.mem_append_left _ z) (PyData.depthAll_keys_le ps))
        (k2.more_le (fun _ z => List.mem_append_right _ z) (PyData.depthAll_vals_le ps)))
    | dct n q z => rw [z] at hs; cases hs
theorem DVs.shows (I : Inv X pins σ H s) : ∀ (ds : List PyData) (vs : List V) (us : List Value), DVs X.K c H vs ds → L2.Vals vs us → PyData.showableAll ds = true → (∀ t ∈ PyData.shownAll ds, t.length ≤ sizeLine) → ShowsS X s.heap us ds
  | [], _, _, h, r, _, _ => by
    cases h; cases r
    exact .nil
  | d :: ds, _, _, h, r, hs, hz => by
    cases h with
    | cons h1 h2 =>
      cases r with
      | cons r1 r2 =>
        have hs' : d.showable = true ∧ PyData.showableAll ds = true := by simpa [PyData.showableAll] using hs
        simp only [PyData.shownAll] at hz
        exact .cons (DV.shows I d _ _ h1 r1 hs'.1 (hz _ List.mem_cons_self)) (DVs.shows I ds _ _ h2 r2 hs'.2 fun t ht => hz t (List.mem_cons_of_mem _ ht))
theorem DKs.shows (I : Inv X pins σ H s) : ∀ (ps : List (PyData × PyData)) (kvs : List (Key × V)) (es : List DictEntry) (vs : List (Key × Value)), DKs X.K c H kvs ps → KV kvs vs →
    Pairs (mixKind X.prog X.w) es vs → PyData.showableAll (ps.map (·.1)) = true → PyData.showableAll (ps.map (·.2)) = true →
    (∀ t ∈ PyData.shownAll (ps.map (·.1)), t.length ≤ sizeLine) → (∀ t ∈ PyData.shownAll (ps.map (·.2)), t.length ≤ sizeLine) →
    ShowsS X s.heap (es.map (·.key)) (ps.map (·.1)) ∧ ShowsS X s.heap (es.map (·.val)) (ps.map (·.2))
  | [], _, _, _, h, r, p, _, _, _, _ => by
    cases h; cases r; cases p
    exact ⟨.nil, .nil⟩
  | (d, f) :: ps, (k, v) :: kvs, e :: es', kv :: vs', h, r, p, hs1, hs2, hz1, hz2 => by
    cases h with
    | cons h1 h2 h3 =>
      cases r with
      | cons r1 r2 =>
        cases p with
        | cons p1 p2 p3 =>
          obtain ⟨e1, r1⟩ := r1
          have rk : L2.RelV (kV k) e.key := by
            have p1 : keyIs kv.1 e.key = true := p1
            rw [← e1] at p1
            rcases keyIs_shape p1 with ⟨i, t, q1, q2⟩ | ⟨z, t, q1, q2⟩
            · rw [q2]; simp only at q1; rw [q1]; exact ⟨t, rfl⟩
            · rw [q2]; simp only at q1; rw [q1]; exact ⟨t, rfl⟩
          have a1 : d.showable = true ∧ PyData.showableAll (ps.map (·.1)) = true := by simpa [PyData.showableAll] using hs1
          have a2 : f.showable = true ∧ PyData.showableAll (ps.map (·.2)) = true := by simpa [PyData.showableAll] using hs2
          simp only [List.map_cons, PyData.shownAll] at hz1 hz2
          obtain ⟨q3, q4⟩ := DKs.shows I ps _ es' vs' h3 r2 p3 a1.2 a2.2 (fun t ht => hz1 t (List.mem_cons_of_mem _ ht)) fun t ht => hz2 t (List.mem_cons_of_mem _ ht)
          exact ⟨.cons (DV.shows I d _ _ h1 rk a1.1 (hz1 _ List.mem_cons_self)) q3, .cons (DV.shows I f _ e.val h2 (by rw [p2]; exact r1) a2.1 (hz2 _ List.mem_cons_self)) q4⟩
  | (d, f) :: ps, [], _, _, h, r, p, _, _, _, _ => by cases h
  | (d, f) :: ps, _ :: _, [], _, h, r, p, _, _, _, _ => by cases p; cases r
  | (d, f) :: ps, _ :: _, _, [], h, r, p, _, _, _, _ => by cases r
end
/-- repr of data -/
def rRepr (K : PySem.W.Frag) : List V → Hp → VK → Prop := fun xs H Q => ∃ (c a : Addr) (d : PyData), xs = [.ref a] ∧ DV K c H (.ref a) d ∧ d.showable = true ∧ d.depth ≤ 60 ∧ d.shown.length ≤ sizeLine ∧ Q (.str d.shown) H
theorem call_repr {k : Nat} (hr : Room k X.A) (hg : X.A.guards = some []) : CallR X (.builtin "repr") (rRepr X.K) := by
  intro pins s σ H xs us Q I r h
  obtain ⟨c, a, d, rfl, hd, hs, hdp, hz, q⟩ := h
  match us, r with
  | [u], .cons r1 .nil =>
    cases (show u = Value.ref a from r1)
    have un := hr.units
    have un1 : X.A.units + 1 < cLine := by omega
    cases hd with
    | lst n hq ha =>
      rename_i vs ds
      obtain ⟨its, rv, ⟨o, m, ho, hc, _, hdt⟩, _⟩ := I.list hq
      have hz' : (listText (PyData.shownAll ds)).length ≤ sizeLine := by simpa only [PyData.shown] using hz
      obtain ⟨⟨as, rs⟩, bs, mb, kb⟩ := DVs.shows I ds _ its ha rv (by simpa [PyData.showable] using hs) (fun t ht => Nat.le_trans (listText_mem_le ht) hz')
      have rd : Reads s.heap (.ref a) (.list ds) _ := .list ho hc hdt rs
      have lt : PyData.depthAll ds < (PyData.list ds).depth := by simp only [PyData.depth]; omega
      have out := not_mem_of_deeper rd lt mb
      simp only [PyData.depth] at hdp
      simp only [PyData.shown] at q
      refine call_repr_slot un1 ⟨o, ho, hc⟩ F.slot_list_repr.toG ?_
      match its, rs, kb, hdt with
      | [], rs, _, hdt =>
        cases rs
        simp only [PyData.shownAll, listText_nil] at q
        exact call_list_repr_empty ⟨o, ho, hc⟩ ho hdt ⟨_, _, rfl, .str _, H, I.kept fun _ _ e => e, ⟨_, rfl⟩, q⟩
      | x :: l, _, kb, hdt =>
        exact call_list_reprK ho hc hdt out (by simpa using kb.length_eq) (fun i y e => kb.item i y (by simpa using e)) (A := X.A.in1) hg (fun b _ => Clear.nil b)
          (by show X.A.units + 1 + _ < cLine; omega) (fun _ _ e => e) (fun h' u tk hk => ⟨_, _, rfl, .str _, H, I.kept hk, ⟨u, rfl⟩, q⟩) hz'
    | tup n hq ha =>
      rename_i vs ds
      obtain ⟨its, rv, ⟨o, ho, hc, m, hdt⟩, _⟩ := I.tuple hq
      have hz' : (tupleText (PyData.shownAll ds)).length ≤ sizeLine := by simpa only [PyData.shown] using hz
      obtain ⟨⟨as, rs⟩, bs, mb, kb⟩ := DVs.shows I ds _ its ha rv (by simpa [PyData.showable] using hs) (fun t ht => Nat.le_trans (tupleText_mem_le ht) hz')
      have rd : Reads s.heap (.ref a) (.tuple ds) _ := .tuple ho hc hdt rs
      have lt : PyData.depthAll ds < (PyData.tuple ds).depth := by simp only [PyData.depth]; omega
      have out := not_mem_of_deeper rd lt mb
      simp only [PyData.depth] at hdp
      simp only [PyData.shown] at q
      exact call_repr_slot un1 ⟨o, ho, hc⟩ F.slot_tuple_repr (call_tuple_reprK ho hc hdt out kb (A := X.A.in1) hg (fun b _ => Clear.nil b)
          (by show X.A.units + 1 + _ < cLine; omega) (fun _ _ e => e) (fun h' u tk hk => ⟨_, _, rfl, .str _, H, I.kept hk, ⟨u, rfl⟩, q⟩) hz')
    | dic n hq ha =>
      rename_i kvs ps
      obtain ⟨_, hsm, vs, kv, o, es, ep, ho, hx, hdt, _, pr, _⟩ := I.hok _ _ hq
      obtain ⟨hs1, hs2⟩ := PyData.showableKv_split ps (by simpa [PyData.showable] using hs)
      obtain ⟨hz1, hz2⟩ := dict_len hz
      obtain ⟨⟨⟨as, r1⟩, b1, m1, k1⟩, ⟨as', r2⟩, b2, m2, k2⟩ := DKs.shows I ps _ es.toList vs ha kv pr hs1 hs2 hz1 hz2
      have rd : Reads s.heap (.ref a) (.dict ps) _ := .dict ho hx.1 hdt r1 r2
      have lt : PyData.depthKv ps < (PyData.dict ps).depth := by simp only [PyData.depth]; omega
      have mb := (m1.mono (PyData.depthAll_keys_le ps)).append (m2.mono (PyData.depthAll_vals_le ps))
      have out := not_mem_of_deeper rd lt mb
      simp only [PyData.depth] at hdp
      simp only [PyData.shown, PyData.shownKv_eq] at q hz
      exact call_repr_slot un1 ⟨o, ho, hx.1⟩ F.slot_dict_repr (call_dict_reprK ho hx.1 hdt hsm out (.of_two es.toList _ _ (k1.more_le (fun _ z => List.mem_append_left _ z) (PyData.depthAll_keys_le ps))
        (k2.more_le (fun _ z => List.mem_append_right _ z) (PyData.depthAll_vals_le ps))) (A := X.A.in1) hg (fun b _ => Clear.nil b)
          (by show X.A.units + 1 + _ < cLine; omega) (fun _ _ e => e) (fun h' u tk hk => ⟨_, _, rfl, .str _, H, I.kept hk, ⟨u, rfl⟩, q⟩) hz)
    | dct n hq z => rw [z] at hs; cases hs
end

/-! ### small facts of data -/
theorem dp_ints {K : PySem.W.Frag} {H : Hp} : ∀ ns : List Int, DpAll K H (ns.map V.int) (ns.map PyData.int)
  | [] => .nil
  | n :: ns => .cons (.int n) (dp_ints ns)
theorem dv_ints {K : PySem.W.Frag} {H : Hp} {c : Addr} : ∀ ns : List Int, DVs K c H (ns.map V.int) (ns.map PyData.int)
  | [] => .nil
  | n :: ns => .cons (.int n) (dv_ints ns)
theorem can_ints : ∀ ns : List Int, PyData.canLayAll0 (ns.map PyData.int) = true
  | [] => rfl
  | n :: ns => by
    show (PyData.canLay0 (.int n) && PyData.canLayAll0 (ns.map PyData.int)) = true
    rw [can_ints ns]; rfl
theorem depth_ints : ∀ ns : List Int, PyData.depthAll (ns.map PyData.int) ≤ 1
  | [] => by decide
  | n :: ns => by
    have := depth_ints ns
    simp only [List.map_cons, PyData.depthAll, PyData.depth]
    omega
theorem shaped_ints (ns : List Int) : SeqAt.shaped (.list (ns.map PyData.int)) = true := by
  unfold SeqAt.shaped
  have h := depth_ints ns
  have e : PyData.canLay0 (.list (ns.map PyData.int)) = true := by
    simp only [PyData.canLay0]; exact can_ints ns
  rw [e, Bool.true_and, decide_eq_true_eq]
  simp only [PyData.depth]
  omega
theorem eqv_nil (ds : List PyData) : PyData.eqv (.list ds) (.list []) = ds.isEmpty := by
  cases ds with
  | nil => simp [PyData.eqv, PyData.eqvAll]
  | cons d ds => simp [PyData.eqv, PyData.eqvAll]

theorem mix_bound {v pt A B C : Int} (v0 : 0 ≤ v) (v1 : v < 2147483648) (p0 : 0 ≤ pt) (p1 : pt ≤ 1000000) (a0 : 0 ≤ A) (a1 : A ≤ 1000000) (b0 : 0 ≤ B) (b1 : B ≤ 1000000) (c0 : 0 ≤ C) (c1 : C ≤ 1000000) :
    (v * (2 * pt + A) + B * pt * pt + C).natAbs < 2 ^ 64 := by
  have e1 : v * (2 * pt + A) ≤ 2147483648 * 3000000 := Int.mul_le_mul (by omega) (by omega) (by omega) (by omega)
  have e2 : 0 ≤ v * (2 * pt + A) := Int.mul_nonneg v0 (by omega)
  have e3 : B * pt ≤ 1000000 * 1000000 := Int.mul_le_mul b1 p1 p0 (by omega)
  have e4 : 0 ≤ B * pt := Int.mul_nonneg b0 p0
  have e5 : B * pt * pt ≤ 1000000 * 1000000 * 1000000 := Int.mul_le_mul e3 p1 p0 (by omega)
  have e6 : 0 ≤ B * pt * pt := Int.mul_nonneg e4 p0
  omega
theorem mul_pt {B pt : Int} (p0 : 0 ≤ pt) (p1 : pt ≤ 1000000) (b0 : 0 ≤ B) (b1 : B ≤ 1000000) : CMul (B * pt) pt := by
  have e3 : B * pt ≤ 1000000 * 1000000 := Int.mul_le_mul b1 p1 p0 (by omega)
  have e4 : 0 ≤ B * pt := Int.mul_nonneg b0 p0
  exact .inl ⟨by omega, by omega⟩
theorem at_mod {ns : List Int} {pt : Int} (h : ns ≠ []) (p0 : 0 ≤ pt) : ∃ v, atI (ns.map V.int) (pt % ((ns.map V.int).length : Int)) = some (.int v) := by
  have hl : 0 < (ns.map V.int).length := by
    rw [List.length_map]; exact List.length_pos_iff.mpr h
  have h1 := Int.emod_nonneg pt (show ((ns.map V.int).length : Int) ≠ 0 by omega)
  have h2 := Int.emod_lt_of_pos pt (show (0 : Int) < ((ns.map V.int).length : Int) by omega)
  obtain ⟨j, hj⟩ := Int.eq_ofNat_of_zero_le h1
  rw [hj] at h2 ⊢
  have hjl : j < ns.length := by rw [List.length_map] at h2; omega
  refine ⟨ns[j], atI_nat ?_⟩
  rw [List.getElem?_map, List.getElem?_eq_getElem hjl]; rfl
theorem emod_w {x M : Int} (h : 0 < M) (h2 : M ≤ 2147483648) : -(2 ^ 64) < x % M ∧ x % M < 2 ^ 64 := by
  have a := Int.emod_nonneg x (show M ≠ 0 by omega)
  have b := Int.emod_lt_of_pos x h
  omega
theorem emod_b {x M : Int} (h : 0 < M) (h2 : M ≤ 2147483648) : 0 ≤ x % M ∧ x % M < 2147483648 := by
  have a := Int.emod_nonneg x (show M ≠ 0 by omega)
  have b := Int.emod_lt_of_pos x h
  omega
/-- forget what a heap is, but for F -/
theorem gcut {Qd : Hp → Prop} {H : Hp} (F : Hp → Prop) (hF : F H) (h : ∀ H', F H' → Qd H') : Qd H := h H hF
theorem pos_lit {j : Int} (h : 0 < j) : 0 < j := h

section
variable {K : PySem.W.Frag} {c p : Addr} {H H' : Hp} {v : V} {d : PyData} {vs xs : List V} {ds : List PyData}
theorem DV.up (h : DV K c H v d) (e : Ext c H H') : DV K c H' v d := DV.ext e d v h
theorem DVs.up (h : DVs K c H vs ds) (e : Ext c H H') : DVs K c H' vs ds := DVs.ext e ds vs h
/-- a new list, a new tuple, a new dict -/
theorem new_lst (hp : H p = none) (n : p ≠ c) (h : DVs K c H xs ds) : DV K c (upd H p (.lst xs)) (.ref p) (.list ds) ∧ Ext c H (upd H p (.lst xs)) :=
  ⟨.lst n (.of upd_same) (h.up (Ext.new hp)), Ext.new hp⟩
theorem new_tup (hp : H p = none) (n : p ≠ c) (h : DVs K c H xs ds) : DV K c (upd H p (.tup xs)) (.ref p) (.tuple ds) ∧ Ext c H (upd H p (.tup xs)) :=
  ⟨.tup n (.of upd_same) (h.up (Ext.new hp)), Ext.new hp⟩
/-- [x if one of them] -/
theorem one_of {i : Nat} {v : V} {xs : List V} (h : xs[i]? = some v) : v ∈ xs := List.mem_of_getElem? h
end

theorem pi_or {X : Cx} {tg e : Expr} {w1 w2 : TI} (h1 : PI X tg e w1) (h2 : PI X tg e w2) : PI X tg e (fun σ H R => w1 σ H R ∨ w2 σ H R) :=
  ⟨fun pins s σ H R I h => h.elim (h1.run pins s σ H R I) (h2.run pins s σ H R I)⟩
theorem Ext.of {c : Addr} {H H' : Hp} (h : Same H H') : Ext c H H' := fun b o _ e => h b o e
theorem same_new {p : Addr} {H : Hp} {o : HO} (h : H p = none) : Same H (upd H p o) := fun b u e => by
  rw [upd_ne (ne_of_none e h)]; exact e
theorem same_own {p : Addr} {H H' : Hp} {o : HO} (e : Same H H') (h : H p = none) : Same H (upd H' p o) := fun b u x => by
  rw [upd_ne (ne_of_none x h)]; exact e b u x
/-! ### types of data -/
def tyN : PyData → String
  | .none => "NoneType" | .bool _ => "bool" | .int _ => "int" | .str _ => "str" | .list _ => "list" | .tuple _ => "tuple" | .dict _ => "dict"
theorem ty_of {K : PySem.W.Frag} {c : Addr} {H : Hp} {v : V} {d : PyData} (h : DV K c H v d) : TyX K H v (.type (tyN d)) := by
  cases h with
  | non => exact .base .non
  | bl b => exact .base (.bl b)
  | int i => exact .base (.int i)
  | str x => exact .base (.str x)
  | lst _ s _ =>
    rcases s with (s | ⟨o, s⟩) | ⟨o, its, n, e, q, _⟩
    · exact .base (.lst s)
    · exact .base (.frz s)
    · exact .kList e q
  | tup _ s _ =>
    rcases s with (s | ⟨o, s⟩) | ⟨o, its, n, e, q, _⟩
    · exact .base (.tup s)
    · exact .fTuple s
    · exact .kTuple e q
  | dic _ s _ => exact .base (.dK s)
  | dct _ s _ => exact .base (.dT s)
def isInt : PyData → Bool | .int _ => true | _ => false
def isSeq : PyData → Bool | .list _ => true | .tuple _ => true | _ => false
def isStr : PyData → Bool | .str _ => true | _ => false
theorem iteB {b : Bool} {A B : Prop} (h1 : b = true → A) (h2 : b = false → B) : if b = true then A else B := by
  cases b with
  | true => exact iteT (h1 rfl)
  | false => exact iteF (h2 rfl)
/-- a pair of two such things -/
def pairP (f : PyData → Bool) : PyData → Bool
  | .list [a, b] => f a && f b
  | .tuple [a, b] => f a && f b
  | _ => false
abbrev isSq : PyData → Bool := pairP isInt
abbrev isMv : PyData → Bool := pairP isSq
theorem pair_no {f : PyData → Bool} {ds : List PyData} (h : ds.length ≠ 2) : pairP f (.list ds) = false ∧ pairP f (.tuple ds) = false := by
  match ds, h with
  | [], _ => exact ⟨rfl, rfl⟩
  | [_], _ => exact ⟨rfl, rfl⟩
  | [_, _], h => exact absurd rfl h
  | _ :: _ :: _ :: _, _ => exact ⟨rfl, rfl⟩
theorem two_of {α : Type} {ds : List α} (h : ds.length = 2) : ∃ a b, ds = [a, b] := by
  match ds, h with
  | [a, b], _ => exact ⟨a, b, rfl⟩
theorem kI : ∀ d : PyData, kitB (tyN d) "int" = some (match d with | .int _ => true | .bool _ => true | _ => false)
  | .none => (by decide +kernel : kitB "NoneType" "int" = some false)
  | .bool _ => (by decide +kernel : kitB "bool" "int" = some true)
  | .int _ => (by decide +kernel : kitB "int" "int" = some true)
  | .str _ => (by decide +kernel : kitB "str" "int" = some false)
  | .list _ => (by decide +kernel : kitB "list" "int" = some false)
  | .tuple _ => (by decide +kernel : kitB "tuple" "int" = some false)
  | .dict _ => (by decide +kernel : kitB "dict" "int" = some false)
theorem kB : ∀ d : PyData, kitB (tyN d) "bool" = some (match d with | .bool _ => true | _ => false)
  | .none => (by decide +kernel : kitB "NoneType" "bool" = some false)
  | .bool _ => (by decide +kernel : kitB "bool" "bool" = some true)
  | .int _ => (by decide +kernel : kitB "int" "bool" = some false)
  | .str _ => (by decide +kernel : kitB "str" "bool" = some false)
  | .list _ => (by decide +kernel : kitB "list" "bool" = some false)
  | .tuple _ => (by decide +kernel : kitB "tuple" "bool" = some false)
  | .dict _ => (by decide +kernel : kitB "dict" "bool" = some false)
theorem kS : ∀ d : PyData, kitB (tyN d) "str" = some (isStr d)
  | .none => (by decide +kernel : kitB "NoneType" "str" = some false)
  | .bool _ => (by decide +kernel : kitB "bool" "str" = some false)
  | .int _ => (by decide +kernel : kitB "int" "str" = some false)
  | .str _ => (by decide +kernel : kitB "str" "str" = some true)
  | .list _ => (by decide +kernel : kitB "list" "str" = some false)
  | .tuple _ => (by decide +kernel : kitB "tuple" "str" = some false)
  | .dict _ => (by decide +kernel : kitB "dict" "str" = some false)
theorem kL : ∀ d : PyData, kitB (tyN d) "list" = some (match d with | .list _ => true | _ => false)
  | .none => (by decide +kernel : kitB "NoneType" "list" = some false)
  | .bool _ => (by decide +kernel : kitB "bool" "list" = some false)
  | .int _ => (by decide +kernel : kitB "int" "list" = some false)
  | .str _ => (by decide +kernel : kitB "str" "list" = some false)
  | .list _ => (by decide +kernel : kitB "list" "list" = some true)
  | .tuple _ => (by decide +kernel : kitB "tuple" "list" = some false)
  | .dict _ => (by decide +kernel : kitB "dict" "list" = some false)
theorem kT : ∀ d : PyData, kitB (tyN d) "tuple" = some (match d with | .tuple _ => true | _ => false)
  | .none => (by decide +kernel : kitB "NoneType" "tuple" = some false)
  | .bool _ => (by decide +kernel : kitB "bool" "tuple" = some false)
  | .int _ => (by decide +kernel : kitB "int" "tuple" = some false)
  | .str _ => (by decide +kernel : kitB "str" "tuple" = some false)
  | .list _ => (by decide +kernel : kitB "list" "tuple" = some false)
  | .tuple _ => (by decide +kernel : kitB "tuple" "tuple" = some true)
  | .dict _ => (by decide +kernel : kitB "dict" "tuple" = some false)
theorem kit_seq {K : PySem.W.Frag} (d : PyData) : PySem.W.kitAny K (.type (tyN d)) [.type "list", .type "tuple"] = some (isSeq d) := by
  have kl := kL d
  have kt := kT d
  cases d with
  | list _ => exact kitAny_cons (kit_ty kl) (fun h => nomatch h) (fun _ => rfl)
  | tuple _ => exact kitAny_cons (kit_ty kl) (fun _ => kitAny_cons (kit_ty kt) (fun h => nomatch h) (fun _ => rfl)) (fun h => nomatch h)
  | _ => exact kitAny_cons (kit_ty kl) (fun _ => kitAny_cons (kit_ty kt) (fun _ => rfl) (fun h => nomatch h)) (fun h => nomatch h)
/-- a def that tells yes or no of one thing, and changes nothing -/
def spB (K : PySem.W.Frag) (f : PyData → Bool) : Sp := fun vs H Q _ => ∃ (c : Addr) (v : V) (d : PyData), vs = [v] ∧ DV K c H v d ∧ ∀ H', Same H H' → Q (.bl (f d)) H'

/-! ### the bag of draws: at c a list of the list l of ints, the place, what is left of a great number -/
def Bag (c l : Addr) (n : Nat) (H : Hp) : Prop := ∃ (ns : List Int) (pt rest : Int), H c = some (.lst [.ref l, .int pt, .int rest]) ∧
  H l = some (.lst (ns.map V.int)) ∧ l ≠ c ∧ ns.length ≤ 60 ∧ 0 ≤ pt ∧ pt ≤ n ∧ 0 ≤ rest
theorem Bag.mono {c l : Addr} {n m : Nat} {H : Hp} (b : Bag c l n H) (h : n ≤ m) : Bag c l m H := by
  obtain ⟨ns, pt, rest, h1, h2, h3, h4, h5, h6, h7⟩ := b
  exact ⟨ns, pt, rest, h1, h2, h3, h4, h5, by omega, h7⟩
theorem Bag.new {c l p : Addr} {n : Nat} {H : Hp} {o : HO} (b : Bag c l n H) (h : H p = none) : Bag c l n (upd H p o) := by
  obtain ⟨ns, pt, rest, h1, h2, h3, h4, h5, h6, h7⟩ := b
  exact ⟨ns, pt, rest, by rw [upd_ne (ne_of_none h1 h)]; exact h1, by rw [upd_ne (ne_of_none h2 h)]; exact h2, h3, h4, h5, h6, h7⟩
/-- a thing that is neither of the two is written -/
theorem Bag.put {c l p : Addr} {n : Nat} {H : Hp} {o : HO} (b : Bag c l n H) (h : p ≠ c) (h' : p ≠ l) : Bag c l n (upd H p o) := by
  obtain ⟨ns, pt, rest, h1, h2, h3, h4, h5, h6, h7⟩ := b
  exact ⟨ns, pt, rest, by rw [upd_ne h.symm]; exact h1, by rw [upd_ne h'.symm]; exact h2, h3, h4, h5, h6, h7⟩
theorem Bag.ne {c l p : Addr} {n : Nat} {H : Hp} (b : Bag c l n H) (h : H p = none) : p ≠ c := by
  obtain ⟨ns, pt, rest, h1, _⟩ := b
  exact fun e => by rw [e, h1] at h; cases h
theorem Bag.ne2 {c l p : Addr} {n : Nat} {H : Hp} (b : Bag c l n H) (h : H p = none) : p ≠ l := by
  obtain ⟨ns, pt, rest, _, h1, _⟩ := b
  exact fun e => by rw [e, h1] at h; cases h
theorem Bag.same {c l : Addr} {n : Nat} {H H' : Hp} (b : Bag c l n H) (h : Same H H') : Bag c l n H' := by
  obtain ⟨ns, pt, rest, h1, h2, r⟩ := b
  exact ⟨ns, pt, rest, h _ _ h1, h _ _ h2, r⟩
end Gs

set_option Elab.async false
set_option linter.all false
set_option maxRecDepth 100000
set_option maxHeartbeats 4000000
namespace Gs
open PySem PySem.Spec PyProof.Rows L2
/-! ### data of known size: depth at most k, bulk at most n -/
structure Fine (k n : Nat) (d : PyData) : Prop where
  sh : d.showable = true
  dp : d.depth ≤ k
  lf : d.leavesShort 1100 = true
  bk : d.bulk ≤ n
structure FineS (k n : Nat) (ds : List PyData) : Prop where
  sh : PyData.showableAll ds = true
  dp : PyData.depthAll ds ≤ k
  lf : PyData.leavesShortAll 1100 ds = true
  bk : PyData.bulkAll ds ≤ n
section
variable {k k' n n' m : Nat} {d e : PyData} {ds es : List PyData}
theorem Fine.mono (h : Fine k n d) (a : k ≤ k') (b : n ≤ n') : Fine k' n' d := ⟨h.sh, Nat.le_trans h.dp a, h.lf, Nat.le_trans h.bk b⟩
theorem FineS.mono (h : FineS k n ds) (a : k ≤ k') (b : n ≤ n') : FineS k' n' ds := ⟨h.sh, Nat.le_trans h.dp a, h.lf, Nat.le_trans h.bk b⟩
theorem int_len {i : Int} (h : i.natAbs < 2 ^ 1000) : (PyData.shown (.int i)).length ≤ 1100 ∧ i.natAbs.log2 < 1920 := by
  have e : i.natAbs.log2 < 1000 := by
    by_cases z : i.natAbs = 0
    · rw [z]; decide
    · exact (Nat.log2_lt z).mpr h
  refine ⟨?_, by omega⟩
  have := int_text_length_le (a := i) (k := 1000) (by decide) e
  show (Str.ofString (toString i)).length ≤ 1100
  rw [PySem.ofString_length]; omega
theorem Fine.int {i : Int} (h : i.natAbs < 2 ^ 1000) : Fine k n (.int i) := by
  obtain ⟨a, b⟩ := int_len h
  refine ⟨?_, Nat.zero_le _, ?_, Nat.zero_le _⟩
  · simp only [PyData.showable, decide_eq_true_eq]; exact b
  · simp only [PyData.leavesShort, decide_eq_true_eq]; exact a
theorem Fine.non : Fine k n .none := ⟨rfl, Nat.zero_le _, rfl, Nat.zero_le _⟩
theorem Fine.bl {b : Bool} : Fine k n (.bool b) := ⟨rfl, Nat.zero_le _, rfl, Nat.zero_le _⟩
theorem Fine.str {x : Str} (h : ∀ c ∈ x.cps.toList, c < 16 ^ 8) (hn : x.length ≤ n) : Fine k n (.str x) := by
  refine ⟨rfl, Nat.zero_le _, ?_, hn⟩
  simp only [PyData.leavesShort, List.all_eq_true, decide_eq_true_eq]; exact h
theorem FineS.nil : FineS k n [] := ⟨rfl, Nat.zero_le _, rfl, Nat.zero_le _⟩
theorem FineS.cons (h : Fine k n d) (r : FineS k m ds) : FineS k (n + 1 + m) (d :: ds) := by
  refine ⟨?_, ?_, ?_, ?_⟩
  · simp only [PyData.showableAll, h.sh, r.sh, Bool.and_self]
  · have a := h.dp; have b := r.dp
    simp only [PyData.depthAll]; omega
  · simp only [PyData.leavesShortAll, h.lf, r.lf, Bool.and_self]
  · have a := h.bk; have b := r.bk
    simp only [PyData.bulkAll]; omega
theorem Fine.list (r : FineS k n ds) : Fine (k + 1) n (.list ds) := by
  refine ⟨?_, ?_, ?_, ?_⟩
  · simp only [PyData.showable]; exact r.sh
  · have b := r.dp; simp only [PyData.depth]; omega
  · simp only [PyData.leavesShort]; exact r.lf
  · simp only [PyData.bulk]; exact r.bk
theorem Fine.tuple (r : FineS k n ds) : Fine (k + 1) n (.tuple ds) := by
  refine ⟨?_, ?_, ?_, ?_⟩
  · simp only [PyData.showable]; exact r.sh
  · have b := r.dp; simp only [PyData.depth]; omega
  · simp only [PyData.leavesShort]; exact r.lf
  · simp only [PyData.bulk]; exact r.bk
theorem Fine.to_tuple (h : Fine k n (.list ds)) : Fine k n (.tuple ds) := by
  obtain ⟨a, b, c, d⟩ := h
  simp only [PyData.showable, PyData.depth, PyData.leavesShort, PyData.bulk] at a b c d
  refine ⟨?_, ?_, ?_, ?_⟩
  · simp only [PyData.showable]; exact a
  · simp only [PyData.depth]; exact b
  · simp only [PyData.leavesShort]; exact c
  · simp only [PyData.bulk]; exact d
theorem Fine.dict1 {a b : PyData} (h : Fine k n a) (g : Fine k m b) : Fine (k + 1) (n + m + 2) (.dict [(a, b)]) := by
  refine ⟨?_, ?_, ?_, ?_⟩
  · simp only [PyData.showable, PyData.showableKv, h.sh, g.sh, Bool.and_self]
  · have x := h.dp; have y := g.dp
    simp only [PyData.depth, PyData.depthKv]; omega
  · simp only [PyData.leavesShort, PyData.leavesShortKv, h.lf, g.lf, Bool.and_self]
  · have x := h.bk; have y := g.bk
    simp only [PyData.bulk, PyData.bulkKv]; omega
theorem Fine.dict2 {a b a' b' : PyData} (h : Fine k n a) (g : Fine k n b) (h' : Fine k n a') (g' : Fine k n b') : Fine (k + 1) (4 * n + 4) (.dict [(a, b), (a', b')]) := by
  refine ⟨?_, ?_, ?_, ?_⟩
  · simp only [PyData.showable, PyData.showableKv, h.sh, g.sh, h'.sh, g'.sh, Bool.and_self]
  · have x := h.dp; have y := g.dp; have x' := h'.dp; have y' := g'.dp
    simp only [PyData.depth, PyData.depthKv]; omega
  · simp only [PyData.leavesShort, PyData.leavesShortKv, h.lf, g.lf, h'.lf, g'.lf, Bool.and_self]
  · have x := h.bk; have y := g.bk; have x' := h'.bk; have y' := g'.bk
    simp only [PyData.bulk, PyData.bulkKv]; omega
theorem Fine.fits (h : Fine k n d) (hn : n ≤ 15000) : d.shown.length ≤ sizeLine := by
  have a := PyData.shown_le_bulk 1100 (by decide) d h.lf
  have b := h.bk
  have c : sizeLine = 16777216 := by decide
  have e : (1100 + 2) * d.bulk ≤ (1100 + 2) * 15000 := Nat.mul_le_mul_left _ (by omega)
  omega
/-- what a list of bools shows -/
theorem fine_bools : ∀ bs : List Bool, FineS 0 bs.length (bs.map PyData.bool)
  | [] => .nil
  | b :: bs => by
    have := FineS.cons (k := 0) (n := 0) (Fine.bl (b := b)) (fine_bools bs)
    exact this.mono (Nat.le_refl _) (by rw [List.length_cons]; omega)
theorem fine_ints : ∀ zs : List Int, (∀ z ∈ zs, z.natAbs < 2 ^ 1000) → FineS 0 zs.length (zs.map PyData.int)
  | [], _ => .nil
  | z :: zs, h => by
    have := FineS.cons (k := 0) (n := 0) (Fine.int (h z List.mem_cons_self)) (fine_ints zs fun y hy => h y (List.mem_cons_of_mem _ hy))
    exact this.mono (Nat.le_refl _) (by rw [List.length_cons]; omega)
end
section
variable {K : PySem.W.Frag} {c : Addr} {H : Hp}
theorem dv_bools : ∀ bs : List Bool, DVs K c H (bs.map V.bl) (bs.map PyData.bool)
  | [] => .nil
  | b :: bs => .cons (.bl b) (dv_bools bs)
end
/-- a text that Lean wrote has signs below 16 ^ 8 -/
theorem ofs_signs (s : String) : ∀ c ∈ (Str.ofString s).cps.toList, c < 16 ^ 8 := by
  rw [PyProof.Rows.signs_ofString]
  intro c hc
  obtain ⟨ch, _, rfl⟩ := List.mem_map.mp hc
  exact ch.val.toNat_lt
theorem fa_nil {k n : Nat} : ∀ d ∈ ([] : List PyData), Fine k n d := fun _ h => nomatch h
theorem fa_cons {k n : Nat} {d : PyData} {ds : List PyData} (h : Fine k n d) (r : ∀ e ∈ ds, Fine k n e) : ∀ e ∈ d :: ds, Fine k n e := fun e m => by
  rcases List.mem_cons.mp m with rfl | m
  · exact h
  · exact r e m
/-- a list of two, of three -/
theorem fine1 {k n : Nat} {a : PyData} (h : Fine k n a) : FineS k (n + 1) [a] := (FineS.cons h FineS.nil (m := 0)).mono (Nat.le_refl _) (by omega)
theorem fine2 {k n : Nat} {a b : PyData} (h : Fine k n a) (g : Fine k n b) : FineS k (2 * n + 2) [a, b] := (FineS.cons h (fine1 g)).mono (Nat.le_refl _) (by omega)
theorem fine3 {k n : Nat} {a b e : PyData} (h : Fine k n a) (g : Fine k n b) (f : Fine k n e) : FineS k (3 * n + 3) [a, b, e] := (FineS.cons h (fine2 g f)).mono (Nat.le_refl _) (by omega)
theorem fine_tos {k : Nat} {i : Int} (h : i.natAbs < 2 ^ 1000) : Fine k 1100 (.str (toString i)) := by
  refine .str (ofs_signs _) ?_
  exact (int_len h).1
theorem fine_lit {k : Nat} {x : String} (h : (Str.ofString x).length ≤ 100) : Fine k 100 (.str (Str.ofString x)) := .str (ofs_signs _) h
/-- x = e where e has one value whatever way it goes, and changes nothing that is known -/
theorem asg_val {te : TE} {tg : TG} {D : Ends} {σ : L2.St} {H : Hp} (v : V) (h1 : ∀ Q : VK, (∀ H', Same H H' → Q v H') → te σ H Q) (h2 : ∀ H', Same H H' → tg v σ H' D.nx) : tAsg te tg D σ H := h1 _ h2
theorem seq_asg {te : TE} {tg : TG} {r : TS} {D : Ends} {σ : L2.St} {H : Hp} (v : V) (h1 : ∀ Q : VK, (∀ H', Same H H' → Q v H') → te σ H Q) (h2 : ∀ H', Same H H' → tg v σ H' (r D)) : tSeq (tAsg te tg) r D σ H := h1 _ h2
end Gs

set_option Elab.async false
set_option linter.all false
set_option maxRecDepth 100000
set_option maxHeartbeats 4000000
namespace Gs
open PySem PySem.Spec PyProof.Rows L2
section
variable {P : Program} {w : World} {K : PySem.W.Frag} {mg mb : Str → Option Value} {CX : CXT} {k : Nat} {fa a : Addr} {fd : FuncData} {x : Str} {sp : Sp}
  {s₁ : Shared} {vs : List Value} {ns : List Int}
/-- the law's call, from what its def promises where no guard stands -/
theorem law_callG (KX : K.In s₁.heap) (hns : s₁.heap.Ns mainGlobals mg) (hb : s₁.heap.Ns builtinsNs mb) (hbb : ∀ x : Str, x ≠ "__name__" → mb x = bootBuiltins x)
    (hlim : s₁.heap.NoLimit) (hg : s₁.gens = #[]) (ha : s₁.heap.get? a = some { cls := .type "list", data := .seq vs.toArray }) (hi : IntsAre vs ns) (hl : ns.length ≤ sizeLine)
    (hr : Room k callerA) (F : ∀ base : Heap, K.In base → base.Ns mainGlobals mg → FnG P w K mg base CX k fa fd [x] sp)
    (hbind : ∀ (s : Shared) (u : Value), BindsTo s fd ⟨[u], []⟩ [(x, u)])
    (hsp : ∀ H : Hp, SqL K H a (ns.map V.int) → sp [.ref a] H (fun v _ => v = .bl true) fun _ _ _ => False)
    (hCX : ∀ H e s', CX [] H s₁ (fun _ _ _ => False) e s' → False) :
    codeAny (model P w) callerA (.call (.ref fa) ⟨[.ref a], []⟩)
      (fun r s' => r = .ok (.ret (.bool true)) ∧ OldK s₁.heap s'.heap ∧ s'.os = s₁.os ∧ AllBare s'.gens) s₁ := by
  have rv := vals_ints hi
  have nV := hi.length
  -- H knows nothing, or just the script, which is frozen
  have go : ∀ H : Hp, (∀ b, H b = none ∨ (b = a ∧ K.lookup b = none ∧ ∃ o ys, H b = some (.frz o (.lst ys)))) → SqL K H a (ns.map V.int) → HOk P w H s₁.heap →
      codeAny (model P w) callerA (.call (.ref fa) ⟨[.ref a], []⟩)
        (fun r s' => r = .ok (.ret (.bool true)) ∧ OldK s₁.heap s'.heap ∧ s'.os = s₁.os ∧ AllBare s'.gens) s₁ := by
    intro H hO hS hok
    have unk : ∀ {b : Addr} {o : Obj}, s₁.heap.get? b = some o → o.data ≠ .seq vs.toArray → H b = none := by
      intro b o e nd
      rcases hO b with q | ⟨q, _, _⟩
      · exact q
      · rw [q, ha] at e; cases e; exact absurd rfl nd
    have nsH : ∀ {b : Addr} {m : Str → Option Value}, s₁.heap.Ns b m → (hidT s₁.heap H).Ns b m := by
      rintro b m ⟨o, es, ep, e, d, r⟩
      exact ⟨o, es, ep, hidT_get e (unk e (by rw [d]; exact fun z => nomatch z)), d, r⟩
    have kH : K.In (hidT s₁.heap H) := by
      intro b o e
      refine hidT_get (KX b o e) ?_
      rcases hO b with q | ⟨_, q, _⟩
      · exact q
      · rw [q] at e; cases e
    have md : Mod K mg (hidT s₁.heap H) := by
      refine ⟨kH, nsH hns, ⟨mb, nsH hb, hbb⟩, ?_⟩
      obtain ⟨mc, h1, h2⟩ := hlim
      exact ⟨mc, nsH h1, h2⟩
    have e0 : Env0 P w K mg (hidT s₁.heap H) callerA [] s₁ H := by
      refine ⟨rfl, md, fun b o e => of_hidT e, Nat.le_of_eq (hidT_size _ _), trivial, ?_, hok, .of_eq hg⟩
      intro b hb
      exact absurd (show b ∈ ([] : List Addr) from hb) (List.not_mem_nil)
    have run := (F _ kH (nsH hns)).run callerA [] s₁ H ⟨[.ref a], []⟩ [.ref a] [.ref a] _ _ hr rfl e0 (hbind s₁ (.ref a)) (.cons rfl .nil) (hsp H hS)
    refine codeAny_mono run (fun r s' h => ?_)
    match r, h with
    | .error e, h => exact (hCX H e s' h).elim
    | .ok .next, h => exact h.elim
    | .ok .brk, h => exact h.elim
    | .ok .cont, h => exact h.elim
    | .ok (.ret u), h =>
      obtain ⟨v, H', os, bare, un, hok', r', q⟩ := h
      cases (show v = .bl true from q)
      cases (show u = Value.bool true from r')
      refine ⟨rfl, OldK.of_keep (fun b o e => ?_), os, bare⟩
      rcases hO b with q | ⟨_, _, ob, ys, q⟩
      · exact un.keep b o e q (fun z => absurd (show b ∈ ([] : List Addr) from z) List.not_mem_nil) List.not_mem_nil
      · obtain ⟨e1, _⟩ := hok b _ q
        obtain ⟨e2, _⟩ := hok' b _ (un.frzs b ob _ q)
        rw [e] at e1; cases e1; exact e2
  by_cases hk : K.lookup a = none
  · have at_a : (fun b => if b = a then some (HO.frz { cls := .type "list", data := .seq vs.toArray } (.lst (ns.map V.int))) else none : Hp) a = some (.frz { cls := .type "list", data := .seq vs.toArray } (.lst (ns.map V.int))) := if_pos rfl
    refine go (fun b => if b = a then some (.frz { cls := .type "list", data := .seq vs.toArray } (.lst (ns.map V.int))) else none) (fun b => ?_) (.inl (.inr ⟨_, at_a⟩)) (fun b u z => ?_)
    · by_cases e : b = a
      · exact .inr ⟨e, by rw [e]; exact hk, _, _, if_pos e⟩
      · exact .inl (if_neg e)
    · dsimp only at z
      by_cases e : b = a
      · rw [if_pos e] at z; cases z; subst e
        exact ⟨ha, by rw [List.length_map]; exact hl, vs, _, rv, ha⟩
      · rw [if_neg e] at z; cases z
  · obtain ⟨o, ho⟩ := Option.ne_none_iff_exists'.mp hk
    have e := KX a o ho
    rw [ha] at e; cases e
    refine go (fun _ => none) (fun _ => .inl rfl) (.inr ⟨_, vs.toArray, _, ho, rfl, rfl, rfl, ?_, by simpa using rv⟩) (fun b u z => nomatch z)
    rw [List.size_toArray, nV]; exact hl
end
/-- what the head leaves, from the law's promise -/
theorem walkG {l : PySem.W.OpenLaw} {k : Nat} {q : Program} {loose : List Str} {XP : (Str → Option Value) → Heap → Prop} {YP : World → Heap → Prop} {d : DefRec}
    {K : Params → PySem.W.Frag} {sp : PySem.W.Frag → Sp} {x : Str} (hn : l.most = some 63) (hdf : d.params.defaults = []) (hr : Room k callerA)
    (hY : ∀ (w : World) (h : Heap), YP w h → (K w.params).In h)
    (F : ∀ (w : World) (mg : Str → Option Value) (fa : Addr) (h : Heap), (K w.params).In h → h.Ns mainGlobals mg → mg d.name = some (.ref fa) →
      ∃ fd : FuncData, (∀ (s : Shared) (u : Value), BindsTo s fd ⟨[u], []⟩ [(x, u)]) ∧
        ∀ base : Heap, (K w.params).In base → base.Ns mainGlobals mg → FnG l.prog w (K w.params) mg base CX0 k fa fd [x] (sp (K w.params)))
    (hsp : ∀ (K : PySem.W.Frag) (H : Hp) (a : Addr) (ns : List Int), ns.length ≤ 63 → SqL K H a (ns.map V.int) → sp K [.ref a] H (fun v _ => v = .bl true) fun _ _ _ => False) :
    PySem.W.WalkO q loose XP YP l.row.toRowW d [] (fun f vs => PySem.call f vs) := by
  refine Att.attach_call hn hdf (fun w s₀ s₁ mg mb fa o pm cd doc a vs ns G Y ho hd hcd hmg hobj hints hlen hg => ?_)
  have KX := hY w _ Y
  obtain ⟨fd, hb, hF⟩ := F w mg fa _ KX G.T.g hmg
  exact law_callG KX G.T.g G.T.b G.T.builtins G.T.nolimit hg hobj hints (Nat.le_trans hlen (by decide)) hr hF hb (fun H hS => hsp _ H a ns hlen hS) (fun _ _ _ h => h)
end Gs

set_option Elab.async false
set_option linter.all false
set_option maxRecDepth 100000
set_option maxHeartbeats 4000000
/-! Layer G3: {elt for x in ..} whose elt is a tuple of ints. -/
namespace Gs
open PySem PySem.Spec PyProof.Rows L2
section
variable {X : Cx} {pins : List (Addr × Obj)} {σ : L2.St} {H : Hp} {s : Shared}
abbrev Tps := List (Addr × List Int)
/-- D.add(x), x a tuple of ints -/
theorem addT_ok {E : Value → Shared → Prop} {D x : Addr} {L : Tps} {k : List Int} {Q : Value → Shared → Prop} (I : Inv X pins σ H s) (hD : H D = some (SetTO X.prog X.w D L))
    (hL : ∀ p ∈ L, SqT X.K H p.1 (p.2.map V.int)) (hx : SqT X.K H x (k.map V.int)) (hu : X.A.units + 1 < cLine) (room : L.length + 1 < 64)
    (h : ∀ (L' : Tps) s', (k ∈ L.map (·.2) → L' = L) → (k ∉ L.map (·.2) → L'.Perm ((x, k) :: L)) → Inv X pins σ (upd H D (SetTO X.prog X.w D L')) s' → Q .none s') :
    wpAny (model X.prog X.w) X.A (call (.builtin "set.add") [.ref D, .ref x]) Q E s := by
  have R0 : SetT0 X.prog X.w s.heap D L := (I.hok D _ hD).1
  obtain ⟨es, ep, t, R⟩ := R0.full fun p hp => I.isT (hL p hp)
  obtain ⟨o, ho, hex, hd⟩ := R.ob
  have ty : s.TypeIs (.ref D) "set" := ⟨o, ho, hex.1⟩
  refine wpAny_call_entry F.slot_set_add ty F.entry_set_add ?_ (F.args_set_add_2 _ _)
  unfold Builtin.«set.add» Builtin.Frozenset.oneOther
  simp only [List.isEmpty_nil, bind_assoc]
  unfold Builtin.Frozenset.addrOf setAdd
  refine wpAny_bind (wpAny_pure ?_)
  try dsimp only
  refine wpAny_bind (wpAny_pure ?_)
  try dsimp only
  refine wpAny_bind ?_
  refine wpAny_holding ?_
  refine wpAny_bind (wpAny_pyHash_tuple (by show X.A.units + 1 < cLine; exact hu) (I.isT hx) ?_)
  refine add_at (s := { s with toks := s.toks + (k.length + 1) }) R (I.isT hx) (by show X.A.units + 1 < cLine; exact hu) room fun b h' L' es' ep' t' sb R' c1 c2 => ?_
  show wpAny _ _ (ret Value.none) _ _ _
  have there : ∃ u, h'.get? D = some u := by
    obtain ⟨o', ho', _⟩ := R'.ob
    exact ⟨o', ho'⟩
  have J := I.write (e := D) (t' := s.toks + (k.length + 1)) (x := D) (o := SetTO X.prog X.w D L') (by rw [hD]; trivial) (.inl rfl) (fun c u hc hu => (sb.2 c hc).trans hu) there (setTO_new R'.t0)
  exact wpAny_pure ⟨_, rfl, h L' _ c1 c2 J⟩
end
end Gs

set_option Elab.async false
set_option linter.all false
set_option maxRecDepth 100000
set_option maxHeartbeats 4000000
/-! Layer G4: a set comprehension over any kind of set object that adds by a rule of its own; its instance for tuples of ints; len of such a set. -/
namespace Gs
open PySem PySem.Spec PyProof.Rows L2 PpSet
/-- a kind of set objects: what stands at D, the fresh one, what adding a value asks and gives -/
structure SetKd (P : Program) (w : World) (K : PySem.W.Frag) (α : Type) where
  ob : Addr → α → HO
  zero : α
  fresh : ∀ (H : Hp) (h : Heap), ObjOk P w H (h.push { cls := .type "set", dict := none, data := .set #[] 0 (.fresh 0 0 (!w.params.followText "set-order")) }) h.objs.size (ob h.objs.size zero)
  adds : Addr → V → Hp → (Hp → Prop) → Prop
  rule : ∀ (Y : Cx), Y.prog = P → Y.w = w → Y.K = K → Y.A.units + 2 < cLine → ∀ (pins : List (Addr × Obj)) (σ : L2.St) (H : Hp) (s : Shared) (E : Value → Shared → Prop) (D : Addr) (y : V) (u : Value) (F : Hp → Prop), Inv Y pins σ H s → RelV y u → adds D y H F →
    wpAny (model P w) Y.A (call (.builtin "set.add") [.ref D, u]) (fun _ s' => ∃ H', Inv Y pins σ H' s' ∧ F H') E s
def tSetC {P : Program} {w : World} {K : PySem.W.Frag} {α : Type} (Z : SetKd P w K α) (wi : TI) (g : TG) (tt : TT) (te : TE) (vs : List Nat) : TE := fun σ H Q => wi σ H fun J H1 => ∀ D, H1 D = none →
  ∃ W : Nat → Nat → Hp → Prop, (∃ m, W 0 m (upd H1 D (Z.ob D Z.zero))) ∧ ∀ i m H, W i m H → (J.stop i H ∧ Q (.ref D) H) ∨
    (J.go i H ∧ ∃ Nx : Hp → Prop, (∀ H', Nx H' → ∃ m', m' < m ∧ W (i + 1) m' H') ∧ ∀ x H', J.yld i H x H' → g x (wipe σ vs) H' fun σ2 H2 => wipe σ2 vs = wipe σ vs ∧ tt σ2 H2 fun b H3 => if b = true then te σ2 H3 fun y H4 => Z.adds D y H4 Nx else Nx H3)
section
variable {X : Cx}
theorem setc_run {α : Type} {pins : List (Addr × Obj)} {s : Shared} {σ : L2.St} {H : Hp} {Q : VK} {elt tg iter : Expr} {ifs : List Expr} {scope : Scope} {own : List (PySem.Str × Nat)} {pos pos' : Pos} {wi : TI} {g : TG} {tt : TT} {te : TE} {use : Option (Value → Sem Unit)}
    {Qf : Value → Shared → Prop} (Z : SetKd X.prog X.w X.K α) (hu : X.A.units + 2 < cLine) (calm : X.calm = true) (nod : X.N.Nodup) (I : Inv X pins σ H s) (pi : PI X tg iter wi) (bok : BlkOk X.N X.env.scope scope own)
    (pg : ∀ (s : Shared) (H : Hp) (C : Addr) (cl : List (PySem.Str × Addr)) (fp : List Addr), PG (X.blk s H scope (compEnvC scope cl C X.env) fp) tg g)
    (pt : ∀ (s : Shared) (H : Hp) (C : Addr) (cl : List (PySem.Str × Addr)) (fp : List Addr), PTs (X.blk s H scope (compEnvC scope cl C X.env) fp) ifs tt)
    (pe : ∀ (s : Shared) (H : Hp) (C : Addr) (cl : List (PySem.Str × Addr)) (fp : List Addr), PE (X.blk s H scope (compEnvC scope cl C X.env) fp) elt te)
    (plain : ∀ x, foldedSetIterable iter X.env x = pure x) (h : tSetC Z wi g tt te (own.map (·.2)) σ H Q)
    (back : ∀ D C s' m H', Inv X pins σ H' s' → Q (.ref D) H' → s'.heap.Ns C m → FpOk X pins H' C → compPost (model X.prog X.w) X.A X.xe use Qf (.ref D) C (.ok .next) s') :
    wpAny (model X.prog X.w) X.A (comprehension (.SetComp elt [⟨tg, iter, ifs, 0⟩] scope pos) scope X.env pos' (newSet (.type "set")) false (eval iter X.env) use) Qf X.xe s := by
  have cells : ∀ q ∈ scope.names, q.2 = .free → ∃ c, X.env.cells.lookup q.1 = some c := by
    intro q hq e
    cases bok.free q hq e with
    | inl k => exact I.ok.has _ (Or.inl k)
    | inr k => exact I.ok.has _ (Or.inr k)
  refine wpAny_comprehension_free (use := use) rfl plain (closure_ok cells) bok.kind (fun q hq e => (bok.uniq q hq).trans (congrArg some e)) (thn (pi.run pins s σ H _ I h) fun _ s1 hx => thn hx fun _ s2 got => ?_)
  obtain ⟨it, fp, tn, J, H2, rfl, I2, T, st2, f2, q⟩ := got
  refine newSet_ok (newEnv_comp ?_)
  obtain ⟨D, hD⟩ : ∃ D, D = s2.heap.objs.size := ⟨_, rfl⟩
  have free : H2 D = none := I2.hok.fresh (by rw [hD]; exact Nat.le_refl _)
  obtain ⟨W, ⟨m0, w0⟩, turn⟩ := q D free
  obtain ⟨s3, hs3⟩ : ∃ s3 : Shared, s3 = { s2 with heap := s2.heap.push { cls := .type "set", dict := none, data := .set #[] 0 (.fresh 0 0 (!X.w.params.followText "set-order")) } } := ⟨_, rfl⟩
  have hp3 : ∀ b o, s2.heap.get? b = some o → s3.heap.get? b = some o := fun b o e => by rw [hs3]; exact Heap.get?_push_of_some _ e
  have sz3 : s3.heap.objs.size = s2.heap.objs.size + 1 := by rw [hs3]; exact Heap.size_push _ _
  have I3 : Inv X pins σ (upd H2 D (Z.ob D Z.zero)) s3 := by
    rw [hs3]
    refine I2.laid (t' := s2.toks) (fun b o e => Heap.get?_push_of_some _ e) (by rw [hD]; exact Nat.le_refl _) ?_
    rw [hD]
    exact Z.fresh _ _
  have below : ∀ b ∈ fp, b < s2.heap.objs.size := by
    intro b hb
    obtain ⟨o, e, _⟩ := T.obj _ _ st2 b hb
    exact Heap.lt_size e
  have fps : ∀ b ∈ fp, FpOk X pins (upd H2 D (Z.ob D Z.zero)) b ∧ b < s3.heap.objs.size := by
    intro b hb
    have lt := below b hb
    refine ⟨⟨(upd_ne (by rw [hD]; exact Nat.ne_of_lt lt)).trans (f2 b hb).1, (f2 b hb).2⟩, by rw [sz3]; exact Nat.lt_succ_of_lt lt⟩
  have st3 : tn 0 s3.heap := T.keep _ _ _ st2 fun b _ o e => hp3 b o e
  have I4 := block_start I3 bok nod fps
  have pg := pg s3 (upd H2 D (Z.ob D Z.zero)) s3.heap.objs.size (cellsFrom (s3.heap.objs.size + 1) scope.names (cloFrom X.env.cells scope.names [])) fp
  have pt := pt s3 (upd H2 D (Z.ob D Z.zero)) s3.heap.objs.size (cellsFrom (s3.heap.objs.size + 1) scope.names (cloFrom X.env.cells scope.names [])) fp
  have pe := pe s3 (upd H2 D (Z.ob D Z.zero)) s3.heap.objs.size (cellsFrom (s3.heap.objs.size + 1) scope.names (cloFrom X.env.cells scope.names [])) fp
  have fresh : ∀ b ∈ fp, (upd H2 D (Z.ob D Z.zero)) b = none := fun b hb => (fps b hb).1.1
  rw [← hD, ← hs3]
  show codeAny _ _ (.compStart (.SetComp elt [⟨tg, iter, ifs, 0⟩] scope pos) 0 (.ref it) (.ref D) (compEnvC scope (cellsFrom (s3.heap.objs.size + 1) scope.names (cloFrom X.env.cells scope.names [])) s3.heap.objs.size X.env)) (compPost (model X.prog X.w) X.A X.xe use Qf (.ref D) s3.heap.objs.size) _
  revert I4 pg pt pe
  generalize hce : compEnvC scope (cellsFrom (s3.heap.objs.size + 1) scope.names (cloFrom X.env.cells scope.names [])) s3.heap.objs.size X.env = ce
  intro I4 pg pt pe
  have loc : ce.locals = s3.heap.objs.size := by rw [← hce]; rfl
  generalize upd H2 D (Z.ob D Z.zero) = H3 at I3 I4 pg pt pe w0 fresh fps
  obtain ⟨s4, hs4⟩ : ∃ s4 : Shared, s4 = { s3 with heap := pushCells (s3.heap.push { cls := .type "dict", data := .dict #[] }) scope.names } := ⟨_, rfl⟩
  rw [← hs4] at I4 ⊢
  have st4 : tn 0 s4.heap := T.keep _ _ _ st3 fun b _ o e => by rw [hs4]; exact pushCells_keeps _ _ _ _ (Heap.get?_push_of_some _ e)
  have hold : ∀ {σ' : L2.St} {H' : Hp} {s' : Shared}, Inv (X.blk s3 H3 scope ce fp) [] σ' H' s' → (∀ b ∈ fp, H' b = none) → ∀ b ∈ fp, FpOk (X.blk s3 H3 scope ce fp) [] H' b := by
    intro σ' H' s' I' hn b hb
    exact ⟨hn b hb, (I'.ok.exf b hb).1, I'.ok.exfs b hb, .inl hb, fun x c e => (I'.ok.exf b hb).2 x c e, fun p hp => absurd (show p ∈ ([] : List (Addr × Obj)) ++ [] from hp) (by simp)⟩
  have loop : codeAny (model X.prog X.w) X.A (.compLoop (.SetComp elt [⟨tg, iter, ifs, 0⟩] scope pos) 0 (.ref it) (.ref D) ce) (compPost (model X.prog X.w) X.A X.xe use Qf (.ref D) s3.heap.objs.size) s4 := by
    refine compLoopS_any (fun n s' => ∃ i H', Inv (X.blk s3 H3 scope ce fp) [] (wipe σ (own.map (·.2))) H' s' ∧ tn i s'.heap ∧ (∀ b ∈ fp, H' b = none) ∧ W i n H') ?_ m0 ⟨0, H3, I4, st4, fresh, w0⟩
    rintro n s5 ⟨i, H5, I5, st5, n5, w5⟩
    cases turn i n H5 w5 with
    | inl fin =>
      obtain ⟨stop, qq⟩ := fin
      refine thnF (T.done (X.blk s3 H3 scope ce fp) rfl rfl rfl calm i [] s5 _ H5 (fun _ _ => False) I5 (hold I5 n5) st5 stop) fun r s6 ⟨hr, I6⟩ => ?_
      subst hr
      have I7 : Inv X pins σ H5 s6 := I3.call' (ch := fp) I6.os I6.base I6.hok I6.bare fun b hb => ⟨(fps b hb).1.2.2.2.1, (fps b hb).1.2.1, (fps b hb).1.2.2.2.2.1, (fps b hb).1.2.2.2.2.2⟩
      have gone : H5 s3.heap.objs.size = none := by
        have z : H5 ce.locals = none := I6.free
        rwa [loc] at z
      obtain ⟨m, hn, _⟩ := I6.loc
      have hn : s6.heap.Ns ce.locals m := hn
      rw [loc] at hn
      exact back D s3.heap.objs.size s6 m H5 I7 qq hn (I3.fpOk (Nat.le_refl _) gone)
    | inr more =>
      obtain ⟨go, Nx, hNx, step⟩ := more
      refine thnF (T.item (X.blk s3 H3 scope ce fp) rfl rfl rfl calm i [] s5 _ H5 (fun _ _ => False) I5 (hold I5 n5) st5 go) fun r s6 ⟨u, hr, h6⟩ => ?_
      subst hr
      refine thnF h6 fun _ s7 ⟨x, H7, I7, r7, y7, st7, n7⟩ => ?_
      have I7p := I7.pinned (hold I7 n7) (T.obj _ _ st7)
      refine thnF (pg.run _ s7 _ H7 x u _ I7p r7 (step x H7 y7)) fun _ s8 ⟨σ8, H8, I8, hw8, q8⟩ => ?_
      refine thnF (pt.run _ s8 σ8 H8 _ I8 q8) fun b s9 ⟨H9, I9, q9⟩ => ?_
      have again : ∀ {s' : Shared} {H' : Hp}, Inv (X.blk s3 H3 scope ce fp) ([] ++ pinsAt fp s7.heap) σ8 H' s' → Nx H' →
          ∃ m, m < n ∧ ∃ i H', Inv (X.blk s3 H3 scope ce fp) [] (wipe σ (own.map (·.2))) H' s' ∧ tn i s'.heap ∧ (∀ b ∈ fp, H' b = none) ∧ W i m H' := by
        intro s' H' I' nx
        obtain ⟨m', hm, w'⟩ := hNx H' nx
        have pinned : ∀ b ∈ fp, ∀ o, s7.heap.get? b = some o → s'.heap.get? b = some o ∧ H' b = none := by
          intro b hb o e
          have z := I'.pin (b, o) (List.mem_append_right _ (List.mem_append_right _ (mem_pinsAt hb e)))
          exact ⟨z.1, z.2.1⟩
        refine ⟨m', hm, i + 1, H', (I'.unpinned (pins := [])).weak (by rw [← hw8, wipe_length]) (fun j v e => ?_), T.keep _ _ _ st7 (fun b hb o e => (pinned b hb o e).1), (fun b hb => ?_), w'⟩
        · rw [← hw8] at e
          exact (wipe_some e).1
        · obtain ⟨o, e, _⟩ := T.obj _ _ st7 b hb
          exact (pinned b hb o e).2
      cases b with
      | false =>
        rw [if_neg Bool.false_ne_true] at q9 ⊢
        exact again I9 q9
      | true =>
        rw [if_pos rfl] at q9 ⊢
        refine thnF (pe.run _ s9 σ8 H9 _ I9 q9) fun z s10 ⟨yv, H10, I10, r10, ad⟩ => ?_
        refine wpAny_mono (Z.rule (X.blk s3 H3 scope ce fp) rfl rfl rfl hu _ σ8 H10 s10 _ D yv z Nx I10 r10 ad) (fun _ s11 ⟨H11, I11, nx⟩ => again I11 nx) fun _ _ e => e
  exact codeAny_compStart_set loop (T.self X.A 0 _ _ _ st4 loop)
/-- {elt for tg in iter ..} -/
theorem pe_setc {α : Type} {elt tg iter : Expr} {ifs : List Expr} {scope : Scope} {own : List (PySem.Str × Nat)} {pos : Pos} {wi : TI} {g : TG} {tt : TT} {te : TE} (Z : SetKd X.prog X.w X.K α) (hu : X.A.units + 2 < cLine) (calm : X.calm = true) (nod : X.N.Nodup)
    (pi : PI X tg iter wi) (bok : BlkOk X.N X.env.scope scope own) (pg : ∀ (s : Shared) (H : Hp) (C : Addr) (cl : List (PySem.Str × Addr)) (fp : List Addr), PG (X.blk s H scope (compEnvC scope cl C X.env) fp) tg g)
    (pt : ∀ (s : Shared) (H : Hp) (C : Addr) (cl : List (PySem.Str × Addr)) (fp : List Addr), PTs (X.blk s H scope (compEnvC scope cl C X.env) fp) ifs tt)
    (pe : ∀ (s : Shared) (H : Hp) (C : Addr) (cl : List (PySem.Str × Addr)) (fp : List Addr), PE (X.blk s H scope (compEnvC scope cl C X.env) fp) elt te) (plain : ∀ x, foldedSetIterable iter X.env x = pure x := by intro _; rfl) :
    PE X (.SetComp elt [⟨tg, iter, ifs, 0⟩] scope pos) (tSetC Z wi g tt te (own.map (·.2))) := by
  constructor
  intro pins s σ H Q I h
  rw [eval_SetComp]
  refine setc_run Z hu calm nod I pi bok pg pt pe plain h fun D C s' m H' I' q hn f => ⟨m, hn, fun h2 sb => ?_⟩
  obtain ⟨f0, f1, f2, f3, f4, f5⟩ := f
  exact ⟨.ref D, H', I'.turned (t' := s'.toks) (fun b o hb e => (sb.2 b hb).trans e) f0 f1 f3 f4 f5, rfl, q⟩
end
end Gs
namespace Gs
open PySem PySem.Spec PyProof.Rows L2 PpSet
/-- sets of tuples of ints -/
def tupKd (P : Program) (w : World) (K : PySem.W.Frag) : SetKd P w K Tps where
  ob := fun D L => SetTO P w D L
  zero := []
  fresh := fun H h => setTO_new (setTR_fresh (Heap.get?_push_size _ rfl)).t0
  adds := fun D y H F => ∃ (x : Addr) (k : List Int) (L : Tps), y = .ref x ∧ H D = some (SetTO P w D L) ∧ (∀ p ∈ L, SqT K H p.1 (p.2.map V.int)) ∧ SqT K H x (k.map V.int) ∧ L.length + 1 < 64 ∧
    ∀ L' : Tps, (k ∈ L.map (·.2) → L' = L) → (k ∉ L.map (·.2) → L'.Perm ((x, k) :: L)) → F (upd H D (SetTO P w D L'))
  rule := by
    rintro Y rfl rfl rfl hu pins σ H s E D y u F I r ⟨x, k, L, rfl, hD, hL, hx, room, q⟩
    cases (show u = Value.ref x from r)
    exact addT_ok I hD hL hx (by omega) room fun L' s' c1 c2 J => ⟨_, J, q L' c1 c2⟩
def rLenT (K : PySem.W.Frag) (P : Program) (w : World) : List V → Hp → VK → Prop := fun xs H Q => ∃ (a : Addr) (L : Tps), xs = [.ref a] ∧ H a = some (SetTO P w a L) ∧ (∀ p ∈ L, SqT K H p.1 (p.2.map V.int)) ∧ Q (.int L.length) H
theorem call_lenT {X : Cx} : CallR X (.builtin "len") (rLenT X.K X.prog X.w) := by
  intro pins s σ H xs us Q I r h
  obtain ⟨a, L, rfl, ha, hL, q⟩ := h
  rw [Vals.ref1 r]
  have R0 : SetT0 X.prog X.w s.heap a L := (I.hok a _ ha).1
  obtain ⟨es, ep, t, R⟩ := R0.full fun p hp => I.isT (hL p hp)
  obtain ⟨o, ho, hex, hd⟩ := R.ob
  have hn := R.size
  have few := R.few
  exact call_len_set ho hex hd R.fits (by rw [hn]; omega) ⟨.int L.length, H, I.tok _, ⟨_, by rw [hn]⟩, q⟩
end Gs

set_option Elab.async false
set_option linter.all false
set_option maxRecDepth 100000
set_option maxHeartbeats 4000000
/-! Layer G5: a written dict with text keys, walked. -/
namespace Gs
open PySem PySem.Spec PyProof.Rows L2
/-- at d: a written dict that holds kvs, in this order -/
structure WD (K : PySem.W.Frag) (w : World) (d : Addr) (kvs : List (Str × V)) : Prop where
  ex : ∃ (es : Array DictEntry) (n : Nat), KDict K w d es n ∧ es.size = kvs.length ∧ ∀ (i : Nat) k v, kvs[i]? = some (k, v) → ∃ en t, es[i]? = some en ∧ en.key = .str k t ∧ RelV v en.val
def Itw (ks : List Str) : It := ⟨fun i _ => i < ks.length, fun i H x H' => H' = H ∧ ∃ k, ks[i]? = some k ∧ x = .str k, fun i _ => ks.length ≤ i⟩
section
variable {P : Program} {w : World} {K : PySem.W.Frag} {tg : Expr} {d : Addr} {es : Array DictEntry} {n : Nat} {ks : List Str}
theorem turn_wkeys (it : Addr) (D : KDict K w d es n) (hz : es.size = ks.length) (hk : ∀ (i : Nat) k, ks[i]? = some k → ∃ en t, es[i]? = some en ∧ en.key = .str k t) :
    Turn P w K tg (Itw ks) [it] it (fun i h => h.IsKeyIter it d i ks.length n) where
  mem := List.mem_cons_self
  obj := by
    intro i h st b hb
    obtain rfl : b = it := List.mem_singleton.mp hb
    obtain ⟨oi, e, c, dd⟩ := st
    exact ⟨oi, e, fun v z => by rw [dd] at z; cases z⟩
  keep := fun i h h' st k => st.at fun oi e => k it List.mem_cons_self oi e
  item := by
    rintro X rfl rfl rfl hc i pins s σ H E I hf st hi
    obtain ⟨f0, f1, f2, f3, f4, f5⟩ := hf it List.mem_cons_self
    have hi : i < ks.length := hi
    obtain ⟨en, t, hen, hkey⟩ := hk i _ (List.getElem?_eq_getElem hi)
    refine next_key_item st (I.kIn _ _ D.at_) rfl hz hen fun h' st' sb => ?_
    have I1 : Inv X pins σ H { s with heap := h' } := I.turned (t' := s.toks) (fun b ob hb e => (sb.2 b hb).trans e) f0 f1 f3 f4 f5
    obtain ⟨oi, e, c, dd⟩ := id st'
    exact ⟨en.key, rfl, go_of (s := { s with heap := h' }) e c dd (by decide) ⟨.str ks[i], H, I1, ⟨t, hkey⟩, ⟨rfl, _, List.getElem?_eq_getElem hi, rfl⟩, st', fun b hb => (hf b hb).1⟩⟩
  done := by
    rintro X rfl rfl rfl hc i pins s σ H E I hf st hi
    obtain ⟨f0, f1, f2, f3, f4, f5⟩ := hf it List.mem_cons_self
    exact next_key_end (I.ok.hd hc) st (I.kIn _ _ D.at_) rfl hz hi fun h' eb => ⟨rfl, I.turned (t' := s.toks) (fun b ob hb e => eb b ob hb e) f0 f1 f3 f4 f5⟩
  self := fun A i s Q E st h => wpAny_pyIter_keyiter st h
def iWKeys (K : PySem.W.Frag) (w : World) (td : TE) : TI := fun σ H R => td σ H fun x H1 => ∃ d kvs, x = .ref d ∧ WD K w d kvs ∧ R (Itw (kvs.map (·.1))) H1
/-- for k in D, D a written dict -/
theorem pi_wkeys {X : Cx} {e : Expr} {td : TE} (he : PE X e td) : PI X tg e (iWKeys X.K X.w td) := by
  constructor
  intro pins s σ H R I h
  refine thn (he.run pins s σ H _ I h) fun u s1 ⟨x, H1, I1, rx, d, kvs, ex, ⟨es, n, D, hz, hk⟩, q⟩ => ?_
  subst ex
  obtain rfl : u = Value.ref d := rx
  have hz : es.size = (kvs.map (·.1)).length := by rw [hz, List.length_map]
  have hk : ∀ (i : Nat) k, (kvs.map (·.1))[i]? = some k → ∃ en t, es[i]? = some en ∧ en.key = .str k t := by
    intro i k e
    rw [List.getElem?_map] at e
    cases z : kvs[i]? with
    | none => rw [z] at e; cases e
    | some q =>
      rw [z] at e
      obtain ⟨en, t, h1, h2, _⟩ := hk i q.1 q.2 z
      cases e
      exact ⟨en, t, h1, h2⟩
  refine iter_keys D.low (I1.kIn _ _ D.at_) ⟨rfl, rfl, rfl⟩ rfl (pi_one (tk := s1.toks) I1 _ (turn_wkeys _ D hz hk) ⟨_, Heap.get?_push_size _ rfl, rfl, ?_⟩ q)
  rw [hz] <;> rfl
theorem walk_wkeys {ks : List Str} : Walk (Itw ks) ks.length (fun _ => True) (fun i H x H' => H' = H ∧ ∃ k, ks[i]? = some k ∧ x = .str k) :=
  ⟨fun i H hi _ => hi, fun H _ => Nat.le_refl _, fun i H x H' _ _ y => y⟩
theorem isStr_str {k z : Str} {t : Tok} : (Value.str k t).isStr z = decide (k = z) := by
  show (k == z) = _
  by_cases h : k = z
  · subst h; simp
  · rw [decide_eq_false h]; simpa using h
/-- what it tells of a key -/
theorem WD.tells {kvs : List (Str × V)} (D : WD K w d kvs) (z : Str) : (∃ (i : Nat) (v : V) (u : Value), kvs[i]? = some (z, v) ∧ PySem.W.nsIn K d z = some (some u) ∧ RelV v u) ∨ ((∀ v, (z, v) ∉ kvs) ∧ PySem.W.nsIn K d z = some none) := by
  obtain ⟨es, n, ⟨at_, lit, low⟩, hz, hk⟩ := D.ex
  have e0 : PySem.W.nsIn K d z = (match es.toList.find? (·.key.isStr z) with
      | some e => some (some e.val)
      | none => if es.toList.any (·.refKey) then none else some none) := by
    unfold PySem.W.nsIn
    rw [at_] <;> rfl
  cases hf : es.toList.find? (·.key.isStr z) with
  | some e =>
    left
    have hm := List.mem_of_find?_eq_some hf
    have hq := List.find?_some hf
    obtain ⟨i, hi⟩ := List.getElem?_of_mem hm
    rw [Array.getElem?_toList] at hi
    have hl : i < kvs.length := by
      have : i < es.size := (Array.getElem?_eq_some_iff.mp hi).1
      omega
    obtain ⟨en, t, h1, h2, h3⟩ := hk i kvs[i].1 kvs[i].2 (List.getElem?_eq_getElem hl)
    rw [hi] at h1
    cases h1
    have hq : e.key.isStr z = true := hq
    rw [h2, isStr_str] at hq
    have ez : kvs[i].1 = z := of_decide_eq_true hq
    refine ⟨i, kvs[i].2, e.val, by rw [List.getElem?_eq_getElem hl, ← ez], ?_, h3⟩
    rw [e0, hf]
  | none =>
    right
    refine ⟨fun v hm => ?_, ?_⟩
    · obtain ⟨i, hi⟩ := List.getElem?_of_mem hm
      obtain ⟨en, t, h1, h2, h3⟩ := hk i z v hi
      have := List.find?_eq_none.mp hf en (by
        rw [← Array.getElem?_toList] at h1
        exact List.mem_of_getElem? h1)
      rw [h2, isStr_str] at this
      exact this (decide_eq_true rfl)
    · rw [e0, hf]
      have : es.toList.any (·.refKey) = false := by
        rw [List.any_eq_false]
        intro e he
        obtain ⟨x, t, h1, _⟩ := lit.all e he
        unfold DictEntry.refKey
        rw [h1]
        exact Bool.false_ne_true
      rw [this] <;> rfl
end
end Gs
namespace Gs
open PySem PySem.Spec PyProof.Rows L2
theorem pg_or {X : Cx} {e : Expr} {t u : TG} (h1 : PG X e t) (h2 : PG X e u) : PG X e (fun v σ H Q => t v σ H Q ∨ u v σ H Q) :=
  ⟨fun pins s σ H v w Q I r h => h.elim (fun h => h1.run pins s σ H v w Q I r h) fun h => h2.run pins s σ H v w Q I r h⟩
end Gs

set_option Elab.async false
set_option linter.all false
set_option maxRecDepth 100000
set_option maxHeartbeats 4000000
/-! Layer G6: walks of set comprehensions; what the size of a set tells. -/
namespace Gs
open PySem PySem.Spec PyProof.Rows L2
theorem sc_it {P : Program} {w : World} {K : PySem.W.Frag} {α : Type} {Z : SetKd P w K α} {J : It} {n : Nat} {G : Hp → Prop} {Y : Nat → Hp → V → Hp → Prop} (wk : Walk J n G Y) {g : TG} {tt : TT} {te : TE} {vs : List Nat} {σ : L2.St} {H1 : Hp} {D : Addr} {Qd : Hp → Prop}
    (Pv : Nat → Hp → Prop) (h0 : Pv 0 (upd H1 D (Z.ob D Z.zero))) (hG : ∀ i H, i ≤ n → Pv i H → G H)
    (hs : ∀ i x H H', i < n → Pv i H → Y i H x H' → g x (wipe σ vs) H' fun σ2 H2 => wipe σ2 vs = wipe σ vs ∧ tt σ2 H2 fun b H3 => if b = true then te σ2 H3 fun y H4 => Z.adds D y H4 (Pv (i + 1)) else Pv (i + 1) H3)
    (hd : ∀ H, Pv n H → Qd H) :
    ∃ W : Nat → Nat → Hp → Prop, (∃ m, W 0 m (upd H1 D (Z.ob D Z.zero))) ∧ ∀ i m H, W i m H → (J.stop i H ∧ Qd H) ∨
      (J.go i H ∧ ∃ Nx : Hp → Prop, (∀ H', Nx H' → ∃ m', m' < m ∧ W (i + 1) m' H') ∧ ∀ x H', J.yld i H x H' → g x (wipe σ vs) H' fun σ2 H2 => wipe σ2 vs = wipe σ vs ∧ tt σ2 H2 fun b H3 => if b = true then te σ2 H3 fun y H4 => Z.adds D y H4 Nx else Nx H3) := by
  refine ⟨fun i m H => m = n - i ∧ i ≤ n ∧ Pv i H, ⟨n, (Nat.sub_zero n).symm, Nat.zero_le _, h0⟩, ?_⟩
  rintro i m H ⟨rfl, hi, p⟩
  have q := hG i H hi p
  rcases Nat.lt_or_ge i n with lt | ge
  · exact .inr ⟨wk.goes i H lt q, Pv (i + 1), fun H' p' => ⟨n - (i + 1), by omega, rfl, lt, p'⟩, fun x H' y => hs i x H H' lt p (wk.yields i H x H' lt q y)⟩
  · obtain rfl : i = n := Nat.le_antisymm hi ge
    exact .inl ⟨wk.stops H q, hd H p⟩
section
variable {α : Type} [DecidableEq α]
theorem nodup_le : ∀ (l D : List α), l.Nodup → (∀ x ∈ l, x ∈ D) → l.length ≤ D.length
  | [], _, _, _ => Nat.zero_le _
  | x :: l, D, hn, hs => by
    have hx : x ∈ D := hs x List.mem_cons_self
    have hn' := List.nodup_cons.mp hn
    have := nodup_le l (D.erase x) hn'.2 fun y hy => (List.mem_erase_of_ne (fun e : y = x => hn'.1 (e ▸ hy))).mpr (hs y (List.mem_cons_of_mem _ hy))
    have e := List.length_erase_of_mem hx
    have : 0 < D.length := List.length_pos_of_mem hx
    simp only [List.length_cons]
    omega
theorem dup_lt : ∀ (D : List α), ¬ D.Nodup → ∃ D' : List α, D'.length < D.length ∧ ∀ x ∈ D, x ∈ D'
  | [], h => absurd List.nodup_nil h
  | x :: D, h => by
    by_cases hx : x ∈ D
    · refine ⟨D, Nat.lt_succ_self _, fun y hy => ?_⟩
      rcases List.mem_cons.mp hy with e | hy
      · rw [e]; exact hx
      · exact hy
    · obtain ⟨D', h1, h2⟩ := dup_lt D fun hn => h (List.nodup_cons.mpr ⟨hx, hn⟩)
      refine ⟨x :: D', Nat.succ_lt_succ h1, fun y hy => ?_⟩
      rcases List.mem_cons.mp hy with e | hy
      · rw [e]; exact List.mem_cons_self
      · exact List.mem_cons_of_mem _ (h2 y hy)
/-- the members of D once each are as many as D if none stands twice in D -/
theorem size_tells {l D : List α} (hn : l.Nodup) (hm : ∀ x, x ∈ l ↔ x ∈ D) : decide ((l.length : Int) = (D.length : Int)) = decide D.Nodup := by
  refine decide_eq_decide.mpr ⟨fun e => ?_, fun e => ?_⟩
  · refine Decidable.byContradiction fun h => ?_
    obtain ⟨D', h1, h2⟩ := dup_lt D h
    have := nodup_le l D' hn fun x hx => h2 x ((hm x).mp hx)
    omega
  · have a := nodup_le l D hn fun x hx => (hm x).mp hx
    have b := nodup_le D l e fun x hx => (hm x).mpr hx
    omega
end
end Gs
theorem L2.Same.seqT {K : PySem.W.Frag} {H H' : L2.Hp} {a : PySem.Addr} {xs : List L2.V} (e : L2.Same H H') (h : L2.SqT K H a xs) : L2.SqT K H' a xs := by
  rcases h with (h | ⟨o, h⟩) | h
  · exact .inl (.inl (e _ _ h))
  · exact .inl (.inr ⟨o, e _ _ h⟩)
  · exact .inr h
namespace Gs
open PySem PySem.Spec PyProof.Rows L2
/-- a tuple stands while a set is changed -/
theorem seqT_set {P : Program} {w : World} {K : PySem.W.Frag} {H : Hp} {S b : Addr} {L : Tps} {o : HO} {zs : List V} (hS : H S = some (SetTO P w S L)) (h : SqT K H b zs) : SqT K (upd H S o) b zs := by
  rcases h with (h | ⟨q, h⟩) | h
  · refine .inl (.inl ?_)
    rw [upd_ne (fun e => by rw [e, hS] at h; cases h)]; exact h
  · refine .inl (.inr ⟨q, ?_⟩)
    rw [upd_ne (fun e => by rw [e, hS] at h; cases h)]; exact h
  · exact .inr h
end Gs

set_option Elab.async false
set_option linter.all false
set_option maxRecDepth 100000
set_option maxHeartbeats 4000000
/-! Layer G7: len(set(xs)), xs a list or a tuple of texts, any of them more than once. -/
namespace Gs
open PySem PySem.Spec PyProof.Rows
section
variable {prog : Program} {w : World} {A : Around} {R : Result → Shared → Prop} {I : Addr} {fp wr : List Addr} {G : Array GenState → Array GenState → Prop} {n : Nat} {P : Nat → Value → Prop} {St : Nat → Shared → Prop}
/-- the set at S holds the texts L -/
def TxS (prog : Program) (w : World) (h : Heap) (S : Addr) (xs L : List Str) : Prop := h.SetOf (PySem.strKind prog w) S (fun z => decide (z ∈ L)) L.length ∧ L.Nodup ∧ L.length ≤ xs.length ∧ ∀ z, z ∈ L ↔ z ∈ xs
theorem TxS.keeps {h h' : Heap} {S : Addr} {xs L : List Str} (t : TxS prog w h S xs L) (k : ∀ o, h.get? S = some o → h'.get? S = some o) : TxS prog w h' S xs L := by
  obtain ⟨⟨o, es, ep, tb, ho, rest⟩, q⟩ := t
  exact ⟨⟨o, es, ep, tb, k o ho, rest⟩, q⟩
theorem loop_tx (W : WalksS prog w A.in1 I fp wr G n P St) (S : Addr) (nS : S ∉ fp) (xs : List Str) (hx : xs.length = n) (val : ∀ i v, P i v → ∃ t, v = .str (xs.getD i Str.empty) t) (few : n + 1 < scanBound) :
    ∀ (k i : Nat) (s : Shared), n - i = k → i ≤ n → St i s → (∃ L, TxS prog w s.heap S (xs.take i) L) → (∀ s' L, Moved (S :: wr) G s s' → TxS prog w s'.heap S xs L → R (.ok (.ret .none)) s') →
      codeAny (model prog w) A (.builtin "set.update.loop" ⟨[.ref S, .ref I], []⟩) R s := by
  have nW : S ∉ wr := fun h => nS (W.sub _ h)
  have more : ∀ b ∈ wr, b ∈ S :: wr := fun b hb => .tail _ hb
  intro k
  induction k with
  | zero =>
    rintro i s hk hi st ⟨L, hL⟩ hR
    obtain rfl : i = n := by omega
    refine codeAny_builtin PyProof.Rows.F.entry_set_update_loop ?_
    rw [Around.under_plainId PyProof.Rows.F.plain_set_update_loop _]
    show wpAny _ A.in1 (pyNext (.ref I) >>= _) _ _ s
    refine wpAny_bind (W.done s _ _ st fun s' mv => ?_)
    show wpAny _ A.in1 (ret Value.none) _ _ s'
    rw [← hx, List.take_length] at hL
    exact wpAny_pure (hR s' L (mv.mono more) (hL.keeps fun o e => mv.heap S o nW e))
  | succ k ih =>
    rintro i s hk hi st ⟨L, hL⟩ hR
    have lt : i < n := by omega
    refine codeAny_builtin PyProof.Rows.F.entry_set_update_loop ?_
    rw [Around.under_plainId PyProof.Rows.F.plain_set_update_loop _]
    show wpAny _ A.in1 (pyNext (.ref I) >>= _) _ _ s
    refine wpAny_bind (W.item i s _ _ lt st fun v s' hP st' mv => ?_)
    obtain ⟨t, rfl⟩ := val i v hP
    obtain ⟨hS, nd, hl, hm⟩ := hL.keeps (h' := s'.heap) fun o e => mv.heap S o nW e
    generalize hz : xs.getD i Str.empty = z
    have hzi : xs[i]? = some z := by
      have e : xs[i]? = some xs[i] := List.getElem?_eq_getElem (by omega)
      rw [e, ← hz, List.getD_eq_getElem?_getD, e]; rfl
    have hli : L.length ≤ i := Nat.le_trans hl (List.length_take_le _ _)
    show wpAny _ A.in1 (holding [Value.str z t] (setAdd S (.str z t)) >>= _) _ _ s'
    refine wpAny_bind (wpAny_holding ?_)
    unfold setAdd
    refine wpAny_holding ?_
    refine wpAny_bind ((PySem.strKind prog w).pyHash (k := z) (strKind_is _ _ _ _) ?_)
    refine wpAny_setAddHashed_of (knd := PySem.strKind prog w) (s := { s' with toks := s'.toks + 1 }) (strKind_is _ _ _ _) rfl hS (by omega) fun h' same hS2 => ?_
    have next : ∃ L', TxS prog w h' S (xs.take (i + 1)) L' := by
      have mem : ∀ y, y ∈ xs.take (i + 1) ↔ y ∈ L ∨ y = z := fun y => by
        rw [List.take_add_one, hzi, List.mem_append, hm y]
        show _ ∨ y ∈ [z] ↔ _
        rw [List.mem_singleton]
      have len : (xs.take (i + 1)).length = i + 1 := by rw [List.length_take]; omega
      by_cases hin : z ∈ L
      · refine ⟨L, SetOf_congr hS2 (fun y => ?_) (by rw [if_pos (decide_eq_true hin)]), nd, by omega, fun y => ?_⟩
        · by_cases e : y = z
          · subst e; simp [hin]
          · simp [e]
        · rw [mem y]; exact ⟨.inl, fun h => h.elim id fun e => by rw [e]; exact hin⟩
      · refine ⟨L ++ [z], SetOf_congr hS2 (fun y => ?_) ?_, ?_, ?_, fun y => ?_⟩
        · by_cases e : y = z
          · subst e; simp
          · simp [e]
        · rw [if_neg (by simpa using hin), List.length_append]; rfl
        · rw [List.nodup_append]
          exact ⟨nd, by simp, fun a ha b hb e => hin (by rw [← List.mem_singleton.mp hb, ← e]; exact ha)⟩
        · rw [List.length_append, len]; exact Nat.succ_le_succ hli
        · rw [mem y, List.mem_append, List.mem_singleton]
    refine wpAny_pure ⟨plainId_quiet PyProof.Rows.F.plain_set_update_loop _, ih (i + 1) _ (by omega) lt (W.frame _ s' _ _ st' (Nat.le_succ _) fun b hb o e => ?_) next fun s2 L2 mv2 hL2 => ?_⟩
    · exact (same.2 b fun h : b = S => nS (by rw [← h]; exact hb)).trans e
    · exact hR s2 L2 (Moved.trans W.gtrans ((mv.mono more).then_heap (Nat.le_succ _) fun b o hb e => (same.2 b fun h : b = S => hb (by rw [h]; exact .head _)).trans e) mv2) hL2
end
/-- a new empty set -/
abbrev set0 (led : Bool) : Obj := { cls := .type "set", dict := none, data := .set #[] 0 (.fresh 0 0 led) }
section
variable {prog : Program} {w : World} {A : Around} {E : Value → Shared → Prop} {s : Shared}
set_option maxHeartbeats 4000000 in
theorem set_tx_list {l : Addr} {items : Array Value} {xs : List Str} {Q : Value → Shared → Prop} (hh : A.handled = none) (hl : s.heap.IsList l items) (hi : StrsAre items.toList xs) (few : xs.length + 1 < scanBound)
    (h : ∀ (h' : Heap) (tk : Nat) L, TxS prog w h' s.heap.objs.size xs L → (∀ b o, b < s.heap.objs.size → s.heap.get? b = some o → h'.get? b = some o) → Q (.ref s.heap.objs.size) { s with heap := h', toks := tk }) :
    wpAny (model prog w) A (call (.type "set") [.ref l]) Q E s := by
  obtain ⟨c, tl, hmro⟩ := PySem.F.called_set.mro
  have made := PySem.F.called_set.made
  have sub := PySem.F.called_set.sub
  have nt := PySem.F.called_set.notType
  have cc := PySem.F.called_set.canCreate
  have tc := PySem.F.typeCall_set_1 (.ref l)
  refine wpAny_call (codeAny_of_tree ?_)
  show wpAny _ _ (callAny (.type "set") _) _ _ _
  refine wpAny_pure ⟨Code.quiet_builtin _ (by decide +kernel), codeAny_builtin PySem.F.entry_type_call ?_⟩
  rw [Around.under_plain (weight_type_call_type "set" [.ref l] []) rfl]
  repeat (any_goals (first | assumption | wp_step))
  refine codeAny_mono (code_set_new_1 (.ref l) (E := E) (Q₁ := fun obj s₁ => ∃ led : Bool, obj = .ref s.heap.objs.size ∧ s₁ = { s with heap := s.heap.push (set0 led) }) fun led => ⟨led, rfl, rfl⟩) fun r s₁ hr => ?_
  cases r with
  | error e => exact hr
  | ok fl =>
    cases fl with
    | next => exact hr.elim
    | brk => exact hr.elim
    | cont => exact hr.elim
    | ret obj =>
      obtain ⟨led, rfl, rfl⟩ := hr
      have hS : (s.heap.push (set0 led)).get? s.heap.objs.size = some (set0 led) := Heap.get?_push_size _ rfl
      have hT : Shared.TypeIs { s with heap := s.heap.push (set0 led) } (.ref s.heap.objs.size) "set" := ⟨_, hS, rfl⟩
      have li := PySem.F.called_set.init.lookup
      have bi := PySem.F.called_set.init.bind (.ref s.heap.objs.size)
      repeat (any_goals (first | assumption | wp_step))
      refine codeAny_mono (codeAny_call_builtin (R := wants (fun r s₂ => r = .none ∧ ∃ h' tk L, s₂ = { s with heap := h', toks := tk } ∧ TxS prog w h' s.heap.objs.size xs L ∧ ∀ b o, b < s.heap.objs.size → s.heap.get? b = some o → h'.get? b = some o) E)
        PySem.F.called_set.init.plain PySem.F.entry_set_init (check_set_init_1 hT ?_)) fun r₂ s₂ hr₂ => ?_
      · obtain ⟨⟨ocls, odict, odata, oslots⟩, hol, hcl, nl, hdl⟩ := hl
        dsimp only at hcl hdl
        subst hcl hdl
        have hol' : (s.heap.push (set0 led)).get? l = some { cls := .type "list", dict := odict, data := .seq items nl, slots := oslots } := Heap.get?_push_of_some _ hol
        have s1 := PySem.F.sub_list_set
        have s2 := PySem.F.sub_list_frozenset
        have s3 : (Value.type "list" == Value.type "dict") = false := by decide
        have hl1 : (s.heap.push (set0 led)).IsList l items := ⟨_, hol', rfl, nl, rfl⟩
        unfold Builtin.«set.__init__» noKeywords Builtin.Frozenset.updateFrom
        generalize hPI : pyIter = PI
        wp_walk
        subst hPI
        refine wpAny_pyIter_list hl1 ?_
        refine wpAny_bind (wpAny_runValue ?_)
        have lS : l < s.heap.objs.size := Heap.lt_size hol
        have nI : l ≠ (s.heap.push (set0 led)).objs.size := by
          rw [Heap.size_push]
          exact Nat.ne_of_lt (Nat.lt_succ_of_lt lS)
        have nF : s.heap.objs.size ∉ [(s.heap.push (set0 led)).objs.size, l] := by
          rw [Heap.size_push, List.mem_cons, List.mem_singleton]
          rintro (e | e)
          · exact Nat.ne_of_lt (Nat.lt_succ_self _) e
          · exact Nat.ne_of_gt lS e
        have hx : xs.length = items.size := (Array.length_toList ▸ StrsAre.len_eq hi).symm
        refine loop_tx ((Walks.list (by simp [hh]) _ l nI items).toS) s.heap.objs.size nF xs hx (fun i v hv => SS.strs_at hi i v ((Array.getElem?_toList ..).trans hv)) (by omega) (items.size - 0) 0 _ (by omega) (Nat.zero_le _)
          ⟨⟨_, Heap.get?_push_size _ rfl, rfl, rfl⟩, hl1.push _⟩ ⟨[], ?_, List.nodup_nil, Nat.zero_le _, fun z => Iff.rfl⟩ fun s' L mv hL => ?_
        · refine SetOf_congr ((setObjOf_fresh (knd := PySem.strKind prog w) led).setOf (Heap.get?_push_of_some _ hS) (by unfold scanBound; omega)) (fun z => ?_) rfl
          simp
        · obtain ⟨h', g', d', tk', os'⟩ := s'
          have e1 : g' = s.gens := mv.gens
          have e2 : d' = s.drawn := mv.drawn
          have e3 : os' = s.os := mv.os
          subst e1 e2 e3
          show wpAny _ _ _ _ _ _
          refine wpAny_pure ?_
          show wpAny _ _ (ret Value.none) _ _ _
          refine wpAny_pure ⟨rfl, h', tk', L, rfl, hL, fun b o hb e => mv.heap b o ?_ (Heap.get?_push_of_some _ (Heap.get?_push_of_some _ e))⟩
          rw [Heap.size_push, List.mem_cons, List.mem_singleton]
          rintro (z | z)
          · exact Nat.ne_of_lt hb z
          · exact Nat.ne_of_lt (Nat.lt_succ_of_lt hb) z
      · cases r₂ with
        | error e => exact hr₂
        | ok fl₂ =>
          cases fl₂ with
          | next => exact hr₂.elim
          | brk => exact hr₂.elim
          | cont => exact hr₂.elim
          | ret r =>
            obtain ⟨rfl, h', tk, L, rfl, hL, keep⟩ := hr₂
            repeat (any_goals (first | assumption | wp_step))
            exact h _ _ L hL keep
set_option maxHeartbeats 4000000 in
theorem set_tx_tuple {l : Addr} {items : Array Value} {xs : List Str} {Q : Value → Shared → Prop} (hh : A.handled = none) (hl : s.heap.IsTuple l items) (hi : StrsAre items.toList xs) (few : xs.length + 1 < scanBound)
    (h : ∀ (h' : Heap) (tk : Nat) L, TxS prog w h' s.heap.objs.size xs L → (∀ b o, b < s.heap.objs.size → s.heap.get? b = some o → h'.get? b = some o) → Q (.ref s.heap.objs.size) { s with heap := h', toks := tk }) :
    wpAny (model prog w) A (call (.type "set") [.ref l]) Q E s := by
  obtain ⟨c, tl, hmro⟩ := PySem.F.called_set.mro
  have made := PySem.F.called_set.made
  have sub := PySem.F.called_set.sub
  have nt := PySem.F.called_set.notType
  have cc := PySem.F.called_set.canCreate
  have tc := PySem.F.typeCall_set_1 (.ref l)
  refine wpAny_call (codeAny_of_tree ?_)
  show wpAny _ _ (callAny (.type "set") _) _ _ _
  refine wpAny_pure ⟨Code.quiet_builtin _ (by decide +kernel), codeAny_builtin PySem.F.entry_type_call ?_⟩
  rw [Around.under_plain (weight_type_call_type "set" [.ref l] []) rfl]
  repeat (any_goals (first | assumption | wp_step))
  refine codeAny_mono (code_set_new_1 (.ref l) (E := E) (Q₁ := fun obj s₁ => ∃ led : Bool, obj = .ref s.heap.objs.size ∧ s₁ = { s with heap := s.heap.push (set0 led) }) fun led => ⟨led, rfl, rfl⟩) fun r s₁ hr => ?_
  cases r with
  | error e => exact hr
  | ok fl =>
    cases fl with
    | next => exact hr.elim
    | brk => exact hr.elim
    | cont => exact hr.elim
    | ret obj =>
      obtain ⟨led, rfl, rfl⟩ := hr
      have hS : (s.heap.push (set0 led)).get? s.heap.objs.size = some (set0 led) := Heap.get?_push_size _ rfl
      have hT : Shared.TypeIs { s with heap := s.heap.push (set0 led) } (.ref s.heap.objs.size) "set" := ⟨_, hS, rfl⟩
      have li := PySem.F.called_set.init.lookup
      have bi := PySem.F.called_set.init.bind (.ref s.heap.objs.size)
      repeat (any_goals (first | assumption | wp_step))
      refine codeAny_mono (codeAny_call_builtin (R := wants (fun r s₂ => r = .none ∧ ∃ h' tk L, s₂ = { s with heap := h', toks := tk } ∧ TxS prog w h' s.heap.objs.size xs L ∧ ∀ b o, b < s.heap.objs.size → s.heap.get? b = some o → h'.get? b = some o) E)
        PySem.F.called_set.init.plain PySem.F.entry_set_init (check_set_init_1 hT ?_)) fun r₂ s₂ hr₂ => ?_
      · obtain ⟨⟨ocls, odict, odata, oslots⟩, hol, hcl, nl, hdl⟩ := hl
        dsimp only at hcl hdl
        subst hcl hdl
        have hol' : (s.heap.push (set0 led)).get? l = some { cls := .type "tuple", dict := odict, data := .seq items nl, slots := oslots } := Heap.get?_push_of_some _ hol
        have s1 := PySem.F.sub_tuple_set
        have s2 := PySem.F.sub_tuple_frozenset
        have s3 : (Value.type "tuple" == Value.type "dict") = false := by decide
        have hl1 : (s.heap.push (set0 led)).IsTuple l items := ⟨_, hol', rfl, nl, rfl⟩
        unfold Builtin.«set.__init__» noKeywords Builtin.Frozenset.updateFrom
        generalize hPI : pyIter = PI
        wp_walk
        subst hPI
        refine wpAny_pyIter_tuple hl1 ?_
        refine wpAny_bind (wpAny_runValue ?_)
        have lS : l < s.heap.objs.size := Heap.lt_size hol
        have nI : l ≠ (s.heap.push (set0 led)).objs.size := by
          rw [Heap.size_push]
          exact Nat.ne_of_lt (Nat.lt_succ_of_lt lS)
        have nF : s.heap.objs.size ∉ [(s.heap.push (set0 led)).objs.size, l] := by
          rw [Heap.size_push, List.mem_cons, List.mem_singleton]
          rintro (e | e)
          · exact Nat.ne_of_lt (Nat.lt_succ_self _) e
          · exact Nat.ne_of_gt lS e
        have hx : xs.length = items.size := (Array.length_toList ▸ StrsAre.len_eq hi).symm
        refine loop_tx ((Walks.tuple (by simp [hh]) _ l nI items).toS) s.heap.objs.size nF xs hx (fun i v hv => SS.strs_at hi i v ((Array.getElem?_toList ..).trans hv)) (by omega) (items.size - 0) 0 _ (by omega) (Nat.zero_le _)
          ⟨⟨_, Heap.get?_push_size _ rfl, rfl, rfl⟩, hl1.push _⟩ ⟨[], ?_, List.nodup_nil, Nat.zero_le _, fun z => Iff.rfl⟩ fun s' L mv hL => ?_
        · refine SetOf_congr ((setObjOf_fresh (knd := PySem.strKind prog w) led).setOf (Heap.get?_push_of_some _ hS) (by unfold scanBound; omega)) (fun z => ?_) rfl
          simp
        · obtain ⟨h', g', d', tk', os'⟩ := s'
          have e1 : g' = s.gens := mv.gens
          have e2 : d' = s.drawn := mv.drawn
          have e3 : os' = s.os := mv.os
          subst e1 e2 e3
          show wpAny _ _ _ _ _ _
          refine wpAny_pure ?_
          show wpAny _ _ (ret Value.none) _ _ _
          refine wpAny_pure ⟨rfl, h', tk', L, rfl, hL, fun b o hb e => mv.heap b o ?_ (Heap.get?_push_of_some _ (Heap.get?_push_of_some _ e))⟩
          rw [Heap.size_push, List.mem_cons, List.mem_singleton]
          rintro (z | z)
          · exact Nat.ne_of_lt hb z
          · exact Nat.ne_of_lt (Nat.lt_succ_of_lt hb) z
      · cases r₂ with
        | error e => exact hr₂
        | ok fl₂ =>
          cases fl₂ with
          | next => exact hr₂.elim
          | brk => exact hr₂.elim
          | cont => exact hr₂.elim
          | ret r =>
            obtain ⟨rfl, h', tk, L, rfl, hL, keep⟩ := hr₂
            repeat (any_goals (first | assumption | wp_step))
            exact h _ _ L hL keep
end
end Gs
namespace Gs
open PySem PySem.Spec PyProof.Rows L2
section
variable {X : Cx}
def tLenTx (K : PySem.W.Frag) (ta : TE) : TE := fun σ H Q => ta σ H fun x H1 => ∃ (l : Addr) (xs : List Str), x = .ref l ∧ (SqL K H1 l (xs.map V.str) ∨ SqT K H1 l (xs.map V.str)) ∧ xs.length ≤ 1000 ∧
  ∀ L : List Str, L.Nodup → (∀ z, z ∈ L ↔ z ∈ xs) → Q (.int L.length) H1
theorem pe_lenTx {a : Expr} {ta : TE} {p p2 q pos : Pos} (hc : X.calm = true) (hg : Gl X "len") (hm : X.mg "len" = none) (hg2 : Gl X "set") (hm2 : X.mg "set" = none) (ha : PE X a ta)
    (na : starEach [a] X.env = (false, eval a X.env) :: starEach [] X.env := by rfl) : PE X (.Call (.Name "len" p) [.Call (.Name "set" p2) [a] [] q] [] pos) (tLenTx X.K ta) := by
  constructor
  intro pins s σ H Q I h
  refine Call_ (ld_blt I hg hm boot_len ?_)
  refine callWith_builtin1 (args_cons ?_ rfl) rfl rfl
  refine Call_ (ld_blt I hg2 hm2 boot_set ?_)
  refine callWith_type1 (args_cons (thn (ha.run pins s σ H _ I h) fun v s1 ⟨x, H1, I1, r1, l, xs, ex, hq, hz, k⟩ => args_nil ?_) na) na rfl
  subst ex
  cases r1
  have fin : ∀ (h' : Heap) (tk : Nat) (L : List Str), TxS X.prog X.w h' s1.heap.objs.size xs L → (∀ b o, b < s1.heap.objs.size → s1.heap.get? b = some o → h'.get? b = some o) →
      wpAny (model X.prog X.w) X.A (spliced (backTo pos (starEach [] X.env))) (fun vs s₂ => wpAny (model X.prog X.w) X.A (call (.builtin "len") (Value.ref s1.heap.objs.size :: vs)) (EP X pins σ Q) X.xe s₂) X.xe { s1 with heap := h', toks := tk } := by
    rintro h' tk L ⟨⟨o, es, ep, t, ho, hex, hd, _, _, _, hf, hn⟩, nd, hl, hm⟩ keep
    refine args_nil ?_
    have I2 : Inv X pins σ H1 { s1 with heap := h', toks := tk } := I1.kept fun b o e => keep b o (Heap.lt_size e) e
    exact call_len_set ho hex hd hf (by rw [hn]; omega) ⟨.int L.length, H1, I2.tok _, ⟨_, by rw [hn]⟩, k L nd hm⟩
  rcases hq with hq | hq
  · obtain ⟨its, r, pl, _⟩ := I1.list hq
    exact set_tx_list (I1.ok.hd hc) pl.isList (by simpa using strsAre_of r) (by unfold scanBound; omega) fin
  · obtain ⟨its, r, pl, _⟩ := I1.tuple hq
    exact set_tx_tuple (I1.ok.hd hc) (by obtain ⟨o, e1, e2, m, e3⟩ := pl; exact ⟨o, e1, e2, m, e3⟩) (by simpa using strsAre_of r) (by unfold scanBound; omega) fin
end
end Gs

set_option Elab.async false
set_option linter.all false
set_option maxRecDepth 100000
set_option maxHeartbeats 4000000
/-! Layer G8: sorted(xs), xs a list of pairs of ints that stand anywhere (tracked, locked or written). -/
namespace Gs
open PySem PySem.Spec PyProof.Rows L2
theorem perm_pre {α β : Type} {f : α → β} {m out : List β} (h : m.Perm out) : ∀ ks : List α, m = ks.map f → ∃ ls : List α, ls.Perm ks ∧ out = ls.map f := by
  induction h with
  | nil =>
    intro ks e
    exact ⟨[], by rw [List.map_eq_nil_iff.mp e.symm], rfl⟩
  | cons x _ ih =>
    intro ks e
    cases ks with
    | nil => cases e
    | cons k ks =>
      obtain ⟨e1, e2⟩ := List.cons.inj e
      obtain ⟨ls, h1, h2⟩ := ih ks e2
      exact ⟨k :: ls, h1.cons k, by rw [h2, e1]; rfl⟩
  | swap x y l =>
    intro ks e
    match ks, e with
    | k1 :: k2 :: ks, e =>
      obtain ⟨e1, e2⟩ := List.cons.inj e
      obtain ⟨e3, e4⟩ := List.cons.inj e2
      exact ⟨k2 :: k1 :: ks, List.Perm.swap k1 k2 ks, by rw [e1, e3, e4]; rfl⟩
  | trans _ _ ih1 ih2 =>
    intro ks e
    obtain ⟨ls, h1, h2⟩ := ih1 ks e
    obtain ⟨ms, h3, h4⟩ := ih2 ls h2
    exact ⟨ms, h3.trans h1, h4⟩
def rSortT (K : PySem.W.Frag) : List V → Hp → VK → Prop := fun vs H Q => ∃ (a : Addr) (ks : List (Addr × Int × Int)), vs = [V.ref a] ∧ SqL K H a (ks.map fun p => V.ref p.1) ∧ (∀ p ∈ ks, SqT K H p.1 [.int p.2.1, .int p.2.2]) ∧
  ∀ (ls : List (Addr × Int × Int)) p, ls.Perm ks → ls.Pairwise (fun x y => SrtO.lexB y.2 x.2 = false) → H p = none → Q (.ref p) (upd H p (.lst (ls.map fun p => V.ref p.1)))
section
variable {X : Cx}
theorem cr_sortT : CallR X (.builtin "sorted") (rSortT X.K) := by
  intro pins s σ H vs us Q I r h
  obtain ⟨a, ks, rfl, hs, hx, q⟩ := h
  have inj : ∀ p ∈ ks, ∀ q ∈ ks, p.1 = q.1 → p.2 = q.2 := by
    intro p hp q hq e
    obtain ⟨its1, r1, ⟨o1, ho1, _, n1, hd1⟩, _⟩ := I.tuple (hx p hp)
    obtain ⟨its2, r2, ⟨o2, ho2, _, n2, hd2⟩, _⟩ := I.tuple (hx q hq)
    rw [e, ho2] at ho1
    cases ho1
    rw [hd1] at hd2
    have e2 : its1 = its2 := by
      have := (Data.seq.inj hd2).1
      simpa using this
    subst e2
    obtain ⟨u1, u2, e3, ⟨t1, h1⟩, ⟨t2, h2⟩⟩ := vals2 r1
    obtain ⟨v1, v2, e4, ⟨t3, h3⟩, ⟨t4, h4⟩⟩ := vals2 r2
    subst e3 h1 h2
    have e5 := (List.cons.inj e4).1.trans h3
    have e6 := (List.cons.inj (List.cons.inj e4).2).1.trans h4
    exact Prod.ext (Value.int.inj e5).1 (Value.int.inj e6).1
  obtain ⟨its, rv, hl, hz⟩ := I.list hs
  obtain ⟨u, rfl, ru⟩ := vals1 r
  obtain rfl : u = Value.ref a := ru
  have eits : its = ks.map fun p => Value.ref p.1 := by
    clear hs hx inj q hz hl
    induction ks generalizing its with
    | nil => cases rv; rfl
    | cons p ks ih =>
      cases rv with
      | cons r1 r2 =>
        cases r1
        rw [ih _ r2]; rfl
  -- the pair that an address tells
  obtain ⟨k, hk⟩ : ∃ k : Value → Int × Int, ∀ p ∈ ks, k (.ref p.1) = p.2 := by
    refine ⟨fun v => match ks.find? (fun p => Value.ref p.1 == v) with | some p => p.2 | none => (0, 0), fun p hp => ?_⟩
    show (match ks.find? (fun q => Value.ref q.1 == Value.ref p.1) with | some q => q.2 | none => (0, 0)) = p.2
    cases e : ks.find? (fun q => Value.ref q.1 == Value.ref p.1) with
    | none => exact absurd (List.find?_eq_none.mp e p hp) (by simp)
    | some q =>
      have hq := List.find?_some e
      have e1 : q.1 = p.1 := Value.ref.inj (eq_of_beq hq)
      exact inj q (List.mem_of_find?_eq_some e) p hp e1
  refine SrtO.sorted_pairsO (k := k) hl.isList (by rw [← rv.length]; exact hz) (fun v hv => ?_) fun h' d out h1 h2 kp hd hn => ?_
  · rw [eits] at hv
    obtain ⟨p, hp, rfl⟩ := List.mem_map.mp hv
    obtain ⟨its2, r2, ⟨o, ho, hc, n, hdt⟩, _⟩ := I.tuple (hx p hp)
    obtain ⟨u1, u2, e3, ri, rj⟩ := vals2 r2
    obtain ⟨t1, rfl⟩ := ri
    obtain ⟨t2, rfl⟩ := rj
    subst e3
    rw [hk p hp]
    exact ⟨p.1, o, t1, t2, n, rfl, ho, hc, hdt⟩
  · rw [eits] at h2
    obtain ⟨n, hn⟩ := hn
    obtain ⟨ls, hls, rfl⟩ : ∃ ls : List (Addr × Int × Int), ls.Perm ks ∧ out = ls.map fun p => Value.ref p.1 := by
      exact perm_pre h2.perm.symm ks rfl
    have hv : Vals (ls.map fun p => V.ref p.1) (ls.map fun p => Value.ref p.1) := by
      clear h1 h2 kp hn hls
      induction ls with
      | nil => exact .nil
      | cons p ls ih => exact .cons rfl ih
    refine ⟨.ref d, upd H d (.lst (ls.map fun p => V.ref p.1)), I.laid (t' := s.toks) kp hd ⟨?_, _, n, hv, hn⟩, rfl, q ls d hls ?_ (I.hok.fresh hd)⟩
    · rw [List.length_map, hls.length_eq, ← List.length_map (f := fun p => V.ref p.1) (as := ks)]
      exact hz
    · have h1 := List.pairwise_map.mp h1
      refine h1.imp_of_mem fun {x y} hx hy e => ?_
      have e : SrtO.lexB (k (.ref y.1)) (k (.ref x.1)) = false := e
      rw [hk x (hls.mem_iff.mp hx), hk y (hls.mem_iff.mp hy)] at e
      exact e
end
end Gs

set_option Elab.async false
set_option linter.all false
set_option maxRecDepth 100000
set_option maxHeartbeats 4000000
/-! Layer G9: all but instances stay. -/
namespace Gs
open PySem PySem.Spec PyProof.Rows L2
def ExtI (H H' : Hp) : Prop := ∀ b o, H b = some o → (∀ C dx fs, o ≠ .ins C dx fs) → H' b = some o
theorem ExtI.refl {H : Hp} : ExtI H H := fun _ _ h _ => h
theorem ExtI.of {H H' : Hp} (s : Same H H') : ExtI H H' := fun b o h _ => s b o h
theorem ExtI.trans {H H1 H2 : Hp} (a : ExtI H H1) (b : ExtI H1 H2) : ExtI H H2 := fun c o h n => b c o (a c o h n) n
theorem ExtI.put {H : Hp} {x C dx : Addr} {fs : List (Str × V)} {o : HO} (hx : H x = some (.ins C dx fs)) : ExtI H (upd H x o) := fun b u h n => by
  rw [upd_ne (fun e => n C dx fs (by rw [e, hx] at h; exact (Option.some.inj h).symm))]
  exact h
theorem ExtI.put' {H : Hp} {x C dx : Addr} {fs : List (Str × V)} {H' : Hp} (hx : H x = some (.ins C dx fs)) (e : Ext x H H') : ExtI H H' := fun b u h n =>
  e b u (fun z => n C dx fs (by rw [z, hx] at h; exact (Option.some.inj h).symm)) h
theorem ExtI.sqL {K : PySem.W.Frag} {H H' : Hp} {a : Addr} {xs : List V} (e : ExtI H H') (h : SqL K H a xs) : SqL K H' a xs := by
  rcases h with (h | ⟨o, h⟩) | h
  · exact .inl (.inl (e _ _ h fun _ _ _ z => by cases z))
  · exact .inl (.inr ⟨o, e _ _ h fun _ _ _ z => by cases z⟩)
  · exact .inr h
theorem ExtI.sqT {K : PySem.W.Frag} {H H' : Hp} {a : Addr} {xs : List V} (e : ExtI H H') (h : SqT K H a xs) : SqT K H' a xs := by
  rcases h with (h | ⟨o, h⟩) | h
  · exact .inl (.inl (e _ _ h fun _ _ _ z => by cases z))
  · exact .inl (.inr ⟨o, e _ _ h fun _ _ _ z => by cases z⟩)
  · exact .inr h
section
variable {K : PySem.W.Frag} {c : Addr} {H H' : Hp}
mutual
theorem dv_i (e : ExtI H H') : ∀ (d : PyData) (v : V), DV K c H v d → DV K c H' v d
  | .none, _, h => by cases h; exact .non
  | .bool _, _, h => by cases h; exact .bl _
  | .int _, _, h => by cases h; exact .int _
  | .str _, _, h => by cases h; exact .str _
  | .list ds, _, h => by
    cases h with
    | lst n s r => exact .lst n (e.sqL s) (dvs_i e ds _ r)
  | .tuple ds, _, h => by
    cases h with
    | tup n s r => exact .tup n (e.sqT s) (dvs_i e ds _ r)
  | .dict ps, _, h => by
    cases h with
    | dic n s r => exact .dic n (e _ _ s fun _ _ _ z => by cases z) (dks_i e ps _ r)
    | dct n s z => exact .dct n (e _ _ s fun _ _ _ z => by cases z) z
theorem dvs_i (e : ExtI H H') : ∀ (ds : List PyData) (vs : List V), DVs K c H vs ds → DVs K c H' vs ds
  | [], _, h => by cases h; exact .nil
  | d :: ds, _, h => by
    cases h with
    | cons a b => exact .cons (dv_i e d _ a) (dvs_i e ds _ b)
theorem dks_i (e : ExtI H H') : ∀ (ps : List (PyData × PyData)) (vs : List (Key × V)), DKs K c H vs ps → DKs K c H' vs ps
  | [], _, h => by cases h; exact .nil
  | (d, f) :: ps, _, h => by
    cases h with
    | cons a b r => exact .cons (dv_i e d _ a) (dv_i e f _ b) (dks_i e ps _ r)
end
end
theorem DV.upI {K : PySem.W.Frag} {c : Addr} {H H' : Hp} {v : V} {d : PyData} (h : DV K c H v d) (e : ExtI H H') : DV K c H' v d := dv_i e d v h
theorem DVs.upI {K : PySem.W.Frag} {c : Addr} {H H' : Hp} {vs : List V} {ds : List PyData} (h : DVs K c H vs ds) (e : ExtI H H') : DVs K c H' vs ds := dvs_i e ds vs h
end Gs

set_option Elab.async false
set_option linter.all false
set_option maxRecDepth 100000
set_option maxHeartbeats 4000000
/-! Layer G10: list(D), D a written dict. -/
namespace Gs
open PySem PySem.Spec PyProof.Rows L2
theorem pairs_w {P : Program} {w : World} : ∀ (ks : List Str) (es : List DictEntry), es.length = ks.length → (∀ (i : Nat) k, ks[i]? = some k → ∃ en t, es[i]? = some en ∧ en.key = .str k t) →
    Pairs (strKind P w) es (List.zipWith (fun k e => (k, e.val)) ks es) ∧ (List.zipWith (fun (k : Str) (e : DictEntry) => (k, e.val)) ks es).map (·.1) = ks
  | [], [], _, _ => ⟨.nil, rfl⟩
  | [], _ :: _, h, _ => by simp at h
  | _ :: _, [], h, _ => by simp at h
  | k :: ks, e :: es, h, a => by
    obtain ⟨en, t, h1, h2⟩ := a 0 k rfl
    obtain rfl : e = en := Option.some.inj h1
    obtain ⟨r1, r2⟩ := pairs_w ks es (by simpa using h) fun i z hz => a (i + 1) z hz
    exact ⟨.cons (by rw [h2]; exact strKind_is P w k t) rfl r1, by simp only [List.zipWith_cons_cons, List.map_cons, r2]⟩
theorem isStr_is {k : Str} {v : Value} (h : Value.isStrOf k v = true) : ∃ t, v = .str k t := by
  rw [← PySem.W.isStr_of] at h
  cases v with
  | str x t =>
    rw [isStr_str] at h
    exact ⟨t, by rw [of_decide_eq_true h]⟩
  | _ => cases h
theorem vals_str : ∀ {us : List Value} {ks : List Str}, us.length = ks.length → (∀ (j : Nat) v, us[j]? = some v → ∃ k t, ks[j]? = some k ∧ v = Value.str k t) → Vals (ks.map V.str) us
  | [], [], _, _ => .nil
  | [], _ :: _, h, _ => by simp at h
  | _ :: _, [], h, _ => by simp at h
  | u :: us, k :: ks, h, a => by
    obtain ⟨k', t, e1, e2⟩ := a 0 u rfl
    obtain rfl : k = k' := Option.some.inj e1
    exact .cons ⟨t, e2⟩ (vals_str (by simpa using h) fun j v e => a (j + 1) v e)
def rListW (K : PySem.W.Frag) (w : World) : List V → Hp → VK → Prop := fun xs H Q => ∃ (d : Addr) (kvs : List (Str × V)), xs = [.ref d] ∧ WD K w d kvs ∧ (kvs.map (·.1)).Nodup ∧ kvs.length ≤ 1000 ∧
  ∀ p, H p = none → Q (.ref p) (upd H p (.lst ((kvs.map (·.1)).map V.str)))
theorem call_listW {X : Cx} (calm : X.calm = true) : CallR X (.type "list") (rListW X.K X.w) := by
  intro pins s σ H xs us Q I r h
  obtain ⟨d, kvs, rfl, ⟨es, n, D, hz, hk⟩, nd, few, q⟩ := h
  rw [Vals.ref1 r]
  have hk' : ∀ (i : Nat) k, (kvs.map (·.1))[i]? = some k → ∃ en t, es.toList[i]? = some en ∧ en.key = .str k t := by
    intro i k e
    rw [List.getElem?_map] at e
    cases z : kvs[i]? with
    | none => rw [z] at e; cases e
    | some q =>
      rw [z] at e
      cases e
      obtain ⟨en, t, h1, h2, _⟩ := hk i q.1 q.2 z
      exact ⟨en, t, by rw [Array.getElem?_toList]; exact h1, h2⟩
  obtain ⟨p1, p2⟩ := pairs_w (P := X.prog) (w := X.w) (kvs.map (·.1)) es.toList (by rw [Array.length_toList, hz, List.length_map]) hk'
  generalize List.zipWith (fun (k : Str) (e : DictEntry) => (k, e.val)) (kvs.map (·.1)) es.toList = vs at p1 p2
  obtain ⟨o, es', n', ho, hx, hd, ko, _⟩ := PySem.W.mapOf_K (prog := X.prog) (w := X.w) I.kIn D.at_ D.lit
  have hat : s.heap.DictAt (strKind X.prog X.w) d vs n := by
    have e := I.kIn _ _ D.at_
    rw [ho] at e
    obtain rfl := Option.some.inj e
    obtain ⟨e1, e2⟩ := Data.dict.inj hd
    subst e1 e2
    exact ⟨_, _, ho, hx, rfl, ko, p1, by rw [p2]; exact nd⟩
  have hl : vs.length = kvs.length := by
    have := congrArg List.length p2
    simpa using this
  refine PySem.W.kdl_call (PySem.W.kdl_dict (knd := strKind X.prog X.w) (kvs := vs) (ep := n) D.low) (I.ok.hd calm) hat (by rw [hl]; exact szm few) fun h' tk acc c' keep hD hacc => ?_
  have hv : Vals ((kvs.map (·.1)).map V.str) acc.toList := by
    have len : acc.toList.length = (kvs.map (·.1)).length := by rw [Array.length_toList, hacc.1, hl, List.length_map]
    have at_ : ∀ (j : Nat) v, acc.toList[j]? = some v → ∃ k t, (kvs.map (·.1))[j]? = some k ∧ v = .str k t := by
      intro j v e
      obtain ⟨k, x, h1, h2⟩ := hacc.2 j v (by rw [← Array.getElem?_toList]; exact e)
      refine ⟨k, ?_⟩
      have hk1 : (kvs.map (·.1))[j]? = some k := by rw [← p2, List.getElem?_map, h1]; rfl
      obtain ⟨en, t, h3, h4⟩ := hk' j k hk1
      have h5 : ∃ t, v = .str k t := isStr_is h2
      obtain ⟨t, e⟩ := h5
      exact ⟨t, hk1, e⟩
    exact vals_str len at_
  refine ⟨.ref s.heap.objs.size, upd H s.heap.objs.size (.lst ((kvs.map (·.1)).map V.str)), I.laid (t' := tk) keep (Nat.le_refl _) (show ObjOk X.prog X.w _ _ _ (.lst ((kvs.map (·.1)).map V.str)) from
    ⟨by rw [List.length_map, List.length_map]; exact szm few, acc.toList, c', hv, by rw [Array.toArray_toList]; exact hD⟩), rfl, q _ (I.hok.fresh (Nat.le_refl _))⟩
end Gs

set_option Elab.async false
set_option linter.all false
set_option maxRecDepth 100000
set_option maxHeartbeats 4000000
/-! Layer G11: xs.extend(t), t a tuple. -/
namespace Gs
open PySem PySem.Spec PyProof.Rows L2
open AutoSeq1 in
theorem ext_tup (l : Addr) (its : Array Value) (n : Nat) (b : Addr) (jts : Array Value) (m : Nat) (dd : Option Addr) (sl : Array (Option Value))
    (door : ¬(!its.isEmpty && Builtin.List.listTooLong (its.size + jts.size)) = true) (h1 : its.size ≤ sizeLine) (h2 : its.size + jts.size ≤ sizeLine + 1) :
    Meets (Builtin.«list.extend» ⟨[.ref l, .ref b], []⟩) (fun _ R s => s.heap.get? l = some { cls := .type "list", dict := none, data := .seq its n, slots := #[] } ∧
      s.heap.get? b = some { cls := .type "tuple", dict := dd, data := .seq jts m, slots := sl } ∧ R (.ok (.ret Value.none)) { s with heap := s.heap.update l (Obj.mapSeq fun x => x ++ jts), toks := s.toks }) :=
  .of_wp fun prog w A R s h => by
    obtain ⟨hp, g, d, tk, os⟩ := s
    obtain ⟨hl, hb, h⟩ := h
    have f1 := idx_int
    have f2 := AutoSeq1.sub_tuple_tuple
    have f3 := AutoSeq1.sub_list_list
    have f4 := AutoSeq1.sub_tuple_list
    have f5 := AutoSeq1.sub_list_tuple
    have all : (its ++ jts).size ≤ sizeLine + 1 := by rw [Array.size_append]; exact h2
    wp_walk using (wpAny_updateSeq hl rfl (hz := h1) (_hz' := all)), wpAny_loadPart' hl, wpAny_loadPart' hb
    exact ⟨_, rfl, h⟩
section
variable {X : Cx}
def rExtT (K : PySem.W.Frag) : V → List V → Hp → VK → Prop := fun x vs H Q => ∃ (l b : Addr) (xs zs : List V), x = .ref l ∧ vs = [.ref b] ∧ H l = some (.lst xs) ∧ SqT K H b zs ∧ xs.length + zs.length ≤ 1000000 ∧ Q .non (upd H l (.lst (xs ++ zs)))
theorem mt_extT : MtM X "list.extend" (rExtT X.K) := by
  intro pins s σ H x vs v us Q I rx rv h
  obtain ⟨l, b, xs, zs, rfl, rfl, hH, hB, hz, q⟩ := h
  cases rx
  obtain ⟨u, rfl, ru⟩ := rv.one
  cases ru
  obtain ⟨z, its, n, r, hl, e⟩ := I.lstM hH
  obtain ⟨jts, r2, ⟨⟨oc, od, odt, os⟩, e2, c2, m, d2⟩, z2⟩ := I.tuple hB
  dsimp only at c2 d2
  subst c2 d2
  have hl2 : zs.length = jts.length := r2.length
  have big : (1000000 : Nat) ≤ sizeLine := by decide
  have hsz : its.toArray.size + jts.toArray.size ≤ sizeLine := by rw [List.size_toArray, List.size_toArray]; omega
  have door : ¬(!its.toArray.isEmpty && Builtin.List.listTooLong (its.toArray.size + jts.toArray.size)) = true := by
    rw [notLongL hsz, Bool.and_false]
    decide
  refine call_meets F.slot_list_extend ⟨_, e, rfl⟩ F.entry_list_extend (F.args_list_extend_2 _ _) (ext_tup l its.toArray n b jts.toArray m od os door (by omega) (by omega)) ⟨e, e2, ?_⟩
  refine ⟨.non, _, I.lset (its' := its ++ jts) hH e (by simp) (r.append r2) ?_, rfl, q⟩
  rw [List.length_append]
  omega
end
end Gs

set_option Elab.async false
set_option linter.all false
set_option maxRecDepth 100000
set_option maxHeartbeats 4000000
/-! Layer G12: == and != by an own __eq__ whatever it answers; str by an own __str__; a staticmethod off its class. -/
namespace Gs
open PySem PySem.Spec PyProof.Rows L2
theorem rel_ref (a : Addr) : L2.RelV (.ref a) (.ref a) := rfl
theorem rel_bl (b : Bool) : L2.RelV (.bl b) (.bool b) := rfl
theorem rel_str (z : Str) (t : Tok) : L2.RelV (.str z) (.str z t) := ⟨t, rfl⟩
theorem rel_ni {v : V} : ¬ L2.RelV v Value.notImplemented := by
  cases v <;> intro h
  · cases h
  · cases h
  · obtain ⟨_, h⟩ := h; cases h
  · obtain ⟨_, h⟩ := h; cases h
  · obtain ⟨_, h⟩ := h; cases h
  · obtain ⟨_, h⟩ := h; cases h
  · cases h
  · cases h
section
variable {X : Cx} {CX : CXT} {k : Nat} {C f : Addr} {fd : FuncData} {ps : List Str} {sp : Sp} {E : XK}
/-- a def that is called below the running body, its promise told there -/
theorem run_sub {A : Around} {pins : List (Addr × Obj)} {σ : L2.St} {H : Hp} {s : Shared} {Q : VK} {us : List Value} {vs : List V} (F : FnOk X.prog X.w X.K X.mg X.base CX k f fd ps sp)
    (hr : Room k A) (hA : A.frames = X.A.frames) (hb : Binds X.K fd ps []) (hx : Passes CX X E) (I : Inv X pins σ H s) (r : Vals vs us) (h : sp vs H Q E) :
    wpAny (model X.prog X.w) A (call (.ref f) us) (EP X pins σ Q) X.xe s := by
  have n : us.length = ps.length := r.length.symm.trans (F.len _ _ _ _ h)
  have b := hb s us I.kIn (by rw [List.append_nil]; exact n)
  rw [List.append_nil] at b
  have z := I.env0
  have z' : Env0 X.prog X.w X.K X.mg X.base A X.stack s H := ⟨by rw [hA]; exact z.frames, z.mod, z.bs, z.bsz, z.funs, z.frf, z.hok, z.bare⟩
  refine wpAny_call (codeAny_mono (F.run A X.stack s H ⟨us, []⟩ us vs Q E hr z' b r h) (fun q s' hq => ?_))
  match q, hq with
  | .error e, hq => exact hx pins σ H s e s' I hq
  | .ok (.ret u), hq => exact I.after hq
  | .ok .next, hq => exact hq.elim
  | .ok .brk, hq => exact hq.elim
  | .ok .cont, hq => exact hq.elim
/-- what an own class needs that == goes by its own def -/
structure OwnC (K : PySem.W.Frag) (C e : Addr) : Prop where
  eq : PySem.W.findIn K (.ref C) "__eq__" = some (some (.ref e))
  fe : PySem.W.isFn K (.ref e) = true
  ne : PySem.W.findIn K (.ref C) "__ne__" = some (some (.builtin "object.__ne__"))
  mo : PySem.W.mroIn K C (.type "object") = some true
/-- what an own class needs that str goes by its own def -/
structure OwnS (K : PySem.W.Frag) (C g : Addr) : Prop where
  st : PySem.W.findIn K (.ref C) "__str__" = some (some (.ref g))
  fs : PySem.W.isFn K (.ref g) = true
/-- what an own class needs that its instances are looked at by isinstance -/
structure TyC (K : PySem.W.Frag) (C : Addr) : Prop where
  cl : Cls K C
  ha : PySem.W.findIn K (.ref C) "__class__" = some (some (.builtin "object.__class__"))
  hn : PySem.W.specialIn K (.builtin "object.__class__") "__get__" = some (some (.builtin "getset_descriptor.__get__"))
  tk : PySem.W.takesIn K (.builtin "object.__class__") = some true
  mo : PySem.W.mroIn K C (.type "object") = some true
theorem TyC.ty {K : PySem.W.Frag} {C a dx : Addr} {fs : List (Str × V)} {H : Hp} (h : TyC K C) (e : H a = some (.ins C dx fs)) : TyX K H (.ref a) (.ref C) := .base (.ins e h.cl h.ha h.hn h.tk h.mo)
theorem nf_own {K : PySem.W.Frag} {C : Addr} : PySem.W.notFirst K C (.ref C) = true := by simp [PySem.W.notFirst]
def rOwn (K : PySem.W.Frag) (C : Addr) (sp : Sp) (E : XK) : R2 := fun x y H Q => ∃ (a dx : Addr) (fs : List (Str × V)) (t : Value), x = .ref a ∧ H a = some (.ins C dx fs) ∧ TyX K H y t ∧
  PySem.W.notFirst K C t = true ∧ sp [.ref a, y] H Q E
theorem op_eqOwn (O : OwnC X.K C f) (F : FnOk X.prog X.w X.K X.mg X.base CX k f fd ps sp) (hr : Room k X.A) (hb : Binds X.K fd ps []) (hx : Passes CX X E) : OpR X (compareOp .Eq) (rOwn X.K C sp E) := by
  intro pins s σ H x y v u Q I rx ry h
  obtain ⟨a, dx, fs, t, rfl, ha, ty, nf, q⟩ := h
  cases (show v = Value.ref a from rx)
  obtain ⟨_, J0, _⟩ := ins_get I.hok ha
  obtain ⟨_, J, _⟩ := J0.look
  obtain ⟨_, hF⟩ := I.fr
  obtain ⟨_, kx, hp, _⟩ := kit_of I ry ty
  refine PySem.W.cmp_K (op := .Eq) (tb := t) hr.units0 hF I.ok.mod.kin J (kx.ty _ _ I.kIn hp) nf O.eq O.fe ?_
  refine wpAny_mono (run_sub F hr rfl hb hx I (.cons (rel_ref a) (.cons ry .nil)) q) (fun z s' hz => ?_) fun _ _ e => e
  obtain ⟨v', H', I', rv, qq⟩ := hz
  cases z with
  | notImplemented => exact (rel_ni rv).elim
  | _ => exact ⟨v', H', I', rv, qq⟩
/-! the slot object.__ne__, off an own class -/
section
variable {prog : Program} {w : World} {M : Model} {A : Around} {EE : Value → Shared → Prop} {s : Shared} {K : PySem.W.Frag} {x e : Addr} {b tb : Value} {ox : Obj} {od : Option Obj}
theorem ne_entry (hu : A.units < cLine) (X : K.In s.heap) (I : PySem.W.InstAt s.heap x ox C od) (O : OwnC K C e) {Q : Fin → Shared → Prop}
    (h : wpAny (model prog w) A (call (.ref e) [.ref x, b]) (fun v s' => ∃ r, v = .bool r ∧ Q (.done (.ret (.bool (!r)))) s') EE s) :
    wpAny (model prog w) A (Builtin.«object.__ne__» ⟨[.ref x, b], []⟩) Q EE s := by
  have step : wpAny (model prog w) A (callSpecialIfBound? (.ref x) (Str.ofString "__eq__") [b]) (fun r s' => ∃ t, r = some (.bool t) ∧ Q (.done (.ret (.bool (!t)))) s') EE s :=
    PySem.W.ifBound_K X I O.eq O.fe (wpAny_mono h (fun v s' ⟨r, ev, q⟩ => ⟨r, by rw [ev], q⟩) fun _ _ z => z)
  unfold Builtin.«object.__ne__»
  repeat (first
    | with_reducible refine wpAny_cRoomFor hu ?_
    | (refine wpAny_bind (m := callSpecialIfBound? (.ref x) (Str.ofString "__eq__") [b]) (wpAny_mono step (fun r s' hr => by
        obtain ⟨t, rfl, q⟩ := hr
        repeat (first | exact q | exact wpAny_pure q | exact wpAny_truthy_bool q | (refine wpAny_bind (m := truthy (.bool _)) (wpAny_truthy_bool ?_)) | wp_step)) fun _ _ z => z))
    | wp_step)
theorem ne_bound {args : List Value} {Q : Option Value → Shared → Prop} (X : K.In s.heap) (I : PySem.W.InstAt s.heap x ox C od) (O : OwnC K C e)
    (h : wpAny M A (call (.builtin "object.__ne__") (.ref x :: args)) (fun v => Q (some v)) EE s) : wpAny M A (callSpecialIfBound? (.ref x) "__ne__" args) Q EE s := by
  have rest : wpAny M A (call (.builtin "object.__ne__") ([.ref x] ++ args) >>= fun v => pure (some v)) Q EE s := wpAny_bind (wpAny_mono h (fun _ _ z => wpAny_pure z) fun _ _ z => z)
  simp only [callSpecialIfBound?, bindSpecialIfBound?]
  refine wpAny_holding (wpAny_bind (wpAny_bind (wpAny_bind (I.type.here ((PySem.W.looks_findIn X O.ne).here ?_)))))
  refine wpAny_bind (wpAny_askSetting (wpAny_ite ?_))
  split
  · exact wpAny_bind (wpAny_of_eq (F.cmp_object.ne.bind _) (wpAny_pure (by exact rest)))
  · exact wpAny_tryCatch (wpAny_bind (wpAny_of_eq (F.cmp_object.ne.bind _) (wpAny_pure (by exact rest))))
theorem ne_rich {L : Addr} {h₀ : Heap} {m : Str → Option Value} (hu : A.units + 1 < cLine) (X : K.In s.heap) (I : PySem.W.InstAt s.heap x ox C od) (O : OwnC K C e)
    (hb : PySem.W.Looks (model prog w) s.heap (typeOf b) tb) (hn : PySem.W.notFirst K C tb = true) {Q : Value → Shared → Prop}
    (h : wpAny (model prog w) A.in1 (call (.ref e) [.ref x, b]) (fun v s' => ∃ r, v = .bool r ∧ Q (.bool (!r)) s') EE s) :
    wpAny (model prog w) A (richCompare .NotEq (.ref x) b) Q EE s := by
  have one : wpAny (model prog w) A (tryCompare (.ref x) "__ne__" b) (fun r s' => ∃ v, r = some v ∧ Q v s') EE s := by
    unfold tryCompare
    refine wpAny_bind (ne_bound X I O ?_)
    refine wpAny_call (codeAny_call_builtin F.cmp_object.ne.plain F.cmpEntry_ne (PySem.W.check_slot F.cmpKind_ne F.cmpSplit_ne (I.type.andThen (PySem.W.looks_mroIn X O.mo)) (F.cmpArgs_ne _ _) ?_))
    refine ne_entry (A := A.in1) hu X I O (wpAny_mono h (fun v s' hv => ?_) fun _ _ z => z)
    obtain ⟨r, rfl, q⟩ := hv
    exact ⟨r, rfl, wpAny_pure ⟨_, rfl, q⟩⟩
  unfold richCompare
  simp only [oneThing_ref]
  refine wpAny_holding (wpAny_bind (wpAny_cRoomFor (Nat.lt_of_succ_lt hu) ?_))
  refine wpAny_bind (I.type.here (wpAny_bind (hb.here ?_)))
  split
  · rename_i q
    have no : PySem.W.subIn K tb (.ref C) = some false := (Bool.or_eq_true_iff.mp hn).elim (fun z => absurd q (by rw [beq_iff_eq.mp z]; simp)) beq_iff_eq.mp
    refine wpAny_bind ((PySem.W.looks_subIn X no).here ?_)
    rw [if_neg Bool.false_ne_true]
    exact wpAny_bind (wpAny_mono one (fun r s' ⟨v, er, hv⟩ => by subst er; exact wpAny_pure hv) fun _ _ z => z)
  · refine wpAny_bind (wpAny_pure ?_)
    rw [if_neg Bool.false_ne_true]
    exact wpAny_bind (wpAny_mono one (fun r s' ⟨v, er, hv⟩ => by subst er; exact wpAny_pure hv) fun _ _ z => z)
end
theorem op_neOwn (O : OwnC X.K C f) (F : FnOk X.prog X.w X.K X.mg X.base CX k f fd ps sp) (hr : Room (k + 1) X.A) (hb : Binds X.K fd ps []) (hx : Passes CX X E) :
    OpR X (compareOp .NotEq) fun x y H Q => rOwn X.K C sp E x y H fun v H' => ∃ b, v = .bl b ∧ Q (.bl (!b)) H' := by
  intro pins s σ H x y v u Q I rx ry h
  obtain ⟨a, dx, fs, t, rfl, ha, ty, nf, q⟩ := h
  cases (show v = Value.ref a from rx)
  obtain ⟨_, J0, _⟩ := ins_get I.hok ha
  obtain ⟨_, J, _⟩ := J0.look
  obtain ⟨_, kx, hp, _⟩ := kit_of I ry ty
  refine ne_rich (h₀ := X.base) (L := 0) (m := X.mg) (by have := hr.units; omega) I.kIn J O (kx.ty _ _ I.kIn hp) nf ?_
  refine wpAny_mono (run_sub (A := X.A.in1) F hr.in1 rfl hb hx I (.cons (rel_ref a) (.cons ry .nil)) q) (fun z s' hz => ?_) fun _ _ e => e
  obtain ⟨v', H', I', rv, b, rfl, qq⟩ := hz
  exact ⟨b, rv, .bl (!b), H', I', rel_bl _, qq⟩
/-- str(o) -/
def rStrO (C : Addr) (sp : Sp) (E : XK) : List V → Hp → VK → Prop := fun xs H Q => ∃ (a dx : Addr) (fs : List (Str × V)), xs = [.ref a] ∧ H a = some (.ins C dx fs) ∧ sp [.ref a] H (fun v H' => ∃ z, v = .str z ∧ Q v H') E
theorem call_strO (O : OwnS X.K C f) (F : FnOk X.prog X.w X.K X.mg X.base CX k f fd ps sp) (hr : Room (k + 2) X.A) (hb : Binds X.K fd ps []) (hx : Passes CX X E) : CallR X (.type "str") (rStrO C sp E) := by
  intro pins s σ H xs us Q I r h
  obtain ⟨a, dx, fs, rfl, ha, q⟩ := h
  obtain ⟨u, rfl, ru⟩ := r.one
  cases (show u = Value.ref a from ru)
  obtain ⟨_, J0, _⟩ := ins_get I.hok ha
  obtain ⟨_, J, _⟩ := J0.look
  refine PySem.W.kso_call hr.in1.in1.units0 I.kIn J O.st O.fs ?_
  refine wpAny_mono (run_sub (A := X.A.in1.in1) F hr.in1.in1 rfl hb hx I (.cons (rel_ref a) .nil) q) (fun z s' hz => ?_) fun _ _ e => e
  obtain ⟨v', H', I', rv, y, rfl, qq⟩ := hz
  obtain ⟨t, rfl⟩ := rv
  exact ⟨.str y, H', I', rel_str y t, qq⟩
/-- what a class needs that C.m is a staticmethod around the def at g -/
structure StaC (K : PySem.W.Frag) (C : Addr) (m : Str) (g : Addr) : Prop where
  ex : ∃ (mc : Value) (p : Addr) (rest : List Value), PySem.W.readsIn K C mc = true ∧ PySem.W.specialIn K (.ref C) "__getattribute__" = some (some (.builtin "type.__getattribute__")) ∧ PySem.W.typeIn K (.ref C) = some mc ∧
    PySem.W.findCls K (.ref C) mc m = some (.get (.builtin "staticmethod.__get__") (.ref p) .none (.ref C)) ∧ PySem.W.recIn K p "staticmethod" = some (.ref g :: rest)
  kp : PySem.W.keepIn K (.ref g) = true
section
variable {pins : List (Addr × Obj)} {σ : L2.St} {H : Hp} {s : Shared} {g : Addr} {m x : Str} {p pos apos : Pos} {e : Expr} {es : List Expr} {kws : List Keyword} {t tk : TA} {pl : Sem Bool} {ks : List Str}
  {gg : List Value → List Value → List Value} {gV : List V → List V → List V}
theorem get_sta {A : Around} {EE : Value → Shared → Prop} {Q : Value × List Value → Shared → Prop} (I : Inv X pins σ H s) (Z : StaC X.K C m g) (h : ∀ s', Inv X pins σ H s' → Q (.ref g, []) s') :
    wpAny (model X.prog X.w) A (getMethod (.ref C) m pl) Q EE s := by
  obtain ⟨mc, p, rest, r1, r2, r3, r4, r5⟩ := Z.ex
  obtain ⟨_, hF⟩ := I.fr
  exact PySem.W.method_of_cls hF I.ok.mod.kin r2 (PySem.W.cls_sm hF I.ok.mod.kin r3 r1 r4 r5 rfl (h _ (I.tok _)))
/-- C.m(e, ..) -/
theorem pe_sta (Z : StaC X.K C m f) (F : FnOk X.prog X.w X.K X.mg X.base CX k f fd ps sp) (hr : Room k X.A) (hg : Gl X x) (hm : X.mg x = some (.ref C)) (hb : Binds X.K fd ps []) (hx : Passes CX X E) (ha : PA X (e :: es) t)
    (hdb : (x == ("__debug__" : Str)) = false := by decide) (he : starEach (e :: es) X.env = (false, eval e X.env) :: starEach es X.env := by rfl)
    (hpl : ((backTo pos (starEach (e :: es) X.env)).any (·.1) || (backToKw pos (keywordEach [] X.env)).any (·.1.isNone)) = false := by rfl)
    (hpl2 : (backTo pos (starEach es X.env)).any (·.1) = false := by rfl)
    (ht : eval (.Call (.Attribute (.Name x p) m apos) (e :: es) [] pos) X.env = (do
      let ov ← eval (.Name x p) X.env
      standAt apos.atName
      let (f, first) ← holding [ov] (getMethod ov m pl)
      callWith pos f first (backTo pos (starEach (e :: es) X.env)) (backToKw pos (keywordEach [] X.env))) := by rfl) :
    PE X (.Call (.Attribute (.Name x p) m apos) (e :: es) [] pos) (tCall sp [] E t) := by
  refine ⟨fun pins s σ H Q I h => ?_⟩
  refine PySem.W.methodCall_KW (pl := pl) (ld_glob I hg hm ?_ hdb) ht
  refine get_sta I Z fun s0 I0 => ?_
  refine PySem.W.callWith_K (h₀ := X.base) I.ok.mod.kin Z.kp (thn (ha.run pos pins s0 σ H _ I0 h) fun us s1 ⟨vs, H1, I1, r, q⟩ => ⟨I1.kIn, ?_⟩) he hpl2
  exact run_fn F hr hb .nil hx I1 r q
/-- C.m(k = v, ..) -/
theorem pe_staK (Z : StaC X.K C m f) (F : FnOk X.prog X.w X.K X.mg X.base CX k f fd ps sp) (hr : Room k X.A) (hg : Gl X x) (hm : X.mg x = some (.ref C)) (hb : KBn X.K fd ps 0 ks gg gV) (hx : Passes CX X E) (hkw : PK X kws tk)
    (hall : (backToKw pos (keywordEach kws X.env)).all (·.1.isSome) = true := by rfl) (hks : (backToKw pos (keywordEach kws X.env)).filterMap (·.1) = ks := by rfl) (hdb : (x == ("__debug__" : Str)) = false := by decide)
    (hpl : ((backTo pos (starEach [] X.env)).any (·.1) || (backToKw pos (keywordEach kws X.env)).any (·.1.isNone)) = false := by rfl)
    (ht : eval (.Call (.Attribute (.Name x p) m apos) [] kws pos) X.env = (do
      let ov ← eval (.Name x p) X.env
      standAt apos.atName
      let (f, first) ← holding [ov] (getMethod ov m pl)
      callWith pos f first (backTo pos (starEach [] X.env)) (backToKw pos (keywordEach kws X.env))) := by rfl) :
    PE X (.Call (.Attribute (.Name x p) m apos) [] kws pos) (tCallN 0 ks.length sp gV E tNil tk) := by
  refine ⟨fun pins s σ H Q I h => ?_⟩
  refine PySem.W.methodCall_KW (pl := pl) (ld_glob I hg hm ?_ hdb) ht
  refine get_sta I Z fun s0 I0 => ?_
  refine PySem.W.callWith_KW0 (h₀ := X.base) I.ok.mod.kin Z.kp hall ?_ hpl
  refine thn (hkw.run pos pins s0 σ H _ I0 h) fun ws s2 ⟨zs, H2, I2, rz, l1, l2, q2⟩ => ⟨I2.kIn, ?_⟩
  rw [hks]
  exact run_fnN (us := []) (vs := []) F hr hb hx I2 .nil rz rfl l2 q2
end
end
end Gs

set_option Elab.async false
set_option linter.all false
set_option maxRecDepth 100000
set_option maxHeartbeats 4000000
/-! Layer G13: several except clauses, some with a name; a written dict with one tuple as its key. -/
namespace Gs
open PySem PySem.Spec PyProof.Rows L2
/-- a way of catching: from what is wished behind, what is wished of an exception -/
abbrev Catch := Ends → WX → WX
/-- what one clause wishes: nm: the slot of its name, if it has one -/
def oneC (n : Nat) (K : PySem.W.Frag) (c : Value) (nm : Option Nat) (ts : Addr → Value → Option Addr → TS) (rest : Catch) : Catch := fun D W cls d σ H => ∃ b, PySem.W.exmOne K cls c = some b ∧
  (b = true → σ.length = n → ∀ a, H a = none → match nm with
    | none => ts a cls d D σ H
    | some i => ts a cls d { nx := fun σ' H' => D.nx (σ'.set i none) H', rt := D.rt, bk := fun σ' H' => D.bk (σ'.set i none) H', ct := fun σ' H' => D.ct (σ'.set i none) H' } (σ.set i (some (.ref a))) H) ∧
  (b = false → rest D W cls d σ H)
/-- the clauses and what they wish -/
inductive Cls5 (X : Cx) : List ExceptHandler → Catch → Prop
  | done : Cls5 X [] (fun _ W => W)
  | bare {x : Str} {c : Value} {ts : Addr → Value → Option Addr → TS} {b₀ : Stmt} {su : List Stmt} {q q' : Pos} {more : List ExceptHandler} {rest : Catch} (nc : Names X x c)
      (body : ∀ (a : Addr) (ob : Obj) (cls : Value) (d : Option Addr) (pn : List (Addr × Obj)), Zc cls d ob → (∃ vs, ob.data = .fields vs) → PSs (X.suite a ((a, ob) :: pn)) (b₀ :: su) (ts a cls d)) (r : Cls5 X more rest) :
      Cls5 X (.ExceptHandler (some (.Name x q)) none (b₀ :: su) q' :: more) (oneC X.N.length X.K c none ts rest)
  | as {x n : Str} {i : Nat} {c : Value} {ts : Addr → Value → Option Addr → TS} {b₀ : Stmt} {su : List Stmt} {q q' : Pos} {more : List ExceptHandler} {rest : Catch} (nc : Names X x c) (hN : X.N.Nodup) (hi : X.N[i]? = some n) (ln : X.env.kindOf n = some .local)
      (body : ∀ (a : Addr) (ob : Obj) (cls : Value) (d : Option Addr) (pn : List (Addr × Obj)), Zc cls d ob → (∃ vs, ob.data = .fields vs) → PSs (X.suite a ((a, ob) :: pn)) (b₀ :: su) (ts a cls d)) (r : Cls5 X more rest) :
      Cls5 X (.ExceptHandler (some (.Name x q)) (some n) (b₀ :: su) q' :: more) (oneC X.N.length X.K c (some i) ts rest)
section
variable {X : Cx} {pins : List (Addr × Obj)} {σ : L2.St} {H : Hp} {D : Ends}
/-- the end of a suite: back in the def's own context -/
theorem suite_back {a : Addr} {q : Addr × Obj} {f : Flow} {s : Shared} (ok : X.Ok) (h : SP (X.suite a (q :: (X.pn ++ pins))) [] D f s) : SP X pins D f s := by
  cases f with
  | next => obtain ⟨σ', H', S, z⟩ := h; exact ⟨σ', H', S.unsuite ok, z⟩
  | brk => obtain ⟨σ', H', S, z⟩ := h; exact ⟨σ', H', S.unsuite ok, z⟩
  | cont => obtain ⟨σ', H', S, z⟩ := h; exact ⟨σ', H', S.unsuite ok, z⟩
  | ret u => obtain ⟨v, σ', H', S, rv, z⟩ := h; exact ⟨v, σ', H', S.unsuite ok, rv, z⟩
/-- try: body, except .. as ..: .., several -/
theorem ps_try5 {body : List Stmt} {h₀ : ExceptHandler} {hds : List ExceptHandler} {pos : Pos} {tb : WX → TS} {W₀ : WX} {C : Catch} (hs : X.stack = X.env :: X.outer) (hf : X.env.frame = some X.env.locals) (tk : Takes X W₀)
    (hb : ∀ (W : WX) (pn : List (Addr × Obj)) (xe : Value → Shared → Prop), Takes (X.tr pn xe) W → PassesOwn (model X.prog X.w) X.A X.env xe → PSs (X.tr pn xe) body (tb W))
    (hc : Cls5 X (h₀ :: hds) C) : PS X (.Try body (h₀ :: hds) [] [] pos) (fun D σ H => tb (C D W₀) D σ H) := by
  refine ⟨fun pins s σ H D I h => ?_⟩
  have ok := I.ok
  have frm : X.A.frames = some (X.env :: X.outer) := by rw [ok.frames, hs]
  refine wpAny_Try_except (wpAny_mono ((hb (C D W₀) (X.pn ++ pins) (fun e s₁ => wpAny (model X.prog X.w) X.A (noteFrame e X.env) (fun _ s₂ => wpAny (model X.prog X.w) X.A (setFlight e none)
    (fun _ s₃ => wpAny (model X.prog X.w) X.A (handleBy e X.env (h₀ :: hds)) (SP X pins D) X.xe s₃) X.xe s₂) X.xe s₁) (fun u s₁ caught => ?_) PassesOwn.looking).run [] s σ H D (I.toTry _) h) (fun f s₁ hsp => ?_) (fun _ _ z => z))
  rotate_left
  · cases f with
    | next => obtain ⟨σ', H', J, z⟩ := hsp; exact wpAny_execs_nil ⟨σ', H', J.ofTry ok, z⟩
    | brk => obtain ⟨σ', H', J, z⟩ := hsp; exact ⟨σ', H', J.ofTry ok, z⟩
    | cont => obtain ⟨σ', H', J, z⟩ := hsp; exact ⟨σ', H', J.ofTry ok, z⟩
    | ret u => obtain ⟨v, σ', H', J, rv, z⟩ := hsp; exact ⟨v, σ', H', J.ofTry ok, rv, z⟩
  obtain ⟨a, B, sI, pins', σ', H', cls, d, rfl, J', nb, up, sky, na, os, ag, wish⟩ := caught
  have J : Inv X pins σ' H' sI := J'.ofTry ok
  have sky : Sky B (X.env :: X.outer) a (Zc cls d) X.env.locals s₁.heap := by rw [← hs]; exact sky
  show wpAny (model X.prog X.w) X.A (noteFrame (.ref a) X.env) _ _ _
  refine Sky.land Zc.steady frm hf sky fun h₃ fl up₃ => ?_
  have up₃ := up.trans up₃
  obtain ⟨ob, vs, hob, hz, hd⟩ := fl.there
  have apart : ∀ {g : Heap} {o : Obj} {us : Array Value}, g.FunFrames B (X.env :: X.outer) → g.get? a = some o → o.data = .fields us → a ∉ frs (X.env :: X.outer) := by
    intro g o us ff e de hm
    obtain ⟨_, o', e', no⟩ := ff.mem hm
    rw [e] at e'
    cases e'
    exact no _ de
  have nfr := apart fl.2.2.1 hob hd
  have nL : a ≠ X.env.locals := fun z => nfr (List.mem_filterMap.mpr ⟨X.env, List.mem_cons_self, by rw [hf, z]⟩)
  have nF : a ∉ X.fs := fun hm => by
    obtain ⟨e, he, z⟩ := List.mem_filterMap.mp hm
    exact nfr (List.mem_filterMap.mpr ⟨e, List.mem_cons_of_mem _ he, z⟩)
  have J₃ : Inv X pins σ' H' { s₁ with heap := h₃ } := J.landed nb fl.1 up₃ os ag
  have S₃ := J₃.suite hob hd na nL nF
  have looks : PySem.W.Looks (model X.prog X.w) h₃ (typeOf (.ref a)) cls := fun A Q E s k z => wpAny_typeOf_ref (k _ _ hob) (by rw [hz.1]; exact z)
  -- the class that a clause names
  have named : ∀ {x : Str} {c : Value} {q : Pos} {Q : Value → Shared → Prop} {E : Value → Shared → Prop}, Names X x c → Q c { s₁ with heap := h₃ } →
      wpAny (model X.prog X.w) (X.A.mark (some (.ref a))) (eval (.Name x q) X.env) Q E { s₁ with heap := h₃ } := by
    intro x c q Q E nc hq
    obtain ⟨hg, dbg, m | ⟨m, boot, nn⟩⟩ := nc
    · exact ld_glob (X := X.suite a ((a, ob) :: (X.pn ++ pins))) S₃ hg m hq dbg
    · exact ld_blt (X := X.suite a ((a, ob) :: (X.pn ++ pins))) S₃ hg m boot hq nn dbg
  have all : ∀ {hds' : List ExceptHandler} {C' : Catch}, Cls5 X hds' C' → C' D W₀ cls d σ' H' →
      wpAny (model X.prog X.w) X.A (handleBy (.ref a) X.env hds') (SP X pins D) X.xe { s₁ with heap := h₃ } := by
    intro hds' C' hc'
    induction hc' with
    | done =>
      intro wish
      refine wpAny_handleBy_nil ?_
      obtain ⟨_, _, _, oe, us, T, oT, ts', he, _, hde, h1, _⟩ := id fl
      unfold PySem.passOn
      refine wpAny_bind (wpAny_field he hde h1 ?_)
      rw [if_neg (by simp)]
      have fin : wpAny (model X.prog X.w) X.A (setFlight (.ref a) X.env.frame) (fun _ s₄ => wpAny (model X.prog X.w) X.A (throw (.ref a) : Sem Flow) (SP X pins D) X.xe s₄) X.xe { s₁ with heap := h₃ } := by
        rw [hf]
        refine HandSPX.setFlight_upZ fl fun h₄ sk up₄ => wpAny_throw (tk _ _ ?_)
        exact ⟨a, B, sI, pins, σ', H', cls, d, rfl, J, nb, up₃.trans up₄, .inr (.inr (by rw [hs]; exact sk)), na, os, ag, wish⟩
      first
        | exact wpAny_bind (wpAny_pure (wpAny_bind fin))
        | exact wpAny_bind fin
    | bare nc body r ih =>
      intro wish
      obtain ⟨b, hb1, yes, no⟩ := wish
      refine wpAny_handleBy_cons (codeAny_handlers_test ?_) (by intro z; cases z)
      refine named nc ((PySem.W.exm_one (M := model X.prog X.w) J₃.kIn looks hb1).here ?_)
      cases b with
      | false => exact ih (no rfl)
      | true =>
        refine codeAny_handlers_suite ?_
        refine HandSPX.lands_againZ fl fun h₄ fl₄ up₄ => ?_
        obtain ⟨ob4, us4, e4, z4, d4⟩ := fl₄.there
        have J₄ : Inv X pins σ' H' { s₁ with heap := h₄ } := J.landed nb fl₄.1 (up₃.trans up₄) os ag
        have S₄ := J₄.suite e4 d4 na nL nF
        exact wpAny_mono ((body a ob4 cls d (X.pn ++ pins) z4 ⟨_, d4⟩).run [] _ _ H' _ S₄ (yes rfl J.len a na)) (fun f s6 hsp => suite_back ok hsp) (fun _ _ z => z.elim)
    | as nc hN hi ln body r ih =>
      rename_i x n i c ts b₀ su q q' more rest
      intro wish
      obtain ⟨b, hb1, yes, no⟩ := wish
      refine wpAny_handleBy_cons (codeAny_handlers_test ?_) (by intro z; cases z)
      refine named nc ((PySem.W.exm_one (M := model X.prog X.w) J₃.kIn looks hb1).here ?_)
      cases b with
      | false => exact ih (no rfl)
      | true =>
        refine codeAny_handlers_suite_as ?_
        refine HandSPX.lands_againZ fl fun h₄ fl₄ up₄ => ?_
        obtain ⟨ob4, us4, e4, z4, d4⟩ := fl₄.there
        have J₄ : Inv X pins σ' H' { s₁ with heap := h₄ } := J.landed nb fl₄.1 (up₃.trans up₄) os ag
        have S₄ := J₄.suite e4 d4 na nL nF
        have gone : ∀ {σ6 : L2.St} {H6 : Hp} {s6 : Shared} {Q : Shared → Prop}, Inv X pins σ6 H6 s6 → (∀ s7, Inv X pins (σ6.set i none) H6 s7 → Q s7) →
            wpAny (model X.prog X.w) X.A (do bindName X.env n .none; unbindBehindTheSuite X.env n q') (fun _ s7 => Q s7) X.xe s6 := fun S6 hq => gone_ok S6 hN hi ln hq
        refine store_ok (X := X.suite a ((a, ob4) :: (X.pn ++ pins))) (v := .ref a) S₄ hN hi (.inl ln) rfl (fun s5 S5 => ?_) (.inr ln)
        refine wpAny_mono ((body a ob4 cls d (X.pn ++ pins) z4 ⟨_, d4⟩).run [] s5 _ H' _ S5 (yes rfl J.len a na)) (fun f s6 hsp => ?_) (fun _ _ z => z.elim)
        cases f with
        | next => obtain ⟨σ6, H6, S6, z⟩ := hsp; exact gone (S6.unsuite ok) fun s7 J7 => ⟨_, _, J7, z⟩
        | brk => obtain ⟨σ6, H6, S6, z⟩ := hsp; exact gone (S6.unsuite ok) fun s7 J7 => ⟨_, _, J7, z⟩
        | cont => obtain ⟨σ6, H6, S6, z⟩ := hsp; exact gone (S6.unsuite ok) fun s7 J7 => ⟨_, _, J7, z⟩
        | ret u => obtain ⟨v, σ6, H6, S6, rv, z⟩ := hsp; exact gone (S6.unsuite ok) fun s7 J7 => ⟨_, _, _, J7, rv, z⟩
  exact all hc wish
end
/-! ### {(a, b): v} -/
def tDispT (tk tv : TE) : TE := fun σ H Q => ∀ p, H p = none → tk σ (upd H p (.dT [])) fun x H1 => tv σ H1 fun y H2 => ∃ (b : Addr) (k : List Key), x = .ref b ∧ H2 b = some (.tup (k.map kV)) ∧ H2 p = some (.dT []) ∧ Q (.ref p) (upd H2 p (.dT [(k, y)]))
theorem pe_dispT {X : Cx} {pos : Pos} {k v : Expr} {tk tv : TE} (hu : X.A.units + 1 < cLine) (hk : PE X k tk) (hv : PE X v tv) : PE X (.Dict [some k] [v] pos) (tDispT tk tv) := by
  refine ⟨fun pins s σ H Q I h => ?_⟩
  have free := I.hok.fresh (Nat.le_refl s.heap.objs.size)
  have I1 := I.laid (a := s.heap.objs.size) (o := .dT []) (h' := s.heap.push { cls := .type "dict", data := .dict #[] }) (t' := s.toks) (fun _ _ z => Heap.get?_push_of_some _ z) (Nat.le_refl _) (dt_empty s.heap I.big)
  have n1 := pairTrees_length [some k] [v] X.env pos rfl rfl
  have n1 : (pairTrees [some k] [v] X.env pos).length = 1 := n1
  rw [arm_eval_Dict, zip_pairTrees [some k] [v] X.env pos rfl rfl, dictDisplay_pairs _ (fun z => by rw [z] at n1; cases n1) (by rw [n1]; decide)]
  refine wpAny_bind (wpAny_standAt (wpAny_bind (wpAny_subDictH (knd := tupleKind (mixKind X.prog X.w)) (Q := fun d s' => wpAny (model X.prog X.w) X.A (pure (Value.ref d)) (EP X pins σ Q) X.xe s') (Nat.lt_of_succ_lt hu) (by rw [n1]; decide) ?_)))
  refine pairTrees_cons_walk (thn (hk.run pins _ σ _ _ I1 (h _ free)) fun u s1 ⟨x, H1, J1, rx, q1⟩ => thn (hv.run pins s1 σ H1 _ J1 q1) fun r s2 ⟨y, H2, J2, ry, b, ks, ex, hb, hp, q⟩ => pairTrees_nil_walk ?_)
  subst ex
  cases (show u = Value.ref b from rx)
  obtain ⟨_, hd, xs, rel, dd⟩ := dt_of J2.hok hp
  cases rel
  have is := key_of J2.hok hb
  refine ⟨[(ks, b, r)], ⟨rfl, rfl, is, True.intro⟩, dd, fun h' tk' ⟨ob, es, ep, g1, g2, g3, g4, g5, g6⟩ sb => wpAny_pure ⟨.ref s.heap.objs.size, _, ?_, rel_ref _, q⟩⟩
  have nb : b ≠ s.heap.objs.size := ne_of hb hp (fun z => nomatch z)
  refine d_write J2 (by rw [hp]; exact True.intro) sb ⟨ob, g1⟩ ⟨Nat.le_trans (show 1 ≤ 1000 by decide) (by decide), hd, [(ks, b, r)], .cons ⟨rfl, ?_, ry⟩ .nil, ob, es, ep, g1, g2, g3, g4, g6⟩
  rw [upd_ne nb]
  exact hb
end Gs

set_option Elab.async false
set_option linter.all false
set_option maxRecDepth 100000
set_option maxHeartbeats 4000000
namespace Kd
open PySem PySem.Spec PyProof.Rows L2 Gs
theorem szM {n : Nat} (h : n ≤ 1000000) : n ≤ sizeLine := Nat.le_trans h (by decide)
theorem szK {n : Nat} (h : n < 1000001) : n < sizeLine := Nat.lt_of_lt_of_le h (by decide)
def top (i : Nat) : Stmt := PySem.Challenge.pw_gapsame_k04_texts_of_kinds_bent.main.body.getD i (.Pass ⟨0, 0, 0, 0⟩)
abbrev s_is_integer : Stmt := top 5
abbrev n_is_integer : List Str := ["value"]
theorem sc_is_integer : FnScope n_is_integer ["value"] (defScope s_is_integer) := ⟨rfl, rfl, rfl, by decide +kernel, rfl, by decide +kernel, by decide +kernel⟩
abbrev s_is_within : Stmt := top 6
abbrev n_is_within : List Str := ["value", "least", "most"]
theorem sc_is_within : FnScope n_is_within ["value", "least", "most"] (defScope s_is_within) := ⟨rfl, rfl, rfl, by decide +kernel, rfl, by decide +kernel, by decide +kernel⟩
abbrev s_is_list : Stmt := top 7
abbrev n_is_list : List Str := ["value"]
theorem sc_is_list : FnScope n_is_list ["value"] (defScope s_is_list) := ⟨rfl, rfl, rfl, by decide +kernel, rfl, by decide +kernel, by decide +kernel⟩
abbrev s_is_name : Stmt := top 8
abbrev n_is_name : List Str := ["value", "sign"]
theorem sc_is_name : FnScope n_is_name ["value"] (defScope s_is_name) := ⟨rfl, rfl, rfl, by decide +kernel, rfl, by decide +kernel, by decide +kernel⟩
abbrev s_BadKind___init__ : Stmt := inClass (top 11) 0
abbrev n_BadKind___init__ : List Str := ["self", "part"]
theorem sc_BadKind___init__ : FnScope n_BadKind___init__ ["self", "part"] (defScope s_BadKind___init__) := ⟨rfl, rfl, rfl, by decide +kernel, rfl, by decide +kernel, by decide +kernel⟩
abbrev s_Misfit___init__ : Stmt := inClass (top 12) 0
abbrev n_Misfit___init__ : List Str := ["self", "part"]
theorem sc_Misfit___init__ : FnScope n_Misfit___init__ ["self", "part"] (defScope s_Misfit___init__) := ⟨rfl, rfl, rfl, by decide +kernel, rfl, by decide +kernel, by decide +kernel⟩
abbrev s_BadText___init__ : Stmt := inClass (top 13) 0
abbrev n_BadText___init__ : List Str := ["self", "line", "item"]
theorem sc_BadText___init__ : FnScope n_BadText___init__ ["self", "line", "item"] (defScope s_BadText___init__) := ⟨rfl, rfl, rfl, by decide +kernel, rfl, by decide +kernel, by decide +kernel⟩
abbrev s_integer_of : Stmt := top 17
abbrev n_integer_of : List Str := ["item", "digits", "sign"]
theorem sc_integer_of : FnScope n_integer_of ["item"] (defScope s_integer_of) := ⟨rfl, rfl, rfl, by decide +kernel, rfl, by decide +kernel, by decide +kernel⟩
abbrev s_lines_of : Stmt := top 18
abbrev n_lines_of : List Str := ["text", "number", "row"]
theorem sc_lines_of : FnScope n_lines_of ["text"] (defScope s_lines_of) := ⟨rfl, rfl, rfl, by decide +kernel, rfl, by decide +kernel, by decide +kernel⟩
abbrev s_Line___init__ : Stmt := inClass (top 19) 0
abbrev n_Line___init__ : List Str := ["self", "number", "row"]
theorem sc_Line___init__ : FnScope n_Line___init__ ["self", "number", "row"] (defScope s_Line___init__) := ⟨rfl, rfl, rfl, by decide +kernel, rfl, by decide +kernel, by decide +kernel⟩
abbrev s_Line_is_left : Stmt := inClass (top 19) 1
abbrev n_Line_is_left : List Str := ["self"]
theorem sc_Line_is_left : FnScope n_Line_is_left ["self"] (defScope s_Line_is_left) := ⟨rfl, rfl, rfl, by decide +kernel, rfl, by decide +kernel, by decide +kernel⟩
abbrev s_Line_seen : Stmt := inClass (top 19) 2
abbrev n_Line_seen : List Str := ["self"]
theorem sc_Line_seen : FnScope n_Line_seen ["self"] (defScope s_Line_seen) := ⟨rfl, rfl, rfl, by decide +kernel, rfl, by decide +kernel, by decide +kernel⟩
abbrev s_Line_integer : Stmt := inClass (top 19) 3
abbrev n_Line_integer : List Str := ["self"]
theorem sc_Line_integer : FnScope n_Line_integer ["self"] (defScope s_Line_integer) := ⟨rfl, rfl, rfl, by decide +kernel, rfl, by decide +kernel, by decide +kernel⟩
abbrev s_Line_take : Stmt := inClass (top 19) 4
abbrev n_Line_take : List Str := ["self"]
theorem sc_Line_take : FnScope n_Line_take ["self"] (defScope s_Line_take) := ⟨rfl, rfl, rfl, by decide +kernel, rfl, by decide +kernel, by decide +kernel⟩
abbrev s_Line_skip : Stmt := inClass (top 19) 5
abbrev n_Line_skip : List Str := ["self", "word"]
theorem sc_Line_skip : FnScope n_Line_skip ["self", "word"] (defScope s_Line_skip) := ⟨rfl, rfl, rfl, by decide +kernel, rfl, by decide +kernel, by decide +kernel⟩
abbrev s_Line_refuse : Stmt := inClass (top 19) 6
abbrev n_Line_refuse : List Str := ["self"]
theorem sc_Line_refuse : FnScope n_Line_refuse ["self"] (defScope s_Line_refuse) := ⟨rfl, rfl, rfl, by decide +kernel, rfl, by decide +kernel, by decide +kernel⟩
abbrev s_Kind___init__ : Stmt := inClass (top 23) 0
abbrev n_Kind___init__ : List Str := ["self", "name", "leaps", "rides", "is_lord", "leap", "ride"]
theorem sc_Kind___init__ : FnScope n_Kind___init__ ["self", "name", "leaps", "rides", "is_lord"] (defScope s_Kind___init__) := ⟨rfl, rfl, rfl, by decide +kernel, rfl, by decide +kernel, by decide +kernel⟩
abbrev s_Kind___eq__ : Stmt := inClass (top 23) 1
abbrev n_Kind___eq__ : List Str := ["self", "other"]
theorem sc_Kind___eq__ : FnScope n_Kind___eq__ ["self", "other"] (defScope s_Kind___eq__) := ⟨rfl, rfl, rfl, by decide +kernel, rfl, by decide +kernel, by decide +kernel⟩
abbrev s_Kind___str__ : Stmt := inClass (top 23) 2
abbrev n_Kind___str__ : List Str := ["self", "words", "across", "up"]
theorem sc_Kind___str__ : FnScope n_Kind___str__ ["self"] (defScope s_Kind___str__) := ⟨rfl, rfl, rfl, by decide +kernel, rfl, by decide +kernel, by decide +kernel⟩
abbrev s_Kind_read : Stmt := inClass (top 23) 3
abbrev n_Kind_read : List Str := ["text", "lines", "kind"]
theorem sc_Kind_read : FnScope n_Kind_read ["text"] (defScope s_Kind_read) := ⟨rfl, rfl, rfl, by decide +kernel, rfl, by decide +kernel, by decide +kernel⟩
abbrev s_are_leaps : Stmt := top 24
abbrev n_are_leaps : List Str := ["value", "leap"]
theorem sc_are_leaps : FnScope n_are_leaps ["value"] (defScope s_are_leaps) := ⟨rfl, rfl, rfl, by decide +kernel, rfl, by decide +kernel, by decide +kernel⟩
abbrev s_is_leap : Stmt := top 25
abbrev n_is_leap : List Str := ["value", "across", "up"]
theorem sc_is_leap : FnScope n_is_leap ["value"] (defScope s_is_leap) := ⟨rfl, rfl, rfl, by decide +kernel, rfl, by decide +kernel, by decide +kernel⟩
abbrev s_is_leap_part : Stmt := top 26
abbrev n_is_leap_part : List Str := ["value"]
theorem sc_is_leap_part : FnScope n_is_leap_part ["value"] (defScope s_is_leap_part) := ⟨rfl, rfl, rfl, by decide +kernel, rfl, by decide +kernel, by decide +kernel⟩
abbrev s_are_rides : Stmt := top 27
abbrev n_are_rides : List Str := ["value", "ride"]
theorem sc_are_rides : FnScope n_are_rides ["value"] (defScope s_are_rides) := ⟨rfl, rfl, rfl, by decide +kernel, rfl, by decide +kernel, by decide +kernel⟩
abbrev s_is_ride : Stmt := top 28
abbrev n_is_ride : List Str := ["value"]
theorem sc_is_ride : FnScope n_is_ride ["value"] (defScope s_is_ride) := ⟨rfl, rfl, rfl, by decide +kernel, rfl, by decide +kernel, by decide +kernel⟩
abbrev s_read_kind : Stmt := top 29
abbrev n_read_kind : List Str := ["line", "name", "is_lord", "leaps", "rides"]
theorem sc_read_kind : FnScope n_read_kind ["line"] (defScope s_read_kind) := ⟨rfl, rfl, rfl, by decide +kernel, rfl, by decide +kernel, by decide +kernel⟩
abbrev s_read_leaps : Stmt := top 30
abbrev n_read_leaps : List Str := ["line", "lowest", "leaps"]
theorem sc_read_leaps : FnScope n_read_leaps ["line"] (defScope s_read_leaps) := ⟨rfl, rfl, rfl, by decide +kernel, rfl, by decide +kernel, by decide +kernel⟩
abbrev s_read_leap : Stmt := top 31
abbrev n_read_leap : List Str := ["line", "last", "across", "leap"]
theorem sc_read_leap : FnScope n_read_leap ["line", "last"] (defScope s_read_leap) := ⟨rfl, rfl, rfl, by decide +kernel, rfl, by decide +kernel, by decide +kernel⟩
abbrev s_read_rides : Stmt := top 32
abbrev n_read_rides : List Str := ["line", "later", "rides"]
theorem sc_read_rides : FnScope n_read_rides ["line"] (defScope s_read_rides) := ⟨rfl, rfl, rfl, by decide +kernel, rfl, by decide +kernel, by decide +kernel⟩
abbrev s__law_scroll : Stmt := top 34
abbrev n__law_scroll : List Str := ["script", "cell"]
theorem sc__law_scroll : FnScope n__law_scroll ["script"] (defScope s__law_scroll) := ⟨rfl, rfl, rfl, by decide +kernel, rfl, by decide +kernel, by decide +kernel⟩
abbrev s__law_unroll : Stmt := top 35
abbrev n__law_unroll : List Str := ["scroll", "many", "rest", "at", "cell", "mixed"]
theorem sc__law_unroll : FnScope n__law_unroll ["scroll", "many"] (defScope s__law_unroll) := ⟨rfl, rfl, rfl, by decide +kernel, rfl, by decide +kernel, by decide +kernel⟩
abbrev s__law_one : Stmt := top 36
abbrev n__law_one : List Str := ["scroll", "some"]
theorem sc__law_one : FnScope n__law_one ["scroll", "some"] (defScope s__law_one) := ⟨rfl, rfl, rfl, by decide +kernel, rfl, by decide +kernel, by decide +kernel⟩
abbrev s__law_stirred : Stmt := top 37
abbrev n__law_stirred : List Str := ["scroll", "some", "left", "found"]
theorem sc__law_stirred : FnScope n__law_stirred ["scroll", "some"] (defScope s__law_stirred) := ⟨rfl, rfl, rfl, by decide +kernel, rfl, by decide +kernel, by decide +kernel⟩
abbrev s__law_kind : Stmt := top 38
abbrev n__law_kind : List Str := ["scroll", "name", "is_lord", "rides", "leaps", "turn", "leap", "word"]
theorem sc__law_kind : FnScope n__law_kind ["scroll", "name"] (defScope s__law_kind) := ⟨rfl, rfl, rfl, by decide +kernel, rfl, by decide +kernel, by decide +kernel⟩
abbrev s__law_name : Stmt := top 39
abbrev n__law_name : List Str := ["scroll", "letters", "name", "at"]
theorem sc__law_name : FnScope n__law_name ["scroll"] (defScope s__law_name) := ⟨rfl, rfl, rfl, by decide +kernel, rfl, by decide +kernel, by decide +kernel⟩
abbrev s__law_text : Stmt := top 40
abbrev n__law_text : List Str := ["name", "leaps", "rides", "is_lord", "items", "across", "up", "word"]
theorem sc__law_text : FnScope n__law_text ["name", "leaps", "rides", "is_lord"] (defScope s__law_text) := ⟨rfl, rfl, rfl, by decide +kernel, rfl, by decide +kernel, by decide +kernel⟩
abbrev s__law_number : Stmt := top 41
abbrev n__law_number : List Str := ["item", "figures", "sign"]
theorem sc__law_number : FnScope n__law_number ["item"] (defScope s__law_number) := ⟨rfl, rfl, rfl, by decide +kernel, rfl, by decide +kernel, by decide +kernel⟩
abbrev s__law_is_name : Stmt := top 42
abbrev n__law_is_name : List Str := ["item", "sign"]
theorem sc__law_is_name : FnScope n__law_is_name ["item"] (defScope s__law_is_name) := ⟨rfl, rfl, rfl, by decide +kernel, rfl, by decide +kernel, by decide +kernel⟩
abbrev s__law_leaps_stop : Stmt := top 43
abbrev n__law_leaps_stop : List Str := ["items", "at", "last", "numbers", "item", "spot", "number"]
theorem sc__law_leaps_stop : FnScope n__law_leaps_stop ["items", "at"] (defScope s__law_leaps_stop) := ⟨rfl, rfl, rfl, by decide +kernel, rfl, by decide +kernel, by decide +kernel⟩
abbrev s__law_stop : Stmt := top 44
abbrev n__law_stop : List Str := ["items", "is_lord", "at", "has_leaps", "is_bad", "words"]
theorem sc__law_stop : FnScope n__law_stop ["items"] (defScope s__law_stop) := ⟨rfl, rfl, rfl, by decide +kernel, rfl, by decide +kernel, by decide +kernel⟩
abbrev s__law_bent : Stmt := top 45
abbrev n__law_bent : List Str := ["scroll", "items", "at", "way", "new"]
theorem sc__law_bent : FnScope n__law_bent ["scroll", "items"] (defScope s__law_bent) := ⟨rfl, rfl, rfl, by decide +kernel, rfl, by decide +kernel, by decide +kernel⟩
abbrev s__law_heard : Stmt := top 46
abbrev n__law_heard : List Str := ["text", "heard", "error"]
theorem sc__law_heard : FnScope n__law_heard ["text"] (defScope s__law_heard) := ⟨rfl, rfl, rfl, by decide +kernel, rfl, by decide +kernel, by decide +kernel⟩
abbrev s_law : Stmt := top 47
abbrev n_law : List Str := ["script", "scroll", "turn", "name", "leaps", "rides", "is_lord", "text", "told", "items", "bend", "bent", "made", "lines", "stop", "due", "odd"]
theorem sc_law : FnScope n_law ["script"] (defScope s_law) := ⟨rfl, rfl, rfl, by decide +kernel, rfl, by decide +kernel, by decide +kernel⟩
structure Tx (K : PySem.W.Frag) (mg : Str → Option Value) (w : World) where
  t_E : Addr
  s_E : ∀ H, SqT K H t_E []
  c_Line : Addr
  c_Kind : Addr
  c_FieldError : Addr
  c_BadKind : Addr
  c_Misfit : Addr
  c_BadText : Addr
  a_is_integer : Addr
  d_is_integer : FuncData
  F_is_integer : Fun K "is_integer" "is_integer" s_is_integer a_is_integer d_is_integer
  m_is_integer : mg "is_integer" = some (.ref a_is_integer)
  b_is_integer : Binds K d_is_integer ["value"] []
  a_is_within : Addr
  d_is_within : FuncData
  F_is_within : Fun K "is_within" "is_within" s_is_within a_is_within d_is_within
  m_is_within : mg "is_within" = some (.ref a_is_within)
  b_is_within : Binds K d_is_within ["value", "least", "most"] []
  a_is_list : Addr
  d_is_list : FuncData
  F_is_list : Fun K "is_list" "is_list" s_is_list a_is_list d_is_list
  m_is_list : mg "is_list" = some (.ref a_is_list)
  b_is_list : Binds K d_is_list ["value"] []
  a_is_name : Addr
  d_is_name : FuncData
  F_is_name : Fun K "is_name" "is_name" s_is_name a_is_name d_is_name
  m_is_name : mg "is_name" = some (.ref a_is_name)
  b_is_name : Binds K d_is_name ["value"] []
  a_BadKind___init__ : Addr
  d_BadKind___init__ : FuncData
  F_BadKind___init__ : Fun K "__init__" "BadKind.__init__" s_BadKind___init__ a_BadKind___init__ d_BadKind___init__
  b_BadKind___init__ : Binds K d_BadKind___init__ ["self", "part"] []
  a_Misfit___init__ : Addr
  d_Misfit___init__ : FuncData
  F_Misfit___init__ : Fun K "__init__" "Misfit.__init__" s_Misfit___init__ a_Misfit___init__ d_Misfit___init__
  b_Misfit___init__ : Binds K d_Misfit___init__ ["self", "part"] []
  a_BadText___init__ : Addr
  d_BadText___init__ : FuncData
  F_BadText___init__ : Fun K "__init__" "BadText.__init__" s_BadText___init__ a_BadText___init__ d_BadText___init__
  b_BadText___init__ : Binds K d_BadText___init__ ["self", "line", "item"] []
  a_integer_of : Addr
  d_integer_of : FuncData
  F_integer_of : Fun K "integer_of" "integer_of" s_integer_of a_integer_of d_integer_of
  m_integer_of : mg "integer_of" = some (.ref a_integer_of)
  b_integer_of : Binds K d_integer_of ["item"] []
  a_lines_of : Addr
  d_lines_of : FuncData
  F_lines_of : Fun K "lines_of" "lines_of" s_lines_of a_lines_of d_lines_of
  m_lines_of : mg "lines_of" = some (.ref a_lines_of)
  b_lines_of : Binds K d_lines_of ["text"] []
  a_Line___init__ : Addr
  d_Line___init__ : FuncData
  F_Line___init__ : Fun K "__init__" "Line.__init__" s_Line___init__ a_Line___init__ d_Line___init__
  b_Line___init__ : Binds K d_Line___init__ ["self", "number", "row"] []
  a_Line_is_left : Addr
  d_Line_is_left : FuncData
  F_Line_is_left : Fun K "is_left" "Line.is_left" s_Line_is_left a_Line_is_left d_Line_is_left
  b_Line_is_left : Binds K d_Line_is_left ["self"] []
  a_Line_seen : Addr
  d_Line_seen : FuncData
  F_Line_seen : Fun K "seen" "Line.seen" s_Line_seen a_Line_seen d_Line_seen
  b_Line_seen : Binds K d_Line_seen ["self"] []
  a_Line_integer : Addr
  d_Line_integer : FuncData
  F_Line_integer : Fun K "integer" "Line.integer" s_Line_integer a_Line_integer d_Line_integer
  b_Line_integer : Binds K d_Line_integer ["self"] []
  a_Line_take : Addr
  d_Line_take : FuncData
  F_Line_take : Fun K "take" "Line.take" s_Line_take a_Line_take d_Line_take
  b_Line_take : Binds K d_Line_take ["self"] []
  a_Line_skip : Addr
  d_Line_skip : FuncData
  F_Line_skip : Fun K "skip" "Line.skip" s_Line_skip a_Line_skip d_Line_skip
  b_Line_skip : Binds K d_Line_skip ["self", "word"] []
  a_Line_refuse : Addr
  d_Line_refuse : FuncData
  F_Line_refuse : Fun K "refuse" "Line.refuse" s_Line_refuse a_Line_refuse d_Line_refuse
  b_Line_refuse : Binds K d_Line_refuse ["self"] []
  a_Kind___init__ : Addr
  d_Kind___init__ : FuncData
  F_Kind___init__ : FunD K "__init__" "Kind.__init__" (defArgs s_Kind___init__) (defBody s_Kind___init__) (defScope s_Kind___init__) [.ref t_E, .bl false] [] a_Kind___init__ d_Kind___init__
  a_Kind___eq__ : Addr
  d_Kind___eq__ : FuncData
  F_Kind___eq__ : Fun K "__eq__" "Kind.__eq__" s_Kind___eq__ a_Kind___eq__ d_Kind___eq__
  b_Kind___eq__ : Binds K d_Kind___eq__ ["self", "other"] []
  a_Kind___str__ : Addr
  d_Kind___str__ : FuncData
  F_Kind___str__ : Fun K "__str__" "Kind.__str__" s_Kind___str__ a_Kind___str__ d_Kind___str__
  b_Kind___str__ : Binds K d_Kind___str__ ["self"] []
  a_Kind_read : Addr
  d_Kind_read : FuncData
  F_Kind_read : Fun K "read" "Kind.read" s_Kind_read a_Kind_read d_Kind_read
  b_Kind_read : Binds K d_Kind_read ["text"] []
  a_are_leaps : Addr
  d_are_leaps : FuncData
  F_are_leaps : Fun K "are_leaps" "are_leaps" s_are_leaps a_are_leaps d_are_leaps
  m_are_leaps : mg "are_leaps" = some (.ref a_are_leaps)
  b_are_leaps : Binds K d_are_leaps ["value"] []
  a_is_leap : Addr
  d_is_leap : FuncData
  F_is_leap : Fun K "is_leap" "is_leap" s_is_leap a_is_leap d_is_leap
  m_is_leap : mg "is_leap" = some (.ref a_is_leap)
  b_is_leap : Binds K d_is_leap ["value"] []
  a_is_leap_part : Addr
  d_is_leap_part : FuncData
  F_is_leap_part : Fun K "is_leap_part" "is_leap_part" s_is_leap_part a_is_leap_part d_is_leap_part
  m_is_leap_part : mg "is_leap_part" = some (.ref a_is_leap_part)
  b_is_leap_part : Binds K d_is_leap_part ["value"] []
  a_are_rides : Addr
  d_are_rides : FuncData
  F_are_rides : Fun K "are_rides" "are_rides" s_are_rides a_are_rides d_are_rides
  m_are_rides : mg "are_rides" = some (.ref a_are_rides)
  b_are_rides : Binds K d_are_rides ["value"] []
  a_is_ride : Addr
  d_is_ride : FuncData
  F_is_ride : Fun K "is_ride" "is_ride" s_is_ride a_is_ride d_is_ride
  m_is_ride : mg "is_ride" = some (.ref a_is_ride)
  b_is_ride : Binds K d_is_ride ["value"] []
  a_read_kind : Addr
  d_read_kind : FuncData
  F_read_kind : Fun K "read_kind" "read_kind" s_read_kind a_read_kind d_read_kind
  m_read_kind : mg "read_kind" = some (.ref a_read_kind)
  b_read_kind : Binds K d_read_kind ["line"] []
  a_read_leaps : Addr
  d_read_leaps : FuncData
  F_read_leaps : Fun K "read_leaps" "read_leaps" s_read_leaps a_read_leaps d_read_leaps
  m_read_leaps : mg "read_leaps" = some (.ref a_read_leaps)
  b_read_leaps : Binds K d_read_leaps ["line"] []
  a_read_leap : Addr
  d_read_leap : FuncData
  F_read_leap : Fun K "read_leap" "read_leap" s_read_leap a_read_leap d_read_leap
  m_read_leap : mg "read_leap" = some (.ref a_read_leap)
  b_read_leap : Binds K d_read_leap ["line", "last"] []
  a_read_rides : Addr
  d_read_rides : FuncData
  F_read_rides : Fun K "read_rides" "read_rides" s_read_rides a_read_rides d_read_rides
  m_read_rides : mg "read_rides" = some (.ref a_read_rides)
  b_read_rides : Binds K d_read_rides ["line"] []
  a__law_scroll : Addr
  d__law_scroll : FuncData
  F__law_scroll : Fun K "_law_scroll" "_law_scroll" s__law_scroll a__law_scroll d__law_scroll
  m__law_scroll : mg "_law_scroll" = some (.ref a__law_scroll)
  b__law_scroll : Binds K d__law_scroll ["script"] []
  a__law_unroll : Addr
  d__law_unroll : FuncData
  F__law_unroll : Fun K "_law_unroll" "_law_unroll" s__law_unroll a__law_unroll d__law_unroll
  m__law_unroll : mg "_law_unroll" = some (.ref a__law_unroll)
  b__law_unroll : Binds K d__law_unroll ["scroll", "many"] []
  a__law_one : Addr
  d__law_one : FuncData
  F__law_one : Fun K "_law_one" "_law_one" s__law_one a__law_one d__law_one
  m__law_one : mg "_law_one" = some (.ref a__law_one)
  b__law_one : Binds K d__law_one ["scroll", "some"] []
  a__law_stirred : Addr
  d__law_stirred : FuncData
  F__law_stirred : Fun K "_law_stirred" "_law_stirred" s__law_stirred a__law_stirred d__law_stirred
  m__law_stirred : mg "_law_stirred" = some (.ref a__law_stirred)
  b__law_stirred : Binds K d__law_stirred ["scroll", "some"] []
  a__law_kind : Addr
  d__law_kind : FuncData
  F__law_kind : Fun K "_law_kind" "_law_kind" s__law_kind a__law_kind d__law_kind
  m__law_kind : mg "_law_kind" = some (.ref a__law_kind)
  b__law_kind : Binds K d__law_kind ["scroll", "name"] []
  a__law_name : Addr
  d__law_name : FuncData
  F__law_name : Fun K "_law_name" "_law_name" s__law_name a__law_name d__law_name
  m__law_name : mg "_law_name" = some (.ref a__law_name)
  b__law_name : Binds K d__law_name ["scroll"] []
  a__law_text : Addr
  d__law_text : FuncData
  F__law_text : Fun K "_law_text" "_law_text" s__law_text a__law_text d__law_text
  m__law_text : mg "_law_text" = some (.ref a__law_text)
  b__law_text : Binds K d__law_text ["name", "leaps", "rides", "is_lord"] []
  a__law_number : Addr
  d__law_number : FuncData
  F__law_number : Fun K "_law_number" "_law_number" s__law_number a__law_number d__law_number
  m__law_number : mg "_law_number" = some (.ref a__law_number)
  b__law_number : Binds K d__law_number ["item"] []
  a__law_is_name : Addr
  d__law_is_name : FuncData
  F__law_is_name : Fun K "_law_is_name" "_law_is_name" s__law_is_name a__law_is_name d__law_is_name
  m__law_is_name : mg "_law_is_name" = some (.ref a__law_is_name)
  b__law_is_name : Binds K d__law_is_name ["item"] []
  a__law_leaps_stop : Addr
  d__law_leaps_stop : FuncData
  F__law_leaps_stop : Fun K "_law_leaps_stop" "_law_leaps_stop" s__law_leaps_stop a__law_leaps_stop d__law_leaps_stop
  m__law_leaps_stop : mg "_law_leaps_stop" = some (.ref a__law_leaps_stop)
  b__law_leaps_stop : Binds K d__law_leaps_stop ["items", "at"] []
  a__law_stop : Addr
  d__law_stop : FuncData
  F__law_stop : Fun K "_law_stop" "_law_stop" s__law_stop a__law_stop d__law_stop
  m__law_stop : mg "_law_stop" = some (.ref a__law_stop)
  b__law_stop : Binds K d__law_stop ["items"] []
  a__law_bent : Addr
  d__law_bent : FuncData
  F__law_bent : Fun K "_law_bent" "_law_bent" s__law_bent a__law_bent d__law_bent
  m__law_bent : mg "_law_bent" = some (.ref a__law_bent)
  b__law_bent : Binds K d__law_bent ["scroll", "items"] []
  a__law_heard : Addr
  d__law_heard : FuncData
  F__law_heard : Fun K "_law_heard" "_law_heard" s__law_heard a__law_heard d__law_heard
  m__law_heard : mg "_law_heard" = some (.ref a__law_heard)
  b__law_heard : Binds K d__law_heard ["text"] []
  a_law : Addr
  d_law : FuncData
  F_law : Fun K "law" "law" s_law a_law d_law
  m_law : mg "law" = some (.ref a_law)
  b_law : Binds K d_law ["script"] []
  m_Line : mg "Line" = some (.ref c_Line)
  cl_Line : Cls K c_Line
  nF_Line_number : NoAttr K c_Line "number"
  nF_Line_words : NoAttr K c_Line "words"
  nF_Line_at : NoAttr K c_Line "at"
  me_Line_is_left : Meth K c_Line "is_left" a_Line_is_left
  me_Line_seen : Meth K c_Line "seen" a_Line_seen
  me_Line_integer : Meth K c_Line "integer" a_Line_integer
  me_Line_take : Meth K c_Line "take" a_Line_take
  me_Line_skip : Meth K c_Line "skip" a_Line_skip
  me_Line_refuse : Meth K c_Line "refuse" a_Line_refuse
  mk_Line : Mk K c_Line a_Line___init__
  m_Kind : mg "Kind" = some (.ref c_Kind)
  cl_Kind : Cls K c_Kind
  nF_Kind_name : NoAttr K c_Kind "name"
  nF_Kind_leaps : NoAttr K c_Kind "leaps"
  nF_Kind_rides : NoAttr K c_Kind "rides"
  nF_Kind_is_lord : NoAttr K c_Kind "is_lord"
  mk_Kind : Mk K c_Kind a_Kind___init__
  m_FieldError : mg "FieldError" = some (.ref c_FieldError)
  ox_FieldError : OexC K c_FieldError
  xf_FieldError : XfC K c_FieldError
  m_BadKind : mg "BadKind" = some (.ref c_BadKind)
  ox_BadKind : OexC K c_BadKind
  ic_BadKind : PySem.W.findIn K (.ref c_BadKind) "__init__" = some (some (.ref a_BadKind___init__))
  ti_BadKind : PySem.W.typeIn K (.ref a_BadKind___init__) = some (.type "function")
  xf_BadKind : XfC K c_BadKind
  no_BadKind_part : PySem.W.findIn K (.ref c_BadKind) "part" = some none
  m_Misfit : mg "Misfit" = some (.ref c_Misfit)
  ox_Misfit : OexC K c_Misfit
  ic_Misfit : PySem.W.findIn K (.ref c_Misfit) "__init__" = some (some (.ref a_Misfit___init__))
  ti_Misfit : PySem.W.typeIn K (.ref a_Misfit___init__) = some (.type "function")
  xf_Misfit : XfC K c_Misfit
  no_Misfit_part : PySem.W.findIn K (.ref c_Misfit) "part" = some none
  m_BadText : mg "BadText" = some (.ref c_BadText)
  ox_BadText : OexC K c_BadText
  ic_BadText : PySem.W.findIn K (.ref c_BadText) "__init__" = some (some (.ref a_BadText___init__))
  ti_BadText : PySem.W.typeIn K (.ref a_BadText___init__) = some (.type "function")
  xf_BadText : XfC K c_BadText
  no_BadText_line : PySem.W.findIn K (.ref c_BadText) "line" = some none
  no_BadText_item : PySem.W.findIn K (.ref c_BadText) "item" = some none
  xm_BadText_BadText : PySem.W.exmOne K (.ref c_BadText) (.ref c_BadText) = some true
  z_isinstance : mg "isinstance" = none
  z_int : mg "int" = none
  z_bool : mg "bool" = none
  z_list : mg "list" = none
  z_tuple : mg "tuple" = none
  z_len : mg "len" = none
  z_str : mg "str" = none
  z_all : mg "all" = none
  z_enumerate : mg "enumerate" = none
  z_sorted : mg "sorted" = none
  z_set : mg "set" = none
  z_abs : mg "abs" = none
  z_range : mg "range" = none
  z_repr : mg "repr" = none
  z_max : mg "max" = none
  oc_Kind : Gs.OwnC K c_Kind a_Kind___eq__
  os_Kind : Gs.OwnS K c_Kind a_Kind___str__
  sr_Kind : Gs.StaC K c_Kind "read" a_Kind_read
  ty_Kind : Gs.TyC K c_Kind
  kk_Kind : PySem.W.kitOne K (.ref c_Kind) (.ref c_Kind) = some true
  kn_Kind : ∀ t ∈ (["list", "str", "NoneType", "int", "bool", "tuple", "dict"] : List String), PySem.W.kitOne K (.type t) (.ref c_Kind) = some false
  ks_Kind : PySem.W.kitOne K (.ref c_Kind) (.type "str") = some false
  nf_Kind : ∀ t ∈ (["list", "str"] : List String), PySem.W.notFirst K c_Kind (.type t) = true
  kb_read : KBn K d_Kind_read ["text"] 0 ["text"] (fun _ ws => ws) (fun _ zs => zs)
  b5_Kind : Binds K d_Kind___init__ ["self", "name", "leaps", "rides", "is_lord"] []
  g_LETTERS : ∃ t, mg "LETTERS" = some (.str "abcdefghijklmnopqrstuvwxyz" t)
  g_LONGEST : ∃ t, mg "LONGEST_NAME" = some (.int 8 t)
  g_DIGITS : ∃ t, mg "DIGITS" = some (.str "0123456789" t)
  g_MOST : ∃ t, mg "MOST_DIGITS" = some (.int 70 t)
  g_LEAP : ∃ t, mg "LONGEST_LEAP" = some (.int 3 t)
  t_B : Addr
  g_B : mg "BARRED_NAMES" = some (.ref t_B)
  s_B : ∀ H, SqT K H t_B [.str "lord", .str "leaps", .str "rides", .str "stone"]
  t_S : Addr
  g_S : mg "STEPS" = some (.ref t_S)
  t_R : Addr
  t_L : Addr
  t_U : Addr
  t_D : Addr
  s_R : ∀ H, SqT K H t_R [.int 1, .int 0]
  s_L : ∀ H, SqT K H t_L [.int (-1), .int 0]
  s_U : ∀ H, SqT K H t_U [.int 0, .int 1]
  s_D : ∀ H, SqT K H t_D [.int 0, .int (-1)]
  w_S : WD K w t_S [("right", .ref t_R), ("left", .ref t_L), ("up", .ref t_U), ("down", .ref t_D)]
end Kd

set_option Elab.async false
set_option linter.all false
set_option maxRecDepth 100000
set_option maxHeartbeats 4000000
namespace Kd
open PySem PySem.Spec PyProof.Rows L2 Gs
section
variable {P : Program} {w : World} {K : PySem.W.Frag} {mg : Str → Option Value} {base : Heap}
theorem spB_len {f : PyData → Bool} {n : Str} : ∀ (vs : List V) (H : Hp) (Q : VK) (E : XK), spB K f vs H Q E → vs.length = [n].length := by
  rintro vs H Q E ⟨c, v, d, rfl, _⟩; rfl
theorem O_is_integer (T : Tx K mg w) : FnOk P w K mg base CX0 1 T.a_is_integer T.d_is_integer ["value"] (spB K isInt) := by
  refine T.F_is_integer.ok sc_is_integer spB_len (fun cdv A outer s H vs Q E hr h => ?_)
  obtain ⟨c, v, d, rfl, hd, k⟩ := h
  refine ⟨_, (pss_one (ps_ret (pe_and (pe_callB call_isi (by rfl) T.z_isinstance (by decide +kernel) (pa_cons (pv 0) (pa_cons (pe_bltn (v := .ty "int") (u := .type "int") (by rfl) T.z_int (by decide +kernel) rfl) pa_nil))) (pe_one (pe_not (pe_callB call_isi (by rfl) T.z_isinstance (by decide +kernel) (pa_cons (pv 0) (pa_cons (pe_bltn (v := .ty "bool") (u := .type "bool") (by rfl) T.z_bool (by decide +kernel) rfl) pa_nil)))))))), ?_⟩
  refine ⟨_, rfl, _, .ty "int", .type (tyN _), .type "int", _, rfl, .ty _, ty_of hd, kit_ty (kI _), _, rfl, ?_⟩
  have k := k H (Same.refl H)
  cases d with
  | int i => exact iteT ⟨_, rfl, _, .ty "bool", .type (tyN _), .type "bool", _, rfl, .ty _, ty_of hd, kit_ty (kB _), _, rfl, k⟩
  | bool i => exact iteT ⟨_, rfl, _, .ty "bool", .type (tyN _), .type "bool", _, rfl, .ty _, ty_of hd, kit_ty (kB _), _, rfl, k⟩
  | _ => exact iteF k
theorem O_is_list (T : Tx K mg w) : FnOk P w K mg base CX0 1 T.a_is_list T.d_is_list ["value"] (spB K isSeq) := by
  refine T.F_is_list.ok sc_is_list spB_len (fun cdv A outer s H vs Q E hr h => ?_)
  obtain ⟨c, v, d, rfl, hd, k⟩ := h
  refine ⟨_, (pss_one (ps_ret (pe_callB call_isiT (by rfl) T.z_isinstance (by decide +kernel) (pa_cons (pv 0) (pa_cons (pe_tup (pa_cons (pe_bltn (v := .ty "list") (u := .type "list") (by rfl) T.z_list (by decide +kernel) rfl) (pa_cons (pe_bltn (v := .ty "tuple") (u := .type "tuple") (by rfl) T.z_tuple (by decide +kernel) rfl) pa_nil))) pa_nil))))), ?_⟩
  refine ⟨_, rfl, szl rfl, fun p hp => ?_⟩
  have hd1 := hd.up (Ext.new hp (o := .tup [.ty "list", .ty "tuple"]))
  exact ⟨v, _, [.ty "list", .ty "tuple"], .type (tyN _), [.type "list", .type "tuple"], isSeq _, rfl, upd_same, .cons (.ty _) (.cons (.ty _) .nil), ty_of hd1, kit_seq _, k _ (same_new hp)⟩
/-- whether an integer lies within -/
def inB (lo hi : Option Int) : PyData → Bool
  | .int z => (match lo with | none => true | some l => decide (l ≤ z)) && (match hi with | none => true | some u => decide (z ≤ u))
  | _ => false
def oV : Option Int → V
  | none => .non
  | some i => .int i
def spWithin (K : PySem.W.Frag) : Sp := fun vs H Q _ => ∃ (c : Addr) (v : V) (d : PyData) (lo hi : Option Int), vs = [v, oV lo, oV hi] ∧ DV K c H v d ∧ ∀ H', Same H H' → Q (.bl (inB lo hi d)) H'
theorem O_is_within (T : Tx K mg w) : FnOk P w K mg base CX0 2 T.a_is_within T.d_is_within ["value", "least", "most"] (spWithin K) := by
  refine T.F_is_within.ok sc_is_within (fun vs H Q E h => ?_) (fun cdv A outer s H vs Q E hr h => ?_)
  · obtain ⟨c, v, d, lo, hi, rfl, _⟩ := h; rfl
  obtain ⟨c, v, d, lo, hi, rfl, hd, k⟩ := h
  refine ⟨_, (pss_cons (ps_if (pt_not (pt_val (pe_call (O_is_integer T) (hr.mono (by decide)) (by rfl) T.m_is_integer T.F_is_integer.kp T.b_is_integer .nil pass0 (pa_cons (pv 0) pa_nil)))) (pss_one (ps_ret pe_bl)) pss_nil)
      (pss_cons (ps_if (PW.pt (pw_and (pt_cmpR op_notN (pv 1) pe_non (nomark _)) (pw_and1 (pt_cmpR op_lt (pv 0) (pv 1) (nomark _))))) (pss_one (ps_ret pe_bl)) pss_nil)
      (pss_one (ps_ret (pe_or (pe_cmpR op_isN (pv 2) pe_non (nomark _)) (pe_one (pe_cmpR op_le (pv 0) (pv 2) (nomark _)))))))), ?_⟩
  refine ⟨_, rfl, c, v, d, rfl, hd, fun H1 s1 => ⟨_, rfl, ?_⟩⟩
  have k := k H1 s1
  cases hd with
  | int z =>
    refine iteF ?_
    cases lo with
    | none =>
      refine ⟨_, rfl, rfl, _, rfl, iteF ?_⟩
      cases hi with
      | none => exact ⟨_, rfl, rfl, _, rfl, k⟩
      | some u => exact ⟨_, rfl, rfl, _, rfl, _, rfl, _, rfl, _, _, rfl, rfl, k⟩
    | some l =>
      refine ⟨_, rfl, rfl, _, rfl, iteT ⟨_, rfl, _, rfl, _, _, rfl, rfl, _, rfl, ?_⟩⟩
      refine ite2 (fun e => ?_) (fun e => ?_)
      · have e := of_decide_eq_true e
        have : inB (some l) hi (.int z) = false := by
          show (decide (l ≤ z) && _) = false
          rw [decide_eq_false (by omega)]; rfl
        rw [this] at k
        exact k
      · have e : ¬ z < l := fun x => e (decide_eq_true x)
        have el : decide (l ≤ z) = true := decide_eq_true (by omega)
        cases hi with
        | none =>
          have : inB (some l) none (.int z) = true := by
            show (decide (l ≤ z) && true) = true
            rw [el]; rfl
          rw [this] at k
          exact ⟨_, rfl, rfl, _, rfl, k⟩
        | some u =>
          have : inB (some l) (some u) (.int z) = decide (z ≤ u) := by
            show (decide (l ≤ z) && decide (z ≤ u)) = _
            rw [el]; rfl
          rw [this] at k
          exact ⟨_, rfl, rfl, _, rfl, _, rfl, _, rfl, _, _, rfl, rfl, k⟩
  | _ => exact iteT k
def letters : Str := "abcdefghijklmnopqrstuvwxyz"
def barred : List V := [.str "lord", .str "leaps", .str "rides", .str "stone"]
def isNameS (x : Str) : Bool := decide (1 ≤ x.length) && decide (x.length ≤ 8) && (!inV (.str x) barred) && x.cps.toList.all fun c => decide (c ∈ letters.cps.toList)
def isNm : PyData → Bool
  | .str x => isNameS x
  | _ => false
def spName (K : PySem.W.Frag) : Sp := fun vs H Q _ => ∃ (c : Addr) (v : V) (d : PyData), vs = [v] ∧ DV K c H v d ∧ (∀ x, d = .str x → x.length ≤ 1000000) ∧ ∀ H', Same H H' → Q (.bl (isNm d)) H'
theorem all_take {α : Type} (p : α → Bool) (xs : List α) : ((xs.map p).map V.bl) = xs.map (fun x => V.bl (p x)) := by rw [List.map_map]; rfl
theorem O_is_name (T : Tx K mg w) : FnOk P w K mg base CX0 1 T.a_is_name T.d_is_name ["value"] (spName K) := by
  refine T.F_is_name.ok sc_is_name (fun vs H Q E h => ?_) (fun cdv A outer s H vs Q E hr h => ?_)
  · obtain ⟨c, v, d, rfl, _⟩ := h; rfl
  obtain ⟨c, v, d, rfl, hd, hz, k⟩ := h
  obtain ⟨tL, hL⟩ := T.g_LETTERS
  obtain ⟨tN, hN⟩ := T.g_LONGEST
  refine ⟨_, (pss_cons (ps_if (PW.pt (pw_or (pt_not (pt_val (pe_callB call_isi (by rfl) T.z_isinstance (by decide +kernel) (pa_cons (pv 0) (pa_cons (pe_bltn (v := .ty "str") (u := .type "str") (by rfl) T.z_str (by decide +kernel) rfl) pa_nil))))) (pw_or1 (pt_not (pt_chain op_le op_le pe_int (pe_callB call_len_str (by rfl) T.z_len (by decide +kernel) (pa_cons (pv 0) pa_nil)) (pe_glob (v := .int 8) (by rfl) hN ⟨_, rfl⟩)))))) (pss_one (ps_ret pe_bl)) pss_nil)
      (pss_one (ps_ret (pe_and (pe_cmpR op_notIn_seq (pv 0) (pe_glob (v := .ref T.t_B) (by rfl) T.g_B rfl) (by rfl)) (pe_one (pe_callB (cr_all rfl) (by rfl) T.z_all (by decide +kernel) (pa_cons (pe_lc (own := [("sign", 1)]) (g := (gName 1)) rfl sc_is_name.nd (pi_str (pv 0)) (blkOk_by (N := n_is_name) (sc := defScope s_is_name) (by decide +kernel)) (fun _ _ _ _ _ => (pg_name (i := 1) sc_is_name.nd rfl (Or.inl rfl))) (fun _ _ _ _ _ => pts_nil) (fun _ _ _ _ _ => (pe_cmpR op_in_sign (pv 1) (pe_glob (v := .str "abcdefghijklmnopqrstuvwxyz") (by rfl) hL ⟨_, rfl⟩) (by rfl)))) pa_nil))))))), ?_⟩
  refine ⟨_, rfl, _, .ty "str", .type (tyN _), .type "str", _, rfl, .ty _, ty_of hd, kit_ty (kS _), _, rfl, ?_⟩
  cases hd with
  | str x =>
    have hz : x.length ≤ 1000000 := hz x rfl
    refine iteF ?_
    refine ⟨_, rfl, _, rfl, szM hz, _, _, rfl, rfl, _, rfl, ?_⟩
    refine iteB (fun e1 => ?_) (fun e1 => ?_)
    rotate_left
    · refine ⟨_, rfl, ?_⟩
      have := k H (Same.refl H)
      have e : isNm (.str x) = false := by
        show isNameS x = false
        unfold isNameS
        rw [decide_eq_false (fun z => by have := of_decide_eq_false e1; omega)]; rfl
      rw [e] at this
      exact iteT this
    refine ⟨_, _, rfl, rfl, _, rfl, ?_⟩
    have e1 := of_decide_eq_true e1
    refine iteB (fun e2 => ?_) (fun e2 => ?_)
    · have := k H (Same.refl H)
      have e : isNm (.str x) = false := by
        show isNameS x = false
        unfold isNameS
        rw [decide_eq_false (fun z : x.length ≤ 8 => by
          have e2 : (!decide ((x.length : Int) ≤ 8)) = true := e2
          rw [decide_eq_true (by omega)] at e2; cases e2), Bool.and_false]; rfl
      rw [e] at this
      exact this
    have e3 : x.length ≤ 8 := by
      have e2 : (!decide ((x.length : Int) ≤ 8)) = false := e2
      by_cases z : (x.length : Int) ≤ 8
      · omega
      · rw [decide_eq_false z] at e2; cases e2
    -- value not in BARRED_NAMES and all(..)
    refine ⟨_, rfl, T.t_B, _, rfl, .inr (T.s_B H), rfl, rfl, _, rfl, ?_⟩
    refine iteB (fun e4 => ?_) (fun e4 => ?_)
    rotate_left
    · have := k H (Same.refl H)
      have e : isNm (.str x) = false := by
        show isNameS x = false
        unfold isNameS
        have e4 : (!inV (.str x) barred) = false := e4
        rw [e4, Bool.and_false]; rfl
      rw [e] at this
      exact this
    have e4 : (!inV (.str x) barred) = true := e4
    refine ⟨_, rfl, x, rfl, fun D hD => ?_⟩
    refine lc_it walk_str (fun i H' => H' D = some (.lst ((x.cps.toList.take i).map fun c => .bl (decide (c ∈ letters.cps.toList)))) ∧ Same H H') ⟨upd_same, same_new hD⟩ (fun _ _ _ _ => trivial) ?_ ?_
    · rintro i z H1 H2 hi ⟨h1, h2⟩ ⟨rfl, cp, hc, rfl⟩
      refine ⟨rfl, ?_⟩
      refine ⟨_, rfl, cp, _, rfl, rfl, _, h1, ?_, ?_, ?_⟩
      · rw [List.length_map]
        refine szK (Nat.lt_of_le_of_lt (List.length_take_le ..) ?_)
        have : i < x.length := hi
        omega
      · have hc : x.cps.toList[i]? = some cp := by rw [Array.getElem?_toList]; exact hc
        rw [upd_same, List.take_add_one, hc, List.map_append]; rfl
      · exact same_own h2 hD
    · rintro H1 ⟨h1, h2⟩
      have eall : x.cps.toList.take x.cps.size = x.cps.toList := List.take_of_length_le (by simp)
      rw [eall] at h1
      refine ⟨D, x.cps.toList.map (fun c => decide (c ∈ letters.cps.toList)), rfl, .of (by rw [all_take]; exact h1), ?_⟩
      have := k H1 h2
      have e : isNm (.str x) = ((x.cps.toList.map (fun c => decide (c ∈ letters.cps.toList))).all id) := by
        show isNameS x = _
        unfold isNameS
        rw [decide_eq_true (show 1 ≤ x.length by omega), decide_eq_true e3, e4, List.all_map]; rfl
      rw [e] at this
      exact this
  | _ => exact iteT (k H (Same.refl H))
end
end Kd

set_option Elab.async false
set_option linter.all false
set_option maxRecDepth 100000
set_option maxHeartbeats 4000000
namespace Kd
open PySem PySem.Spec PyProof.Rows L2 Gs
section
variable {P : Program} {w : World} {K : PySem.W.Frag} {mg : Str → Option Value} {base : Heap}
/-- an own error's __init__ with one field -/
def spErr (C : Addr) (f : Str) : Sp := fun vs H Q _ => ∃ (a : Addr) (v : V), vs = [.ref a, v] ∧ H a = some (exo a C none) ∧
  ∀ d, H d = none → d ≠ a → Q .non (upd (upd H d (exd d [(f, v)])) a (exo a C (some d)))
/-- .. with two fields -/
def spErr2 (C : Addr) (f g : Str) : Sp := fun vs H Q _ => ∃ (a : Addr) (v u : V), vs = [.ref a, v, u] ∧ H a = some (exo a C none) ∧
  ∀ d, H d = none → d ≠ a → Q .non (upd (upd (upd H d (exd d [(f, v)])) a (exo a C (some d))) d (exd d [(g, u), (f, v)]))
theorem same_err {H : Hp} {a d : Addr} {fs : List (Str × V)} {H2 : Hp} (ha : H a = none) (hd : H d = none) (h2 : ∀ b, b ≠ a → b ≠ d → H2 b = H b) : Same H (upd (del H2 a) d (.xd fs)) := fun b o e => by
  have na := ne_of_none e ha
  have nd := ne_of_none e hd
  rw [upd_ne nd, del_ne na, h2 b na nd]; exact e
/-- C(v) raised, its __init__ as above -/
theorem mk_err {C : Addr} {f : Str} {v : V} {H : Hp} {Q : XK} (h : ∀ d H', H d = none → Same H H' → H' d = some (.xd [(f, v)]) → Q (.ref C) (some d) H') : ∀ a, H a = none →
    spErr C f (.ref a :: ([v] ++ [])) (upd H a (exo a C none)) (fun x H2 => x = .non ∧ ∃ (d : Addr) (fs : List (Str × V)), H2 a = some (exo a C (some d)) ∧ H2 d = some (exd d fs) ∧ H d = none ∧ Q (.ref C) (some d) (upd (del H2 a) d (.xd fs))) (fun _ _ _ => False) := by
  intro a ha
  refine ⟨a, v, rfl, upd_same, fun d hd nda => ⟨rfl, d, _, upd_same, by rw [upd_ne nda, upd_same], ?_, ?_⟩⟩
  · rwa [upd_ne nda] at hd
  · rw [upd_ne nda] at hd
    refine h d _ hd (same_err ha hd fun b n1 n2 => by rw [upd_ne n1, upd_ne n2, upd_ne n1]) upd_same
theorem mk_err2 {C : Addr} {f g : Str} {v u : V} {H : Hp} {Q : XK} (h : ∀ d H', H d = none → Same H H' → H' d = some (.xd [(g, u), (f, v)]) → Q (.ref C) (some d) H') : ∀ a, H a = none →
    spErr2 C f g (.ref a :: ([v, u] ++ [])) (upd H a (exo a C none)) (fun x H2 => x = .non ∧ ∃ (d : Addr) (fs : List (Str × V)), H2 a = some (exo a C (some d)) ∧ H2 d = some (exd d fs) ∧ H d = none ∧ Q (.ref C) (some d) (upd (del H2 a) d (.xd fs))) (fun _ _ _ => False) := by
  intro a ha
  refine ⟨a, v, u, rfl, upd_same, fun d hd nda => ⟨rfl, d, _, by rw [upd_ne (Ne.symm nda), upd_same], upd_same, ?_, ?_⟩⟩
  · rwa [upd_ne nda] at hd
  · rw [upd_ne nda] at hd
    refine h d _ hd (same_err ha hd fun b n1 n2 => by rw [upd_ne n2, upd_ne n1, upd_ne n2, upd_ne n1]) upd_same
theorem O_BadKind___init__ (T : Tx K mg w) : FnOk P w K mg base CX0 1 T.a_BadKind___init__ T.d_BadKind___init__ ["self", "part"] (spErr T.c_BadKind "part") := by
  refine T.F_BadKind___init__.ok sc_BadKind___init__ (fun vs H Q E h => ?_) (fun cdv A outer s H vs Q E hr h => ?_)
  · obtain ⟨a, v, rfl, _⟩ := h; rfl
  obtain ⟨a, v, rfl, ha, k⟩ := h
  refine ⟨_, (pss_one (ps_ost (pv 0) (pv 1))), ?_⟩
  exact ⟨_, rfl, _, rfl, a, _, rfl, T.ox_BadKind, T.no_BadKind_part, .inl ⟨ha, fun d hd nd => k d hd nd⟩⟩
theorem O_Misfit___init__ (T : Tx K mg w) : FnOk P w K mg base CX0 1 T.a_Misfit___init__ T.d_Misfit___init__ ["self", "part"] (spErr T.c_Misfit "part") := by
  refine T.F_Misfit___init__.ok sc_Misfit___init__ (fun vs H Q E h => ?_) (fun cdv A outer s H vs Q E hr h => ?_)
  · obtain ⟨a, v, rfl, _⟩ := h; rfl
  obtain ⟨a, v, rfl, ha, k⟩ := h
  refine ⟨_, (pss_one (ps_ost (pv 0) (pv 1))), ?_⟩
  exact ⟨_, rfl, _, rfl, a, _, rfl, T.ox_Misfit, T.no_Misfit_part, .inl ⟨ha, fun d hd nd => k d hd nd⟩⟩
theorem O_BadText___init__ (T : Tx K mg w) : FnOk P w K mg base CX0 1 T.a_BadText___init__ T.d_BadText___init__ ["self", "line", "item"] (spErr2 T.c_BadText "line" "item") := by
  refine T.F_BadText___init__.ok sc_BadText___init__ (fun vs H Q E h => ?_) (fun cdv A outer s H vs Q E hr h => ?_)
  · obtain ⟨a, v, u, rfl, _⟩ := h; rfl
  obtain ⟨a, v, u, rfl, ha, k⟩ := h
  refine ⟨_, (pss_cons (ps_ost (pv 0) (pv 1))
      (pss_one (ps_ost (pv 0) (pv 2)))), ?_⟩
  refine ⟨_, rfl, _, rfl, a, _, rfl, T.ox_BadText, T.no_BadText_line, .inl ⟨ha, fun d hd nd => ?_⟩⟩
  exact ⟨_, rfl, _, rfl, a, _, rfl, T.ox_BadText, T.no_BadText_item, .inr ⟨d, _, upd_same, by rw [upd_ne nd, upd_same], Nat.le_of_ble_eq_true rfl, k d hd nd⟩⟩
end
end Kd

set_option Elab.async false
set_option linter.all false
set_option maxRecDepth 100000
set_option maxHeartbeats 4000000
namespace Kd
open PySem PySem.Spec PyProof.Rows L2 Gs
theorem starts1 (x : Str) (c : Nat) : Txt.startswith x ⟨#[c]⟩ = decide (x.cps.toList.head? = some c) := by
  show (decide (0 + 1 ≤ x.length) && Builtin.Str.subAt x ⟨#[c]⟩ 0) = _
  rw [StrLaws.subAt_eq, List.drop_zero]
  show (decide (0 + 1 ≤ x.cps.size) && (x.cps.toList.take 1 == [c])) = _
  rw [← Array.length_toList]
  cases x.cps.toList with
  | nil => rfl
  | cons a l =>
    have : decide (0 + 1 ≤ (a :: l).length) = true := decide_eq_true (by simp)
    rw [this, Bool.true_and]
    show ([a] == [c]) = decide (some a = some c)
    by_cases e : a = c
    · subst e; simp
    · rw [decide_eq_false (by simpa using e)]
      simp [e]
/-- the digits of a number's text, without its sign -/
def digs (l : List Nat) : List Nat := if l.head? = some 45 then l.drop 1 else l
def digits10 : List Nat := [48, 49, 50, 51, 52, 53, 54, 55, 56, 57]
def okNum (l : List Nat) : Bool := decide (1 ≤ (digs l).length) && decide ((digs l).length ≤ 70) && (digs l).all (fun c => decide (c ∈ digits10)) && !(decide ((digs l).head? = some 48) && !decide (l = [48]))
/-- the integer that a text tells, if it is written as it must be -/
def intOf (x : Str) : Option Int := if okNum x.cps.toList = true then intText? x else none
theorem dig_mem {c : Nat} (h : c ∈ digits10) : 48 ≤ c ∧ c ≤ 57 := by
  have : ∀ c ∈ digits10, 48 ≤ c ∧ c ≤ 57 := by decide
  exact this c h
theorem num_is {x : Str} (h1 : 1 ≤ (digs x.cps.toList).length) (h2 : (digs x.cps.toList).length ≤ 70) (h3 : (digs x.cps.toList).all (fun c => decide (c ∈ digits10)) = true) : ∃ n, intText? x = some n := by
  have all : NumText.AllDigits (digs x.cps.toList) := fun c hc => dig_mem (of_decide_eq_true (List.all_eq_true.mp h3 c hc))
  have hl : x.cps.toList.length = x.length := Array.length_toList
  by_cases e : x.cps.toList.head? = some 45
  · cases hx : x.cps.toList with
    | nil => rw [hx] at e; cases e
    | cons a l =>
      rw [hx] at e
      cases e
      have ed : digs x.cps.toList = l := by rw [hx]; rfl
      rw [ed] at all h1 h2
      exact ⟨_, intText_neg hx all (fun z => by rw [z] at h1; simp at h1) (by rw [← hl, hx, List.length_cons]; omega)⟩
  · have ed : digs x.cps.toList = x.cps.toList := if_neg e
    rw [ed] at all h1 h2
    exact ⟨_, intText_digits all (fun z => by rw [z] at h1; simp at h1) (by omega)⟩
def oI : Option Int → V
  | none => .non
  | some i => .int i
section
variable {P : Program} {w : World} {K : PySem.W.Frag} {mg : Str → Option Value} {base : Heap}
def spIntOf : Sp := fun vs H Q _ => ∃ x : Str, vs = [.str x] ∧ x.length ≤ 1000000 ∧ ∀ H', Same H H' → Q (oI (intOf x)) H'
theorem slice1 (x : Str) : Txt.slice x (some 1) none = SX.S (x.cps.toList.drop 1) := by
  have := SX.slice_from (a := x.cps.toList) (i := 1) (by decide)
  rwa [SX.S_tl] at this
theorem O_integer_of (T : Tx K mg w) : FnOk P w K mg base CX0 1 T.a_integer_of T.d_integer_of ["item"] spIntOf := by
  refine T.F_integer_of.ok sc_integer_of (fun vs H Q E h => ?_) (fun cdv A outer s H vs Q E hr h => ?_)
  · obtain ⟨x, rfl, _⟩ := h; rfl
  obtain ⟨x, rfl, hz, k⟩ := h
  obtain ⟨tD, hD⟩ := T.g_DIGITS
  obtain ⟨tM, hM⟩ := T.g_MOST
  refine ⟨_, (pss_cons (ps_set (i := 1) sc_integer_of.nd rfl (Or.inl rfl) (pe_ifExp (pt_val (pe_m1 PySem.F.slot_str_startswith PySem.F.type_str_startswith mt_startswith (pv 0) pe_str)) (pe_slice C8.sl_txt (pv 0) (po_some pe_int) po_none) (pv 0)))
      (pss_cons (ps_if (pt_not (pt_chain op_le op_le pe_int (pe_callB call_len_str (by rfl) T.z_len (by decide +kernel) (pa_cons (pv 1) pa_nil)) (pe_glob (v := .int 70) (by rfl) hM ⟨_, rfl⟩))) (pss_one (ps_ret pe_non)) pss_nil)
      (pss_cons (ps_if (pt_not (pt_val (pe_callB (cr_all rfl) (by rfl) T.z_all (by decide +kernel) (pa_cons (pe_lc (own := [("sign", 2)]) (g := (gName 2)) rfl sc_integer_of.nd (pi_str (pv 1)) (blkOk_by (N := n_integer_of) (sc := defScope s_integer_of) (by decide +kernel)) (fun _ _ _ _ _ => (pg_name (i := 2) sc_integer_of.nd rfl (Or.inl rfl))) (fun _ _ _ _ _ => pts_nil) (fun _ _ _ _ _ => (pe_cmpR op_in_sign (pv 2) (pe_glob (v := .str "0123456789") (by rfl) hD ⟨_, rfl⟩) (by rfl)))) pa_nil)))) (pss_one (ps_ret pe_non)) pss_nil)
      (pss_cons (ps_if (PW.pt (pw_and (pt_val (pe_m1 PySem.F.slot_str_startswith PySem.F.type_str_startswith mt_startswith (pv 1) pe_str)) (pw_and1 (pt_cmpR op_ne (pv 0) pe_str (nomark _))))) (pss_one (ps_ret pe_non)) pss_nil)
      (pss_one (ps_ret (pe_callTy call_int_str (by rfl) T.z_int (by decide +kernel) (pa_cons (pv 0) pa_nil)))))))), ?_⟩
  have ex : x = SX.S x.cps.toList := (SX.S_tl x).symm
  have hlen : x.cps.toList.length = x.length := Array.length_toList
  have hn : okNum x.cps.toList = false → ∀ H', Same H H' → Q .non H' := fun e H' s => by
    have := k H' s
    unfold intOf at this
    rw [if_neg (by rw [e]; exact Bool.false_ne_true)] at this
    exact this
  have hdl : (digs x.cps.toList).length ≤ 1000000 ∧ x.length ≤ (digs x.cps.toList).length + 1 := by
    unfold digs
    split
    · rw [List.length_drop]; omega
    · omega
  refine seq_asg (.str (SX.S (digs x.cps.toList))) (fun Q' hq => ?_) (fun H1 s1 => ?_)
  · refine ⟨_, rfl, ⟨_, rfl⟩, x, _, rfl, rfl, _, rfl, ?_⟩
    have e0 : Txt.startswith x "-" = decide (x.cps.toList.head? = some 45) := starts1 x 45
    rw [e0]
    refine ite2 (fun e => ?_) (fun e => ?_)
    · have e := of_decide_eq_true e
      refine ⟨_, rfl, _, rfl, x, rfl, szM (by omega), ?_⟩
      rw [slice1]
      have := hq H (Same.refl H)
      rwa [show digs x.cps.toList = x.cps.toList.drop 1 from if_pos e] at this
    · have e : ¬ x.cps.toList.head? = some 45 := fun z => e (decide_eq_true z)
      refine ⟨_, rfl, ?_⟩
      have := hq H (Same.refl H)
      rw [show digs x.cps.toList = x.cps.toList from if_neg e, SX.S_tl] at this
      exact this
  generalize hd : digs x.cps.toList = dl at hdl
  have k1 := fun H' s => k H' s
  have hS : (SX.S dl).length = dl.length := SX.S_len dl
  -- not 1 <= len(digits) <= MOST_DIGITS
  refine ⟨_, rfl, _, rfl, szM (by omega), _, _, rfl, rfl, _, rfl, ?_⟩
  have c1 : okNum x.cps.toList = (decide (1 ≤ dl.length) && decide (dl.length ≤ 70) && dl.all (fun c => decide (c ∈ digits10)) && !(decide (dl.head? = some 48) && !decide (x.cps.toList = [48]))) := by
    unfold okNum; rw [hd]
  refine iteB (fun e1 => ?_) (fun e1 => ?_)
  rotate_left
  · refine ⟨_, rfl, ?_⟩
    refine iteT (hn ?_ H1 s1)
    rw [c1, decide_eq_false (fun z => by have := of_decide_eq_false e1; omega)]; rfl
  have e1 := of_decide_eq_true e1
  have l1 : 1 ≤ dl.length := by omega
  refine ⟨_, _, rfl, rfl, _, rfl, ?_⟩
  refine iteB (fun e2 => ?_) (fun e2 => ?_)
  · refine hn ?_ H1 s1
    rw [c1, decide_eq_false (fun z : dl.length ≤ 70 => by
      have e2 : (!decide (((SX.S dl).length : Int) ≤ 70)) = true := e2
      rw [decide_eq_true (by omega)] at e2; cases e2), Bool.and_false]; rfl
  have l2 : dl.length ≤ 70 := by
    have e2 : (!decide (((SX.S dl).length : Int) ≤ 70)) = false := e2
    by_cases z : ((SX.S dl).length : Int) ≤ 70
    · omega
    · rw [decide_eq_false z] at e2; cases e2
  have c2 : okNum x.cps.toList = (dl.all (fun c => decide (c ∈ digits10)) && !(decide (dl.head? = some 48) && !decide (x.cps.toList = [48]))) := by
    rw [c1, decide_eq_true l1, decide_eq_true l2]; rfl
  -- not all([sign in DIGITS for sign in digits])
  refine ⟨_, rfl, _, rfl, fun D hD => ?_⟩
  refine lc_it walk_str (fun i H' => H' D = some (.lst ((dl.take i).map fun c => .bl (decide (c ∈ digits10)))) ∧ Same H1 H') ⟨upd_same, same_new hD⟩ (fun _ _ _ _ => trivial) ?_ ?_
  · rintro i z H2 H3 hi ⟨h1, h2⟩ ⟨rfl, cp, hc, rfl⟩
    refine ⟨rfl, ?_⟩
    refine ⟨_, rfl, cp, _, rfl, rfl, _, h1, ?_, ?_, ?_⟩
    · rw [List.length_map]
      exact szK (by have := List.length_take_le' i dl; omega)
    · have hc : dl[i]? = some cp := by
        have hc : (SX.S dl).cps.toList[i]? = some cp := by rw [Array.getElem?_toList]; exact hc
        exact hc
      rw [upd_same, List.take_add_one, hc, List.map_append]; rfl
    · exact same_own h2 hD
  rintro H2 ⟨h1, h2⟩
  have eall : dl.take (SX.S dl).cps.size = dl := List.take_of_length_le (by have : (SX.S dl).cps.size = dl.length := hS; omega)
  rw [eall] at h1
  refine ⟨D, dl.map (fun c => decide (c ∈ digits10)), rfl, .of (by rw [List.map_map]; exact h1), _, rfl, ?_⟩
  have s2 := s1.trans h2
  rw [show ((dl.map (fun c => decide (c ∈ digits10))).all id) = dl.all (fun c => decide (c ∈ digits10)) by rw [List.all_map]; rfl]
  refine iteB (fun e3 => ?_) (fun e3 => ?_)
  · refine hn ?_ H2 s2
    have e3 : (!dl.all (fun c => decide (c ∈ digits10))) = true := e3
    rw [c2, show dl.all (fun c => decide (c ∈ digits10)) = false by simpa using e3]; rfl
  have e3 : dl.all (fun c => decide (c ∈ digits10)) = true := by
    have e3 : (!dl.all (fun c => decide (c ∈ digits10))) = false := e3
    simpa using e3
  rw [e3, Bool.true_and] at c2
  -- digits.startswith('0') and item != '0'
  refine ⟨_, rfl, ⟨_, rfl⟩, SX.S dl, _, rfl, rfl, _, rfl, ?_⟩
  have e0 : Txt.startswith (SX.S dl) "0" = decide (dl.head? = some 48) := starts1 (SX.S dl) 48
  rw [e0]
  obtain ⟨n, hnum⟩ := num_is (x := x) (by rw [hd]; exact l1) (by rw [hd]; exact l2) (by rw [hd]; exact e3)
  have ok : okNum x.cps.toList = true → Q (.int n) H2 := fun e => by
    have := k H2 s2
    unfold intOf at this
    rw [if_pos e, hnum] at this
    exact this
  refine iteB (fun e4 => ?_) (fun e4 => ?_)
  · refine ⟨_, rfl, rfl, _, rfl, ?_⟩
    have e6 : decide (x.cps.toList = [48]) = decide (V.str x = V.str "0") := by
      refine decide_eq_decide.mpr ⟨fun z => ?_, fun z => ?_⟩
      · exact congrArg V.str (ex.trans (congrArg SX.S z))
      · cases z; rfl
    refine iteB (fun e5 => ?_) (fun e5 => ?_)
    · refine hn ?_ H2 s2
      rw [c2, e4, e6]
      simpa using e5
    · refine ⟨_, rfl, x, n, rfl, hnum, by omega, ok ?_⟩
      rw [c2, e4, e6]
      simpa using e5
  · refine ⟨_, rfl, x, n, rfl, hnum, by omega, ok ?_⟩
    rw [c2, e4]; rfl
end
end Kd

set_option Elab.async false
set_option linter.all false
set_option maxRecDepth 100000
set_option maxHeartbeats 4000000
namespace Kd
open PySem PySem.Spec PyProof.Rows L2 Gs
def lnF (n : Int) (l : Addr) (i : Int) : List (Str × V) := [("number", .int n), ("words", .ref l), ("at", .int i)]
/-- at x a line: its number, its words, how many are taken -/
def LnAt (K : PySem.W.Frag) (C : Addr) (H : Hp) (x : Addr) (n : Int) (ws : List Str) (i : Nat) : Prop :=
  ∃ dx l : Addr, H x = some (.ins C dx (lnF n l i)) ∧ l ≠ x ∧ SqL K H l (ws.map V.str)
theorem LnAt.same {K : PySem.W.Frag} {C x : Addr} {H H' : Hp} {n : Int} {ws : List Str} {i : Nat} (h : LnAt K C H x n ws i) (s : Same H H') : LnAt K C H' x n ws i := by
  obtain ⟨dx, l, h1, h2, h3⟩ := h
  exact ⟨dx, l, s _ _ h1, h2, s.seq h3⟩
theorem LnAt.ext {K : PySem.W.Frag} {C x c : Addr} {H H' : Hp} {n : Int} {ws : List Str} {i : Nat} (h : LnAt K C H x n ws i) (nc : x ≠ c) (nl : ∀ dx l, H x = some (.ins C dx (lnF n l i)) → l ≠ c) (s : Ext c H H') : LnAt K C H' x n ws i := by
  obtain ⟨dx, l, h1, h2, h3⟩ := h
  exact ⟨dx, l, s _ _ nc h1, h2, s.sqL (nl _ _ h1) h3⟩
def oS : Option Str → V
  | none => .non
  | some x => .str x
section
variable {P : Program} {w : World} {K : PySem.W.Frag} {mg : Str → Option Value} {base : Heap}
def spLn (K : PySem.W.Frag) (C : Addr) (R : Addr → Int → List Str → Nat → Hp → VK → Prop) : Sp := fun vs H Q _ => ∃ (x : Addr) (n : Int) (ws : List Str) (i : Nat), vs = [.ref x] ∧ LnAt K C H x n ws i ∧ ws.length ≤ 1000000 ∧ R x n ws i H Q
abbrev spLeft (K : PySem.W.Frag) (C : Addr) : Sp := spLn K C fun _ _ ws i H Q => ∀ H', Same H H' → Q (.bl (decide (i < ws.length))) H'
abbrev spSeen (K : PySem.W.Frag) (C : Addr) : Sp := spLn K C fun _ _ ws i H Q => ∀ H', Same H H' → Q (oS ws[i]?) H'
abbrev spInteger (K : PySem.W.Frag) (C : Addr) : Sp := spLn K C fun _ _ ws i H Q => (∀ x ∈ ws, x.length ≤ 1000000) ∧ ∀ H', Same H H' → Q (oI (ws[i]?.bind intOf)) H'
abbrev spTake (K : PySem.W.Frag) (C : Addr) : Sp := spLn K C fun x n ws i H Q => ∃ y, ws[i]? = some y ∧ ∀ H', LnAt K C H' x n ws (i + 1) → Ext x H H' → Q (.str y) H'
theorem spLn_len {C : Addr} {R : Addr → Int → List Str → Nat → Hp → VK → Prop} {m : Str} : ∀ (vs : List V) (H : Hp) (Q : VK) (E : XK), spLn K C R vs H Q E → vs.length = [m].length := by
  rintro vs H Q E ⟨x, n, ws, i, rfl, _⟩; rfl
def spSkip (K : PySem.W.Frag) (C : Addr) : Sp := fun vs H Q _ => ∃ (x : Addr) (n : Int) (ws : List Str) (i : Nat) (y : Str), vs = [.ref x, .str y] ∧ LnAt K C H x n ws i ∧ ws.length ≤ 1000000 ∧
  (ws[i]? = some y → ∀ H', LnAt K C H' x n ws (i + 1) → Ext x H H' → Q (.bl true) H') ∧ (ws[i]? ≠ some y → ∀ H', Same H H' → Q (.bl false) H')
def spRefuse (K : PySem.W.Frag) (C D : Addr) : Sp := fun vs H Q E => ∃ (x : Addr) (n : Int) (ws : List Str) (i : Nat), vs = [.ref x] ∧ LnAt K C H x n ws i ∧
  ∀ d H', H d = none → Same H H' → H' d = some (.xd [("item", .int i), ("line", .int n)]) → E (.ref D) (some d) H'
theorem O_Line_is_left (T : Tx K mg w) : FnOk P w K mg base CX0 1 T.a_Line_is_left T.d_Line_is_left ["self"] (spLeft K T.c_Line) := by
  refine T.F_Line_is_left.ok sc_Line_is_left spLn_len (fun cdv A outer s H vs Q E hr h => ?_)
  obtain ⟨x, n, ws, i, rfl, ⟨dx, l, hx, nl, hS⟩, hz, k⟩ := h
  refine ⟨_, (pss_one (ps_ret (pe_cmpR op_lt (pe_fld (pv 0) rfl) (pe_callB call_len_seq (by rfl) T.z_len (by decide +kernel) (pa_cons (pe_fld (pv 0) rfl) pa_nil)) (nomark _)))), ?_⟩
  refine ⟨_, rfl, x, _, dx, _, _, rfl, hx, T.cl_Line, T.nF_Line_at, rfl, _, rfl, x, _, dx, _, _, rfl, hx, T.cl_Line, T.nF_Line_words, rfl, l, _, rfl, .inl hS, _, _, rfl, rfl, ?_⟩
  have := k H (Same.refl H)
  rwa [show decide (i < ws.length) = decide ((i : Int) < ((ws.map V.str).length : Int)) by rw [List.length_map]; exact decide_eq_decide.mpr (by omega)] at this
theorem O_Line_seen (T : Tx K mg w) : FnOk P w K mg base CX0 2 T.a_Line_seen T.d_Line_seen ["self"] (spSeen K T.c_Line) := by
  refine T.F_Line_seen.ok sc_Line_seen spLn_len (fun cdv A outer s H vs Q E hr h => ?_)
  obtain ⟨x, n, ws, i, rfl, hL, hz, k⟩ := h
  refine ⟨_, (pss_one (ps_ret (pe_ifExp (pt_val (pe_meth0 (pv 0) T.cl_Line T.me_Line_is_left (O_Line_is_left T) (hr.mono (by decide)) T.b_Line_is_left .nil pass0)) (pe_ix ix_list (pe_fld (pv 0) rfl) (pe_fld (pv 0) rfl) (fun _ _ => rfl)) pe_non))), ?_⟩
  have hL' := hL
  obtain ⟨dx, l, hx, nl, hS⟩ := hL
  refine ⟨_, rfl, x, dx, _, rfl, hx, rfl, x, n, ws, i, rfl, hL', hz, fun H1 s1 => ⟨_, rfl, ?_⟩⟩
  have k := k H1 s1
  refine ite2 (fun e => ?_) (fun e => ?_)
  · have e := of_decide_eq_true e
    have ey : ws[i]? = some ws[i] := List.getElem?_eq_getElem e
    rw [ey] at k
    refine ⟨_, rfl, x, _, dx, _, _, rfl, s1 _ _ hx, T.cl_Line, T.nF_Line_words, rfl, _, rfl, x, _, dx, _, _, rfl, s1 _ _ hx, T.cl_Line, T.nF_Line_at, rfl, l, _, _, .str ws[i], rfl, rfl, s1.seq hS, atI_nat (by rw [List.getElem?_map, ey]; rfl), k⟩
  · have ey : ws[i]? = none := List.getElem?_eq_none (by have e : ¬ i < ws.length := fun z => e (decide_eq_true z); omega)
    rw [ey] at k
    exact k
theorem O_Line_integer (T : Tx K mg w) : FnOk P w K mg base CX0 2 T.a_Line_integer T.d_Line_integer ["self"] (spInteger K T.c_Line) := by
  refine T.F_Line_integer.ok sc_Line_integer spLn_len (fun cdv A outer s H vs Q E hr h => ?_)
  obtain ⟨x, n, ws, i, rfl, hL, hz, hw, k⟩ := h
  refine ⟨_, (pss_one (ps_ret (pe_ifExp (pt_val (pe_meth0 (pv 0) T.cl_Line T.me_Line_is_left (O_Line_is_left T) (hr.mono (by decide)) T.b_Line_is_left .nil pass0)) (pe_call (O_integer_of T) (hr.mono (by decide)) (by rfl) T.m_integer_of T.F_integer_of.kp T.b_integer_of .nil pass0 (pa_cons (pe_ix ix_list (pe_fld (pv 0) rfl) (pe_fld (pv 0) rfl) (fun _ _ => rfl)) pa_nil)) pe_non))), ?_⟩
  have hL' := hL
  obtain ⟨dx, l, hx, nl, hS⟩ := hL
  refine ⟨_, rfl, x, dx, _, rfl, hx, rfl, x, n, ws, i, rfl, hL', hz, fun H1 s1 => ⟨_, rfl, ?_⟩⟩
  refine ite2 (fun e => ?_) (fun e => ?_)
  · have e := of_decide_eq_true e
    have ey : ws[i]? = some ws[i] := List.getElem?_eq_getElem e
    rw [ey] at k
    refine ⟨_, rfl, x, _, dx, _, _, rfl, s1 _ _ hx, T.cl_Line, T.nF_Line_words, rfl, _, rfl, x, _, dx, _, _, rfl, s1 _ _ hx, T.cl_Line, T.nF_Line_at, rfl, l, _, _, .str ws[i], rfl, rfl, s1.seq hS, atI_nat (by rw [List.getElem?_map, ey]; rfl), ?_⟩
    exact ⟨_, rfl, hw _ (List.getElem_mem e), fun H2 s2 => k H2 (s1.trans s2)⟩
  · have ey : ws[i]? = none := List.getElem?_eq_none (by have e : ¬ i < ws.length := fun z => e (decide_eq_true z); omega)
    rw [ey] at k
    exact k H1 s1
theorem O_Line_take (T : Tx K mg w) : FnOk P w K mg base CX0 1 T.a_Line_take T.d_Line_take ["self"] (spTake K T.c_Line) := by
  refine T.F_Line_take.ok sc_Line_take spLn_len (fun cdv A outer s H vs Q E hr h => ?_)
  obtain ⟨x, n, ws, i, rfl, ⟨dx, l, hx, nl, hS⟩, hz, y, hy, k⟩ := h
  refine ⟨_, (pss_cons (ps_fldaug (pv 0) pe_int in_add)
      (pss_one (ps_ret (pe_ix ix_list (pe_fld (pv 0) rfl) (pe_op op_sub (pe_fld (pv 0) rfl) pe_int) (fun _ _ => rfl))))), ?_⟩
  refine ⟨_, rfl, x, _, dx, _, _, rfl, hx, T.cl_Line, T.nF_Line_at, rfl, _, _, rfl, rfl, dx, _, hx, Nat.le_of_ble_eq_true rfl, ?_⟩
  have h1 : upd H x (.ins T.c_Line dx (lnF n l (i + 1 : Nat))) x = some (.ins T.c_Line dx (lnF n l (i + 1 : Nat))) := upd_same
  have h2 : SqL K (upd H x (.ins T.c_Line dx (lnF n l (i + 1 : Nat)))) l (ws.map V.str) := (Ext.bag (c := x)).sqL nl hS
  refine ⟨_, rfl, x, _, dx, _, _, rfl, h1, T.cl_Line, T.nF_Line_words, rfl, _, rfl, x, _, dx, _, _, rfl, h1, T.cl_Line, T.nF_Line_at, rfl, _, _, rfl, rfl, l, _, _, .str y, rfl, rfl, h2, ?_, k _ ⟨dx, l, h1, nl, h2⟩ Ext.bag⟩
  rw [show ((i + 1 : Nat) : Int) - 1 = (i : Int) by omega]
  exact atI_nat (by rw [List.getElem?_map, hy]; rfl)
theorem O_Line_skip (T : Tx K mg w) : FnOk P w K mg base CX0 3 T.a_Line_skip T.d_Line_skip ["self", "word"] (spSkip K T.c_Line) := by
  refine T.F_Line_skip.ok sc_Line_skip (fun vs H Q E h => ?_) (fun cdv A outer s H vs Q E hr h => ?_)
  · obtain ⟨x, n, ws, i, y, rfl, _⟩ := h; rfl
  obtain ⟨x, n, ws, i, y, rfl, hL, hz, k1, k2⟩ := h
  refine ⟨_, (pss_cons (ps_if (pt_cmpR op_ne (pe_meth0 (pv 0) T.cl_Line T.me_Line_seen (O_Line_seen T) (hr.mono (by decide)) T.b_Line_seen .nil pass0) (pv 1) (nomark _)) (pss_one (ps_ret pe_bl)) pss_nil)
      (pss_cons (ps_fldaug (pv 0) pe_int in_add)
      (pss_one (ps_ret pe_bl)))), ?_⟩
  have hL' := hL
  obtain ⟨dx, l, hx, nl, hS⟩ := hL
  refine ⟨_, rfl, x, dx, _, rfl, hx, rfl, x, n, ws, i, rfl, hL', hz, fun H1 s1 => ⟨_, rfl, by cases ws[i]? <;> rfl, _, rfl, ?_⟩⟩
  refine iteB (fun e => ?_) (fun e => ?_)
  · refine k2 (fun z => ?_) H1 s1
    rw [z] at e
    have e : (!decide (V.str y = V.str y)) = true := e
    rw [decide_eq_true rfl] at e; cases e
  · have ey : ws[i]? = some y := by
      have e : (!decide (oS ws[i]? = V.str y)) = false := e
      have e : decide (oS ws[i]? = V.str y) = true := by simpa using e
      have e := of_decide_eq_true e
      cases z : ws[i]? with
      | none => rw [z] at e; cases e
      | some u => rw [z] at e; cases e; rfl
    have hx1 := s1 _ _ hx
    refine ⟨_, rfl, x, _, dx, _, _, rfl, hx1, T.cl_Line, T.nF_Line_at, rfl, _, _, rfl, rfl, dx, _, hx1, Nat.le_of_ble_eq_true rfl, ?_⟩
    exact k1 ey _ ⟨dx, l, upd_same, nl, (Ext.bag (c := x)).sqL nl (s1.seq hS)⟩ ((Ext.of s1).trans Ext.bag)
theorem pX {X : Cx} {E : XK} {W : WX} (tk : Takes X W) (hW : ∀ cls d σ H, E cls d H → W cls d σ H) : Passes (L2.CX X.prog X.w) X E := passes_call tk hW
theorem O_Line_refuse (T : Tx K mg w) : FnOk P w K mg base (L2.CX P w) 3 T.a_Line_refuse T.d_Line_refuse ["self"] (spRefuse K T.c_Line T.c_BadText) := by
  refine T.F_Line_refuse.okX sc_Line_refuse (fun vs H Q E h => ?_) (fun cdv A outer s H vs Q E hr h => ?_)
  · obtain ⟨x, n, ws, i, rfl, _⟩ := h; rfl
  obtain ⟨x, n, ws, i, rfl, ⟨dx, l, hx, nl, hS⟩, k⟩ := h
  refine ⟨_, (pss_one (ps_raise rfl (takes_of rfl rfl rfl rfl) (pmk_oex T.ox_BadText T.ic_BadText T.ti_BadText (O_BadText___init__ T) (hr.mono (by decide)) T.b_BadText___init__ .nil pass0 (by rfl) T.m_BadText (pa_cons (pe_fld (pv 0) rfl) (pa_cons (pe_fld (pv 0) rfl) pa_nil))))), ?_⟩
  refine ⟨_, rfl, x, _, dx, _, _, rfl, hx, T.cl_Line, T.nF_Line_number, rfl, _, rfl, x, _, dx, _, _, rfl, hx, T.cl_Line, T.nF_Line_at, rfl, Nat.le_of_ble_eq_true rfl, ?_⟩
  exact mk_err2 fun d H' h1 h2 h3 => k d H' h1 h2 h3
end
end Kd

set_option Elab.async false
set_option linter.all false
set_option maxRecDepth 100000
set_option maxHeartbeats 4000000
namespace Kd
open PySem PySem.Spec PyProof.Rows L2 Gs
theorem spl_count (S : List Nat) : ∀ (l : List Nat) (k : Nat) (acc : List Nat), (TL.spl S k acc l).length ≤ l.length + 1
  | [], k, acc => by rw [TL.spl_nil]; exact Nat.le_refl _
  | c :: r, 0, acc => by
    show (if TL.pre S (c :: r) = true then acc :: TL.spl S (S.length - 1) [] r else TL.spl S 0 (acc ++ [c]) r).length ≤ _
    split
    · have := spl_count S r (S.length - 1) []
      simp only [List.length_cons]; omega
    · have := spl_count S r 0 (acc ++ [c])
      simp only [List.length_cons]; omega
  | c :: r, k + 1, acc => by
    show (TL.spl S k acc r).length ≤ _
    have := spl_count S r k acc
    simp only [List.length_cons]; omega
theorem spl_size (S : List Nat) : ∀ (l : List Nat) (k : Nat) (acc p : List Nat), p ∈ TL.spl S k acc l → p.length ≤ acc.length + l.length
  | [], k, acc, p, h => by rw [TL.spl_nil] at h; rw [List.mem_singleton.mp h]; exact Nat.le_refl _
  | c :: r, 0, acc, p, h => by
    have h : p ∈ (if TL.pre S (c :: r) = true then acc :: TL.spl S (S.length - 1) [] r else TL.spl S 0 (acc ++ [c]) r) := h
    split at h
    · rcases List.mem_cons.mp h with e | h
      · rw [e]; omega
      · have := spl_size S r (S.length - 1) [] p h
        simp only [List.length_cons, List.length_nil] at *; omega
    · have := spl_size S r 0 (acc ++ [c]) p h
      simp only [List.length_cons, List.length_append, List.length_nil] at *; omega
  | c :: r, k + 1, acc, p, h => by
    have := spl_size S r k acc p h
    simp only [List.length_cons]; omega
theorem split_1 (x : Str) {c : Nat} (h : c < 256) : Txt.split x (SX.S [c]) = (TL.spl [c] 0 [] x.cps.toList).map SX.S := by
  have := SX.split_S (a := x.cps.toList) (b := [c]) (by simp) (by simpa using h)
  rwa [SX.S_tl] at this
theorem split_len (x : Str) {c : Nat} (h : c < 256) : (Txt.split x (SX.S [c])).length ≤ x.length + 1 := by
  rw [split_1 x h, List.length_map]
  exact spl_count _ _ _ _
theorem split_row (x : Str) {c : Nat} (h : c < 256) {y : Str} (hy : y ∈ Txt.split x (SX.S [c])) : y.length ≤ x.length := by
  rw [split_1 x h] at hy
  obtain ⟨p, hp, rfl⟩ := List.mem_map.mp hy
  have := spl_size [c] _ _ _ _ hp
  rw [SX.S_len]
  have e : x.cps.toList.length = x.length := Array.length_toList
  simp only [List.length_nil] at this
  omega
section
variable {P : Program} {w : World} {K : PySem.W.Frag} {mg : Str → Option Value} {base : Heap}
/-- a new line's __init__: its list of words is new -/
def spLineI (C : Addr) : Sp := fun vs H Q _ => ∃ (x dx : Addr) (n : Int) (row : Str), vs = [.ref x, .int n, .str row] ∧ H x = some (.ins C dx []) ∧ row.length ≤ 1000000 ∧
  ∀ l H', H l = none → H' x = some (.ins C dx (lnF n l 0)) → H' l = some (.lst ((Txt.split row " ").map V.str)) → Ext x H H' → Q .non H'
theorem O_Line___init__ (T : Tx K mg w) : FnOk P w K mg base CX0 1 T.a_Line___init__ T.d_Line___init__ ["self", "number", "row"] (spLineI T.c_Line) := by
  refine T.F_Line___init__.ok sc_Line___init__ (fun vs H Q E h => ?_) (fun cdv A outer s H vs Q E hr h => ?_)
  · obtain ⟨x, dx, n, row, rfl, _⟩ := h; rfl
  obtain ⟨x, dx, n, row, rfl, hx, hz, k⟩ := h
  refine ⟨_, (pss_cons (ps_fld (pv 0) (pv 1) rfl)
      (pss_cons (ps_fld (pv 0) (pe_split (pv 2) pe_str) rfl)
      (pss_one (ps_fld (pv 0) pe_int rfl)))), ?_⟩
  refine ⟨_, rfl, _, rfl, x, _, dx, _, rfl, hx, T.cl_Line, T.nF_Line_number, Nat.le_of_ble_eq_true rfl, ?_⟩
  have h1 : upd H x (.ins T.c_Line dx [("number", .int n)]) x = some (.ins T.c_Line dx [("number", .int n)]) := upd_same
  have e1 : Ext x H (upd H x (.ins T.c_Line dx [("number", .int n)])) := Ext.bag
  change tSeq _ _ _ _ (upd H x (.ins T.c_Line dx [("number", .int n)]))
  generalize upd H x (.ins T.c_Line dx [("number", .int n)]) = H1 at h1 e1 ⊢
  refine ⟨_, rfl, ⟨_, rfl⟩, row, _, rfl, rfl, rfl, Nat.le_trans (Nat.add_le_add_right hz 2) (by decide), fun l hl => ?_⟩
  have nl : l ≠ x := (ne_of_none h1 hl).symm
  have hl0 : H l = none := by
    cases e : H l with
    | none => rfl
    | some o => rw [e1 l o nl e] at hl; cases hl
  refine ⟨_, rfl, x, _, dx, _, rfl, by rw [upd_ne nl.symm]; exact h1, T.cl_Line, T.nF_Line_words, Nat.le_of_ble_eq_true rfl, ?_⟩
  refine ⟨_, rfl, x, _, dx, _, rfl, upd_same, T.cl_Line, T.nF_Line_at, Nat.le_of_ble_eq_true rfl, ?_⟩
  refine k l _ hl0 upd_same (by rw [upd_ne nl, upd_ne nl, upd_same]) fun b o nb e => ?_
  rw [upd_ne nb, upd_ne nb, upd_ne (ne_of_none (e1 b o nb e) hl)]
  exact e1 b o nb e
/-- the lines of a text, each as it was made -/
def spLines (K : PySem.W.Frag) (C D : Addr) : Sp := fun vs H Q E => ∃ (v : V) (t : Value), vs = [v] ∧ TyX K H v t ∧
  ((∃ x : Str, v = .str x ∧ x.length ≤ 1000000 ∧ ∀ p (rs : List Addr) H', H p = none → Same H H' → H' p = some (.lst (rs.map V.ref)) → rs.length = (Txt.split x "\n").length →
      (∀ (i : Nat) r, rs[i]? = some r → ∃ row, (Txt.split x "\n")[i]? = some row ∧ H r = none ∧ ∃ dx l, H l = none ∧ l ≠ r ∧ H' r = some (.ins C dx (lnF (i : Int) l 0)) ∧ H' l = some (.lst ((Txt.split row " ").map V.str))) → Q (.ref p) H') ∨
    (PySem.W.kitOne K t (.type "str") = some false ∧ ∀ d H', H d = none → Same H H' → H' d = some (.xd [("item", .int 0), ("line", .int 0)]) → E (.ref D) (some d) H'))
theorem O_lines_of (T : Tx K mg w) : FnOk P w K mg base (L2.CX P w) 3 T.a_lines_of T.d_lines_of ["text"] (spLines K T.c_Line T.c_BadText) := by
  refine T.F_lines_of.okX sc_lines_of (fun vs H Q E h => ?_) (fun cdv A outer s H vs Q E hr h => ?_)
  · obtain ⟨v, t, rfl, _⟩ := h; rfl
  obtain ⟨v, t, rfl, ty, h⟩ := h
  refine ⟨_, (pss_cons (ps_if (pt_not (pt_val (pe_callB call_isi (by rfl) T.z_isinstance (by decide +kernel) (pa_cons (pv 0) (pa_cons (pe_bltn (v := .ty "str") (u := .type "str") (by rfl) T.z_str (by decide +kernel) rfl) pa_nil))))) (pss_one (ps_raise rfl (takes_of rfl rfl rfl rfl) (pmk_oex T.ox_BadText T.ic_BadText T.ti_BadText (O_BadText___init__ T) (hr.mono (by decide)) T.b_BadText___init__ .nil pass0 (by rfl) T.m_BadText (pa_cons pe_int (pa_cons pe_int pa_nil))))) pss_nil)
      (pss_one (ps_ret (pe_lc (own := [("number", 1), ("row", 2)]) (g := (gTup K 2 (gCons (gName 1) (gCons (gName 2) gNil)))) rfl sc_lines_of.nd (pi_enum (by rfl) T.z_enumerate (pa_cons (pe_split (pv 0) pe_str) pa_nil)) (blkOk_by (N := n_lines_of) (sc := defScope s_lines_of) (by decide +kernel)) (fun _ _ _ _ _ => (pg_tup rfl (pgs_cons (pg_name (i := 1) sc_lines_of.nd rfl (Or.inl rfl)) (pgs_cons (pg_name (i := 2) sc_lines_of.nd rfl (Or.inl rfl)) pgs_nil)))) (fun _ _ _ _ _ => pts_nil) (fun _ _ _ _ _ => (pe_make T.mk_Line (O_Line___init__ T) (hr.mono (by decide)) (by rfl) T.m_Line T.b_Line___init__ .nil pass0 (pa_cons (pv 1) (pa_cons (pv 2) pa_nil)))))))), ?_⟩
  rcases h with ⟨x, rfl, hz, k⟩ | ⟨hk, k⟩
  rotate_left
  · refine ⟨_, rfl, _, .ty "str", t, .type "str", false, rfl, .ty _, ty, hk, _, rfl, iteT ?_⟩
    refine ⟨Nat.le_of_ble_eq_true rfl, ?_⟩
    exact mk_err2 fun d H' h1 h2 h3 => k d H' h1 h2 h3
  refine ⟨_, rfl, _, .ty "str", .type "str", .type "str", true, rfl, .ty _, .base (.str x), kit_ty rfl, _, rfl, iteF ?_⟩
  refine ⟨_, rfl, ⟨_, rfl⟩, x, _, rfl, rfl, rfl, Nat.le_trans (Nat.add_le_add_right hz 2) (by decide), fun l0 hl0 => ?_⟩
  have h0 : upd H l0 (.lst ((Txt.split x "\n").map V.str)) l0 = some (.lst ((Txt.split x "\n").map V.str)) := upd_same
  have s0 : Same H (upd H l0 (.lst ((Txt.split x "\n").map V.str))) := same_new hl0
  generalize upd H l0 (.lst ((Txt.split x "\n").map V.str)) = H1 at h0 s0 ⊢
  refine ⟨l0, _, rfl, .of h0, fun D hD => ?_⟩
  have nD : l0 ≠ D := ne_of_none h0 hD
  refine lc_it (walk_enum (K := K) (a := l0) (xs := (Txt.split x "\n").map V.str)) (fun i H' => Same H1 H' ∧ ∃ rs : List Addr, rs.length = i ∧ H' D = some (.lst (rs.map V.ref)) ∧
      ∀ (j : Nat) r, rs[j]? = some r → ∃ row, (Txt.split x "\n")[j]? = some row ∧ H r = none ∧ r ≠ D ∧ ∃ dx l, H l = none ∧ l ≠ D ∧ l ≠ r ∧ H' r = some (.ins T.c_Line dx (lnF (j : Int) l 0)) ∧ H' l = some (.lst ((Txt.split row " ").map V.str))) ?_ ?_ ?_ ?_
  · exact ⟨same_new hD, [], rfl, upd_same, fun j r e => by simp at e⟩
  · rintro i H' _ ⟨h1, _⟩
    exact .of (h1 _ _ h0)
  · rintro i y H2 H3 hi ⟨s2, rs, hl, hD2, hrs⟩ ⟨T0, u, z, rfl, hT, rfl, hu, hz'⟩
    obtain rfl : V.int (i : Nat) = u := Option.some.inj hu
    obtain ⟨row, hrow, rfl⟩ : ∃ row, (Txt.split x "\n")[i]? = some row ∧ V.str row = z := by
      have hz' : ((Txt.split x "\n").map V.str)[i]? = some z := hz'
      rw [List.getElem?_map] at hz'
      cases e : (Txt.split x "\n")[i]? with
      | none => rw [e] at hz'; cases hz'
      | some row => rw [e] at hz'; exact ⟨row, rfl, Option.some.inj hz'⟩
    refine ⟨T0, _, rfl, .of upd_same, rfl, _, _, rfl, _, _, rfl, rfl, rfl, ?_⟩
    have s3 : Same H2 (upd H2 T0 (.tup [.int (i : Nat), .str row])) := same_new hT
    have s13 := s2.trans s3
    have hD3 := s3 _ _ hD2
    generalize upd H2 T0 (.tup [.int (i : Nat), .str row]) = H3 at s3 s13 hD3 ⊢
    refine ⟨_, rfl, _, rfl, fun r dx hr hdx ndx => ?_⟩
    have nrD : r ≠ D := (ne_of_none hD3 hr).symm
    refine ⟨r, dx, i, row, rfl, upd_same, ?_, fun l H4 hl4 h1 h2 e4 => ?_⟩
    · exact Nat.le_trans (split_row x (c := 10) (by decide) (List.mem_of_getElem? hrow)) hz
    have ndr : r ≠ dx := ndx.symm
    have old : ∀ b o, H3 b = some o → H4 b = some o := fun b o e => by
      have nb := ne_of_none e hr
      refine e4 b o nb ?_
      rw [upd_ne nb, upd_ne (ne_of_none e hdx)]; exact e
    have hl3 : H3 l = none := by
      have nlr : l ≠ r := fun z => by rw [z, upd_same] at hl4; cases hl4
      have nld : l ≠ dx := fun z => by rw [z, upd_ne ndx, upd_same] at hl4; cases hl4
      rwa [upd_ne nlr, upd_ne nld] at hl4
    have nlr : l ≠ r := fun z => by rw [z, upd_same] at hl4; cases hl4
    have nlD : l ≠ D := (ne_of_none hD3 hl3).symm
    have nn : ∀ b, H3 b = none → H b = none := fun b e => by
      cases z : H b with
      | none => rfl
      | some o => rw [s13 _ _ (s0 _ _ z)] at e; cases e
    refine ⟨rfl, rs.map V.ref, old _ _ hD3, ?_, fun b o e => ?_, rs ++ [r], by rw [List.length_append, hl]; rfl, by rw [upd_same, List.map_append]; rfl, fun j r' e => ?_⟩
    · rw [List.length_map, hl]
      have := split_len x (c := 10) (by decide)
      have hi : i < ((Txt.split x "\n").map V.str).length := hi
      rw [List.length_map] at hi
      exact Nat.lt_of_lt_of_le (Nat.lt_of_lt_of_le hi (Nat.le_trans this (Nat.add_le_add_right hz 1))) (by decide)
    · rw [upd_ne (ne_of_none e hD)]; exact old b o (s13 b o e)
    · by_cases hj : j < rs.length
      · rw [List.getElem?_append_left hj] at e
        obtain ⟨row', a1, a2, a3, dx', l', a4, a5, a6, a7, a8⟩ := hrs j r' e
        exact ⟨row', a1, a2, a3, dx', l', a4, a5, a6, by rw [upd_ne a3]; exact old _ _ (s3 _ _ a7), by rw [upd_ne a5]; exact old _ _ (s3 _ _ a8)⟩
      · rw [List.getElem?_append_right (by omega)] at e
        have hj' : j = i := by
          rcases Nat.lt_or_ge (j - rs.length) 1 with z | z
          · omega
          · rw [List.getElem?_eq_none (by simpa using z)] at e; cases e
        subst hj'
        rw [hl, Nat.sub_self] at e
        obtain rfl : r = r' := Option.some.inj e
        exact ⟨row, hrow, nn r hr, nrD, dx, l, nn l hl3, nlD, nlr, by rw [upd_ne nrD]; exact h1, by rw [upd_ne nlD]; exact h2⟩
  · rintro H2 ⟨s2, rs, hl, hD2, hrs⟩
    refine k D rs H2 ?_ (s0.trans s2) hD2 (by rw [hl, List.length_map]) fun j r e => ?_
    · cases z : H D with
      | none => rfl
      | some o => rw [s0 _ _ z] at hD; cases hD
    · obtain ⟨row', a1, a2, a3, dx', l', a4, a5, a6, a7, a8⟩ := hrs j r e
      exact ⟨row', a1, a2, dx', l', a4, a6, a7, a8⟩
end
end Kd

set_option Elab.async false
set_option linter.all false
set_option maxRecDepth 100000
set_option maxHeartbeats 4000000
namespace Kd
open PySem PySem.Spec PyProof.Rows L2 Gs
section
variable {P : Program} {w : World} {K : PySem.W.Frag} {mg : Str → Option Value} {base : Heap}
def lpart : PyData → Bool := inB (some (-3)) (some 3)
def isZ : PyData → Bool
  | .int z => decide (z = 0)
  | _ => false
def lpair : PyData → PyData → Bool := fun a b => lpart a && lpart b && !(isZ a && isZ b)
def isLeap : PyData → Bool
  | .list [a, b] => lpair a b
  | .tuple [a, b] => lpair a b
  | _ => false
theorem leap_no {ds : List PyData} (h : ds.length ≠ 2) : isLeap (.list ds) = false ∧ isLeap (.tuple ds) = false := by
  match ds with
  | [] => exact ⟨rfl, rfl⟩
  | [_] => exact ⟨rfl, rfl⟩
  | [_, _] => exact absurd rfl h
  | _ :: _ :: _ :: _ => exact ⟨rfl, rfl⟩
theorem O_is_leap_part (T : Tx K mg w) : FnOk P w K mg base CX0 3 T.a_is_leap_part T.d_is_leap_part ["value"] (spB K lpart) := by
  refine T.F_is_leap_part.ok sc_is_leap_part spB_len (fun cdv A outer s H vs Q E hr h => ?_)
  obtain ⟨c, v, d, rfl, hd, k⟩ := h
  obtain ⟨tG, hG⟩ := T.g_LEAP
  refine ⟨_, (pss_one (ps_ret (pe_call (O_is_within T) (hr.mono (by decide)) (by rfl) T.m_is_within T.F_is_within.kp T.b_is_within .nil pass0 (pa_cons (pv 0) (pa_cons (pe_un un_neg (pe_glob (v := .int 3) (by rfl) hG ⟨_, rfl⟩)) (pa_cons (pe_glob (v := .int 3) (by rfl) hG ⟨_, rfl⟩) pa_nil)))))), ?_⟩
  exact ⟨_, rfl, _, rfl, c, v, d, some (-3), some 3, rfl, hd, k⟩
def steps4 : List Str := ["right", "left", "up", "down"]
def isRide : PyData → Bool
  | .str x => decide (x ∈ steps4)
  | _ => false
theorem step_in (T : Tx K mg w) (z : Str) : ∃ r, PySem.W.nsIn K T.t_S z = some r ∧ r.isSome = decide (z ∈ steps4) := by
  rcases T.w_S.tells z with ⟨i, v, u, h1, h2, _⟩ | ⟨h1, h2⟩
  · refine ⟨_, h2, ?_⟩
    have hm : z ∈ steps4 := by
      have := List.mem_map_of_mem (f := Prod.fst) (List.mem_of_getElem? h1)
      exact this
    rw [decide_eq_true hm]; rfl
  · refine ⟨_, h2, ?_⟩
    have hm : ¬ z ∈ steps4 := fun hm => by
      have hm : z ∈ ([("right", V.ref T.t_R), ("left", .ref T.t_L), ("up", .ref T.t_U), ("down", .ref T.t_D)] : List (Str × V)).map Prod.fst := hm
      obtain ⟨⟨a, v⟩, h3, rfl⟩ := List.mem_map.mp hm
      exact h1 v h3
    rw [decide_eq_false hm]; rfl
theorem O_is_ride (T : Tx K mg w) : FnOk P w K mg base CX0 1 T.a_is_ride T.d_is_ride ["value"] (spB K isRide) := by
  refine T.F_is_ride.ok sc_is_ride spB_len (fun cdv A outer s H vs Q E hr h => ?_)
  obtain ⟨c, v, d, rfl, hd, k⟩ := h
  obtain ⟨es, nS, DS, _, _⟩ := T.w_S.ex
  refine ⟨_, (pss_one (ps_ret (pe_and (pe_callB call_isi (by rfl) T.z_isinstance (by decide +kernel) (pa_cons (pv 0) (pa_cons (pe_bltn (v := .ty "str") (u := .type "str") (by rfl) T.z_str (by decide +kernel) rfl) pa_nil))) (pe_one (pe_cmpR (op_in_kd DS) (pv 0) (pe_glob (v := .ref T.t_S) (by rfl) T.g_S rfl) (by rfl)))))), ?_⟩
  refine ⟨_, rfl, _, .ty "str", .type (tyN _), .type "str", _, rfl, .ty _, ty_of hd, kit_ty (kS _), _, rfl, ?_⟩
  have k := k H (Same.refl H)
  cases hd with
  | str x =>
    obtain ⟨r, hr1, hr2⟩ := step_in T x
    refine iteT ⟨_, rfl, x, r, rfl, rfl, hr1, ?_⟩
    rw [hr2]; exact k
  | _ => exact iteF k
theorem lpart_int {c : Addr} {H : Hp} {v : V} {d : PyData} (h : DV K c H v d) (e : lpart d = true) : ∃ i, v = .int i ∧ d = .int i := by
  cases h with
  | int i => exact ⟨i, rfl, rfl⟩
  | _ => cases e
theorem O_is_leap (T : Tx K mg w) : FnOk P w K mg base CX0 4 T.a_is_leap T.d_is_leap ["value"] (spB K isLeap) := by
  refine T.F_is_leap.ok sc_is_leap spB_len (fun cdv A outer s H vs Q E hr h => ?_)
  obtain ⟨c, v, d, rfl, hd, k⟩ := h
  refine ⟨_, (pss_cons (ps_if (PW.pt (pw_or (pt_not (pt_val (pe_call (O_is_list T) (hr.mono (by decide)) (by rfl) T.m_is_list T.F_is_list.kp T.b_is_list .nil pass0 (pa_cons (pv 0) pa_nil)))) (pw_or1 (pt_cmpR op_ne (pe_callB call_len (by rfl) T.z_len (by decide +kernel) (pa_cons (pv 0) pa_nil)) pe_int (nomark _))))) (pss_one (ps_ret pe_bl)) pss_nil)
      (pss_cons (ps_asg (pv 0) (pg_or (pg_unl rfl (pgs_cons (pg_name (i := 1) sc_is_leap.nd rfl (Or.inl rfl)) (pgs_cons (pg_name (i := 2) sc_is_leap.nd rfl (Or.inl rfl)) pgs_nil))) (pg_tup rfl (pgs_cons (pg_name (i := 1) sc_is_leap.nd rfl (Or.inl rfl)) (pgs_cons (pg_name (i := 2) sc_is_leap.nd rfl (Or.inl rfl)) pgs_nil)))))
      (pss_one (ps_ret (pe_and (pe_call (O_is_leap_part T) (hr.mono (by decide)) (by rfl) T.m_is_leap_part T.F_is_leap_part.kp T.b_is_leap_part .nil pass0 (pa_cons (pv 1) pa_nil)) (pe_and (pe_call (O_is_leap_part T) (hr.mono (by decide)) (by rfl) T.m_is_leap_part T.F_is_leap_part.kp T.b_is_leap_part .nil pass0 (pa_cons (pv 2) pa_nil)) (pe_one (pe_or (pe_cmpR op_ne (pv 1) pe_int (nomark _)) (pe_one (pe_cmpR op_ne (pv 2) pe_int (nomark _))))))))))), ?_⟩
  refine ⟨_, rfl, c, v, d, rfl, hd, fun H1 s1 => ⟨_, rfl, ?_⟩⟩
  have hd1 := hd.up (Ext.of s1)
  replace k := fun H' s2 => k H' (s1.trans s2)
  cases hd1 with
  | @lst a xs ds na hs hv =>
    refine iteF ⟨_, rfl, _, _, rfl, .inl ⟨xs, hs, rfl⟩, rfl, _, rfl, ?_⟩
    refine iteB (fun e => ?_) (fun e => ?_)
    · have e2 : ds.length ≠ 2 := fun z => by
        have e : (!decide (V.int xs.length = V.int 2)) = true := e
        rw [hv.len, z] at e; cases e
      have := k H1 (Same.refl H1)
      rw [(leap_no e2).1] at this
      exact this
    · have e2 : xs.length = 2 := by
        have e : (!decide (V.int xs.length = V.int 2)) = false := e
        have e : decide (V.int xs.length = V.int 2) = true := by simpa using e
        have := V.int.inj (of_decide_eq_true e); omega
      obtain ⟨x, y, rfl⟩ := two_of e2
      cases hv with
      | cons hx hv =>
      cases hv with
      | cons hy hv =>
      cases hv with
      | nil =>
      rename_i dx dy
      refine ⟨_, rfl, .inl ⟨a, _, rfl, hs, rfl, _, _, rfl, _, _, rfl, rfl, ?_⟩⟩
      refine ⟨_, rfl, c, x, dx, rfl, hx, fun H2 s2 => ⟨_, rfl, ?_⟩⟩
      have hy2 := hy.up (Ext.of (c := c) s2)
      refine iteB (fun e3 => ?_) (fun e3 => ?_)
      rotate_left
      · have := k H2 s2
        simp only [isLeap, lpair, e3, Bool.false_and] at this
        exact this
      refine ⟨_, rfl, c, y, dy, rfl, hy2, fun H3 s3 => ⟨_, rfl, ?_⟩⟩
      refine iteB (fun e4 => ?_) (fun e4 => ?_)
      rotate_left
      · have := k H3 (s2.trans s3)
        simp only [isLeap, lpair, e3, e4, Bool.true_and, Bool.false_and] at this
        exact this
      obtain ⟨i, rfl, rfl⟩ := lpart_int hx e3
      obtain ⟨j, rfl, rfl⟩ := lpart_int hy2 e4
      have := k H3 (s2.trans s3)
      simp only [isLeap, lpair, e3, e4, Bool.true_and] at this
      refine ⟨_, rfl, rfl, _, rfl, ?_⟩
      refine iteB (fun e5 => ?_) (fun e5 => ?_)
      · have e5 : (!decide (V.int i = V.int 0)) = true := e5
        have : isZ (.int i) = false := by
          show decide (i = 0) = false
          refine decide_eq_false fun z => ?_
          rw [z] at e5; cases e5
        simp only [this, Bool.false_and, Bool.not_false] at *
        exact ‹Q (V.bl true) H3›
      · have e5 : (!decide (V.int i = V.int 0)) = false := e5
        have e6 : decide (V.int i = V.int 0) = true := by simpa using e5
        have e7 : isZ (.int i) = true := by
          show decide (i = 0) = true
          exact decide_eq_true (V.int.inj (of_decide_eq_true e6))
        rw [e7, Bool.true_and] at this
        refine ⟨_, rfl, rfl, ?_⟩
        have e8 : (!decide (V.int j = V.int 0)) = !isZ (.int j) := by
          show _ = !decide (j = 0)
          rw [show decide (V.int j = V.int 0) = decide (j = 0) from decide_eq_decide.mpr ⟨V.int.inj, congrArg V.int⟩]
        rw [← e8] at this
        exact this
  | @tup a xs ds na hs hv =>
    refine iteF ⟨_, rfl, _, _, rfl, .inr ⟨xs, hs, rfl⟩, rfl, _, rfl, ?_⟩
    refine iteB (fun e => ?_) (fun e => ?_)
    · have e2 : ds.length ≠ 2 := fun z => by
        have e : (!decide (V.int xs.length = V.int 2)) = true := e
        rw [hv.len, z] at e; cases e
      have := k H1 (Same.refl H1)
      rw [(leap_no e2).2] at this
      exact this
    · have e2 : xs.length = 2 := by
        have e : (!decide (V.int xs.length = V.int 2)) = false := e
        have e : decide (V.int xs.length = V.int 2) = true := by simpa using e
        have := V.int.inj (of_decide_eq_true e); omega
      obtain ⟨x, y, rfl⟩ := two_of e2
      cases hv with
      | cons hx hv =>
      cases hv with
      | cons hy hv =>
      cases hv with
      | nil =>
      rename_i dx dy
      refine ⟨_, rfl, .inr ⟨a, _, rfl, hs, rfl, _, _, rfl, _, _, rfl, rfl, ?_⟩⟩
      refine ⟨_, rfl, c, x, dx, rfl, hx, fun H2 s2 => ⟨_, rfl, ?_⟩⟩
      have hy2 := hy.up (Ext.of (c := c) s2)
      refine iteB (fun e3 => ?_) (fun e3 => ?_)
      rotate_left
      · have := k H2 s2
        simp only [isLeap, lpair, e3, Bool.false_and] at this
        exact this
      refine ⟨_, rfl, c, y, dy, rfl, hy2, fun H3 s3 => ⟨_, rfl, ?_⟩⟩
      refine iteB (fun e4 => ?_) (fun e4 => ?_)
      rotate_left
      · have := k H3 (s2.trans s3)
        simp only [isLeap, lpair, e3, e4, Bool.true_and, Bool.false_and] at this
        exact this
      obtain ⟨i, rfl, rfl⟩ := lpart_int hx e3
      obtain ⟨j, rfl, rfl⟩ := lpart_int hy2 e4
      have := k H3 (s2.trans s3)
      simp only [isLeap, lpair, e3, e4, Bool.true_and] at this
      refine ⟨_, rfl, rfl, _, rfl, ?_⟩
      refine iteB (fun e5 => ?_) (fun e5 => ?_)
      · have e5 : (!decide (V.int i = V.int 0)) = true := e5
        have : isZ (.int i) = false := by
          show decide (i = 0) = false
          refine decide_eq_false fun z => ?_
          rw [z] at e5; cases e5
        simp only [this, Bool.false_and, Bool.not_false] at *
        exact ‹Q (V.bl true) H3›
      · have e5 : (!decide (V.int i = V.int 0)) = false := e5
        have e6 : decide (V.int i = V.int 0) = true := by simpa using e5
        have e7 : isZ (.int i) = true := by
          show decide (i = 0) = true
          exact decide_eq_true (V.int.inj (of_decide_eq_true e6))
        rw [e7, Bool.true_and] at this
        refine ⟨_, rfl, rfl, ?_⟩
        have e8 : (!decide (V.int j = V.int 0)) = !isZ (.int j) := by
          show _ = !decide (j = 0)
          rw [show decide (V.int j = V.int 0) = decide (j = 0) from decide_eq_decide.mpr ⟨V.int.inj, congrArg V.int⟩]
        rw [← e8] at this
        exact this
  | non => exact iteT (k H1 (Same.refl H1))
  | bl => exact iteT (k H1 (Same.refl H1))
  | int => exact iteT (k H1 (Same.refl H1))
  | str => exact iteT (k H1 (Same.refl H1))
  | dic => exact iteT (k H1 (Same.refl H1))
  | dct => exact iteT (k H1 (Same.refl H1))
end
end Kd

set_option Elab.async false
set_option linter.all false
set_option maxRecDepth 100000
set_option maxHeartbeats 4000000
namespace Kd
open PySem PySem.Spec PyProof.Rows L2 Gs
section
variable {P : Program} {w : World} {K : PySem.W.Frag} {mg : Str → Option Value} {base : Heap}
theorem hu_two {A : Around} {k : Nat} (hr : Room k A) : A.units + 2 < cLine := Nat.lt_of_le_of_lt (Nat.add_le_add_left (by decide : 2 ≤ 64) _) hr.units
def rTupOf (K : PySem.W.Frag) : List V → Hp → VK → Prop := fun vs H R => ∃ a zs, vs = [V.ref a] ∧ ((SqL K H a zs ∧ ∀ q, H q = none → R (.ref q) (upd H q (.tup zs))) ∨ (SqT K H a zs ∧ R (.ref a) H))
/-- the two numbers of a leap -/
def lkey : PyData → List Int
  | .list [.int a, .int b] => [a, b]
  | .tuple [.int a, .int b] => [a, b]
  | _ => []
def leapsOk (ds : List PyData) : Bool := ds.all isLeap && decide ((ds.map lkey).Nodup)
def areLeaps : PyData → Bool
  | .list ds => leapsOk ds
  | .tuple ds => leapsOk ds
  | _ => false
def few : PyData → Prop
  | .list ds => ds.length ≤ 62
  | .tuple ds => ds.length ≤ 62
  | _ => True
def spFew (K : PySem.W.Frag) (f : PyData → Bool) : Sp := fun vs H Q _ => ∃ (c : Addr) (v : V) (d : PyData), vs = [v] ∧ DV K c H v d ∧ few d ∧ ∀ H', Same H H' → Q (.bl (f d)) H'
theorem leap_is {c : Addr} {H : Hp} {v : V} {d : PyData} (h : DV K c H v d) (e : isLeap d = true) : ∃ (b : Addr) (ys : List V) (p q : Int), v = .ref b ∧ ((SqL K H b ys ∧ ys = [V.int p, V.int q]) ∨ (SqT K H b ys ∧ ys = [V.int p, V.int q])) ∧ lkey d = [p, q] := by
  cases h with
  | @lst b ys ds n hs hv =>
    have h2 : ds.length = 2 := Decidable.byContradiction fun z => by rw [(leap_no z).1] at e; cases e
    obtain ⟨dx, dy, rfl⟩ := two_of h2
    cases hv with
    | cons hx hv =>
    cases hv with
    | cons hy hv =>
    cases hv with
    | nil =>
      have e : (lpart dx && lpart dy && !(isZ dx && isZ dy)) = true := e
      rw [Bool.and_eq_true, Bool.and_eq_true] at e
      obtain ⟨i, rfl, rfl⟩ := lpart_int hx e.1.1
      obtain ⟨j, rfl, rfl⟩ := lpart_int hy e.1.2
      exact ⟨b, _, i, j, rfl, .inl ⟨hs, rfl⟩, rfl⟩
  | @tup b ys ds n hs hv =>
    have h2 : ds.length = 2 := Decidable.byContradiction fun z => by rw [(leap_no z).2] at e; cases e
    obtain ⟨dx, dy, rfl⟩ := two_of h2
    cases hv with
    | cons hx hv =>
    cases hv with
    | cons hy hv =>
    cases hv with
    | nil =>
      have e : (lpart dx && lpart dy && !(isZ dx && isZ dy)) = true := e
      rw [Bool.and_eq_true, Bool.and_eq_true] at e
      obtain ⟨i, rfl, rfl⟩ := lpart_int hx e.1.1
      obtain ⟨j, rfl, rfl⟩ := lpart_int hy e.1.2
      exact ⟨b, _, i, j, rfl, .inr ⟨hs, rfl⟩, rfl⟩
  | non => cases e
  | bl => cases e
  | int => cases e
  | str => cases e
  | dic => cases e
  | dct => cases e
theorem O_are_leaps (T : Tx K mg w) : FnOk P w K mg base CX0 5 T.a_are_leaps T.d_are_leaps ["value"] (spFew K areLeaps) := by
  refine T.F_are_leaps.ok sc_are_leaps (fun vs H Q E h => ?_) (fun cdv A outer s H vs Q E hr h => ?_)
  · obtain ⟨c, v, d, rfl, _⟩ := h; rfl
  obtain ⟨c, v, d, rfl, hd, hf, k⟩ := h
  refine ⟨_, (pss_cons (ps_if (PW.pt (pw_or (pt_not (pt_val (pe_call (O_is_list T) (hr.mono (by decide)) (by rfl) T.m_is_list T.F_is_list.kp T.b_is_list .nil pass0 (pa_cons (pv 0) pa_nil)))) (pw_or1 (pt_not (pt_val (pe_callB (cr_all rfl) (by rfl) T.z_all (by decide +kernel) (pa_cons (pe_lc (own := [("leap", 1)]) (g := (gName 1)) rfl sc_are_leaps.nd (pi_or (pi_list (pv 0)) (pi_tup (pv 0))) (blkOk_by (N := n_are_leaps) (sc := defScope s_are_leaps) (by decide +kernel)) (fun _ _ _ _ _ => (pg_name (i := 1) sc_are_leaps.nd rfl (Or.inl rfl))) (fun _ _ _ _ _ => pts_nil) (fun _ _ _ _ _ => (pe_call (O_is_leap T) (hr.mono (by decide)) (by rfl) T.m_is_leap T.F_is_leap.kp T.b_is_leap .nil pass0 (pa_cons (pv 1) pa_nil)))) pa_nil))))))) (pss_one (ps_ret pe_bl)) pss_nil)
      (pss_one (ps_ret (pe_cmpR op_eq (pe_callB call_lenT (by rfl) T.z_len (by decide +kernel) (pa_cons (pe_setc (own := [("leap", 1)]) (g := (gName 1)) (tupKd P w K) (hu_two hr) rfl sc_are_leaps.nd (pi_or (pi_list (pv 0)) (pi_tup (pv 0))) (blkOk_by (N := n_are_leaps) (sc := defScope s_are_leaps) (by decide +kernel)) (fun _ _ _ _ _ => (pg_name (i := 1) sc_are_leaps.nd rfl (Or.inl rfl))) (fun _ _ _ _ _ => pts_nil) (fun _ _ _ _ _ => (pe_callTy (T := "tuple") (r := rTupOf K) call_tuple_of (by rfl) T.z_tuple (by decide +kernel) (pa_cons (pv 1) pa_nil)))) pa_nil)) (pe_callB call_len (by rfl) T.z_len (by decide +kernel) (pa_cons (pv 0) pa_nil)) (nomark _))))), ?_⟩
  refine ⟨_, rfl, c, v, d, rfl, hd, fun H1 s1 => ⟨_, rfl, ?_⟩⟩
  have hd1 := hd.up (Ext.of s1)
  replace k := fun H' s2 => k H' (s1.trans s2)
  cases hd1 with
  | @lst a xs ds na hs hv =>
    have hf : ds.length ≤ 62 := hf
    have hl := hv.len
    refine iteF (.inl ⟨_, rfl, a, rfl, ⟨_, hs⟩, fun D hD => ?_⟩)
    refine lc_it (walk_list (K := K) (a := a) (xs := xs)) (fun i H' => Same H1 H' ∧ H' D = some (.lst ((ds.take i).map fun d => .bl (isLeap d)))) ⟨same_new hD, upd_same⟩ (fun i H' _ h => h.1.seq hs) ?_ ?_
    · rintro i x H2 H3 hi ⟨s2, hD2⟩ ⟨rfl, hx⟩
      refine ⟨rfl, ?_⟩
      obtain ⟨d, hdi, hdx⟩ := hv.at hx
      refine ⟨_, rfl, c, x, d, rfl, hdx.up (Ext.of s2), fun H4 s4 => ⟨_, s4 _ _ hD2, ?_, ?_, ?_⟩⟩
      · rw [List.length_map]
        exact szK (by have := List.length_take_le' i ds; omega)
      · exact same_own (s2.trans s4) hD
      · rw [upd_same, List.take_add_one, hdi, List.map_append]; rfl
    rintro H2 ⟨s2, hD2⟩
    rw [hl, List.take_length] at hD2
    refine ⟨D, ds.map isLeap, rfl, .of (by rw [List.map_map]; exact hD2), _, rfl, ?_⟩
    rw [show (ds.map isLeap).all id = ds.all isLeap by rw [List.all_map]; rfl]
    refine iteB (fun e => ?_) (fun e => ?_)
    · have e : (!ds.all isLeap) = true := e
      have e0 : ds.all isLeap = false := by simpa using e
      have := k H2 s2
      rw [show areLeaps (.list ds) = false by show leapsOk ds = false; unfold leapsOk; rw [e0]; rfl] at this
      exact this
    have e : (!ds.all isLeap) = false := e
    have e0 : ds.all isLeap = true := by simpa using e
    have hs2 := s2.seq hs
    replace hv : DVs K c H2 xs ds := hv.up (Ext.of s2)
    refine .inl ⟨_, rfl, a, rfl, ⟨_, hs2⟩, fun S hS => ?_⟩
    refine sc_it (walk_list (K := K) (a := a) (xs := xs)) (fun i H' => Same H2 H' ∧ ∃ L : Tps, H' S = some (SetTO P w S L) ∧ (∀ p ∈ L, SqT K H' p.1 (p.2.map V.int)) ∧ L.length ≤ i ∧ (L.map (·.2)).Nodup ∧
      ∀ q, q ∈ L.map (·.2) ↔ q ∈ (ds.take i).map lkey) ⟨same_new hS, [], upd_same, (fun p h => by cases h), Nat.le_refl _, List.nodup_nil, fun q => Iff.rfl⟩ (fun i H' _ h => h.1.seq hs2) ?_ ?_
    · rintro i x H3 H4 hi ⟨s3, L, hL, hT, hlen, hnd, hmem⟩ ⟨rfl, hx⟩
      refine ⟨rfl, ?_⟩
      obtain ⟨d, hdi, hdx⟩ := hv.at hx
      have hdx := hdx.up (Ext.of s3)
      have hle : isLeap d = true := List.all_eq_true.mp e0 d (List.mem_of_getElem? hdi)
      obtain ⟨b, ys, p, q, rfl, hb, hkey⟩ := leap_is hdx hle
      have step : ∀ (t : Addr) (H5 : Hp), Same H2 H5 → H5 S = some (SetTO P w S L) → (∀ p ∈ L, SqT K H5 p.1 (p.2.map V.int)) → SqT K H5 t [V.int p, V.int q] →
          (tupKd P w K).adds S (.ref t) H5 (fun H' => Same H2 H' ∧ ∃ L : Tps, H' S = some (SetTO P w S L) ∧ (∀ p ∈ L, SqT K H' p.1 (p.2.map V.int)) ∧ L.length ≤ i + 1 ∧ (L.map (·.2)).Nodup ∧
            ∀ q, q ∈ L.map (·.2) ↔ q ∈ (ds.take (i + 1)).map lkey) := by
        intro t H5 s5 hL5 hT5 ht
        refine ⟨t, [p, q], L, rfl, hL5, hT5, ht, by have hi : i < xs.length := hi; omega, fun L' c1 c2 => ?_⟩
        have key : ∀ z, z ∈ (ds.take (i + 1)).map lkey ↔ z = [p, q] ∨ z ∈ L.map (·.2) := fun z => by
          rw [List.take_add_one, hdi, List.map_append, List.mem_append, ← hmem z]
          show _ ∨ z ∈ [lkey d] ↔ _
          rw [hkey, List.mem_singleton]
          exact Or.comm
        have keep : ∀ b zs, SqT K H5 b zs → SqT K (upd H5 S (SetTO P w S L')) b zs := fun b zs h => seqT_set hL5 h
        refine ⟨same_own s5 hS, L', upd_same, ?_⟩
        by_cases hm : [p, q] ∈ L.map (·.2)
        · rw [c1 hm]
          refine ⟨fun r hr => by rw [← c1 hm]; exact keep _ _ (hT5 r hr), Nat.le_succ_of_le hlen, hnd, fun z => ?_⟩
          rw [key z]
          exact ⟨.inr, fun h => h.elim (fun e => by rw [e]; exact hm) id⟩
        · have pm := c2 hm
          refine ⟨fun r hr => ?_, by rw [pm.length_eq]; exact Nat.succ_le_succ hlen, ?_, fun z => ?_⟩
          · rcases List.mem_cons.mp (pm.mem_iff.mp hr) with e | hr
            · rw [e]; exact keep _ _ ht
            · exact keep _ _ (hT5 r hr)
          · rw [(pm.map (·.2)).nodup_iff]
            exact List.nodup_cons.mpr ⟨hm, hnd⟩
          · rw [key z, (pm.map (·.2)).mem_iff]
            show z ∈ [p, q] :: L.map (·.2) ↔ _
            rw [List.mem_cons]
      refine ⟨_, rfl, b, ys, rfl, ?_⟩
      rcases hb with ⟨hb, rfl⟩ | ⟨hb, rfl⟩
      · refine .inl ⟨hb, fun t ht => ?_⟩
        have st : Same H4 (upd H4 t (.tup [V.int p, V.int q])) := same_new ht
        exact step t _ (s3.trans st) (st _ _ hL) (fun r hr => st.seqT (hT r hr)) (.of upd_same)
      · exact .inr ⟨hb, step b H4 s3 hL hT hb⟩
    · rintro H3 ⟨s3, L, hL, hT, hlen, hnd, hmem⟩
      rw [hl, List.take_length] at hmem
      refine ⟨S, L, rfl, hL, hT, _, rfl, _, _, rfl, .inl ⟨_, s3.seq hs2, rfl⟩, rfl, ?_⟩
      have := k H3 (s2.trans s3)
      rw [show areLeaps (.list ds) = decide (V.int L.length = V.int xs.length) by
        show leapsOk ds = _
        unfold leapsOk
        rw [e0, Bool.true_and, ← size_tells hnd hmem, hl]
        rw [List.length_map, List.length_map]
        exact decide_eq_decide.mpr ⟨fun z => congrArg V.int z, fun z => V.int.inj z⟩] at this
      exact this
  | @tup a xs ds na hs hv =>
    have hf : ds.length ≤ 62 := hf
    have hl := hv.len
    refine iteF (.inr ⟨_, rfl, a, rfl, ⟨_, hs⟩, fun D hD => ?_⟩)
    refine lc_it (walk_tup (K := K) (a := a) (xs := xs)) (fun i H' => Same H1 H' ∧ H' D = some (.lst ((ds.take i).map fun d => .bl (isLeap d)))) ⟨same_new hD, upd_same⟩ (fun i H' _ h => h.1.seqT hs) ?_ ?_
    · rintro i x H2 H3 hi ⟨s2, hD2⟩ ⟨rfl, hx⟩
      refine ⟨rfl, ?_⟩
      obtain ⟨d, hdi, hdx⟩ := hv.at hx
      refine ⟨_, rfl, c, x, d, rfl, hdx.up (Ext.of s2), fun H4 s4 => ⟨_, s4 _ _ hD2, ?_, ?_, ?_⟩⟩
      · rw [List.length_map]
        exact szK (by have := List.length_take_le' i ds; omega)
      · exact same_own (s2.trans s4) hD
      · rw [upd_same, List.take_add_one, hdi, List.map_append]; rfl
    rintro H2 ⟨s2, hD2⟩
    rw [hl, List.take_length] at hD2
    refine ⟨D, ds.map isLeap, rfl, .of (by rw [List.map_map]; exact hD2), _, rfl, ?_⟩
    rw [show (ds.map isLeap).all id = ds.all isLeap by rw [List.all_map]; rfl]
    refine iteB (fun e => ?_) (fun e => ?_)
    · have e : (!ds.all isLeap) = true := e
      have e0 : ds.all isLeap = false := by simpa using e
      have := k H2 s2
      rw [show areLeaps (.tuple ds) = false by show leapsOk ds = false; unfold leapsOk; rw [e0]; rfl] at this
      exact this
    have e : (!ds.all isLeap) = false := e
    have e0 : ds.all isLeap = true := by simpa using e
    have hs2 := s2.seqT hs
    replace hv : DVs K c H2 xs ds := hv.up (Ext.of s2)
    refine .inr ⟨_, rfl, a, rfl, ⟨_, hs2⟩, fun S hS => ?_⟩
    refine sc_it (walk_tup (K := K) (a := a) (xs := xs)) (fun i H' => Same H2 H' ∧ ∃ L : Tps, H' S = some (SetTO P w S L) ∧ (∀ p ∈ L, SqT K H' p.1 (p.2.map V.int)) ∧ L.length ≤ i ∧ (L.map (·.2)).Nodup ∧
      ∀ q, q ∈ L.map (·.2) ↔ q ∈ (ds.take i).map lkey) ⟨same_new hS, [], upd_same, (fun p h => by cases h), Nat.le_refl _, List.nodup_nil, fun q => Iff.rfl⟩ (fun i H' _ h => h.1.seqT hs2) ?_ ?_
    · rintro i x H3 H4 hi ⟨s3, L, hL, hT, hlen, hnd, hmem⟩ ⟨rfl, hx⟩
      refine ⟨rfl, ?_⟩
      obtain ⟨d, hdi, hdx⟩ := hv.at hx
      have hdx := hdx.up (Ext.of s3)
      have hle : isLeap d = true := List.all_eq_true.mp e0 d (List.mem_of_getElem? hdi)
      obtain ⟨b, ys, p, q, rfl, hb, hkey⟩ := leap_is hdx hle
      have step : ∀ (t : Addr) (H5 : Hp), Same H2 H5 → H5 S = some (SetTO P w S L) → (∀ p ∈ L, SqT K H5 p.1 (p.2.map V.int)) → SqT K H5 t [V.int p, V.int q] →
          (tupKd P w K).adds S (.ref t) H5 (fun H' => Same H2 H' ∧ ∃ L : Tps, H' S = some (SetTO P w S L) ∧ (∀ p ∈ L, SqT K H' p.1 (p.2.map V.int)) ∧ L.length ≤ i + 1 ∧ (L.map (·.2)).Nodup ∧
            ∀ q, q ∈ L.map (·.2) ↔ q ∈ (ds.take (i + 1)).map lkey) := by
        intro t H5 s5 hL5 hT5 ht
        refine ⟨t, [p, q], L, rfl, hL5, hT5, ht, by have hi : i < xs.length := hi; omega, fun L' c1 c2 => ?_⟩
        have key : ∀ z, z ∈ (ds.take (i + 1)).map lkey ↔ z = [p, q] ∨ z ∈ L.map (·.2) := fun z => by
          rw [List.take_add_one, hdi, List.map_append, List.mem_append, ← hmem z]
          show _ ∨ z ∈ [lkey d] ↔ _
          rw [hkey, List.mem_singleton]
          exact Or.comm
        have keep : ∀ b zs, SqT K H5 b zs → SqT K (upd H5 S (SetTO P w S L')) b zs := fun b zs h => seqT_set hL5 h
        refine ⟨same_own s5 hS, L', upd_same, ?_⟩
        by_cases hm : [p, q] ∈ L.map (·.2)
        · rw [c1 hm]
          refine ⟨fun r hr => by rw [← c1 hm]; exact keep _ _ (hT5 r hr), Nat.le_succ_of_le hlen, hnd, fun z => ?_⟩
          rw [key z]
          exact ⟨.inr, fun h => h.elim (fun e => by rw [e]; exact hm) id⟩
        · have pm := c2 hm
          refine ⟨fun r hr => ?_, by rw [pm.length_eq]; exact Nat.succ_le_succ hlen, ?_, fun z => ?_⟩
          · rcases List.mem_cons.mp (pm.mem_iff.mp hr) with e | hr
            · rw [e]; exact keep _ _ ht
            · exact keep _ _ (hT5 r hr)
          · rw [(pm.map (·.2)).nodup_iff]
            exact List.nodup_cons.mpr ⟨hm, hnd⟩
          · rw [key z, (pm.map (·.2)).mem_iff]
            show z ∈ [p, q] :: L.map (·.2) ↔ _
            rw [List.mem_cons]
      refine ⟨_, rfl, b, ys, rfl, ?_⟩
      rcases hb with ⟨hb, rfl⟩ | ⟨hb, rfl⟩
      · refine .inl ⟨hb, fun t ht => ?_⟩
        have st : Same H4 (upd H4 t (.tup [V.int p, V.int q])) := same_new ht
        exact step t _ (s3.trans st) (st _ _ hL) (fun r hr => st.seqT (hT r hr)) (.of upd_same)
      · exact .inr ⟨hb, step b H4 s3 hL hT hb⟩
    · rintro H3 ⟨s3, L, hL, hT, hlen, hnd, hmem⟩
      rw [hl, List.take_length] at hmem
      refine ⟨S, L, rfl, hL, hT, _, rfl, _, _, rfl, .inr ⟨_, s3.seqT hs2, rfl⟩, rfl, ?_⟩
      have := k H3 (s2.trans s3)
      rw [show areLeaps (.tuple ds) = decide (V.int L.length = V.int xs.length) by
        show leapsOk ds = _
        unfold leapsOk
        rw [e0, Bool.true_and, ← size_tells hnd hmem, hl]
        rw [List.length_map, List.length_map]
        exact decide_eq_decide.mpr ⟨fun z => congrArg V.int z, fun z => V.int.inj z⟩] at this
      exact this
  | non => exact iteT (k H1 (Same.refl H1))
  | bl => exact iteT (k H1 (Same.refl H1))
  | int => exact iteT (k H1 (Same.refl H1))
  | str => exact iteT (k H1 (Same.refl H1))
  | dic => exact iteT (k H1 (Same.refl H1))
  | dct => exact iteT (k H1 (Same.refl H1))
end
end Kd

set_option Elab.async false
set_option linter.all false
set_option maxRecDepth 100000
set_option maxHeartbeats 4000000
namespace Kd
open PySem PySem.Spec PyProof.Rows L2 Gs
section
variable {P : Program} {w : World} {K : PySem.W.Frag} {mg : Str → Option Value} {base : Heap}
def rkey : PyData → Str
  | .str x => x
  | _ => Str.empty
def ridesOk (ds : List PyData) : Bool := ds.all isRide && decide ((ds.map rkey).Nodup)
def areRides : PyData → Bool
  | .list ds => ridesOk ds
  | .tuple ds => ridesOk ds
  | _ => false
theorem rides_are {c : Addr} {H : Hp} : ∀ {xs : List V} {ds : List PyData}, DVs K c H xs ds → ds.all isRide = true → xs = (ds.map rkey).map V.str
  | _, [], h, _ => by cases h; rfl
  | _, d :: ds, h, e => by
    rw [List.all_cons, Bool.and_eq_true] at e
    cases h with
    | cons hx hv =>
      have r := rides_are hv e.2
      have e1 := e.1
      cases hx with
      | str x => rw [List.map_cons, List.map_cons, ← r]; rfl
      | non => cases e1
      | bl => cases e1
      | int => cases e1
      | lst => cases e1
      | tup => cases e1
      | dic => cases e1
      | dct => cases e1
theorem O_are_rides (T : Tx K mg w) : FnOk P w K mg base CX0 5 T.a_are_rides T.d_are_rides ["value"] (spFew K areRides) := by
  refine T.F_are_rides.ok sc_are_rides (fun vs H Q E h => ?_) (fun cdv A outer s H vs Q E hr h => ?_)
  · obtain ⟨c, v, d, rfl, _⟩ := h; rfl
  obtain ⟨c, v, d, rfl, hd, hf, k⟩ := h
  refine ⟨_, (pss_cons (ps_if (PW.pt (pw_or (pt_not (pt_val (pe_call (O_is_list T) (hr.mono (by decide)) (by rfl) T.m_is_list T.F_is_list.kp T.b_is_list .nil pass0 (pa_cons (pv 0) pa_nil)))) (pw_or1 (pt_not (pt_val (pe_callB (cr_all rfl) (by rfl) T.z_all (by decide +kernel) (pa_cons (pe_lc (own := [("ride", 1)]) (g := (gName 1)) rfl sc_are_rides.nd (pi_or (pi_list (pv 0)) (pi_tup (pv 0))) (blkOk_by (N := n_are_rides) (sc := defScope s_are_rides) (by decide +kernel)) (fun _ _ _ _ _ => (pg_name (i := 1) sc_are_rides.nd rfl (Or.inl rfl))) (fun _ _ _ _ _ => pts_nil) (fun _ _ _ _ _ => (pe_call (O_is_ride T) (hr.mono (by decide)) (by rfl) T.m_is_ride T.F_is_ride.kp T.b_is_ride .nil pass0 (pa_cons (pv 1) pa_nil)))) pa_nil))))))) (pss_one (ps_ret pe_bl)) pss_nil)
      (pss_one (ps_ret (pe_cmpR op_eq (pe_lenTx rfl (by rfl) T.z_len (by rfl) T.z_set (pv 0)) (pe_callB call_len (by rfl) T.z_len (by decide +kernel) (pa_cons (pv 0) pa_nil)) (nomark _))))), ?_⟩
  refine ⟨_, rfl, c, v, d, rfl, hd, fun H1 s1 => ⟨_, rfl, ?_⟩⟩
  have hd1 := hd.up (Ext.of s1)
  replace k := fun H' s2 => k H' (s1.trans s2)
  cases hd1 with
  | @lst a xs ds na hs hv =>
    have hf : ds.length ≤ 62 := hf
    have hl := hv.len
    refine iteF (.inl ⟨_, rfl, a, rfl, ⟨_, hs⟩, fun D hD => ?_⟩)
    refine lc_it (walk_list (K := K) (a := a) (xs := xs)) (fun i H' => Same H1 H' ∧ H' D = some (.lst ((ds.take i).map fun d => .bl (isRide d)))) ⟨same_new hD, upd_same⟩ (fun i H' _ h => h.1.seq hs) ?_ ?_
    · rintro i x H2 H3 hi ⟨s2, hD2⟩ ⟨rfl, hx⟩
      refine ⟨rfl, ?_⟩
      obtain ⟨d, hdi, hdx⟩ := hv.at hx
      refine ⟨_, rfl, c, x, d, rfl, hdx.up (Ext.of s2), fun H4 s4 => ⟨_, s4 _ _ hD2, ?_, ?_, ?_⟩⟩
      · rw [List.length_map]
        exact szK (by have := List.length_take_le' i ds; omega)
      · exact same_own (s2.trans s4) hD
      · rw [upd_same, List.take_add_one, hdi, List.map_append]; rfl
    rintro H2 ⟨s2, hD2⟩
    rw [hl, List.take_length] at hD2
    refine ⟨D, ds.map isRide, rfl, .of (by rw [List.map_map]; exact hD2), _, rfl, ?_⟩
    rw [show (ds.map isRide).all id = ds.all isRide by rw [List.all_map]; rfl]
    refine iteB (fun e => ?_) (fun e => ?_)
    · have e : (!ds.all isRide) = true := e
      have e0 : ds.all isRide = false := by simpa using e
      have := k H2 s2
      rw [show areRides (.list ds) = false by show ridesOk ds = false; unfold ridesOk; rw [e0]; rfl] at this
      exact this
    have e : (!ds.all isRide) = false := e
    have e0 : ds.all isRide = true := by simpa using e
    have hs2 := s2.seq hs
    have ex := rides_are (hv.up (Ext.of s2)) e0
    refine ⟨_, rfl, a, ds.map rkey, rfl, .inl (by rw [← ex]; exact hs2), by rw [List.length_map]; omega, fun L nd hm => ?_⟩
    refine ⟨_, rfl, _, _, rfl, .inl ⟨_, hs2, rfl⟩, rfl, ?_⟩
    have := k H2 s2
    rw [show areRides (.list ds) = decide (V.int L.length = V.int xs.length) by
      show ridesOk ds = _
      unfold ridesOk
      rw [e0, Bool.true_and, ← size_tells nd hm, hl]
      rw [List.length_map]
      exact decide_eq_decide.mpr ⟨fun z => congrArg V.int z, fun z => V.int.inj z⟩] at this
    exact this
  | @tup a xs ds na hs hv =>
    have hf : ds.length ≤ 62 := hf
    have hl := hv.len
    refine iteF (.inr ⟨_, rfl, a, rfl, ⟨_, hs⟩, fun D hD => ?_⟩)
    refine lc_it (walk_tup (K := K) (a := a) (xs := xs)) (fun i H' => Same H1 H' ∧ H' D = some (.lst ((ds.take i).map fun d => .bl (isRide d)))) ⟨same_new hD, upd_same⟩ (fun i H' _ h => h.1.seqT hs) ?_ ?_
    · rintro i x H2 H3 hi ⟨s2, hD2⟩ ⟨rfl, hx⟩
      refine ⟨rfl, ?_⟩
      obtain ⟨d, hdi, hdx⟩ := hv.at hx
      refine ⟨_, rfl, c, x, d, rfl, hdx.up (Ext.of s2), fun H4 s4 => ⟨_, s4 _ _ hD2, ?_, ?_, ?_⟩⟩
      · rw [List.length_map]
        exact szK (by have := List.length_take_le' i ds; omega)
      · exact same_own (s2.trans s4) hD
      · rw [upd_same, List.take_add_one, hdi, List.map_append]; rfl
    rintro H2 ⟨s2, hD2⟩
    rw [hl, List.take_length] at hD2
    refine ⟨D, ds.map isRide, rfl, .of (by rw [List.map_map]; exact hD2), _, rfl, ?_⟩
    rw [show (ds.map isRide).all id = ds.all isRide by rw [List.all_map]; rfl]
    refine iteB (fun e => ?_) (fun e => ?_)
    · have e : (!ds.all isRide) = true := e
      have e0 : ds.all isRide = false := by simpa using e
      have := k H2 s2
      rw [show areRides (.tuple ds) = false by show ridesOk ds = false; unfold ridesOk; rw [e0]; rfl] at this
      exact this
    have e : (!ds.all isRide) = false := e
    have e0 : ds.all isRide = true := by simpa using e
    have hs2 := s2.seqT hs
    have ex := rides_are (hv.up (Ext.of s2)) e0
    refine ⟨_, rfl, a, ds.map rkey, rfl, .inr (by rw [← ex]; exact hs2), by rw [List.length_map]; omega, fun L nd hm => ?_⟩
    refine ⟨_, rfl, _, _, rfl, .inr ⟨_, hs2, rfl⟩, rfl, ?_⟩
    have := k H2 s2
    rw [show areRides (.tuple ds) = decide (V.int L.length = V.int xs.length) by
      show ridesOk ds = _
      unfold ridesOk
      rw [e0, Bool.true_and, ← size_tells nd hm, hl]
      rw [List.length_map]
      exact decide_eq_decide.mpr ⟨fun z => congrArg V.int z, fun z => V.int.inj z⟩] at this
    exact this
  | non => exact iteT (k H1 (Same.refl H1))
  | bl => exact iteT (k H1 (Same.refl H1))
  | int => exact iteT (k H1 (Same.refl H1))
  | str => exact iteT (k H1 (Same.refl H1))
  | dic => exact iteT (k H1 (Same.refl H1))
  | dct => exact iteT (k H1 (Same.refl H1))
end
end Kd

set_option Elab.async false
set_option linter.all false
set_option maxRecDepth 100000
set_option maxHeartbeats 4000000
namespace Kd
open PySem PySem.Spec PyProof.Rows L2 Gs
section
variable {P : Program} {w : World} {K : PySem.W.Frag} {mg : Str → Option Value} {base : Heap}
def isBl : PyData → Bool
  | .bool _ => true
  | _ => false
def seqOf : PyData → List PyData
  | .list ds => ds
  | .tuple ds => ds
  | _ => []
def truth : PyData → Bool
  | .bool b => b
  | _ => false
/-- what is wrong first with a kind's parts: is it a misfit, and which part -/
def kindBad (dn dl dr dq : PyData) : Option (Bool × Str) :=
  if isNm dn = false then some (false, "name") else
  if areLeaps dl = false then some (false, "leaps") else
  if areRides dr = false then some (false, "rides") else
  if isBl dq = false then some (false, "is_lord") else
  if (truth dq && !(seqOf dr).isEmpty) = true then some (true, "rides") else
  if ((seqOf dl).isEmpty && (seqOf dr).isEmpty) = true then some (true, "leaps") else none
def pairOf (d : PyData) : Int × Int := match lkey d with | [a, b] => (a, b) | _ => (0, 0)
def ridesOf (dr : PyData) : List Str := steps4.filter fun z => decide (z ∈ (seqOf dr).map rkey)
def kdF (vn : V) (tl tr : Addr) (vq : V) : List (Str × V) := [("name", vn), ("leaps", .ref tl), ("rides", .ref tr), ("is_lord", vq)]
def spKind (K : PySem.W.Frag) (C DB DM : Addr) : Sp := fun vs H Q E => ∃ (x dx c : Addr) (vn vl vr vq : V) (dn dl dr dq : PyData), vs = [.ref x, vn, vl, vr, vq] ∧ H x = some (.ins C dx []) ∧
  DV K c H vn dn ∧ DV K c H vl dl ∧ DV K c H vr dr ∧ DV K c H vq dq ∧ (∀ z, dn = .str z → z.length ≤ 1000000) ∧ few dl ∧ few dr ∧
  (∀ m p, kindBad dn dl dr dq = some (m, p) → ∀ d H', H d = none → Same H H' → H' d = some (.xd [("part", .str p)]) → E (.ref (if m = true then DM else DB)) (some d) H') ∧
  (kindBad dn dl dr dq = none → ∀ tl tr (ls : List (Addr × Int × Int)) H', Ext x H H' → H' x = some (.ins C dx (kdF vn tl tr vq)) → SqT K H' tl (ls.map fun p => V.ref p.1) → (∀ p ∈ ls, SqT K H' p.1 [.int p.2.1, .int p.2.2]) →
    (ls.map (·.2)).Perm ((seqOf dl).map pairOf) → ls.Pairwise (fun a b => SrtO.lexB b.2 a.2 = false) → SqT K H' tr ((ridesOf dr).map V.str) → Q .non H')
/-- a list or a tuple that bears ds -/
def Seq (K : PySem.W.Frag) (H : Hp) (a : Addr) (xs : List V) : Prop := SqL K H a xs ∨ SqT K H a xs
theorem seq_of_leaps {c : Addr} {H : Hp} {v : V} {d : PyData} (h : DV K c H v d) (e : areLeaps d = true) : ∃ (a : Addr) (xs : List V), v = .ref a ∧ Seq K H a xs ∧ DVs K c H xs (seqOf d) := by
  cases h with
  | lst n s r => exact ⟨_, _, rfl, .inl s, r⟩
  | tup n s r => exact ⟨_, _, rfl, .inr s, r⟩
  | _ => cases e
theorem seq_of_rides {c : Addr} {H : Hp} {v : V} {d : PyData} (h : DV K c H v d) (e : areRides d = true) : ∃ (a : Addr) (xs : List V), v = .ref a ∧ Seq K H a xs ∧ DVs K c H xs (seqOf d) := by
  cases h with
  | lst n s r => exact ⟨_, _, rfl, .inl s, r⟩
  | tup n s r => exact ⟨_, _, rfl, .inr s, r⟩
  | _ => cases e
theorem leaps_all {d : PyData} (h : areLeaps d = true) : (seqOf d).all isLeap = true := by
  cases d with
  | list ds => exact (Bool.and_eq_true_iff.mp (show (ds.all isLeap && decide ((ds.map lkey).Nodup)) = true from h)).1
  | tuple ds => exact (Bool.and_eq_true_iff.mp (show (ds.all isLeap && decide ((ds.map lkey).Nodup)) = true from h)).1
  | _ => rfl
theorem few_len {d : PyData} (h : few d) : (seqOf d).length ≤ 62 := by
  cases d with
  | list ds => exact h
  | tuple ds => exact h
  | _ => exact Nat.zero_le _
theorem rides_all {d : PyData} (h : areRides d = true) : (seqOf d).all isRide = true := by
  cases d with
  | list ds => exact (Bool.and_eq_true_iff.mp (show (ds.all isRide && decide ((ds.map rkey).Nodup)) = true from h)).1
  | tuple ds => exact (Bool.and_eq_true_iff.mp (show (ds.all isRide && decide ((ds.map rkey).Nodup)) = true from h)).1
  | _ => rfl
/-- a list or a tuple is walked -/
theorem pi_seq_rd {a : Addr} {xs : List V} {σ : L2.St} {H : Hp} {R : It → Hp → Prop} {i : Nat} (hv : σ[i]? = some (some (.ref a))) (hs : Seq K H a xs)
    (h : ∀ (J : It) (G : Hp → Prop), (∀ H', ExtI H H' → G H') → Walk J xs.length G (YAt xs) → R J H) : iList K (tVar i) σ H R ∨ iTup K (tVar i) σ H R := by
  rcases hs with hs | hs
  · exact .inl ⟨_, hv, a, rfl, ⟨xs, hs⟩, h _ _ (fun H' e => e.sqL hs) walk_list⟩
  · exact .inr ⟨_, hv, a, rfl, ⟨xs, hs⟩, h _ _ (fun H' e => e.sqT hs) walk_tup⟩
/-- a tuple stands while a list is changed -/
theorem seqT_lst {H : Hp} {S b : Addr} {ys : List V} {o : HO} {zs : List V} (hS : H S = some (.lst ys)) (h : SqT K H b zs) : SqT K (upd H S o) b zs := by
  rcases h with (h | ⟨q, h⟩) | h
  · refine .inl (.inl ?_)
    rw [upd_ne (fun e => by rw [e, hS] at h; cases h)]; exact h
  · refine .inl (.inr ⟨q, ?_⟩)
    rw [upd_ne (fun e => by rw [e, hS] at h; cases h)]; exact h
  · exact .inr h
theorem inV_str (z : Str) (l : List Str) : inV (.str z) (l.map V.str) = decide (z ∈ l) := by
  unfold inV
  rw [List.any_map]
  induction l with
  | nil => rfl
  | cons a l ih =>
    rw [List.any_cons, ih]
    show ((a == z) || decide (z ∈ l)) = decide (z ∈ a :: l)
    by_cases h : z = a
    · subst h; simp
    · have : (a == z) = false := by simpa [beq_iff_eq] using fun e : a = z => h e.symm
      rw [this, Bool.false_or]
      exact decide_eq_decide.mpr ⟨List.mem_cons_of_mem _, fun m => (List.mem_cons.mp m).elim (fun e => absurd e h) id⟩
theorem all_flat (l : List Str) : (l.map V.str).all flatV = true := by
  rw [List.all_map]
  exact List.all_eq_true.mpr fun _ _ => rfl
theorem if_sh {q : Bool} {A F : Prop} (c : Prop) (hf : c → F) (hx : (c → F) → q = true → A) (hq : q = false → c) : if q = true then A else F := by
  cases q with
  | true => exact hx hf rfl
  | false => exact hf (hq rfl)
theorem O_Kind___init__ (T : Tx K mg w) : FnOk P w K mg base (L2.CX P w) 6 T.a_Kind___init__ T.d_Kind___init__ ["self", "name", "leaps", "rides", "is_lord"] (spKind K T.c_Kind T.c_BadKind T.c_Misfit) := by
  refine T.F_Kind___init__.ok sc_Kind___init__ (fun vs H Q E h => ?_) (fun cdv A outer s H vs Q E hr h => ?_)
  · obtain ⟨x, dx, c, vn, vl, vr, vq, dn, dl, dr, dq, rfl, _⟩ := h; rfl
  obtain ⟨x, dx, c, vn, vl, vr, vq, dn, dl, dr, dq, rfl, hx, hn, hl, hrd, hq, hz, hfl, hfr, kb, kg⟩ := h
  refine ⟨_, (pss_cons (ps_if (pt_not (pt_val (pe_call (O_is_name T) (hr.mono (by decide)) (by rfl) T.m_is_name T.F_is_name.kp T.b_is_name .nil pass0 (pa_cons (pv 1) pa_nil)))) (pss_one (ps_raise rfl (takes_of rfl rfl rfl rfl) (pmk_oex T.ox_BadKind T.ic_BadKind T.ti_BadKind (O_BadKind___init__ T) (hr.mono (by decide)) T.b_BadKind___init__ .nil pass0 (by rfl) T.m_BadKind (pa_cons pe_str pa_nil)))) pss_nil)
      (pss_cons (ps_if (pt_not (pt_val (pe_call (O_are_leaps T) (hr.mono (by decide)) (by rfl) T.m_are_leaps T.F_are_leaps.kp T.b_are_leaps .nil pass0 (pa_cons (pv 2) pa_nil)))) (pss_one (ps_raise rfl (takes_of rfl rfl rfl rfl) (pmk_oex T.ox_BadKind T.ic_BadKind T.ti_BadKind (O_BadKind___init__ T) (hr.mono (by decide)) T.b_BadKind___init__ .nil pass0 (by rfl) T.m_BadKind (pa_cons pe_str pa_nil)))) pss_nil)
      (pss_cons (ps_if (pt_not (pt_val (pe_call (O_are_rides T) (hr.mono (by decide)) (by rfl) T.m_are_rides T.F_are_rides.kp T.b_are_rides .nil pass0 (pa_cons (pv 3) pa_nil)))) (pss_one (ps_raise rfl (takes_of rfl rfl rfl rfl) (pmk_oex T.ox_BadKind T.ic_BadKind T.ti_BadKind (O_BadKind___init__ T) (hr.mono (by decide)) T.b_BadKind___init__ .nil pass0 (by rfl) T.m_BadKind (pa_cons pe_str pa_nil)))) pss_nil)
      (pss_cons (ps_if (pt_not (pt_val (pe_callB call_isi (by rfl) T.z_isinstance (by decide +kernel) (pa_cons (pv 4) (pa_cons (pe_bltn (v := .ty "bool") (u := .type "bool") (by rfl) T.z_bool (by decide +kernel) rfl) pa_nil))))) (pss_one (ps_raise rfl (takes_of rfl rfl rfl rfl) (pmk_oex T.ox_BadKind T.ic_BadKind T.ti_BadKind (O_BadKind___init__ T) (hr.mono (by decide)) T.b_BadKind___init__ .nil pass0 (by rfl) T.m_BadKind (pa_cons pe_str pa_nil)))) pss_nil)
      (pss_cons (ps_if (PW.pt (pw_and (pt_val (pv 4)) (pw_and1 (pt_cmpR op_gt (pe_callB call_len (by rfl) T.z_len (by decide +kernel) (pa_cons (pv 3) pa_nil)) pe_int (nomark _))))) (pss_one (ps_raise rfl (takes_of rfl rfl rfl rfl) (pmk_oex T.ox_Misfit T.ic_Misfit T.ti_Misfit (O_Misfit___init__ T) (hr.mono (by decide)) T.b_Misfit___init__ .nil pass0 (by rfl) T.m_Misfit (pa_cons pe_str pa_nil)))) pss_nil)
      (pss_cons (ps_if (PW.pt (pw_and (pt_cmpR op_eq (pe_callB call_len (by rfl) T.z_len (by decide +kernel) (pa_cons (pv 2) pa_nil)) pe_int (nomark _)) (pw_and1 (pt_cmpR op_eq (pe_callB call_len (by rfl) T.z_len (by decide +kernel) (pa_cons (pv 3) pa_nil)) pe_int (nomark _))))) (pss_one (ps_raise rfl (takes_of rfl rfl rfl rfl) (pmk_oex T.ox_Misfit T.ic_Misfit T.ti_Misfit (O_Misfit___init__ T) (hr.mono (by decide)) T.b_Misfit___init__ .nil pass0 (by rfl) T.m_Misfit (pa_cons pe_str pa_nil)))) pss_nil)
      (pss_cons (ps_fld (pv 0) (pv 1) rfl)
      (pss_cons (ps_fld (pv 0) (pe_callTy (T := "tuple") (r := rTupOf K) call_tuple_of (by rfl) T.z_tuple (by decide +kernel) (pa_cons (pe_callB cr_sortT (by rfl) T.z_sorted (by decide +kernel) (pa_cons (pe_lc (own := [("leap", 5)]) (g := (gName 5)) rfl sc_Kind___init__.nd (pi_or (pi_list (pv 2)) (pi_tup (pv 2))) (blkOk_by (N := n_Kind___init__) (sc := defScope s_Kind___init__) (by decide +kernel)) (fun _ _ _ _ _ => (pg_name (i := 5) sc_Kind___init__.nd rfl (Or.inl rfl))) (fun _ _ _ _ _ => pts_nil) (fun _ _ _ _ _ => (pe_callTy (T := "tuple") (r := rTupOf K) call_tuple_of (by rfl) T.z_tuple (by decide +kernel) (pa_cons (pv 5) pa_nil)))) pa_nil)) pa_nil)) rfl)
      (pss_cons (ps_fld (pv 0) (pe_callTy (T := "tuple") (r := rTupOf K) call_tuple_of (by rfl) T.z_tuple (by decide +kernel) (pa_cons (pe_lc (own := [("ride", 6)]) (g := (gName 6)) rfl sc_Kind___init__.nd (pi_wkeys (pe_glob (v := .ref T.t_S) (by rfl) T.g_S rfl)) (blkOk_by (N := n_Kind___init__) (sc := defScope s_Kind___init__) (by decide +kernel)) (fun _ _ _ _ _ => (pg_name (i := 6) sc_Kind___init__.nd rfl (Or.inl rfl))) (fun _ _ _ _ _ => pts_one (pt_cmpR (r := rIn K false) op_in_seq (pv 6) (pv 3) (by rfl))) (fun _ _ _ _ _ => (pv 6))) pa_nil)) rfl)
      (pss_one (ps_fld (pv 0) (pv 4) rfl))))))))))), ?_⟩
  have bad : ∀ m p H1, kindBad dn dl dr dq = some (m, p) → Same H H1 → ∀ d H', H1 d = none → Same H1 H' → H' d = some (.xd [("part", .str p)]) → E (.ref (if m = true then T.c_Misfit else T.c_BadKind)) (some d) H' :=
    fun m p H1 e s1 d H' h1 h2 h3 => kb m p e d H' (s1.free h1) (s1.trans h2) h3
  clear kb
  -- the name
  refine ⟨_, rfl, c, vn, dn, rfl, hn, hz, fun H1 s1 => ⟨_, rfl, ?_⟩⟩
  refine iteB (fun e => ?_) (fun e => ?_)
  · have e0 : isNm dn = false := by simpa using e
    refine ⟨Nat.le_of_ble_eq_true rfl, mk_err fun d H' h1 h2 h3 => ?_⟩
    exact bad false "name" H1 (by unfold kindBad; rw [if_pos e0]) s1 d H' h1 h2 h3
  have e1 : isNm dn = true := by simpa using e
  clear e
  -- the leaps
  refine ⟨_, rfl, c, vl, dl, rfl, hl.up (Ext.of s1), hfl, fun H2 t2 => ⟨_, rfl, ?_⟩⟩
  have s2 := s1.trans t2
  clear t2
  refine iteB (fun e => ?_) (fun e => ?_)
  · have e0 : areLeaps dl = false := by simpa using e
    refine ⟨Nat.le_of_ble_eq_true rfl, mk_err fun d H' h1 h2 h3 => ?_⟩
    exact bad false "leaps" H2 (by unfold kindBad; rw [if_neg (by rw [e1]; decide), if_pos e0]) s2 d H' h1 h2 h3
  have e2 : areLeaps dl = true := by simpa using e
  clear e
  -- the rides
  refine ⟨_, rfl, c, vr, dr, rfl, hrd.up (Ext.of s2), hfr, fun H3 t3 => ⟨_, rfl, ?_⟩⟩
  have s3 := s2.trans t3
  clear t3
  refine iteB (fun e => ?_) (fun e => ?_)
  · have e0 : areRides dr = false := by simpa using e
    refine ⟨Nat.le_of_ble_eq_true rfl, mk_err fun d H' h1 h2 h3 => ?_⟩
    exact bad false "rides" H3 (by unfold kindBad; rw [if_neg (by rw [e1]; decide), if_neg (by rw [e2]; decide), if_pos e0]) s3 d H' h1 h2 h3
  have e3 : areRides dr = true := by simpa using e
  clear e
  -- is_lord
  have hq3 := hq.up (Ext.of s3)
  refine ⟨_, rfl, _, .ty "bool", .type (tyN _), .type "bool", _, rfl, .ty _, ty_of hq3, kit_ty (kB _), _, rfl, ?_⟩
  refine iteB (fun e => ?_) (fun e => ?_)
  · have e0 : isBl dq = false := by cases dq <;> first | rfl | cases e
    refine ⟨Nat.le_of_ble_eq_true rfl, mk_err fun d H' h1 h2 h3 => ?_⟩
    exact bad false "is_lord" H3 (by unfold kindBad; rw [if_neg (by rw [e1]; decide), if_neg (by rw [e2]; decide), if_neg (by rw [e3]; decide), if_pos e0]) s3 d H' h1 h2 h3
  have e4 : isBl dq = true := by cases dq <;> first | rfl | cases e
  clear e
  obtain ⟨q, rfl, rfl⟩ : ∃ q : Bool, vq = .bl q ∧ dq = .bool q := by
    cases hq3 with
    | bl q => exact ⟨q, rfl, rfl⟩
    | _ => cases e4
  have step : kindBad dn dl dr (.bool q) = if (q && !(seqOf dr).isEmpty) = true then some (true, ("rides" : Str)) else if ((seqOf dl).isEmpty && (seqOf dr).isEmpty) = true then some (true, ("leaps" : Str)) else none := by
    unfold kindBad
    rw [if_neg (by rw [e1]; decide), if_neg (by rw [e2]; decide), if_neg (by rw [e3]; decide), if_neg (fun z : isBl (.bool q) = false => by cases z)]; rfl
  have hl3 := hl.up (Ext.of s3)
  have hr3 := hrd.up (Ext.of s3)
  -- both are lists or tuples
  obtain ⟨al, xl, rfl, hsl, hvl⟩ := seq_of_leaps hl3 e2
  obtain ⟨ar, xr, rfl, hsr, hvr⟩ := seq_of_rides hr3 e3
  have lr := hvr.len
  have ll := hvl.len
  have em : ∀ {ds : List PyData} {n : Nat}, n = ds.length → ds.isEmpty = decide (n = 0) := fun {ds n} h => by
    subst h
    cases ds <;> simp
  rw [step] at bad kg
  -- a lord that rides
  refine ⟨_, rfl, _, rfl, ?_⟩
  refine if_sh ((q && !(seqOf dr).isEmpty) = false) (fun c1 => ?_) (fun F e => ?_) (fun e => by rw [e]; rfl)
  rotate_left
  · refine ⟨_, rfl, _, xr.length, rfl, hsr.imp (fun h => ⟨xr, h, rfl⟩) (fun h => ⟨xr, h, rfl⟩), _, _, rfl, rfl, _, rfl, ?_⟩
    refine iteB (fun e5 => ?_) (fun e5 => F ?_)
    · have e5 := of_decide_eq_true e5
      refine ⟨Nat.le_of_ble_eq_true rfl, mk_err fun d H' h1 h2 h3 => ?_⟩
      refine bad true "rides" H3 ?_ s3 d H' h1 h2 h3
      rw [if_pos]
      rw [e, em lr, decide_eq_false (by omega)]; rfl
    · have e5 := of_decide_eq_false e5
      rw [em lr, decide_eq_true (by omega)]; simp
  rw [if_neg (by rw [c1]; decide)] at bad kg
  -- neither leaps nor rides
  refine ⟨_, rfl, _, xl.length, rfl, hsl.imp (fun h => ⟨xl, h, rfl⟩) (fun h => ⟨xl, h, rfl⟩), rfl, _, rfl, ?_⟩
  refine if_sh (((seqOf dl).isEmpty && (seqOf dr).isEmpty) = false) (fun c2 => ?_) (fun F e => ?_) (fun e => ?_)
  rotate_left
  · refine ⟨_, rfl, _, xr.length, rfl, hsr.imp (fun h => ⟨xr, h, rfl⟩) (fun h => ⟨xr, h, rfl⟩), rfl, _, rfl, ?_⟩
    have e6 : xl.length = 0 := by have := V.int.inj (of_decide_eq_true e); omega
    refine iteB (fun e5 => ?_) (fun e5 => F ?_)
    · have e5 := V.int.inj (of_decide_eq_true e5)
      refine ⟨Nat.le_of_ble_eq_true rfl, mk_err fun d H' h1 h2 h3 => ?_⟩
      refine bad true "leaps" H3 ?_ s3 d H' h1 h2 h3
      rw [if_pos]
      rw [em ll, em lr, decide_eq_true e6, decide_eq_true (by omega)]; rfl
    · have e5 : ¬ xr.length = 0 := fun z => (of_decide_eq_false e5) (by rw [z]; rfl)
      rw [em ll, em lr, decide_eq_true e6, decide_eq_false e5]; rfl
  · have e5 : ¬ xl.length = 0 := fun z => (of_decide_eq_false e) (by rw [z]; rfl)
    rw [em ll, decide_eq_false e5]; rfl
  rw [if_neg (by rw [c2]; decide)] at kg
  replace kg := kg rfl
  clear bad c1 c2 em
  have a2 : (seqOf dl).all isLeap = true := leaps_all e2
  have a3 : (seqOf dr).all isRide = true := rides_all e3
  have exr := rides_are hvr a3
  have hx3 := s3 _ _ hx
  have x3 : Ext x H H3 := Ext.of s3
  have fl := few_len hfl
  clear hl hrd hn hq hq3 hl3 hr3 hfl hfr
  -- self.name
  refine ⟨_, rfl, _, rfl, x, _, dx, _, rfl, hx3, T.cl_Kind, T.nF_Kind_name, Nat.le_of_ble_eq_true rfl, ?_⟩
  have h4 : upd H3 x (.ins T.c_Kind dx [("name", vn)]) x = some (.ins T.c_Kind dx [("name", vn)]) := upd_same
  have i4 : ExtI H3 (upd H3 x (.ins T.c_Kind dx [("name", vn)])) := ExtI.put hx3
  have x4 : Ext x H (upd H3 x (.ins T.c_Kind dx [("name", vn)])) := x3.trans Ext.bag
  change tSeq _ _ _ _ (upd H3 x (.ins T.c_Kind dx [("name", vn)]))
  generalize upd H3 x (.ins T.c_Kind dx [("name", vn)]) = H4 at h4 i4 x4 ⊢
  have hsl4 : Seq K H4 al xl := hsl.imp i4.sqL i4.sqT
  have hsr4 : Seq K H4 ar xr := hsr.imp i4.sqL i4.sqT
  have hvl4 := hvl.upI i4
  clear hsl hsr hvl hvr x3 hx3 i4
  -- self.leaps
  refine pi_seq_rd (a := al) (xs := xl) rfl hsl4 (fun J G hG W => fun D hD => ?_)
  refine lc_it W (fun i H' => Same H4 H' ∧ ∃ ls : List (Addr × Int × Int), ls.length = i ∧ H' D = some (.lst (ls.map fun p => V.ref p.1)) ∧ (∀ p ∈ ls, SqT K H' p.1 [.int p.2.1, .int p.2.2]) ∧ ls.map (·.2) = ((seqOf dl).take i).map pairOf)
    ⟨same_new hD, [], rfl, upd_same, (fun p h => by cases h), rfl⟩ (fun i H' _ h => hG H' (ExtI.of h.1)) ?_ ?_
  · rintro i v H5 H6 hi ⟨s5, ls, hlen, hD5, hT, hmap⟩ ⟨rfl, hv⟩
    refine ⟨rfl, ?_⟩
    obtain ⟨d, hdi, hdx⟩ := hvl4.at hv
    have hle : isLeap d = true := List.all_eq_true.mp a2 d (List.mem_of_getElem? hdi)
    obtain ⟨b, ys, p, q', rfl, hb, hkey⟩ := leap_is (hdx.up (Ext.of s5)) hle
    have few' : ls.length < sizeLine := by
      have : i < xl.length := hi
      have hi2 := (List.getElem?_eq_some_iff.mp hdi).1
      exact Nat.lt_of_lt_of_le (show ls.length < 1000000 by omega) (by decide)
    have step : ∀ (t : Addr) (H7 : Hp), Same H4 H7 → H7 D = some (.lst (ls.map fun p => V.ref p.1)) → (∀ p ∈ ls, SqT K H7 p.1 [.int p.2.1, .int p.2.2]) → SqT K H7 t [.int p, .int q'] →
        ∃ acc, H7 D = some (.lst acc) ∧ acc.length < sizeLine ∧ (Same H4 (upd H7 D (.lst (acc ++ [V.ref t]))) ∧ ∃ ls : List (Addr × Int × Int), ls.length = i + 1 ∧ upd H7 D (.lst (acc ++ [V.ref t])) D = some (.lst (ls.map fun p => V.ref p.1)) ∧
          (∀ p ∈ ls, SqT K (upd H7 D (.lst (acc ++ [V.ref t]))) p.1 [.int p.2.1, .int p.2.2]) ∧ ls.map (·.2) = ((seqOf dl).take (i + 1)).map pairOf) := by
      intro t H7 s7 hD7 hT7 ht
      have keep : ∀ b zs, SqT K H7 b zs → SqT K (upd H7 D (.lst (ls.map (fun p => V.ref p.1) ++ [V.ref t]))) b zs := fun b zs h => seqT_lst hD7 h
      refine ⟨_, hD7, by rw [List.length_map]; exact few', same_own s7 hD, ls ++ [(t, p, q')], by rw [List.length_append, hlen]; rfl, by rw [upd_same, List.map_append]; rfl, fun r hr => ?_, ?_⟩
      · rcases List.mem_append.mp hr with hr | hr
        · exact keep _ _ (hT7 r hr)
        · rw [List.mem_singleton.mp hr]; exact keep _ _ ht
      · rw [List.map_append, hmap, List.take_add_one, hdi, List.map_append]
        show _ ++ [(p, q')] = _ ++ [pairOf d]
        unfold pairOf
        rw [hkey]
    refine ⟨_, rfl, b, ys, rfl, ?_⟩
    rcases hb with ⟨hb, rfl⟩ | ⟨hb, rfl⟩
    · refine .inl ⟨hb, fun t ht => ?_⟩
      have st : Same H6 (upd H6 t (.tup [.int p, .int q'])) := same_new ht
      exact step t _ (s5.trans st) (st _ _ hD5) (fun r hr => st.seqT (hT r hr)) (.of upd_same)
    · exact .inr ⟨hb, step b H6 s5 hD5 hT hb⟩
  rintro H5 ⟨s5, ks, hlen, hD5, hT, hmap⟩
  rw [hvl4.len, List.take_length] at hmap
  refine ⟨D, ks, rfl, .of hD5, hT, fun ls tp perm pw hp => ⟨tp, _, rfl, .inl ⟨.of upd_same, fun tl htl => ?_⟩⟩⟩
  have sp : Same H5 (upd H5 tp (.lst (ls.map fun p => V.ref p.1))) := same_new hp
  have st : Same (upd H5 tp (.lst (ls.map fun p => V.ref p.1))) (upd (upd H5 tp (.lst (ls.map fun p => V.ref p.1))) tl (.tup (ls.map fun p => V.ref p.1))) := same_new htl
  have s6 := s5.trans (sp.trans st)
  have hT6 : ∀ p ∈ ls, SqT K (upd (upd H5 tp (.lst (ls.map fun p => V.ref p.1))) tl (.tup (ls.map fun p => V.ref p.1))) p.1 [.int p.2.1, .int p.2.2] := fun p h => (sp.trans st).seqT (hT p (perm.mem_iff.mp h))
  have htl6 : SqT K (upd (upd H5 tp (.lst (ls.map fun p => V.ref p.1))) tl (.tup (ls.map fun p => V.ref p.1))) tl (ls.map fun p => V.ref p.1) := .of upd_same
  have hmap6 : (ls.map (·.2)).Perm ((seqOf dl).map pairOf) := by rw [← hmap]; exact perm.map _
  clear hT hmap perm hlen hD5 hD W hG hvl4 sp st s5
  generalize upd (upd H5 tp _) tl _ = H6 at s6 hT6 htl6 ⊢
  have h6 := s6 _ _ h4
  refine ⟨_, rfl, x, _, dx, _, rfl, h6, T.cl_Kind, T.nF_Kind_leaps, Nat.le_of_ble_eq_true rfl, ?_⟩
  have h7 : upd H6 x (.ins T.c_Kind dx [("name", vn), ("leaps", .ref tl)]) x = some (.ins T.c_Kind dx [("name", vn), ("leaps", .ref tl)]) := upd_same
  have i7 : ExtI H6 (upd H6 x (.ins T.c_Kind dx [("name", vn), ("leaps", .ref tl)])) := ExtI.put h6
  have x7 : Ext x H (upd H6 x (.ins T.c_Kind dx [("name", vn), ("leaps", .ref tl)])) := (x4.trans (Ext.of s6)).trans Ext.bag
  change tSeq _ _ _ _ (upd H6 x (.ins T.c_Kind dx [("name", vn), ("leaps", .ref tl)]))
  generalize upd H6 x (.ins T.c_Kind dx [("name", vn), ("leaps", .ref tl)]) = H7 at h7 i7 x7 ⊢
  have hT7 : ∀ p ∈ ls, SqT K H7 p.1 [.int p.2.1, .int p.2.2] := fun p h => i7.sqT (hT6 p h)
  have htl7 := i7.sqT htl6
  have hsr7 : Seq K H7 ar xr := (hsr4.imp (fun h => i7.sqL (s6.seq h)) fun h => i7.sqT (s6.seqT h))
  clear hT6 htl6 hsr4 hsl4 h6 h4 x4 s6 i7
  -- self.rides
  refine ⟨T.t_S, _, rfl, T.w_S, fun D hD => ?_⟩
  refine lc_it walk_wkeys (fun i H' => Same H7 H' ∧ H' D = some (.lst (((steps4.take i).filter fun z => decide (z ∈ (seqOf dr).map rkey)).map V.str))) ⟨same_new hD, upd_same⟩ (fun _ _ _ _ => trivial) ?_ ?_
  · rintro i v H8 H9 hi ⟨s8, hD8⟩ ⟨rfl, z, hz4, rfl⟩
    have hz4 : steps4[i]? = some z := hz4
    refine ⟨rfl, ?_⟩
    refine ⟨_, rfl, _, rfl, ar, xr, rfl, hsr7.imp s8.seq s8.seqT, rfl, ?_, _, rfl, ?_⟩
    · rw [exr]; exact all_flat _
    have e : inV (.str z) xr = decide (z ∈ (seqOf dr).map rkey) := by rw [exr]; exact inV_str _ _
    have f1 : ([z] : List Str).filter (fun z => decide (z ∈ (seqOf dr).map rkey)) = if decide (z ∈ (seqOf dr).map rkey) = true then [z] else [] := by
      rw [List.filter_cons]; rfl
    have nx : steps4.take (i + 1) = steps4.take i ++ [z] := by rw [List.take_add_one, hz4]; rfl
    refine iteB (fun e5 => ?_) (fun e5 => ?_)
    · have e5 : inV (.str z) xr = true := e5
      rw [e] at e5
      refine ⟨_, rfl, _, hD8, ?_, same_own s8 hD, ?_⟩
      · rw [List.length_map]
        exact szK (by have h1 := List.length_filter_le (fun z => decide (z ∈ (seqOf dr).map rkey)) (steps4.take i); have h2 := List.length_take_le' i steps4; have : steps4.length = 4 := rfl; omega)
      · rw [upd_same, nx, List.filter_append, List.map_append, f1, if_pos e5]; rfl
    · have e5 : inV (.str z) xr = false := e5
      rw [e] at e5
      refine ⟨s8, ?_⟩
      rw [nx, List.filter_append, f1, if_neg (by rw [e5]; decide)]
      rw [List.append_nil]; exact hD8
  rintro H8 ⟨s8, hD8⟩
  have hD8 : H8 D = some (.lst ((ridesOf dr).map V.str)) := hD8
  refine ⟨D, _, rfl, .inl ⟨.of hD8, fun tr htr => ?_⟩⟩
  have st : Same H8 (upd H8 tr (.tup ((ridesOf dr).map V.str))) := same_new htr
  have htr9 : SqT K (upd H8 tr (.tup ((ridesOf dr).map V.str))) tr ((ridesOf dr).map V.str) := .of upd_same
  have s9 := s8.trans st
  clear hD8 s8 st hD hsr7
  generalize upd H8 tr _ = H9 at s9 htr9 ⊢
  have h9 := s9 _ _ h7
  refine ⟨_, rfl, x, _, dx, _, rfl, h9, T.cl_Kind, T.nF_Kind_rides, Nat.le_of_ble_eq_true rfl, ?_⟩
  have h10 : upd H9 x (.ins T.c_Kind dx [("name", vn), ("leaps", .ref tl), ("rides", .ref tr)]) x = some (.ins T.c_Kind dx [("name", vn), ("leaps", .ref tl), ("rides", .ref tr)]) := upd_same
  have i10 : ExtI H9 (upd H9 x (.ins T.c_Kind dx [("name", vn), ("leaps", .ref tl), ("rides", .ref tr)])) := ExtI.put h9
  have x10 : Ext x H (upd H9 x (.ins T.c_Kind dx [("name", vn), ("leaps", .ref tl), ("rides", .ref tr)])) := (x7.trans (Ext.of s9)).trans Ext.bag
  -- self.is_lord
  refine ⟨_, rfl, _, rfl, x, _, dx, _, rfl, h10, T.cl_Kind, T.nF_Kind_is_lord, Nat.le_of_ble_eq_true rfl, ?_⟩
  have i11 := i10.trans (ExtI.put h10 (o := .ins T.c_Kind dx (kdF vn tl tr (.bl q))))
  refine kg tl tr ls _ (x10.trans Ext.bag) upd_same (i11.sqT (s9.seqT htl7)) (fun p h => i11.sqT (s9.seqT (hT7 p h))) hmap6 pw (i11.sqT htr9)
end
end Kd

set_option Elab.async false
set_option linter.all false
set_option maxRecDepth 100000
set_option maxHeartbeats 4000000
namespace Kd
open PySem PySem.Spec PyProof.Rows L2 Gs
/-! ### what is read of the words of a line -/
def leP (a u a0 u0 : Int) : Bool := if a = a0 then decide (u ≤ u0) else decide (a ≤ a0)
def rdLeap (ws : List Str) (i : Nat) (a0 u0 : Int) : Except Nat (Int × Int) :=
  match ws[i]?.bind intOf with
  | none => .error i
  | some a => if (lpart (.int a) && !decide (a < a0)) = true then
      match ws[i + 1]?.bind intOf with
      | none => .error (i + 1)
      | some u => if (lpair (.int a) (.int u) && !leP a u a0 u0) = true then .ok (a, u) else .error (i + 1)
    else .error i
theorem le_pair (a u a0 u0 : Int) : Ob.lexAt (fun j => decide (([a, u] : List Int).getD j 0 = [a0, u0].getD j 0)) (fun j => decide (([a, u] : List Int).getD j 0 ≤ [a0, u0].getD j 0)) (decide (([a, u] : List Int).length ≤ [a0, u0].length)) 0 (min ([a, u] : List Int).length [a0, u0].length) = leP a u a0 u0 := by
  show (if decide (a = a0) = true then (if decide (u = u0) = true then true else decide (u ≤ u0)) else decide (a ≤ a0)) = (if a = a0 then decide (u ≤ u0) else decide (a ≤ a0))
  by_cases h : a = a0
  · rw [if_pos (decide_eq_true h), if_pos h]
    by_cases h2 : u = u0
    · rw [if_pos (decide_eq_true h2), decide_eq_true (show u ≤ u0 by omega)]
    · rw [if_neg (by simpa using h2)]
  · rw [if_neg (by simpa using h), if_neg h]
theorem iteT' {b : Bool} {A B : Prop} (e : b = true) (h : A) : if b = true then A else B := by rw [if_pos e]; exact h
section
variable {P : Program} {w : World} {K : PySem.W.Frag} {mg : Str → Option Value} {base : Heap}
/-- the words are of a size that the model bears -/
def Small (ws : List Str) : Prop := ws.length ≤ 1000000 ∧ ∀ y ∈ ws, y.length ≤ 1000000
/-- the error that a text of another kind raises -/
def XText (D : Addr) (x : Addr) (n : Int) (H : Hp) (E : XK) (p : Nat) : Prop := ∀ d H', H d = none → Ext x H H' → H' d = some (.xd [("item", .int p), ("line", .int n)]) → E (.ref D) (some d) H'
theorem Ext.free {x d : Addr} {H H' : Hp} (e : Ext x H H') (hx : H' x ≠ none) (h : H' d = none) : H d = none := by
  cases z : H d with
  | none => rfl
  | some o => rw [e d o (fun q => hx (by rw [← q]; exact h)) z] at h; cases h
theorem LnAt.there {C x : Addr} {H : Hp} {n : Int} {ws : List Str} {i : Nat} (h : LnAt K C H x n ws i) : H x ≠ none := by
  obtain ⟨dx, l, h1, _⟩ := h
  rw [h1]; exact fun z => by cases z
theorem XText.ref {D x : Addr} {n : Int} {H H1 : Hp} {E : XK} {p : Nat} (k : XText D x n H E p) (e : Ext x H H1) (hx : H1 x ≠ none) : ∀ d H', H1 d = none → Same H1 H' → H' d = some (.xd [("item", .int p), ("line", .int n)]) → E (.ref D) (some d) H' :=
  fun d H' h1 h2 h3 => k d H' (Ext.free e hx h1) (e.trans (Ext.of h2)) h3
theorem XText.up {D x : Addr} {n : Int} {H H1 : Hp} {E : XK} {p : Nat} (k : XText D x n H E p) (e : Ext x H H1) (hx : H1 x ≠ none) : XText D x n H1 E p := fun d H' h1 h2 h3 => k d H' (Ext.free e hx h1) (e.trans h2) h3
def spLeap (K : PySem.W.Frag) (C D : Addr) : Sp := fun vs H Q E => ∃ (x b : Addr) (n a0 u0 : Int) (ws : List Str) (i : Nat), vs = [.ref x, .ref b] ∧ LnAt K C H x n ws i ∧ Small ws ∧ SqT K H b [.int a0, .int u0] ∧ 
  (∀ p, rdLeap ws i a0 u0 = .error p → XText D x n H E p) ∧
  (∀ a u, rdLeap ws i a0 u0 = .ok (a, u) → ∀ t H', Ext x H H' → LnAt K C H' x n ws (i + 2) → SqT K H' t [.int a, .int u] → Q (.ref t) H')
theorem O_read_leap (T : Tx K mg w) : FnOk P w K mg base (L2.CX P w) 5 T.a_read_leap T.d_read_leap ["line", "last"] (spLeap K T.c_Line T.c_BadText) := by
  refine T.F_read_leap.okX sc_read_leap (fun vs H Q E h => ?_) (fun cdv A outer s H vs Q E hr h => ?_)
  · obtain ⟨x, b, n, a0, u0, ws, i, rfl, _⟩ := h; rfl
  obtain ⟨x, b, n, a0, u0, ws, i, rfl, hL, hz, hb, kx, kg⟩ := h
  refine ⟨_, (pss_cons (ps_set (i := 2) sc_read_leap.nd rfl (Or.inl rfl) (pe_meth0 (pv 0) T.cl_Line T.me_Line_integer (O_Line_integer T) (hr.mono (by decide)) T.b_Line_integer .nil pass0))
      (pss_cons (ps_if (PW.pt (pw_or (pt_not (pt_val (pe_call (O_is_leap_part T) (hr.mono (by decide)) (by rfl) T.m_is_leap_part T.F_is_leap_part.kp T.b_is_leap_part .nil pass0 (pa_cons (pv 2) pa_nil)))) (pw_or1 (pt_cmpR op_lt (pv 2) (pe_ix ix_tup (pv 1) pe_int (fun _ _ => rfl)) (nomark _))))) (pss_one (ps_expr (pe_meth0 (pv 0) T.cl_Line T.me_Line_refuse (O_Line_refuse T) (hr.mono (by decide)) T.b_Line_refuse .nil (pX (takes_of rfl rfl rfl rfl) (fun _ _ _ _ h => h))))) pss_nil)
      (pss_cons (ps_expr (pe_meth0 (pv 0) T.cl_Line T.me_Line_take (O_Line_take T) (hr.mono (by decide)) T.b_Line_take .nil pass0))
      (pss_cons (ps_set (i := 3) sc_read_leap.nd rfl (Or.inl rfl) (pe_tup (pa_cons (pv 2) (pa_cons (pe_meth0 (pv 0) T.cl_Line T.me_Line_integer (O_Line_integer T) (hr.mono (by decide)) T.b_Line_integer .nil pass0) pa_nil))))
      (pss_cons (ps_if (PW.pt (pw_or (pt_not (pt_val (pe_call (O_is_leap T) (hr.mono (by decide)) (by rfl) T.m_is_leap T.F_is_leap.kp T.b_is_leap .nil pass0 (pa_cons (pv 3) pa_nil)))) (pw_or1 (pt_cmpR (op_leT hr.units0) (pv 3) (pv 1) (nomark _))))) (pss_one (ps_expr (pe_meth0 (pv 0) T.cl_Line T.me_Line_refuse (O_Line_refuse T) (hr.mono (by decide)) T.b_Line_refuse .nil (pX (takes_of rfl rfl rfl rfl) (fun _ _ _ _ h => h))))) pss_nil)
      (pss_cons (ps_expr (pe_meth0 (pv 0) T.cl_Line T.me_Line_take (O_Line_take T) (hr.mono (by decide)) T.b_Line_take .nil pass0))
      (pss_one (ps_ret (pv 3))))))))), ?_⟩
  have hL' := hL
  obtain ⟨dx, l, hx, nl, hS⟩ := hL
  -- across
  refine ⟨_, rfl, x, dx, _, rfl, hx, rfl, x, n, ws, i, rfl, hL', hz.1, hz.2, fun H1 s1 => ?_⟩
  have hL1 := hL'.same s1
  have e1 : Ext x H H1 := Ext.of s1
  have hb1 := s1.seqT hb
  clear hL' hS hx hb s1
  -- the line's refusal at place j of a heap that has come from H
  cases ho : ws[i]?.bind intOf with
  | none =>
    have kx := kx i (by unfold rdLeap; rw [ho])
    refine ⟨_, rfl, x, .non, .none, rfl, .non, fun H2 s2 => ⟨_, rfl, iteT ?_⟩⟩
    have hL2 := hL1.same s2
    have hL3 := hL2
    obtain ⟨dx, l, hx, nl, hS⟩ := hL2
    exact ⟨_, rfl, x, dx, _, rfl, hx, rfl, x, n, ws, i, rfl, hL3, kx.ref (e1.trans (Ext.of s2)) hL3.there⟩
  | some a =>
  refine ⟨_, rfl, x, .int a, .int a, rfl, .int a, fun H2 s2 => ⟨_, rfl, ?_⟩⟩
  have hL2 := hL1.same s2
  have hb2 := s2.seqT hb1
  have e2 := e1.trans (Ext.of s2)
  clear hL1 hb1 e1 s2
  have no : (lpart (.int a) && !decide (a < a0)) = false → ∀ H3, Same H2 H3 → ∀ d H', H3 d = none → Same H3 H' → H' d = some (.xd [("item", .int i), ("line", .int n)]) → E (.ref T.c_BadText) (some d) H' := fun h H3 s3 =>
    (kx i (by unfold rdLeap; rw [ho]; exact if_neg (by rw [h]; decide))).ref (e2.trans (Ext.of s3)) (hL2.same s3).there
  refine iteB (fun e => ?_) (fun e => ?_)
  · have e0 : lpart (.int a) = false := by simpa using e
    have hL3 := hL2
    obtain ⟨dx, l, hx, nl, hS⟩ := hL2
    exact ⟨_, rfl, x, dx, _, rfl, hx, rfl, x, n, ws, i, rfl, hL3, no (by rw [e0]; rfl) H2 (Same.refl H2)⟩
  have p1 : lpart (.int a) = true := by simpa using e
  clear e
  refine ⟨_, rfl, _, rfl, b, _, 0, _, rfl, rfl, hb2, rfl, _, _, rfl, rfl, _, rfl, ?_⟩
  refine iteB (fun e => ?_) (fun e => ?_)
  · have e0 : decide (a < a0) = true := e
    have hL3 := hL2
    obtain ⟨dx, l, hx, nl, hS⟩ := hL2
    exact ⟨_, rfl, x, dx, _, rfl, hx, rfl, x, n, ws, i, rfl, hL3, no (by rw [e0, Bool.and_comm]; rfl) H2 (Same.refl H2)⟩
  have p2 : decide (a < a0) = false := e
  clear e no
  have r1 : rdLeap ws i a0 u0 = match ws[i + 1]?.bind intOf with
      | none => .error (i + 1)
      | some u => if (lpair (.int a) (.int u) && !leP a u a0 u0) = true then .ok (a, u) else .error (i + 1) := by
    unfold rdLeap
    rw [ho]
    exact if_pos (by rw [p1, p2]; rfl)
  rw [r1] at kx kg
  -- line.take()
  obtain ⟨y, hy⟩ : ∃ y, ws[i]? = some y := by
    cases z : ws[i]? with
    | none => rw [z] at ho; cases ho
    | some y => exact ⟨y, rfl⟩
  have hL3 := hL2
  obtain ⟨dx, l, hx, nl, hS⟩ := hL3
  refine ⟨_, rfl, x, dx, _, rfl, hx, rfl, x, n, ws, i, rfl, hL2, hz.1, y, hy, fun H3 hL3 t3 => ?_⟩
  have hb3 : SqT K H3 b [.int a0, .int u0] := (ExtI.put' hx t3).sqT hb2
  have e3 := e2.trans t3
  clear hL2 hb2 e2 hx nl hS t3 dx l
  -- leap
  have hL4 := hL3
  obtain ⟨dx, l, hx, nl, hS⟩ := hL4
  refine ⟨_, rfl, _, rfl, x, dx, _, rfl, hx, rfl, x, n, ws, i + 1, rfl, hL3, hz.1, hz.2, fun H4 s4 => ⟨szl rfl, fun t ht => ?_⟩⟩
  have ntx : t ≠ x := fun z => by rw [z, s4 _ _ hx] at ht; cases ht
  have e5 : Ext x H3 (upd H4 t (.tup [.int a, oI (ws[i + 1]?.bind intOf)])) := (Ext.of s4).trans (Ext.new ht)
  have hL5 : LnAt K T.c_Line (upd H4 t (.tup [.int a, oI (ws[i + 1]?.bind intOf)])) x n ws (i + 1) := hL3.same (s4.trans (same_new ht))
  have hb5 : SqT K (upd H4 t (.tup [.int a, oI (ws[i + 1]?.bind intOf)])) b [.int a0, .int u0] := (s4.trans (same_new ht)).seqT hb3
  have ht5 : upd H4 t (.tup [.int a, oI (ws[i + 1]?.bind intOf)]) t = some (.tup [.int a, oI (ws[i + 1]?.bind intOf)]) := upd_same
  change tSeq _ _ _ _ (upd H4 t (.tup [.int a, oI (ws[i + 1]?.bind intOf)]))
  generalize upd H4 t (.tup [.int a, oI (ws[i + 1]?.bind intOf)]) = H5 at e5 hL5 hb5 ht5 ⊢
  replace e5 := e3.trans e5
  clear hL3 hb3 e3 s4 ht hx nl hS dx l
  cases ho2 : ws[i + 1]?.bind intOf with
  | none =>
    rw [ho2] at kx ht5
    have kx := kx (i + 1) rfl
    refine ⟨_, rfl, x, .ref t, .tuple [.int a, .none], rfl, .tup ntx (.of ht5) (.cons (.int a) (.cons .non .nil)), fun H6 s6 => ⟨_, rfl, iteT' ?_ ?_⟩⟩
    · show (!(lpart (.int a) && false && _)) = true
      rw [Bool.and_false, Bool.false_and]; rfl
    have hL6 := hL5.same s6
    have hL7 := hL6
    obtain ⟨dx, l, hx, nl, hS⟩ := hL6
    exact ⟨_, rfl, x, dx, _, rfl, hx, rfl, x, n, ws, i + 1, rfl, hL7, kx.ref (e5.trans (Ext.of s6)) hL7.there⟩
  | some u =>
  rw [ho2] at kx kg ht5
  have no : (lpair (.int a) (.int u) && !leP a u a0 u0) = false → ∀ H6, Same H5 H6 → ∀ d H', H6 d = none → Same H6 H' → H' d = some (.xd [("item", .int (i + 1 : Nat)), ("line", .int n)]) → E (.ref T.c_BadText) (some d) H' := fun h H6 s6 =>
    (kx (i + 1) (if_neg (by rw [h]; decide))).ref (e5.trans (Ext.of s6)) (hL5.same s6).there
  refine ⟨_, rfl, x, .ref t, .tuple [.int a, .int u], rfl, .tup ntx (.of ht5) (.cons (.int a) (.cons (.int u) .nil)), fun H6 s6 => ⟨_, rfl, ?_⟩⟩
  have hL6 := hL5.same s6
  have refuse : ∀ (h : (lpair (.int a) (.int u) && !leP a u a0 u0) = false), spRefuse K T.c_Line T.c_BadText [V.ref x] H6 Q E := fun h => ⟨x, n, ws, i + 1, rfl, hL6, no h H6 s6⟩
  have hL7 := hL6
  obtain ⟨dx, l, hx, nl, hS⟩ := hL7
  refine iteB (fun e => ?_) (fun e => ?_)
  · have e0 : lpair (.int a) (.int u) = false := by
      have e : (!lpair (.int a) (.int u)) = true := e
      simpa using e
    exact ⟨_, rfl, x, dx, _, rfl, hx, rfl, refuse (by rw [e0]; rfl)⟩
  have p3 : lpair (.int a) (.int u) = true := by
    have e : (!lpair (.int a) (.int u)) = false := e
    simpa using e
  clear e
  have hb6 := s6.seqT hb5
  refine ⟨_, rfl, _, rfl, t, b, [a, u], [a0, u0], rfl, rfl, .of (s6 _ _ ht5), hb6, _, rfl, ?_⟩
  have el := le_pair a u a0 u0
  refine iteB (fun e => ?_) (fun e => ?_)
  · have e0 : leP a u a0 u0 = true := el.symm.trans e
    exact ⟨_, rfl, x, dx, _, rfl, hx, rfl, refuse (by rw [e0, Bool.and_comm]; rfl)⟩
  have p4 : leP a u a0 u0 = false := el.symm.trans e
  replace kg := kg a u (if_pos (by rw [p3, p4]; rfl))
  obtain ⟨y2, hy2⟩ : ∃ y, ws[i + 1]? = some y := by
    cases z : ws[i + 1]? with
    | none => rw [z] at ho2; cases ho2
    | some y => exact ⟨y, rfl⟩
  refine ⟨_, rfl, x, dx, _, rfl, hx, rfl, x, n, ws, i + 1, rfl, hL6, hz.1, y2, hy2, fun H7 hL7 t7 => ⟨_, rfl, ?_⟩⟩
  exact kg t H7 ((e5.trans (Ext.of s6)).trans t7) hL7 ((ExtI.put' hx t7).sqT (.of (s6 _ _ ht5)))
end
end Kd

set_option Elab.async false
set_option linter.all false
set_option maxRecDepth 100000
set_option maxHeartbeats 4000000
namespace Kd
open PySem PySem.Spec PyProof.Rows L2 Gs
def comma : Str := ","
def rdMore (ws : List Str) : Nat → Nat → Int → Int → List (Int × Int) → Except Nat (List (Int × Int) × Nat)
  | 0, i, _, _, acc => .ok (acc, i)
  | f + 1, i, a0, u0, acc => if ws[i]? = some comma then
      match rdLeap ws (i + 1) a0 u0 with
      | .error p => .error p
      | .ok (a, u) => rdMore ws f (i + 3) a u (acc ++ [(a, u)])
    else .ok (acc, i)
def rdLeaps (ws : List Str) (i : Nat) : Except Nat (List (Int × Int) × Nat) :=
  match rdLeap ws i (-3) (-4) with
  | .error p => .error p
  | .ok (a, u) => rdMore ws (ws.length + 1) (i + 2) a u [(a, u)]
theorem rdLeap_len {ws : List Str} {i : Nat} {a0 u0 a u : Int} (h : rdLeap ws i a0 u0 = .ok (a, u)) : i + 2 ≤ ws.length := by
  unfold rdLeap at h
  cases h1 : ws[i]?.bind intOf with
  | none => rw [h1] at h; cases h
  | some b =>
    rw [h1] at h
    cases h2 : ws[i + 1]? with
    | none =>
      rw [h2] at h
      by_cases e : (lpart (.int b) && !decide (b < a0)) = true
      · have h : (if (lpart (.int b) && !decide (b < a0)) = true then (.error (i + 1) : Except Nat (Int × Int)) else .error i) = .ok (a, u) := h
        rw [if_pos e] at h; cases h
      · have h : (if (lpart (.int b) && !decide (b < a0)) = true then (.error (i + 1) : Except Nat (Int × Int)) else .error i) = .ok (a, u) := h
        rw [if_neg e] at h; cases h
    | some y =>
      have := (List.getElem?_eq_some_iff.mp h2).1
      omega
section
variable {P : Program} {w : World} {K : PySem.W.Frag} {mg : Str → Option Value} {base : Heap}
/-- a new list of leaps at v -/
def LeapsAt (K : PySem.W.Frag) (H : Hp) (v : Addr) (ls : List (Addr × Int × Int)) : Prop := H v = some (.lst (ls.map fun p => V.ref p.1)) ∧ ∀ p ∈ ls, SqT K H p.1 [.int p.2.1, .int p.2.2]
theorem lnAt_put {C x v : Addr} {H : Hp} {n : Int} {ws : List Str} {i : Nat} {rs : List V} {o : HO} (h : LnAt K C H x n ws i) (hv : H v = some (.lst rs)) (hne : rs ≠ ws.map V.str) : LnAt K C (upd H v o) x n ws i := by
  obtain ⟨dx, l, h1, h2, h3⟩ := h
  have nx : x ≠ v := fun e => by rw [e, hv] at h1; cases h1
  refine ⟨dx, l, by rw [upd_ne nx]; exact h1, h2, ?_⟩
  rcases h3 with (h3 | ⟨q, h3⟩) | h3
  · refine .inl (.inl ?_)
    rw [upd_ne (fun e => by rw [e, hv] at h3; exact hne (HO.lst.inj (Option.some.inj h3)))]; exact h3
  · refine .inl (.inr ⟨q, ?_⟩)
    rw [upd_ne (fun e => by rw [e, hv] at h3; cases h3)]; exact h3
  · exact .inr h3
def spLeaps (K : PySem.W.Frag) (C D : Addr) : Sp := fun vs H Q E => ∃ (x : Addr) (n : Int) (ws : List Str) (i : Nat), vs = [.ref x] ∧ LnAt K C H x n ws i ∧ Small ws ∧
  (∀ p, rdLeaps ws i = .error p → XText D x n H E p) ∧
  (∀ ps j, rdLeaps ws i = .ok (ps, j) → ∀ v ls H', Ext x H H' → LnAt K C H' x n ws j → LeapsAt K H' v ls → ls.map (·.2) = ps → Q (.ref v) H')
theorem O_read_leaps (T : Tx K mg w) : FnOk P w K mg base (L2.CX P w) 6 T.a_read_leaps T.d_read_leaps ["line"] (spLeaps K T.c_Line T.c_BadText) := by
  refine T.F_read_leaps.okX sc_read_leaps (fun vs H Q E h => ?_) (fun cdv A outer s H vs Q E hr h => ?_)
  · obtain ⟨x, n, ws, i, rfl, _⟩ := h; rfl
  obtain ⟨x, n, ws, i, rfl, hL, hz, kx, kg⟩ := h
  obtain ⟨tG, hG⟩ := T.g_LEAP
  refine ⟨_, (pss_cons (ps_set (i := 1) sc_read_leaps.nd rfl (Or.inl rfl) (pe_tup (pa_cons (pe_un un_neg (pe_glob (v := .int 3) (by rfl) hG ⟨_, rfl⟩)) (pa_cons (pe_op op_sub (pe_un un_neg (pe_glob (v := .int 3) (by rfl) hG ⟨_, rfl⟩)) pe_int) pa_nil))))
      (pss_cons (ps_set (i := 2) sc_read_leaps.nd rfl (Or.inl rfl) (pe_lst (pa_cons (pe_call (O_read_leap T) (hr.mono (by decide)) (by rfl) T.m_read_leap T.F_read_leap.kp T.b_read_leap .nil (pX (takes_of rfl rfl rfl rfl) (fun _ _ _ _ h => h)) (pa_cons (pv 0) (pa_cons (pv 1) pa_nil))) pa_nil)))
      (pss_cons (ps_while (passes_of rfl) (pt_val (pe_meth (pv 0) T.cl_Line T.me_Line_skip (O_Line_skip T) (hr.mono (by decide)) T.b_Line_skip .nil pass0 (pa_cons pe_str pa_nil))) (pss_one (ps_expr (pe_bm PySem.F.plainAttrs_list PySem.F.slot_list_append PySem.F.type_list_append mt_append (pv 2) (pa_cons (pe_call (O_read_leap T) (hr.mono (by decide)) (by rfl) T.m_read_leap T.F_read_leap.kp T.b_read_leap .nil (pX (takes_of rfl rfl rfl rfl) (fun _ _ _ _ h => h)) (pa_cons (pv 0) (pa_cons (pe_ix ix_list (pv 2) (pe_un un_neg pe_int) (fun _ _ => rfl)) pa_nil))) pa_nil)))))
      (pss_one (ps_ret (pv 2)))))), ?_⟩
  refine ⟨_, rfl, _, rfl, _, _, rfl, rfl, szl rfl, fun t0 ht0 => ?_⟩
  have e0 : Ext x H (upd H t0 (.tup [.int (-3), .int (-4)])) := Ext.new ht0
  have hL0 : LnAt K T.c_Line (upd H t0 (.tup [.int (-3), .int (-4)])) x n ws i := hL.same (same_new ht0)
  have h0 : upd H t0 (.tup [.int (-3), .int (-4)]) t0 = some (.tup [.int (-3), .int (-4)]) := upd_same
  change tSeq _ _ _ _ (upd H t0 (.tup [.int (-3), .int (-4)]))
  generalize upd H t0 (.tup [.int (-3), .int (-4)]) = H0 at e0 hL0 h0 ⊢
  refine ⟨_, rfl, _, rfl, x, t0, n, -3, -4, ws, i, rfl, hL0, hz, .of h0, fun p e => (kx p (by unfold rdLeaps; rw [e])).up e0 hL0.there, fun a u er t H1 e1 hL1 ht => ⟨szl rfl, fun v hv => ?_⟩⟩
  have nvx : v ≠ x := fun z => hL1.there (by rw [← z]; exact hv)
  have R : rdLeaps ws i = rdMore ws (ws.length + 1) (i + 2) a u [(a, u)] := by unfold rdLeaps; rw [er]
  have hvn : H v = none := Ext.free (e0.trans e1) hL1.there hv
  have hL2 := hL1.same (same_new hv (o := .lst [.ref t]))
  have hv2 : LeapsAt K (upd H1 v (.lst [.ref t])) v [(t, a, u)] := ⟨upd_same, fun p h => by rw [List.mem_singleton.mp h]; exact (same_new hv).seqT ht⟩
  have e2 : Ext x H (upd H1 v (.lst [.ref t])) := (e0.trans e1).trans (Ext.new hv)
  change tSeq _ _ _ _ (upd H1 v (.lst [.ref t]))
  generalize upd H1 v (.lst [.ref t]) = H2 at hL2 hv2 e2 ⊢
  clear hv ht hL1 e1 hL0 h0 e0 hL
  refine ⟨fun m σ H' => σ = [some (.ref x), some (.ref t0), some (.ref v)] ∧ Ext x H H' ∧ ∃ (j : Nat) (a u : Int) (ls : List (Addr × Int × Int)) (t : Addr), ws.length < j + m ∧ LnAt K T.c_Line H' x n ws j ∧ LeapsAt K H' v (ls ++ [(t, a, u)]) ∧ (ls ++ [(t, a, u)]).length ≤ j ∧ j ≤ ws.length ∧
      rdLeaps ws i = rdMore ws m j a u ((ls ++ [(t, a, u)]).map (·.2)), ⟨ws.length + 1, rfl, e2, i + 2, a, u, [], t, by omega, hL2, hv2, by simp, rdLeap_len er, R⟩, ?_⟩
  rintro m σ H3 ⟨rfl, e3, j, a, u, ls, t, hm, hL3, hv3, hlen, hj, hR⟩
  have hx3 := hL3.there
  refine ⟨_, rfl, ?_⟩
  have hL4 := hL3
  obtain ⟨dx, l, hx, nl, hS⟩ := hL4
  refine ⟨x, dx, _, rfl, hx, rfl, x, n, ws, j, comma, rfl, hL3, hz.1, fun hc H4 hL4 e4 => ⟨_, rfl, ?_⟩, fun hc H4 s4 => ⟨_, rfl, ?_⟩⟩
  rotate_left
  · -- the end
    refine iteF ?_
    refine ⟨_, rfl, ?_⟩
    have fin : rdLeaps ws i = .ok ((ls ++ [(t, a, u)]).map (·.2), j) := by
      rw [hR]
      cases m with
      | zero => rfl
      | succ m => exact if_neg hc
    exact kg _ j fin v (ls ++ [(t, a, u)]) H4 (e3.trans (Ext.of s4)) (hL3.same s4) ⟨s4 _ _ hv3.1, fun p h => s4.seqT (hv3.2 p h)⟩ rfl
  -- one more
  refine iteT ?_
  have hjl : j < ws.length := (List.getElem?_eq_some_iff.mp hc).1
  cases m with
  | zero => omega
  | succ m =>
  have step : rdLeaps ws i = match rdLeap ws (j + 1) a u with
      | .error p => .error p
      | .ok (a', u') => rdMore ws m (j + 3) a' u' ((ls ++ [(t, a, u)]).map (·.2) ++ [(a', u')]) := hR.trans (if_pos hc)
  have i4 : ExtI H3 H4 := ExtI.put' hx e4
  have hv4 : LeapsAt K H4 v (ls ++ [(t, a, u)]) := ⟨i4 _ _ hv3.1 (fun _ _ _ z => by cases z), fun p h => i4.sqT (hv3.2 p h)⟩
  have e34 := e3.trans e4
  refine ⟨fun σ' H' => ∃ m', m' < m + 1 ∧ (σ' = [some (.ref x), some (.ref t0), some (.ref v)] ∧ Ext x H H' ∧ ∃ (j : Nat) (a u : Int) (ls : List (Addr × Int × Int)) (t : Addr), ws.length < j + m' ∧ LnAt K T.c_Line H' x n ws j ∧ LeapsAt K H' v (ls ++ [(t, a, u)]) ∧ (ls ++ [(t, a, u)]).length ≤ j ∧ j ≤ ws.length ∧
      rdLeaps ws i = rdMore ws m' j a u ((ls ++ [(t, a, u)]).map (·.2))), fun σ' H' h => h, ?_⟩
  refine ⟨_, rfl, .inl ⟨rfl, _, .of hv4.1⟩, _, rfl, _, rfl, _, rfl, v, _, _, .ref t, rfl, rfl, .of hv4.1, ?_, x, t, n, a, u, ws, j + 1, rfl, hL4, hz, hv4.2 (t, a, u) (by simp), fun p e => (kx p (by rw [step, e])).up e34 hL4.there, fun a' u' er t' H5 e5 hL5 ht5 => ?_⟩
  · rw [List.map_append]; exact atI_last _ _
  have i5 : ExtI H4 H5 := by
    obtain ⟨dx, l, hx, nl, hS⟩ := hL4
    exact ExtI.put' hx e5
  have hv5 : LeapsAt K H5 v (ls ++ [(t, a, u)]) := ⟨i5 _ _ hv4.1 (fun _ _ _ z => by cases z), fun p h => i5.sqT (hv4.2 p h)⟩
  refine ⟨v, _, _, rfl, rfl, hv5.1, ?_, m, Nat.lt_succ_self _, rfl, (e34.trans e5).own hvn, j + 3, a', u', ls ++ [(t, a, u)], t', by omega, ?_, ?_, ?_, rdLeap_len er, ?_⟩
  · rw [List.length_map]
    exact Nat.lt_of_lt_of_le (show (ls ++ [(t, a, u)]).length < 1000001 by have := hz.1; omega) (by decide)
  · refine lnAt_put hL5 hv5.1 fun e => ?_
    rw [List.map_append] at e
    have hm : V.ref t ∈ ws.map V.str := by rw [← e]; simp
    obtain ⟨y, _, z⟩ := List.mem_map.mp hm
    cases z
  · refine ⟨by rw [upd_same]; simp, fun p h => ?_⟩
    rcases List.mem_append.mp h with h | h
    · exact seqT_lst hv5.1 (hv5.2 p h)
    · rw [List.mem_singleton.mp h]; exact seqT_lst hv5.1 ht5
  · rw [List.length_append]
    simp only [List.length_cons, List.length_nil]
    omega
  · rw [step, er, List.map_append (l₂ := [(t', a', u')])]; rfl
end
end Kd

set_option Elab.async false
set_option linter.all false
set_option maxRecDepth 100000
set_option maxHeartbeats 4000000
namespace Kd
open PySem PySem.Spec PyProof.Rows L2 Gs
def rdRides (ws : List Str) : Nat → Nat → List Str → List Str → Except Nat (List Str × Nat)
  | 0, i, _, acc => .ok (acc, i)
  | f + 1, i, later, acc => if (acc.isEmpty || decide (i < ws.length)) = true then
      match ws[i]? with
      | none => .error i
      | some z => if z ∈ later then rdRides ws f (i + 1) (later.drop (later.idxOf z + 1)) (acc ++ [z]) else .error i
    else .ok (acc, i)
theorem none_in (l : List Str) : inV .non (l.map V.str) = false := by
  unfold inV
  rw [List.any_map, List.any_eq_false]
  intro y _ h
  cases h
theorem idx_at {z : Str} {l : List Str} (h : z ∈ l) : l[l.idxOf z]? = some z := by
  have := List.idxOf_lt_length_of_mem h
  rw [List.getElem?_eq_getElem this, List.getElem_idxOf this]
theorem idx_no {z : Str} : ∀ {l : List Str} {k : Nat} {u : Str}, k < l.idxOf z → l[k]? = some u → (u == z) = false
  | [], k, u, h, _ => by simp at h
  | a :: l, k, u, h, e => by
    rw [List.idxOf_cons] at h
    cases hb : a == z with
    | true => rw [hb] at h; simp at h
    | false =>
      rw [hb] at h
      cases k with
      | zero => rw [List.getElem?_cons_zero] at e; rw [← Option.some.inj e]; exact hb
      | succ k => exact idx_no (l := l) (by simpa using h) (by simpa using e)
theorem cut_from (l : List Str) (k : Nat) : cutV (l.map V.str) (some ((k : Nat) : Int)) none = (l.drop k).map V.str := by
  unfold cutV
  rw [HT.sIx_none, HT.sIx_nat, List.map_drop, List.take_of_length_le]
  · by_cases h : k ≤ (l.map V.str).length
    · rw [Nat.min_eq_left h]
    · rw [Nat.min_eq_right (by omega), List.drop_of_length_le (Nat.le_refl _), List.drop_of_length_le (by omega)]
  · rw [List.length_drop]; exact Nat.le_refl _
section
variable {P : Program} {w : World} {K : PySem.W.Frag} {mg : Str → Option Value} {base : Heap}
def spRides (K : PySem.W.Frag) (C D : Addr) : Sp := fun vs H Q E => ∃ (x : Addr) (n : Int) (ws : List Str) (i : Nat), vs = [.ref x] ∧ LnAt K C H x n ws i ∧ Small ws ∧ 1 ≤ i ∧
  (∀ p, rdRides ws 5 i steps4 [] = .error p → XText D x n H E p) ∧
  (∀ rs j, rdRides ws 5 i steps4 [] = .ok (rs, j) → ∀ v H', Ext x H H' → LnAt K C H' x n ws j → H' v = some (.lst (rs.map V.str)) → Q (.ref v) H')
theorem O_read_rides (T : Tx K mg w) : FnOk P w K mg base (L2.CX P w) 5 T.a_read_rides T.d_read_rides ["line"] (spRides K T.c_Line T.c_BadText) := by
  refine T.F_read_rides.okX sc_read_rides (fun vs H Q E h => ?_) (fun cdv A outer s H vs Q E hr h => ?_)
  · obtain ⟨x, n, ws, i, rfl, _⟩ := h; rfl
  obtain ⟨x, n, ws, i, rfl, hL, hz, hi1, kx, kg⟩ := h
  refine ⟨_, (pss_cons (ps_set (i := 1) sc_read_rides.nd rfl (Or.inl rfl) (pe_callTy (T := "list") (r := rListW K w) (call_listW rfl) (by rfl) T.z_list (by decide +kernel) (pa_cons (pe_glob (v := .ref T.t_S) (by rfl) T.g_S rfl) pa_nil)))
      (pss_cons (ps_set (i := 2) sc_read_rides.nd rfl (Or.inl rfl) (pe_lst pa_nil))
      (pss_cons (ps_while (passes_of rfl) (PW.pt (pw_or (pt_not (pt_truth (pv 2) (by intro _; rfl))) (pw_or1 (pt_val (pe_meth0 (pv 0) T.cl_Line T.me_Line_is_left (O_Line_is_left T) (hr.mono (by decide)) T.b_Line_is_left .nil pass0))))) (pss_cons (ps_if (pt_cmpR op_notIn_seq (pe_meth0 (pv 0) T.cl_Line T.me_Line_seen (O_Line_seen T) (hr.mono (by decide)) T.b_Line_seen .nil pass0) (pv 1) (by rfl)) (pss_one (ps_expr (pe_meth0 (pv 0) T.cl_Line T.me_Line_refuse (O_Line_refuse T) (hr.mono (by decide)) T.b_Line_refuse .nil (pX (takes_of rfl rfl rfl rfl) (fun _ _ _ _ h => h))))) pss_nil)
      (pss_cons (ps_expr (pe_bm PySem.F.plainAttrs_list PySem.F.slot_list_append PySem.F.type_list_append mt_append (pv 2) (pa_cons (pe_meth0 (pv 0) T.cl_Line T.me_Line_take (O_Line_take T) (hr.mono (by decide)) T.b_Line_take .nil pass0) pa_nil)))
      (pss_one (ps_set (i := 1) sc_read_rides.nd rfl (Or.inl rfl) (pe_slice sl_list (pv 1) (po_some (pe_op op_add (pe_bm PySem.F.plainAttrs_list PySem.F.slot_list_index PySem.F.type_list_index mt_index (pv 1) (pa_cons (pe_ix ix_list (pv 2) (pe_un un_neg pe_int) (fun _ _ => rfl)) pa_nil)) pe_int)) po_none))))))
      (pss_one (ps_ret (pv 2)))))), ?_⟩
  refine ⟨T.t_S, _, rfl, T.w_S, (show steps4.Nodup by decide), Nat.le_of_ble_eq_true rfl, fun a1 ha1 => ?_⟩
  refine ⟨szl rfl, fun v hv => ?_⟩
  have n1v : a1 ≠ v := fun z => by rw [← z, upd_same] at hv; cases hv
  have hvn : H v = none := by rwa [upd_ne n1v.symm] at hv
  have g1 : upd H a1 (.lst ((([("right", V.ref T.t_R), ("left", .ref T.t_L), ("up", .ref T.t_U), ("down", .ref T.t_D)] : List (Str × V)).map (·.1)).map V.str)) a1 = some (.lst (steps4.map V.str)) := upd_same
  have e1 : Same H (upd H a1 (.lst ((([("right", V.ref T.t_R), ("left", .ref T.t_L), ("up", .ref T.t_U), ("down", .ref T.t_D)] : List (Str × V)).map (·.1)).map V.str))) := same_new ha1
  change tSeq _ _ _ _ (upd (upd H a1 (.lst ((([("right", V.ref T.t_R), ("left", .ref T.t_L), ("up", .ref T.t_U), ("down", .ref T.t_D)] : List (Str × V)).map (·.1)).map V.str))) v (.lst []))
  revert hv g1 e1
  generalize upd H a1 _ = H1
  intro hv g1 e1
  have hL2 : LnAt K T.c_Line (upd H1 v (.lst [])) x n ws i := hL.same (e1.trans (same_new hv))
  have g2 : upd H1 v (.lst []) a1 = some (.lst (steps4.map V.str)) := by rw [upd_ne n1v]; exact g1
  have g3 : upd H1 v (.lst []) v = some (.lst (([] : List Str).map V.str)) := upd_same
  have e2 : Ext x H (upd H1 v (.lst [])) := Ext.of (e1.trans (same_new hv))
  generalize upd H1 v (.lst []) = H2 at hL2 g2 g3 e2 ⊢
  clear hv g1 e1 hL ha1
  refine ⟨fun m σ H' => ∃ (b : Addr) (later acc : List Str) (j : Nat), σ = [some (.ref x), some (.ref b), some (.ref v)] ∧ Ext x H H' ∧ LnAt K T.c_Line H' x n ws j ∧ H' b = some (.lst (later.map V.str)) ∧ H' v = some (.lst (acc.map V.str)) ∧ b ≠ v ∧
      later.length < m ∧ acc.length + 1 ≤ j ∧ acc.length + later.length ≤ 4 ∧ rdRides ws 5 i steps4 [] = rdRides ws m j later acc, ⟨5, a1, steps4, [], i, rfl, e2, hL2, g2, g3, n1v, by decide, hi1, by decide, rfl⟩, ?_⟩
  clear hL2 g2 g3 e2 n1v a1 H2
  rintro m σ H3 ⟨b, later, acc, j, rfl, e3, hL3, hb, hv, nbv, hlm, hacc, h4, hR⟩
  cases m with
  | zero => omega
  | succ m =>
  have hR : rdRides ws 5 i steps4 [] = if (acc.isEmpty || decide (j < ws.length)) = true then
      match ws[j]? with
      | none => .error j
      | some z => if z ∈ later then rdRides ws m (j + 1) (later.drop (later.idxOf z + 1)) (acc ++ [z]) else .error j
    else .ok (acc, j) := hR
  refine ⟨_, rfl, _, .inl ⟨_, .of hv, rfl⟩, ?_⟩
  have emp : (!!(acc.map V.str).isEmpty) = acc.isEmpty := by cases acc <;> rfl
  refine iteB (fun e => ?_) (fun e => ?_)
  · have c : (acc.isEmpty || decide (j < ws.length)) = true := by
      have e : (!!(acc.map V.str).isEmpty) = true := e
      rw [emp] at e; rw [e]; rfl
    have s4 : Same H3 H3 := Same.refl H3
    refine iteT ⟨fun σ' H' => ∃ m', m' < m + 1 ∧ ∃ (b : Addr) (later acc : List Str) (j : Nat), σ' = [some (.ref x), some (.ref b), some (.ref v)] ∧ Ext x H H' ∧ LnAt K T.c_Line H' x n ws j ∧ H' b = some (.lst (later.map V.str)) ∧ H' v = some (.lst (acc.map V.str)) ∧ b ≠ v ∧
          later.length < m' ∧ acc.length + 1 ≤ j ∧ acc.length + later.length ≤ 4 ∧ rdRides ws 5 i steps4 [] = rdRides ws m' j later acc, fun σ' H' h => h, ?_⟩
    replace hR := hR.trans (if_pos c)
    have hL4 := hL3.same s4
    have hb4 := s4 _ _ hb
    have hv4 := s4 _ _ hv
    have e4 := e3.trans (Ext.of s4)
    clear hL3 hb hv e3 s4 c emp
    have hL5 := hL4
    obtain ⟨dx, l, hx, nl, hS⟩ := hL5
    refine ⟨_, rfl, x, dx, _, rfl, hx, rfl, x, n, ws, j, rfl, hL4, hz.1, fun H5 s5 => ⟨_, rfl, b, _, rfl, .inl (.of (s5 _ _ hb4)), ?_, all_flat _, _, rfl, ?_⟩⟩
    · cases ws[j]? <;> rfl
    have hL5 := hL4.same s5
    have hb5 := s5 _ _ hb4
    have hv5 := s5 _ _ hv4
    have e5 := e4.trans (Ext.of s5)
    clear hL4 hb4 hv4 e4 s5 hx nl hS dx l
    have hL6 := hL5
    obtain ⟨dx, l, hx, nl, hS⟩ := hL6
    refine iteB (fun e => ?_) (fun e => ?_)
    · have er : rdRides ws 5 i steps4 [] = .error j := by
        rw [hR]
        cases hw : ws[j]? with
        | none => rfl
        | some z =>
          rw [hw] at e
          have e : (!inV (.str z) (later.map V.str)) = true := e
          rw [inV_str] at e
          exact if_neg (fun h => by rw [decide_eq_true h] at e; cases e)
      exact ⟨_, rfl, x, dx, _, rfl, hx, rfl, x, n, ws, j, rfl, hL5, (kx j er).ref e5 hL5.there⟩
    obtain ⟨z, hw, hm⟩ : ∃ z, ws[j]? = some z ∧ z ∈ later := by
      cases hw : ws[j]? with
      | none => rw [hw] at e; have e : (!inV .non (later.map V.str)) = false := e; rw [none_in] at e; cases e
      | some z =>
        rw [hw] at e
        have e : (!inV (.str z) (later.map V.str)) = false := e
        rw [inV_str] at e
        exact ⟨z, rfl, by simpa using e⟩
    clear e
    have hR2 : rdRides ws 5 i steps4 [] = rdRides ws m (j + 1) (later.drop (later.idxOf z + 1)) (acc ++ [z]) := by
      rw [hR, hw]
      exact if_pos hm
    have hjl : j < ws.length := (List.getElem?_eq_some_iff.mp hw).1
    -- rides.append(line.take())
    refine ⟨_, rfl, .inl ⟨rfl, _, .of hv5⟩, _, rfl, x, dx, _, rfl, hx, rfl, x, n, ws, j, rfl, hL5, hz.1, z, hw, fun H6 hL6 e6 => ?_⟩
    have i6 : ExtI H5 H6 := ExtI.put' hx e6
    have hv6 : H6 v = some (.lst (acc.map V.str)) := i6 _ _ hv5 (fun _ _ _ z => by cases z)
    have hb6 : H6 b = some (.lst (later.map V.str)) := i6 _ _ hb5 (fun _ _ _ z => by cases z)
    have e06 := (e5.trans e6).own hvn (o := .lst ((acc ++ [z]).map V.str))
    refine ⟨v, _, _, rfl, rfl, hv6, by rw [List.length_map]; exact szs (by omega), ?_⟩
    have hL7 : LnAt K T.c_Line (upd H6 v (.lst (acc.map V.str ++ [V.str z]))) x n ws (j + 1) := lnAt_put hL6 hv6 fun e => by
      have := congrArg List.length e
      rw [List.length_map, List.length_map] at this
      omega
    have ev : acc.map V.str ++ [V.str z] = (acc ++ [z]).map V.str := by rw [List.map_append]; rfl
    rw [ev] at hL7
    have hv7 : upd H6 v (.lst ((acc ++ [z]).map V.str)) v = some (.lst ((acc ++ [z]).map V.str)) := upd_same
    have hb7 : upd H6 v (.lst ((acc ++ [z]).map V.str)) b = some (.lst (later.map V.str)) := by rw [upd_ne nbv]; exact hb6
    rw [ev]
    clear ev hL6 hv6 hb6 i6 e6 hL5 hb5 hv5 e5 hx nl hS dx l
    revert hL7 hv7 hb7 e06
    generalize upd H6 v (.lst ((acc ++ [z]).map V.str)) = H7
    intro e07 hL7 hv7 hb7
    -- later = later[later.index(rides[-1]) + 1:]
    have hin := idx_at hm
    refine ⟨_, rfl, _, rfl, .inl ⟨rfl, _, .of hb7⟩, _, rfl, _, rfl, v, _, _, .str z, rfl, rfl, .of hv7, ?_, b, _, .str z, later.idxOf z, .str z, rfl, rfl, .of hb7, rfl, all_flat _, ?_, ?_, ?_, _, _, rfl, rfl, _, rfl, b, _, rfl, .of hb7, fun b2 hb2 => ?_⟩
    · rw [List.map_append]; exact atI_last _ _
    · rw [List.getElem?_map, hin]; rfl
    · show (z == z) = true
      simp
    · intro k y hk hy
      rw [List.getElem?_map] at hy
      cases hq : later[k]? with
      | none => rw [hq] at hy; cases hy
      | some u =>
        rw [hq] at hy
        obtain rfl : V.str u = y := Option.some.inj hy
        show (u == z) = false
        exact idx_no hk hq
    have ecut : cutV (later.map V.str) (some (((later.idxOf z : Nat) : Int) + 1)) none = (later.drop (later.idxOf z + 1)).map V.str := cut_from later (later.idxOf z + 1)
    rw [ecut]
    have n2v : b2 ≠ v := fun e => by rw [e, hv7] at hb2; cases hb2
    have ld : (later.drop (later.idxOf z + 1)).length + 1 ≤ later.length := by
      rw [List.length_drop]
      have := (List.getElem?_eq_some_iff.mp hin).1
      omega
    refine ⟨m, Nat.lt_succ_self _, b2, later.drop (later.idxOf z + 1), acc ++ [z], j + 1, rfl, e07.trans (Ext.new hb2), hL7.same (same_new hb2), upd_same, by rw [upd_ne n2v.symm]; exact hv7, n2v, by omega, ?_, ?_, hR2⟩
    · rw [List.length_append]; exact Nat.succ_le_succ hacc
    · rw [List.length_append]
      simp only [List.length_cons, List.length_nil]
      omega
  · have e : (!!(acc.map V.str).isEmpty) = false := e
    rw [emp] at e
    have hL4 := hL3
    obtain ⟨dx, l, hx, nl, hS⟩ := hL4
    refine ⟨_, rfl, x, dx, _, rfl, hx, rfl, x, n, ws, j, rfl, hL3, hz.1, fun H4 s4 => ⟨_, rfl, ?_⟩⟩
    clear hx nl hS dx l
    refine iteB (fun e5 => ?_) (fun e5 => ?_)
    rotate_left
    · have fin : rdRides ws 5 i steps4 [] = .ok (acc, j) := by
        rw [hR]
        exact if_neg (by rw [e, e5]; decide)
      exact ⟨_, rfl, kg acc j fin v H4 (e3.trans (Ext.of s4)) (hL3.same s4) (s4 _ _ hv)⟩
    have c : (acc.isEmpty || decide (j < ws.length)) = true := by rw [e, e5]; rfl
    clear e e5
    refine ⟨fun σ' H' => ∃ m', m' < m + 1 ∧ ∃ (b : Addr) (later acc : List Str) (j : Nat), σ' = [some (.ref x), some (.ref b), some (.ref v)] ∧ Ext x H H' ∧ LnAt K T.c_Line H' x n ws j ∧ H' b = some (.lst (later.map V.str)) ∧ H' v = some (.lst (acc.map V.str)) ∧ b ≠ v ∧
          later.length < m' ∧ acc.length + 1 ≤ j ∧ acc.length + later.length ≤ 4 ∧ rdRides ws 5 i steps4 [] = rdRides ws m' j later acc, fun σ' H' h => h, ?_⟩
    replace hR := hR.trans (if_pos c)
    have hL4 := hL3.same s4
    have hb4 := s4 _ _ hb
    have hv4 := s4 _ _ hv
    have e4 := e3.trans (Ext.of s4)
    clear hL3 hb hv e3 s4 c emp
    have hL5 := hL4
    obtain ⟨dx, l, hx, nl, hS⟩ := hL5
    refine ⟨_, rfl, x, dx, _, rfl, hx, rfl, x, n, ws, j, rfl, hL4, hz.1, fun H5 s5 => ⟨_, rfl, b, _, rfl, .inl (.of (s5 _ _ hb4)), ?_, all_flat _, _, rfl, ?_⟩⟩
    · cases ws[j]? <;> rfl
    have hL5 := hL4.same s5
    have hb5 := s5 _ _ hb4
    have hv5 := s5 _ _ hv4
    have e5 := e4.trans (Ext.of s5)
    clear hL4 hb4 hv4 e4 s5 hx nl hS dx l
    have hL6 := hL5
    obtain ⟨dx, l, hx, nl, hS⟩ := hL6
    refine iteB (fun e => ?_) (fun e => ?_)
    · have er : rdRides ws 5 i steps4 [] = .error j := by
        rw [hR]
        cases hw : ws[j]? with
        | none => rfl
        | some z =>
          rw [hw] at e
          have e : (!inV (.str z) (later.map V.str)) = true := e
          rw [inV_str] at e
          exact if_neg (fun h => by rw [decide_eq_true h] at e; cases e)
      exact ⟨_, rfl, x, dx, _, rfl, hx, rfl, x, n, ws, j, rfl, hL5, (kx j er).ref e5 hL5.there⟩
    obtain ⟨z, hw, hm⟩ : ∃ z, ws[j]? = some z ∧ z ∈ later := by
      cases hw : ws[j]? with
      | none => rw [hw] at e; have e : (!inV .non (later.map V.str)) = false := e; rw [none_in] at e; cases e
      | some z =>
        rw [hw] at e
        have e : (!inV (.str z) (later.map V.str)) = false := e
        rw [inV_str] at e
        exact ⟨z, rfl, by simpa using e⟩
    clear e
    have hR2 : rdRides ws 5 i steps4 [] = rdRides ws m (j + 1) (later.drop (later.idxOf z + 1)) (acc ++ [z]) := by
      rw [hR, hw]
      exact if_pos hm
    have hjl : j < ws.length := (List.getElem?_eq_some_iff.mp hw).1
    -- rides.append(line.take())
    refine ⟨_, rfl, .inl ⟨rfl, _, .of hv5⟩, _, rfl, x, dx, _, rfl, hx, rfl, x, n, ws, j, rfl, hL5, hz.1, z, hw, fun H6 hL6 e6 => ?_⟩
    have i6 : ExtI H5 H6 := ExtI.put' hx e6
    have hv6 : H6 v = some (.lst (acc.map V.str)) := i6 _ _ hv5 (fun _ _ _ z => by cases z)
    have hb6 : H6 b = some (.lst (later.map V.str)) := i6 _ _ hb5 (fun _ _ _ z => by cases z)
    have e06 := (e5.trans e6).own hvn (o := .lst ((acc ++ [z]).map V.str))
    refine ⟨v, _, _, rfl, rfl, hv6, by rw [List.length_map]; exact szs (by omega), ?_⟩
    have hL7 : LnAt K T.c_Line (upd H6 v (.lst (acc.map V.str ++ [V.str z]))) x n ws (j + 1) := lnAt_put hL6 hv6 fun e => by
      have := congrArg List.length e
      rw [List.length_map, List.length_map] at this
      omega
    have ev : acc.map V.str ++ [V.str z] = (acc ++ [z]).map V.str := by rw [List.map_append]; rfl
    rw [ev] at hL7
    have hv7 : upd H6 v (.lst ((acc ++ [z]).map V.str)) v = some (.lst ((acc ++ [z]).map V.str)) := upd_same
    have hb7 : upd H6 v (.lst ((acc ++ [z]).map V.str)) b = some (.lst (later.map V.str)) := by rw [upd_ne nbv]; exact hb6
    rw [ev]
    clear ev hL6 hv6 hb6 i6 e6 hL5 hb5 hv5 e5 hx nl hS dx l
    revert hL7 hv7 hb7 e06
    generalize upd H6 v (.lst ((acc ++ [z]).map V.str)) = H7
    intro e07 hL7 hv7 hb7
    -- later = later[later.index(rides[-1]) + 1:]
    have hin := idx_at hm
    refine ⟨_, rfl, _, rfl, .inl ⟨rfl, _, .of hb7⟩, _, rfl, _, rfl, v, _, _, .str z, rfl, rfl, .of hv7, ?_, b, _, .str z, later.idxOf z, .str z, rfl, rfl, .of hb7, rfl, all_flat _, ?_, ?_, ?_, _, _, rfl, rfl, _, rfl, b, _, rfl, .of hb7, fun b2 hb2 => ?_⟩
    · rw [List.map_append]; exact atI_last _ _
    · rw [List.getElem?_map, hin]; rfl
    · show (z == z) = true
      simp
    · intro k y hk hy
      rw [List.getElem?_map] at hy
      cases hq : later[k]? with
      | none => rw [hq] at hy; cases hy
      | some u =>
        rw [hq] at hy
        obtain rfl : V.str u = y := Option.some.inj hy
        show (u == z) = false
        exact idx_no hk hq
    have ecut : cutV (later.map V.str) (some (((later.idxOf z : Nat) : Int) + 1)) none = (later.drop (later.idxOf z + 1)).map V.str := cut_from later (later.idxOf z + 1)
    rw [ecut]
    have n2v : b2 ≠ v := fun e => by rw [e, hv7] at hb2; cases hb2
    have ld : (later.drop (later.idxOf z + 1)).length + 1 ≤ later.length := by
      rw [List.length_drop]
      have := (List.getElem?_eq_some_iff.mp hin).1
      omega
    refine ⟨m, Nat.lt_succ_self _, b2, later.drop (later.idxOf z + 1), acc ++ [z], j + 1, rfl, e07.trans (Ext.new hb2), hL7.same (same_new hb2), upd_same, by rw [upd_ne n2v.symm]; exact hv7, n2v, by omega, ?_, ?_, hR2⟩
    · rw [List.length_append]; exact Nat.succ_le_succ hacc
    · rw [List.length_append]
      simp only [List.length_cons, List.length_nil]
      omega
end
end Kd

set_option Elab.async false
set_option linter.all false
set_option maxRecDepth 100000
set_option maxHeartbeats 4000000
namespace Kd
open PySem PySem.Spec PyProof.Rows L2 Gs
/-! ### what is read is good -/
def ltP2 (p q : Int × Int) : Prop := p.1 < q.1 ∨ (p.1 = q.1 ∧ p.2 < q.2)
theorem ltP2.trans {p q r : Int × Int} (a : ltP2 p q) (b : ltP2 q r) : ltP2 p r := by
  unfold ltP2 at *
  omega
theorem leP_no {a u a0 u0 : Int} (h : leP a u a0 u0 = false) : ltP2 (a0, u0) (a, u) := by
  unfold leP at h
  unfold ltP2
  by_cases e : a = a0
  · rw [if_pos e] at h
    have := of_decide_eq_false h
    right
    exact ⟨e.symm, by show u0 < u; omega⟩
  · rw [if_neg e] at h
    have := of_decide_eq_false h
    left
    show a0 < a
    omega
theorem rdLeap_good {ws : List Str} {i : Nat} {a0 u0 a u : Int} (h : rdLeap ws i a0 u0 = .ok (a, u)) : lpair (.int a) (.int u) = true ∧ ltP2 (a0, u0) (a, u) := by
  unfold rdLeap at h
  cases h1 : ws[i]?.bind intOf with
  | none => rw [h1] at h; cases h
  | some b =>
    rw [h1] at h
    have h : (if (lpart (.int b) && !decide (b < a0)) = true then (match ws[i + 1]?.bind intOf with
      | none => .error (i + 1)
      | some u => if (lpair (.int b) (.int u) && !leP b u a0 u0) = true then .ok (b, u) else .error (i + 1) : Except Nat (Int × Int)) else .error i) = .ok (a, u) := h
    by_cases e : (lpart (.int b) && !decide (b < a0)) = true
    · rw [if_pos e] at h
      cases h2 : ws[i + 1]?.bind intOf with
      | none => rw [h2] at h; cases h
      | some v =>
        rw [h2] at h
        have h : (if (lpair (.int b) (.int v) && !leP b v a0 u0) = true then .ok (b, v) else .error (i + 1) : Except Nat (Int × Int)) = .ok (a, u) := h
        by_cases e2 : (lpair (.int b) (.int v) && !leP b v a0 u0) = true
        · rw [if_pos e2] at h
          cases h
          rw [Bool.and_eq_true, Bool.not_eq_true'] at e2
          exact ⟨e2.1, leP_no e2.2⟩
        · rw [if_neg e2] at h; cases h
    · rw [if_neg e] at h; cases h
/-- good leaps, ascending, the last one at the end -/
structure Asc (ps : List (Int × Int)) : Prop where
  ok : ∀ p ∈ ps, lpair (.int p.1) (.int p.2) = true
  up : ps.Pairwise ltP2
theorem Asc.more {ps : List (Int × Int)} {l p : Int × Int} (h : Asc (ps ++ [l])) (hp : lpair (.int p.1) (.int p.2) = true) (hl : ltP2 l p) : Asc (ps ++ [l] ++ [p]) := by
  refine ⟨fun q hq => ?_, List.pairwise_append.mpr ⟨h.up, List.pairwise_singleton _ _, fun q hq r hr => ?_⟩⟩
  · rcases List.mem_append.mp hq with hq | hq
    · exact h.ok q hq
    · rw [List.mem_singleton.mp hq]; exact hp
  · rw [List.mem_singleton.mp hr]
    rcases List.mem_append.mp hq with hq | hq
    · exact ((List.pairwise_append.mp h.up).2.2 q hq l (List.mem_singleton.mpr rfl)).trans hl
    · rw [List.mem_singleton.mp hq]; exact hl
theorem rdMore_good {ws : List Str} : ∀ {f i : Nat} {a0 u0 : Int} {acc ps : List (Int × Int)} {j : Nat}, rdMore ws f i a0 u0 (acc ++ [(a0, u0)]) = .ok (ps, j) → Asc (acc ++ [(a0, u0)]) → Asc ps ∧ ps ≠ []
  | 0, i, a0, u0, acc, ps, j, h, g => by
    cases h; exact ⟨g, by simp⟩
  | f + 1, i, a0, u0, acc, ps, j, h, g => by
    have h : (if ws[i]? = some comma then (match rdLeap ws (i + 1) a0 u0 with
      | .error p => .error p
      | .ok (a, u) => rdMore ws f (i + 3) a u (acc ++ [(a0, u0)] ++ [(a, u)])) else .ok (acc ++ [(a0, u0)], i)) = Except.ok (ps, j) := h
    by_cases e : ws[i]? = some comma
    · rw [if_pos e] at h
      cases hr : rdLeap ws (i + 1) a0 u0 with
      | error p => rw [hr] at h; cases h
      | ok r =>
        obtain ⟨a, u⟩ := r
        rw [hr] at h
        obtain ⟨g1, g2⟩ := rdLeap_good hr
        exact rdMore_good (f := f) (acc := acc ++ [(a0, u0)]) h (g.more g1 g2)
    · rw [if_neg e] at h
      cases h; exact ⟨g, by simp⟩
theorem rdLeaps_good {ws : List Str} {i : Nat} {ps : List (Int × Int)} {j : Nat} (h : rdLeaps ws i = .ok (ps, j)) : Asc ps ∧ ps ≠ [] := by
  unfold rdLeaps at h
  cases hr : rdLeap ws i (-3) (-4) with
  | error p => rw [hr] at h; cases h
  | ok r =>
    obtain ⟨a, u⟩ := r
    rw [hr] at h
    refine rdMore_good (acc := []) h ⟨fun p hp => ?_, List.pairwise_singleton _ _⟩
    rw [List.mem_singleton.mp hp]
    exact (rdLeap_good hr).1
/-- the leaps that there are -/
def all49 : List (Int × Int) := [-3, -2, -1, 0, 1, 2, 3].flatMap fun a => [-3, -2, -1, 0, 1, 2, 3].map fun u => (a, u)
theorem lpart_bd {a : Int} (h : lpart (.int a) = true) : -3 ≤ a ∧ a ≤ 3 := by
  have h : (decide (-3 ≤ a) && decide (a ≤ 3)) = true := h
  rw [Bool.and_eq_true] at h
  exact ⟨of_decide_eq_true h.1, of_decide_eq_true h.2⟩
theorem lpair_bd {a u : Int} (h : lpair (.int a) (.int u) = true) : (-3 ≤ a ∧ a ≤ 3) ∧ (-3 ≤ u ∧ u ≤ 3) := by
  have h : (lpart (.int a) && lpart (.int u) && !(isZ (.int a) && isZ (.int u))) = true := h
  rw [Bool.and_eq_true, Bool.and_eq_true] at h
  exact ⟨lpart_bd h.1.1, lpart_bd h.1.2⟩
theorem in49 {p : Int × Int} (h : lpair (.int p.1) (.int p.2) = true) : p ∈ all49 := by
  obtain ⟨⟨h1, h2⟩, h3, h4⟩ := lpair_bd h
  obtain ⟨a, u⟩ := p
  have one : ∀ z : Int, -3 ≤ z → z ≤ 3 → z ∈ ([-3, -2, -1, 0, 1, 2, 3] : List Int) := fun z h1 h2 => by
    simp only [List.mem_cons, List.not_mem_nil, or_false]
    omega
  exact List.mem_flatMap.mpr ⟨a, one a h1 h2, List.mem_map.mpr ⟨u, one u h3 h4, rfl⟩⟩
theorem Asc.nodup {ps : List (Int × Int)} (h : Asc ps) : ps.Nodup := h.up.imp fun {a b} l e => by
  subst e
  unfold ltP2 at l
  omega
theorem Asc.few {ps : List (Int × Int)} (h : Asc ps) : ps.length ≤ 49 := nodup_le ps all49 h.nodup fun p hp => in49 (h.ok p hp)
def pairD (p : Int × Int) : PyData := .tuple [.int p.1, .int p.2]
theorem Asc.leaps {ps : List (Int × Int)} (h : Asc ps) : areLeaps (.list (ps.map pairD)) = true := by
  show (((ps.map pairD).all isLeap) && decide (((ps.map pairD).map lkey).Nodup)) = true
  rw [Bool.and_eq_true]
  refine ⟨?_, decide_eq_true ?_⟩
  · rw [List.all_map]
    exact List.all_eq_true.mpr fun p hp => h.ok p hp
  · rw [List.map_map]
    have e : (lkey ∘ pairD) = fun p : Int × Int => [p.1, p.2] := rfl
    rw [e]
    refine List.Pairwise.map _ (fun a b hab z => hab ?_) h.nodup
    have e1 := (List.cons.inj z).1
    have e2 := (List.cons.inj (List.cons.inj z).2).1
    exact Prod.ext e1 e2
theorem rdRides_good {ws : List Str} : ∀ {f i : Nat} {later acc rs : List Str} {j : Nat}, rdRides ws f i later acc = .ok (rs, j) → later.length < f → (acc ++ later).Sublist steps4 → rs.Sublist steps4 ∧ rs ≠ []
  | 0, i, later, acc, rs, j, h, hf, g => by omega
  | f + 1, i, later, acc, rs, j, h, hf, g => by
    have h : (if (acc.isEmpty || decide (i < ws.length)) = true then (match ws[i]? with
      | none => .error i
      | some z => if z ∈ later then rdRides ws f (i + 1) (later.drop (later.idxOf z + 1)) (acc ++ [z]) else .error i) else .ok (acc, i)) = Except.ok (rs, j) := h
    by_cases e : (acc.isEmpty || decide (i < ws.length)) = true
    · rw [if_pos e] at h
      cases hw : ws[i]? with
      | none => rw [hw] at h; cases h
      | some z =>
        rw [hw] at h
        have h : (if z ∈ later then rdRides ws f (i + 1) (later.drop (later.idxOf z + 1)) (acc ++ [z]) else .error i) = Except.ok (rs, j) := h
        by_cases hz : z ∈ later
        · rw [if_pos hz] at h
          have hi := List.idxOf_lt_length_of_mem hz
          refine rdRides_good h (by rw [List.length_drop]; omega) (List.Sublist.trans ?_ g)
          rw [List.append_assoc]
          refine List.Sublist.append (List.Sublist.refl _) ?_
          have e1 : later.drop (later.idxOf z) = z :: later.drop (later.idxOf z + 1) := by
            rw [List.drop_eq_getElem_cons hi, List.getElem_idxOf hi]
          show (z :: later.drop (later.idxOf z + 1)).Sublist later
          rw [← e1]
          exact List.drop_sublist _ _
        · rw [if_neg hz] at h; cases h
    · rw [if_neg e] at h
      cases h
      refine ⟨(List.sublist_append_left acc later).trans g, fun z => e (by rw [z]; rfl)⟩
theorem rides_good {rs : List Str} (h : rs.Sublist steps4) : areRides (.list (rs.map PyData.str)) = true := by
  show (((rs.map PyData.str).all isRide) && decide (((rs.map PyData.str).map rkey).Nodup)) = true
  rw [Bool.and_eq_true]
  refine ⟨?_, decide_eq_true ?_⟩
  · rw [List.all_map]
    exact List.all_eq_true.mpr fun z hz => decide_eq_true (h.subset hz)
  · rw [List.map_map]
    have e : (rkey ∘ PyData.str) = fun z : Str => z := rfl
    rw [e, List.map_id']
    exact h.nodup (by decide)
end Kd

set_option Elab.async false
set_option linter.all false
set_option maxRecDepth 100000
set_option maxHeartbeats 4000000
namespace Kd
open PySem PySem.Spec PyProof.Rows L2 Gs
def lpPart (ws : List Str) (i : Nat) : Except Nat (List (Int × Int) × Nat) := if ws[i]? = some ("leaps" : Str) then rdLeaps ws (i + 1) else .ok ([], i)
def rdPart (ws : List Str) (q : Bool) (i : Nat) : Except Nat (List Str × Nat) := if q = false ∧ ws[i]? = some ("rides" : Str) then rdRides ws 5 (i + 1) steps4 [] else .ok ([], i)
def lordAt (ws : List Str) (i : Nat) : Bool := decide (ws[i + 1]? = some ("lord" : Str))
def behind (q : Bool) (i : Nat) : Nat := if q = true then i + 1 + 1 else i + 1
def rdKind (ws : List Str) (i : Nat) : Except Nat (Str × List (Int × Int) × List Str × Bool) :=
  match ws[i]? with
  | none => .error i
  | some z => if isNameS z = true then
      match lpPart ws (behind (lordAt ws i) i) with
      | .error p => .error p
      | .ok (ps, i2) =>
        match rdPart ws (lordAt ws i) i2 with
        | .error p => .error p
        | .ok (rs, i3) => if (decide (i3 < ws.length) || (ps.isEmpty && rs.isEmpty)) = true then .error i3 else .ok (z, ps, rs, lordAt ws i)
    else .error i
theorem sorted_uniq : ∀ {l m : List (Int × Int)}, l.Perm m → l.Pairwise (fun a b => SrtO.lexB b a = false) → m.Pairwise ltP2 → l = m
  | l, [], h, _, _ => List.Perm.eq_nil h
  | [], y :: m, h, _, _ => absurd h.length_eq (by simp)
  | x :: l, y :: m, h, hl, hm => by
    have e : x = y := by
      refine Decidable.byContradiction fun ne => ?_
      have h1 : x ∈ m := (List.mem_cons.mp (h.mem_iff.mp List.mem_cons_self)).resolve_left ne
      have h2 : y ∈ l := (List.mem_cons.mp (h.mem_iff.mpr List.mem_cons_self)).resolve_left (Ne.symm ne)
      have h3 := (List.pairwise_cons.mp hm).1 x h1
      have h4 := (List.pairwise_cons.mp hl).1 y h2
      rw [SrtO.lexB_iff.mpr h3] at h4
      cases h4
    subst e
    rw [sorted_uniq h.cons_inv (List.pairwise_cons.mp hl).2 (List.pairwise_cons.mp hm).2]
theorem filter_sub : ∀ {l m : List Str}, l.Sublist m → m.Nodup → m.filter (fun z => decide (z ∈ l)) = l
  | _, _, .slnil, _ => rfl
  | l, a :: m, .cons _ h, nd => by
    have nd' := List.nodup_cons.mp nd
    have ha : a ∉ l := fun z => nd'.1 (h.subset z)
    rw [List.filter_cons, if_neg (by simpa using ha)]
    exact filter_sub h nd'.2
  | a :: l, _ :: m, .cons₂ _ h, nd => by
    have nd' := List.nodup_cons.mp nd
    rw [List.filter_cons, if_pos (by simp)]
    congr 1
    rw [← filter_sub h nd'.2]
    refine List.filter_congr fun z hz => ?_
    rw [filter_sub h nd'.2]
    have : z ≠ a := fun e => nd'.1 (e ▸ hz)
    simp [this]
section
variable {P : Program} {w : World} {K : PySem.W.Frag} {mg : Str → Option Value} {base : Heap}
/-- at k a kind -/
def KindAt (K : PySem.W.Frag) (C : Addr) (H : Hp) (k : Addr) (z : Str) (ps : List (Int × Int)) (rs : List Str) (q : Bool) : Prop :=
  ∃ (dx tl tr : Addr) (ls : List (Addr × Int × Int)), H k = some (.ins C dx (kdF (.str z) tl tr (.bl q))) ∧ SqT K H tl (ls.map fun p => V.ref p.1) ∧ (∀ p ∈ ls, SqT K H p.1 [.int p.2.1, .int p.2.2]) ∧ ls.map (·.2) = ps ∧ SqT K H tr (rs.map V.str)
def spRKind (K : PySem.W.Frag) (C D CK : Addr) : Sp := fun vs H Q E => ∃ (x : Addr) (n : Int) (ws : List Str) (i : Nat), vs = [.ref x] ∧ LnAt K C H x n ws i ∧ Small ws ∧
  (∀ p, rdKind ws i = .error p → XText D x n H E p) ∧
  (∀ z ps rs q, rdKind ws i = .ok (z, ps, rs, q) → ∀ k H', Ext x H H' → H k = none → KindAt K CK H' k z ps rs q → Q (.ref k) H')
theorem seq_cut {te : TE} {tg : TG} {r : TS} {D : Ends} {σ : L2.St} {H : Hp} (R : V → Hp → Prop) (h1 : ∀ Q : VK, (∀ v H', R v H' → Q v H') → te σ H Q) (h2 : ∀ v H', R v H' → tg v σ H' (r D)) : tSeq (tAsg te tg) r D σ H := h1 _ h2
def dOf : Option Str → PyData
  | none => .none
  | some z => .str z
theorem fresh_of : ∀ l : List Nat, ∃ c : Nat, ∀ y ∈ l, y ≠ c := fun l => by
  have key : ∀ l : List Nat, ∃ m : Nat, ∀ y ∈ l, y < m := by
    intro l
    induction l with
    | nil => exact ⟨0, fun y h => by cases h⟩
    | cons a l ih =>
      obtain ⟨m, hm⟩ := ih
      refine ⟨m + a + 1, fun y hy => ?_⟩
      rcases List.mem_cons.mp hy with e | hy
      · omega
      · have := hm y hy; omega
  obtain ⟨m, hm⟩ := key l
  exact ⟨m, fun y hy e => by have := hm y hy; omega⟩
theorem isEmpty_map' {α β : Type} (f : α → β) (l : List α) : (l.map f).isEmpty = l.isEmpty := by cases l <;> rfl
theorem dv_pairs {c : Addr} {H : Hp} : ∀ {ls : List (Addr × Int × Int)}, (∀ p ∈ ls, p.1 ≠ c) → (∀ p ∈ ls, SqT K H p.1 [.int p.2.1, .int p.2.2]) → DVs K c H (ls.map fun p => V.ref p.1) ((ls.map (·.2)).map pairD)
  | [], _, _ => .nil
  | p :: ls, h1, h2 => .cons (.tup (h1 p List.mem_cons_self) (h2 p List.mem_cons_self) (.cons (.int _) (.cons (.int _) .nil))) (dv_pairs (fun q hq => h1 q (List.mem_cons_of_mem _ hq)) fun q hq => h2 q (List.mem_cons_of_mem _ hq))
theorem dv_strs {c : Addr} {H : Hp} : ∀ rs : List Str, DVs K c H (rs.map V.str) (rs.map PyData.str)
  | [] => .nil
  | r :: rs => .cons (.str r) (dv_strs rs)
theorem O_read_kind (T : Tx K mg w) : FnOk P w K mg base (L2.CX P w) 8 T.a_read_kind T.d_read_kind ["line"] (spRKind K T.c_Line T.c_BadText T.c_Kind) := by
  refine T.F_read_kind.okX sc_read_kind (fun vs H Q E h => ?_) (fun cdv A outer s H vs Q E hr h => ?_)
  · obtain ⟨x, n, ws, i, rfl, _⟩ := h; rfl
  obtain ⟨x, n, ws, i, rfl, hL, hz, kx, kg⟩ := h
  refine ⟨_, (pss_cons (ps_if (pt_not (pt_val (pe_call (O_is_name T) (hr.mono (by decide)) (by rfl) T.m_is_name T.F_is_name.kp T.b_is_name .nil pass0 (pa_cons (pe_meth0 (pv 0) T.cl_Line T.me_Line_seen (O_Line_seen T) (hr.mono (by decide)) T.b_Line_seen .nil pass0) pa_nil)))) (pss_one (ps_expr (pe_meth0 (pv 0) T.cl_Line T.me_Line_refuse (O_Line_refuse T) (hr.mono (by decide)) T.b_Line_refuse .nil (pX (takes_of rfl rfl rfl rfl) (fun _ _ _ _ h => h))))) pss_nil)
      (pss_cons (ps_set (i := 1) sc_read_kind.nd rfl (Or.inl rfl) (pe_meth0 (pv 0) T.cl_Line T.me_Line_take (O_Line_take T) (hr.mono (by decide)) T.b_Line_take .nil pass0))
      (pss_cons (ps_set (i := 2) sc_read_kind.nd rfl (Or.inl rfl) (pe_meth (pv 0) T.cl_Line T.me_Line_skip (O_Line_skip T) (hr.mono (by decide)) T.b_Line_skip .nil pass0 (pa_cons pe_str pa_nil)))
      (pss_cons (ps_set (i := 3) sc_read_kind.nd rfl (Or.inl rfl) (pe_ifExp (pt_val (pe_meth (pv 0) T.cl_Line T.me_Line_skip (O_Line_skip T) (hr.mono (by decide)) T.b_Line_skip .nil pass0 (pa_cons pe_str pa_nil))) (pe_call (O_read_leaps T) (hr.mono (by decide)) (by rfl) T.m_read_leaps T.F_read_leaps.kp T.b_read_leaps .nil (pX (takes_of rfl rfl rfl rfl) (fun _ _ _ _ h => h)) (pa_cons (pv 0) pa_nil)) (pe_lst pa_nil)))
      (pss_cons (ps_set (i := 4) sc_read_kind.nd rfl (Or.inl rfl) (pe_ifExp (PW.pt (pw_and (pt_not (pt_val (pv 2))) (pw_and1 (pt_val (pe_meth (pv 0) T.cl_Line T.me_Line_skip (O_Line_skip T) (hr.mono (by decide)) T.b_Line_skip .nil pass0 (pa_cons pe_str pa_nil)))))) (pe_call (O_read_rides T) (hr.mono (by decide)) (by rfl) T.m_read_rides T.F_read_rides.kp T.b_read_rides .nil (pX (takes_of rfl rfl rfl rfl) (fun _ _ _ _ h => h)) (pa_cons (pv 0) pa_nil)) (pe_lst pa_nil)))
      (pss_cons (ps_if (PW.pt (pw_or (pt_val (pe_meth0 (pv 0) T.cl_Line T.me_Line_is_left (O_Line_is_left T) (hr.mono (by decide)) T.b_Line_is_left .nil pass0)) (pw_or1 (PW.pt (pw_and (pt_not (pt_truth (pv 3) (by intro _; rfl))) (pw_and1 (pt_not (pt_truth (pv 4) (by intro _; rfl))))))))) (pss_one (ps_expr (pe_meth0 (pv 0) T.cl_Line T.me_Line_refuse (O_Line_refuse T) (hr.mono (by decide)) T.b_Line_refuse .nil (pX (takes_of rfl rfl rfl rfl) (fun _ _ _ _ h => h))))) pss_nil)
      (pss_one (ps_ret (pe_make T.mk_Kind (O_Kind___init__ T) (hr.mono (by decide)) (by rfl) T.m_Kind T.b5_Kind .nil (pX (takes_of rfl rfl rfl rfl) (fun _ _ _ _ h => h)) (pa_cons (pv 1) (pa_cons (pv 3) (pa_cons (pv 4) (pa_cons (pv 2) pa_nil))))))))))))), ?_⟩
  have hL0 := hL
  obtain ⟨dx, l, hx, nl, hS⟩ := hL0
  refine ⟨_, rfl, x, dx, _, rfl, hx, rfl, x, n, ws, i, rfl, hL, hz.1, fun H1 s1 => ?_⟩
  refine ⟨x, oS ws[i]?, dOf ws[i]?, rfl, by cases ws[i]? <;> constructor, fun y e => ?_, fun H2 s2 => ⟨_, rfl, ?_⟩⟩
  · cases hw : ws[i]? with
    | none => rw [hw] at e; cases e
    | some u => rw [hw] at e; cases e; exact hz.2 _ (List.mem_of_getElem? hw)
  have hL2 := hL.same (s1.trans s2)
  have e2 : Ext x H H2 := Ext.of (s1.trans s2)
  clear hx nl hS dx l hL s1 s2 H1
  have hL3 := hL2
  obtain ⟨dx, l, hx, nl, hS⟩ := hL3
  refine iteB (fun e => ?_) (fun e => ?_)
  · have er : rdKind ws i = .error i := by
      unfold rdKind
      cases hw : ws[i]? with
      | none => rfl
      | some z =>
        rw [hw] at e
        have e : (!isNameS z) = true := e
        exact if_neg (fun h => by rw [h] at e; cases e)
    exact ⟨_, rfl, x, dx, _, rfl, hx, rfl, x, n, ws, i, rfl, hL2, (kx i er).ref e2 hL2.there⟩
  obtain ⟨z, hw, hzn⟩ : ∃ z, ws[i]? = some z ∧ isNameS z = true := by
    cases hw : ws[i]? with
    | none => rw [hw] at e; cases e
    | some z =>
      rw [hw] at e
      have e : (!isNameS z) = false := e
      exact ⟨z, rfl, by simpa using e⟩
  clear e
  have R : rdKind ws i = match lpPart ws (behind (lordAt ws i) i) with
      | .error p => .error p
      | .ok (ps, i2) =>
        match rdPart ws (lordAt ws i) i2 with
        | .error p => .error p
        | .ok (rs, i3) => if (decide (i3 < ws.length) || (ps.isEmpty && rs.isEmpty)) = true then .error i3 else .ok (z, ps, rs, lordAt ws i) := by
    unfold rdKind
    rw [hw]
    exact if_pos hzn
  -- name
  refine ⟨_, rfl, x, dx, _, rfl, hx, rfl, x, n, ws, i, rfl, hL2, hz.1, z, hw, fun H3 hL3 e3 => ?_⟩
  replace e3 := e2.trans e3
  clear hL2 e2 hx nl hS dx l H2
  -- is_lord
  dsimp only [gName]
  refine seq_cut (fun v H' => v = .bl (lordAt ws i) ∧ Ext x H H' ∧ LnAt K T.c_Line H' x n ws (behind (lordAt ws i) i)) (fun Q' hq => ?_) ?_
  · have hL4 := hL3
    obtain ⟨dx, l, hx, nl, hS⟩ := hL4
    refine ⟨_, rfl, x, dx, _, rfl, hx, rfl, x, n, ws, i + 1, "lord", rfl, hL3, hz.1, fun c H4 hL4 e4 => hq _ H4 ⟨?_, e3.trans e4, ?_⟩, fun c H4 s4 => hq _ H4 ⟨?_, e3.trans (Ext.of s4), ?_⟩⟩
    · unfold lordAt; rw [decide_eq_true c]
    · have : lordAt ws i = true := decide_eq_true c
      rw [this]; exact hL4
    · unfold lordAt; rw [decide_eq_false c]
    · have : lordAt ws i = false := decide_eq_false c
      rw [this]; exact hL3.same s4
  clear hL3 e3 H3
  generalize lordAt ws i = q at R ⊢
  rintro v H3 ⟨rfl, e3, hL3⟩
  -- leaps
  dsimp only [gName]
  refine seq_cut (fun v H' => ∃ (a : Addr) (ls : List (Addr × Int × Int)) (i2 : Nat), v = .ref a ∧ Ext x H H' ∧ LnAt K T.c_Line H' x n ws i2 ∧ LeapsAt K H' a ls ∧ lpPart ws (behind q i) = .ok (ls.map (·.2), i2)) (fun Q' hq => ?_) ?_
  · have hL4 := hL3
    obtain ⟨dx, l, hx, nl, hS⟩ := hL4
    refine ⟨_, rfl, x, dx, _, rfl, hx, rfl, x, n, ws, behind q i, "leaps", rfl, hL3, hz.1, fun c H4 hL4 e4 => ⟨_, rfl, ?_⟩, fun c H4 s4 => ⟨_, rfl, ?_⟩⟩
    · have hp : lpPart ws (behind q i) = rdLeaps ws (behind q i + 1) := if_pos c
      refine iteT ⟨_, rfl, x, n, ws, behind q i + 1, rfl, hL4, hz, fun p e => ?_, fun ps j e a ls H' e5 hL5 hls hmap => ?_⟩
      · refine (kx p ?_).up (e3.trans e4) hL4.there
        rw [R, hp, e]
      · exact hq _ H' ⟨a, ls, j, rfl, (e3.trans e4).trans e5, hL5, hls, by rw [hp, e, hmap]⟩
    · refine iteF ⟨szl rfl, fun a ha => ?_⟩
      exact hq _ _ ⟨a, [], behind q i, rfl, (e3.trans (Ext.of s4)).trans (Ext.new ha), (hL3.same s4).same (same_new ha), ⟨upd_same, fun p h => by cases h⟩, if_neg c⟩
  clear hL3 e3 H3
  rintro v H3 ⟨a, ls, i2, rfl, e3, hL3, hls, hp⟩
  rw [hp] at R
  dsimp only at R
  -- rides
  dsimp only [gName]
  refine seq_cut (fun v H' => ∃ (b : Addr) (rs : List Str) (i3 : Nat), v = .ref b ∧ Ext x H H' ∧ LnAt K T.c_Line H' x n ws i3 ∧ LeapsAt K H' a ls ∧ H' b = some (.lst (rs.map V.str)) ∧ rdPart ws q i2 = .ok (rs, i3)) (fun Q' hq => ?_) ?_
  · have hL4 := hL3
    obtain ⟨dx, l, hx, nl, hS⟩ := hL4
    refine ⟨_, rfl, _, rfl, ?_⟩
    cases q with
    | true =>
      refine iteF ?_
      refine iteF ⟨szl rfl, fun b hb => ?_⟩
      exact hq _ _ ⟨b, [], i2, rfl, e3.trans (Ext.new hb), hL3.same (same_new hb), ⟨same_new hb _ _ hls.1, fun p h => (same_new hb).seqT (hls.2 p h)⟩, upd_same, if_neg fun z => by cases z.1⟩
    | false =>
      refine iteT ⟨_, rfl, x, dx, _, rfl, hx, rfl, x, n, ws, i2, "rides", rfl, hL3, hz.1, fun c H4 hL4 e4 => ⟨_, rfl, ?_⟩, fun c H4 s4 => ⟨_, rfl, ?_⟩⟩
      · have hp : rdPart ws false i2 = rdRides ws 5 (i2 + 1) steps4 [] := if_pos ⟨rfl, c⟩
        have i4 : ExtI H3 H4 := ExtI.put' hx e4
        have hls4 : LeapsAt K H4 a ls := ⟨i4 _ _ hls.1 (fun _ _ _ z => by cases z), fun p h => i4.sqT (hls.2 p h)⟩
        refine iteT ⟨_, rfl, x, n, ws, i2 + 1, rfl, hL4, hz, by omega, fun p e => ?_, fun rs j e b H' e5 hL5 hb => ?_⟩
        · refine (kx p ?_).up (e3.trans e4) hL4.there
          rw [R, hp, e]
        · obtain ⟨dx4, l4, hx4, _⟩ := hL4
          have i5 : ExtI H4 H' := ExtI.put' hx4 e5
          exact hq _ H' ⟨b, rs, j, rfl, (e3.trans e4).trans e5, hL5, ⟨i5 _ _ hls4.1 (fun _ _ _ z => by cases z), fun p h => i5.sqT (hls4.2 p h)⟩, hb, by rw [hp, e]⟩
      · refine iteF ⟨szl rfl, fun b hb => ?_⟩
        have sb := s4.trans (same_new hb (o := .lst []))
        exact hq _ _ ⟨b, [], i2, rfl, e3.trans (Ext.of sb), hL3.same sb, ⟨sb _ _ hls.1, fun p h => sb.seqT (hls.2 p h)⟩, upd_same, if_neg fun z => c z.2⟩
  clear hL3 e3 hls H3
  rintro v H3 ⟨b, rs, i3, rfl, e3, hL3, hls, hrs, hp2⟩
  rw [hp2] at R
  dsimp only at R
  dsimp only [gName]
  have hL4 := hL3
  obtain ⟨dx, l, hx, nl, hS⟩ := hL4
  refine ⟨_, rfl, x, dx, _, rfl, hx, rfl, x, n, ws, i3, rfl, hL3, hz.1, fun H4 s4 => ⟨_, rfl, ?_⟩⟩
  have hL4 := hL3.same s4
  have e4 := e3.trans (Ext.of s4)
  have hls4 : LeapsAt K H4 a ls := ⟨s4 _ _ hls.1, fun p h => s4.seqT (hls.2 p h)⟩
  have hrs4 := s4 _ _ hrs
  clear hL3 e3 hls hrs hx nl hS dx l s4 H3
  have no : (decide (i3 < ws.length) || ((ls.map (·.2)).isEmpty && rs.isEmpty)) = true → spRefuse K T.c_Line T.c_BadText [V.ref x] H4 Q E := fun h =>
    ⟨x, n, ws, i3, rfl, hL4, (kx i3 (R.trans (if_pos h))).ref e4 hL4.there⟩
  have hL5 := hL4
  obtain ⟨dx, l, hx, nl, hS⟩ := hL5
  refine iteB (fun e => ?_) (fun e => ?_)
  · exact ⟨_, rfl, x, dx, _, rfl, hx, rfl, no (by rw [e]; rfl)⟩
  have em1 : (!!(ls.map fun p => V.ref p.1).isEmpty) = (ls.map (·.2)).isEmpty := by cases ls <;> rfl
  have em2 : (!!(rs.map V.str).isEmpty) = rs.isEmpty := by cases rs <;> rfl
  refine ⟨_, rfl, _, .inl ⟨_, .of hls4.1, rfl⟩, ?_⟩
  refine if_sh (((ls.map (·.2)).isEmpty && rs.isEmpty) = false) (fun c => ?_) (fun F e5 => ?_) (fun e5 => ?_)
  rotate_left
  · rw [em1] at e5
    refine ⟨_, rfl, _, .inl ⟨_, .of hrs4, rfl⟩, ?_⟩
    refine iteB (fun e6 => ?_) (fun e6 => F ?_)
    · rw [em2] at e6
      exact ⟨_, rfl, x, dx, _, rfl, hx, rfl, no (by rw [e5, e6, Bool.and_self, Bool.or_true])⟩
    · rw [em2] at e6
      rw [e6, Bool.and_false]
  · rw [em1] at e5
    rw [e5, Bool.false_and]
  -- Kind(name, leaps, rides, is_lord)
  have R2 : rdKind ws i = .ok (z, ls.map (·.2), rs, q) := R.trans (if_neg (by rw [e, c]; decide))
  clear no kx R em1 em2 e
  have asc : Asc (ls.map (·.2)) := by
    unfold lpPart at hp
    by_cases h : ws[behind q i]? = some ("leaps" : Str)
    · rw [if_pos h] at hp; exact (rdLeaps_good hp).1
    · rw [if_neg h] at hp
      have : ls.map (·.2) = [] := (congrArg Prod.fst (Except.ok.inj hp)).symm
      rw [this]
      exact ⟨(fun p h => by cases h), List.Pairwise.nil⟩
  have sub : rs.Sublist steps4 ∧ (q = true → rs = []) := by
    unfold rdPart at hp2
    by_cases h : q = false ∧ ws[i2]? = some ("rides" : Str)
    · rw [if_pos h] at hp2
      refine ⟨(rdRides_good hp2 (by decide) (by rw [List.nil_append]; exact List.Sublist.refl _)).1, fun z => ?_⟩
      rw [h.1] at z; cases z
    · rw [if_neg h] at hp2
      have : rs = [] := (congrArg Prod.fst (Except.ok.inj hp2)).symm
      rw [this]
      exact ⟨List.nil_sublist _, fun _ => rfl⟩
  have lrs : rs.length ≤ 4 := sub.1.length_le
  obtain ⟨c0, hc0⟩ := fresh_of (a :: b :: ls.map (·.1))
  have na : a ≠ c0 := hc0 a List.mem_cons_self
  have nb : b ≠ c0 := hc0 b (List.mem_cons_of_mem _ List.mem_cons_self)
  have nl : ∀ p ∈ ls, p.1 ≠ c0 := fun p h => hc0 p.1 (List.mem_cons_of_mem _ (List.mem_cons_of_mem _ (List.mem_map_of_mem h)))
  refine ⟨_, rfl, _, rfl, _, rfl, _, rfl, fun k dk hk hdk ndk => ?_⟩
  have old : Same H4 (upd (upd H4 dk (.own k)) k (.ins T.c_Kind dk [])) := fun y o h => by
    rw [upd_ne (ne_of_none h hk), upd_ne (ne_of_none h hdk)]; exact h
  have dls : DVs K c0 (upd (upd H4 dk (.own k)) k (.ins T.c_Kind dk [])) (ls.map fun p => V.ref p.1) ((ls.map (·.2)).map pairD) := dv_pairs nl fun p h => old.seqT (hls4.2 p h)
  have drs : DVs K c0 (upd (upd H4 dk (.own k)) k (.ins T.c_Kind dk [])) (rs.map V.str) (rs.map PyData.str) := dv_strs rs
  have kb : kindBad (.str z) (.list ((ls.map (·.2)).map pairD)) (.list (rs.map PyData.str)) (.bool q) = none := by
    have e1 : isNm (.str z) = true := hzn
    have e2 := asc.leaps
    have e3 := rides_good sub.1
    unfold kindBad
    rw [if_neg (by rw [e1]; decide), if_neg (by rw [e2]; decide), if_neg (by rw [e3]; decide), if_neg (fun z : isBl (.bool q) = false => by cases z), if_neg, if_neg]
    · show ¬ ((((ls.map (·.2)).map pairD).isEmpty && (rs.map PyData.str).isEmpty) = true)
      have e0 : (((ls.map (·.2)).map pairD).isEmpty && (rs.map PyData.str).isEmpty) = false := by
        rw [isEmpty_map' pairD, isEmpty_map' PyData.str]; exact c
      rw [e0]; decide
    · show ¬ ((q && !(rs.map PyData.str).isEmpty) = true)
      cases q with
      | false => rw [Bool.false_and]; decide
      | true => rw [sub.2 rfl]; decide
  refine ⟨k, dk, c0, .str z, .ref a, .ref b, .bl q, .str z, .list ((ls.map (·.2)).map pairD), .list (rs.map PyData.str), .bool q, rfl, upd_same, .str z, .lst na (.of (old _ _ hls4.1)) dls, .lst nb (.of (old _ _ hrs4)) drs, .bl q, fun y e => ?_, ?_, ?_,
    fun m p e => (by rw [kb] at e; cases e), fun _ tl tr ls2 H5 e5 h5 htl hls2 perm pw htr => ⟨rfl, ?_⟩⟩
  · cases e; exact hz.2 _ (List.mem_of_getElem? hw)
  · show ((ls.map (·.2)).map pairD).length ≤ 62
    rw [List.length_map]
    have := asc.few
    omega
  · show (rs.map PyData.str).length ≤ 62
    rw [List.length_map]
    omega
  have hps : ls2.map (·.2) = ls.map (·.2) := by
    refine sorted_uniq ?_ (List.pairwise_map.mpr pw) asc.up
    have e : (seqOf (.list ((ls.map (·.2)).map pairD))).map pairOf = ls.map (·.2) := by
      show ((ls.map (·.2)).map pairD).map pairOf = _
      rw [List.map_map]
      have : pairOf ∘ pairD = id := rfl
      rw [this, List.map_id]
    rw [e] at perm
    exact perm
  have hrd : ridesOf (.list (rs.map PyData.str)) = rs := by
    have e : (seqOf (.list (rs.map PyData.str))).map rkey = rs := by
      show (rs.map PyData.str).map rkey = rs
      rw [List.map_map]
      have : (rkey ∘ PyData.str) = id := rfl
      rw [this, List.map_id]
    unfold ridesOf
    rw [e]
    exact filter_sub sub.1 (by decide)
  rw [hrd] at htr
  refine kg z _ rs q R2 k H5 (fun y o ny h => ?_) (Ext.free e4 hL4.there hk) ⟨dk, tl, tr, ls2, h5, htl, hls2, hps, htr⟩
  have h4 := e4 y o ny h
  exact e5 y o (ne_of_none h4 hk) (old y o h4)
end
end Kd

set_option Elab.async false
set_option linter.all false
set_option maxRecDepth 100000
set_option maxHeartbeats 4000000
namespace Kd
open PySem PySem.Spec PyProof.Rows L2 Gs
def linesOf (x : Str) : List Str := Txt.split x "\n"
def wordsOf (x : Str) : List Str := Txt.split x " "
def rdText (x : Str) : Except (Nat × Nat) (Str × List (Int × Int) × List Str × Bool) :=
  match rdKind (wordsOf ((linesOf x).headD "")) 0 with
  | .error p => .error (0, p)
  | .ok r => if 1 < (linesOf x).length then .error (1, 0) else .ok r
theorem spl_pos (S : List Nat) : ∀ (l : List Nat) (k : Nat) (acc : List Nat), TL.spl S k acc l ≠ []
  | [], k, acc => by rw [TL.spl_nil]; simp
  | c :: r, 0, acc => by
    show (if TL.pre S (c :: r) = true then acc :: TL.spl S (S.length - 1) [] r else TL.spl S 0 (acc ++ [c]) r) ≠ []
    split
    · simp
    · exact spl_pos S r 0 (acc ++ [c])
  | c :: r, k + 1, acc => by
    show TL.spl S k acc r ≠ []
    exact spl_pos S r k acc
theorem lines_pos (x : Str) : ∃ y r, linesOf x = y :: r := by
  have e : linesOf x = (TL.spl [10] 0 [] x.cps.toList).map SX.S := split_1 x (c := 10) (by decide)
  cases h : TL.spl [10] 0 [] x.cps.toList with
  | nil => exact absurd h (spl_pos _ _ _ _)
  | cons y r => exact ⟨_, _, by rw [e, h]; rfl⟩
theorem small_words {x : Str} (h : x.length ≤ 999999) : Small (wordsOf x) :=
  ⟨Nat.le_trans (split_len x (c := 32) (by decide)) (by omega), fun y hy => Nat.le_trans (split_row x (c := 32) (by decide) hy) (by omega)⟩
section
variable {P : Program} {w : World} {K : PySem.W.Frag} {mg : Str → Option Value} {base : Heap}
def XT (D : Addr) (H : Hp) (E : XK) (l p : Nat) : Prop := ∀ d H', H d = none → Same H H' → H' d = some (.xd [("item", .int p), ("line", .int l)]) → E (.ref D) (some d) H'
def spRead (K : PySem.W.Frag) (D CK : Addr) : Sp := fun vs H Q E => ∃ (v : V) (t : Value), vs = [v] ∧ TyX K H v t ∧
  ((∃ x : Str, v = .str x ∧ x.length ≤ 999999 ∧ (∀ l p, rdText x = .error (l, p) → XT D H E l p) ∧
      ∀ z ps rs q, rdText x = .ok (z, ps, rs, q) → ∀ k H', Same H H' → H k = none → KindAt K CK H' k z ps rs q → Q (.ref k) H') ∨
    (PySem.W.kitOne K t (.type "str") = some false ∧ XT D H E 0 0))
theorem O_Kind_read (T : Tx K mg w) : FnOk P w K mg base (L2.CX P w) 9 T.a_Kind_read T.d_Kind_read ["text"] (spRead K T.c_BadText T.c_Kind) := by
  refine T.F_Kind_read.okX sc_Kind_read (fun vs H Q E h => ?_) (fun cdv A outer s H vs Q E hr h => ?_)
  · obtain ⟨v, t, rfl, _⟩ := h; rfl
  obtain ⟨v, t, rfl, ty, h⟩ := h
  refine ⟨_, (pss_cons (ps_set (i := 1) sc_Kind_read.nd rfl (Or.inl rfl) (pe_call (O_lines_of T) (hr.mono (by decide)) (by rfl) T.m_lines_of T.F_lines_of.kp T.b_lines_of .nil (pX (takes_of rfl rfl rfl rfl) (fun _ _ _ _ h => h)) (pa_cons (pv 0) pa_nil)))
      (pss_cons (ps_set (i := 2) sc_Kind_read.nd rfl (Or.inl rfl) (pe_call (O_read_kind T) (hr.mono (by decide)) (by rfl) T.m_read_kind T.F_read_kind.kp T.b_read_kind .nil (pX (takes_of rfl rfl rfl rfl) (fun _ _ _ _ h => h)) (pa_cons (pe_ix ix_list (pv 1) pe_int (fun _ _ => rfl)) pa_nil)))
      (pss_cons (ps_if (pt_cmpR op_gt (pe_callB call_len_seq (by rfl) T.z_len (by decide +kernel) (pa_cons (pv 1) pa_nil)) pe_int (nomark _)) (pss_one (ps_raise rfl (takes_of rfl rfl rfl rfl) (pmk_oex T.ox_BadText T.ic_BadText T.ti_BadText (O_BadText___init__ T) (hr.mono (by decide)) T.b_BadText___init__ .nil pass0 (by rfl) T.m_BadText (pa_cons pe_int (pa_cons pe_int pa_nil))))) pss_nil)
      (pss_one (ps_ret (pv 2)))))), ?_⟩
  rcases h with ⟨x, rfl, hz, kx, kg⟩ | ⟨hk, kx⟩
  rotate_left
  · exact ⟨_, rfl, v, t, rfl, ty, .inr ⟨hk, fun d H' h1 h2 h3 => kx d H' h1 h2 h3⟩⟩
  obtain ⟨y, rest, hy⟩ := lines_pos x
  have hyl : y.length ≤ 999999 := Nat.le_trans (split_row x (c := 10) (by decide) (show y ∈ Txt.split x (SX.S [10]) from (by show y ∈ linesOf x; rw [hy]; exact List.mem_cons_self))) hz
  refine ⟨_, rfl, .str x, t, rfl, ty, .inl ⟨x, rfl, by omega, fun p rs H1 hp s1 h1 hl hrs => ?_⟩⟩
  have hlen : rs.length = (linesOf x).length := hl
  obtain ⟨r, rs', rfl⟩ : ∃ r rs', rs = r :: rs' := by
    cases rs with
    | nil => rw [hy] at hlen; cases hlen
    | cons r rs' => exact ⟨r, rs', rfl⟩
  obtain ⟨row, hrow, hrn, dx, l, hln, nl, hr1, hl1⟩ := hrs 0 r rfl
  have hrow : (linesOf x)[0]? = some row := hrow
  obtain rfl : y = row := by rw [hy] at hrow; exact Option.some.inj hrow
  have hL : LnAt K T.c_Line H1 r 0 (wordsOf y) 0 := ⟨dx, l, hr1, nl, .of hl1⟩
  have R : rdText x = match rdKind (wordsOf y) 0 with
      | .error p => .error (0, p)
      | .ok r => if 1 < (linesOf x).length then .error (1, 0) else .ok r := by
    unfold rdText; rw [hy]; rfl
  have back : ∀ {H' : Hp}, Ext r H1 H' → Same H H' := fun e b o h => e b o (fun z => by rw [z, hrn] at h; cases h) (s1 b o h)
  refine ⟨_, rfl, p, _, 0, .ref r, rfl, rfl, .of h1, atI_nat (j := 0) rfl, r, 0, wordsOf y, 0, rfl, hL, small_words hyl, fun q e => ?_, fun z ps rs q e k H2 e2 hk hK => ?_⟩
  · intro d H' hd he hx
    exact kx 0 q (by rw [R, e]) d H' (s1.free hd) (back he) hx
  have h2 : H2 p = some (.lst ((r :: rs').map V.ref)) := e2 p _ (fun z => by rw [z, hr1] at h1; cases h1) h1
  refine ⟨_, rfl, p, _, rfl, .inl (.of h2), _, _, rfl, rfl, _, rfl, ?_⟩
  refine iteB (fun c => ?_) (fun c => ?_)
  · have c := of_decide_eq_true c
    have er : rdText x = .error (1, 0) := by
      rw [R, e]
      exact if_pos (by rw [← hlen]; rw [List.length_map] at c; omega)
    refine ⟨Nat.le_of_ble_eq_true rfl, mk_err2 fun d H' q1 q2 q3 => kx 1 0 er d H' ?_ ((back e2).trans q2) q3⟩
    exact (back e2).free q1
  · have c := of_decide_eq_false c
    have er : rdText x = .ok (z, ps, rs, q) := by
      rw [R, e]
      exact if_neg (by rw [← hlen]; rw [List.length_map] at c; omega)
    exact ⟨_, rfl, kg z ps rs q er k H2 (back e2) (s1.free hk) hK⟩
end
end Kd

set_option Elab.async false
set_option linter.all false
set_option maxRecDepth 100000
set_option maxHeartbeats 4000000
namespace Kd
open PySem PySem.Spec PyProof.Rows L2 Gs
theorem eqv_pairs : ∀ ps qs : List (Int × Int), PyData.eqvAll (ps.map pairD) (qs.map pairD) = decide (ps = qs)
  | [], [] => rfl
  | [], _ :: _ => rfl
  | _ :: _, [] => rfl
  | p :: ps, q :: qs => by
    show (((p.1 == q.1) && ((p.2 == q.2) && true)) && PyData.eqvAll (ps.map pairD) (qs.map pairD)) = _
    rw [eqv_pairs ps qs, Bool.and_true, Bool.eq_iff_iff]
    simp only [Bool.and_eq_true, beq_iff_eq, decide_eq_true_eq, List.cons.injEq, Prod.ext_iff]
theorem eqv_strs : ∀ ps qs : List Str, PyData.eqvAll (ps.map PyData.str) (qs.map PyData.str) = decide (ps = qs)
  | [], [] => rfl
  | [], _ :: _ => rfl
  | _ :: _, [] => rfl
  | p :: ps, q :: qs => by
    show ((p == q) && PyData.eqvAll (ps.map PyData.str) (qs.map PyData.str)) = _
    rw [eqv_strs ps qs, Bool.eq_iff_iff]
    simp only [Bool.and_eq_true, beq_iff_eq, decide_eq_true_eq, List.cons.injEq]
theorem can_pairs : ∀ ps : List (Int × Int), PyData.canLayAll0 (ps.map pairD) = true ∧ PyData.depthAll (ps.map pairD) ≤ 2
  | [] => ⟨rfl, Nat.zero_le _⟩
  | p :: ps => by
    obtain ⟨h1, h2⟩ := can_pairs ps
    refine ⟨?_, ?_⟩
    · show (PyData.canLay0 (pairD p) && PyData.canLayAll0 (ps.map pairD)) = true
      rw [h1]; rfl
    · simp only [List.map_cons, PyData.depthAll, pairD, PyData.depth]
      omega
theorem can_strs : ∀ ps : List Str, (∀ z ∈ ps, z ∈ steps4) → PyData.canLayAll0 (ps.map PyData.str) = true ∧ PyData.depthAll (ps.map PyData.str) ≤ 2
  | [], _ => ⟨rfl, Nat.zero_le _⟩
  | p :: ps, h => by
    obtain ⟨h1, h2⟩ := can_strs ps fun z hz => h z (List.mem_cons_of_mem _ hz)
    refine ⟨?_, ?_⟩
    · show (PyData.canLay0 (.str p) && PyData.canLayAll0 (ps.map PyData.str)) = true
      have all : ∀ z ∈ steps4, PyData.canLay0 (.str z) = true := by decide +kernel
      rw [h1, all p (h p List.mem_cons_self)]; rfl
    · simp only [List.map_cons, PyData.depthAll, PyData.depth]
      omega
theorem shaped_of {ds : List PyData} (h : PyData.canLayAll0 ds = true ∧ PyData.depthAll ds ≤ 2) : SeqAt.shaped (.tuple ds) = true := by
  unfold SeqAt.shaped
  have e : PyData.canLay0 (.tuple ds) = true := by
    simp only [PyData.canLay0]; exact h.1
  rw [e, Bool.true_and, decide_eq_true_eq]
  simp only [PyData.depth]
  have := h.2
  omega
section
variable {P : Program} {w : World} {K : PySem.W.Frag} {mg : Str → Option Value} {base : Heap}
theorem dp_pairs {H : Hp} : ∀ {ls : List (Addr × Int × Int)}, (∀ p ∈ ls, SqT K H p.1 [.int p.2.1, .int p.2.2]) → DpAll K H (ls.map fun p => V.ref p.1) ((ls.map (·.2)).map pairD)
  | [], _ => .nil
  | p :: ls, h => .cons (.tup (h p List.mem_cons_self) (.cons (.int _) (.cons (.int _) .nil))) (dp_pairs fun q hq => h q (List.mem_cons_of_mem _ hq))
theorem dp_strs {H : Hp} : ∀ rs : List Str, DpAll K H (rs.map V.str) (rs.map PyData.str)
  | [] => .nil
  | r :: rs => .cons (.str r) (dp_strs rs)
theorem KindAt.same {C : Addr} {H H' : Hp} {k : Addr} {z : Str} {ps : List (Int × Int)} {rs : List Str} {q : Bool} (h : KindAt K C H k z ps rs q) (s : Same H H') : KindAt K C H' k z ps rs q := by
  obtain ⟨dx, tl, tr, ls, h1, h2, h3, h4, h5⟩ := h
  exact ⟨dx, tl, tr, ls, s _ _ h1, s.seqT h2, fun p hp => s.seqT (h3 p hp), h4, s.seqT h5⟩
def spKEq (K : PySem.W.Frag) (CK : Addr) : Sp := fun vs H Q _ => ∃ (k : Addr) (v : V) (t : Value) (z : Str) (ps : List (Int × Int)) (rs : List Str) (q : Bool), vs = [.ref k, v] ∧ KindAt K CK H k z ps rs q ∧ (∀ z ∈ rs, z ∈ steps4) ∧ TyX K H v t ∧
  ((PySem.W.kitOne K t (.ref CK) = some false ∧ ∀ H', Same H H' → Q (.bl false) H') ∨
    (PySem.W.kitOne K t (.ref CK) = some true ∧ ∃ (k2 : Addr) (z2 : Str) (ps2 : List (Int × Int)) (rs2 : List Str) (q2 : Bool), v = .ref k2 ∧ KindAt K CK H k2 z2 ps2 rs2 q2 ∧ (∀ z ∈ rs2, z ∈ steps4) ∧
      ∀ H', Same H H' → Q (.bl (decide (z = z2) && (decide (ps = ps2) && (decide (rs = rs2) && decide (q = q2))))) H'))
theorem O_Kind___eq__ (T : Tx K mg w) : FnOk P w K mg base CX0 1 T.a_Kind___eq__ T.d_Kind___eq__ ["self", "other"] (spKEq K T.c_Kind) := by
  refine T.F_Kind___eq__.ok sc_Kind___eq__ (fun vs H Q E h => ?_) (fun cdv A outer s H vs Q E hr h => ?_)
  · obtain ⟨k, v, t, z, ps, rs, q, rfl, _⟩ := h; rfl
  obtain ⟨k, v, t, z, ps, rs, q, rfl, ⟨dx, tl, tr, ls, h1, h2, h3, rfl, h5⟩, hr1, ty, h⟩ := h
  refine ⟨_, (pss_one (ps_ret (pe_and (pe_callB call_isi (by rfl) T.z_isinstance (by decide +kernel) (pa_cons (pv 1) (pa_cons (pe_glob (v := .ref T.c_Kind) (by rfl) T.m_Kind rfl) pa_nil))) (pe_and (pe_cmpR op_eq (pe_fld (pv 0) rfl) (pe_fld (pv 1) rfl) (nomark _)) (pe_and (pe_cmpR (op_eqD hr.units) (pe_fld (pv 0) rfl) (pe_fld (pv 1) rfl) (nomark _)) (pe_and (pe_cmpR (op_eqD hr.units) (pe_fld (pv 0) rfl) (pe_fld (pv 1) rfl) (nomark _)) (pe_one (pe_cmpR op_eq (pe_fld (pv 0) rfl) (pe_fld (pv 1) rfl) (nomark _))))))))), ?_⟩
  rcases h with ⟨hk, kf⟩ | ⟨hk, k2, z2, ps2, rs2, q2, rfl, ⟨dx2, tl2, tr2, ls2, g1, g2, g3, rfl, g5⟩, hr2, kt⟩
  · exact ⟨_, rfl, v, .ref T.c_Kind, t, .ref T.c_Kind, false, rfl, .own _, ty, hk, _, rfl, iteF (kf H (Same.refl H))⟩
  refine ⟨_, rfl, _, .ref T.c_Kind, t, .ref T.c_Kind, true, rfl, .own _, ty, hk, _, rfl, iteT ?_⟩
  have kt := kt H (Same.refl H)
  refine ⟨_, rfl, k, _, dx, _, _, rfl, h1, T.cl_Kind, T.nF_Kind_name, rfl, _, rfl, k2, _, dx2, _, _, rfl, g1, T.cl_Kind, T.nF_Kind_name, rfl, rfl, _, rfl, ?_⟩
  have e1 : decide (V.str z = V.str z2) = decide (z = z2) := decide_eq_decide.mpr ⟨V.str.inj, congrArg V.str⟩
  rw [e1]
  refine iteB (fun c => ?_) (fun c => ?_)
  rotate_left
  · rw [c, Bool.false_and] at kt; exact kt
  rw [c, Bool.true_and] at kt
  refine ⟨_, rfl, k, _, dx, _, _, rfl, h1, T.cl_Kind, T.nF_Kind_leaps, rfl, _, rfl, k2, _, dx2, _, _, rfl, g1, T.cl_Kind, T.nF_Kind_leaps, rfl, .tuple ((ls.map fun p : Addr × Int × Int => p.2).map pairD), .tuple ((ls2.map fun p : Addr × Int × Int => p.2).map pairD), .tup h2 (dp_pairs h3), .tup g2 (dp_pairs g3),
    shaped_of (can_pairs _), shaped_of (can_pairs _), _, rfl, ?_⟩
  have e2 : PyData.eqv (.tuple ((ls.map (·.2)).map pairD)) (.tuple ((ls2.map (·.2)).map pairD)) = decide (ls.map (·.2) = ls2.map (·.2)) := eqv_pairs _ _
  rw [e2]
  refine iteB (fun c2 => ?_) (fun c2 => ?_)
  rotate_left
  · rw [c2, Bool.false_and] at kt; exact kt
  rw [c2, Bool.true_and] at kt
  refine ⟨_, rfl, k, _, dx, _, _, rfl, h1, T.cl_Kind, T.nF_Kind_rides, rfl, _, rfl, k2, _, dx2, _, _, rfl, g1, T.cl_Kind, T.nF_Kind_rides, rfl, .tuple (rs.map PyData.str), .tuple (rs2.map PyData.str), .tup h5 (dp_strs rs), .tup g5 (dp_strs rs2),
    shaped_of (can_strs _ hr1), shaped_of (can_strs _ hr2), _, rfl, ?_⟩
  have e3 : PyData.eqv (.tuple (rs.map PyData.str)) (.tuple (rs2.map PyData.str)) = decide (rs = rs2) := eqv_strs _ _
  rw [e3]
  refine iteB (fun c3 => ?_) (fun c3 => ?_)
  rotate_left
  · rw [c3, Bool.false_and] at kt; exact kt
  rw [c3, Bool.true_and] at kt
  refine ⟨_, rfl, k, _, dx, _, _, rfl, h1, T.cl_Kind, T.nF_Kind_is_lord, rfl, _, rfl, k2, _, dx2, _, _, rfl, g1, T.cl_Kind, T.nF_Kind_is_lord, rfl, rfl, ?_⟩
  have e4 : decide (V.bl q = V.bl q2) = decide (q = q2) := decide_eq_decide.mpr ⟨V.bl.inj, congrArg V.bl⟩
  rw [← e4] at kt
  exact kt
end
end Kd

set_option Elab.async false
set_option linter.all false
set_option maxRecDepth 100000
set_option maxHeartbeats 4000000
namespace Kd
open PySem PySem.Spec PyProof.Rows L2 Gs
theorem seq_st {t r : TS} {D : Ends} {σ : L2.St} {H : Hp} (R : L2.St → Hp → Prop) (h1 : ∀ N : L2.St → Hp → Prop, (∀ σ' H', R σ' H' → N σ' H') → t { D with nx := N } σ H) (h2 : ∀ σ' H', R σ' H' → r D σ' H') : tSeq t r D σ H := h1 _ h2
def pairT (p : Int × Int) : Str := ((Str.empty ++ (toString p.1 : Str)) ++ (" " : Str)) ++ (toString p.2 : Str)
def leapsT (ps : List (Int × Int)) : Str := Txt.join " , " (ps.map pairT)
def wordsK (z : Str) (ps : List (Int × Int)) (rs : List Str) (q : Bool) : List Str :=
  ([z] ++ (if q = true then [("lord" : Str)] else [])) ++ ((if ps.isEmpty = true then [] else [("leaps" : Str), leapsT ps]) ++ (if rs.isEmpty = true then [] else ("rides" : Str) :: rs))
def textK (z : Str) (ps : List (Int × Int)) (rs : List Str) (q : Bool) : Str := Txt.join " " (wordsK z ps rs q)
theorem three {i : Int} (h : -3 ≤ i ∧ i ≤ 3) : i = -3 ∨ i = -2 ∨ i = -1 ∨ i = 0 ∨ i = 1 ∨ i = 2 ∨ i = 3 := by omega
theorem tos_len {i : Int} (h : -3 ≤ i ∧ i ≤ 3) : (toString i : Str).length ≤ 2 := by
  rcases three h with rfl | rfl | rfl | rfl | rfl | rfl | rfl <;> decide +kernel
theorem log3 {i : Int} (h : -3 ≤ i ∧ i ≤ 3) : i.natAbs.log2 < 1920 := by
  rcases three h with rfl | rfl | rfl | rfl | rfl | rfl | rfl <;> decide +kernel
theorem szl2' {n : Nat} (h : n ≤ 7) : n ≤ sizeLine := Nat.le_trans h (by decide)
theorem pairT_len {p : Int × Int} (h1 : -3 ≤ p.1 ∧ p.1 ≤ 3) (h2 : -3 ≤ p.2 ∧ p.2 ≤ 3) : (Str.empty ++ (toString p.1 : Str)).length ≤ 7 ∧ (Str.empty ++ (toString p.1 : Str) ++ (" " : Str)).length ≤ 7 ∧ (Str.empty ++ (toString p.1 : Str) ++ (" " : Str) ++ (toString p.2 : Str)).length ≤ 7 := by
  have t1 := tos_len h1
  have t2 := tos_len h2
  have e0 : Str.empty.length = 0 := rfl
  have e1 : (" " : Str).length = 1 := rfl
  simp only [Str.length_append, e0, e1]
  omega
theorem pairs_sum : ∀ {ps : List (Int × Int)}, (∀ p ∈ ps, (-3 ≤ p.1 ∧ p.1 ≤ 3) ∧ (-3 ≤ p.2 ∧ p.2 ≤ 3)) → ((ps.map pairT).map (·.length)).sum ≤ 7 * ps.length
  | [], _ => Nat.le_refl _
  | p :: ps, h => by
    have ih := pairs_sum (ps := ps) fun q hq => h q (List.mem_cons_of_mem _ hq)
    have hp := h p List.mem_cons_self
    have : (pairT p).length ≤ 7 := (pairT_len hp.1 hp.2).2.2
    simp only [List.map_cons, List.sum_cons, List.length_cons]
    omega
theorem steps_sum : ∀ {rs : List Str}, (∀ z ∈ rs, z ∈ steps4) → (rs.map (·.length)).sum ≤ 5 * rs.length
  | [], _ => Nat.le_refl _
  | r :: rs, h => by
    have ih := steps_sum (rs := rs) fun q hq => h q (List.mem_cons_of_mem _ hq)
    have all : ∀ z ∈ steps4, z.length ≤ 5 := by decide
    have := all r (h r List.mem_cons_self)
    simp only [List.map_cons, List.sum_cons, List.length_cons]
    omega
theorem joinL_le (S : List Nat) : ∀ ps : List (List Nat), (TL.joinL S ps).length ≤ (ps.map (·.length)).sum + ps.length * S.length
  | [] => Nat.zero_le _
  | [p] => by
    show p.length ≤ _
    simp only [List.map_cons, List.map_nil, List.sum_cons, List.sum_nil]
    omega
  | p :: q :: r => by
    have ih := joinL_le S (q :: r)
    show (p ++ (S ++ TL.joinL S (q :: r))).length ≤ _
    rw [List.length_append, List.length_append]
    simp only [List.map_cons, List.sum_cons, List.length_cons, Nat.add_mul, Nat.one_mul] at ih ⊢
    omega
theorem join_le (y : Str) (ps : List Str) : (Txt.join y ps).length ≤ (ps.map (·.length)).sum + ps.length * y.length := by
  have h := joinL_le (TL.tl y) (ps.map TL.tl)
  have e : TL.tl (Txt.join y ps) = TL.joinL (TL.tl y) (ps.map TL.tl) := by rw [TL.join_eq, TL.tl_join]
  have e1 : (Txt.join y ps).length = (TL.tl (Txt.join y ps)).length := Array.length_toList.symm
  have e2 : (ps.map TL.tl).map (·.length) = ps.map (·.length) := by
    rw [List.map_map]
    exact List.map_congr_left fun p _ => Array.length_toList
  have e3 : (TL.tl y).length = y.length := Array.length_toList
  rw [e1, e]
  rw [e2, e3, List.length_map] at h
  exact h
section
variable {P : Program} {w : World} {K : PySem.W.Frag} {mg : Str → Option Value} {base : Heap}
def spStrK (K : PySem.W.Frag) (CK : Addr) : Sp := fun vs H Q _ => ∃ (k : Addr) (z : Str) (ps : List (Int × Int)) (rs : List Str) (q : Bool), vs = [.ref k] ∧ KindAt K CK H k z ps rs q ∧ z.length ≤ 1000 ∧ ps.length ≤ 100 ∧ (∀ p ∈ ps, (-3 ≤ p.1 ∧ p.1 ≤ 3) ∧ (-3 ≤ p.2 ∧ p.2 ≤ 3)) ∧ rs.length ≤ 10 ∧ (∀ z ∈ rs, z ∈ steps4) ∧
  ∀ H', Same H H' → Q (.str (textK z ps rs q)) H'
theorem O_Kind___str__ (T : Tx K mg w) : FnOk P w K mg base CX0 1 T.a_Kind___str__ T.d_Kind___str__ ["self"] (spStrK K T.c_Kind) := by
  refine T.F_Kind___str__.ok sc_Kind___str__ (fun vs H Q E h => ?_) (fun cdv A outer s H vs Q E hr h => ?_)
  · obtain ⟨k, z, ps, rs, q, rfl, _⟩ := h; rfl
  obtain ⟨k, z, ps, rs, q, rfl, ⟨dx, tl, tr, ls, h1, h2, h3, rfl, h5⟩, hz, hps, hb, hrs, hr4, kt⟩ := h
  refine ⟨_, (pss_cons (ps_set (i := 1) sc_Kind___str__.nd rfl (Or.inl rfl) (pe_lst (pa_cons (pe_fld (pv 0) rfl) pa_nil)))
      (pss_cons (ps_if (pt_val (pe_fld (pv 0) rfl)) (pss_one (ps_expr (pe_bm PySem.F.plainAttrs_list PySem.F.slot_list_append PySem.F.type_list_append mt_append (pv 1) (pa_cons pe_str pa_nil)))) pss_nil)
      (pss_cons (ps_if (pt_truth (pe_fld (pv 0) rfl) (by intro _; rfl)) (pss_cons (ps_expr (pe_bm PySem.F.plainAttrs_list PySem.F.slot_list_append PySem.F.type_list_append mt_append (pv 1) (pa_cons pe_str pa_nil)))
      (pss_one (ps_expr (pe_bm PySem.F.plainAttrs_list PySem.F.slot_list_append PySem.F.type_list_append mt_append (pv 1) (pa_cons (pe_join pe_str (pe_lc (own := [("across", 2), ("up", 3)]) (g := (gTup K 2 (gCons (gName 2) (gCons (gName 3) gNil)))) rfl sc_Kind___str__.nd (pi_tup (pe_fld (pv 0) rfl)) (blkOk_by (N := n_Kind___str__) (sc := defScope s_Kind___str__) (by decide +kernel)) (fun _ _ _ _ _ => (pg_tup rfl (pgs_cons (pg_name (i := 2) sc_Kind___str__.nd rfl (Or.inl rfl)) (pgs_cons (pg_name (i := 3) sc_Kind___str__.nd rfl (Or.inl rfl)) pgs_nil)))) (fun _ _ _ _ _ => pts_nil) (fun _ _ _ _ _ => (pe_joined (PJ.cons (pe_fmt (pv 2)) (PJ.cons pe_str (PJ.cons (pe_fmt (pv 3)) PJ.nil))))))) pa_nil))))) pss_nil)
      (pss_cons (ps_if (pt_truth (pe_fld (pv 0) rfl) (by intro _; rfl)) (pss_cons (ps_expr (pe_bm PySem.F.plainAttrs_list PySem.F.slot_list_append PySem.F.type_list_append mt_append (pv 1) (pa_cons pe_str pa_nil)))
      (pss_one (ps_expr (pe_bm PySem.F.plainAttrs_list PySem.F.slot_list_extend PySem.F.type_list_extend mt_extT (pv 1) (pa_cons (pe_fld (pv 0) rfl) pa_nil))))) pss_nil)
      (pss_one (ps_ret (pe_join pe_str (pv 1)))))))), ?_⟩
  refine ⟨_, rfl, k, _, dx, _, _, rfl, h1, T.cl_Kind, T.nF_Kind_name, rfl, szl rfl, fun v hv => ?_⟩
  have nkv : k ≠ v := ne_of_none h1 hv
  have s1 : Same H (upd H v (.lst [.str z])) := same_new hv
  have g1 : upd H v (.lst [.str z]) v = some (.lst (([z] : List Str).map V.str)) := upd_same
  dsimp only [gName]
  generalize upd H v (.lst [.str z]) = H1 at s1 g1 ⊢
  -- the lord
  refine seq_st (fun σ' H' => σ' = [some (.ref k), some (.ref v), none, none] ∧ Same H H' ∧ H' v = some (.lst ((([z] : List Str) ++ (if q = true then [("lord" : Str)] else [])).map V.str))) (fun N hN => ?_) ?_
  · refine ⟨_, rfl, k, _, dx, _, _, rfl, s1 _ _ h1, T.cl_Kind, T.nF_Kind_is_lord, rfl, _, rfl, ?_⟩
    cases q with
    | false => exact iteF (hN _ _ ⟨rfl, s1, g1⟩)
    | true =>
      refine iteT ⟨_, rfl, .inl ⟨rfl, _, .of g1⟩, v, _, _, rfl, rfl, g1, szs (by simp), ?_⟩
      exact hN _ _ ⟨rfl, same_own s1 hv, upd_same⟩
  rintro _ H2 ⟨rfl, s2, g2⟩
  clear s1 g1 H1
  generalize hA : (([z] : List Str) ++ (if q = true then [("lord" : Str)] else [])) = A0 at g2
  have lA : A0.length ≤ 2 := by rw [← hA]; cases q <;> simp
  have sA : (A0.map (·.length)).sum ≤ 2000 := by
    rw [← hA]
    cases q with
    | false => simp; omega
    | true =>
      show z.length + (4 + 0) ≤ 2000
      omega
  -- the leaps
  refine seq_st (fun σ' H' => (∃ o1 o2, σ' = [some (.ref k), some (.ref v), o1, o2]) ∧ Same H H' ∧ H' v = some (.lst ((A0 ++ (if (ls.map (·.2)).isEmpty = true then [] else [("leaps" : Str), leapsT (ls.map (·.2))])).map V.str))) (fun N hN => ?_) ?_
  · refine ⟨_, rfl, k, _, dx, _, _, rfl, s2 _ _ h1, T.cl_Kind, T.nF_Kind_leaps, rfl, _, .inr (.inl ⟨_, s2.seqT h2, rfl⟩), ?_⟩
    cases hls : ls with
    | nil =>
      refine iteF (hN _ _ ⟨⟨_, _, rfl⟩, s2, ?_⟩)
      rw [g2, hls]
      show _ = some (HO.lst ((A0 ++ []).map V.str))
      rw [List.append_nil]
    | cons l0 lr =>
    have ne : (ls.map (·.2)).isEmpty = false := by rw [hls]; rfl
    have ne2 : (!(ls.map fun p => V.ref p.1).isEmpty) = true := by rw [hls]; rfl
    rw [← hls]
    clear hls
    refine iteT' ne2 ?_
    refine ⟨_, rfl, .inl ⟨rfl, _, .of g2⟩, v, _, _, rfl, rfl, g2, szs (by rw [List.length_map]; omega), ?_⟩
    have s3 : Same H (upd H2 v (.lst (A0.map V.str ++ [V.str "leaps"]))) := same_own s2 hv
    have g3 : upd H2 v (.lst (A0.map V.str ++ [V.str "leaps"])) v = some (.lst ((A0 ++ [("leaps" : Str)]).map V.str)) := by rw [upd_same, List.map_append]; rfl
    dsimp only
    generalize upd H2 v (.lst (A0.map V.str ++ [V.str "leaps"])) = H3 at s3 g3 ⊢
    refine ⟨_, rfl, .inl ⟨rfl, _, .of g3⟩, ⟨_, rfl⟩, _, rfl, k, _, dx, _, _, rfl, s3 _ _ h1, T.cl_Kind, T.nF_Kind_leaps, rfl, tl, rfl, ⟨_, s3.seqT h2⟩, fun D hD => ?_⟩
    refine lc_it (te := fun σ H Q => tJs [tFmt (tVar 2), tC (.str " "), tFmt (tVar 3)] Str.empty σ H fun out H1 => Q (.str out) H1) (walk_tup (K := K) (a := tl) (xs := ls.map fun p => V.ref p.1)) (fun i H' => Same H3 H' ∧ H' D = some (.lst ((((ls.map (·.2)).take i).map pairT).map V.str))) ⟨same_new hD, upd_same⟩ (fun i H' _ h => h.1.seqT (s3.seqT h2)) ?_ ?_
    · rintro i y H4 H5 hi ⟨s4, hD4⟩ ⟨rfl, hy⟩
      obtain ⟨p, hp, rfl⟩ : ∃ p, ls[i]? = some p ∧ V.ref p.1 = y := by
        rw [List.getElem?_map] at hy
        cases e : ls[i]? with
        | none => rw [e] at hy; cases hy
        | some u => rw [e] at hy; exact ⟨u, rfl, Option.some.inj hy⟩
      have hpm := List.mem_of_getElem? hp
      obtain ⟨b1, b2⟩ := hb p.2 (List.mem_map_of_mem hpm)
      have t1 := tos_len b1
      have t2 := tos_len b2
      refine ⟨p.1, _, rfl, s4.seqT (s3.seqT (h3 p hpm)), rfl, _, _, rfl, _, _, rfl, rfl, rfl, ?_⟩
      refine ⟨_, rfl, .inr ⟨_, rfl, log3 b1, _, rfl, ?_, _, rfl, ?_, _, rfl, .inr ⟨_, rfl, log3 b2, _, rfl, ?_, ?_⟩⟩⟩
      · exact szl2' (pairT_len b1 b2).1
      · exact szl2' (pairT_len b1 b2).2.1
      · exact szl2' (pairT_len b1 b2).2.2
      · refine ⟨_, hD4, ?_, same_own s4 hD, ?_⟩
        · rw [List.length_map, List.length_map]
          have := List.length_take_le' i (ls.map fun p : Addr × Int × Int => p.2)
          exact szs (by omega)
        · rw [upd_same, List.take_add_one, List.getElem?_map, hp, List.map_append, List.map_append]; rfl
    · rintro H4 ⟨s4, hD4⟩
      rw [List.length_map, ← List.length_map (f := fun p : Addr × Int × Int => p.2), List.take_length] at hD4
      refine ⟨_, D, _, rfl, rfl, .inl (.of hD4), ?_, v, _, _, rfl, rfl, s4 _ _ g3, szs (by rw [List.length_map, List.length_append]; simp only [List.length_cons, List.length_nil]; omega), ?_⟩
      · rw [List.length_map]
        have h7 : (((ls.map fun p : Addr × Int × Int => p.2).map pairT).map (·.length)).sum ≤ 7 * (ls.map fun p : Addr × Int × Int => p.2).length := pairs_sum hb
        have h3 : (" , " : Str).length = 3 := rfl
        rw [h3]
        omega
      · refine hN _ _ ⟨⟨_, _, rfl⟩, same_own (s3.trans s4) hv, ?_⟩
        rw [upd_same, ne, if_neg (by decide)]
        show some (HO.lst ((A0 ++ [("leaps" : Str)]).map V.str ++ [V.str (leapsT (ls.map fun p : Addr × Int × Int => p.2))])) = _
        rw [List.map_append, List.map_append, List.append_assoc]; rfl
  rintro _ H3 ⟨⟨o1, o2, rfl⟩, s3, g3⟩
  clear s2 g2 H2
  generalize hB : (A0 ++ (if (ls.map fun p : Addr × Int × Int => p.2).isEmpty = true then [] else [("leaps" : Str), leapsT (ls.map fun p : Addr × Int × Int => p.2)])) = B0 at g3
  have eW : wordsK z (ls.map fun p : Addr × Int × Int => p.2) rs q = B0 ++ (if rs.isEmpty = true then [] else ("rides" : Str) :: rs) := by
    rw [← hB, ← hA, List.append_assoc]; rfl
  have lB : B0.length ≤ 4 := by
    rw [← hB]
    by_cases h : (ls.map fun p : Addr × Int × Int => p.2).isEmpty = true
    · rw [if_pos h, List.append_nil]; omega
    · rw [if_neg h, List.length_append]; simp only [List.length_cons, List.length_nil]; omega
  have sB : (B0.map (·.length)).sum ≤ 5000 := by
    rw [← hB]
    by_cases h : (ls.map fun p : Addr × Int × Int => p.2).isEmpty = true
    · rw [if_pos h, List.append_nil]; omega
    · rw [if_neg h, List.map_append, List.sum_append]
      have h7 := pairs_sum hb
      have hj := join_le (" , " : Str) ((ls.map fun p : Addr × Int × Int => p.2).map pairT)
      rw [List.length_map] at hj
      have h3 : (" , " : Str).length = 3 := rfl
      rw [h3] at hj
      have h5 : ("leaps" : Str).length = 5 := rfl
      show _ + (("leaps" : Str).length + ((leapsT (ls.map fun p : Addr × Int × Int => p.2)).length + 0)) ≤ 5000
      have hj : (leapsT (ls.map fun p : Addr × Int × Int => p.2)).length ≤ _ := hj
      omega
  -- the rides
  refine seq_st (fun σ' H' => σ' = [some (.ref k), some (.ref v), o1, o2] ∧ Same H H' ∧ H' v = some (.lst ((B0 ++ (if rs.isEmpty = true then [] else ("rides" : Str) :: rs)).map V.str))) (fun N hN => ?_) ?_
  · refine ⟨_, rfl, k, _, dx, _, _, rfl, s3 _ _ h1, T.cl_Kind, T.nF_Kind_rides, rfl, _, .inr (.inl ⟨_, s3.seqT h5, rfl⟩), ?_⟩
    cases hrs' : rs with
    | nil =>
      refine iteF (hN _ _ ⟨rfl, s3, ?_⟩)
      rw [g3, hrs']
      show _ = some (HO.lst ((B0 ++ []).map V.str))
      rw [List.append_nil]
    | cons r0 rr =>
    have ne : rs.isEmpty = false := by rw [hrs']; rfl
    have ne2 : (!(rs.map V.str).isEmpty) = true := by rw [hrs']; rfl
    rw [← hrs']
    clear hrs'
    refine iteT' ne2 ?_
    refine ⟨_, rfl, .inl ⟨rfl, _, .of g3⟩, v, _, _, rfl, rfl, g3, szs (by rw [List.length_map]; omega), ?_⟩
    have s4 : Same H (upd H3 v (.lst (B0.map V.str ++ [V.str "rides"]))) := same_own s3 hv
    have g4 : upd H3 v (.lst (B0.map V.str ++ [V.str "rides"])) v = some (.lst ((B0 ++ [("rides" : Str)]).map V.str)) := by rw [upd_same, List.map_append]; rfl
    dsimp only
    generalize upd H3 v (.lst (B0.map V.str ++ [V.str "rides"])) = H4 at s4 g4 ⊢
    refine ⟨_, rfl, .inl ⟨rfl, _, .of g4⟩, _, rfl, k, _, dx, _, _, rfl, s4 _ _ h1, T.cl_Kind, T.nF_Kind_rides, rfl, v, tr, _, _, rfl, rfl, g4, s4.seqT h5, ?_, ?_⟩
    · rw [List.length_map, List.length_map, List.length_append]
      simp only [List.length_cons, List.length_nil]
      omega
    · refine hN _ _ ⟨rfl, same_own s4 hv, ?_⟩
      rw [upd_same, ne, if_neg (by decide)]
      show some (HO.lst ((B0 ++ [("rides" : Str)]).map V.str ++ rs.map V.str)) = _
      rw [List.map_append, List.map_append, List.append_assoc]; rfl
  rintro _ H4 ⟨rfl, s4, g4⟩
  rw [← eW] at g4
  refine ⟨⟨_, rfl⟩, _, rfl, _, v, _, rfl, rfl, .inl (.of g4), ?_, kt H4 s4⟩
  rw [eW, List.map_append, List.sum_append, List.length_append]
  have h1' : (" " : Str).length = 1 := rfl
  rw [h1']
  have hR : ((if rs.isEmpty = true then [] else ("rides" : Str) :: rs).map (·.length)).sum ≤ 100 ∧ (if rs.isEmpty = true then [] else ("rides" : Str) :: rs).length ≤ 11 := by
    by_cases h : rs.isEmpty = true
    · rw [if_pos h]; exact ⟨Nat.zero_le _, Nat.zero_le _⟩
    · rw [if_neg h]
      have h5 : ("rides" : Str).length = 5 := rfl
      have hs := steps_sum hr4
      simp only [List.map_cons, List.sum_cons, List.length_cons, h5]
      omega
  omega
end
end Kd

set_option Elab.async false
set_option linter.all false
set_option maxRecDepth 100000
set_option maxHeartbeats 4000000
namespace Kd
open PySem PySem.Spec PyProof.Rows L2 Gs
section
variable {P : Program} {w : World} {K : PySem.W.Frag} {mg : Str → Option Value} {base : Heap}
def spCrate (K : PySem.W.Frag) : Sp := fun vs H Q _ => ∃ (a : Addr) (ns : List Int), vs = [.ref a] ∧ SqL K H a (ns.map V.int) ∧ ns.length ≤ 63 ∧
  ∀ c l H', H c = none → H l = none → Ext c H H' → Bag c l 0 H' → Q (.ref c) H'
theorem cut60 (ns : List Int) : cutV (ns.map V.int) none (some 60) = (ns.take 60).map V.int := by
  unfold cutV
  rw [HT.sIx_none, show (some (60 : Int)) = some ((60 : Nat) : Int) from rfl, HT.sIx_nat, List.drop_zero, Nat.sub_zero, List.map_take, ← List.take_take, List.take_length]
theorem G__law_scroll (T : Tx K mg w) : FnG P w K mg base CX0 1 T.a__law_scroll T.d__law_scroll ["script"] (spCrate K) := by
  refine fun_okG T.F__law_scroll sc__law_scroll (fun vs H Q E h => ?_) (fun cdv A outer s H vs Q E hr hg h => ?_)
  · obtain ⟨a, ns, rfl, _⟩ := h; rfl
  · obtain ⟨a, ns, rfl, hS, hl, k⟩ := h
    refine ⟨_, (pss_one (ps_ret (pe_lst (pa_cons (pe_lc (own := [("cell", 1)]) (g := (gName 1)) rfl sc__law_scroll.nd (pi_list (pe_slice sl_list (pv 0) po_none (po_some pe_int))) (blkOk_by (N := n__law_scroll) (sc := defScope s__law_scroll) (by decide +kernel)) (fun _ _ _ _ _ => (pg_name (i := 1) sc__law_scroll.nd rfl (Or.inl rfl))) (fun _ _ _ _ _ => pts_nil) (fun _ _ _ _ _ => (pe_callTy call_int1 (by rfl) T.z_int (by decide +kernel) (pa_cons (pv 1) pa_nil)))) (pa_cons pe_int (pa_cons pe_int pa_nil)))))), ?_⟩
    refine ⟨_, rfl, _, rfl, a, _, rfl, hS, fun p hp => ?_⟩
    rw [cut60]
    have h60 : (ns.take 60).length ≤ 60 := List.length_take_le ..
    revert h60
    generalize ns.take 60 = ks
    intro h60
    refine ⟨p, rfl, ⟨_, .of upd_same⟩, fun D hD => ?_⟩
    have np : p ≠ D := fun e => by rw [← e, upd_same] at hD; cases hD
    have hD0 : H D = none := by rwa [upd_ne np.symm] at hD
    refine lc_list (K := K) (a := p) (xs := ks.map V.int) (fun i H' => H' p = some (.lst (ks.map V.int)) ∧ H' D = some (.lst ((ks.take i).map V.int)) ∧ ∀ b o, H b = some o → H' b = some o) ?_ ?_ ?_ ?_
    · refine ⟨by rw [upd_ne np, upd_same], upd_same, fun b o e => ?_⟩
      rw [upd_ne (ne_of_none e hD0), upd_ne (ne_of_none e hp)]; exact e
    · intro i H' _ h; exact .of h.1
    · rintro i x H' hx ⟨h1, h2, h3⟩
      obtain ⟨v, hv, rfl⟩ : ∃ v, ks[i]? = some v ∧ V.int v = x := by
        rw [List.getElem?_map] at hx
        cases e : ks[i]? with
        | none => rw [e] at hx; cases hx
        | some v => rw [e] at hx; exact ⟨v, rfl, Option.some.inj hx⟩
      refine ⟨rfl, ?_⟩
      refine ⟨_, rfl, .inl ⟨v, rfl, _, h2, ?_, ?_, ?_, ?_⟩⟩
      · rw [List.length_map]; exact szs (Nat.lt_of_le_of_lt (List.length_take_le' ..) (by omega))
      · rw [upd_ne np]; exact h1
      · rw [upd_same, List.take_add_one, hv, List.map_append]; rfl
      · intro b o e; rw [upd_ne (ne_of_none e hD0)]; exact h3 _ _ e
    · rintro H' ⟨h1, h2, h3⟩
      rw [List.length_map, List.take_length] at h2
      refine ⟨szl rfl, fun c hc => ?_⟩
      have nc : D ≠ c := ne_of_none h2 hc
      have hc0 : H c = none := by
        cases e : H c with
        | none => rfl
        | some o => rw [h3 _ _ e] at hc; cases hc
      refine k c D _ hc0 hD0 (fun b o _ e => ?_) ⟨ks, 0, 0, upd_same, by rw [upd_ne nc]; exact h2, nc, h60, by decide, by decide, by decide⟩
      rw [upd_ne (ne_of_none e hc0)]; exact h3 _ _ e
def spLift : Sp := fun vs H Q _ => ∃ (c l : Addr) (n : Nat) (m : Int), vs = [.ref c, .int m] ∧ Bag c l n H ∧ n ≤ 1000000 ∧ 0 < m ∧ m < 1073741824 ∧
  ∀ v H', 0 ≤ v → v < m → Bag c l (n + 1) H' → Ext c H H' → Q (.int v) H'
theorem O__law_unroll (T : Tx K mg w) : FnOk P w K mg base CX0 1 T.a__law_unroll T.d__law_unroll ["scroll", "many"] spLift := by
  refine T.F__law_unroll.ok sc__law_unroll (fun vs H Q E h => ?_) (fun cdv A outer s H vs Q E hr h => ?_)
  · obtain ⟨c, l, n, m, rfl, _⟩ := h; rfl
  · obtain ⟨c, l, n, m, rfl, ⟨ns, pt, rest, hc, hl, nlc, hn, h0, h1, h2⟩, hN, hm0, hm1, k⟩ := h
    refine ⟨_, (pss_cons (ps_if (pt_cmpR (op_eqD hr.units) (pe_ix ix_list (pv 0) pe_int (fun _ _ => rfl)) (pe_lst pa_nil) (nomark _)) (pss_one (ps_ret pe_int)) pss_nil)
      (pss_cons (ps_if (pt_cmpR op_gt (pe_ix ix_list (pv 0) pe_int (fun _ _ => rfl)) pe_int (nomark _)) (pss_cons (ps_set (i := 2) sc__law_unroll.nd rfl (Or.inl rfl) (pe_callTy call_int1 (by rfl) T.z_int (by decide +kernel) (pa_cons (pe_ix ix_list (pv 0) pe_int (fun _ _ => rfl)) pa_nil)))
      (pss_cons (ps_asg (pe_op op_fdiv (pv 2) (pv 1)) (pg_sub (pv 0) pe_int set_list))
      (pss_one (ps_ret (pe_op op_mod (pe_callTy call_int1 (by rfl) T.z_int (by decide +kernel) (pa_cons (pv 2) pa_nil)) (pv 1)))))) pss_nil)
      (pss_cons (ps_set (i := 3) sc__law_unroll.nd rfl (Or.inl rfl) (pe_ix ix_list (pv 0) pe_int (fun _ _ => rfl)))
      (pss_cons (ps_asg (pe_op op_add (pv 3) pe_int) (pg_sub (pv 0) pe_int set_list))
      (pss_cons (ps_set (i := 4) sc__law_unroll.nd rfl (Or.inl rfl) (pe_ix ix_list (pe_ix ix_list (pv 0) pe_int (fun _ _ => rfl)) (pe_op op_mod (pe_callTy call_int1 (by rfl) T.z_int (by decide +kernel) (pa_cons (pv 3) pa_nil)) (pe_callB call_len_seq (by rfl) T.z_len (by decide +kernel) (pa_cons (pe_ix ix_list (pv 0) pe_int (fun _ _ => rfl)) pa_nil))) (fun _ _ => rfl)))
      (pss_cons (ps_if (PW.pt (pw_and (pt_cmpR op_lt (pv 3) (pe_callB call_len_seq (by rfl) T.z_len (by decide +kernel) (pa_cons (pe_ix ix_list (pv 0) pe_int (fun _ _ => rfl)) pa_nil)) (nomark _)) (pw_and1 (pt_cmpR op_ge (pe_callB call_abs (by rfl) T.z_abs (by decide +kernel) (pa_cons (pv 4) pa_nil)) (pe_op op_pow pe_int pe_int) (nomark _))))) (pss_cons (ps_set (i := 2) sc__law_unroll.nd rfl (Or.inl rfl) (pe_op op_add (pe_op op_mul pe_int (pe_op op_sub (pe_callB call_abs (by rfl) T.z_abs (by decide +kernel) (pa_cons (pv 4) pa_nil)) (pe_op op_pow pe_int pe_int))) (pe_callTy call_int1 (by rfl) T.z_int (by decide +kernel) (pa_cons (pe_cmpR op_lt (pv 4) pe_int (nomark _)) pa_nil))))
      (pss_cons (ps_asg (pe_op op_fdiv (pe_callTy call_int1 (by rfl) T.z_int (by decide +kernel) (pa_cons (pv 2) pa_nil)) (pv 1)) (pg_sub (pv 0) pe_int set_list))
      (pss_one (ps_ret (pe_op op_mod (pe_callTy call_int1 (by rfl) T.z_int (by decide +kernel) (pa_cons (pv 2) pa_nil)) (pv 1)))))) pss_nil)
      (pss_cons (ps_set (i := 5) sc__law_unroll.nd rfl (Or.inl rfl) (pe_op op_mod (pe_callTy call_int1 (by rfl) T.z_int (by decide +kernel) (pa_cons (pe_op op_pow (pe_op op_add (pe_op op_add (pe_op op_mod (pe_callTy call_int1 (by rfl) T.z_int (by decide +kernel) (pa_cons (pv 4) pa_nil)) pe_int) (pe_op op_mul pe_int (pv 3))) pe_int) pe_int) pa_nil)) pe_int))
      (pss_cons (ps_set (i := 5) sc__law_unroll.nd rfl (Or.inl rfl) (pe_op op_mod (pe_callTy call_int1 (by rfl) T.z_int (by decide +kernel) (pa_cons (pe_op op_pow (pe_op op_add (pe_op op_add (pe_op op_mul (pv 5) (pe_op op_add (pe_op op_mul pe_int (pv 3)) pe_int)) (pe_op op_mul (pe_op op_mul pe_int (pv 3)) (pv 3))) pe_int) pe_int) pa_nil)) pe_int))
      (pss_one (ps_ret (pe_op op_mod (pe_callTy call_int1 (by rfl) T.z_int (by decide +kernel) (pa_cons (pe_op op_fdiv (pv 5) pe_int) pa_nil)) (pv 1)))))))))))), ?_⟩
    have hb : Bag c l n H := ⟨ns, pt, rest, hc, hl, nlc, hn, h0, h1, h2⟩
    -- the bag's list, is it empty
    refine ⟨_, rfl, c, _, 0, _, rfl, rfl, .of hc, rfl, szl rfl, fun e he => ?_⟩
    have nle : l ≠ e := ne_of_none hl he
    have nce : c ≠ e := ne_of_none hc he
    have hc1 : upd H e (.lst []) c = some (.lst [.ref l, .int pt, .int rest]) := by rw [upd_ne nce]; exact hc
    have hl1 : upd H e (.lst []) l = some (.lst (ns.map V.int)) := by rw [upd_ne nle]; exact hl
    have x1 : Ext c H (upd H e (.lst [])) := Ext.new he
    refine ⟨.list (ns.map .int), .list [], .lst (.of hl1) (dp_ints ns), .lst (.of upd_same) .nil, shaped_ints ns, by decide, _, rfl, ?_⟩
    refine ite2 (fun e0 => ?_) (fun e0 => ?_)
    · exact k 0 _ (by decide) hm0 (hb.mono (Nat.le_succ n) |>.new he) x1
    have hne : ns ≠ [] := fun z => by
      apply e0; rw [eqv_nil, z]; rfl
    generalize upd H e (.lst []) = H1 at hc1 hl1 x1
    -- what is left of a great number
    refine ⟨_, rfl, c, _, 2, _, rfl, rfl, .of hc1, rfl, _, _, rfl, rfl, _, rfl, ?_⟩
    refine ite2 (fun e2 => ?_) (fun e2 => ?_)
    · refine ⟨_, rfl, c, _, 2, _, rfl, rfl, .of hc1, rfl, .inl ⟨_, rfl, ?_⟩⟩
      refine ⟨_, rfl, _, rfl, _, _, rfl, rfl, ⟨hm0, hm1⟩, _, rfl, c, _, 2, 2, rfl, rfl, hc1, rfl, ?_⟩
      refine ⟨_, rfl, .inl ⟨_, rfl, _, rfl, _, _, rfl, rfl, hm0, ?_⟩⟩
      exact k (rest % m) _ (Int.emod_nonneg _ (by omega)) (Int.emod_lt_of_pos _ hm0) ⟨ns, pt, rest / m, upd_same, by rw [upd_ne nlc]; exact hl1, nlc, hn, h0, by omega, Int.ediv_nonneg h2 (by omega)⟩ (x1.trans Ext.bag)
    -- the next cell
    refine ⟨_, rfl, c, _, 1, _, rfl, rfl, .of hc1, rfl, ?_⟩
    refine ⟨_, rfl, _, _, rfl, rfl, _, rfl, c, _, 1, 1, rfl, rfl, hc1, rfl, ?_⟩
    refine gcut (fun H2 => H2 c = some (.lst [.ref l, .int (pt + 1), .int rest]) ∧ H2 l = some (.lst (ns.map V.int)) ∧ Ext c H H2) ⟨upd_same, by rw [upd_ne nlc]; exact hl1, x1.trans Ext.bag⟩ ?_
    rintro H2 ⟨hc2, hl2, x2⟩
    have x3 : ∀ r : Int, Ext c H (upd H2 c (.lst [.ref l, .int (pt + 1), .int r])) := fun r => x2.trans Ext.bag
    have hpt : pt ≤ 1000000 := by omega
    obtain ⟨v, hv⟩ := at_mod (pt := pt) hne h0
    have hlen : 0 < ((ns.map V.int).length : Int) := by
      have := List.length_pos_iff.mpr hne
      rw [List.length_map]; omega
    refine ⟨_, rfl, c, _, 0, _, rfl, rfl, .of hc2, rfl, _, rfl, .inl ⟨_, rfl, _, rfl, c, _, 0, _, rfl, rfl, .of hc2, rfl, l, _, rfl, .inl (.of hl2), _, _, rfl, rfl, hlen, l, _, _, .int v, rfl, rfl, .of hl2, hv, ?_⟩⟩
    -- at < len(bag[0]) and abs(cell) >= 10 ** 18
    refine ⟨_, rfl, _, rfl, c, _, 0, _, rfl, rfl, .of hc2, rfl, l, _, rfl, .inl (.of hl2), _, _, rfl, rfl, _, rfl, ?_⟩
    have fin : ∀ r : Int, 0 ≤ r → Bag c l (n + 1) (upd H2 c (.lst [.ref l, .int (pt + 1), .int r])) := fun r hr0 =>
      ⟨ns, pt + 1, r, upd_same, by rw [upd_ne nlc]; exact hl2, nlc, hn, by omega, by omega, hr0⟩
    have fin0 : Bag c l (n + 1) H2 := ⟨ns, pt + 1, rest, hc2, hl2, nlc, hn, by omega, by omega, h2⟩
    refine ite2 (fun e3 => ?_) (fun e3 => ?_)
    · refine ⟨_, rfl, _, rfl, _, _, rfl, rfl, ⟨by decide, by decide, by decide⟩, _, _, rfl, rfl, _, rfl, ?_⟩
      refine ite2 (fun e4 => ?_) (fun e4 => ?_)
      · -- a great number: what it tells is handed out bit by bit
        refine ⟨_, rfl, _, rfl, _, _, rfl, rfl, ⟨by decide, by decide, by decide⟩, _, _, rfl, rfl, _, _, rfl, rfl, .inl ⟨by decide, by decide⟩, _, rfl, _, _, rfl, rfl, .inr ⟨_, rfl, _, _, rfl, rfl, ?_⟩⟩
        have hbig : (0 : Int) ≤ 2 * ((if v < 0 then -v else v) - 10 ^ (18 : Int).toNat) + (if decide (v < 0) = true then 1 else 0) := by
          have := of_decide_eq_true e4
          split <;> omega
        refine ⟨_, rfl, .inl ⟨_, rfl, _, rfl, _, _, rfl, rfl, ⟨hm0, hm1⟩, _, rfl, c, _, 2, 2, rfl, rfl, hc2, rfl, ?_⟩⟩
        refine ⟨_, rfl, .inl ⟨_, rfl, _, rfl, _, _, rfl, rfl, hm0, ?_⟩⟩
        exact k _ _ (Int.emod_nonneg _ (by omega)) (Int.emod_lt_of_pos _ hm0) (fin _ (Int.ediv_nonneg hbig (Int.le_of_lt hm0))) (x3 _)
      · refine ⟨_, rfl, .inl ⟨_, rfl, _, _, rfl, rfl, pos_lit (by decide), _, rfl, _, _, rfl, rfl, .inl ⟨by decide, by decide⟩, _, _, rfl, rfl, _, _, rfl, rfl, _, _, rfl, rfl, ⟨by decide, by decide, by omega⟩, .inl ⟨_, rfl, _, _, rfl, rfl, pos_lit (by decide), ?_⟩⟩⟩
        refine ⟨_, rfl, _, rfl, _, _, rfl, rfl, .inl ⟨by decide, by decide⟩, _, _, rfl, rfl, _, _, rfl, rfl, .inl (emod_w (by decide) (by decide)), _, rfl, _, _, rfl, rfl, .inl ⟨by decide, by decide⟩, _, rfl, _, _, rfl, rfl, mul_pt h0 hpt (by decide) (by decide), _, _, rfl, rfl, _, _, rfl, rfl, _, _, rfl, rfl, ⟨by decide, by decide, mix_bound (emod_b (by decide) (by decide)).1 (emod_b (by decide) (by decide)).2 h0 hpt (by decide) (by decide) (by decide) (by decide) (by decide) (by decide)⟩, .inl ⟨_, rfl, _, _, rfl, rfl, pos_lit (by decide), ?_⟩⟩
        refine ⟨_, rfl, _, _, rfl, rfl, ⟨by decide, by decide⟩, .inl ⟨_, rfl, _, rfl, _, _, rfl, rfl, hm0, ?_⟩⟩
        exact k _ H2 (Int.emod_nonneg _ (by omega)) (Int.emod_lt_of_pos _ hm0) fin0 x2
    · refine ⟨_, rfl, .inl ⟨_, rfl, _, _, rfl, rfl, pos_lit (by decide), _, rfl, _, _, rfl, rfl, .inl ⟨by decide, by decide⟩, _, _, rfl, rfl, _, _, rfl, rfl, _, _, rfl, rfl, ⟨by decide, by decide, by omega⟩, .inl ⟨_, rfl, _, _, rfl, rfl, pos_lit (by decide), ?_⟩⟩⟩
      refine ⟨_, rfl, _, rfl, _, _, rfl, rfl, .inl ⟨by decide, by decide⟩, _, _, rfl, rfl, _, _, rfl, rfl, .inl (emod_w (by decide) (by decide)), _, rfl, _, _, rfl, rfl, .inl ⟨by decide, by decide⟩, _, rfl, _, _, rfl, rfl, mul_pt h0 hpt (by decide) (by decide), _, _, rfl, rfl, _, _, rfl, rfl, _, _, rfl, rfl, ⟨by decide, by decide, mix_bound (emod_b (by decide) (by decide)).1 (emod_b (by decide) (by decide)).2 h0 hpt (by decide) (by decide) (by decide) (by decide) (by decide) (by decide)⟩, .inl ⟨_, rfl, _, _, rfl, rfl, pos_lit (by decide), ?_⟩⟩
      refine ⟨_, rfl, _, _, rfl, rfl, ⟨by decide, by decide⟩, .inl ⟨_, rfl, _, rfl, _, _, rfl, rfl, hm0, ?_⟩⟩
      exact k _ H2 (Int.emod_nonneg _ (by omega)) (Int.emod_lt_of_pos _ hm0) fin0 x2
def spOne (K : PySem.W.Frag) : Sp := fun vs H Q _ => ∃ (c l s : Addr) (n : Nat) (xs : List V), vs = [.ref c, .ref s] ∧ Bag c l n H ∧ n ≤ 1000000 ∧ s ≠ c ∧ SqL K H s xs ∧ xs ≠ [] ∧ xs.length ≤ 1000 ∧
  ∀ (i : Nat) (v : V) (H' : Hp), xs[i]? = some v → Bag c l (n + 1) H' → Ext c H H' → Q v H'
theorem O__law_one (T : Tx K mg w) : FnOk P w K mg base CX0 2 T.a__law_one T.d__law_one ["scroll", "some"] (spOne K) := by
  refine T.F__law_one.ok sc__law_one (fun vs H Q E h => ?_) (fun cdv A outer s H vs Q E hr h => ?_)
  · obtain ⟨c, l, s, n, xs, rfl, _⟩ := h; rfl
  · obtain ⟨c, l, a, n, xs, rfl, hb, hN, na, hS, hne, hl, k⟩ := h
    have h0 : 0 < xs.length := List.length_pos_iff.mpr hne
    refine ⟨_, (pss_one (ps_ret (pe_ix ix_list (pv 1) (pe_call (O__law_unroll T) (hr.mono (by decide)) (by rfl) T.m__law_unroll T.F__law_unroll.kp T.b__law_unroll .nil pass0 (pa_cons (pv 0) (pa_cons (pe_callB call_len_seq (by rfl) T.z_len (by decide +kernel) (pa_cons (pv 1) pa_nil)) pa_nil))) (fun _ _ => rfl)))), ?_⟩
    refine ⟨_, rfl, _, rfl, _, rfl, a, xs, rfl, .inl hS, c, l, n, _, rfl, hb, hN, by omega, by omega, fun v H1 v0 v1 b1 x1 => ?_⟩
    obtain ⟨j, rfl⟩ := Int.eq_ofNat_of_zero_le v0
    have hj : j < xs.length := by omega
    refine ⟨a, xs, _, xs[j], rfl, rfl, x1.sqL na hS, atI_nat (List.getElem?_eq_getElem hj), ?_⟩
    exact k j _ H1 (List.getElem?_eq_getElem hj) b1 x1
end
end Kd

set_option Elab.async false
set_option linter.all false
set_option maxRecDepth 100000
set_option maxHeartbeats 4000000
namespace Kd
open PySem PySem.Spec PyProof.Rows L2 Gs
section
variable {P : Program} {w : World} {K : PySem.W.Frag} {mg : Str → Option Value} {base : Heap}
/-- what stands in a list may be compared with an empty one, now and later -/
def Cmp (K : PySem.W.Frag) (c : Addr) (H : Hp) (xs : List V) : Prop := ∀ H' ys, Gs.Ext c H H' → (∀ y ∈ ys, y ∈ xs) → ∃ es, DpAll K H' ys es ∧ SeqAt.shaped (.list es) = true
theorem eqv_len {K : PySem.W.Frag} {H : Hp} {ys : List V} {es : List PyData} (h : DpAll K H ys es) : PyData.eqv (.list es) (.list []) = ys.isEmpty := by
  cases h with
  | nil => rfl
  | cons a b => rfl
theorem perm_erase {α : Type} : ∀ (ys : List α) (j : Nat) (h : j < ys.length), (ys[j] :: ys.eraseIdx j).Perm ys
  | [], j, h => absurd h (Nat.not_lt_zero _)
  | y :: ys, 0, h => List.Perm.refl _
  | y :: ys, j + 1, h => by
    have h2 : j < ys.length := Nat.lt_of_succ_lt_succ h
    have ih := perm_erase ys j h2
    show (ys[j] :: y :: ys.eraseIdx j).Perm (y :: ys)
    exact (List.Perm.swap y ys[j] _).trans (ih.cons y)
def spStirred (K : PySem.W.Frag) : Sp := fun vs H Q _ => ∃ (c l a : Addr) (n : Nat) (xs : List V), vs = [.ref c, .ref a] ∧ Bag c l n H ∧ n ≤ 900000 ∧ a ≠ c ∧ SqL K H a xs ∧ xs.length ≤ 100 ∧ Cmp K c H xs ∧
  ∀ p ys H', ys.Perm xs → H p = none → H' p = some (.lst ys) → Bag c l (n + 100) H' → Gs.Ext c H H' → Q (.ref p) H'
theorem G__law_stirred (T : Tx K mg w) : FnG P w K mg base CX0 2 T.a__law_stirred T.d__law_stirred ["scroll", "some"] (spStirred K) := by
  refine fun_okG T.F__law_stirred sc__law_stirred (fun vs H Q E h => ?_) (fun cdv A outer s H vs Q E hr hg h => ?_)
  · obtain ⟨c, l, a, n, xs, rfl, _⟩ := h; rfl
  obtain ⟨c, l, a, n, xs, rfl, hb, hN, na, hS, hl, hcmp, k⟩ := h
  refine ⟨_, (pss_cons (ps_par (i := 2) (j := 3) rfl sc__law_stirred.nd rfl rfl (by decide) rfl rfl (pa_cons (pe_callTy call_list_of (by rfl) T.z_list (by decide +kernel) (pa_cons (pv 1) pa_nil)) (pa_cons (pe_lst pa_nil) pa_nil)) (by rfl))
      (pss_cons (ps_while PassesOwn.never (pt_cmpR (op_neD hr.units) (pv 2) (pe_lst pa_nil) (nomark _)) (pss_one (ps_expr (pe_bm PySem.F.plainAttrs_list PySem.F.slot_list_append PySem.F.type_list_append mt_append (pv 3) (pa_cons (pe_bm PySem.F.plainAttrs_list PySem.F.slot_list_pop PySem.F.type_list_pop mt_popAt (pv 2) (pa_cons (pe_call (O__law_unroll T) (hr.mono (by decide)) (by rfl) T.m__law_unroll T.F__law_unroll.kp T.b__law_unroll .nil pass0 (pa_cons (pv 0) (pa_cons (pe_callB call_len_seq (by rfl) T.z_len (by decide +kernel) (pa_cons (pv 2) pa_nil)) pa_nil))) pa_nil)) pa_nil)))))
      (pss_one (ps_ret (pv 3))))), ?_⟩
  refine ⟨_, rfl, a, xs, rfl, .inl hS, fun L hL => ⟨szl rfl, fun F hF => ⟨_, _, rfl, ?_⟩⟩⟩
  have nLc : L ≠ c := hb.ne hL
  have b1 := (hb.new hL (o := .lst xs)).new hF (o := .lst [])
  have nLl : L ≠ l := hb.ne2 hL
  have nFl : F ≠ l := (hb.new hL).ne2 hF
  have nLF : L ≠ F := fun z => by rw [← z, upd_same] at hF; cases hF
  have nFc : F ≠ c := (hb.new hL).ne hF
  have hF0 : H F = none := by rwa [upd_ne nLF.symm] at hF
  have x1 : Gs.Ext c H (upd (upd H L (.lst xs)) F (.lst [])) := (Ext.new hL).trans (Ext.new hF)
  have g1 : upd (upd H L (.lst xs)) F (.lst []) L = some (.lst xs) := by rw [upd_ne nLF, upd_same]
  have g2 : upd (upd H L (.lst xs)) F (.lst []) F = some (.lst []) := upd_same
  generalize upd (upd H L (.lst xs)) F (.lst []) = H1 at b1 x1 g1 g2 ⊢
  refine ⟨fun m σ H' => σ = [some (.ref c), some (.ref a), some (.ref L), some (.ref F)] ∧ ∃ ys zs, ys.length = m ∧ H' L = some (.lst ys) ∧ H' F = some (.lst zs) ∧ (zs ++ ys).Perm xs ∧ Gs.Ext c H H' ∧ Bag c l (n + (xs.length - m)) H',
    ⟨xs.length, rfl, xs, [], rfl, g1, g2, List.Perm.refl _, x1, b1.mono (by omega)⟩, ?_⟩
  rintro m σ H2 ⟨rfl, ys, zs, hm, hL2, hF2, hp, x2, b2⟩
  have hlen : zs.length + ys.length = xs.length := by rw [← List.length_append]; exact hp.length_eq
  have sub : ∀ y ∈ ys, y ∈ xs := fun y hy => hp.mem_iff.mp (List.mem_append_right _ hy)
  refine ⟨_, rfl, szl rfl, fun e he => ?_⟩
  have nLe : L ≠ e := ne_of_none hL2 he
  obtain ⟨es, hd, hsh⟩ := hcmp (upd H2 e (.lst [])) ys (x2.trans (Ext.new he)) sub
  refine ⟨.list es, .list [], .lst (.of (by rw [upd_ne nLe]; exact hL2)) hd, .lst (.of upd_same) .nil, hsh, by decide, _, rfl, ?_⟩
  have b3 := b2.new he (o := .lst [])
  have g3 : upd H2 e (.lst []) L = some (.lst ys) := by rw [upd_ne nLe]; exact hL2
  have f3 : upd H2 e (.lst []) F = some (.lst zs) := by rw [upd_ne (ne_of_none hF2 he)]; exact hF2
  have x3 : Gs.Ext c H (upd H2 e (.lst [])) := x2.trans (Ext.new he)
  rw [eqv_len hd]
  clear hd hsh hL2 hF2 b2 x2
  generalize upd H2 e (.lst []) = H3 at b3 g3 f3 x3 ⊢
  refine iteB (fun e0 => ?_) (fun e0 => ?_)
  rotate_left
  · have : ys = [] := by cases ys with | nil => rfl | cons y r => cases e0
    subst this
    rw [List.append_nil] at hp
    exact ⟨_, rfl, k F zs H3 hp hF0 f3 (b3.mono (by omega)) x3⟩
  have ne : ys ≠ [] := fun z => by rw [z] at e0; cases e0
  have h0 : 0 < ys.length := List.length_pos_iff.mpr ne
  refine ⟨fun σ' H' => ∃ m', m' < m ∧ (σ' = [some (.ref c), some (.ref a), some (.ref L), some (.ref F)] ∧ ∃ ys zs, ys.length = m' ∧ H' L = some (.lst ys) ∧ H' F = some (.lst zs) ∧ (zs ++ ys).Perm xs ∧ Gs.Ext c H H' ∧ Bag c l (n + (xs.length - m')) H'), fun σ' H' h => h, ?_⟩
  refine ⟨_, rfl, .inl ⟨rfl, _, .of f3⟩, _, rfl, .inl ⟨rfl, _, .of g3⟩, _, rfl, _, rfl, L, ys, rfl, .inl (.of g3), c, l, _, _, rfl, b3, by omega, by omega, by omega, fun v H4 v0 v1 b4 x4 => ?_⟩
  obtain ⟨j, rfl⟩ := Int.eq_ofNat_of_zero_le v0
  have hj : j < ys.length := by omega
  have g4 : H4 L = some (.lst ys) := x4 _ _ nLc g3
  have f4 : H4 F = some (.lst zs) := x4 _ _ nFc f3
  refine ⟨L, ys, _, j, ys[j], rfl, rfl, g4, by omega, by omega, ?_, List.getElem?_eq_getElem hj, ?_⟩
  · unfold seqIndex?
    simp only [Int.natCast_nonneg, if_true, ge_iff_le]
    first
      | rfl
      | (rw [if_pos (by omega)]; simp)
      | (simp; omega)
  refine ⟨F, zs, _, rfl, rfl, by rw [upd_ne nLF.symm]; exact f4, szs (by omega), ?_⟩
  have hp2 : ((zs ++ [ys[j]]) ++ ys.eraseIdx j).Perm xs := by
    rw [List.append_assoc]
    exact (List.Perm.append_left zs (perm_erase ys j hj)).trans hp
  have hl2 : (ys.eraseIdx j).length = m - 1 := by rw [List.length_eraseIdx_of_lt hj]; omega
  have h2 : upd (upd H4 L (.lst (ys.eraseIdx j))) F (.lst (zs ++ [ys[j]])) L = some (.lst (ys.eraseIdx j)) := by rw [upd_ne nLF, upd_same]
  refine ⟨m - 1, by omega, rfl, ys.eraseIdx j, zs ++ [ys[j]], hl2, h2, upd_same, hp2, ((x3.trans x4).own hL).own hF0, ?_⟩
  exact ((b4.put (o := .lst (ys.eraseIdx j)) nLc nLl).put (o := .lst (zs ++ [ys[j]])) nFc nFl).mono (by omega)
end
end Kd

set_option Elab.async false
set_option linter.all false
set_option maxRecDepth 100000
set_option maxHeartbeats 4000000
namespace Kd
open PySem PySem.Spec PyProof.Rows L2 Gs
/-- drawn leaps and rides -/
structure DrOk (ps : List (Int × Int)) (R : List Str) (q : Bool) : Prop where
  nd : ps.Nodup
  ok : ∀ p ∈ ps, lpair (.int p.1) (.int p.2) = true
  few : ps.length ≤ 8
  nr : R.Nodup
  st : ∀ r ∈ R, r ∈ steps4
  lord : q = true → R = []
  some : ps ≠ [] ∨ R ≠ []
/-- they stand in lists at a and b -/
structure DrAt (H : Hp) (a b : Addr) (ls : List (Addr × Int × Int)) (R : List Str) : Prop where
  ha : H a = Option.some (.lst (ls.map fun p => V.ref p.1))
  ht : ∀ p ∈ ls, H p.1 = Option.some (.tup [.int p.2.1, .int p.2.2])
  hb : H b = Option.some (.lst (R.map V.str))
section
variable {P : Program} {w : World} {K : PySem.W.Frag} {mg : Str → Option Value} {base : Heap}
theorem _root_.Gs.Ext.free' {c l p : Addr} {n : Nat} {H H' : Hp} (e : Gs.Ext c H H') (b : Bag c l n H') (h : H' p = none) : H p = none := by
  cases q : H p with
  | none => rfl
  | some o => rw [e _ _ (b.ne h) q] at h; cases h
theorem u65 {k : Nat} {A : Around} (hr : Room (k + 1) A) : A.units + 65 < cLine := by
  have h : A.units + 1 + 64 < cLine := hr.in1.units
  omega
theorem asg_cut {te : TE} {tg : TG} {D : Ends} {σ : L2.St} {H : Hp} (R : V → Hp → Prop) (h1 : ∀ Q : VK, (∀ v H', R v H' → Q v H') → te σ H Q) (h2 : ∀ v H', R v H' → tg v σ H' D.nx) : tAsg te tg D σ H := h1 _ h2
theorem part_ok {v : Int} (h0 : 0 ≤ v) (h1 : v < 7) : -3 ≤ v - 3 ∧ v - 3 ≤ 3 := by omega
theorem lpair_of {a u : Int} (h1 : -3 ≤ a ∧ a ≤ 3) (h2 : -3 ≤ u ∧ u ≤ 3) (h3 : (a, u) ≠ ((0 : Int), (0 : Int))) : lpair (.int a) (.int u) = true := by
  have e : ¬ (a = 0 ∧ u = 0) := fun z => h3 (by rw [z.1, z.2])
  rcases three h1 with rfl | rfl | rfl | rfl | rfl | rfl | rfl <;> rcases three h2 with rfl | rfl | rfl | rfl | rfl | rfl | rfl <;> first | decide | exact absurd ⟨rfl, rfl⟩ e
theorem dpP {K : PySem.W.Frag} {H : Hp} {ls : List (Addr × Int × Int)} (h : ∀ p ∈ ls, H p.1 = some (.tup [.int p.2.1, .int p.2.2])) : DpAll K H (ls.map fun p => V.ref p.1) ((ls.map (·.2)).map pairD) := dp_pairs fun p hp => .of (h p hp)
theorem shP (ps : List (Int × Int)) : SeqAt.shaped (.list (ps.map pairD)) = true := by
  have h := can_pairs ps
  unfold SeqAt.shaped
  have e : PyData.canLay0 (.list (ps.map pairD)) = true := by
    simp only [PyData.canLay0]; exact h.1
  rw [e, Bool.true_and, decide_eq_true_eq]
  simp only [PyData.depth]
  have := h.2
  omega
theorem shS {R : List Str} (hR : ∀ r ∈ R, r ∈ steps4) : SeqAt.shaped (.list (R.map PyData.str)) = true := by
  have h := can_strs R hR
  unfold SeqAt.shaped
  have e : PyData.canLay0 (.list (R.map PyData.str)) = true := by
    simp only [PyData.canLay0]; exact h.1
  rw [e, Bool.true_and, decide_eq_true_eq]
  simp only [PyData.depth]
  have := h.2
  omega
def unstr : V → Str
  | .str z => z
  | _ => ""
theorem te_cut {te : TE} {σ : L2.St} {H : Hp} {Q : VK} (R : V → Hp → Prop) (h1 : ∀ Q' : VK, (∀ v H', R v H' → Q' v H') → te σ H Q') (h2 : ∀ v H', R v H' → Q v H') : te σ H Q := h1 _ h2
theorem any_pairs (x : Int × Int) : ∀ ps : List (Int × Int), ((ps.map pairD).any fun z => PyData.eqv z (pairD x)) = decide (x ∈ ps)
  | [] => rfl
  | p :: ps => by
    rw [List.map_cons, List.any_cons, any_pairs x ps, Bool.eq_iff_iff]
    show ((((p.1 == x.1) && ((p.2 == x.2) && true))) || decide (x ∈ ps)) = true ↔ _
    rw [Bool.and_true]
    simp only [Bool.or_eq_true, Bool.and_eq_true, beq_iff_eq, decide_eq_true_eq, List.mem_cons, Prod.ext_iff]
    constructor
    · rintro (⟨h1, h2⟩ | h)
      · exact .inl ⟨h1.symm, h2.symm⟩
      · exact .inr h
    · rintro (⟨h1, h2⟩ | h)
      · exact .inl ⟨h1.symm, h2.symm⟩
      · exact .inr h
def spLKind (K : PySem.W.Frag) : Sp := fun vs H Q _ => ∃ (c l : Addr) (n : Nat) (z : Str), vs = [.ref c, .str z] ∧ Bag c l n H ∧ n ≤ 800000 ∧
  ∀ p a b ls R q H', DrOk (ls.map (·.2)) R q → DrAt H' a b ls R → H a = none → H b = none → a ≠ b → H' p = some (.tup [.str z, .ref a, .ref b, .bl q]) → Bag c l (n + 200) H' → Gs.Ext c H H' → Q (.ref p) H'
theorem G__law_kind (T : Tx K mg w) : FnG P w K mg base CX0 3 T.a__law_kind T.d__law_kind ["scroll", "name"] (spLKind K) := by
  refine fun_okG T.F__law_kind sc__law_kind (fun vs H Q E h => ?_) (fun cdv A outer s H vs Q E hr hg h => ?_)
  · obtain ⟨c, l, n, z, rfl, _⟩ := h; rfl
  obtain ⟨c, l, n, z, rfl, hb, hN, k⟩ := h
  refine ⟨_, (pss_cons (ps_par3 (i := 2) (j := 3) (l := 4) rfl sc__law_kind.nd rfl rfl rfl (by decide) (by decide) (by decide) rfl rfl rfl (pa_cons (pe_cmpR op_eq (pe_call (O__law_unroll T) (hr.mono (by decide)) (by rfl) T.m__law_unroll T.F__law_unroll.kp T.b__law_unroll .nil pass0 (pa_cons (pv 0) (pa_cons pe_int pa_nil))) pe_int (nomark _)) (pa_cons (pe_lst pa_nil) (pa_cons (pe_lst pa_nil) pa_nil))) (by rfl))
      (pss_cons (ps_for PassesOwn.never rfl (pi_range1 (by rfl) T.z_range (pa_cons (pe_call (O__law_one T) (hr.mono (by decide)) (by rfl) T.m__law_one T.F__law_one.kp T.b__law_one .nil pass0 (pa_cons (pv 0) (pa_cons (pe_lst (pa_cons pe_int (pa_cons pe_int (pa_cons pe_int (pa_cons pe_int (pa_cons pe_int pa_nil)))))) pa_nil))) pa_nil)) (pg_name (i := 5) sc__law_kind.nd rfl (Or.inl rfl)) (pss_cons (ps_set (i := 6) sc__law_kind.nd rfl (Or.inl rfl) (pe_tup (pa_cons (pe_op op_sub (pe_call (O__law_unroll T) (hr.mono (by decide)) (by rfl) T.m__law_unroll T.F__law_unroll.kp T.b__law_unroll .nil pass0 (pa_cons (pv 0) (pa_cons pe_int pa_nil))) pe_int) (pa_cons (pe_op op_sub (pe_call (O__law_unroll T) (hr.mono (by decide)) (by rfl) T.m__law_unroll T.F__law_unroll.kp T.b__law_unroll .nil pass0 (pa_cons (pv 0) (pa_cons pe_int pa_nil))) pe_int) pa_nil))))
      (pss_one (ps_set (i := 4) sc__law_kind.nd rfl (Or.inl rfl) (pe_op op_cat (pv 4) (pe_ifExp (PW.pt (pw_and (pt_cmpR (op_notInD (u65 hr)) (pv 6) (pv 4) (by rfl)) (pw_and1 (pt_cmpR (op_neD hr.units) (pv 6) (pe_tup (pa_cons pe_int (pa_cons pe_int pa_nil))) (nomark _))))) (pe_lst (pa_cons (pv 6) pa_nil)) (pe_lst pa_nil)))))))
      (pss_cons (ps_if (pt_not (pt_val (pv 2))) (pss_one (ps_setLc (i := 3) (own := [("word", 7)]) (g := (gName 7)) rfl sc__law_kind.nd rfl rfl (sw_true rfl rfl rfl (by decide +kernel)) (pi_list (pe_lst (pa_cons pe_str (pa_cons pe_str (pa_cons pe_str (pa_cons pe_str pa_nil)))))) (blkOk_by (N := n__law_kind) (sc := defScope s__law_kind) (by decide +kernel)) (fun _ _ _ _ _ => (pg_name (i := 7) sc__law_kind.nd rfl (Or.inl rfl))) (fun _ _ _ _ _ => pts_one (pt_cmpR op_eq (pe_call (O__law_unroll T) (hr.mono (by decide)) (by rfl) T.m__law_unroll T.F__law_unroll.kp T.b__law_unroll .nil pass0 (pa_cons (pv 0) (pa_cons pe_int pa_nil))) pe_int (nomark _))) (fun _ _ _ _ _ => (pv 7)))) pss_nil)
      (pss_one (ps_ret (pe_tup (pa_cons (pv 1) (pa_cons (pe_ifExp (PW.pt (pw_or (pt_cmpR (op_neD hr.units) (pv 4) (pe_lst pa_nil) (nomark _)) (pw_or1 (pt_cmpR (op_neD hr.units) (pv 3) (pe_lst pa_nil) (nomark _))))) (pv 4) (pe_lst (pa_cons (pe_tup (pa_cons pe_int (pa_cons pe_int pa_nil))) pa_nil))) (pa_cons (pg_call (G__law_stirred T) (hr.mono (by decide)) hg (by rfl) T.m__law_stirred T.F__law_stirred.kp T.b__law_stirred .nil pass0 (pa_cons (pv 0) (pa_cons (pv 3) pa_nil))) (pa_cons (pv 2) pa_nil)))))))))), ?_⟩
  refine ⟨_, rfl, c, l, n, 3, rfl, hb, by omega, by decide, by decide, fun v H1 v0 v1 b1 x1 => ⟨rfl, szl rfl, fun rd hrd => ⟨szl rfl, fun a0 ha0 => ⟨_, _, _, rfl, ?_⟩⟩⟩⟩
  generalize decide (V.int v = V.int 2) = q
  have nrc := b1.ne hrd
  have nrl := b1.ne2 hrd
  have b2 := b1.new hrd (o := .lst [])
  have nra : rd ≠ a0 := fun z => by rw [← z, upd_same] at ha0; cases ha0
  have na0 : H1 a0 = none := by rwa [upd_ne nra.symm] at ha0
  have x2 : Gs.Ext c H (upd (upd H1 rd (.lst [])) a0 (.lst [])) := (x1.trans (Ext.new hrd)).trans (Ext.new ha0)
  have b3 := b2.new ha0 (o := .lst [])
  have g3 : upd (upd H1 rd (.lst [])) a0 (.lst []) rd = some (.lst []) := by rw [upd_ne nra, upd_same]
  have f3 : upd (upd H1 rd (.lst [])) a0 (.lst []) a0 = some (.lst []) := upd_same
  have hrd0 : H rd = none := x1.free' b1 hrd
  have ha00 : H a0 = none := x1.free' b1 na0
  change tSeq _ _ _ (L2.start _ _ |>.set 2 _ |>.set 3 _ |>.set 4 _) _
  generalize upd (upd H1 rd (.lst [])) a0 (.lst []) = H2 at x2 b3 g3 f3 ⊢
  clear b1 b2 x1 hrd ha0 na0 v0 v1 H1
  -- how many leaps are tried
  refine ⟨_, rfl, szl rfl, fun p hp => ?_⟩
  refine ⟨c, l, p, _, _, rfl, b3.new hp, by omega, b3.ne hp, .of upd_same, by simp, szl2 rfl, fun i v H3 hi b4 x4 => ?_⟩
  obtain ⟨m, rfl, hm⟩ : ∃ m : Nat, v = .int m ∧ m ≤ 8 := by
    have hm := one_of hi
    simp only [List.mem_cons, List.not_mem_nil, or_false] at hm
    rcases hm with rfl | rfl | rfl | rfl | rfl
    · exact ⟨1, rfl, by decide⟩
    · exact ⟨2, rfl, by decide⟩
    · exact ⟨0, rfl, by decide⟩
    · exact ⟨4, rfl, by decide⟩
    · exact ⟨8, rfl, by decide⟩
  have x5 : Gs.Ext c H2 H3 := (Ext.new hp).trans x4
  have x6 := x2.trans x5
  have g4 : H3 rd = some (.lst []) := x5 _ _ nrc g3
  have na0c : a0 ≠ c := fun z => by
    obtain ⟨ns, pt, rest, h1, _⟩ := b3
    rw [z, h1] at f3; cases f3
  have f4 : H3 a0 = some (.lst []) := x5 _ _ na0c f3
  clear hi x4 hp x5 g3 f3 b3 x2 H2
  refine ⟨m, rfl, by omega, by omega, ?_⟩
  refine for_it (walk_range (lo := 0) (n := m)) (fun i σ H' => (∃ (t5 t6 t7 : Option V) (a : Addr) (ls : List (Addr × Int × Int)), σ = [some (.ref c), some (.str z), some (.bl q), some (.ref rd), some (.ref a), t5, t6, t7] ∧ H a = none ∧ a ≠ rd ∧ a ≠ c ∧
      H' a = some (.lst (ls.map fun p => V.ref p.1)) ∧ (∀ p ∈ ls, H' p.1 = some (.tup [.int p.2.1, .int p.2.2])) ∧ (ls.map (·.2)).Nodup ∧ (∀ p ∈ ls.map (·.2), lpair (.int p.1) (.int p.2) = true) ∧ ls.length ≤ i) ∧
      H' rd = some (.lst []) ∧ Gs.Ext c H H' ∧ Bag c l (n + 2 + 2 * i) H')
    ⟨⟨_, _, _, a0, [], rfl, ha00, nra.symm, na0c, f4, (fun p h => by cases h), List.nodup_nil, (fun p h => by cases h), Nat.le_refl _⟩, g4, x6, b4⟩ (fun _ _ _ _ _ => trivial) ?_ ?_
  · clear f4 g4 x6 b4 H3 ha00 na0c nra a0
    rintro i y σ H4 H4' hi ⟨⟨t5, t6, t7, a, ls, rfl, ha, nar, nac, f4, ht, nd, ok, hl⟩, g4, x4, b4⟩ ⟨rfl, rfl⟩
    have hi : i < m := hi
    refine ⟨_, rfl, c, l, _, 7, rfl, b4, by omega, by decide, by decide, fun v1 H5 p0 p1 b5 x5 => ⟨_, _, rfl, rfl, ?_⟩⟩
    refine ⟨_, rfl, c, l, _, 7, rfl, b5, by omega, by decide, by decide, fun v2 H6 q0 q1 b6 x6 => ⟨_, _, rfl, rfl, szl rfl, fun t ht6 => ?_⟩⟩
    have k1 := part_ok p0 p1
    have k2 := part_ok q0 q1
    have y6 := x5.trans x6
    have f6 := y6 _ _ nac f4
    have g6 := y6 _ _ nrc g4
    have ntc := b6.ne ht6
    have ht7 : ∀ p ∈ ls, upd H6 t (.tup [.int (v1 - 3), .int (v2 - 3)]) p.1 = some (.tup [.int p.2.1, .int p.2.2]) := fun p hp => by
      have h := ht p hp
      have npc : p.1 ≠ c := fun z => by
        obtain ⟨ns, pt, rest, h1, _⟩ := b4
        rw [z, h1] at h; cases h
      have h := y6 _ _ npc h
      rw [upd_ne (ne_of_none h ht6)]; exact h
    have f7 : upd H6 t (.tup [.int (v1 - 3), .int (v2 - 3)]) a = some (.lst (ls.map fun p => V.ref p.1)) := by rw [upd_ne (ne_of_none f6 ht6)]; exact f6
    have g7 : upd H6 t (.tup [.int (v1 - 3), .int (v2 - 3)]) rd = some (.lst []) := by rw [upd_ne (ne_of_none g6 ht6)]; exact g6
    have e7 : upd H6 t (.tup [.int (v1 - 3), .int (v2 - 3)]) t = some (.tup [.int (v1 - 3), .int (v2 - 3)]) := upd_same
    have b7 := b6.new ht6 (o := .tup [.int (v1 - 3), .int (v2 - 3)])
    have x7 := (x4.trans y6).trans (Ext.new ht6 (o := .tup [.int (v1 - 3), .int (v2 - 3)]))
    dsimp only [gName]
    generalize upd H6 t (.tup [.int (v1 - 3), .int (v2 - 3)]) = H7 at ht7 f7 g7 e7 b7 x7 ⊢
    clear f6 g6 y6 x6 x5 x4 b6 b5 b4 ht f4 g4 ht6 p0 p1 q0 q1 H6 H5
    generalize v1 - 3 = va at *
    generalize v2 - 3 = vu at *
    refine asg_cut (fun v H' => ∃ (a2 : Addr) (ls2 : List (Addr × Int × Int)), v = .ref a2 ∧ H a2 = none ∧ a2 ≠ rd ∧ a2 ≠ c ∧ H' a2 = some (.lst (ls2.map fun p => V.ref p.1)) ∧ (∀ p ∈ ls2, H' p.1 = some (.tup [.int p.2.1, .int p.2.2])) ∧ (ls2.map (·.2)).Nodup ∧
      (∀ p ∈ ls2.map (·.2), lpair (.int p.1) (.int p.2) = true) ∧ ls2.length ≤ i + 1 ∧ H' rd = some (.lst []) ∧ Gs.Ext c H H' ∧ Bag c l (n + 2 + 2 * (i + 1)) H') (fun Q' hq => ?_) ?_
    rotate_left
    · rintro v H' ⟨a2, ls2, rfl, z1, z2, z3, z4, z5, z6, z7, z8, z9, z10, z11⟩
      exact ⟨⟨_, _, _, a2, ls2, rfl, z1, z2, z3, z4, z5, z6, z7, z8⟩, z9, z10, z11⟩
    have npc : ∀ p ∈ ls, ∀ {H8 : Hp}, Same H7 H8 → H8 p.1 = some (.tup [.int p.2.1, .int p.2.2]) := fun p hp _ s8 => s8 _ _ (ht7 p hp)
    have fin0 : ∀ (σ8 : L2.St) (H8 : Hp), Same H7 H8 → Bag c l (n + 2 + 2 * i + 1 + 1) H8 → (tLst tNil : TE) σ8 H8 (fun y H2 => rCat (.ref a) y H2 Q') := fun σ8 H8 s8 b8 => by
      refine ⟨szl rfl, fun o ho => ⟨a, o, _, [], rfl, rfl, by rw [upd_ne (ne_of_none (s8 _ _ f7) ho)]; exact s8 _ _ f7, upd_same, ?_, fun p hp => ?_⟩⟩
      · rw [List.length_map]
        exact Nat.le_trans (show ls.length + 0 ≤ 1000 by omega) (by decide)
      have s9 : Same H7 (upd (upd H8 o (.lst [])) p (.lst ((ls.map fun p => V.ref p.1) ++ []))) := (s8.trans (same_new ho)).trans (same_new hp)
      have x9 := x7.trans (Ext.of s9)
      have hpn : H p = none := Ext.free' (Ext.trans (x7.trans (Ext.of s8)) (Ext.new ho)) (b8.new ho) hp
      refine hq _ _ ⟨p, ls, rfl, hpn, fun z => ?_, (b8.new ho).ne hp, by rw [upd_same, List.append_nil], fun p hp => npc p hp s9, nd, ok, by omega, s9 _ _ g7, x9, ((b8.new ho).new hp).mono (by omega)⟩
      have := (s8.trans (same_new ho (o := .lst []))) _ _ g7
      rw [← z, hp] at this; cases this
    refine ⟨_, rfl, _, rfl, _, rfl, pairD (va, vu), (ls.map (·.2)).map pairD, .tup (.of e7) (.cons (.int _) (.cons (.int _) .nil)), .lst (.of f7) (dpP ht7), rfl, shP _, _, rfl, ?_⟩
    rw [any_pairs]
    refine iteB (fun e => ?_) (fun e => fin0 _ _ (Same.refl _) b7)
    have e : (va, vu) ∉ ls.map (·.2) := by simpa using e
    refine ⟨_, rfl, szl rfl, fun o ho => ⟨pairD (va, vu), pairD (0, 0), .tup (.of (by rw [upd_ne (ne_of_none e7 ho)]; exact e7)) (.cons (.int _) (.cons (.int _) .nil)), .tup (.of upd_same) (.cons (.int _) (.cons (.int _) .nil)), rfl, rfl, _, rfl, ?_⟩⟩
    refine iteB (fun e2 => ?_) (fun e2 => fin0 _ _ (same_new ho) (b7.new ho))
    have e2 : (va, vu) ≠ ((0 : Int), (0 : Int)) := fun z => by rw [z] at e2; cases e2
    refine ⟨_, rfl, szl rfl, fun o2 ho2 => ?_⟩
    have s8 : Same H7 (upd (upd H7 o (.tup [.int 0, .int 0])) o2 (.lst [.ref t])) := (same_new ho).trans (same_new ho2)
    have b8 := (b7.new ho (o := .tup [.int 0, .int 0])).new ho2 (o := .lst [.ref t])
    refine ⟨a, o2, _, [.ref t], rfl, rfl, s8 _ _ f7, upd_same, ?_, fun p hp => ?_⟩
    · rw [List.length_map]
      exact Nat.le_trans (show ls.length + 1 ≤ 1000 by omega) (by decide)
    have s9 := s8.trans (same_new hp (o := .lst ((ls.map fun p => V.ref p.1) ++ [.ref t])))
    have x8 := x7.trans (Ext.of s8)
    refine hq _ _ ⟨p, ls ++ [(t, va, vu)], rfl, x8.free' b8 hp, fun z => ?_, b8.ne hp, by rw [upd_same, List.map_append]; rfl, fun r hr => ?_, ?_, fun r hr => ?_, ?_, s9 _ _ g7, x7.trans (Ext.of s9), (b8.new hp).mono (by omega)⟩
    · have := s8 _ _ g7
      rw [← z, hp] at this; cases this
    · rcases List.mem_append.mp hr with hr | hr
      · exact npc r hr s9
      · rw [List.mem_singleton.mp hr]; exact s9 _ _ e7
    · rw [List.map_append]
      exact List.nodup_append.mpr ⟨nd, (by simp), fun x hx y hy z => e (by rw [List.mem_singleton.mp hy] at z; rw [z] at hx; exact hx)⟩
    · rw [List.map_append] at hr
      rcases List.mem_append.mp hr with hr | hr
      · exact ok r hr
      · rw [List.mem_singleton.mp hr]; exact lpair_of k1 k2 e2
    · rw [List.length_append]; show ls.length + 1 ≤ i + 1; omega
  rintro σ H4 ⟨⟨t5, t6, t7, a, ls, rfl, ha, nar, nac, f5, ht, nd, ok, hl⟩, g5, x5, b5⟩
  clear f4 g4 x6 b4 H3 ha00 na0c nra a0
  have ntc : ∀ p ∈ ls, p.1 ≠ c := fun p hp z => by
    obtain ⟨ns, pt, rest, h1, _⟩ := b5
    have h := ht p hp
    rw [z, h1] at h; cases h
  -- the rides
  dsimp only
  refine seq_st (fun σ' H' => ∃ (t5 t6 t7 : Option V) (b : Addr) (R : List Str), σ' = [some (.ref c), some (.str z), some (.bl q), some (.ref b), some (.ref a), t5, t6, t7] ∧ H b = none ∧ b ≠ c ∧ b ≠ a ∧ H' b = some (.lst (R.map V.str)) ∧ R.Sublist steps4 ∧ (q = true → R = []) ∧
    Gs.Ext c H4 H' ∧ Bag c l (n + 2 + 2 * m + 4) H') (fun N hN => ?_) ?_
  · refine ⟨_, rfl, _, rfl, ?_⟩
    cases q with
    | true => exact iteF (hN _ _ ⟨_, _, _, rd, [], rfl, hrd0, nrc, nar.symm, g5, List.nil_sublist _, fun _ => rfl, Ext.refl, b5.mono (by omega)⟩)
    | false =>
    refine iteT ⟨szl rfl, fun p hp => ⟨p, rfl, ⟨_, .of upd_same⟩, fun D hD => ?_⟩⟩
    have npc := b5.ne hp
    have b6 := b5.new hp (o := .lst [.str "right", .str "left", .str "up", .str "down"])
    have nDc := b6.ne hD
    have nDl := b6.ne2 hD
    have npD : p ≠ D := fun e => by rw [← e, upd_same] at hD; cases hD
    have hD4 : H4 D = none := by rwa [upd_ne npD.symm] at hD
    have x6 : Gs.Ext c H4 (upd H4 p (.lst [.str "right", .str "left", .str "up", .str "down"])) := Ext.new hp
    have g6 : upd H4 p (.lst [.str "right", .str "left", .str "up", .str "down"]) p = some (.lst (steps4.map V.str)) := upd_same
    generalize upd H4 p (.lst [.str "right", .str "left", .str "up", .str "down"]) = H5 at hD b6 x6 g6 ⊢
    refine lc_it (walk_list (K := K) (a := p) (xs := steps4.map V.str)) (fun i H' => ∃ R : List Str, H' D = some (.lst (R.map V.str)) ∧ R.Sublist (steps4.take i) ∧ H' p = some (.lst (steps4.map V.str)) ∧ Gs.Ext c H4 H' ∧ Bag c l (n + 2 + 2 * m + i) H')
      ⟨[], upd_same, List.nil_sublist _, by rw [upd_ne npD]; exact g6, x6.trans (Ext.new hD), b6.new hD⟩ (fun i H' _ ⟨_, _, _, h, _⟩ => .of h) ?_ ?_
    · rintro i y H6 H7 hi ⟨R, h1, h2, h3, x7, b7⟩ ⟨rfl, hy⟩
      obtain ⟨u, hu, rfl⟩ : ∃ u, steps4[i]? = some u ∧ V.str u = y := by
        rw [List.getElem?_map] at hy
        cases e : steps4[i]? with
        | none => rw [e] at hy; cases hy
        | some u => rw [e] at hy; exact ⟨u, rfl, Option.some.inj hy⟩
      have hi4 : i < 4 := (List.getElem?_eq_some_iff.mp hu).1
      refine ⟨rfl, ?_⟩
      refine ⟨_, rfl, c, l, _, 2, rfl, b7, by omega, by decide, by decide, fun v H8 _ _ b8 x8 => ⟨rfl, _, rfl, ?_⟩⟩
      have h18 := x8 _ _ nDc h1
      have h38 := x8 _ _ npc h3
      have sub1 : (R ++ [u]).Sublist (steps4.take (i + 1)) := by
        rw [List.take_add_one, hu]; exact List.Sublist.append h2 (List.Sublist.refl _)
      have sub0 : R.Sublist (steps4.take (i + 1)) := h2.trans (by rw [List.take_add_one]; exact List.sublist_append_left _ _)
      have hR : R.length ≤ 4 := by have := h2.length_le; have := List.length_take_le i steps4; omega
      refine iteB (fun _ => ?_) (fun _ => ⟨R, h18, sub0, h38, x7.trans x8, b8.mono (by omega)⟩)
      refine ⟨_, rfl, _, h18, by rw [List.length_map]; exact szs (by omega), R ++ [u], by rw [upd_same, List.map_append]; rfl, sub1, by rw [upd_ne npD]; exact h38, (x7.trans x8).own hD4, ((b8.mono (by omega)).put nDc nDl)⟩
    rintro H6 ⟨R, h1, h2, _, x7, b7⟩
    have hDn : H D = none := x5.free' b5 hD4
    have nDa : D ≠ a := fun e => by rw [e, f5] at hD4; cases hD4
    refine hN _ _ ⟨_, _, _, D, R, rfl, hDn, nDc, nDa, h1, by rw [List.length_map] at h2; exact h2, (fun z => nomatch z), x7, b7⟩
  rintro _ H5 ⟨t5', t6', t7', b, R, rfl, hbn, nbc, nba, hb5, hR, hqR, x6, b6⟩
  have f6 := x6 _ _ nac f5
  have ht6 : ∀ p ∈ ls, H5 p.1 = some (.tup [.int p.2.1, .int p.2.2]) := fun p hp => x6 _ _ (ntc p hp) (ht p hp)
  have x7 := x5.trans x6
  clear x6 x5 b5 g5 ht f5 ntc H4 nar nrl nrc hrd0 t5 t6 t7 rd
  have hR4 : ∀ r ∈ R, r ∈ steps4 := fun r hr => hR.subset hr
  have hRn : R.Nodup := hR.nodup (by decide)
  have hRl : R.length ≤ 4 := hR.length_le
  refine ⟨_, rfl, ?_⟩
  refine te_cut (fun v H' => ∃ (a2 : Addr) (ls2 : List (Addr × Int × Int)), v = .ref a2 ∧ H a2 = none ∧ a2 ≠ c ∧ a2 ≠ b ∧ H' a2 = some (.lst (ls2.map fun p => V.ref p.1)) ∧ (∀ p ∈ ls2, H' p.1 = some (.tup [.int p.2.1, .int p.2.2])) ∧ DrOk (ls2.map (·.2)) R q ∧ Same H5 H') (fun Q' hq => ?_) ?_
  · have old : ∀ H', Same H5 H' → (ls ≠ [] ∨ R ≠ []) → Q' (.ref a) H' := fun H' s h => hq _ _ ⟨a, ls, rfl, ha, nac, nba.symm, s _ _ f6, fun p hp => s _ _ (ht6 p hp), ⟨nd, ok, by rw [List.length_map]; omega, hRn, hR4, hqR, by
      rcases h with h | h
      · exact .inl fun z => h (List.map_eq_nil_iff.mp z)
      · exact .inr h⟩, s⟩
    refine ⟨_, rfl, szl rfl, fun e1 he1 => ?_⟩
    have s1 : Same H5 (upd H5 e1 (.lst [])) := same_new he1
    refine ⟨.list ((ls.map (·.2)).map pairD), .list [], .lst (.of (s1 _ _ f6)) (dpP fun p hp => s1 _ _ (ht6 p hp)), .lst (.of upd_same) .nil, shP _, by decide, _, rfl, ?_⟩
    rw [eqv_len (K := K) (dpP fun p hp => s1 _ _ (ht6 p hp))]
    generalize upd H5 e1 (.lst []) = H6 at s1 ⊢
    have b7 := b6.same s1
    refine iteB (fun e => ⟨_, rfl, old H6 s1 (.inl fun z => by rw [z] at e; cases e)⟩) (fun e => ?_)
    have e : ls = [] := by cases ls with | nil => rfl | cons p r => cases e
    refine ⟨_, rfl, szl rfl, fun e2 he2 => ?_⟩
    have s2 : Same H6 (upd H6 e2 (.lst [])) := same_new he2
    have s3 := s1.trans s2
    refine ⟨.list (R.map PyData.str), .list [], .lst (.of (s3 _ _ hb5)) (dp_strs R), .lst (.of upd_same) .nil, shS hR4, by decide, _, rfl, ?_⟩
    rw [eqv_len (K := K) (H := upd H6 e2 (.lst [])) (dp_strs R)]
    have b8 := b7.same s2
    generalize upd H6 e2 (.lst []) = H7 at s2 s3 b8 ⊢
    refine iteB (fun e => ⟨_, rfl, old H7 s3 (.inr fun z => by rw [z] at e; cases e)⟩) (fun e4 => ?_)
    refine ⟨szl rfl, fun t ht => ⟨szl rfl, fun a2 ha2 => ?_⟩⟩
    have s4 := s3.trans ((same_new ht (o := .tup [.int 1, .int 0])).trans (same_new ha2 (o := .lst [.ref t])))
    have nt : t ≠ a2 := fun z => by rw [z, upd_same] at ha2; cases ha2
    have b9 := (b8.new ht (o := .tup [.int 1, .int 0]))
    refine hq _ _ ⟨a2, [(t, 1, 0)], rfl, (x7.trans (Ext.of (s3.trans (same_new ht)))).free' b9 ha2, b9.ne ha2, fun z => ?_, upd_same, fun p hp => ?_, ⟨by simp, fun p hp => ?_, (show 1 ≤ 8 by decide), hRn, hR4, hqR, .inl (fun z => nomatch z)⟩, s4⟩
    · have := (s3.trans (same_new ht (o := .tup [.int 1, .int 0]))) _ _ hb5
      rw [← z, ha2] at this; cases this
    · rw [List.mem_singleton.mp hp, upd_ne nt, upd_same]
    · rw [List.mem_singleton.mp hp]; exact (by decide : lpair (.int 1) (.int 0) = true)
  rintro _ H6 ⟨a2, ls2, rfl, ha2, na2c, na2b, f7, ht7, dr, s6⟩
  have b7 := b6.same s6
  have hb7 := s6 _ _ hb5
  have x8 := x7.trans (Ext.of s6)
  clear b6 hb5 f6 ht6 x7 s6 H5 nd ok hl ha nac nba ls
  -- stirred
  refine ⟨_, rfl, _, rfl, c, l, b, _, _, rfl, b7, by omega, nbc, .of hb7, by rw [List.length_map]; omega, fun H' ys x hy => ?_, fun p2 ys H7 hys hp2 hp7 b8 x9 => ?_⟩
  · obtain ⟨ws, rfl, hws⟩ : ∃ ws : List Str, ws.map V.str = ys ∧ ∀ r ∈ ws, r ∈ steps4 := by
      clear x
      induction ys with
      | nil => exact ⟨[], rfl, fun r h => by cases h⟩
      | cons y ys ih =>
        obtain ⟨ws, e, hw⟩ := ih fun z hz => hy z (List.mem_cons_of_mem _ hz)
        obtain ⟨r, hr, er⟩ := List.mem_map.mp (hy y List.mem_cons_self)
        refine ⟨r :: ws, by rw [List.map_cons, er, e], fun z hz => ?_⟩
        rcases List.mem_cons.mp hz with rfl | hz
        · exact hR4 _ hr
        · exact hw z hz
    exact ⟨_, dp_strs ws, shS hws⟩
  obtain ⟨R2, rfl, hR2⟩ : ∃ R2 : List Str, R2.map V.str = ys ∧ R2.Perm R := by
    refine ⟨ys.map unstr, ?_, ?_⟩
    · rw [List.map_map]
      refine (List.map_congr_left fun y hy => ?_).trans (List.map_id ys)
      obtain ⟨r, _, er⟩ := List.mem_map.mp (hys.mem_iff.mp hy)
      rw [← er]; rfl
    · have h := hys.map unstr
      rw [List.map_map] at h
      have e : unstr ∘ V.str = id := rfl
      rw [e, List.map_id] at h
      exact h
  refine ⟨_, rfl, szl rfl, fun p hp => ?_⟩
  have tc : ∀ p ∈ ls2, p.1 ≠ c := fun p hp z => by
    obtain ⟨ns, pt, rest, h1, _⟩ := b7
    have h := ht7 p hp
    rw [z, h1] at h; cases h
  have s8 : Same H7 (upd H7 p (.tup [.str z, .ref a2, .ref p2, .bl q])) := same_new hp
  refine k p a2 p2 ls2 R2 q _ ⟨dr.nd, dr.ok, dr.few, hR2.nodup_iff.mpr dr.nr, fun r hr => dr.st r (hR2.mem_iff.mp hr), fun h => by rw [dr.lord h] at hR2; exact hR2.eq_nil, ?_⟩ ⟨s8 _ _ (x9 _ _ na2c f7), fun p hp => s8 _ _ (x9 _ _ (tc p hp) (ht7 p hp)), s8 _ _ hp7⟩ ha2 (x8.free' b7 hp2) ?_ upd_same ((b8.new hp).mono (by omega)) ((x8.trans x9).trans (Ext.of s8))
  · rcases dr.some with h | h
    · exact .inl h
    · exact .inr fun z => by rw [z] at hR2; exact h hR2.symm.eq_nil
  · exact fun z => by rw [← z, f7] at hp2; cases hp2
end
end Kd

set_option Elab.async false
set_option linter.all false
set_option maxRecDepth 100000
set_option maxHeartbeats 4000000
namespace Kd
open PySem PySem.Spec PyProof.Rows L2 Gs
section
variable {P : Program} {w : World} {K : PySem.W.Frag} {mg : Str → Option Value} {base : Heap}
def GoodN (x : Str) : Prop := (1 ≤ x.length ∧ x.length ≤ 8) ∧ ∀ c ∈ x.cps.toList, c ∈ letters.cps.toList
def spNm : Sp := fun vs H Q _ => ∃ (c l : Addr) (n : Nat), vs = [.ref c] ∧ Bag c l n H ∧ n ≤ 999980 ∧
  ∀ (x : Str) (H' : Hp), isNameS x = true → Bag c l (n + 13) H' → Ext c H H' → Q (.str x) H'
theorem joined (cs : List Nat) : Txt.join "" (cs.map fun k => (⟨#[k]⟩ : Str)) = ⟨cs.toArray⟩ := by
  have h := PyProof.Rows.join_ones cs
  have e : ("" : Str) = ⟨#[]⟩ := by decide +kernel
  rw [e, ← h]; exact eq_of_beq (PyProof.Rows.join_plain_closes _ _)
theorem G__law_name (T : Tx K mg w) : FnG P w K mg base CX0 3 T.a__law_name T.d__law_name ["scroll"] spNm := by
  refine fun_okG T.F__law_name sc__law_name (fun vs H Q E h => ?_) (fun cdv A outer s H vs Q E hr hg h => ?_)
  · obtain ⟨c, l, n, rfl, _⟩ := h; rfl
  obtain ⟨c, l, n, rfl, hb, hN, k⟩ := h
  refine ⟨_, (pss_cons (ps_set (i := 1) sc__law_name.nd rfl (Or.inr rfl) pe_str)
      (pss_cons (ps_set (i := 2) sc__law_name.nd rfl (Or.inl rfl) (pe_join pe_str (pe_lc (own := [("at", 3)]) (g := (gName 3)) rfl sc__law_name.nd (pi_range1 (by rfl) T.z_range (pa_cons (pe_call (O__law_one T) (hr.mono (by decide)) (by rfl) T.m__law_one T.F__law_one.kp T.b__law_one .nil pass0 (pa_cons (pv 0) (pa_cons (pe_lst (pa_cons pe_int (pa_cons pe_int (pa_cons pe_int (pa_cons pe_int pa_nil))))) pa_nil))) pa_nil)) (blkOk_by (N := n__law_name) (sc := defScope s__law_name) (by decide +kernel)) (fun _ _ _ _ _ => (pg_name (i := 3) sc__law_name.nd rfl (Or.inl rfl))) (fun _ _ _ _ _ => pts_nil) (fun _ _ _ _ _ => (pe_ix ix_str (pv 1) (pe_call (O__law_unroll T) (hr.mono (by decide)) (by rfl) T.m__law_unroll T.F__law_unroll.kp T.b__law_unroll .nil pass0 (pa_cons (pv 0) (pa_cons pe_int pa_nil))) (fun _ _ => rfl))))))
      (pss_one (ps_ret (pe_ifExp (pt_cmpR (r := rIn K false) op_in_seq (pv 2) (pe_tup (pa_cons pe_str (pa_cons pe_str (pa_cons pe_str (pa_cons pe_str pa_nil))))) (by rfl)) pe_str (pv 2)))))), ?_⟩
  refine ⟨⟨_, rfl⟩, ?_⟩
  -- how many letters
  refine ⟨_, rfl, szl rfl, fun p hp => ?_⟩
  refine ⟨c, l, p, n, _, rfl, hb.new hp, by omega, hb.ne hp, .of upd_same, by simp, szl2 rfl, fun i v H1 hi b1 x1 => ?_⟩
  obtain ⟨m, rfl, hm⟩ : ∃ m : Nat, v = .int m ∧ 1 ≤ m ∧ m ≤ 8 := by
    have hm := one_of hi
    simp only [List.mem_cons, List.not_mem_nil, or_false] at hm
    rcases hm with rfl | rfl | rfl | rfl
    · exact ⟨1, rfl, by decide⟩
    · exact ⟨6, rfl, by decide⟩
    · exact ⟨8, rfl, by decide⟩
    · exact ⟨4, rfl, by decide⟩
  have x01 : Ext c H H1 := (Ext.new hp).trans x1
  clear hi x1 hp hb
  refine ⟨m, rfl, by omega, by omega, fun D hD => ?_⟩
  have nDc := b1.ne hD
  have nDl := b1.ne2 hD
  refine lc_it (walk_range (lo := 0) (n := m)) (fun i H' => ∃ cs : List Nat, H' D = some (.lst (cs.map fun k => V.str ⟨#[k]⟩)) ∧ cs.length = i ∧ (∀ z ∈ cs, z ∈ letters.cps.toList) ∧ Bag c l (n + 1 + i) H' ∧ Ext c H1 H')
    ⟨[], upd_same, rfl, fun z h => (nomatch h), b1.new hD, Ext.new hD⟩ (fun _ _ _ _ => trivial) ?_ ?_
  · rintro i x H2 H2' hi ⟨cs, h1, h2, h3, b2, x2⟩ ⟨rfl, rfl⟩
    refine ⟨rfl, ?_⟩
    refine ⟨_, rfl, _, rfl, c, l, _, _, rfl, b2, by omega, by decide, by decide, fun v H3 a1 a2 b3 x3 => ?_⟩
    obtain ⟨j, rfl⟩ := Int.eq_ofNat_of_zero_le a1
    have hj : j < letters.cps.toList.length := by
      have : letters.cps.toList.length = 26 := by decide +kernel
      omega
    have h13 : H3 D = some (.lst (cs.map fun k => V.str ⟨#[k]⟩)) := x3 _ _ nDc h1
    refine ⟨letters, _, letters.cps.toList[j], rfl, rfl, szl rfl, atI_nat (List.getElem?_eq_getElem hj), _, h13, ?_, cs ++ [letters.cps.toList[j]], ?_, ?_, ?_, ?_, ?_⟩
    · rw [List.length_map]; exact szs (by omega)
    · rw [upd_same, List.map_append]; rfl
    · rw [List.length_append]; show cs.length + 1 = i + 1; omega
    · intro z hz
      rcases List.mem_append.mp hz with hz | hz
      · exact h3 z hz
      · rw [List.mem_singleton.mp hz]; exact List.getElem_mem hj
    · exact (b3.mono (by omega)).put nDc nDl
    · exact (x2.trans x3).own hD
  rintro H2 ⟨cs, h1, h2, h3, b2, x2⟩
  refine ⟨"", D, cs.map fun k => (⟨#[k]⟩ : Str), rfl, rfl, .inl (.of (by rw [List.map_map]; exact h1)), ?_, ?_⟩
  · have e1 : ∀ cs : List Nat, ((cs.map fun k => (⟨#[k]⟩ : Str)).map (·.length)).sum = cs.length := by
      intro cs
      induction cs with
      | nil => rfl
      | cons a r ih => simp only [List.map_cons, List.sum_cons, ih, List.length_cons]; show 1 + _ = _; omega
    have e2 : ("" : Str).length = 0 := rfl
    rw [e1, e2]; omega
  rw [joined]
  have hgood : GoodN ⟨cs.toArray⟩ := ⟨by show 1 ≤ cs.toArray.size ∧ cs.toArray.size ≤ 8; rw [List.size_toArray]; omega, by intro z hz; exact h3 z (by simpa using hz)⟩
  generalize (⟨cs.toArray⟩ : Str) = x at hgood ⊢
  have x9 : Gs.Ext c H H2 := x01.trans x2
  refine ⟨_, rfl, szl rfl, fun p hp => ⟨p, barred, rfl, .inr (.of upd_same), rfl, rfl, _, rfl, ?_⟩⟩
  refine iteB (fun e => k "x" _ (by decide +kernel) ((b2.new hp).mono (by omega)) (x9.trans (Ext.new hp))) (fun e => ⟨_, rfl, k x _ ?_ ((b2.new hp).mono (by omega)) (x9.trans (Ext.new hp))⟩)
  unfold isNameS
  have e : inV (.str x) barred = false := e
  rw [e, decide_eq_true hgood.1.1, decide_eq_true hgood.1.2]
  exact List.all_eq_true.mpr fun c hc => decide_eq_true (hgood.2 c hc)
end
end Kd

set_option Elab.async false
set_option linter.all false
set_option maxRecDepth 100000
set_option maxHeartbeats 4000000
namespace Kd
open PySem PySem.Spec PyProof.Rows L2 Gs
/-- the rides in their order -/
def ridL (R : List Str) : List Str := steps4.filter fun z => decide (z ∈ R)
def leapsW (ps : List (Int × Int)) : List Str := if ps.isEmpty = true then [] else [("leaps" : Str), leapsT ps]
def ridesW (rs : List Str) : List Str := if rs.isEmpty = true then [] else ("rides" : Str) :: rs
def headW (z : Str) (q : Bool) : List Str := [z] ++ (if q = true then [("lord" : Str)] else [])
theorem words_eq (z : Str) (ps : List (Int × Int)) (rs : List Str) (q : Bool) : wordsK z ps rs q = headW z q ++ leapsW ps ++ ridesW rs := (List.append_assoc _ _ _).symm
theorem empty_app (x : Str) : Str.empty ++ x = x := by
  have h : ∀ a : Array Nat, (#[] : Array Nat) ++ a = a := fun a => Array.empty_append
  show (⟨#[] ++ x.cps⟩ : Str) = x
  rw [h]
theorem pairT_eq (p : Int × Int) : (toString p.1 : Str) ++ (" " : Str) ++ (toString p.2 : Str) = pairT p := by
  unfold pairT
  rw [empty_app]
theorem ridL_sub (R : List Str) : ∀ r ∈ ridL R, r ∈ steps4 := fun r hr => (List.mem_filter.mp hr).1
theorem ridL_len (R : List Str) : (ridL R).length ≤ 4 := List.length_filter_le _ _
theorem ridL_nil {R : List Str} (h : ∀ r ∈ R, r ∈ steps4) : (ridL R).isEmpty = R.isEmpty := by
  cases R with
  | nil => rfl
  | cons r R =>
    have hm : r ∈ ridL (r :: R) := List.mem_filter.mpr ⟨h r List.mem_cons_self, by simp⟩
    cases e : ridL (r :: R) with
    | nil => rw [e] at hm; cases hm
    | cons _ _ => rfl
section
variable {P : Program} {w : World} {K : PySem.W.Frag} {mg : Str → Option Value} {base : Heap}
def spLText (K : PySem.W.Frag) : Sp := fun vs H Q _ => ∃ (z : Str) (a b : Addr) (ls : List (Addr × Int × Int)) (R : List Str) (q : Bool), vs = [.str z, .ref a, .ref b, .bl q] ∧ z.length ≤ 1000 ∧ DrOk (ls.map (·.2)) R q ∧ DrAt H a b ls R ∧
  ∀ ps H', ps.Perm (ls.map (·.2)) → ps.Pairwise (fun x y => SrtO.lexB y x = false) → Same H H' → Q (.str (textK z ps (ridL R) q)) H'
theorem G__law_text (T : Tx K mg w) : FnG P w K mg base CX0 2 T.a__law_text T.d__law_text ["name", "leaps", "rides", "is_lord"] (spLText K) := by
  refine fun_okG T.F__law_text sc__law_text (fun vs H Q E h => ?_) (fun cdv A outer s H vs Q E hr hg h => ?_)
  · obtain ⟨z, a, b, ls, R, q, rfl, _⟩ := h; rfl
  obtain ⟨z, a, b, ls, R, q, rfl, hz, dr, da, k⟩ := h
  refine ⟨_, (pss_cons (ps_set (i := 4) sc__law_text.nd rfl (Or.inl rfl) (pe_op op_cat (pe_lst (pa_cons (pv 0) pa_nil)) (pe_ifExp (pt_val (pv 3)) (pe_lst (pa_cons pe_str pa_nil)) (pe_lst pa_nil))))
      (pss_cons (ps_if (pt_cmpR (op_neD hr.units) (pv 1) (pe_lst pa_nil) (nomark _)) (pss_one (ps_set (i := 4) sc__law_text.nd rfl (Or.inl rfl) (pe_op op_cat (pe_op op_cat (pv 4) (pe_lst (pa_cons pe_str pa_nil))) (pe_lst (pa_cons (pe_join pe_str (pe_lc (own := [("across", 5), ("up", 6)]) (g := (gTup K 2 (gCons (gName 5) (gCons (gName 6) gNil)))) rfl sc__law_text.nd (pi_list (pe_callB cr_sortT (by rfl) T.z_sorted (by decide +kernel) (pa_cons (pv 1) pa_nil))) (blkOk_by (N := n__law_text) (sc := defScope s__law_text) (by decide +kernel)) (fun _ _ _ _ _ => (pg_tup rfl (pgs_cons (pg_name (i := 5) sc__law_text.nd rfl (Or.inl rfl)) (pgs_cons (pg_name (i := 6) sc__law_text.nd rfl (Or.inl rfl)) pgs_nil)))) (fun _ _ _ _ _ => pts_nil) (fun _ _ _ _ _ => (pe_op op_add_str (pe_op op_add_str (pe_callTy call_str_int (by rfl) T.z_str (by decide +kernel) (pa_cons (pv 5) pa_nil)) pe_str) (pe_callTy call_str_int (by rfl) T.z_str (by decide +kernel) (pa_cons (pv 6) pa_nil)))))) pa_nil))))) pss_nil)
      (pss_cons (ps_if (pt_cmpR (op_neD hr.units) (pv 2) (pe_lst pa_nil) (nomark _)) (pss_one (ps_set (i := 4) sc__law_text.nd rfl (Or.inl rfl) (pe_op op_cat (pe_op op_cat (pv 4) (pe_lst (pa_cons pe_str pa_nil))) (pe_lc (own := [("word", 7)]) (g := (gName 7)) rfl sc__law_text.nd (pi_list (pe_lst (pa_cons pe_str (pa_cons pe_str (pa_cons pe_str (pa_cons pe_str pa_nil)))))) (blkOk_by (N := n__law_text) (sc := defScope s__law_text) (by decide +kernel)) (fun _ _ _ _ _ => (pg_name (i := 7) sc__law_text.nd rfl (Or.inl rfl))) (fun _ _ _ _ _ => pts_one (pt_cmpR (r := rIn K false) op_in_seq (pv 7) (pv 2) (by rfl))) (fun _ _ _ _ _ => (pv 7)))))) pss_nil)
      (pss_one (ps_ret (pe_join pe_str (pv 4))))))), ?_⟩
  have ha := da.ha
  have hb := da.hb
  have ht := da.ht
  have l8 : ls.length ≤ 8 := by have := dr.few; rw [List.length_map] at this; exact this
  have bnd : ∀ p ∈ ls.map (·.2), (-3 ≤ p.1 ∧ p.1 ≤ 3) ∧ (-3 ≤ p.2 ∧ p.2 ≤ 3) := fun p hp => lpair_bd (dr.ok p hp)
  -- the name, the lord
  refine seq_cut (fun v H' => ∃ x : Addr, v = .ref x ∧ H x = none ∧ H' x = some (.lst ((headW z q).map V.str)) ∧ Same H H') (fun Q' hq => ?_) ?_
  · refine ⟨_, rfl, szl rfl, fun p1 hp1 => ⟨_, rfl, _, rfl, ?_⟩⟩
    have s1 : Same H (upd H p1 (.lst [.str z])) := same_new hp1
    cases q with
    | false =>
      refine iteF ⟨szl rfl, fun p2 hp2 => ?_⟩
      have n12 : p1 ≠ p2 := fun e => by rw [← e, upd_same] at hp2; cases hp2
      refine ⟨p1, p2, _, [], rfl, rfl, by rw [upd_ne n12]; exact upd_same, upd_same, szl rfl, fun p hp => hq _ _ ⟨p, rfl, (s1.trans (same_new hp2)).free hp, by rw [upd_same, List.append_nil]; rfl, (s1.trans (same_new hp2)).trans (same_new hp)⟩⟩
    | true =>
      refine iteT ⟨szl rfl, fun p2 hp2 => ?_⟩
      have n12 : p1 ≠ p2 := fun e => by rw [← e, upd_same] at hp2; cases hp2
      refine ⟨p1, p2, _, _, rfl, rfl, by rw [upd_ne n12]; exact upd_same, upd_same, szl rfl, fun p hp => hq _ _ ⟨p, rfl, (s1.trans (same_new hp2)).free hp, upd_same, (s1.trans (same_new hp2)).trans (same_new hp)⟩⟩
  rintro _ H1 ⟨x1, rfl, hx1, g1, s1⟩
  have lA : (headW z q).length ≤ 2 ∧ ((headW z q).map (·.length)).sum ≤ 1004 := by
    cases q with
    | false =>
      refine ⟨(show 1 ≤ 2 by decide), ?_⟩
      show z.length + 0 ≤ 1004
      omega
    | true =>
      refine ⟨(show 2 ≤ 2 by decide), ?_⟩
      show z.length + (4 + 0) ≤ 1004
      omega
  -- the leaps
  dsimp only [gName]
  refine seq_st (fun σ' H' => ∃ (x : Addr) (ps : List (Int × Int)) (t5 t6 t7 : Option V), σ' = [some (.str z), some (.ref a), some (.ref b), some (.bl q), some (.ref x), t5, t6, t7] ∧ ps.Perm (ls.map (·.2)) ∧ ps.Pairwise (fun x y => SrtO.lexB y x = false) ∧
    H' x = some (.lst ((headW z q ++ leapsW ps).map V.str)) ∧ Same H H') (fun N hN => ?_) ?_
  · refine ⟨_, rfl, szl rfl, fun e1 he1 => ?_⟩
    have t1 : Same H1 (upd H1 e1 (.lst [])) := same_new he1
    have s2 := s1.trans t1
    refine ⟨.list ((ls.map (·.2)).map pairD), .list [], .lst (.of (s2 _ _ ha)) (dpP fun p hp => s2 _ _ (ht p hp)), .lst (.of upd_same) .nil, shP _, by decide, _, rfl, ?_⟩
    rw [eqv_len (K := K) (dpP fun p hp => s2 _ _ (ht p hp))]
    have g2 := t1 _ _ g1
    clear t1 he1
    generalize upd H1 e1 (.lst []) = H2 at s2 g2 ⊢
    refine iteB (fun e => ?_) (fun e => ?_)
    rotate_left
    · have e : ls = [] := by cases ls with | nil => rfl | cons p r => cases e
      refine hN _ _ ⟨x1, [], _, _, _, rfl, by rw [e]; exact List.Perm.nil, List.Pairwise.nil, ?_, s2⟩
      rw [g2]
      show _ = some (HO.lst ((headW z q ++ []).map V.str))
      rw [List.append_nil]
    have e : ls ≠ [] := fun z => by rw [z] at e; cases e
    refine ⟨_, rfl, szl rfl, fun p1 hp1 => ?_⟩
    have t1 : Same H2 (upd H2 p1 (.lst [.str "leaps"])) := same_new hp1
    refine ⟨x1, p1, _, [.str "leaps"], rfl, rfl, t1 _ _ g2, upd_same, ?_, fun p2 hp2 => ?_⟩
    · rw [List.length_map]; exact Nat.le_trans (show (headW z q).length + 1 ≤ 1000 by omega) (by decide)
    have t2 := t1.trans (same_new hp2 (o := .lst ((headW z q).map V.str ++ [.str "leaps"])))
    have s3 := s2.trans t2
    have g3 : upd (upd H2 p1 (.lst [.str "leaps"])) p2 (.lst ((headW z q).map V.str ++ [.str "leaps"])) p2 = some (.lst ((headW z q ++ [("leaps" : Str)]).map V.str)) := by rw [upd_same, List.map_append]; rfl
    generalize upd (upd H2 p1 (.lst [.str "leaps"])) p2 (.lst ((headW z q).map V.str ++ [.str "leaps"])) = H3 at s3 g3 ⊢
    refine ⟨⟨_, rfl⟩, _, rfl, a, ls, rfl, .of (s3 _ _ ha), fun p hp => .of (s3 _ _ (ht p hp)), fun l2 p3 perm pw hp3 => ⟨p3, rfl, ⟨_, .of upd_same⟩, fun D hD => ?_⟩⟩
    have t3 : Same H3 (upd H3 p3 (.lst (l2.map fun p => V.ref p.1))) := same_new hp3
    have s4 := s3.trans t3
    have g4 := t3 _ _ g3
    have f4 : upd H3 p3 (.lst (l2.map fun p => V.ref p.1)) p3 = some (.lst (l2.map fun p => V.ref p.1)) := upd_same
    generalize upd H3 p3 (.lst (l2.map fun p => V.ref p.1)) = H4 at s4 g4 f4 hD ⊢
    have hb2 : ∀ p ∈ l2.map (·.2), (-3 ≤ p.1 ∧ p.1 ≤ 3) ∧ (-3 ≤ p.2 ∧ p.2 ≤ 3) := fun p hp => bnd p ((perm.map _).mem_iff.mp hp)
    have l28 : l2.length ≤ 8 := by rw [perm.length_eq]; exact l8
    refine lc_it (walk_list (K := K) (a := p3) (xs := l2.map fun p => V.ref p.1)) (fun i H' => Same H4 H' ∧ H' D = some (.lst ((((l2.map (·.2)).take i).map pairT).map V.str))) ⟨same_new hD, upd_same⟩ (fun i H' _ h => .of (h.1 _ _ f4)) ?_ ?_
    · rintro i y H5 H6 hi ⟨s5, hD5⟩ ⟨rfl, hy⟩
      obtain ⟨p, hp, rfl⟩ : ∃ p, l2[i]? = some p ∧ V.ref p.1 = y := by
        rw [List.getElem?_map] at hy
        cases e : l2[i]? with
        | none => rw [e] at hy; cases hy
        | some u => rw [e] at hy; exact ⟨u, rfl, Option.some.inj hy⟩
      have hpm := List.mem_of_getElem? hp
      obtain ⟨b1, b2⟩ := hb2 p.2 (List.mem_map_of_mem hpm)
      have t1 := tos_len b1
      have t2 := tos_len b2
      have e1 : (" " : Str).length = 1 := rfl
      refine ⟨p.1, _, rfl, .of (s5 _ _ (s4 _ _ (ht p (perm.mem_iff.mp hpm)))), rfl, _, _, rfl, _, _, rfl, rfl, rfl, ?_⟩
      refine ⟨_, rfl, _, rfl, log3 b1, _, _, rfl, rfl, ?_, _, rfl, _, rfl, log3 b2, _, _, rfl, rfl, ?_, ?_⟩
      · exact szl2' (by rw [e1]; omega)
      · refine szl2' ?_
        rw [Str.length_append, e1]; omega
      · refine ⟨_, hD5, ?_, same_own s5 hD, ?_⟩
        · rw [List.length_map, List.length_map]
          have := List.length_take_le' i (l2.map fun p : Addr × Int × Int => p.2)
          rw [List.length_map] at this
          exact szs (by omega)
        · rw [upd_same, List.take_add_one, List.getElem?_map, hp, List.map_append, List.map_append]
          show some (HO.lst (_ ++ [V.str _])) = some (HO.lst (_ ++ [V.str (pairT p.2)]))
          rw [← pairT_eq]
    rintro H5 ⟨s5, hD5⟩
    rw [List.length_map, ← List.length_map (f := fun p : Addr × Int × Int => p.2), List.take_length] at hD5
    have hsum := pairs_sum hb2
    refine ⟨_, D, _, rfl, rfl, .inl (.of hD5), ?_, ?_⟩
    · have h3 : (" , " : Str).length = 3 := rfl
      rw [h3, List.length_map, List.length_map]
      rw [List.length_map] at hsum
      omega
    have g5 := s5 _ _ g4
    have s6 := s4.trans s5
    refine ⟨szl rfl, fun o ho => ⟨p2, o, _, _, rfl, rfl, by rw [upd_ne (ne_of_none g5 ho)]; exact g5, upd_same, ?_, fun p hp => ?_⟩⟩
    · rw [List.length_map, List.length_append]; exact Nat.le_trans (show (headW z q).length + 1 + 1 ≤ 1000 by omega) (by decide)
    refine hN _ _ ⟨p, l2.map (·.2), _, _, _, rfl, perm.map _, List.pairwise_map.mpr pw, ?_, (s6.trans (same_new ho)).trans (same_new hp)⟩
    have e2 : (l2.map (·.2)).isEmpty = false := by
      cases l2 with
      | nil => exact absurd perm.symm.eq_nil e
      | cons _ _ => rfl
    rw [upd_same]
    unfold leapsW
    rw [e2, if_neg (by decide), List.map_append, List.map_append, List.append_assoc]
    rfl
  rintro _ H2 ⟨x, ps, t5, t6, t7, rfl, perm, pw, g2, s2⟩
  clear g1 s1 hx1 x1 H1
  have hbp : ∀ p ∈ ps, (-3 ≤ p.1 ∧ p.1 ≤ 3) ∧ (-3 ≤ p.2 ∧ p.2 ≤ 3) := fun p hp => bnd p (perm.mem_iff.mp hp)
  have lps : ps.length ≤ 8 := by rw [perm.length_eq, List.length_map]; exact l8
  have lB : (headW z q ++ leapsW ps).length ≤ 4 ∧ ((headW z q ++ leapsW ps).map (·.length)).sum ≤ 2000 := by
    rw [List.length_append, List.map_append, List.sum_append]
    unfold leapsW
    by_cases h : ps.isEmpty = true
    · rw [if_pos h]
      show (headW z q).length + 0 ≤ 4 ∧ _ + 0 ≤ 2000
      omega
    · rw [if_neg h]
      have h7 := pairs_sum hbp
      have hj := join_le (" , " : Str) (ps.map pairT)
      rw [List.length_map] at hj
      have h3 : (" , " : Str).length = 3 := rfl
      rw [h3] at hj
      have h5 : ("leaps" : Str).length = 5 := rfl
      have hj : (leapsT ps).length ≤ _ := hj
      show (headW z q).length + 2 ≤ 4 ∧ _ + (("leaps" : Str).length + ((leapsT ps).length + 0)) ≤ 2000
      omega
  -- the rides
  refine seq_st (fun σ' H' => ∃ (x : Addr) (t5 t6 t7 : Option V), σ' = [some (.str z), some (.ref a), some (.ref b), some (.bl q), some (.ref x), t5, t6, t7] ∧
    H' x = some (.lst ((headW z q ++ leapsW ps ++ ridesW (ridL R)).map V.str)) ∧ Same H H') (fun N hN => ?_) ?_
  · refine ⟨_, rfl, szl rfl, fun e1 he1 => ?_⟩
    have t1 : Same H2 (upd H2 e1 (.lst [])) := same_new he1
    have s3 := s2.trans t1
    refine ⟨.list (R.map PyData.str), .list [], .lst (.of (s3 _ _ hb)) (dp_strs R), .lst (.of upd_same) .nil, shS dr.st, by decide, _, rfl, ?_⟩
    rw [eqv_len (K := K) (H := upd H2 e1 (.lst [])) (dp_strs R)]
    have g3 := t1 _ _ g2
    clear t1 he1
    generalize upd H2 e1 (.lst []) = H3 at s3 g3 ⊢
    have em : (R.map V.str).isEmpty = (ridL R).isEmpty := by rw [ridL_nil dr.st]; cases R <;> rfl
    rw [em]
    refine iteB (fun e => ?_) (fun e => ?_)
    rotate_left
    · refine hN _ _ ⟨x, _, _, _, rfl, ?_, s3⟩
      have e : (ridL R).isEmpty = true := by simpa using e
      unfold ridesW
      rw [if_pos e, List.append_nil]; exact g3
    have e : (ridL R).isEmpty = false := by simpa using e
    refine ⟨_, rfl, szl rfl, fun p1 hp1 => ?_⟩
    have t1 : Same H3 (upd H3 p1 (.lst [.str "rides"])) := same_new hp1
    refine ⟨x, p1, _, [.str "rides"], rfl, rfl, t1 _ _ g3, upd_same, ?_, fun p2 hp2 => ?_⟩
    · rw [List.length_map]; exact Nat.le_trans (show (headW z q ++ leapsW ps).length + 1 ≤ 1000 by omega) (by decide)
    have s4 := s3.trans (t1.trans (same_new hp2 (o := .lst ((headW z q ++ leapsW ps).map V.str ++ [.str "rides"]))))
    have g4 : upd (upd H3 p1 (.lst [.str "rides"])) p2 (.lst ((headW z q ++ leapsW ps).map V.str ++ [.str "rides"])) p2 = some (.lst ((headW z q ++ leapsW ps ++ [("rides" : Str)]).map V.str)) := by rw [upd_same, List.map_append (l₂ := [("rides" : Str)])]; rfl
    generalize upd (upd H3 p1 (.lst [.str "rides"])) p2 (.lst ((headW z q ++ leapsW ps).map V.str ++ [.str "rides"])) = H4 at s4 g4 ⊢
    refine ⟨szl rfl, fun p3 hp3 => ⟨p3, rfl, ⟨_, .of upd_same⟩, fun D hD => ?_⟩⟩
    have t3 : Same H4 (upd H4 p3 (.lst [.str "right", .str "left", .str "up", .str "down"])) := same_new hp3
    have f5 : upd H4 p3 (.lst [.str "right", .str "left", .str "up", .str "down"]) p3 = some (.lst (steps4.map V.str)) := upd_same
    have s5 := s4.trans t3
    have g5 := t3 _ _ g4
    generalize upd H4 p3 (.lst [.str "right", .str "left", .str "up", .str "down"]) = H5 at s5 g5 f5 hD ⊢
    refine lc_it (walk_list (K := K) (a := p3) (xs := steps4.map V.str)) (fun i H' => Same H5 H' ∧ H' D = some (.lst (((steps4.take i).filter fun z => decide (z ∈ R)).map V.str))) ⟨same_new hD, upd_same⟩ (fun i H' _ h => .of (h.1 _ _ f5)) ?_ ?_
    · rintro i y H6 H7 hi ⟨s6, hD6⟩ ⟨rfl, hy⟩
      obtain ⟨u, hu, rfl⟩ : ∃ u, steps4[i]? = some u ∧ V.str u = y := by
        rw [List.getElem?_map] at hy
        cases e : steps4[i]? with
        | none => rw [e] at hy; cases hy
        | some u => rw [e] at hy; exact ⟨u, rfl, Option.some.inj hy⟩
      refine ⟨rfl, ?_⟩
      refine ⟨_, rfl, _, rfl, b, R.map V.str, rfl, .inl (.of (s6 _ _ (s5 _ _ hb))), rfl, all_flat R, _, rfl, ?_⟩
      have e1 : (if (false : Bool) = true then !inV (V.str u) (R.map V.str) else inV (V.str u) (R.map V.str)) = decide (u ∈ R) := inV_str u R
      rw [e1]
      have f1 : ([u] : List Str).filter (fun z => decide (z ∈ R)) = if decide (u ∈ R) = true then [u] else [] := by
        by_cases h : u ∈ R <;> simp [h]
      refine iteB (fun h => ?_) (fun h => ?_)
      · refine ⟨_, rfl, _, hD6, ?_, same_own s6 hD, ?_⟩
        · rw [List.length_map]
          have h1 := List.length_filter_le (fun z => decide (z ∈ R)) (steps4.take i)
          have h2 := List.length_take_le' i steps4
          have h3 : steps4.length = 4 := rfl
          exact szs (by omega)
        · rw [upd_same, List.take_add_one, hu, List.filter_append]
          show _ = some (HO.lst ((_ ++ ([u] : List Str).filter _).map V.str))
          rw [f1, if_pos h, List.map_append]; rfl
      · refine ⟨s6, ?_⟩
        rw [hD6, List.take_add_one, hu, List.filter_append]
        show _ = some (HO.lst ((_ ++ ([u] : List Str).filter _).map V.str))
        rw [f1, h, if_neg (by decide), List.append_nil]
    rintro H6 ⟨s6, hD6⟩
    have g6 := s6 _ _ g5
    have hD6 : H6 D = some (.lst ((ridL R).map V.str)) := hD6
    refine ⟨p2, D, _, _, rfl, rfl, g6, hD6, ?_, fun p hp => ?_⟩
    · rw [List.length_map, List.length_map, List.length_append]
      have := ridL_len R
      exact Nat.le_trans (show (headW z q ++ leapsW ps).length + 1 + (ridL R).length ≤ 1000 by omega) (by decide)
    refine hN _ _ ⟨p, _, _, _, rfl, ?_, (s5.trans s6).trans (same_new hp)⟩
    rw [upd_same]
    unfold ridesW
    rw [e, if_neg (by decide), ← List.map_append, List.append_assoc]
    rfl
  rintro _ H3 ⟨x, t5, t6, t7, rfl, g3, s3⟩
  refine ⟨⟨_, rfl⟩, _, rfl, _, x, _, rfl, rfl, .inl (.of g3), ?_, ?_⟩
  · rw [List.map_append, List.sum_append, List.length_append]
    have h1 : (" " : Str).length = 1 := rfl
    rw [h1]
    have hR : ((ridesW (ridL R)).map (·.length)).sum ≤ 100 ∧ (ridesW (ridL R)).length ≤ 11 := by
      unfold ridesW
      by_cases h : (ridL R).isEmpty = true
      · rw [if_pos h]; exact ⟨Nat.zero_le _, Nat.zero_le _⟩
      · rw [if_neg h]
        have h5 : ("rides" : Str).length = 5 := rfl
        have hs := steps_sum (ridL_sub R)
        have hl := ridL_len R
        simp only [List.map_cons, List.sum_cons, List.length_cons, h5]
        omega
    omega
  · rw [← words_eq]
    exact k ps H3 perm pw s3
end
end Kd

set_option Elab.async false
set_option linter.all false
set_option maxRecDepth 100000
set_option maxHeartbeats 4000000
namespace Kd
open PySem PySem.Spec PyProof.Rows L2 Gs
/-! ### an own text is read back -/
theorem joinL_app (S : List Nat) : ∀ (A B : List (List Nat)), A ≠ [] → B ≠ [] → TL.joinL S (A ++ B) = TL.joinL S A ++ (S ++ TL.joinL S B)
  | [], _, h, _ => absurd rfl h
  | [a], b :: B, _, _ => rfl
  | [a], [], _, h => absurd rfl h
  | a :: a' :: A, B, _, hB => by
    have ih := joinL_app S (a' :: A) B (by simp) hB
    show a ++ (S ++ TL.joinL S (a' :: A ++ B)) = (a ++ (S ++ TL.joinL S (a' :: A))) ++ (S ++ TL.joinL S B)
    rw [ih]
    simp only [List.append_assoc]
theorem joinL_flat (S : List Nat) (A X B : List (List Nat)) (hX : X ≠ []) : TL.joinL S (A ++ ([TL.joinL S X] ++ B)) = TL.joinL S (A ++ (X ++ B)) := by
  have inner : TL.joinL S ([TL.joinL S X] ++ B) = TL.joinL S (X ++ B) := by
    by_cases hB : B = []
    · rw [hB, List.append_nil, List.append_nil]; rfl
    · rw [joinL_app S [_] B (by simp) hB, joinL_app S X B hX hB]; rfl
  by_cases hA : A = []
  · rw [hA]; exact inner
  · rw [joinL_app S A _ hA (by simp), joinL_app S A _ hA (by simp [hX]), inner]
def numT (i : Int) : Str := toString i
/-- the words of the leaps -/
def leapL : List (Int × Int) → List Str
  | [] => []
  | [p] => [numT p.1, numT p.2]
  | p :: q :: r => numT p.1 :: numT p.2 :: comma :: leapL (q :: r)
def leapsF (ps : List (Int × Int)) : List Str := if ps.isEmpty = true then [] else ("leaps" : Str) :: leapL ps
def flatK (z : Str) (ps : List (Int × Int)) (rs : List Str) (q : Bool) : List Str := headW z q ++ leapsF ps ++ ridesW rs
theorem leapL_ne {ps : List (Int × Int)} (h : ps ≠ []) : leapL ps ≠ [] := by
  match ps, h with
  | [p], _ => simp [leapL]
  | p :: q :: r, _ => simp [leapL]
theorem tl_pair (p : Int × Int) : TL.tl (pairT p) = TL.joinL [32] [TL.tl (numT p.1), TL.tl (numT p.2)] := by
  rw [← pairT_eq, TL.tl_append, TL.tl_append]
  show (TL.tl (numT p.1) ++ [32]) ++ TL.tl (numT p.2) = TL.tl (numT p.1) ++ ([32] ++ TL.tl (numT p.2))
  rw [List.append_assoc]
theorem tl_leaps : ∀ ps : List (Int × Int), TL.joinL [32, 44, 32] (ps.map fun p => TL.tl (pairT p)) = TL.joinL [32] ((leapL ps).map TL.tl)
  | [] => rfl
  | [p] => by
    show TL.tl (pairT p) = _
    rw [tl_pair]; rfl
  | p :: q :: r => by
    have ih := tl_leaps (q :: r)
    show TL.tl (pairT p) ++ ([32, 44, 32] ++ TL.joinL [32, 44, 32] ((q :: r).map fun p => TL.tl (pairT p))) = _
    rw [ih, tl_pair]
    have hne : (leapL (q :: r)).map TL.tl ≠ [] := fun h => leapL_ne (ps := q :: r) (by simp) (List.map_eq_nil_iff.mp h)
    have e : (leapL (p :: q :: r)).map TL.tl = [TL.tl (numT p.1), TL.tl (numT p.2), [44]] ++ (leapL (q :: r)).map TL.tl := rfl
    rw [e, joinL_app _ _ _ (by simp) hne]
    show (TL.tl (numT p.1) ++ ([32] ++ TL.tl (numT p.2))) ++ ([32, 44, 32] ++ _) = (TL.tl (numT p.1) ++ ([32] ++ (TL.tl (numT p.2) ++ ([32] ++ [44])))) ++ ([32] ++ _)
    simp only [List.append_assoc, List.cons_append, List.nil_append]
theorem text_flat (z : Str) (ps : List (Int × Int)) (rs : List Str) (q : Bool) : textK z ps rs q = Txt.join " " (flatK z ps rs q) := by
  refine TL.ext_tl ?_
  unfold textK
  rw [TL.join_eq, TL.join_eq, TL.tl_join, TL.tl_join, words_eq]
  show TL.joinL [32] _ = TL.joinL [32] _
  unfold flatK leapsW leapsF
  by_cases h : ps.isEmpty = true
  · rw [if_pos h, if_pos h]
  · rw [if_neg h, if_neg h]
    have hne : ps ≠ [] := fun z => h (by rw [z]; rfl)
    have e1 : TL.tl (leapsT ps) = TL.joinL [32] ((leapL ps).map TL.tl) := by
      unfold leapsT
      rw [TL.join_eq, TL.tl_join, List.map_map]
      exact tl_leaps ps
    have a1 : (headW z q ++ [("leaps" : Str), leapsT ps] ++ ridesW rs).map TL.tl = (headW z q ++ [("leaps" : Str)]).map TL.tl ++ ([TL.joinL [32] ((leapL ps).map TL.tl)] ++ (ridesW rs).map TL.tl) := by
      rw [← e1]
      simp only [List.map_append, List.map_cons, List.map_nil, List.append_assoc, List.cons_append, List.nil_append]
    have a2 : (headW z q ++ ("leaps" : Str) :: leapL ps ++ ridesW rs).map TL.tl = (headW z q ++ [("leaps" : Str)]).map TL.tl ++ ((leapL ps).map TL.tl ++ (ridesW rs).map TL.tl) := by
      simp only [List.map_append, List.map_cons, List.map_nil, List.append_assoc, List.cons_append, List.nil_append]
    rw [a1, a2]
    exact joinL_flat [32] _ _ _ (fun h => leapL_ne hne (List.map_eq_nil_iff.mp h))
/-- no blank, no line feed -/
def Clean (w : Str) : Prop := 32 ∉ TL.tl w ∧ 10 ∉ TL.tl w
instance (w : Str) : Decidable (Clean w) := inferInstanceAs (Decidable (_ ∧ _))
theorem clean_num {i : Int} (h : -3 ≤ i ∧ i ≤ 3) : Clean (numT i) := by
  rcases three h with rfl | rfl | rfl | rfl | rfl | rfl | rfl <;> decide +kernel
theorem int_of_num {i : Int} (h : -3 ≤ i ∧ i ≤ 3) : intOf (numT i) = some i := by
  rcases three h with rfl | rfl | rfl | rfl | rfl | rfl | rfl <;> decide +kernel
theorem clean_name {z : Str} (h : isNameS z = true) : Clean z := by
  unfold isNameS at h
  have h2 := (Bool.and_eq_true_iff.mp h).2
  have all : ∀ c ∈ TL.tl z, c ∈ letters.cps.toList := fun c hc => of_decide_eq_true (List.all_eq_true.mp h2 c hc)
  have n1 : (32 : Nat) ∉ letters.cps.toList := by decide +kernel
  have n2 : (10 : Nat) ∉ letters.cps.toList := by decide +kernel
  exact ⟨fun h => n1 (all _ h), fun h => n2 (all _ h)⟩
theorem clean_step {r : Str} (h : r ∈ steps4) : Clean r := by
  have all : ∀ r ∈ steps4, Clean r := by decide +kernel
  exact all r h
theorem clean_leapL : ∀ {ps : List (Int × Int)}, (∀ p ∈ ps, (-3 ≤ p.1 ∧ p.1 ≤ 3) ∧ (-3 ≤ p.2 ∧ p.2 ≤ 3)) → ∀ w ∈ leapL ps, Clean w
  | [], _, w, h => by cases h
  | [p], hp, w, h => by
    have hb := hp p List.mem_cons_self
    rcases List.mem_cons.mp h with rfl | h
    · exact clean_num hb.1
    · rw [List.mem_singleton.mp h]; exact clean_num hb.2
  | p :: q :: r, hp, w, h => by
    have hb := hp p List.mem_cons_self
    rcases List.mem_cons.mp h with rfl | h
    · exact clean_num hb.1
    rcases List.mem_cons.mp h with rfl | h
    · exact clean_num hb.2
    rcases List.mem_cons.mp h with rfl | h
    · decide +kernel
    · exact clean_leapL (fun x hx => hp x (List.mem_cons_of_mem _ hx)) w h
/-- what a kind is made of, in order -/
structure Good (z : Str) (ps : List (Int × Int)) (rs : List Str) (q : Bool) : Prop where
  nm : isNameS z = true
  asc : Asc ps
  sub : rs.Sublist steps4
  lord : q = true → rs = []
  some : ps ≠ [] ∨ rs ≠ []
theorem Good.bnd {z : Str} {ps : List (Int × Int)} {rs : List Str} {q : Bool} (g : Good z ps rs q) : ∀ p ∈ ps, (-3 ≤ p.1 ∧ p.1 ≤ 3) ∧ (-3 ≤ p.2 ∧ p.2 ≤ 3) := fun p hp => lpair_bd (g.asc.ok p hp)
theorem clean_flat {z : Str} {ps : List (Int × Int)} {rs : List Str} {q : Bool} (g : Good z ps rs q) : ∀ w ∈ flatK z ps rs q, Clean w := by
  intro w hw
  unfold flatK at hw
  rcases List.mem_append.mp hw with hw | hw
  · rcases List.mem_append.mp hw with hw | hw
    · unfold headW at hw
      rcases List.mem_append.mp hw with hw | hw
      · rw [List.mem_singleton.mp hw]; exact clean_name g.nm
      · cases q with
        | false => cases hw
        | true =>
          have e : w = "lord" := List.mem_singleton.mp hw
          rw [e]; decide +kernel
    · unfold leapsF at hw
      by_cases h : ps.isEmpty = true
      · rw [if_pos h] at hw; cases hw
      · rw [if_neg h] at hw
        rcases List.mem_cons.mp hw with rfl | hw
        · decide +kernel
        · exact clean_leapL g.bnd w hw
  · unfold ridesW at hw
    by_cases h : rs.isEmpty = true
    · rw [if_pos h] at hw; cases hw
    · rw [if_neg h] at hw
      rcases List.mem_cons.mp hw with rfl | hw
      · decide +kernel
      · exact clean_step (g.sub.subset hw)
theorem flat_ne (z : Str) (ps : List (Int × Int)) (rs : List Str) (q : Bool) : flatK z ps rs q ≠ [] := by
  unfold flatK headW
  simp
theorem words_text {z : Str} {ps : List (Int × Int)} {rs : List Str} {q : Bool} (g : Good z ps rs q) : wordsOf (textK z ps rs q) = flatK z ps rs q := by
  unfold wordsOf
  rw [text_flat]
  exact TL.split_join (s := 32) (S := []) rfl (by decide +kernel) (flat_ne z ps rs q) fun w hw => (clean_flat g w hw).1
theorem joinL_clean {c : Nat} (hc : c ≠ 32) : ∀ {L : List (List Nat)}, (∀ l ∈ L, c ∉ l) → c ∉ TL.joinL [32] L
  | [], _ => by simp [TL.joinL]
  | [p], h => h p List.mem_cons_self
  | p :: q :: r, h => by
    have ih := joinL_clean hc (L := q :: r) fun l hl => h l (List.mem_cons_of_mem _ hl)
    show c ∉ p ++ ([32] ++ TL.joinL [32] (q :: r))
    simp only [List.mem_append, List.mem_singleton, not_or]
    exact ⟨h p List.mem_cons_self, hc, ih⟩
theorem lines_text {z : Str} {ps : List (Int × Int)} {rs : List Str} {q : Bool} (g : Good z ps rs q) : linesOf (textK z ps rs q) = [textK z ps rs q] := by
  unfold linesOf
  have h : 10 ∉ TL.tl (textK z ps rs q) := by
    rw [text_flat, TL.join_eq, TL.tl_join]
    refine joinL_clean (by decide) fun l hl => ?_
    obtain ⟨w, hw, rfl⟩ := List.mem_map.mp hl
    exact (clean_flat g w hw).2
  have e : Txt.join "\n" [textK z ps rs q] = textK z ps rs q := by rw [TL.join_eq]; rfl
  have := TL.split_join (y := "\n") (s := 10) (S := []) rfl (by decide +kernel) (parts := [textK z ps rs q]) (by simp) fun w hw => by rw [List.mem_singleton.mp hw]; exact h
  rw [e] at this
  exact this
end Kd

set_option Elab.async false
set_option linter.all false
set_option maxRecDepth 100000
set_option maxHeartbeats 4000000
namespace Kd
open PySem PySem.Spec PyProof.Rows L2 Gs
/-! ### the words of a kind are read -/
theorem at_pre {α : Type} (A B : List α) (j : Nat) : (A ++ B)[A.length + j]? = B[j]? := by
  rw [List.getElem?_append_right (Nat.le_add_right _ _), Nat.add_sub_cancel_left]
theorem leP_lt {p q : Int × Int} (h : ltP2 p q) : leP q.1 q.2 p.1 p.2 = false := by
  unfold ltP2 at h
  unfold leP
  by_cases e : q.1 = p.1
  · rw [if_pos e]; exact decide_eq_false (by omega)
  · rw [if_neg e]; exact decide_eq_false (by omega)
theorem rdLeap_at {W : List Str} {i : Nat} {p0 p : Int × Int} (h1 : W[i]? = some (numT p.1)) (h2 : W[i + 1]? = some (numT p.2)) (ok : lpair (.int p.1) (.int p.2) = true) (lt : ltP2 p0 p) : rdLeap W i p0.1 p0.2 = .ok (p.1, p.2) := by
  obtain ⟨b1, b2⟩ := lpair_bd ok
  have l1 : lpart (.int p.1) = true := by
    have : (lpart (.int p.1) && lpart (.int p.2) && !(isZ (.int p.1) && isZ (.int p.2))) = true := ok
    rw [Bool.and_eq_true, Bool.and_eq_true] at this
    exact this.1.1
  have n0 : decide (p.1 < p0.1) = false := decide_eq_false (by unfold ltP2 at lt; omega)
  unfold rdLeap
  rw [h1, h2]
  show (match intOf (numT p.1) with
    | none => .error i
    | some a => if (lpart (.int a) && !decide (a < p0.1)) = true then
        match intOf (numT p.2) with
        | none => .error (i + 1)
        | some u => if (lpair (.int a) (.int u) && !leP a u p0.1 p0.2) = true then .ok (a, u) else .error (i + 1)
      else .error i : Except Nat (Int × Int)) = .ok (p.1, p.2)
  rw [int_of_num b1, int_of_num b2]
  dsimp only
  rw [l1, n0, ok, leP_lt lt]
  rfl
theorem num_ne {i : Int} (h : -3 ≤ i ∧ i ≤ 3) : numT i ≠ comma := by
  rcases three h with rfl | rfl | rfl | rfl | rfl | rfl | rfl <;> decide +kernel
/-- the leaps behind the first -/
theorem rdMore_at {W : List Str} : ∀ (r : List (Int × Int)) (f i : Nat) (p0 : Int × Int) (acc : List (Int × Int)), r.length < f → Asc (p0 :: r) → (∀ j w, (r.flatMap fun p => [comma, numT p.1, numT p.2])[j]? = some w → W[i + j]? = some w) →
    W[i + 3 * r.length]? ≠ some comma → rdMore W f i p0.1 p0.2 acc = .ok (acc ++ r, i + 3 * r.length)
  | [], 0, i, p0, acc, hf, _, _, _ => absurd hf (by simp)
  | [], f + 1, i, p0, acc, _, _, _, hn => by
    show (if W[i]? = some comma then _ else .ok (acc, i)) = Except.ok (acc ++ [], i + 3 * 0)
    have hn : W[i]? ≠ some comma := hn
    rw [if_neg hn, List.append_nil]
    rfl
  | p :: r, 0, i, p0, acc, hf, _, _, _ => absurd hf (by simp)
  | p :: r, f + 1, i, p0, acc, hf, ha, hw, hn => by
    have h0 : W[i]? = some comma := hw 0 _ rfl
    have h1 : W[i + 1]? = some (numT p.1) := hw 1 _ rfl
    have h2 : W[i + 1 + 1]? = some (numT p.2) := hw 2 _ rfl
    have lt : ltP2 p0 p := (List.pairwise_cons.mp ha.up).1 p List.mem_cons_self
    have ha' : Asc (p :: r) := ⟨fun x hx => ha.ok x (List.mem_cons_of_mem _ hx), (List.pairwise_cons.mp ha.up).2⟩
    have e := rdLeap_at h1 h2 (ha.ok p (List.mem_cons_of_mem _ List.mem_cons_self)) lt
    show (if W[i]? = some comma then (match rdLeap W (i + 1) p0.1 p0.2 with
      | .error x => Except.error x
      | .ok (a, u) => rdMore W f (i + 3) a u (acc ++ [(a, u)])) else Except.ok (acc, i)) = _
    rw [if_pos h0, e]
    show rdMore W f (i + 3) p.1 p.2 (acc ++ [p]) = _
    have el : i + 3 * (p :: r).length = i + 3 + 3 * r.length := by rw [List.length_cons]; omega
    rw [rdMore_at r f (i + 3) p (acc ++ [p]) (by rw [List.length_cons] at hf; omega) ha' (fun j w hj => ?_) (by rw [← el]; exact hn), el, List.append_assoc]
    · rfl
    · have := hw (j + 3) w (by
        show ([comma, numT p.1, numT p.2] ++ (r.flatMap fun p => [comma, numT p.1, numT p.2]))[j + 3]? = some w
        rw [show j + 3 = [comma, numT p.1, numT p.2].length + j by show _ = 3 + j; omega, at_pre]
        exact hj)
      rw [show i + 3 + j = i + (j + 3) by omega]
      exact this
theorem leapL_eq : ∀ (p : Int × Int) (r : List (Int × Int)), leapL (p :: r) = [numT p.1, numT p.2] ++ (r.flatMap fun p => [comma, numT p.1, numT p.2])
  | p, [] => rfl
  | p, q :: r => by
    show numT p.1 :: numT p.2 :: comma :: leapL (q :: r) = _
    rw [leapL_eq q r]
    rfl
theorem leapL_len (p : Int × Int) (r : List (Int × Int)) : (leapL (p :: r)).length = 2 + 3 * r.length := by
  rw [leapL_eq, List.length_append]
  have : ∀ r : List (Int × Int), (r.flatMap fun p => [comma, numT p.1, numT p.2]).length = 3 * r.length := by
    intro r
    induction r with
    | nil => rfl
    | cons a r ih =>
      simp only [List.flatMap_cons, List.length_append, ih, List.length_cons, List.length_nil]
      omega
  rw [this]; rfl
theorem rdLeaps_at {A B : List Str} {p : Int × Int} {r : List (Int × Int)} (ha : Asc (p :: r)) (hB : B[0]? ≠ some comma) : rdLeaps (A ++ (leapL (p :: r) ++ B)) A.length = .ok (p :: r, A.length + (leapL (p :: r)).length) := by
  have el := leapL_len p r
  have at_ : ∀ j w, (leapL (p :: r))[j]? = some w → (A ++ (leapL (p :: r) ++ B))[A.length + j]? = some w := fun j w h => by
    rw [at_pre]
    exact List.getElem?_append_left (List.getElem?_eq_some_iff.mp h).1 ▸ h
  have h1 : (A ++ (leapL (p :: r) ++ B))[A.length]? = some (numT p.1) := at_ 0 _ (by rw [leapL_eq]; rfl)
  have h2 : (A ++ (leapL (p :: r) ++ B))[A.length + 1]? = some (numT p.2) := at_ 1 _ (by rw [leapL_eq]; rfl)
  obtain ⟨b1, b2⟩ := lpair_bd (ha.ok p List.mem_cons_self)
  have lt : ltP2 (-3, -4) p := by
    unfold ltP2
    show -3 < p.1 ∨ (-3 = p.1 ∧ -4 < p.2)
    omega
  have e := rdLeap_at (p0 := (-3, -4)) h1 h2 (ha.ok p List.mem_cons_self) lt
  unfold rdLeaps
  rw [show ((-3 : Int), (-4 : Int)).1 = -3 from rfl, show ((-3 : Int), (-4 : Int)).2 = -4 from rfl] at e
  rw [e]
  show rdMore _ _ (A.length + 2) p.1 p.2 [p] = _
  have f1 : r.length < (A ++ (leapL (p :: r) ++ B)).length + 1 := by
    rw [List.length_append, List.length_append, el]; omega
  have f2 : ∀ j w, (r.flatMap fun p => [comma, numT p.1, numT p.2])[j]? = some w → (A ++ (leapL (p :: r) ++ B))[A.length + 2 + j]? = some w := fun j w hj => by
    have := at_ (2 + j) w (by rw [leapL_eq, show 2 + j = [numT p.1, numT p.2].length + j from rfl, at_pre]; exact hj)
    rw [show A.length + 2 + j = A.length + (2 + j) by omega]
    exact this
  have f3 : (A ++ (leapL (p :: r) ++ B))[A.length + 2 + 3 * r.length]? ≠ some comma := by
    rw [show A.length + 2 + 3 * r.length = A.length + ((leapL (p :: r)).length + 0) by rw [el]; omega, at_pre, at_pre]
    exact hB
  rw [rdMore_at r _ (A.length + 2) p [p] f1 ha f2 f3, el]
  show Except.ok (p :: r, A.length + 2 + 3 * r.length) = _
  rw [Nat.add_assoc]
theorem sub_drop {r : Str} : ∀ {later l : List Str}, (r :: l).Sublist later → r ∈ later ∧ l.Sublist (later.drop (later.idxOf r + 1))
  | a :: later, l, h => by
    by_cases e : a = r
    · subst e
      refine ⟨List.mem_cons_self, ?_⟩
      have h2 : l.Sublist later := by
        cases h with
        | cons _ h => exact (List.sublist_cons_self _ _).trans h
        | cons_cons _ h => exact h
      have e0 : (a :: later).idxOf a = 0 := by simp
      rw [e0]; exact h2
    · have h2 : (r :: l).Sublist later := by
        cases h with
        | cons _ h => exact h
        | cons_cons _ h => exact absurd rfl e
      obtain ⟨m, s⟩ := sub_drop h2
      refine ⟨List.mem_cons_of_mem _ m, ?_⟩
      have e1 : (a :: later).idxOf r = later.idxOf r + 1 := by
        rw [List.idxOf_cons]
        have : (a == r) = false := by simpa using e
        rw [this]; rfl
      rw [e1]
      exact s
  | [], l, h => by cases h
theorem rdRides_at {A : List Str} : ∀ (rest : List Str) (f : Nat) (B later acc : List Str), rest.Sublist later → rest.length < f → (acc ≠ [] ∨ rest ≠ []) → rdRides (B ++ rest) f B.length later acc = .ok (acc ++ rest, (B ++ rest).length)
  | [], 0, B, later, acc, _, hf, _ => absurd hf (by simp)
  | [], f + 1, B, later, acc, _, _, hne => by
    have hacc : acc ≠ [] := hne.resolve_right (fun h => h rfl)
    show (if (acc.isEmpty || decide (B.length < (B ++ []).length)) = true then _ else .ok (acc, B.length)) = Except.ok (acc ++ [], _)
    have e1 : acc.isEmpty = false := by cases acc with | nil => exact absurd rfl hacc | cons _ _ => rfl
    rw [if_neg (by rw [e1, List.append_nil]; simp), List.append_nil, List.append_nil]
  | r :: rest, 0, B, later, acc, _, hf, _ => absurd hf (by simp)
  | r :: rest, f + 1, B, later, acc, hs, hf, _ => by
    obtain ⟨m, s⟩ := sub_drop hs
    have hl : B.length < (B ++ r :: rest).length := by rw [List.length_append, List.length_cons]; omega
    have hr : (B ++ r :: rest)[B.length]? = some r := by
      have := at_pre B (r :: rest) 0
      rw [Nat.add_zero] at this
      rw [this]; rfl
    show (if (acc.isEmpty || decide (B.length < (B ++ r :: rest).length)) = true then (match (B ++ r :: rest)[B.length]? with
      | none => Except.error B.length
      | some z => if z ∈ later then rdRides (B ++ r :: rest) f (B.length + 1) (later.drop (later.idxOf z + 1)) (acc ++ [z]) else Except.error B.length) else Except.ok (acc, B.length)) = _
    rw [if_pos (by rw [decide_eq_true hl, Bool.or_true]), hr]
    show (if r ∈ later then rdRides (B ++ r :: rest) f (B.length + 1) (later.drop (later.idxOf r + 1)) (acc ++ [r]) else Except.error B.length) = _
    rw [if_pos m]
    have e : B ++ r :: rest = (B ++ [r]) ++ rest := by simp
    have el : B.length + 1 = (B ++ [r]).length := by simp
    rw [e, el, rdRides_at (A := A) rest f (B ++ [r]) _ (acc ++ [r]) s (by rw [List.length_cons] at hf; omega) (.inl (by simp))]
    simp
theorem name_ne {z w : Str} (h : isNameS z = true) (hw : inV (.str w) barred = true) : z ≠ w := by
  intro e
  subst e
  unfold isNameS at h
  rw [hw] at h
  simp at h
/-- THE READ-BACK of the words -/
theorem rdKind_flat {z : Str} {ps : List (Int × Int)} {rs : List Str} {q : Bool} (g : Good z ps rs q) : rdKind (flatK z ps rs q) 0 = .ok (z, ps, rs, q) := by
  have hR0 : (ridesW rs)[0]? ≠ some comma := by
    unfold ridesW
    by_cases h : rs.isEmpty = true
    · rw [if_pos h]; exact fun z => nomatch z
    · rw [if_neg h]
      show some ("rides" : Str) ≠ some comma
      decide +kernel
  have e0 : (flatK z ps rs q)[0]? = some z := by unfold flatK headW; rfl
  have eq : lordAt (flatK z ps rs q) 0 = q := by
    unfold lordAt
    cases q with
    | true => exact decide_eq_true rfl
    | false =>
      refine decide_eq_false fun h => ?_
      have h : (leapsF ps ++ ridesW rs)[0]? = some ("lord" : Str) := h
      unfold leapsF at h
      by_cases hp : ps.isEmpty = true
      · rw [if_pos hp] at h
        unfold ridesW at h
        by_cases hr : rs.isEmpty = true
        · rw [if_pos hr] at h; cases h
        · rw [if_neg hr] at h
          have h : some ("rides" : Str) = some "lord" := h
          exact absurd h (by decide +kernel)
      · rw [if_neg hp] at h
        have h : some ("leaps" : Str) = some "lord" := h
        exact absurd h (by decide +kernel)
  have eb : behind q 0 = (headW z q).length := by cases q <;> rfl
  have eW : flatK z ps rs q = headW z q ++ (leapsF ps ++ ridesW rs) := List.append_assoc _ _ _
  have hpart : lpPart (flatK z ps rs q) (behind q 0) = .ok (ps, (headW z q ++ leapsF ps).length) := by
    unfold lpPart
    rw [eb]
    have e1 : (flatK z ps rs q)[(headW z q).length]? = (leapsF ps ++ ridesW rs)[0]? := by
      rw [eW]; exact at_pre (headW z q) _ 0
    rw [e1]
    by_cases hp : ps.isEmpty = true
    · have hp0 : ps = [] := List.isEmpty_iff.mp hp
      subst hp0
      have hno : ¬ (leapsF [] ++ ridesW rs)[0]? = some ("leaps" : Str) := by
        show ¬ (ridesW rs)[0]? = _
        unfold ridesW
        by_cases hr : rs.isEmpty = true
        · rw [if_pos hr]; exact fun z => nomatch z
        · rw [if_neg hr]
          show ¬ some ("rides" : Str) = some "leaps"
          decide +kernel
      rw [if_neg hno]
      show Except.ok ([], (headW z q).length) = Except.ok ([], (headW z q ++ []).length)
      rw [List.append_nil]
    · obtain ⟨p, r, rfl⟩ : ∃ p r, ps = p :: r := by
        cases ps with
        | nil => exact absurd rfl hp
        | cons p r => exact ⟨p, r, rfl⟩
      have eF : leapsF (p :: r) = ("leaps" : Str) :: leapL (p :: r) := rfl
      rw [if_pos (by rw [eF]; rfl)]
      have e2 : flatK z (p :: r) rs q = (headW z q ++ [("leaps" : Str)]) ++ (leapL (p :: r) ++ ridesW rs) := by
        rw [eW, eF]; simp
      have e3 : (headW z q).length + 1 = (headW z q ++ [("leaps" : Str)]).length := by simp
      rw [e2, e3, rdLeaps_at g.asc hR0, eF]
      simp only [List.length_append, List.length_cons, List.length_nil]
      congr 2
      omega
  have hpart2 : rdPart (flatK z ps rs q) q (headW z q ++ leapsF ps).length = .ok (rs, (flatK z ps rs q).length) := by
    unfold rdPart
    have e1 : (flatK z ps rs q)[(headW z q ++ leapsF ps).length]? = (ridesW rs)[0]? := at_pre (headW z q ++ leapsF ps) _ 0
    rw [e1]
    by_cases hr : rs.isEmpty = true
    · have hr0 : rs = [] := List.isEmpty_iff.mp hr
      subst hr0
      rw [if_neg (fun z => nomatch z.2)]
      show Except.ok ([], _) = Except.ok ([], (headW z q ++ leapsF ps ++ []).length)
      rw [List.append_nil]
    · have hq : q = false := by
        cases q with
        | false => rfl
        | true => rw [g.lord rfl] at hr; exact absurd rfl hr
      have hne : rs ≠ [] := fun z => hr (by rw [z]; rfl)
      have eR : ridesW rs = ("rides" : Str) :: rs := if_neg hr
      rw [if_pos ⟨hq, by rw [eR]; rfl⟩]
      have e2 : flatK z ps rs q = (headW z q ++ leapsF ps ++ [("rides" : Str)]) ++ rs := by
        unfold flatK; rw [eR]; simp
      have e3 : (headW z q ++ leapsF ps).length + 1 = (headW z q ++ leapsF ps ++ [("rides" : Str)]).length := by
        rw [List.length_append (bs := [("rides" : Str)])]; rfl
      have hl : rs.length < 5 := by have := g.sub.length_le; have : steps4.length = 4 := rfl; omega
      rw [e2, e3, rdRides_at (A := []) rs 5 _ steps4 [] g.sub hl (.inr hne)]
      rfl
  unfold rdKind
  rw [e0]
  show (if isNameS z = true then _ else Except.error 0) = _
  rw [if_pos g.nm, eq, hpart]
  dsimp only
  rw [hpart2]
  dsimp only
  have e3 : (ps.isEmpty && rs.isEmpty) = false := by
    rcases g.some with h | h
    · cases ps with | nil => exact absurd rfl h | cons _ _ => rfl
    · cases rs with | nil => exact absurd rfl h | cons _ _ => exact Bool.and_false _
  rw [if_neg (by rw [e3]; simp)]
theorem rdText_own {z : Str} {ps : List (Int × Int)} {rs : List Str} {q : Bool} (g : Good z ps rs q) : rdText (textK z ps rs q) = .ok (z, ps, rs, q) := by
  unfold rdText
  rw [lines_text g]
  show (match rdKind (wordsOf (textK z ps rs q)) 0 with
    | .error p => Except.error (0, p)
    | .ok r => if 1 < 1 then Except.error (1, 0) else Except.ok r) = _
  rw [words_text g, rdKind_flat g]
  rfl
end Kd

set_option Elab.async false
set_option linter.all false
set_option maxRecDepth 100000
set_option maxHeartbeats 4000000
namespace Kd
open PySem PySem.Spec PyProof.Rows L2 Gs
/-! ### what stays while lists change -/
def ExtT (H H' : Hp) : Prop := ∀ b o, H b = some o → (∀ xs, o ≠ .lst xs) → H' b = some o
theorem ExtT.refl {H : Hp} : ExtT H H := fun _ _ h _ => h
theorem ExtT.trans {H H1 H2 : Hp} (a : ExtT H H1) (b : ExtT H1 H2) : ExtT H H2 := fun x o h n => b x o (a x o h n) n
theorem ExtT.of {H H' : Hp} (s : Same H H') : ExtT H H' := fun b o h _ => s b o h
theorem ExtT.bag {c l : Addr} {n : Nat} {H H' : Hp} (b : Bag c l n H) (e : Gs.Ext c H H') : ExtT H H' := fun x o h nl => e x o (fun z => by
  obtain ⟨ns, pt, rest, h1, _⟩ := b
  rw [z, h1] at h
  exact nl _ (Option.some.inj h).symm) h
theorem ExtT.put {a : Addr} {H : Hp} {xs : List V} {o : HO} (h : H a = some (.lst xs)) : ExtT H (upd H a o) := fun b u e nl => by
  rw [upd_ne (fun z => by rw [z, h] at e; exact nl _ (Option.some.inj e).symm)]; exact e
section
variable {K : PySem.W.Frag} {C : Addr} {H H' : Hp}
theorem ExtT.sqT {a : Addr} {xs : List V} (e : ExtT H H') (h : SqT K H a xs) : SqT K H' a xs := by
  rcases h with (h | ⟨o, h⟩) | h
  · exact .inl (.inl (e _ _ h fun _ z => nomatch z))
  · exact .inl (.inr ⟨o, e _ _ h fun _ z => nomatch z⟩)
  · exact .inr h
theorem KindAt.t {k : Addr} {z : Str} {ps : List (Int × Int)} {rs : List Str} {q : Bool} (h : KindAt K C H k z ps rs q) (e : ExtT H H') : KindAt K C H' k z ps rs q := by
  obtain ⟨dx, tl, tr, ls, h1, h2, h3, h4, h5⟩ := h
  exact ⟨dx, tl, tr, ls, e _ _ h1 (fun _ z => nomatch z), e.sqT h2, fun p hp => e.sqT (h3 p hp), h4, e.sqT h5⟩
end
/-! ### Kind(..) of good things -/
theorem DrOk.good {z : Str} {qs ps : List (Int × Int)} {R : List Str} {q : Bool} (d : DrOk qs R q) (nm : isNameS z = true) (perm : ps.Perm qs) (pw : ps.Pairwise (fun x y => SrtO.lexB y x = false)) : Good z ps (ridL R) q where
  nm := nm
  asc := ⟨fun p hp => d.ok p (perm.mem_iff.mp hp), by
    have nd : ps.Nodup := perm.nodup_iff.mpr d.nd
    refine (pw.and nd).imp fun {x y} h => ?_
    obtain ⟨h1, h2⟩ := h
    have h3 : ¬ (y.1 < x.1 ∨ (y.1 = x.1 ∧ y.2 < x.2)) := fun z => by rw [SrtO.lexB_iff.mpr z] at h1; cases h1
    have h4 : ¬ (x.1 = y.1 ∧ x.2 = y.2) := fun z => h2 (Prod.ext z.1 z.2)
    unfold ltP2
    omega⟩
  sub := List.filter_sublist
  lord := fun h => by rw [d.lord h]; rfl
  some := by
    rcases d.some with h | h
    · exact .inl fun e => h (by rw [e] at perm; exact perm.symm.eq_nil)
    · refine .inr fun e => ?_
      have := ridL_nil d.st
      rw [e] at this
      cases R with
      | nil => exact h rfl
      | cons _ _ => cases this
theorem srt_uniq {qs ps ps' : List (Int × Int)} (nd : qs.Nodup) (p1 : ps.Perm qs) (w1 : ps.Pairwise (fun x y => SrtO.lexB y x = false)) (p2 : ps'.Perm qs) (w2 : ps'.Pairwise (fun x y => SrtO.lexB y x = false)) : ps = ps' := by
  refine sorted_uniq (p1.trans p2.symm) w1 ?_
  have nd' : ps'.Nodup := p2.nodup_iff.mpr nd
  refine (w2.and nd').imp fun {x y} h => ?_
  obtain ⟨h1, h2⟩ := h
  have h3 : ¬ (y.1 < x.1 ∨ (y.1 = x.1 ∧ y.2 < x.2)) := fun z => by rw [SrtO.lexB_iff.mpr z] at h1; cases h1
  have h4 : ¬ (x.1 = y.1 ∧ x.2 = y.2) := fun z => h2 (Prod.ext z.1 z.2)
  unfold ltP2
  omega
/-- lists or tuples of leaps that bear pr -/
structure Leaps (dl : PyData) (pr : List (Int × Int)) : Prop where
  ok : areLeaps dl = true
  pr : (seqOf dl).map pairOf = pr
  few : few dl
structure Rides (dr : PyData) (R : List Str) : Prop where
  ok : areRides dr = true
  rs : (seqOf dr).map rkey = R
  few : few dr
theorem leaps_of {ds : List PyData} {pr : List (Int × Int)} (hk : ds.map lkey = pr.map fun p => [p.1, p.2]) (nd : pr.Nodup) (ok : ∀ p ∈ pr, lpair (.int p.1) (.int p.2) = true) (hd : ∀ d ∈ ds, ∃ a u : Int, d = .list [.int a, .int u] ∨ d = .tuple [.int a, .int u]) (hf : pr.length ≤ 62) : Leaps (.list ds) pr ∧ Leaps (.tuple ds) pr := by
  have hlen : ds.length = pr.length := by have := congrArg List.length hk; simpa using this
  have h1 : ds.all isLeap = true := by
    refine List.all_eq_true.mpr fun d hdm => ?_
    obtain ⟨a, u, e⟩ := hd d hdm
    have hm : lkey d ∈ pr.map fun p => [p.1, p.2] := by rw [← hk]; exact List.mem_map_of_mem hdm
    obtain ⟨p, hp, ep⟩ := List.mem_map.mp hm
    have hok := ok p hp
    rcases e with rfl | rfl
    · have ep : [p.1, p.2] = [a, u] := ep
      injection ep with e1 e2
      injection e2 with e2
      rw [e1, e2] at hok
      exact hok
    · have ep : [p.1, p.2] = [a, u] := ep
      injection ep with e1 e2
      injection e2 with e2
      rw [e1, e2] at hok
      exact hok
  have h2 : (ds.map lkey).Nodup := by
    rw [hk]
    refine List.Pairwise.map _ (fun a b hab z => hab ?_) nd
    have e1 := (List.cons.inj z).1
    have e2 := (List.cons.inj (List.cons.inj z).2).1
    exact Prod.ext e1 e2
  have h3 : leapsOk ds = true := by
    unfold leapsOk
    rw [h1, decide_eq_true h2]; rfl
  have h4 : ds.map pairOf = pr := by
    have e : pairOf = (fun l : List Int => match l with | [a, b] => (a, b) | _ => (0, 0)) ∘ lkey := by funext d; rfl
    rw [e, ← List.map_map, hk, List.map_map]
    exact (List.map_congr_left fun p _ => rfl).trans (List.map_id _)
  have hf2 : ds.length ≤ 62 := by omega
  exact ⟨⟨h3, h4, hf2⟩, ⟨h3, h4, hf2⟩⟩
theorem leaps_pairs {pr : List (Int × Int)} (nd : pr.Nodup) (ok : ∀ p ∈ pr, lpair (.int p.1) (.int p.2) = true) (hf : pr.length ≤ 62) : Leaps (.list (pr.map pairD)) pr ∧ Leaps (.tuple (pr.map pairD)) pr :=
  leaps_of (by rw [List.map_map]; rfl) nd ok (fun d hd => by
    obtain ⟨p, _, rfl⟩ := List.mem_map.mp hd
    exact ⟨p.1, p.2, .inr rfl⟩) hf
theorem rides_of {R : List Str} (nd : R.Nodup) (st : ∀ r ∈ R, r ∈ steps4) : Rides (.list (R.map PyData.str)) R ∧ Rides (.tuple (R.map PyData.str)) R := by
  have e : (R.map PyData.str).map rkey = R := by
    rw [List.map_map]
    exact (List.map_congr_left fun r _ => rfl).trans (List.map_id _)
  have h : ridesOk (R.map PyData.str) = true := by
    unfold ridesOk
    rw [e, decide_eq_true nd, Bool.and_true, List.all_map]
    exact List.all_eq_true.mpr fun r hr => decide_eq_true (st r hr)
  have hl : (R.map PyData.str).length ≤ 62 := by
    rw [List.length_map]
    have := nodup_le R steps4 nd st
    have h4 : steps4.length = 4 := rfl
    omega
  exact ⟨⟨h, e, hl⟩, ⟨h, e, hl⟩⟩
section
variable {K : PySem.W.Frag}
theorem sp_ok {C DB DM c x dx : Addr} {H0 : Hp} {Q : VK} {E : XK} {z : Str} {vl vr : V} {dl dr : PyData} {pr : List (Int × Int)} {R : List Str} {q : Bool} (hx : H0 x = none) (hdx : H0 dx = none) (hxc : x ≠ c) (hdc : dx ≠ c) (nm : isNameS z = true)
    (hl : DV K c H0 vl dl) (hr : DV K c H0 vr dr) (L : Leaps dl pr) (Rd : Rides dr R) (hq : q = true → R = []) (hne : pr ≠ [] ∨ R ≠ [])
    (k : ∀ ps H', Same H0 H' → KindAt K C H' x z ps (ridL R) q → ps.Perm pr → ps.Pairwise (fun x y => SrtO.lexB y x = false) → Q .non H') :
    spKind K C DB DM [.ref x, .str z, vl, vr, .bl q] (upd (upd H0 dx (.own x)) x (.ins C dx [])) Q E := by
  have old : Same H0 (upd (upd H0 dx (.own x)) x (.ins C dx [])) := fun y o h => by
    rw [upd_ne (ne_of_none h hx), upd_ne (ne_of_none h hdx)]; exact h
  have kb : kindBad (.str z) dl dr (.bool q) = none := by
    have e1 : isNm (.str z) = true := nm
    unfold kindBad
    rw [if_neg (by rw [e1]; decide), if_neg (by rw [L.ok]; decide), if_neg (by rw [Rd.ok]; decide), if_neg (fun z : isBl (.bool q) = false => by cases z), if_neg, if_neg]
    · intro h
      obtain ⟨h1, h2⟩ := Bool.and_eq_true_iff.mp h
      have g1 : seqOf dl = [] := List.isEmpty_iff.mp h1
      have g2 : seqOf dr = [] := List.isEmpty_iff.mp h2
      rcases hne with h | h
      · exact h (by rw [← L.pr, g1]; rfl)
      · exact h (by rw [← Rd.rs, g2]; rfl)
    · intro h
      obtain ⟨h1, h2⟩ := Bool.and_eq_true_iff.mp h
      have h1 : q = true := h1
      have e := Rd.rs
      rw [hq h1] at e
      have : seqOf dr = [] := List.map_eq_nil_iff.mp e
      rw [this] at h2
      cases h2
  refine ⟨x, dx, c, .str z, vl, vr, .bl q, .str z, dl, dr, .bool q, rfl, upd_same, .str z, hl.up (Ext.of old), hr.up (Ext.of old), .bl q, fun y e => ?_, L.few, Rd.few, fun m p e => (by rw [kb] at e; cases e),
    fun _ tl tr ls2 H5 e5 h5 htl hls2 perm pw htr => ?_⟩
  · cases e
    have h := nm
    unfold isNameS at h
    rw [Bool.and_eq_true, Bool.and_eq_true, Bool.and_eq_true] at h
    have := of_decide_eq_true h.1.1.2
    omega
  have e : ridesOf dr = ridL R := by unfold ridesOf ridL; rw [Rd.rs]
  rw [e] at htr
  rw [L.pr] at perm
  refine k (ls2.map (·.2)) H5 (fun y o h => e5 y o (ne_of_none h hx) (old y o h)) ⟨dx, tl, tr, ls2, h5, htl, hls2, rfl, htr⟩ perm (List.pairwise_map.mpr pw)
end
/-! ### the ways in which Kind is called -/
section
variable {K : PySem.W.Frag} {mg : Str → Option Value} {w : World}
def four {α : Type} (x _d k : List α) : List α := x ++ ((k.drop 3).take 1 ++ ((k.drop 2).take 1 ++ ((k.drop 1).take 1 ++ k.take 1)))
theorem kb_Kind (T : Tx K mg w) : ∃ its : List Value, KBn K T.d_Kind___init__ ["self", "name", "leaps", "rides", "is_lord"] 1 ["is_lord", "rides", "leaps", "name"] (fun us ws => four us its ws) (fun vs zs => four vs [.ref T.t_E, .bl false] zs) :=
  FunD.kbindsD T.F_Kind___init__ 1 ["is_lord", "rides", "leaps", "name"] four (by simp) (fun r1 _ r3 => r1.append (((r3.drop 3).take 1).append (((r3.drop 2).take 1).append (((r3.drop 1).take 1).append (r3.take 1))))) fun T kV doc pm an cdv ct us its ws l1 l2 l3 => by
    match us, its, ws, l1, l2, l3 with
    | [x], [d1, d2], [q, r, l, n], _, _, _ => exact ⟨_, rfl, rfl⟩
/-- all four given -/
theorem b4_Kind (T : Tx K mg w) : ∃ ds : List Value, Vals (([.ref T.t_E, .bl false] : List V).drop 2) ds ∧ Binds K T.d_Kind___init__ ["self", "name", "leaps", "rides", "is_lord"] ds :=
  FunD.binds1 T.F_Kind___init__ 5 2 (by simp) rfl fun T kV doc pm an cdv ct us its l1 l2 => by
    match us, its, l1, l2 with
    | [x, n, l, r, q], [d1, d2], _, _ => exact ⟨_, rfl, rfl⟩
/-- name and leaps given -/
theorem b2_Kind (T : Tx K mg w) : ∃ ds : List Value, Vals (([.ref T.t_E, .bl false] : List V).drop 0) ds ∧ Binds K T.d_Kind___init__ ["self", "name", "leaps", "rides", "is_lord"] ds :=
  FunD.binds1 T.F_Kind___init__ 3 0 (by simp) rfl fun T kV doc pm an cdv ct us its l1 l2 => by
    match us, its, l1, l2 with
    | [x, n, l], [d1, d2], _, _ => exact ⟨_, rfl, rfl⟩
end
end Kd

set_option Elab.async false
set_option linter.all false
set_option maxRecDepth 100000
set_option maxHeartbeats 4000000
namespace Kd
open PySem PySem.Spec PyProof.Rows L2 Gs
/-! ### what is read is written again alike -/
theorem val_from : ∀ (l : List Nat) (a : Nat), a ≤ l.foldl (fun acc c => acc * 10 + (c - 48)) a
  | [], a => Nat.le_refl a
  | c :: r, a => by
    have := val_from r (a * 10 + (c - 48))
    show a ≤ r.foldl _ (a * 10 + (c - 48))
    omega
theorem val_ten {c d : Nat} {r : List Nat} (h : 49 ≤ c) : 10 ≤ NumText.digitsVal (c :: d :: r) := by
  have := val_from r ((0 * 10 + (c - 48)) * 10 + (d - 48))
  show 10 ≤ r.foldl _ ((0 * 10 + (c - 48)) * 10 + (d - 48))
  omega
theorem str_of {x : Str} {l : List Nat} {y : Str} (h : x.cps.toList = l) (e : y.cps.toList = l) : x = y := TL.ext_tl (h.trans e.symm)
theorem num_canon {x : Str} {i : Int} (h : intOf x = some i) (b : -3 ≤ i ∧ i ≤ 3) : x = numT i := by
  unfold intOf at h
  by_cases ok : okNum x.cps.toList = true
  · rw [if_pos ok] at h
    unfold okNum at ok
    rw [Bool.and_eq_true, Bool.and_eq_true, Bool.and_eq_true] at ok
    obtain ⟨⟨⟨h1, h2⟩, h3⟩, h4⟩ := ok
    have h1 := of_decide_eq_true h1
    have h2 := of_decide_eq_true h2
    have all : NumText.AllDigits (digs x.cps.toList) := fun c hc => dig_mem (of_decide_eq_true (List.all_eq_true.mp h3 c hc))
    have hl : x.cps.toList.length = x.length := Array.length_toList
    by_cases e : x.cps.toList.head? = some 45
    · cases hx : x.cps.toList with
      | nil => rw [hx] at e; cases e
      | cons a l =>
        rw [hx] at e
        cases e
        have ed : digs x.cps.toList = l := by rw [hx]; rfl
        rw [ed] at all h1 h2 h4
        rw [hx] at h4
        rw [intText_neg hx all (fun z => by rw [z] at h1; simp at h1) (by rw [← hl, hx, List.length_cons]; omega)] at h
        have hi := Option.some.inj h
        match l, h1, h4, all, hi, hx with
        | [c], _, h4, all, hi, hx =>
          have hc := all c List.mem_cons_self
          have hv : NumText.digitsVal [c] = c - 48 := by show 0 * 10 + (c - 48) = _; omega
          have h48 : c ≠ 48 := fun z => by rw [z] at h4; exact absurd h4 (by decide)
          have : c = 49 ∨ c = 50 ∨ c = 51 := by rw [hv] at hi; omega
          rcases this with rfl | rfl | rfl
          · rw [← hi]; exact str_of hx (by decide +kernel)
          · rw [← hi]; exact str_of hx (by decide +kernel)
          · rw [← hi]; exact str_of hx (by decide +kernel)
        | c :: d :: r, _, h4, all, hi, _ =>
          have hc := all c List.mem_cons_self
          have h48 : c ≠ 48 := fun z => by
            rw [z] at h4
            simp at h4
          have := val_ten (c := c) (d := d) (r := r) (by omega)
          omega
    · have ed : digs x.cps.toList = x.cps.toList := if_neg e
      rw [ed] at all h1 h2 h4
      rw [intText_digits all (fun z => by rw [z] at h1; simp at h1) (by omega)] at h
      have hi := Option.some.inj h
      match hx : x.cps.toList, h1, h4, all, hi with
      | [c], _, h4, all, hi =>
        have hc := all c List.mem_cons_self
        have hv : NumText.digitsVal [c] = c - 48 := by show 0 * 10 + (c - 48) = _; omega
        have : c = 48 ∨ c = 49 ∨ c = 50 ∨ c = 51 := by rw [hv] at hi; omega
        rcases this with rfl | rfl | rfl | rfl
        · rw [← hi]; exact str_of hx (by decide +kernel)
        · rw [← hi]; exact str_of hx (by decide +kernel)
        · rw [← hi]; exact str_of hx (by decide +kernel)
        · rw [← hi]; exact str_of hx (by decide +kernel)
      | c :: d :: r, _, h4, all, hi =>
        have hc := all c List.mem_cons_self
        have h48 : c ≠ 48 := fun z => by
          rw [z] at h4
          simp at h4
        have := val_ten (c := c) (d := d) (r := r) (by omega)
        omega
  · rw [if_neg ok] at h; cases h
theorem drop_at {ws : List Str} {i : Nat} {x : Str} (h : ws[i]? = some x) : ws.drop i = x :: ws.drop (i + 1) := by
  obtain ⟨hi, e⟩ := List.getElem?_eq_some_iff.mp h
  rw [List.drop_eq_getElem_cons hi, e]
theorem rdLeap_words {ws : List Str} {i : Nat} {a0 u0 a u : Int} (h : rdLeap ws i a0 u0 = .ok (a, u)) : ws.drop i = numT a :: numT u :: ws.drop (i + 2) := by
  have g := (rdLeap_good h).1
  obtain ⟨ba, bu⟩ := lpair_bd g
  unfold rdLeap at h
  cases h1 : ws[i]?.bind intOf with
  | none => rw [h1] at h; cases h
  | some b =>
    rw [h1] at h
    have h : (if (lpart (.int b) && !decide (b < a0)) = true then (match ws[i + 1]?.bind intOf with
      | none => .error (i + 1)
      | some u => if (lpair (.int b) (.int u) && !leP b u a0 u0) = true then .ok (b, u) else .error (i + 1)) else .error i) = Except.ok (a, u) := h
    split at h
    · cases h2 : ws[i + 1]?.bind intOf with
      | none => rw [h2] at h; cases h
      | some v =>
        rw [h2] at h
        have h : (if (lpair (.int b) (.int v) && !leP b v a0 u0) = true then .ok (b, v) else .error (i + 1)) = Except.ok (a, u) := h
        split at h
        · cases h
          obtain ⟨x, hx, ex⟩ := Option.bind_eq_some_iff.mp h1
          obtain ⟨y, hy, ey⟩ := Option.bind_eq_some_iff.mp h2
          rw [num_canon ex ba] at hx
          rw [num_canon ey bu] at hy
          rw [drop_at hx, drop_at hy]
        · cases h
    · cases h
def moreL (ps : List (Int × Int)) : List Str := ps.flatMap fun p => [comma, numT p.1, numT p.2]
theorem leapL_more : ∀ (p : Int × Int) (r : List (Int × Int)), leapL (p :: r) = numT p.1 :: numT p.2 :: moreL r
  | p, [] => rfl
  | p, q :: r => by
    show numT p.1 :: numT p.2 :: comma :: leapL (q :: r) = _
    rw [leapL_more q r]; rfl
theorem rdMore_words {ws : List Str} : ∀ {f i : Nat} {a0 u0 : Int} {acc ps : List (Int × Int)} {j : Nat}, rdMore ws f i a0 u0 acc = .ok (ps, j) → ∃ new, ps = acc ++ new ∧ ws.drop i = moreL new ++ ws.drop j
  | 0, i, a0, u0, acc, ps, j, h => by
    cases h; exact ⟨[], by simp, rfl⟩
  | f + 1, i, a0, u0, acc, ps, j, h => by
    have h : (if ws[i]? = some comma then (match rdLeap ws (i + 1) a0 u0 with
      | .error p => .error p
      | .ok (a, u) => rdMore ws f (i + 3) a u (acc ++ [(a, u)])) else .ok (acc, i)) = Except.ok (ps, j) := h
    by_cases e : ws[i]? = some comma
    · rw [if_pos e] at h
      cases hr : rdLeap ws (i + 1) a0 u0 with
      | error p => rw [hr] at h; cases h
      | ok r =>
        obtain ⟨a, u⟩ := r
        rw [hr] at h
        obtain ⟨new, e1, e2⟩ := rdMore_words (acc := acc ++ [(a, u)]) h
        refine ⟨(a, u) :: new, by rw [e1, List.append_assoc]; rfl, ?_⟩
        rw [drop_at e, rdLeap_words hr, show i + 1 + 2 = i + 3 from rfl, e2]
        rfl
    · rw [if_neg e] at h
      cases h; exact ⟨[], by simp, rfl⟩
theorem rdLeaps_words {ws : List Str} {i : Nat} {ps : List (Int × Int)} {j : Nat} (h : rdLeaps ws i = .ok (ps, j)) : ws.drop i = leapL ps ++ ws.drop j := by
  unfold rdLeaps at h
  cases hr : rdLeap ws i (-3) (-4) with
  | error p => rw [hr] at h; cases h
  | ok r =>
    obtain ⟨a, u⟩ := r
    rw [hr] at h
    obtain ⟨new, rfl, e2⟩ := rdMore_words (acc := [(a, u)]) h
    rw [rdLeap_words hr, e2]
    show _ = leapL ((a, u) :: new) ++ _
    rw [leapL_more]; rfl
theorem rdRides_words {ws : List Str} : ∀ {f i : Nat} {later acc rs : List Str} {j : Nat}, rdRides ws f i later acc = .ok (rs, j) → ∃ new, rs = acc ++ new ∧ ws.drop i = new ++ ws.drop j
  | 0, i, later, acc, rs, j, h => by
    cases h; exact ⟨[], by simp, rfl⟩
  | f + 1, i, later, acc, rs, j, h => by
    have h : (if (acc.isEmpty || decide (i < ws.length)) = true then (match ws[i]? with
      | none => .error i
      | some z => if z ∈ later then rdRides ws f (i + 1) (later.drop (later.idxOf z + 1)) (acc ++ [z]) else .error i) else .ok (acc, i)) = Except.ok (rs, j) := h
    split at h
    · cases hz : ws[i]? with
      | none => rw [hz] at h; cases h
      | some z =>
        rw [hz] at h
        have h : (if z ∈ later then rdRides ws f (i + 1) (later.drop (later.idxOf z + 1)) (acc ++ [z]) else .error i) = Except.ok (rs, j) := h
        split at h
        · obtain ⟨new, e1, e2⟩ := rdRides_words h
          refine ⟨z :: new, by rw [e1, List.append_assoc]; rfl, ?_⟩
          rw [drop_at hz, e2]; rfl
        · cases h
    · cases h; exact ⟨[], by simp, rfl⟩
theorem rdKind_words {ws : List Str} {z : Str} {ps : List (Int × Int)} {rs : List Str} {q : Bool} (h : rdKind ws 0 = .ok (z, ps, rs, q)) : ws = flatK z ps rs q := by
  unfold rdKind at h
  cases h0 : ws[0]? with
  | none => rw [h0] at h; cases h
  | some y =>
    rw [h0] at h
    have h : (if isNameS y = true then (match lpPart ws (behind (lordAt ws 0) 0) with
      | .error p => .error p
      | .ok (ps, i2) => match rdPart ws (lordAt ws 0) i2 with
        | .error p => .error p
        | .ok (rs, i3) => if (decide (i3 < ws.length) || (ps.isEmpty && rs.isEmpty)) = true then .error i3 else .ok (y, ps, rs, lordAt ws 0)) else .error 0) = Except.ok (z, ps, rs, q) := h
    split at h
    · cases hl : lpPart ws (behind (lordAt ws 0) 0) with
      | error p => rw [hl] at h; cases h
      | ok r1 =>
        obtain ⟨ps1, i2⟩ := r1
        rw [hl] at h
        dsimp only at h
        cases hr : rdPart ws (lordAt ws 0) i2 with
        | error p => rw [hr] at h; cases h
        | ok r2 =>
          obtain ⟨rs1, i3⟩ := r2
          rw [hr] at h
          dsimp only at h
          split at h
          · cases h
          · rename_i hn
            cases h
            have h3 : ¬ i3 < ws.length := fun z => hn (by rw [decide_eq_true z]; rfl)
            have e0 : ws = ws.drop 0 := rfl
            have eH : ws = headW z (lordAt ws 0) ++ ws.drop (behind (lordAt ws 0) 0) := by
              unfold headW
              cases hq : lordAt ws 0 with
              | false =>
                show ws = [z] ++ [] ++ ws.drop 1
                rw [e0, drop_at h0]; rfl
              | true =>
                have h1 : ws[1]? = some ("lord" : Str) := of_decide_eq_true hq
                show ws = [z] ++ [("lord" : Str)] ++ ws.drop 2
                rw [e0, drop_at h0, drop_at h1]; rfl
            have eL : ws.drop (behind (lordAt ws 0) 0) = leapsF ps ++ ws.drop i2 := by
              unfold lpPart at hl
              unfold leapsF
              split at hl
              · rename_i hk
                have g := (rdLeaps_good hl).2
                rw [if_neg (by simpa using g), drop_at hk, rdLeaps_words hl]; rfl
              · cases hl; rfl
            have eR : ws.drop i2 = ridesW rs ++ ws.drop i3 := by
              unfold rdPart at hr
              unfold ridesW
              split at hr
              · rename_i hk
                obtain ⟨new, e1, e2⟩ := rdRides_words hr
                have g := (rdRides_good hr (show steps4.length < 5 by decide) (List.Sublist.refl _)).2
                rw [List.nil_append] at e1
                subst e1
                rw [if_neg (by simpa using g), drop_at hk.2, e2]; rfl
              · cases hr; rfl
            unfold flatK
            rw [List.append_assoc]
            conv => lhs; rw [eH, eL, eR, List.drop_of_length_le (Nat.not_lt.mp h3), List.append_nil]
    · cases h
theorem join_words (x : Str) : Txt.join " " (wordsOf x) = x := by
  rw [TL.join_eq]; exact StrLaws.join_split x " "
theorem one_line {x : Str} (h : ¬ 1 < (linesOf x).length) : (linesOf x).headD "" = x := by
  obtain ⟨y, r, e⟩ := lines_pos x
  have hj : Str.join "\n" (linesOf x) = x := StrLaws.join_split x "\n"
  rw [e] at h hj ⊢
  cases r with
  | nil => rw [← hj, ← TL.join_eq]; rfl
  | cons a b => simp at h
theorem text_again {x : Str} {z : Str} {ps : List (Int × Int)} {rs : List Str} {q : Bool} (h : rdText x = .ok (z, ps, rs, q)) : textK z ps rs q = x := by
  unfold rdText at h
  cases hk : rdKind (wordsOf ((linesOf x).headD "")) 0 with
  | error p => rw [hk] at h; cases h
  | ok r =>
    rw [hk] at h
    dsimp only at h
    split at h
    · cases h
    · rename_i hn
      cases h
      rw [one_line hn] at hk
      rw [text_flat, ← rdKind_words hk, join_words]
end Kd

set_option Elab.async false
set_option linter.all false
set_option maxRecDepth 100000
set_option maxHeartbeats 4000000
namespace Kd
open PySem PySem.Spec PyProof.Rows L2 Gs
section
variable {P : Program} {w : World} {K : PySem.W.Frag} {mg : Str → Option Value} {base : Heap}
theorem slice1t (x : Str) : Txt.slice x none (some 1) = SX.S (x.cps.toList.take 1) := by
  have := SX.slice_to (a := x.cps.toList) (i := 1) (by decide)
  rwa [SX.S_tl] at this
theorem dash (x : Str) : decide (V.str (Txt.slice x none (some 1)) = V.str "-") = decide (x.cps.toList.head? = some 45) := by
  rw [slice1t]
  cases hx : x.cps.toList with
  | nil => decide +kernel
  | cons a l =>
    show decide (V.str (SX.S [a]) = V.str "-") = decide (some a = some 45)
    rw [Bool.eq_iff_iff, decide_eq_true_eq, decide_eq_true_eq]
    constructor
    · intro h
      have h2 := V.str.inj h
      have : [a] = [45] := SX.S_inj (h2.trans (show ("-" : Str) = SX.S [45] from by decide +kernel))
      rw [List.cons.inj this |>.1]
    · intro h
      cases h
      decide +kernel
theorem shT {R : List Str} (hR : ∀ r ∈ R, PyData.strOk r = true) : SeqAt.shaped (.list (R.map PyData.str)) = true := by
  unfold SeqAt.shaped
  have e : PyData.canLay0 (.list (R.map PyData.str)) = true := by
    simp only [PyData.canLay0]; rw [canLayAll_strs']; exact List.all_eq_true.mpr hR
  rw [e, Bool.true_and, decide_eq_true_eq]
  have d : ∀ l : List Str, PyData.depthAll (l.map PyData.str) ≤ 2 := fun l => by
    induction l with
    | nil => exact Nat.zero_le _
    | cons a l ih => simp only [List.map_cons, PyData.depthAll, PyData.depth]; omega
  simp only [PyData.depth]
  have := d R
  omega
/-- the text's signs are signs -/
def SOk (x : Str) : Prop := PyData.strOk x = true
theorem SOk.one {x : Str} (h : SOk x) {c : Nat} (hc : c ∈ x.cps.toList) : PyData.strOk ⟨#[c]⟩ = true := by
  unfold SOk PyData.strOk at h
  have h2 : c < 1114112 := of_decide_eq_true (by
    rw [← Array.all_toList] at h
    exact List.all_eq_true.mp h c hc)
  show (#[c] : Array Nat).all (fun x => decide (x < 1114112)) = true
  simp [h2]
def spNum : Sp := fun vs H Q _ => ∃ x : Str, vs = [.str x] ∧ x.length ≤ 1000000 ∧ SOk x ∧ ∀ H', Same H H' → Q (oI (intOf x)) H'
def bad10 (c : Nat) : Bool := !decide (c ∈ ("0123456789" : Str).cps.toList)
theorem bad10_eq (c : Nat) : bad10 c = !decide (c ∈ digits10) := rfl
theorem filt_none {l : List Nat} {p : Nat → Bool} : (l.filter p).isEmpty = !l.any p := by
  induction l with
  | nil => rfl
  | cons a l ih =>
    rw [List.filter_cons, List.any_cons]
    cases h : p a with
    | true => rfl
    | false => simpa using ih
theorem O__law_number (T : Tx K mg w) : FnOk P w K mg base CX0 1 T.a__law_number T.d__law_number ["item"] spNum := by
  refine T.F__law_number.ok sc__law_number (fun vs H Q E h => ?_) (fun cdv A outer s H vs Q E hr h => ?_)
  · obtain ⟨x, rfl, _⟩ := h; rfl
  obtain ⟨x, rfl, hx, ox, k⟩ := h
  have ex : x = SX.S x.cps.toList := (SX.S_tl x).symm
  have hlen : x.cps.toList.length = x.length := Array.length_toList
  have hn : okNum x.cps.toList = false → ∀ H', Same H H' → Q .non H' := fun e H' s => by
    have := k H' s
    unfold intOf at this
    rw [if_neg (by rw [e]; exact Bool.false_ne_true)] at this
    exact this
  have hdl : (digs x.cps.toList).length ≤ 1000000 ∧ x.length ≤ (digs x.cps.toList).length + 1 := by
    unfold digs
    split
    · rw [List.length_drop]; omega
    · omega
  have hdm : ∀ c ∈ digs x.cps.toList, c ∈ x.cps.toList := fun c hc => by
    unfold digs at hc
    split at hc
    · exact List.mem_of_mem_drop hc
    · exact hc
  refine ⟨_, (pss_cons (ps_set (i := 1) sc__law_number.nd rfl (Or.inl rfl) (pe_ifExp (pt_cmpR op_eq (pe_slice C8.sl_txt (pv 0) po_none (po_some pe_int)) pe_str (nomark _)) (pe_slice C8.sl_txt (pv 0) (po_some pe_int) po_none) (pv 0)))
      (pss_cons (ps_if (PW.pt (pw_or (pt_cmpR op_eq (pv 1) pe_str (nomark _)) (pw_or (pt_cmpR op_gt (pe_callB call_len_str (by rfl) T.z_len (by decide +kernel) (pa_cons (pv 1) pa_nil)) pe_int (nomark _)) (pw_or (pt_cmpR (op_neD hr.units) (pe_lc (own := [("sign", 2)]) (g := (gName 2)) rfl sc__law_number.nd (pi_str (pv 1)) (blkOk_by (N := n__law_number) (sc := defScope s__law_number) (by decide +kernel)) (fun _ _ _ _ _ => (pg_name (i := 2) sc__law_number.nd rfl (Or.inl rfl))) (fun _ _ _ _ _ => pts_one (pt_cmpR op_notIn_sign (pv 2) pe_str (by rfl))) (fun _ _ _ _ _ => (pv 2))) (pe_lst pa_nil) (nomark _)) (pw_or1 (PW.pt (pw_and (pt_cmpR op_eq (pe_ix ix_str (pv 1) pe_int (fun _ _ => rfl)) pe_str (nomark _)) (pw_and1 (pt_cmpR op_ne (pv 0) pe_str (nomark _)))))))))) (pss_one (ps_ret pe_non)) pss_nil)
      (pss_one (ps_ret (pe_callTy call_int_str (by rfl) T.z_int (by decide +kernel) (pa_cons (pv 0) pa_nil)))))), ?_⟩
  refine seq_asg (.str (SX.S (digs x.cps.toList))) (fun Q' hq => ?_) (fun H1 s1 => ?_)
  · refine ⟨_, rfl, _, rfl, x, rfl, szM (by omega), rfl, _, rfl, ?_⟩
    rw [dash]
    refine iteB (fun e => ?_) (fun e => ?_)
    · have e := of_decide_eq_true e
      refine ⟨_, rfl, _, rfl, x, rfl, szM (by omega), ?_⟩
      rw [slice1]
      have := hq H (Same.refl H)
      rwa [show digs x.cps.toList = x.cps.toList.drop 1 from if_pos e] at this
    · have e : ¬ x.cps.toList.head? = some 45 := of_decide_eq_false e
      refine ⟨_, rfl, ?_⟩
      have := hq H (Same.refl H)
      rw [show digs x.cps.toList = x.cps.toList from if_neg e, SX.S_tl] at this
      exact this
  dsimp only [gName]
  generalize hd : digs x.cps.toList = dl at hdl hdm
  have hS : (SX.S dl).length = dl.length := SX.S_len dl
  have c1 : okNum x.cps.toList = (decide (1 ≤ dl.length) && decide (dl.length ≤ 70) && dl.all (fun c => decide (c ∈ digits10)) && !(decide (dl.head? = some 48) && !decide (x.cps.toList = [48]))) := by
    unfold okNum; rw [hd]
  -- figures == ''
  refine ⟨_, rfl, rfl, _, rfl, ?_⟩
  refine iteB (fun e1 => ?_) (fun e1 => ?_)
  · have e1 : V.str (SX.S dl) = V.str "" := of_decide_eq_true e1
    have e2 : dl = [] := SX.S_inj ((V.str.inj e1).trans (show ("" : Str) = SX.S [] from rfl))
    refine hn ?_ H1 s1
    rw [c1, e2]; rfl
  have l1 : 1 ≤ dl.length := by
    have e1 : ¬ V.str (SX.S dl) = V.str "" := of_decide_eq_false e1
    cases dl with
    | nil => exact absurd rfl e1
    | cons a l => simp
  -- len(figures) > 70
  refine ⟨_, rfl, _, rfl, szM (by omega), _, _, rfl, rfl, _, rfl, ?_⟩
  refine iteB (fun e1 => ?_) (fun e1 => ?_)
  · have e1 := of_decide_eq_true e1
    refine hn ?_ H1 s1
    rw [c1, decide_eq_false (show ¬ dl.length ≤ 70 by omega), Bool.and_false]; rfl
  have l2 : dl.length ≤ 70 := by have := of_decide_eq_false e1; omega
  have c2 : okNum x.cps.toList = (dl.all (fun c => decide (c ∈ digits10)) && !(decide (dl.head? = some 48) && !decide (x.cps.toList = [48]))) := by
    rw [c1, decide_eq_true l1, decide_eq_true l2]; rfl
  -- [sign for ..] != []
  refine ⟨_, rfl, _, rfl, fun D hD => ?_⟩
  refine lc_it walk_str (fun i H' => H' D = some (.lst (((dl.take i).filter bad10).map fun c => V.str ⟨#[c]⟩)) ∧ Same H1 H') ⟨upd_same, same_new hD⟩ (fun _ _ _ _ => trivial) ?_ ?_
  · rintro i z H2 H3 hi ⟨h1, h2⟩ ⟨rfl, cp, hc, rfl⟩
    have hc : dl[i]? = some cp := by
      have hc : (SX.S dl).cps.toList[i]? = some cp := by rw [Array.getElem?_toList]; exact hc
      exact hc
    refine ⟨rfl, ?_⟩
    refine ⟨_, rfl, cp, _, rfl, rfl, _, rfl, ?_⟩
    refine iteB (fun e => ?_) (fun e => ?_)
    · have e : bad10 cp = true := e
      refine ⟨_, rfl, _, h1, ?_, ?_, ?_⟩
      · rw [List.length_map]
        exact szK (by have := List.length_take_le' i dl; have := List.length_filter_le bad10 (dl.take i); omega)
      · rw [upd_same, List.take_add_one, hc, List.filter_append, List.map_append]
        show _ = some (HO.lst (_ ++ ((([cp] : List Nat).filter bad10).map fun c => V.str ⟨#[c]⟩)))
        rw [List.filter_cons, if_pos e]; rfl
      · exact same_own h2 hD
    · have e : bad10 cp = false := e
      refine ⟨?_, h2⟩
      rw [h1, List.take_add_one, hc, List.filter_append, List.map_append]
      show _ = some (HO.lst (_ ++ ((([cp] : List Nat).filter bad10).map fun c => V.str ⟨#[c]⟩)))
      rw [List.filter_cons, if_neg (by rw [e]; exact Bool.false_ne_true), List.filter_nil, List.map_nil, List.append_nil]
  rintro H2 ⟨h1, h2⟩
  have eall : dl.take (SX.S dl).cps.size = dl := List.take_of_length_le (by have : (SX.S dl).cps.size = dl.length := hS; omega)
  rw [eall] at h1
  have s2 := s1.trans h2
  refine ⟨szl rfl, fun e he => ⟨.list (((dl.filter bad10).map fun c => (⟨#[c]⟩ : Str)).map PyData.str), .list [], .lst (.of (by rw [upd_ne (ne_of_none h1 he), h1, List.map_map]; rfl)) (dp_strs _), .lst (.of upd_same) .nil, shT (fun r hr => ?_), by decide, _, rfl, ?_⟩⟩
  · obtain ⟨c, hc, rfl⟩ := List.mem_map.mp hr
    exact ox.one (hdm c (List.mem_filter.mp hc).1)
  have s3 := s2.trans (same_new he (o := .lst []))
  generalize upd H2 e (.lst []) = H3 at s3 ⊢
  rw [eqv_nil]
  have ee : ((((dl.filter bad10).map fun c => (⟨#[c]⟩ : Str)).map PyData.str).isEmpty) = !dl.any bad10 := by rw [isEmpty_map', isEmpty_map', filt_none]
  rw [ee]
  have ea : dl.all (fun c => decide (c ∈ digits10)) = !dl.any bad10 := by
    rw [List.all_eq_not_any_not]
    rfl
  refine iteB (fun e1 => ?_) (fun e1 => ?_)
  · refine hn ?_ H3 s3
    rw [c2, ea]
    have e1 : (!(!dl.any bad10)) = true := e1
    have : dl.any bad10 = true := by simpa using e1
    rw [this]; rfl
  have e3 : dl.all (fun c => decide (c ∈ digits10)) = true := by
    have e1 : (!(!dl.any bad10)) = false := e1
    rw [ea]; simpa using e1
  rw [e3, Bool.true_and] at c2
  -- figures[0] == '0' and item != '0'
  obtain ⟨c0, hc0⟩ : ∃ c0, dl.head? = some c0 := by
    cases dl with
    | nil => simp at l1
    | cons a l => exact ⟨a, rfl⟩
  obtain ⟨n, hnum⟩ := num_is (x := x) (by rw [hd]; exact l1) (by rw [hd]; exact l2) (by rw [hd]; exact e3)
  have ok : okNum x.cps.toList = true → Q (.int n) H3 := fun e => by
    have := k H3 s3
    unfold intOf at this
    rw [if_pos e, hnum] at this
    exact this
  refine ⟨_, rfl, _, _, c0, rfl, rfl, szM (by omega), ?_, rfl, _, rfl, ?_⟩
  · refine atI_nat (j := 0) ?_
    show dl[0]? = some c0
    rw [← hc0, List.head?_eq_getElem?]
  have e4 : decide (V.str ⟨#[c0]⟩ = V.str "0") = decide (dl.head? = some 48) := by
    rw [hc0]
    refine decide_eq_decide.mpr ⟨fun z => ?_, fun z => ?_⟩
    · have z2 := V.str.inj z
      have : [c0] = [48] := congrArg (fun x : Str => x.cps.toList) z2
      rw [(List.cons.inj this).1]
    · cases z; rfl
  rw [e4]
  have e6 : decide (x.cps.toList = [48]) = decide (V.str x = V.str "0") := by
    refine decide_eq_decide.mpr ⟨fun z => ?_, fun z => ?_⟩
    · exact congrArg V.str (ex.trans (congrArg SX.S z))
    · cases z; rfl
  refine iteB (fun e7 => ?_) (fun e7 => ?_)
  · refine ⟨_, rfl, rfl, _, rfl, ?_⟩
    refine iteB (fun e5 => ?_) (fun e5 => ?_)
    · refine hn ?_ H3 s3
      rw [c2, e7, e6]
      simpa using e5
    · refine ⟨_, rfl, x, n, rfl, hnum, by omega, ok ?_⟩
      rw [c2, e7, e6]
      simpa using e5
  · refine ⟨_, rfl, x, n, rfl, hnum, by omega, ok ?_⟩
    rw [c2, e7]; rfl
def spIsN : Sp := fun vs H Q _ => ∃ x : Str, vs = [.str x] ∧ x.length ≤ 1000000 ∧ SOk x ∧ ∀ H', Same H H' → Q (.bl (isNameS x)) H'
def badL (c : Nat) : Bool := !decide (c ∈ letters.cps.toList)
theorem O__law_is_name (T : Tx K mg w) : FnOk P w K mg base CX0 1 T.a__law_is_name T.d__law_is_name ["item"] spIsN := by
  refine T.F__law_is_name.ok sc__law_is_name (fun vs H Q E h => ?_) (fun cdv A outer s H vs Q E hr h => ?_)
  · obtain ⟨x, rfl, _⟩ := h; rfl
  obtain ⟨x, rfl, hx, ox, k⟩ := h
  have hlen : x.cps.toList.length = x.length := Array.length_toList
  refine ⟨_, (pss_one (ps_ret (pe_and (pe_cmpR op_notIn_seq (pv 0) (pe_tup (pa_cons pe_str (pa_cons pe_str (pa_cons pe_str (pa_cons pe_str pa_nil))))) (by rfl)) (pe_and (pe_chain op_le op_le pe_int (pe_callB call_len_str (by rfl) T.z_len (by decide +kernel) (pa_cons (pv 0) pa_nil)) pe_int) (pe_one (pe_cmpR (op_eqD hr.units) (pe_lc (own := [("sign", 1)]) (g := (gName 1)) rfl sc__law_is_name.nd (pi_str (pv 0)) (blkOk_by (N := n__law_is_name) (sc := defScope s__law_is_name) (by decide +kernel)) (fun _ _ _ _ _ => (pg_name (i := 1) sc__law_is_name.nd rfl (Or.inl rfl))) (fun _ _ _ _ _ => pts_one (pt_cmpR op_notIn_sign (pv 1) pe_str (by rfl))) (fun _ _ _ _ _ => (pv 1))) (pe_lst pa_nil) (nomark _))))))), ?_⟩
  refine ⟨_, rfl, szl rfl, fun t ht => ?_⟩
  refine ⟨t, _, rfl, .inr (.of upd_same), rfl, rfl, _, rfl, ?_⟩
  have s1 : Same H (upd H t (.tup [.str "lord", .str "leaps", .str "rides", .str "stone"])) := same_new ht
  generalize (upd H t (.tup [.str "lord", .str "leaps", .str "rides", .str "stone"])) = H1 at s1 ⊢
  refine iteB (fun e4 => ?_) (fun e4 => ?_)
  rotate_left
  · have := k H1 s1
    have e : isNameS x = false := by
      unfold isNameS
      have e4 : (!inV (.str x) barred) = false := e4
      rw [e4, Bool.and_false]; rfl
    rw [e] at this
    exact this
  have e4 : (!inV (.str x) barred) = true := e4
  refine ⟨_, rfl, _, rfl, szM (by omega), _, _, rfl, rfl, _, rfl, ?_⟩
  have no : isNameS x = false → Q (.bl false) H1 := fun e => by
    have := k H1 s1
    rw [e] at this
    exact this
  refine iteB (fun e1 => ?_) (fun e1 => ?_)
  rotate_left
  · refine ⟨_, rfl, ?_⟩
    refine no ?_
    unfold isNameS
    rw [decide_eq_false (fun z => by have := of_decide_eq_false e1; omega)]; rfl
  have e1 := of_decide_eq_true e1
  refine ⟨_, _, rfl, rfl, _, rfl, ?_⟩
  refine iteB (fun e2 => ?_) (fun e2 => ?_)
  rotate_left
  · refine no ?_
    unfold isNameS
    rw [decide_eq_false (show ¬ x.length ≤ 8 from fun z => by have := of_decide_eq_false e2; omega), Bool.and_false]; rfl
  have e2 := of_decide_eq_true e2
  have l8 : x.length ≤ 8 := by omega
  refine ⟨_, rfl, _, rfl, fun D hD => ?_⟩
  refine lc_it walk_str (fun i H' => H' D = some (.lst (((x.cps.toList.take i).filter badL).map fun c => V.str ⟨#[c]⟩)) ∧ Same H1 H') ⟨upd_same, same_new hD⟩ (fun _ _ _ _ => trivial) ?_ ?_
  · rintro i z H2 H3 hi ⟨h1, h2⟩ ⟨rfl, cp, hc, rfl⟩
    have hc : x.cps.toList[i]? = some cp := by rw [Array.getElem?_toList]; exact hc
    refine ⟨rfl, ?_⟩
    refine ⟨_, rfl, cp, _, rfl, rfl, _, rfl, ?_⟩
    refine iteB (fun e => ?_) (fun e => ?_)
    · have e : badL cp = true := e
      refine ⟨_, rfl, _, h1, ?_, ?_, ?_⟩
      · rw [List.length_map]
        exact szK (by have := List.length_take_le' i x.cps.toList; have := List.length_filter_le badL (x.cps.toList.take i); omega)
      · rw [upd_same, List.take_add_one, hc, List.filter_append, List.map_append]
        show _ = some (HO.lst (_ ++ ((([cp] : List Nat).filter badL).map fun c => V.str ⟨#[c]⟩)))
        rw [List.filter_cons, if_pos e]; rfl
      · exact same_own h2 hD
    · have e : badL cp = false := e
      refine ⟨?_, h2⟩
      rw [h1, List.take_add_one, hc, List.filter_append, List.map_append]
      show _ = some (HO.lst (_ ++ ((([cp] : List Nat).filter badL).map fun c => V.str ⟨#[c]⟩)))
      rw [List.filter_cons, if_neg (by rw [e]; exact Bool.false_ne_true), List.filter_nil, List.map_nil, List.append_nil]
  rintro H2 ⟨h1, h2⟩
  have eall : x.cps.toList.take x.cps.size = x.cps.toList := List.take_of_length_le (by simp)
  rw [eall] at h1
  have s2 := s1.trans h2
  refine ⟨szl rfl, fun e he => ⟨.list (((x.cps.toList.filter badL).map fun c => (⟨#[c]⟩ : Str)).map PyData.str), .list [], .lst (.of (by rw [upd_ne (ne_of_none h1 he), h1, List.map_map]; rfl)) (dp_strs _), .lst (.of upd_same) .nil, shT (fun r hr => ?_), by decide, ?_⟩⟩
  · obtain ⟨c, hc, rfl⟩ := List.mem_map.mp hr
    exact ox.one (List.mem_filter.mp hc).1
  have s3 := s2.trans (same_new he (o := .lst []))
  generalize upd H2 e (.lst []) = H3 at s3 ⊢
  rw [eqv_nil]
  have ee : ((((x.cps.toList.filter badL).map fun c => (⟨#[c]⟩ : Str)).map PyData.str).isEmpty) = !x.cps.toList.any badL := by rw [isEmpty_map', isEmpty_map', filt_none]
  rw [ee]
  have ea : x.cps.toList.all (fun c => decide (c ∈ letters.cps.toList)) = !x.cps.toList.any badL := by
    rw [List.all_eq_not_any_not]
    rfl
  have := k H3 s3
  have en : isNameS x = !x.cps.toList.any badL := by
    unfold isNameS
    rw [e4, decide_eq_true l8, decide_eq_true (by omega), ea]; rfl
  rw [en] at this
  exact this
end
end Kd

set_option Elab.async false
set_option linter.all false
set_option maxRecDepth 100000
set_option maxHeartbeats 4000000
namespace Kd
open PySem PySem.Spec PyProof.Rows L2 Gs
def posR {α : Type} : Except Nat (α × Nat) → Nat × Bool
  | .error p => (p, true)
  | .ok (_, j) => (j, false)
theorem rdMore_pos {ws : List Str} : ∀ {f i : Nat} {a0 u0 : Int} {acc acc' : List (Int × Int)}, posR (rdMore ws f i a0 u0 acc) = posR (rdMore ws f i a0 u0 acc')
  | 0, i, a0, u0, acc, acc' => rfl
  | f + 1, i, a0, u0, acc, acc' => by
    show posR (if ws[i]? = some comma then (match rdLeap ws (i + 1) a0 u0 with
      | .error p => .error p
      | .ok (a, u) => rdMore ws f (i + 3) a u (acc ++ [(a, u)])) else .ok (acc, i)) = posR (if ws[i]? = some comma then (match rdLeap ws (i + 1) a0 u0 with
      | .error p => .error p
      | .ok (a, u) => rdMore ws f (i + 3) a u (acc' ++ [(a, u)])) else .ok (acc', i))
    split
    · cases rdLeap ws (i + 1) a0 u0 with
      | error p => rfl
      | ok r => exact rdMore_pos
    · rfl
/-- where the leaps stop that begin at i, behind the leap (a0, u0) -/
def stL (ws : List Str) (f i : Nat) (a0 u0 : Int) : Nat × Bool :=
  match rdLeap ws i a0 u0 with
  | .error p => (p, true)
  | .ok (a, u) => posR (rdMore ws f (i + 2) a u [])
theorem stL_next {ws : List Str} {f i : Nat} {a0 u0 a u : Int} (h : rdLeap ws i a0 u0 = .ok (a, u)) (hf : ws.length ≤ i + f) :
    stL ws f i a0 u0 = if ws[i + 2]? = some comma then stL ws (f - 1) (i + 3) a u else (i + 2, false) := by
  have hl := rdLeap_len h
  obtain ⟨g, rfl⟩ : ∃ g, f = g + 1 := ⟨f - 1, by omega⟩
  unfold stL
  rw [h]
  show posR (if ws[i + 2]? = some comma then (match rdLeap ws (i + 2 + 1) a u with
      | .error p => .error p
      | .ok (a', u') => rdMore ws g (i + 2 + 3) a' u' ([] ++ [(a', u')])) else .ok ([], i + 2)) = _
  split
  · show posR (match rdLeap ws (i + 3) a u with
      | .error p => .error p
      | .ok (a', u') => rdMore ws g (i + 5) a' u' [(a', u')]) = match rdLeap ws (i + 3) a u with
      | .error p => (p, true)
      | .ok (a', u') => posR (rdMore ws g (i + 5) a' u' [])
    cases rdLeap ws (i + 3) a u with
    | error p => rfl
    | ok r => exact rdMore_pos
  · rfl
theorem stL_leaps {ws : List Str} {i : Nat} : stL ws (ws.length + 1) i (-3) (-4) = posR (rdLeaps ws i) := by
  unfold stL rdLeaps
  cases rdLeap ws i (-3) (-4) with
  | error p => rfl
  | ok r => exact rdMore_pos
theorem rdLeap_bad0 {ws : List Str} {j : Nat} {a0 u0 : Int} (h : ∀ v, ws[j]?.bind intOf = some v → ¬ (lpart (.int v) = true ∧ ¬ v < a0)) : rdLeap ws j a0 u0 = Except.error j := by
  unfold rdLeap
  cases ho : ws[j]?.bind intOf with
  | none => rfl
  | some v =>
    refine if_neg fun hh => ?_
    rw [Bool.and_eq_true] at hh
    exact h v ho ⟨hh.1, of_decide_eq_false (by simpa using hh.2)⟩
def rdSnd (ws : List Str) (j : Nat) (v0 a0 u0 : Int) : Except Nat (Int × Int) := match ws[j + 1]?.bind intOf with
  | none => Except.error (j + 1)
  | some u => if (lpair (.int v0) (.int u) && !leP v0 u a0 u0) = true then Except.ok (v0, u) else Except.error (j + 1)
theorem rdLeap_one {ws : List Str} {j : Nat} {a0 u0 v0 : Int} (h : ws[j]?.bind intOf = some v0) (p1 : lpart (.int v0) = true) (p2 : ¬ v0 < a0) : rdLeap ws j a0 u0 = match ws[j + 1]?.bind intOf with
    | none => Except.error (j + 1)
    | some u => if (lpair (.int v0) (.int u) && !leP v0 u a0 u0) = true then Except.ok (v0, u) else Except.error (j + 1) := by
  unfold rdLeap
  rw [h]
  exact if_pos (by rw [p1, decide_eq_false p2]; rfl)
theorem oI_int {o : Option Int} {v : Int} (h : V.int v = oI o) : o = some v := by
  cases o with
  | none => cases h
  | some w => rw [V.int.inj h]
theorem lpair_no {a u : Int} (h : lpart (.int u) = false) : ∀ {b : Bool}, (lpair (.int a) (.int u) && b) = false := by
  intro b
  have : lpair (.int a) (.int u) = false := by
    show (lpart (.int a) && lpart (.int u) && _) = false
    rw [h, Bool.and_false]; rfl
  rw [this]; rfl
theorem cut2 {ws : List Str} {j : Nat} (hj : j ≤ ws.length) : cutV (ws.map V.str) (some (j : Int)) (some ((j : Int) + 2)) = ((ws.drop j).take 2).map V.str := by
  unfold cutV
  rw [show ((j : Int) + 2) = ((j + 2 : Nat) : Int) from by push_cast; rfl, HT.sIx_nat, HT.sIx_nat, List.length_map, Nat.min_eq_left hj, ← List.map_drop, ← List.map_take]
  congr 1
  refine List.take_eq_take_iff.mpr ?_
  rw [List.length_drop]
  omega
section
variable {P : Program} {w : World} {K : PySem.W.Frag} {mg : Str → Option Value} {base : Heap}
/-- words as they stand in a text -/
structure Wd (ws : List Str) : Prop where
  sm : Small ws
  ok : ∀ y ∈ ws, SOk y
def spLS (K : PySem.W.Frag) : Sp := fun vs H Q _ => ∃ (a : Addr) (ws : List Str) (i : Nat), vs = [.ref a, .int i] ∧ SqL K H a (ws.map V.str) ∧ Wd ws ∧ i ≤ ws.length ∧
  ∀ t H', Same H H' → H t = none → H' t = some (.tup [.int (posR (rdLeaps ws i)).1, .bl (posR (rdLeaps ws i)).2]) → Q (.ref t) H'
theorem O__law_leaps_stop (T : Tx K mg w) : FnOk P w K mg base CX0 2 T.a__law_leaps_stop T.d__law_leaps_stop ["items", "at"] (spLS K) := by
  refine T.F__law_leaps_stop.ok sc__law_leaps_stop (fun vs H Q E h => ?_) (fun cdv A outer s H vs Q E hr h => ?_)
  · obtain ⟨a, ws, i, rfl, _⟩ := h; rfl
  obtain ⟨a, ws, i, rfl, hS, wd, hi, k⟩ := h
  refine ⟨_, (pss_cons (ps_set (i := 2) sc__law_leaps_stop.nd rfl (Or.inl rfl) (pe_tup (pa_cons (pe_un un_neg pe_int) (pa_cons (pe_un un_neg pe_int) pa_nil))))
      (pss_one (ps_while PassesOwn.never (pt_val pe_bl) (pss_cons (ps_setLc (i := 3) (own := [("item", 4)]) (g := (gName 4)) rfl sc__law_leaps_stop.nd rfl rfl (sw_true rfl rfl rfl (by decide +kernel)) (pi_list (pe_slice sl_list (pv 0) (po_some (pv 1)) (po_some (pe_op op_add (pv 1) pe_int)))) (blkOk_by (N := n__law_leaps_stop) (sc := defScope s__law_leaps_stop) (by decide +kernel)) (fun _ _ _ _ _ => (pg_name (i := 4) sc__law_leaps_stop.nd rfl (Or.inl rfl))) (fun _ _ _ _ _ => pts_nil) (fun _ _ _ _ _ => (pe_call (O__law_number T) (hr.mono (by decide)) (by rfl) T.m__law_number T.F__law_number.kp T.b__law_number .nil pass0 (pa_cons (pv 4) pa_nil))))
      (pss_cons (ps_for PassesOwn.never rfl (pi_enum (by rfl) T.z_enumerate (pa_cons (pv 3) pa_nil)) (pg_tup rfl (pgs_cons (pg_name (i := 5) sc__law_leaps_stop.nd rfl (Or.inl rfl)) (pgs_cons (pg_name (i := 6) sc__law_leaps_stop.nd rfl (Or.inl rfl)) pgs_nil))) (pss_one (ps_if (PW.pt (pw_or (pt_cmpR op_isN (pv 6) pe_non (nomark _)) (pw_or (pt_not (pt_chain op_le op_le (pe_un un_neg pe_int) (pv 6) pe_int)) (pw_or1 (PW.pt (pw_and (pt_cmpR op_lt (pv 6) (pe_ix ix_tup (pv 2) pe_int (fun _ _ => rfl)) (nomark _)) (pw_and1 (pt_cmpR op_eq (pv 5) pe_int (nomark _))))))))) (pss_one (ps_ret (pe_tup (pa_cons (pe_op op_add (pv 1) (pv 5)) (pa_cons pe_bl pa_nil))))) pss_nil)))
      (pss_cons (ps_if (pt_cmpR op_lt (pe_callB call_len_seq (by rfl) T.z_len (by decide +kernel) (pa_cons (pv 3) pa_nil)) pe_int (nomark _)) (pss_one (ps_ret (pe_tup (pa_cons (pe_callB call_len_seq (by rfl) T.z_len (by decide +kernel) (pa_cons (pv 0) pa_nil)) (pa_cons pe_bl pa_nil))))) pss_nil)
      (pss_cons (ps_if (PW.pt (pw_or (pt_cmpR (op_leT hr.units0) (pe_callTy (T := "tuple") (r := rTupOf K) call_tuple_of (by rfl) T.z_tuple (by decide +kernel) (pa_cons (pv 3) pa_nil)) (pv 2) (nomark _)) (pw_or1 (pt_cmpR (op_eqD hr.units) (pv 3) (pe_lst (pa_cons pe_int (pa_cons pe_int pa_nil))) (nomark _))))) (pss_one (ps_ret (pe_tup (pa_cons (pe_op op_add (pv 1) pe_int) (pa_cons pe_bl pa_nil))))) pss_nil)
      (pss_cons (ps_par (i := 2) (j := 1) rfl sc__law_leaps_stop.nd rfl rfl (by decide) rfl rfl (pa_cons (pe_callTy (T := "tuple") (r := rTupOf K) call_tuple_of (by rfl) T.z_tuple (by decide +kernel) (pa_cons (pv 3) pa_nil)) (pa_cons (pe_op op_add (pv 1) pe_int) pa_nil)) (by rfl))
      (pss_cons (ps_if (PW.pt (pw_or (pt_cmpR op_eq (pv 1) (pe_callB call_len_seq (by rfl) T.z_len (by decide +kernel) (pa_cons (pv 0) pa_nil)) (nomark _)) (pw_or1 (pt_cmpR op_ne (pe_ix ix_list (pv 0) (pv 1) (fun _ _ => rfl)) pe_str (nomark _))))) (pss_one (ps_ret (pe_tup (pa_cons (pv 1) (pa_cons pe_bl pa_nil))))) pss_nil)
      (pss_one (ps_set (i := 1) sc__law_leaps_stop.nd rfl (Or.inl rfl) (pe_op op_add (pv 1) pe_int)))))))))))), ?_⟩
  have hlen := wd.sm.1
  refine ⟨_, rfl, _, rfl, szl rfl, fun t0 ht0 => ?_⟩
  have s0 : Same H (upd H t0 (.tup [.int (-3), .int (-4)])) := same_new ht0
  have h0 : upd H t0 (.tup [.int (-3), .int (-4)]) t0 = some (.tup [.int (-3), .int (-4)]) := upd_same
  change tWhile _ _ _ _ (upd H t0 (.tup [.int (-3), .int (-4)]))
  generalize upd H t0 (.tup [.int (-3), .int (-4)]) = H0 at s0 h0 ⊢
  clear ht0
  rw [← stL_leaps] at k
  refine ⟨fun m σ H' => ∃ (t2 : Addr) (t3 t4 t5 t6 : Option V) (j f : Nat) (ji a0 u0 : Int), σ = [some (.ref a), some (.int ji), some (.ref t2), t3, t4, t5, t6] ∧ ji = (j : Int) ∧ Same H H' ∧ H' t2 = some (.tup [.int a0, .int u0]) ∧ j ≤ ws.length ∧ ws.length ≤ j + f ∧ ws.length < j + m ∧
      stL ws (ws.length + 1) i (-3) (-4) = stL ws f j a0 u0, ⟨ws.length + 1, t0, none, none, none, none, i, ws.length + 1, _, -3, -4, rfl, rfl, s0, h0, hi, by omega, by omega, rfl⟩, ?_⟩
  clear h0 s0 H0 t0
  rintro m σ H0 ⟨t2, t3, t4, t5, t6, j, f, ji, a0, u0, rfl, rfl, s0, h0, hj, hf, hm, hR⟩
  rw [hR] at k
  refine ⟨_, rfl, iteT ?_⟩
  refine ⟨fun σ' H' => ∃ m', m' < m ∧ (∃ (t2 : Addr) (t3 t4 t5 t6 : Option V) (j f : Nat) (ji a0 u0 : Int), σ' = [some (.ref a), some (.int ji), some (.ref t2), t3, t4, t5, t6] ∧ ji = (j : Int) ∧ Same H H' ∧ H' t2 = some (.tup [.int a0, .int u0]) ∧ j ≤ ws.length ∧ ws.length ≤ j + f ∧ ws.length < j + m' ∧
      stL ws (ws.length + 1) i (-3) (-4) = stL ws f j a0 u0), fun σ' H' h => h, ?_⟩
  -- what is returned
  have out : ∀ (r : Nat × Bool) (H' : Hp), Same H H' → stL ws f j a0 u0 = r → ∀ (z : Int), z = (r.1 : Int) → ∀ t, H' t = none → Q (.ref t) (upd H' t (.tup [.int z, .bl r.2])) := fun r H' s' e z ez t ht => by
    subst ez
    rw [e] at k
    refine k t _ (s'.trans (same_new ht)) ?_ upd_same
    cases z : H t with
    | none => rfl
    | some o => rw [s' _ _ z] at ht; cases ht
  -- numbers
  have hS0 : SqL K H0 a (ws.map V.str) := Same.seq s0 hS
  refine ⟨_, rfl, _, rfl, _, rfl, _, rfl, _, _, rfl, rfl, _, rfl, a, _, rfl, hS0, fun p hp => ?_⟩
  rw [cut2 hj]
  have s1 : Same H0 (upd H0 p (.lst (((ws.drop j).take 2).map V.str))) := same_new hp
  have h1 : upd H0 p (.lst (((ws.drop j).take 2).map V.str)) p = some (.lst (((ws.drop j).take 2).map V.str)) := upd_same
  generalize hy : (ws.drop j).take 2 = ys at s1 h1 ⊢
  generalize upd H0 p (.lst (ys.map V.str)) = H1 at s1 h1 ⊢
  have ysm : ∀ y ∈ ys, y ∈ ws := fun y h => by rw [← hy] at h; exact List.mem_of_mem_drop (List.mem_of_mem_take h)
  have yl : ys.length ≤ 2 := by rw [← hy]; exact List.length_take_le ..
  refine ⟨p, rfl, ⟨_, .of h1⟩, fun D hD => ?_⟩
  refine lc_it (walk_list (K := K) (a := p) (xs := ys.map V.str)) (fun i H' => Same H1 H' ∧ H' D = some (.lst ((ys.take i).map fun y => oI (intOf y)))) ⟨same_new hD, upd_same⟩ (fun i H' _ ⟨x, _⟩ => .of (x _ _ h1)) ?_ ?_
  · rintro i y H4' H3 hi ⟨s3, g3⟩ ⟨rfl, hyi⟩
    obtain ⟨x, hx, rfl⟩ : ∃ x, ys[i]? = some x ∧ V.str x = y := by
      rw [List.getElem?_map] at hyi
      cases e : ys[i]? with
      | none => rw [e] at hyi; cases hyi
      | some u => rw [e] at hyi; exact ⟨u, rfl, Option.some.inj hyi⟩
    have xm := ysm x (List.mem_of_getElem? hx)
    refine ⟨rfl, _, rfl, x, rfl, wd.sm.2 x xm, wd.ok x xm, fun H4 s4 => ⟨_, s4 _ _ g3, ?_, ?_, ?_⟩⟩
    · rw [List.length_map]; exact szK (by have := List.length_take_le' i ys; omega)
    · exact same_own (s3.trans s4) hD
    · rw [upd_same, List.take_add_one, hx, List.map_append]; rfl
  rintro H2 ⟨s2, g2⟩
  rw [List.length_map, List.take_length] at g2
  have s12 : Same H H2 := (s0.trans s1).trans s2
  have h2 := s2 _ _ (s1 _ _ h0)
  have hS2 : SqL K H2 a (ws.map V.str) := Same.seq s12 hS
  clear hD hp h1 s1 s2 hS0 h0 s0
  dsimp only [gName]
  generalize hn : (ys.map fun y => oI (intOf y)) = nums at g2
  have nl : nums.length = ys.length := by rw [← hn, List.length_map]
  have nat : ∀ k v, nums[k]? = some v → v = oI (ws[j + k]?.bind intOf) ∧ j + k < ws.length := fun k v h => by
    rw [← hn, List.getElem?_map, Option.map_eq_some_iff] at h
    obtain ⟨y, h3, rfl⟩ := h
    rw [← hy, List.getElem?_take] at h3
    split at h3
    · rw [List.getElem?_drop] at h3
      rw [h3]
      exact ⟨rfl, (List.getElem?_eq_some_iff.mp h3).1⟩
    · cases h3
  -- for spot, number in enumerate(numbers)
  refine ⟨_, rfl, D, nums, rfl, .of g2, ?_⟩
  refine for_it (walk_enum (K := K) (a := D) (xs := nums)) (fun i σ H' => (∃ t4 t5 t6 : Option V, σ = [some (.ref a), some (.int (j : Int)), some (.ref t2), some (.ref D), t4, t5, t6]) ∧ Same H2 H' ∧
      ∀ k, k < i → ∃ v : Int, nums[k]? = some (.int v) ∧ lpart (.int v) = true ∧ (k = 0 → ¬ v < a0)) ⟨⟨_, _, _, rfl⟩, Same.refl _, fun k h => by omega⟩ (fun i σ H' _ ⟨_, x, _⟩ => .of (x _ _ g2)) ?_ ?_
  · rintro i y σ H3 H4 hi ⟨⟨t4', t5', t6', rfl⟩, s3, hk⟩ ⟨T0, u, z, rfl, hT, rfl, hu, hz'⟩
    obtain rfl : V.int (i : Nat) = u := Option.some.inj hu
    have hz' : nums[i]? = some z := hz'
    have hi : i < nums.length := hi
    refine ⟨T0, _, rfl, .of upd_same, rfl, ?_⟩
    have s4 : Same H3 (upd H3 T0 (.tup [.int (i : Nat), z])) := same_new hT
    have s24 := s3.trans s4
    have s04 := s12.trans s24
    have h4 := s24 _ _ h2
    generalize upd H3 T0 (.tup [.int (i : Nat), z]) = H4 at s4 s24 s04 h4 ⊢
    dsimp only [gCons, gName, gNil]
    obtain ⟨ez, hl⟩ := nat i z hz'
    -- how a bad one is told
    have bad : (∀ v : Int, z = .int v → ¬ (lpart (.int v) = true ∧ (i = 0 → ¬ v < a0))) → stL ws f j a0 u0 = (j + i, true) := fun hb => by
      unfold stL
      match i, hi, hk, ez, hl, hb with
      | 0, _, _, ez, _, hb =>
        rw [rdLeap_bad0 fun v hv hh => hb v (by rw [ez, show j + 0 = j from rfl, hv]; rfl) ⟨hh.1, fun _ => hh.2⟩]
        rfl
      | 1, _, hk, ez, _, hb =>
        obtain ⟨v0, hv0, p1, p2⟩ := hk 0 (by omega)
        have e0 : ws[j]?.bind intOf = some v0 := oI_int (nat 0 _ hv0).1
        rw [rdLeap_one e0 p1 (p2 rfl)]
        cases ho1 : ws[j + 1]?.bind intOf with
        | none => rfl
        | some u1 =>
          rw [ho1] at ez
          have nl1 : lpart (.int u1) = false := by
            cases q : lpart (.int u1) with
            | false => rfl
            | true => exact absurd ⟨q, fun z => by omega⟩ (hb u1 ez)
          dsimp only
          rw [if_neg (by rw [lpair_no nl1]; exact Bool.false_ne_true)]
      | i + 2, hi, _, _, _, _ => omega
    refine ⟨_, _, rfl, _, _, rfl, rfl, ?_⟩
    have s4' := s4
    -- number is None
    refine ⟨_, rfl, rfl, _, rfl, ?_⟩
    have out2 : stL ws f j a0 u0 = (j + i, true) → ∀ t, H4 t = none → Q (.ref t) (upd H4 t (.tup [.int ((j : Int) + (i : Int)), .bl true])) := fun e t ht => out _ H4 s04 e _ (by push_cast; rfl) t ht
    cases ho : ws[j + i]?.bind intOf with
    | none =>
      rw [ho] at ez
      subst ez
      refine iteB (fun _ => ?_) (fun e => absurd e (by decide))
      exact ⟨_, rfl, _, rfl, _, _, rfl, rfl, szl rfl, fun t ht => out2 (bad fun v hv => by cases hv) t ht⟩
    | some v =>
    rw [ho] at ez
    subst ez
    refine iteB (fun e => absurd (of_decide_eq_true e) (by simp [oI])) (fun _ => ?_)
    -- not -3 <= number <= 3
    refine ⟨_, rfl, _, rfl, _, _, rfl, rfl, _, rfl, ?_⟩
    refine iteB (fun e1 => ?_) (fun e1 => ?_)
    rotate_left
    · refine ⟨_, rfl, ?_⟩
      exact ⟨_, rfl, _, rfl, _, _, rfl, rfl, szl rfl, fun t ht => out2 (bad fun w hw => by
        cases hw
        intro hh
        have := (lpart_bd hh.1).1
        have := of_decide_eq_false e1
        omega) t ht⟩
    have e1 := of_decide_eq_true e1
    refine ⟨_, _, rfl, rfl, _, rfl, ?_⟩
    refine iteB (fun e2 => ?_) (fun e2 => ?_)
    · exact ⟨_, rfl, _, rfl, _, _, rfl, rfl, szl rfl, fun t ht => out2 (bad fun w hw => by
        cases hw
        intro hh
        have := (lpart_bd hh.1).2
        have e2 : (!decide (v ≤ 3)) = true := e2
        rw [decide_eq_true (by omega)] at e2
        cases e2) t ht⟩
    have e2 : v ≤ 3 := by
      have e2 : (!decide (v ≤ 3)) = false := e2
      by_cases q : v ≤ 3
      · exact q
      · rw [decide_eq_false q] at e2; cases e2
    have lp : lpart (.int v) = true := by
      show (decide (-3 ≤ v) && decide (v ≤ 3)) = true
      rw [decide_eq_true (show -3 ≤ v from e1), decide_eq_true e2]; rfl
    -- number < last[0] and spot == 0
    refine ⟨_, rfl, _, rfl, t2, _, 0, _, rfl, rfl, .of h4, rfl, _, _, rfl, rfl, _, rfl, ?_⟩
    have more : (i = 0 → ¬ v < a0) → ∀ k, k < i + 1 → ∃ v : Int, nums[k]? = some (.int v) ∧ lpart (.int v) = true ∧ (k = 0 → ¬ v < a0) := fun hv k hk1 => by
      by_cases q : k < i
      · exact hk k q
      · have : k = i := by omega
        subst this
        exact ⟨v, hz', lp, hv⟩
    refine iteB (fun e3 => ?_) (fun e3 => ?_)
    · refine ⟨_, rfl, rfl, _, rfl, ?_⟩
      refine iteB (fun e4 => ?_) (fun e4 => ?_)
      · have e4 : i = 0 := by
          have := V.int.inj (of_decide_eq_true e4)
          omega
        exact ⟨_, rfl, _, rfl, _, _, rfl, rfl, szl rfl, fun t ht => out2 (bad fun w hw => by
          cases hw
          intro hh
          exact hh.2 e4 (of_decide_eq_true e3)) t ht⟩
      · have e4 : i ≠ 0 := fun q => by
          subst q
          exact absurd rfl (of_decide_eq_false e4)
        exact ⟨⟨_, _, _, rfl⟩, s24, more fun q => absurd q e4⟩
    · exact ⟨⟨_, _, _, rfl⟩, s24, more fun _ => of_decide_eq_false e3⟩
  rintro σ H3 ⟨⟨t4', t5', t6', rfl⟩, s3, hk⟩
  have s03 := s12.trans s3
  have h3 := s3 _ _ h2
  have g3 := s3 _ _ g2
  have hS3 : SqL K H3 a (ws.map V.str) := Same.seq s03 hS
  clear h2 g2 hS2 s12 s3 H2
  -- len(numbers) < 2
  refine ⟨_, rfl, D, _, rfl, .inl (.of g3), _, _, rfl, rfl, _, rfl, ?_⟩
  have hyl : nums.length = min 2 (ws.length - j) := by rw [nl, ← hy, List.length_take, List.length_drop]
  refine iteB (fun e1 => ?_) (fun e1 => ?_)
  · have e1 := of_decide_eq_true e1
    have e : stL ws f j a0 u0 = (ws.length, true) := by
      unfold stL
      by_cases q : nums.length = 0
      · rw [rdLeap_bad0 fun v hv _ => by
          rw [List.getElem?_eq_none (by omega)] at hv; cases hv]
        show (j, true) = (ws.length, true)
        rw [show j = ws.length by omega]
      · obtain ⟨v0, hv0, p1, p2⟩ := hk 0 (by omega)
        have e0 : ws[j]?.bind intOf = some v0 := oI_int (nat 0 _ hv0).1
        rw [rdLeap_one e0 p1 (p2 rfl), List.getElem?_eq_none (show ws.length ≤ j + 1 by omega)]
        show (j + 1, true) = (ws.length, true)
        rw [show j + 1 = ws.length by omega]
    exact ⟨_, rfl, a, _, rfl, .inl hS3, szl rfl, fun t ht => out _ H3 s03 e _ (by rw [List.length_map]) t ht⟩
  have e1 := of_decide_eq_false e1
  obtain ⟨v0, hv0, p1, p2⟩ := hk 0 (by omega)
  obtain ⟨v1, hv1, p3, _⟩ := hk 1 (by omega)
  have e0 : ws[j]?.bind intOf = some v0 := oI_int (nat 0 _ hv0).1
  have e01 : ws[j + 1]?.bind intOf = some v1 := oI_int (nat 1 _ hv1).1
  have one := rdLeap_one (u0 := u0) e0 p1 (p2 rfl)
  rw [e01] at one
  dsimp only at one
  have en : nums = [.int v0, .int v1] := by
    match nums, hyl, e1, hv0, hv1 with
    | [a, b], _, _, hv0, hv1 => rw [Option.some.inj hv0, Option.some.inj hv1]
    | [], h, e, _, _ => exact absurd (show ((0 : Nat) : Int) < 2 by decide) e
    | [a], h, e, _, _ => exact absurd (show ((1 : Nat) : Int) < 2 by decide) e
    | a :: b :: c :: d, h, _, _, _ => simp only [List.length_cons] at h; omega
  subst en
  -- tuple(numbers) <= last
  refine ⟨_, rfl, D, _, rfl, .inl ⟨.of g3, fun q hq => ?_⟩⟩
  have s4 : Same H3 (upd H3 q (.tup [.int v0, .int v1])) := same_new hq
  have g4q : upd H3 q (.tup [.int v0, .int v1]) q = some (.tup [.int v0, .int v1]) := upd_same
  refine ⟨_, rfl, q, t2, [v0, v1], [a0, u0], rfl, rfl, .of g4q, .of (s4 _ _ h3), ?_⟩
  rw [le_pair]
  have s04 := s03.trans s4
  have h4 := s4 _ _ h3
  have g4 := s4 _ _ g3
  have hS4 : SqL K _ a (ws.map V.str) := Same.seq s04 hS
  generalize upd H3 q (.tup [.int v0, .int v1]) = H4 at s4 s04 h4 g4 hS4 ⊢
  clear h3 g3 hS3 s03 g4q s4 hq
  refine ⟨_, rfl, ?_⟩
  have bad1 : (lpair (.int v0) (.int v1) && !leP v0 v1 a0 u0) = false → stL ws f j a0 u0 = (j + 1, true) := fun e => by
    unfold stL
    rw [one, if_neg (by rw [e]; exact Bool.false_ne_true)]
  refine iteB (fun e2 => ?_) (fun e2 => ?_)
  · exact ⟨_, rfl, _, _, rfl, rfl, szl rfl, fun t ht => out _ H4 s04 (bad1 (by rw [e2]; exact Bool.and_false _)) _ (by push_cast; rfl) t ht⟩
  -- numbers == [0, 0]
  refine ⟨_, rfl, szl rfl, fun e he => ⟨.list [.int v0, .int v1], .list [.int 0, .int 0], .lst (.of (by rw [upd_ne (ne_of_none g4 he)]; exact g4)) (dp_ints [v0, v1]), .lst (.of upd_same) (dp_ints [0, 0]), shaped_ints [v0, v1], by decide, ?_⟩⟩
  have s5 : Same H4 (upd H4 e (.lst [.int 0, .int 0])) := same_new he
  have s05 := s04.trans s5
  have h5 := s5 _ _ h4
  have g5 := s5 _ _ g4
  have hS5 : SqL K _ a (ws.map V.str) := Same.seq s05 hS
  generalize upd H4 e (.lst [.int 0, .int 0]) = H5 at s5 s05 h5 g5 hS5 ⊢
  clear h4 g4 hS4 s04 he s5
  have ez : PyData.eqv (.list [.int v0, .int v1]) (.list [.int 0, .int 0]) = (isZ (.int v0) && isZ (.int v1)) := by
    simp [PyData.eqv, PyData.eqvAll, isZ]
    rfl
  rw [ez]
  refine ⟨_, rfl, ?_⟩
  refine iteB (fun e3 => ?_) (fun e3 => ?_)
  · refine ⟨_, rfl, _, _, rfl, rfl, szl rfl, fun t ht => out _ H5 s05 (bad1 ?_) _ (by push_cast; rfl) t ht⟩
    show ((lpart (.int v0) && lpart (.int v1) && !(isZ (.int v0) && isZ (.int v1))) && _) = false
    rw [e3, Bool.not_true, Bool.and_false]; rfl
  have ok : (lpair (.int v0) (.int v1) && !leP v0 v1 a0 u0) = true := by
    show ((lpart (.int v0) && lpart (.int v1) && !(isZ (.int v0) && isZ (.int v1))) && !leP v0 v1 a0 u0) = true
    rw [e3, p1, p3, e2]; rfl
  rw [if_pos ok] at one
  have next := stL_next one hf
  have hj2 := rdLeap_len one
  -- last, at = tuple(numbers), at + 2
  refine ⟨_, rfl, D, _, rfl, .inl ⟨.of g5, fun q2 hq => ⟨_, rfl, _, _, rfl, rfl, _, _, rfl, ?_⟩⟩⟩
  have s6 : Same H5 (upd H5 q2 (.tup [.int v0, .int v1])) := same_new hq
  have h6 : upd H5 q2 (.tup [.int v0, .int v1]) q2 = some (.tup [.int v0, .int v1]) := upd_same
  have s06 := s05.trans s6
  have hS6 : SqL K _ a (ws.map V.str) := Same.seq s06 hS
  generalize upd H5 q2 (.tup [.int v0, .int v1]) = H6 at s6 s06 h6 hS6 ⊢
  clear h5 g5 hS5 s05 hq s6
  dsimp only [List.set]
  have ej : ((j : Int) + 2) = ((j + 2 : Nat) : Int) := by push_cast; rfl
  rw [ej]
  -- at == len(items) or items[at] != ','
  refine ⟨_, rfl, _, rfl, a, _, rfl, .inl hS6, rfl, _, rfl, ?_⟩
  refine iteB (fun e4 => ?_) (fun e4 => ?_)
  · have e4 : j + 2 = ws.length := by
      have := V.int.inj (of_decide_eq_true e4)
      rw [List.length_map] at this
      omega
    rw [List.getElem?_eq_none (by omega), if_neg (by simp)] at next
    exact ⟨_, rfl, szl rfl, fun t ht => out _ H6 s06 next _ rfl t ht⟩
  have e4 : j + 2 ≠ ws.length := fun z => by
    have := of_decide_eq_false e4
    rw [List.length_map, z] at this
    exact this rfl
  obtain ⟨y, hy2⟩ : ∃ y, ws[j + 2]? = some y := ⟨ws[j + 2]'(by omega), List.getElem?_eq_getElem (by omega)⟩
  refine ⟨_, rfl, _, rfl, a, _, _, .str y, rfl, rfl, hS6, atI_nat (by rw [List.getElem?_map, hy2]; rfl), rfl, _, rfl, ?_⟩
  rw [hy2] at next
  refine iteB (fun e5 => ?_) (fun e5 => ?_)
  · have e5 : y ≠ comma := fun z => by
      subst z
      have e5 : (!decide (V.str comma = V.str ",")) = true := e5
      rw [decide_eq_true (show V.str comma = V.str "," from rfl)] at e5
      cases e5
    rw [if_neg (fun z => e5 (Option.some.inj z))] at next
    exact ⟨_, rfl, szl rfl, fun t ht => out _ H6 s06 next _ rfl t ht⟩
  have e5 : y = comma := by
    have e5 : (!decide (V.str y = V.str ",")) = false := e5
    by_cases z : V.str y = V.str ","
    · exact V.str.inj z
    · rw [decide_eq_false z] at e5; cases e5
  rw [if_pos (by rw [e5])] at next
  have hj3 : j + 2 < ws.length := (List.getElem?_eq_some_iff.mp hy2).1
  refine ⟨_, rfl, _, _, rfl, rfl, m - 1, by omega, q2, _, _, _, _, j + 3, f - 1, _, v0, v1, rfl, by push_cast; rfl, s06, h6, by omega, by omega, by omega, ?_⟩
  rw [hR, next]
end
end Kd

set_option Elab.async false
set_option linter.all false
set_option maxRecDepth 100000
set_option maxHeartbeats 4000000
namespace Kd
open PySem PySem.Spec PyProof.Rows L2 Gs
def stopK (ws : List Str) : Option Nat := match rdKind ws 0 with
  | .error p => some p
  | .ok _ => none
def oN : Option Nat → V
  | none => .non
  | some p => .int p
def stop2 (ws : List Str) (q e : Bool) (i2 : Nat) : Option Nat := match rdPart ws q i2 with
  | .error p => some p
  | .ok (rs, i3) => if (decide (i3 < ws.length) || (e && rs.isEmpty)) = true then some i3 else none
theorem stopK_no {ws : List Str} {z : Str} (h : ws[0]? = some z) (n : isNameS z = false) : stopK ws = some 0 := by
  have e : rdKind ws 0 = .error 0 := by
    unfold rdKind
    rw [h]
    exact if_neg (by rw [n]; exact Bool.false_ne_true)
  unfold stopK
  rw [e]
theorem stopK_lp {ws : List Str} {z : Str} (h : ws[0]? = some z) (n : isNameS z = true) : stopK ws = match lpPart ws (behind (lordAt ws 0) 0) with
    | .error p => some p
    | .ok (ps, i2) => stop2 ws (lordAt ws 0) ps.isEmpty i2 := by
  have e : rdKind ws 0 = match lpPart ws (behind (lordAt ws 0) 0) with
      | .error p => .error p
      | .ok (ps, i2) =>
        match rdPart ws (lordAt ws 0) i2 with
        | .error p => .error p
        | .ok (rs, i3) => if (decide (i3 < ws.length) || (ps.isEmpty && rs.isEmpty)) = true then .error i3 else .ok (z, ps, rs, lordAt ws 0) := by
    unfold rdKind
    rw [h]
    exact if_pos n
  unfold stopK
  rw [e]
  cases lpPart ws (behind (lordAt ws 0) 0) with
  | error p => rfl
  | ok r =>
    obtain ⟨ps, i2⟩ := r
    unfold stop2
    dsimp only
    cases rdPart ws (lordAt ws 0) i2 with
    | error p => rfl
    | ok r2 =>
      obtain ⟨rs, i3⟩ := r2
      dsimp only
      by_cases c : (decide (i3 < ws.length) || (ps.isEmpty && rs.isEmpty)) = true
      · rw [if_pos c, if_pos c]
      · rw [if_neg c, if_neg c]
theorem rdMore_le {ws : List Str} : ∀ {f i : Nat} {a0 u0 : Int} {acc ps : List (Int × Int)} {j : Nat}, rdMore ws f i a0 u0 acc = .ok (ps, j) → i ≤ ws.length → j ≤ ws.length
  | 0, i, a0, u0, acc, ps, j, h, hi => by cases h; exact hi
  | f + 1, i, a0, u0, acc, ps, j, h, hi => by
    have h : (if ws[i]? = some comma then (match rdLeap ws (i + 1) a0 u0 with
      | .error p => .error p
      | .ok (a, u) => rdMore ws f (i + 3) a u (acc ++ [(a, u)])) else .ok (acc, i)) = Except.ok (ps, j) := h
    by_cases e : ws[i]? = some comma
    · rw [if_pos e] at h
      cases hr : rdLeap ws (i + 1) a0 u0 with
      | error p => rw [hr] at h; cases h
      | ok r =>
        rw [hr] at h
        have := rdLeap_len hr
        exact rdMore_le h (by omega)
    · rw [if_neg e] at h; cases h; exact hi
theorem rdLeaps_le {ws : List Str} {i : Nat} {ps : List (Int × Int)} {j : Nat} (h : rdLeaps ws i = .ok (ps, j)) : j ≤ ws.length := by
  unfold rdLeaps at h
  cases hr : rdLeap ws i (-3) (-4) with
  | error p => rw [hr] at h; cases h
  | ok r =>
    rw [hr] at h
    exact rdMore_le h (rdLeap_len hr)
theorem cut1 {ws : List Str} {j : Nat} (hj : j ≤ ws.length) : cutV (ws.map V.str) (some (j : Int)) (some ((j : Int) + 1)) = ((ws.drop j).take 1).map V.str := by
  unfold cutV
  rw [show ((j : Int) + 1) = ((j + 1 : Nat) : Int) from by push_cast; rfl, HT.sIx_nat, HT.sIx_nat, List.length_map, Nat.min_eq_left hj, ← List.map_drop, ← List.map_take]
  congr 1
  refine List.take_eq_take_iff.mpr ?_
  rw [List.length_drop]
  omega
theorem eqv_one {l : List Str} {w : Str} : PyData.eqv (.list ((l.take 1).map PyData.str)) (.list [.str w]) = decide (l[0]? = some w) := by
  cases l with
  | nil => simp [PyData.eqv, PyData.eqvAll]
  | cons a r =>
    simp [PyData.eqv, PyData.eqvAll]
    rw [Bool.eq_iff_iff]; simp
theorem eqv_at {ws : List Str} {j : Nat} {w : Str} : PyData.eqv (.list (((ws.drop j).take 1).map PyData.str)) (.list [.str w]) = decide (ws[j]? = some w) := by
  rw [eqv_one, List.getElem?_drop]; rfl
section
variable {P : Program} {w : World} {K : PySem.W.Frag} {mg : Str → Option Value} {base : Heap}
def spStop (K : PySem.W.Frag) : Sp := fun vs H Q _ => ∃ (a : Addr) (ws : List Str), vs = [.ref a] ∧ SqL K H a (ws.map V.str) ∧ Wd ws ∧ ws ≠ [] ∧ ∀ H', Same H H' → Q (oN (stopK ws)) H'
theorem O__law_stop (T : Tx K mg w) : FnOk P w K mg base CX0 3 T.a__law_stop T.d__law_stop ["items"] (spStop K) := by
  refine T.F__law_stop.ok sc__law_stop (fun vs H Q E h => ?_) (fun cdv A outer s H vs Q E hr h => ?_)
  · obtain ⟨a, ws, rfl, _⟩ := h; rfl
  obtain ⟨a, ws, rfl, hS, wd, hne, k⟩ := h
  refine ⟨_, (pss_cons (ps_if (pt_not (pt_val (pe_call (O__law_is_name T) (hr.mono (by decide)) (by rfl) T.m__law_is_name T.F__law_is_name.kp T.b__law_is_name .nil pass0 (pa_cons (pe_ix ix_list (pv 0) pe_int (fun _ _ => rfl)) pa_nil)))) (pss_one (ps_ret pe_int)) pss_nil)
      (pss_cons (ps_set (i := 1) sc__law_stop.nd rfl (Or.inl rfl) (pe_cmpR (op_eqD hr.units) (pe_slice sl_list (pv 0) (po_some pe_int) (po_some pe_int)) (pe_lst (pa_cons pe_str pa_nil)) (nomark _)))
      (pss_cons (ps_set (i := 2) sc__law_stop.nd rfl (Or.inl rfl) (pe_ifExp (pt_val (pv 1)) pe_int pe_int))
      (pss_cons (ps_set (i := 3) sc__law_stop.nd rfl (Or.inl rfl) (pe_cmpR (op_eqD hr.units) (pe_slice sl_list (pv 0) (po_some (pv 2)) (po_some (pe_op op_add (pv 2) pe_int))) (pe_lst (pa_cons pe_str pa_nil)) (nomark _)))
      (pss_cons (ps_if (pt_val (pv 3)) (pss_cons (ps_asg (pe_call (O__law_leaps_stop T) (hr.mono (by decide)) (by rfl) T.m__law_leaps_stop T.F__law_leaps_stop.kp T.b__law_leaps_stop .nil pass0 (pa_cons (pv 0) (pa_cons (pe_op op_add (pv 2) pe_int) pa_nil))) (pg_tup rfl (pgs_cons (pg_name (i := 2) sc__law_stop.nd rfl (Or.inl rfl)) (pgs_cons (pg_name (i := 4) sc__law_stop.nd rfl (Or.inl rfl)) pgs_nil))))
      (pss_one (ps_if (pt_val (pv 4)) (pss_one (ps_ret (pv 2))) pss_nil))) pss_nil)
      (pss_cons (ps_if (PW.pt (pw_and (pt_cmpR op_lt (pv 2) (pe_callB call_len_seq (by rfl) T.z_len (by decide +kernel) (pa_cons (pv 0) pa_nil)) (nomark _)) (pw_and (pt_cmpR op_eq (pe_ix ix_list (pv 0) (pv 2) (fun _ _ => rfl)) pe_str (nomark _)) (pw_and1 (pt_not (pt_val (pv 1))))))) (pss_cons (ps_par (i := 5) (j := 2) rfl sc__law_stop.nd rfl rfl (by decide) rfl rfl (pa_cons (pe_lst (pa_cons pe_str (pa_cons pe_str (pa_cons pe_str (pa_cons pe_str pa_nil))))) (pa_cons (pe_op op_add (pv 2) pe_int) pa_nil)) (by rfl))
      (pss_cons (ps_if (pt_cmpR op_eq (pv 2) (pe_callB call_len_seq (by rfl) T.z_len (by decide +kernel) (pa_cons (pv 0) pa_nil)) (nomark _)) (pss_one (ps_ret (pv 2))) pss_nil)
      (pss_cons (ps_while PassesOwn.never (pt_cmpR op_lt (pv 2) (pe_callB call_len_seq (by rfl) T.z_len (by decide +kernel) (pa_cons (pv 0) pa_nil)) (nomark _)) (pss_cons (ps_if (pt_cmpR op_notIn_seq (pe_ix ix_list (pv 0) (pv 2) (fun _ _ => rfl)) (pv 5) (by rfl)) (pss_one (ps_ret (pv 2))) pss_nil)
      (pss_one (ps_par (i := 5) (j := 2) rfl sc__law_stop.nd rfl rfl (by decide) rfl rfl (pa_cons (pe_slice sl_list (pv 5) (po_some (pe_op op_add (pe_bm PySem.F.plainAttrs_list PySem.F.slot_list_index PySem.F.type_list_index mt_index (pv 5) (pa_cons (pe_ix ix_list (pv 0) (pv 2) (fun _ _ => rfl)) pa_nil)) pe_int)) po_none) (pa_cons (pe_op op_add (pv 2) pe_int) pa_nil)) (by rfl)))))
      (pss_one (ps_ret pe_non))))) pss_nil)
      (pss_one (ps_ret (pe_ifExp (PW.pt (pw_and (pt_val (pv 3)) (pw_and1 (pt_cmpR op_eq (pv 2) (pe_callB call_len_seq (by rfl) T.z_len (by decide +kernel) (pa_cons (pv 0) pa_nil)) (nomark _))))) pe_non (pv 2)))))))))), ?_⟩
  obtain ⟨z, hz⟩ : ∃ z, ws[0]? = some z := by
    cases ws with
    | nil => exact absurd rfl hne
    | cons b r => exact ⟨b, rfl⟩
  have zm := List.mem_of_getElem? hz
  have hlen := wd.sm.1
  have hpos : 1 ≤ ws.length := (List.getElem?_eq_some_iff.mp hz).1
  have shp : ∀ j, SeqAt.shaped (.list (((ws.drop j).take 1).map PyData.str)) = true := fun j => shT fun r hr => wd.ok r (List.mem_of_mem_drop (List.mem_of_mem_take hr))
  -- not a name
  refine ⟨_, rfl, a, _, _, .str z, rfl, rfl, hS, atI_nat (j := 0) (by rw [List.getElem?_map, hz]; rfl), z, rfl, wd.sm.2 z zm, wd.ok z zm, fun H1 s1 => ⟨_, rfl, ?_⟩⟩
  refine iteB (fun e => ?_) (fun e => ?_)
  · have e : isNameS z = false := by simpa using e
    have := k H1 s1
    rw [stopK_no hz e] at this
    exact this
  have hn : isNameS z = true := by simpa using e
  have hst := stopK_lp hz hn
  have hS1 : SqL K H1 a (ws.map V.str) := Same.seq s1 hS
  -- is_lord
  unfold tNext
  dsimp only
  refine seq_asg (.bl (lordAt ws 0)) (fun Q' hq => ?_) (fun H2 s2 => ?_)
  · refine ⟨_, rfl, _, rfl, _, rfl, a, _, rfl, hS1, fun p hp => ⟨szl rfl, fun e he => ?_⟩⟩
    have ec : cutV (ws.map V.str) (some 1) (some 2) = ((ws.drop 1).take 1).map V.str := cut1 hpos
    have gp : upd H1 p (.lst (cutV (ws.map V.str) (some 1) (some 2))) p = some (.lst (((ws.drop 1).take 1).map V.str)) := by rw [upd_same, ec]
    refine ⟨.list (((ws.drop 1).take 1).map PyData.str), .list [.str "lord"], .lst (.of (by rw [upd_ne (ne_of_none gp he)]; exact gp)) (dp_strs _), .lst (.of upd_same) (.cons (.str _) .nil), shp 1, by decide +kernel, ?_⟩
    rw [eqv_at]
    exact hq _ ((same_new hp).trans (same_new he))
  dsimp only [gName]
  -- at
  have hb : behind (lordAt ws 0) 0 ≤ ws.length := by
    unfold behind
    split
    · rename_i h
      have h1 : ws[1]? = some ("lord" : Str) := of_decide_eq_true h
      have := (List.getElem?_eq_some_iff.mp h1).1
      omega
    · omega
  refine seq_asg (.int (behind (lordAt ws 0) 0 : Nat)) (fun Q' hq => ?_) (fun H3 s3 => ?_)
  · refine ⟨_, rfl, _, rfl, ?_⟩
    cases hl : lordAt ws 0 with
    | true => rw [hl] at hq; exact iteT' rfl (hq H2 (Same.refl _))
    | false => rw [hl] at hq; exact iteF (hq H2 (Same.refl _))
  dsimp only [gName]
  generalize hq : lordAt ws 0 = q at *
  generalize hat : behind q 0 = at1 at *
  have s13 := (s1.trans s2).trans s3
  have hS3 : SqL K H3 a (ws.map V.str) := Same.seq s13 hS
  clear s2 s3 hS1 H2
  -- has_leaps
  refine seq_asg (.bl (decide (ws[at1]? = some ("leaps" : Str)))) (fun Q' hq => ?_) (fun H4 s4 => ?_)
  · refine ⟨_, rfl, _, rfl, _, rfl, _, rfl, _, _, rfl, rfl, _, rfl, a, _, rfl, hS3, fun p hp => ⟨szl rfl, fun e he => ?_⟩⟩
    have gp : upd H3 p (.lst (cutV (ws.map V.str) (some (at1 : Int)) (some ((at1 : Int) + 1)))) p = some (.lst (((ws.drop at1).take 1).map V.str)) := by rw [upd_same, cut1 hb]
    refine ⟨.list (((ws.drop at1).take 1).map PyData.str), .list [.str "leaps"], .lst (.of (by rw [upd_ne (ne_of_none gp he)]; exact gp)) (dp_strs _), .lst (.of upd_same) (.cons (.str _) .nil), shp at1, by decide +kernel, ?_⟩
    rw [eqv_at]
    exact hq _ ((same_new hp).trans (same_new he))
  dsimp only [gName]
  have s14 := s13.trans s4
  have hS4 : SqL K H4 a (ws.map V.str) := Same.seq s14 hS
  clear hS3 s4 s13 H3
  refine seq_st (fun σ' H' => ∃ (i2 : Nat) (e : Bool) (t4 t5 : Option V), σ' = [some (.ref a), some (.bl q), some (.int (i2 : Int)), some (.bl (!e)), t4, t5] ∧ Same H H' ∧ i2 ≤ ws.length ∧ stopK ws = stop2 ws q e i2) (fun N hN => ?_) ?_
  · refine ⟨_, rfl, _, rfl, ?_⟩
    refine iteB (fun e => ?_) (fun e => ?_)
    · have e := of_decide_eq_true e
      have hl1 : at1 < ws.length := (List.getElem?_eq_some_iff.mp e).1
      have elp : lpPart ws at1 = rdLeaps ws (at1 + 1) := if_pos e
      rw [elp] at hst
      refine ⟨_, rfl, _, rfl, _, _, rfl, rfl, a, ws, at1 + 1, (by rw [show ((at1 + 1 : Nat) : Int) = (at1 : Int) + 1 from by push_cast; rfl]; rfl), hS4, wd, by omega, fun t H5 s5 ht h5 => ?_⟩
      refine ⟨t, _, rfl, .of h5, rfl, _, _, rfl, _, _, rfl, rfl, ?_⟩
      dsimp only [gName]
      refine ⟨_, rfl, _, rfl, ?_⟩
      cases hr1 : rdLeaps ws (at1 + 1) with
      | error p =>
        rw [hr1] at hst
        refine iteT ⟨_, rfl, ?_⟩
        have := k H5 (s14.trans s5)
        rw [hst] at this
        exact this
      | ok r =>
        obtain ⟨ps, j⟩ := r
        rw [hr1] at hst
        refine iteF (hN _ _ ⟨j, false, some (.bl false), none, ?_, s14.trans s5, rdLeaps_le hr1, ?_⟩)
        · rw [decide_eq_true e]; rfl
        · have hne := (rdLeaps_good hr1).2
          have : ps.isEmpty = false := by cases ps with
            | nil => exact absurd rfl hne
            | cons a b => rfl
          rw [hst]
          show stop2 ws q ps.isEmpty j = _
          rw [this]
    · have e := of_decide_eq_false e
      have elp : lpPart ws at1 = .ok ([], at1) := if_neg e
      rw [elp] at hst
      refine hN _ _ ⟨at1, true, none, none, ?_, s14, hb, hst⟩
      rw [decide_eq_false e]; rfl
  rintro σ' H5 ⟨i2, e, t4, t5, rfl, s5, hi2, hs2⟩
  clear hst hS4 s14 H4 hb s1 H1
  have hS5 : SqL K H5 a (ws.map V.str) := Same.seq s5 hS
  refine seq_st (fun σ' H' => σ' = [some (.ref a), some (.bl q), some (.int (i2 : Int)), some (.bl (!e)), t4, t5] ∧ Same H H' ∧ rdPart ws q i2 = .ok ([], i2)) (fun N hN => ?_) ?_
  rotate_left
  · rintro σ' H6 ⟨rfl, s6, hrp⟩
    have hS6 : SqL K H6 a (ws.map V.str) := Same.seq s6 hS
    have hres : stopK ws = if (decide (i2 < ws.length) || (e && true)) = true then some i2 else none := by
      rw [hs2]
      unfold stop2
      rw [hrp]
      rfl
    have kk := k H6 s6
    refine ⟨_, rfl, _, rfl, ?_⟩
    cases e with
    | true =>
      refine iteF ⟨_, rfl, ?_⟩
      rw [hres, Bool.and_self, Bool.or_true, if_pos rfl] at kk
      exact kk
    | false =>
      refine iteT' rfl ⟨_, rfl, _, rfl, a, _, rfl, .inl hS6, rfl, _, rfl, ?_⟩
      refine iteB (fun e => ?_) (fun e => ?_)
      · have e : i2 = ws.length := by
          have := V.int.inj (of_decide_eq_true e)
          rw [List.length_map] at this
          omega
        rw [hres, decide_eq_false (by omega), if_neg (by simp)] at kk
        exact kk
      · have e : i2 ≠ ws.length := fun z => by
          have := of_decide_eq_false e
          rw [List.length_map, z] at this
          exact this rfl
        rw [hres, decide_eq_true (show i2 < ws.length by omega), Bool.true_or, if_pos rfl] at kk
        exact ⟨_, rfl, kk⟩
  have skip : rdPart ws q i2 = .ok ([], i2) → N [some (.ref a), some (.bl q), some (.int (i2 : Int)), some (.bl (!e)), t4, t5] H5 := fun h => hN _ _ ⟨rfl, s5, h⟩
  -- at < len(items) and items[at] == 'rides' and not is_lord
  refine ⟨_, rfl, _, rfl, a, _, rfl, .inl hS5, _, _, rfl, rfl, _, rfl, ?_⟩
  rw [List.length_map]
  refine iteB (fun e1 => ?_) (fun e1 => ?_)
  rotate_left
  · have e1 := of_decide_eq_false e1
    refine iteF (skip (if_neg fun h => ?_))
    have := (List.getElem?_eq_some_iff.mp h.2).1
    omega
  have e1 : i2 < ws.length := by have := of_decide_eq_true e1; omega
  obtain ⟨y, hy⟩ : ∃ y, ws[i2]? = some y := ⟨ws[i2], List.getElem?_eq_getElem e1⟩
  refine ⟨_, rfl, _, rfl, a, _, _, .str y, rfl, rfl, hS5, atI_nat (by rw [List.getElem?_map, hy]; rfl), rfl, _, rfl, ?_⟩
  refine iteB (fun e2 => ?_) (fun e2 => ?_)
  rotate_left
  · refine iteF (skip (if_neg fun h => ?_))
    rw [hy] at h
    have e2 : ¬ V.str y = V.str "rides" := of_decide_eq_false e2
    exact e2 (by rw [Option.some.inj h.2])
  have e2 : y = ("rides" : Str) := V.str.inj (of_decide_eq_true e2)
  subst e2
  refine ⟨_, rfl, _, rfl, ?_⟩
  cases hq2 : q with
  | true =>
    subst hq2
    exact iteF (skip (if_neg fun h => by cases h.1))
  | false =>
  subst hq2
  refine iteT ?_
  have hrp : rdPart ws false i2 = rdRides ws 5 (i2 + 1) steps4 [] := if_pos ⟨rfl, hy⟩
  have hres : stopK ws = match rdRides ws 5 (i2 + 1) steps4 [] with
      | .error p => some p
      | .ok (rs, i3) => if (decide (i3 < ws.length) || (e && rs.isEmpty)) = true then some i3 else none := by
    rw [hs2]; unfold stop2; rw [hrp]
  -- words, at = [..], at + 1
  refine ⟨szl rfl, fun b hb => ⟨_, rfl, _, _, rfl, rfl, _, _, rfl, ?_⟩⟩
  have s6 : Same H5 (upd H5 b (.lst [.str "right", .str "left", .str "up", .str "down"])) := same_new hb
  have hb6 : upd H5 b (.lst [.str "right", .str "left", .str "up", .str "down"]) b = some (.lst (steps4.map V.str)) := upd_same
  have s06 := s5.trans s6
  have hS6 : SqL K _ a (ws.map V.str) := Same.seq s06 hS
  generalize upd H5 b (.lst [.str "right", .str "left", .str "up", .str "down"]) = H6 at s6 s06 hb6 hS6 ⊢
  clear hb s6 s5 hS5 hN skip
  dsimp only [List.set]
  have ej : ((i2 : Int) + 1) = ((i2 + 1 : Nat) : Int) := by push_cast; rfl
  rw [ej]
  -- at == len(items)
  refine ⟨_, rfl, _, rfl, a, _, rfl, .inl hS6, rfl, _, rfl, ?_⟩
  refine iteB (fun e3 => ?_) (fun e3 => ?_)
  · have e3 : i2 + 1 = ws.length := by
      have := V.int.inj (of_decide_eq_true e3)
      rw [List.length_map] at this
      omega
    have er : rdRides ws 5 (i2 + 1) steps4 [] = .error (i2 + 1) := by
      show (if (true || _) = true then (match ws[i2 + 1]? with
        | none => Except.error (i2 + 1)
        | some z => _) else _) = _
      rw [Bool.true_or, if_pos rfl, List.getElem?_eq_none (by omega)]
    have kk := k H6 s06
    rw [hres, er] at kk
    exact ⟨_, rfl, kk⟩
  have e3 : i2 + 1 < ws.length := by
    have := of_decide_eq_false e3
    rw [List.length_map] at this
    have : i2 + 1 ≠ ws.length := fun z => this (by rw [z])
    omega
  dsimp only
  -- while at < len(items)
  refine ⟨fun m σ H' => ∃ (b : Addr) (later acc : List Str) (j : Nat) (ji : Int), σ = [some (.ref a), some (.bl false), some (.int ji), some (.bl (!e)), t4, some (.ref b)] ∧ ji = (j : Int) ∧ Same H H' ∧ H' b = some (.lst (later.map V.str)) ∧ later.length < m ∧ (acc ≠ [] ∨ j < ws.length) ∧ j ≤ ws.length ∧
      rdRides ws 5 (i2 + 1) steps4 [] = rdRides ws m j later acc, ⟨5, b, steps4, [], i2 + 1, _, rfl, rfl, s06, hb6, by decide, .inr e3, by omega, rfl⟩, ?_⟩
  clear hb6 hS6 s06 H6 b
  rintro m σ H6 ⟨b, later, acc, j, ji, rfl, rfl, s6, hb, hlm, hne2, hj, hR⟩
  cases m with
  | zero => omega
  | succ m =>
  have hR : rdRides ws 5 (i2 + 1) steps4 [] = if (acc.isEmpty || decide (j < ws.length)) = true then
      match ws[j]? with
      | none => .error j
      | some z => if z ∈ later then rdRides ws m (j + 1) (later.drop (later.idxOf z + 1)) (acc ++ [z]) else .error j
    else .ok (acc, j) := hR
  have hS6 : SqL K H6 a (ws.map V.str) := Same.seq s6 hS
  refine ⟨_, rfl, _, rfl, a, _, rfl, .inl hS6, _, _, rfl, rfl, _, rfl, ?_⟩
  rw [List.length_map]
  refine iteB (fun e4 => ?_) (fun e4 => ?_)
  rotate_left
  · have e4 := of_decide_eq_false e4
    have hna : acc ≠ [] := hne2.resolve_right (by omega)
    have ea : acc.isEmpty = false := by cases acc with
      | nil => exact absurd rfl hna
      | cons a b => rfl
    rw [ea, decide_eq_false (show ¬ j < ws.length by omega), if_neg (by simp)] at hR
    have kk := k H6 s6
    rw [hres, hR] at kk
    dsimp only at kk
    rw [ea, decide_eq_false (show ¬ j < ws.length by omega), Bool.and_false, if_neg (by simp)] at kk
    exact kk
  have e4 : j < ws.length := by have := of_decide_eq_true e4; omega
  obtain ⟨y, hyj⟩ : ∃ y, ws[j]? = some y := ⟨ws[j], List.getElem?_eq_getElem e4⟩
  rw [decide_eq_true e4, Bool.or_true, if_pos rfl, hyj] at hR
  dsimp only at hR
  refine ⟨fun σ' H' => ∃ m', m' < m + 1 ∧ ∃ (b : Addr) (later acc : List Str) (j : Nat) (ji : Int), σ' = [some (.ref a), some (.bl false), some (.int ji), some (.bl (!e)), t4, some (.ref b)] ∧ ji = (j : Int) ∧ Same H H' ∧ H' b = some (.lst (later.map V.str)) ∧ later.length < m' ∧ (acc ≠ [] ∨ j < ws.length) ∧ j ≤ ws.length ∧
      rdRides ws 5 (i2 + 1) steps4 [] = rdRides ws m' j later acc, fun σ' H' h => h, ?_⟩
  have hitem : atI (ws.map V.str) (j : Int) = some (.str y) := atI_nat (by rw [List.getElem?_map, hyj]; rfl)
  refine ⟨_, rfl, _, rfl, a, _, _, .str y, rfl, rfl, hS6, hitem, _, rfl, b, _, rfl, .inl (.of hb), rfl, all_flat _, _, rfl, ?_⟩
  refine iteB (fun e5 => ?_) (fun e5 => ?_)
  · have e5 : (!inV (.str y) (later.map V.str)) = true := e5
    rw [inV_str] at e5
    rw [if_neg (fun h => by rw [decide_eq_true h] at e5; cases e5)] at hR
    have kk := k H6 s6
    rw [hres, hR] at kk
    exact ⟨_, rfl, kk⟩
  have hm : y ∈ later := by
    have e5 : (!inV (.str y) (later.map V.str)) = false := e5
    rw [inV_str] at e5
    simpa using e5
  rw [if_pos hm] at hR
  have hin := idx_at hm
  refine ⟨_, rfl, _, rfl, .inl ⟨rfl, _, .of hb⟩, _, rfl, _, rfl, a, _, _, .str y, rfl, rfl, hS6, hitem, b, _, .str y, later.idxOf y, .str y, rfl, rfl, .of hb, rfl, all_flat _, ?_, ?_, ?_, _, _, rfl, rfl, _, rfl, b, _, rfl, .of hb, fun b2 hb2 => ?_⟩
  · rw [List.getElem?_map, hin]; rfl
  · show (y == y) = true
    simp
  · intro k u hk hu
    rw [List.getElem?_map] at hu
    cases hq : later[k]? with
    | none => rw [hq] at hu; cases hu
    | some v =>
      rw [hq] at hu
      obtain rfl : V.str v = u := Option.some.inj hu
      show (v == y) = false
      exact idx_no hk hq
  have ecut : cutV (later.map V.str) (some (((later.idxOf y : Nat) : Int) + 1)) none = (later.drop (later.idxOf y + 1)).map V.str := cut_from later (later.idxOf y + 1)
  rw [ecut]
  have ld : (later.drop (later.idxOf y + 1)).length + 1 ≤ later.length := by
    rw [List.length_drop]
    have := (List.getElem?_eq_some_iff.mp hin).1
    omega
  refine ⟨_, rfl, _, _, rfl, rfl, _, _, rfl, m, Nat.lt_succ_self _, b2, later.drop (later.idxOf y + 1), acc ++ [y], j + 1, _, rfl, by push_cast; rfl, s6.trans (same_new hb2), upd_same, by omega, .inl (by simp), by omega, hR⟩
end
end Kd

set_option Elab.async false
set_option linter.all false
set_option maxRecDepth 100000
set_option maxHeartbeats 4000000
namespace Kd
open PySem PySem.Spec PyProof.Rows L2 Gs
theorem op_mulS {X : Cx} : OpR X (binaryOp .Mult) (fun x y H Q => ∃ z n, x = .str z ∧ y = .int n ∧ MulOk z n ∧ Q (.str (Txt.mul z n)) H) := by
  intro pins s σ H x y v u Q I rx ry h
  obtain ⟨z, n, rfl, rfl, ok, q⟩ := h
  obtain ⟨t, rfl⟩ := rx
  obtain ⟨t', rfl⟩ := ry
  exact SB.mul ok fun t' tk => ⟨.str (Txt.mul z n), H, I.tok _, ⟨_, rfl⟩, q⟩
theorem ok9 : MulOk "9" 71 := ⟨by decide +kernel, fun _ _ => by decide +kernel, fun _ _ => by decide +kernel⟩
instance (x : Str) : Decidable (SOk x) := inferInstanceAs (Decidable (PyData.strOk x = true))
/-- words of a small text -/
structure Wb (B : Nat) (ws : List Str) : Prop where
  len : ws.length ≤ B
  each : ∀ y ∈ ws, y.length ≤ 80 ∧ SOk y
/-- an expression that makes a new list of such words -/
def LtE (H3 : Hp) (ok : Str → Prop) (m : Nat) (te : TE) (σ : L2.St) : Prop := ∀ H', Same H3 H' → ∀ Q' : VK, (∀ (p : Addr) (L : List Str) (H'' : Hp), Same H' H'' → H' p = none → H'' p = some (.lst (L.map V.str)) → (∀ y ∈ L, ok y) → L.length ≤ m → Q' (.ref p) H'') → te σ H' Q'
theorem lt_cat {H3 : Hp} {ok : Str → Prop} {m1 m2 : Nat} {ta tb : TE} {σ : L2.St} (h1 : LtE H3 ok m1 ta σ) (h2 : LtE H3 ok m2 tb σ) (hm : m1 + m2 ≤ 1000000) : LtE H3 ok (m1 + m2) (tOp rCat ta tb) σ := fun H' s Q' k => by
  refine h1 H' s _ fun p1 L1 H1 s1 _ g1 o1 l1 => ?_
  refine h2 H1 (s.trans s1) _ fun p2 L2 H2 s2 _ g2 o2 l2 => ?_
  refine ⟨p1, p2, _, _, rfl, rfl, s2 _ _ g1, g2, ?_, fun p hp => ?_⟩
  · rw [List.length_map, List.length_map]
    exact szM (by omega)
  · refine k p (L1 ++ L2) _ ((s1.trans s2).trans (same_new hp)) ((s1.trans s2).free hp) (by rw [upd_same, List.map_append]) (fun y hy => ?_) (by rw [List.length_append]; omega)
    rcases List.mem_append.mp hy with h | h
    · exact o1 y h
    · exact o2 y h
theorem lt_mono {H3 : Hp} {ok : Str → Prop} {m m' : Nat} {te : TE} {σ : L2.St} (h : LtE H3 ok m te σ) (hm : m ≤ m') : LtE H3 ok m' te σ := fun H' s Q' k => h H' s Q' fun p L H'' s' f g o l => k p L H'' s' f g o (Nat.le_trans l hm)
theorem cut_some {ws : List Str} (lo hi : Option Int) : ∃ L : List Str, cutV (ws.map V.str) lo hi = L.map V.str ∧ (∀ y ∈ L, y ∈ ws) ∧ L.length ≤ ws.length := by
  unfold cutV
  rw [← List.map_drop, ← List.map_take]
  exact ⟨_, rfl, fun y h => List.mem_of_mem_drop (List.mem_of_mem_take h), Nat.le_trans (List.length_take_le' ..) (by rw [List.length_drop]; omega)⟩
theorem lt_sl {K : PySem.W.Frag} {H3 : Hp} {ok : Str → Prop} {ws : List Str} {a : Addr} {te : TE} {tl th : TO} {σ : L2.St} (he : ∀ H' R, R (.ref a) H' → te σ H' R) (ha : H3 a = some (.lst (ws.map V.str))) (ho : ∀ y ∈ ws, ok y)
    (hl : ∀ H' R, (∀ o, R o H') → tl σ H' R) (hh : ∀ H' R, (∀ o, R o H') → th σ H' R) : LtE H3 ok ws.length (tSl (rSlL K) te tl th) σ := fun H' s Q' k => by
  refine he H' _ (hl H' _ fun lo => hh H' _ fun hi => ?_)
  refine ⟨a, _, rfl, .of (s _ _ ha), fun p hp => ?_⟩
  obtain ⟨L, e, o, l⟩ := cut_some (ws := ws) lo hi
  rw [e]
  exact k p L _ (same_new hp) hp upd_same (fun y h => ho y (o y h)) l
theorem lt_rev {K : PySem.W.Frag} {H3 : Hp} {ok : Str → Prop} {m : Nat} {te : TE} {σ : L2.St} (h : LtE H3 ok m te σ) : LtE H3 ok m (tRevL K te) σ := fun H' s Q' k => by
  refine h H' s _ fun p1 L1 H1 s1 f1 g1 o1 l1 => ⟨p1, _, rfl, .of g1, fun p hp => ?_⟩
  exact k p L1.reverse _ (s1.trans (same_new hp)) (s1.free hp) (by rw [upd_same, List.map_reverse]) (fun y hy => o1 y (List.mem_reverse.mp hy)) (by rw [List.length_reverse]; exact l1)
theorem lt_one {H3 : Hp} {ok : Str → Prop} {te : TE} {σ : L2.St} {x : Str} (he : ∀ H' R, R (.str x) H' → te σ H' R) (ho : ok x) : LtE H3 ok 1 (tLst (tCons te tNil)) σ := fun H' s Q' k => by
  refine he H' _ ⟨szl rfl, fun p hp => ?_⟩
  exact k p [x] _ (same_new hp) hp upd_same (fun y hy => by rw [List.mem_singleton.mp hy]; exact ho) (Nat.le_refl _)
def menu : List Str := ["", "lord", "leaps", "rides", "right", "left", "up", "down", ",", "0", "1", "-1", "3", "-3", "4", "-4", "--1", "01", "-0", "+1", "stone", "x", Txt.mul "9" 71, "up\n"]
theorem menu_ok : ∀ y ∈ menu, y.length ≤ 80 ∧ SOk y := by decide +kernel
section
variable {P : Program} {w : World} {K : PySem.W.Frag} {mg : Str → Option Value} {base : Heap}
def spBent : Sp := fun vs H Q _ => ∃ (c l a : Addr) (n B : Nat) (ws : List Str), vs = [.ref c, .ref a] ∧ Bag c l n H ∧ n ≤ 900000 ∧ a ≠ c ∧ H a = some (.lst (ws.map V.str)) ∧ Wb B ws ∧ B ≤ 1000 ∧
  ∀ b ws' H', H b = none → b ≠ c → b ≠ l → H' b = some (.lst (ws'.map V.str)) → Wb (3 * B + 1) ws' → Bag c l (n + 3) H' → Gs.Ext c H H' → Q (.ref b) H'
theorem O__law_bent (T : Tx K mg w) : FnOk P w K mg base CX0 3 T.a__law_bent T.d__law_bent ["scroll", "items"] spBent := by
  refine T.F__law_bent.ok sc__law_bent (fun vs H Q E h => ?_) (fun cdv A outer s H vs Q E hr h => ?_)
  · obtain ⟨c, l, a, n, B, ws, rfl, _⟩ := h; rfl
  obtain ⟨c, l, a, n, B, ws, rfl, hb, hN, nac, ha, wb, hB, k⟩ := h
  refine ⟨_, (pss_cons (ps_par (i := 2) (j := 3) rfl sc__law_bent.nd rfl rfl (by decide) rfl rfl (pa_cons (pe_call (O__law_unroll T) (hr.mono (by decide)) (by rfl) T.m__law_unroll T.F__law_unroll.kp T.b__law_unroll .nil pass0 (pa_cons (pv 0) (pa_cons (pe_op op_add (pe_callB call_len_seq (by rfl) T.z_len (by decide +kernel) (pa_cons (pv 1) pa_nil)) pe_int) pa_nil))) (pa_cons (pe_call (O__law_unroll T) (hr.mono (by decide)) (by rfl) T.m__law_unroll T.F__law_unroll.kp T.b__law_unroll .nil pass0 (pa_cons (pv 0) (pa_cons pe_int pa_nil))) pa_nil)) (by rfl))
      (pss_cons (ps_set (i := 4) sc__law_bent.nd rfl (Or.inl rfl) (pe_call (O__law_one T) (hr.mono (by decide)) (by rfl) T.m__law_one T.F__law_one.kp T.b__law_one .nil pass0 (pa_cons (pv 0) (pa_cons (pe_lst (pa_cons pe_str (pa_cons pe_str (pa_cons pe_str (pa_cons pe_str (pa_cons pe_str (pa_cons pe_str (pa_cons pe_str (pa_cons pe_str (pa_cons pe_str (pa_cons pe_str (pa_cons pe_str (pa_cons pe_str (pa_cons pe_str (pa_cons pe_str (pa_cons pe_str (pa_cons pe_str (pa_cons pe_str (pa_cons pe_str (pa_cons pe_str (pa_cons pe_str (pa_cons pe_str (pa_cons pe_str (pa_cons (pe_op op_mulS pe_str pe_int) (pa_cons pe_str pa_nil))))))))))))))))))))))))) pa_nil))))
      (pss_cons (ps_if (pt_cmpR op_lt (pv 3) pe_int (nomark _)) (pss_one (ps_ret (pe_op op_cat (pe_op op_cat (pe_slice sl_list (pv 1) po_none (po_some (pv 2))) (pe_lst (pa_cons (pv 4) pa_nil))) (pe_slice sl_list (pv 1) (po_some (pe_op op_add (pv 2) pe_int)) po_none)))) pss_nil)
      (pss_cons (ps_if (pt_cmpR op_eq (pv 3) pe_int (nomark _)) (pss_one (ps_ret (pe_op op_cat (pe_op op_cat (pe_slice sl_list (pv 1) po_none (po_some (pv 2))) (pe_lst (pa_cons (pv 4) pa_nil))) (pe_slice sl_list (pv 1) (po_some (pv 2)) po_none)))) pss_nil)
      (pss_cons (ps_if (pt_cmpR op_eq (pv 3) pe_int (nomark _)) (pss_one (ps_ret (pe_ifExp (pt_cmpR op_gt (pe_callB call_len_seq (by rfl) T.z_len (by decide +kernel) (pa_cons (pv 1) pa_nil)) pe_int (nomark _)) (pe_op op_cat (pe_slice sl_list (pv 1) po_none (po_some (pv 2))) (pe_slice sl_list (pv 1) (po_some (pe_op op_add (pv 2) pe_int)) po_none)) (pe_lst (pa_cons (pv 4) pa_nil))))) pss_nil)
      (pss_cons (ps_if (pt_cmpR op_eq (pv 3) pe_int (nomark _)) (pss_one (ps_ret (pe_op op_cat (pe_op op_cat (pe_slice sl_list (pv 1) po_none (po_some (pv 2))) (pe_revL (pe_slice sl_list (pv 1) (po_some (pv 2)) (po_some (pe_op op_add (pv 2) pe_int))))) (pe_slice sl_list (pv 1) (po_some (pe_op op_add (pv 2) pe_int)) po_none)))) pss_nil)
      (pss_cons (ps_if (pt_cmpR op_eq (pv 3) pe_int (nomark _)) (pss_one (ps_ret (pe_op op_cat (pe_slice sl_list (pv 1) po_none (po_some (pe_op op_add (pv 2) pe_int))) (pe_slice sl_list (pv 1) (po_some (pv 2)) po_none)))) pss_nil)
      (pss_one (ps_ret (pe_ifExp (pt_cmpR op_eq (pv 3) pe_int (nomark _)) (pe_slice sl_list (pv 1) po_none (po_some (pe_callB (call_max2 rfl) (by rfl) T.z_max (by decide +kernel) (pa_cons pe_int (pa_cons (pv 2) pa_nil))))) (pe_op op_cat (pv 1) (pe_lst (pa_cons (pv 4) pa_nil))))))))))))), ?_⟩
  have hl := wb.len
  refine ⟨_, rfl, _, rfl, a, _, rfl, .inl (.of ha), _, _, rfl, rfl, c, l, n, _, rfl, hb, by omega, by omega, ?_, fun at_ H1 a0 a1 b1 x1 => ⟨_, rfl, c, l, _, 8, rfl, b1, by omega, by decide, by decide, fun way H2 _ _ b2 x2 => ⟨_, _, rfl, ?_⟩⟩⟩
  · rw [List.length_map]; omega
  dsimp only [List.set]
  have x12 := x1.trans x2
  refine ⟨_, rfl, _, _, rfl, rfl, ok9, szl rfl, fun p hp => ⟨c, l, p, _, _, rfl, b2.new hp, by omega, b2.ne hp, .of upd_same, by simp, szl2 rfl, fun i v H3 hi b3 x3 => ?_⟩⟩
  have x123 := (x12.trans (Ext.new hp)).trans x3
  obtain ⟨new, hnew, rfl⟩ : ∃ new ∈ menu, V.str new = v := by
    have hm : v ∈ menu.map V.str := List.mem_of_getElem? hi
    obtain ⟨y, h1, h2⟩ := List.mem_map.mp hm
    exact ⟨y, h1, h2⟩
  clear hi x3 hp x12 x2 x1 b2 b1
  have ha3 := x123 _ _ nac ha
  have hcN : ∀ q, H3 q = none → H q = none ∧ q ≠ c ∧ q ≠ l := fun q h => ⟨x123.free' b3 h, b3.ne h, b3.ne2 h⟩
  have ok1 : ∀ y ∈ ws, y.length ≤ 80 ∧ SOk y := wb.each
  have fin : ∀ {m : Nat} {te : TE} {σ : L2.St}, LtE H3 (fun y => y.length ≤ 80 ∧ SOk y) m te σ → m ≤ 3 * B + 1 → te σ H3 Q := fun h hm => h H3 (Same.refl _) _ fun p L H' s' f g o len => by
    obtain ⟨f1, f2, f3⟩ := hcN p f
    exact k p L H' f1 f2 f3 g ⟨by omega, o⟩ (b3.same s') (x123.trans (Ext.of s'))
  have okn := menu_ok new hnew
  dsimp only [gName, List.set]
  have sl := fun (tl th : TO) (hl : ∀ H' R, (∀ o, R o H') → tl [some (.ref c), some (.ref a), some (.int at_), some (.int way), some (.str new)] H' R) (hh : ∀ H' R, (∀ o, R o H') → th [some (.ref c), some (.ref a), some (.int at_), some (.int way), some (.str new)] H' R) =>
    lt_sl (K := K) (te := tVar 1) (σ := [some (.ref c), some (.ref a), some (.int at_), some (.int way), some (.str new)]) (fun H' R h => ⟨_, rfl, h⟩) ha3 ok1 hl hh
  have one := lt_one (H3 := H3) (ok := fun y => y.length ≤ 80 ∧ SOk y) (te := tVar 4) (σ := [some (.ref c), some (.ref a), some (.int at_), some (.int way), some (.str new)]) (x := new) (fun H' R h => ⟨_, rfl, h⟩) okn
  -- way < 2
  refine ⟨_, rfl, _, _, rfl, rfl, _, rfl, ite2 (fun _ => ?_) (fun _ => ?_)⟩
  · exact fin (lt_cat (lt_cat (sl _ _ (fun H' R h => h none) (fun H' R h => ⟨_, rfl, _, rfl, h _⟩)) one (by omega)) (sl _ _ (fun H' R h => ⟨_, rfl, _, _, rfl, rfl, _, rfl, h _⟩) (fun H' R h => h none)) (by omega)) (by omega)
  -- way == 2
  refine ⟨_, rfl, rfl, _, rfl, ite2 (fun _ => ?_) (fun _ => ?_)⟩
  · exact fin (lt_cat (lt_cat (sl _ _ (fun H' R h => h none) (fun H' R h => ⟨_, rfl, _, rfl, h _⟩)) one (by omega)) (sl _ _ (fun H' R h => ⟨_, rfl, _, rfl, h _⟩) (fun H' R h => h none)) (by omega)) (by omega)
  -- way == 3
  refine ⟨_, rfl, rfl, _, rfl, ite2 (fun _ => ?_) (fun _ => ?_)⟩
  · refine ⟨_, rfl, a, _, rfl, .inl (.of ha3), _, _, rfl, rfl, _, rfl, ite2 (fun _ => ?_) (fun _ => ?_)⟩
    · exact fin (lt_cat (sl _ _ (fun H' R h => h none) (fun H' R h => ⟨_, rfl, _, rfl, h _⟩)) (sl _ _ (fun H' R h => ⟨_, rfl, _, _, rfl, rfl, _, rfl, h _⟩) (fun H' R h => h none)) (by omega)) (by omega)
    · exact fin one (by omega)
  -- way == 4
  refine ⟨_, rfl, rfl, _, rfl, ite2 (fun _ => ?_) (fun _ => ?_)⟩
  · exact fin (lt_cat (lt_cat (sl _ _ (fun H' R h => h none) (fun H' R h => ⟨_, rfl, _, rfl, h _⟩)) (lt_rev (sl _ _ (fun H' R h => ⟨_, rfl, _, rfl, h _⟩) (fun H' R h => ⟨_, rfl, _, _, rfl, rfl, _, rfl, h _⟩))) (by omega)) (sl _ _ (fun H' R h => ⟨_, rfl, _, _, rfl, rfl, _, rfl, h _⟩) (fun H' R h => h none)) (by omega)) (by omega)
  -- way == 5
  refine ⟨_, rfl, rfl, _, rfl, ite2 (fun _ => ?_) (fun _ => ?_)⟩
  · exact fin (lt_cat (sl _ _ (fun H' R h => h none) (fun H' R h => ⟨_, rfl, _, _, rfl, rfl, _, rfl, h _⟩)) (sl _ _ (fun H' R h => ⟨_, rfl, _, rfl, h _⟩) (fun H' R h => h none)) (by omega)) (by omega)
  -- way == 6, or else
  refine ⟨_, rfl, rfl, _, rfl, ite2 (fun _ => ?_) (fun _ => ?_)⟩
  · exact fin (sl _ _ (fun H' R h => h none) (fun H' R h => ⟨_, rfl, _, _, rfl, _, rfl, h _⟩)) (by omega)
  refine ⟨_, rfl, _, rfl, szl rfl, fun e he => ⟨a, e, _, _, rfl, rfl, by rw [upd_ne (ne_of_none ha3 he)]; exact ha3, upd_same, ?_, fun p hp => ?_⟩⟩
  · rw [List.length_map]; exact szM (show _ + 1 ≤ 1000000 by omega)
  have s5 := (same_new he (o := .lst [.str new])).trans (same_new hp (o := .lst (ws.map V.str ++ [.str new])))
  obtain ⟨f1, f2, f3⟩ := hcN p ((same_new he).free hp)
  refine k p (ws ++ [new]) _ f1 f2 f3 (by rw [upd_same, List.map_append]; rfl) ⟨by rw [List.length_append]; show _ + 1 ≤ _; omega, fun y hy => ?_⟩ (b3.same s5) (x123.trans (Ext.of s5))
  rcases List.mem_append.mp hy with h | h
  · exact ok1 y h
  · rw [List.mem_singleton.mp h]; exact okn
end
end Kd

set_option Elab.async false
set_option linter.all false
set_option maxRecDepth 100000
set_option maxHeartbeats 8000000
namespace Kd
open PySem PySem.Spec PyProof.Rows L2 Gs
section
variable {P : Program} {w : World} {K : PySem.W.Frag} {mg : Str → Option Value} {base : Heap}
def spHeard (K : PySem.W.Frag) : Sp := fun vs H Q _ => ∃ (v : V) (t : Value), vs = [v] ∧ TyX K H v t ∧
  ((∃ x : Str, v = .str x ∧ x.length ≤ 999999 ∧ (∀ l p, rdText x = .error (l, p) → ∀ r H', Same H H' → H' r = some (.tup [.int l, .int p]) → Q (.ref r) H') ∧ (∀ z ps rs q, rdText x = .ok (z, ps, rs, q) → ∀ H', Same H H' → Q .non H')) ∨
    (PySem.W.kitOne K t (.type "str") = some false ∧ ∀ r H', Same H H' → H' r = some (.tup [.int 0, .int 0]) → Q (.ref r) H'))
theorem O__law_heard (T : Tx K mg w) : FnOk P w K mg base CX0 11 T.a__law_heard T.d__law_heard ["text"] (spHeard K) := by
  refine T.F__law_heard.ok sc__law_heard (fun vs H Q E h => ?_) (fun cdv A outer s H vs Q E hr h => ?_)
  · obtain ⟨v, t, rfl, _⟩ := h; rfl
  obtain ⟨v, t, rfl, ty, h⟩ := h
  refine ⟨_, pss_cons (ps_set (i := 1) sc__law_heard.nd rfl (Or.inl rfl) pe_non) (pss_cons (ps_try5
      (tb := fun W D σ H1 => ∃ Ech : XK, (∀ cls d σ' H', Ech cls d H' → W cls d σ' H') ∧ tDrop (tCallN 0 (["text"] : List Str).length (spRead K T.c_BadText T.c_Kind) (fun _ zs => zs) Ech tNil (tCons (tVar 0) tNil)) D σ H1)
      rfl rfl LamX.takes0 (fun W pn xe tk _ => ?_)
      (.as (i := 2) (c := .ref T.c_BadText) ⟨rfl, by decide, .inl T.m_BadText⟩ sc__law_heard.nd rfl rfl (fun a ob cls d pn hz hf => pss_one (ps_set (i := 1) sc__law_heard.nd rfl (Or.inl rfl) (pe_tup (pa_cons (pe_xf T.xf_BadText T.no_BadText_line hz hf (pv 2)) (pa_cons (pe_xf T.xf_BadText T.no_BadText_item hz hf (pv 2)) pa_nil)))))
          (.bare (c := .ref T.c_FieldError) ⟨rfl, by decide, .inl T.m_FieldError⟩ (fun a ob cls d pn hz hf => pss_one (ps_set (i := 1) sc__law_heard.nd rfl (Or.inl rfl) pe_str)) .done))) (pss_one (ps_ret (pv 1)))), ?_⟩
  · refine ⟨fun pins s' σ H' D I h' => ?_⟩
    obtain ⟨Ech, hW, h3⟩ := h'
    exact (pss_one (ps_expr (pe_staK (ks := ["text"]) (sp := spRead K T.c_BadText T.c_Kind) (gV := fun _ zs => zs) T.sr_Kind (O_Kind_read T) (hr.mono (by decide)) (by rfl) T.m_Kind T.kb_read (pX tk hW) (pk_cons (pv 0) pk_nil)))).run pins s' σ H' D I h3
  have len3 : ∀ {σ' : L2.St}, σ'.length = n__law_heard.length → ∃ x y z, σ' = [x, y, z] := fun {σ'} h => by
    match σ', h with
    | [x, y, z], _ => exact ⟨x, y, z, rfl⟩
  refine ⟨fun cls d H' => ∃ (l p : Nat) (dd : Addr), cls = .ref T.c_BadText ∧ d = some dd ∧ H' dd = some (.xd [("item", .int p), ("line", .int l)]) ∧ ∀ r, H' r = none → Q (.ref r) (upd H' r (.tup [.int l, .int p])), fun cls d σ' H' => ?_, ?_⟩
  · rintro ⟨l, p, dd, rfl, rfl, e3, k⟩
    refine ⟨true, T.xm_BadText_BadText, fun _ hl a na => ?_, fun z => nomatch z⟩
    obtain ⟨x, y, z, rfl⟩ := len3 hl
    refine ⟨_, rfl, rfl, rfl, dd, _, _, rfl, e3, rfl, _, rfl, rfl, rfl, dd, _, _, rfl, e3, rfl, szl rfl, fun t ht => ⟨_, rfl, k t ht⟩⟩
  have err : ∀ (l p : Nat), (∀ r H', Same H H' → H' r = some (.tup [.int l, .int p]) → Q (.ref r) H') → XT T.c_BadText H (fun cls d H' => ∃ (l p : Nat) (dd : Addr), cls = .ref T.c_BadText ∧ d = some dd ∧ H' dd = some (.xd [("item", .int p), ("line", .int l)]) ∧ ∀ r, H' r = none → Q (.ref r) (upd H' r (.tup [.int l, .int p]))) l p := fun l p k d H' hd s' e => ⟨l, p, d, rfl, rfl, e, fun r hr => k r _ (s'.trans (same_new hr)) upd_same⟩
  refine ⟨_, rfl, rfl, rfl, v, t, rfl, ty, ?_⟩
  rcases h with ⟨x, rfl, hx, h1, h2⟩ | ⟨h0, h1⟩
  · refine .inl ⟨x, rfl, hx, fun l p e => err l p (h1 l p e), fun z ps rs q e k H' s' _ _ => ?_⟩
    exact ⟨_, rfl, h2 z ps rs q e H' s'⟩
  · exact .inr ⟨h0, err 0 0 h1⟩
end
end Kd

set_option Elab.async false
set_option linter.all false
set_option maxRecDepth 100000
set_option maxHeartbeats 8000000
namespace Kd
open PySem PySem.Spec PyProof.Rows L2 Gs
theorem rd_some {x : Str} {p : Nat} (h : stopK (wordsOf ((linesOf x).headD "")) = some p) : rdText x = .error (0, p) := by
  unfold stopK at h
  unfold rdText
  cases e : rdKind (wordsOf ((linesOf x).headD "")) 0 with
  | error q => rw [e] at h; cases h; rfl
  | ok r => rw [e] at h; cases h
theorem rd_lines {x : Str} (h : stopK (wordsOf ((linesOf x).headD "")) = none) (l : 1 < (linesOf x).length) : rdText x = .error (1, 0) := by
  unfold stopK at h
  unfold rdText
  cases e : rdKind (wordsOf ((linesOf x).headD "")) 0 with
  | error q => rw [e] at h; cases h
  | ok r => exact if_pos l
theorem rd_fine {x : Str} (h : stopK (wordsOf ((linesOf x).headD "")) = none) (l : ¬ 1 < (linesOf x).length) : ∃ r, rdText x = .ok r := by
  unfold stopK at h
  unfold rdText
  cases e : rdKind (wordsOf ((linesOf x).headD "")) 0 with
  | error q => rw [e] at h; cases h
  | ok r => exact ⟨r, if_neg l⟩
theorem rdKind_good {ws : List Str} {z : Str} {ps : List (Int × Int)} {rs : List Str} {q : Bool} (h : rdKind ws 0 = .ok (z, ps, rs, q)) : Good z ps rs q := by
  unfold rdKind at h
  cases h0 : ws[0]? with
  | none => rw [h0] at h; cases h
  | some y =>
    rw [h0] at h
    have h : (if isNameS y = true then (match lpPart ws (behind (lordAt ws 0) 0) with
      | .error p => .error p
      | .ok (ps, i2) => match rdPart ws (lordAt ws 0) i2 with
        | .error p => .error p
        | .ok (rs, i3) => if (decide (i3 < ws.length) || (ps.isEmpty && rs.isEmpty)) = true then .error i3 else .ok (y, ps, rs, lordAt ws 0)) else .error 0) = Except.ok (z, ps, rs, q) := h
    split at h
    · rename_i hy
      cases hl : lpPart ws (behind (lordAt ws 0) 0) with
      | error p => rw [hl] at h; cases h
      | ok r1 =>
        obtain ⟨ps1, i2⟩ := r1
        rw [hl] at h
        dsimp only at h
        cases hr : rdPart ws (lordAt ws 0) i2 with
        | error p => rw [hr] at h; cases h
        | ok r2 =>
          obtain ⟨rs1, i3⟩ := r2
          rw [hr] at h
          dsimp only at h
          split at h
          · cases h
          · rename_i hn
            cases h
            refine ⟨hy, ?_, ?_, fun hq => ?_, ?_⟩
            · unfold lpPart at hl
              split at hl
              · exact (rdLeaps_good hl).1
              · cases hl; exact ⟨(fun p hp => by cases hp), List.Pairwise.nil⟩
            · unfold rdPart at hr
              split at hr
              · exact (rdRides_good hr (show steps4.length < 5 by decide) (List.Sublist.refl _)).1
              · cases hr; exact List.nil_sublist _
            · unfold rdPart at hr
              rw [hq] at hr
              rw [if_neg (fun z => by cases z.1)] at hr
              cases hr; rfl
            · by_cases h1 : ps = []
              · refine .inr fun h2 => hn ?_
                rw [h1, h2]; exact Bool.or_true _
              · exact .inl h1
    · cases h
theorem rdText_good {x : Str} {z : Str} {ps : List (Int × Int)} {rs : List Str} {q : Bool} (h : rdText x = .ok (z, ps, rs, q)) : Good z ps rs q := by
  unfold rdText at h
  cases hk : rdKind (wordsOf ((linesOf x).headD "")) 0 with
  | error p => rw [hk] at h; cases h
  | ok r =>
    rw [hk] at h
    dsimp only at h
    split at h
    · cases h
    · cases h; exact rdKind_good hk
/-! ### signs and lengths -/
theorem sOk_iff {x : Str} : SOk x ↔ ∀ c ∈ TL.tl x, c < 1114112 := by
  unfold SOk PyData.strOk
  rw [← Array.all_toList, List.all_eq_true]
  exact ⟨fun h c hc => of_decide_eq_true (h c hc), fun h c hc => decide_eq_true (h c hc)⟩
theorem joinL_mem {S : List Nat} {c : Nat} : ∀ {L : List (List Nat)}, c ∈ TL.joinL S L → c ∈ S ∨ ∃ l ∈ L, c ∈ l
  | [], h => by simp [TL.joinL] at h
  | [p], h => .inr ⟨p, List.mem_singleton.mpr rfl, h⟩
  | p :: q :: r, h => by
    have h : c ∈ p ++ (S ++ TL.joinL S (q :: r)) := h
    rcases List.mem_append.mp h with h | h
    · exact .inr ⟨p, List.mem_cons_self, h⟩
    rcases List.mem_append.mp h with h | h
    · exact .inl h
    · rcases joinL_mem h with h | ⟨l, h1, h2⟩
      · exact .inl h
      · exact .inr ⟨l, List.mem_cons_of_mem _ h1, h2⟩
theorem joinL_len {S : List Nat} {m : Nat} : ∀ {L : List (List Nat)}, (∀ l ∈ L, l.length ≤ m) → (TL.joinL S L).length ≤ L.length * (m + S.length)
  | [], _ => Nat.zero_le _
  | [p], h => by
    have := h p List.mem_cons_self
    show p.length ≤ 1 * (m + S.length)
    omega
  | p :: q :: r, h => by
    have ih := joinL_len (S := S) (L := q :: r) fun l hl => h l (List.mem_cons_of_mem _ hl)
    have := h p List.mem_cons_self
    show (p ++ (S ++ TL.joinL S (q :: r))).length ≤ ((q :: r).length + 1) * (m + S.length)
    rw [List.length_append, List.length_append, Nat.add_mul]
    omega
theorem made_ok {B : Nat} {ws : List Str} (h : Wb B ws) (hB : B ≤ 4000) : (Txt.join " " ws).length ≤ 999999 ∧ SOk (Txt.join " " ws) ∧ (ws.map (fun x => x.length)).sum + ws.length * (" " : Str).length ≤ 16777216 := by
  have e : TL.tl (Txt.join " " ws) = TL.joinL [32] (ws.map TL.tl) := by rw [TL.join_eq, TL.tl_join]; rfl
  have hl := h.len
  refine ⟨?_, sOk_iff.mpr fun c hc => ?_, ?_⟩
  · rw [TL.len_tl, e]
    have := joinL_len (S := [32]) (m := 80) (L := ws.map TL.tl) fun l hl => by
      obtain ⟨y, hy, rfl⟩ := List.mem_map.mp hl
      rw [← TL.len_tl]; exact (h.each y hy).1
    rw [List.length_map, show 80 + ([32] : List Nat).length = 81 from rfl] at this
    have : ws.length * 81 ≤ 4000 * 81 := Nat.mul_le_mul (by omega) (Nat.le_refl _)
    omega
  · rw [e] at hc
    rcases joinL_mem hc with h1 | ⟨l, h1, h2⟩
    · rw [List.mem_singleton.mp h1]; decide
    · obtain ⟨y, hy, rfl⟩ := List.mem_map.mp h1
      exact sOk_iff.mp (h.each y hy).2 c h2
  · have s : ∀ l : List Str, (∀ y ∈ l, y.length ≤ 80) → (l.map (fun x => x.length)).sum ≤ l.length * 80 := fun l hl => by
      induction l with
      | nil => exact Nat.zero_le _
      | cons a r ih =>
        have := ih fun y hy => hl y (List.mem_cons_of_mem _ hy)
        have := hl a List.mem_cons_self
        rw [List.map_cons, List.sum_cons, List.length_cons, Nat.add_mul]
        omega
    have := s ws fun y hy => (h.each y hy).1
    have : ws.length * 80 ≤ 4000 * 80 := Nat.mul_le_mul (by omega) (Nat.le_refl _)
    have e1 : (" " : Str).length = 1 := rfl
    rw [e1]
    omega
/-- what is split off is made of the text's signs -/
theorem sOk_split {x y s : Str} (h : SOk x) (hy : y ∈ Txt.split x s) : SOk y := by
  have e : Str.join s (Txt.split x s) = x := StrLaws.join_split x s
  have key : ∀ (S : List Nat) (L : List (List Nat)) (l : List Nat), l ∈ L → ∀ c ∈ l, c ∈ TL.joinL S L := fun S L => by
    induction L with
    | nil => intro l hl; cases hl
    | cons p r ih =>
      intro l hl c hc
      cases r with
      | nil =>
        rw [List.mem_singleton.mp hl] at hc
        exact hc
      | cons q r =>
        show c ∈ p ++ (S ++ TL.joinL S (q :: r))
        rcases List.mem_cons.mp hl with rfl | hl
        · exact List.mem_append_left _ hc
        · exact List.mem_append_right _ (List.mem_append_right _ (ih l hl c hc))
  refine sOk_iff.mpr fun c hc => sOk_iff.mp h c ?_
  rw [← e, TL.tl_join]
  exact key _ _ _ (List.mem_map.mpr ⟨y, hy, rfl⟩) c hc
theorem wd_words {x : Str} (hx : x.length ≤ 999999) (h : SOk x) : Wd (wordsOf x) := ⟨small_words hx, fun y hy => sOk_split h hy⟩
theorem words_ne (x : Str) : wordsOf x ≠ [] := by
  have e : wordsOf x = (TL.spl [32] 0 [] x.cps.toList).map SX.S := split_1 x (c := 32) (by decide)
  rw [e]
  intro z
  exact spl_pos _ _ _ _ (List.map_eq_nil_iff.mp z)
/-- the words of an own text are small -/
theorem small_num {i : Int} (h : -3 ≤ i ∧ i ≤ 3) : (numT i).length ≤ 80 ∧ SOk (numT i) := by
  rcases three h with rfl | rfl | rfl | rfl | rfl | rfl | rfl <;> decide +kernel
theorem small_name {z : Str} (h : isNameS z = true) : z.length ≤ 80 ∧ SOk z := by
  unfold isNameS at h
  rw [Bool.and_eq_true, Bool.and_eq_true, Bool.and_eq_true] at h
  have h8 := of_decide_eq_true h.1.1.2
  refine ⟨by omega, sOk_iff.mpr fun c hc => ?_⟩
  have hm : c ∈ letters.cps.toList := of_decide_eq_true (List.all_eq_true.mp h.2 c hc)
  have all : ∀ c ∈ letters.cps.toList, c < 1114112 := by decide +kernel
  exact all c hm
theorem small_more {ps : List (Int × Int)} (hp : ∀ p ∈ ps, (-3 ≤ p.1 ∧ p.1 ≤ 3) ∧ (-3 ≤ p.2 ∧ p.2 ≤ 3)) : ∀ w ∈ moreL ps, w.length ≤ 80 ∧ SOk w := fun w hw => by
  obtain ⟨p, h1, h2⟩ := List.mem_flatMap.mp hw
  have hb := hp p h1
  simp only [List.mem_cons, List.not_mem_nil, or_false] at h2
  rcases h2 with rfl | rfl | rfl
  · decide +kernel
  · exact small_num hb.1
  · exact small_num hb.2
theorem more_len (ps : List (Int × Int)) : (moreL ps).length = 3 * ps.length := by
  induction ps with
  | nil => rfl
  | cons p r ih =>
    show (comma :: numT p.1 :: numT p.2 :: moreL r).length = _
    rw [List.length_cons, List.length_cons, List.length_cons, ih, List.length_cons]
    omega
theorem wb_flat {z : Str} {ps : List (Int × Int)} {rs : List Str} {q : Bool} (g : Good z ps rs q) : Wb 200 (flatK z ps rs q) := by
  have hl : (leapsF ps).length ≤ 150 ∧ ∀ w ∈ leapsF ps, w.length ≤ 80 ∧ SOk w := by
    have hf := g.asc.few
    have hb := g.bnd
    unfold leapsF
    cases ps with
    | nil => exact ⟨Nat.zero_le _, fun w hw => by cases hw⟩
    | cons p r =>
      rw [if_neg (by simp), leapL_more]
      rw [List.length_cons] at hf
      refine ⟨by rw [List.length_cons, List.length_cons, List.length_cons, more_len]; omega, fun w hw => ?_⟩
      have hp := hb p List.mem_cons_self
      rcases List.mem_cons.mp hw with rfl | hw
      · decide +kernel
      rcases List.mem_cons.mp hw with rfl | hw
      · exact small_num hp.1
      rcases List.mem_cons.mp hw with rfl | hw
      · exact small_num hp.2
      · exact small_more (fun x hx => hb x (List.mem_cons_of_mem _ hx)) w hw
  have hr : (ridesW rs).length ≤ 5 ∧ ∀ w ∈ ridesW rs, w.length ≤ 80 ∧ SOk w := by
    have h4 := g.sub.length_le
    have e4 : steps4.length = 4 := rfl
    have all : ∀ w ∈ steps4, w.length ≤ 80 ∧ SOk w := by decide +kernel
    unfold ridesW
    split
    · exact ⟨Nat.zero_le _, fun w hw => by cases hw⟩
    · refine ⟨by rw [List.length_cons]; omega, fun w hw => ?_⟩
      rcases List.mem_cons.mp hw with rfl | hw
      · decide +kernel
      · exact all w (g.sub.subset hw)
  have hh : (headW z q).length ≤ 2 ∧ ∀ w ∈ headW z q, w.length ≤ 80 ∧ SOk w := by
    unfold headW
    cases q with
    | false =>
      refine ⟨Nat.le_succ 1, fun w hw => ?_⟩
      have hw : w ∈ [z] := by simpa using hw
      rw [List.mem_singleton.mp hw]; exact small_name g.nm
    | true =>
      refine ⟨Nat.le_refl 2, fun w hw => ?_⟩
      rcases List.mem_append.mp hw with hw | hw
      · rw [List.mem_singleton.mp hw]; exact small_name g.nm
      · have e : w = ("lord" : Str) := List.mem_singleton.mp hw
        rw [e]; decide +kernel
  refine ⟨?_, fun w hw => ?_⟩
  · unfold flatK
    rw [List.length_append, List.length_append]
    omega
  · unfold flatK at hw
    rcases List.mem_append.mp hw with hw | hw
    · rcases List.mem_append.mp hw with hw | hw
      · exact hh.2 w hw
      · exact hl.2 w hw
    · exact hr.2 w hw
theorem text_len {z : Str} {ps : List (Int × Int)} {rs : List Str} {q : Bool} (g : Good z ps rs q) : (textK z ps rs q).length ≤ 999999 := by
  rw [text_flat]; exact (made_ok (wb_flat g) (by decide)).1
end Kd

set_option Elab.async false
set_option linter.all false
set_option maxRecDepth 100000
set_option maxHeartbeats 16000000
namespace Kd
open PySem PySem.Spec PyProof.Rows L2 Gs
theorem DrAt.ext {c l a b : Addr} {n : Nat} {ls : List (Addr × Int × Int)} {R : List Str} {H H' : Hp} (d : DrAt H a b ls R) (hb : Bag c l n H) (na : a ≠ c) (nb : b ≠ c) (e : Gs.Ext c H H') : DrAt H' a b ls R :=
  ⟨e _ _ na d.ha, fun p hp => ExtT.bag hb e _ _ (d.ht p hp) (fun _ z => nomatch z), e _ _ nb d.hb⟩
section
variable {P : Program} {w : World} {K : PySem.W.Frag} {mg : Str → Option Value} {base : Heap}
def spLaw (K : PySem.W.Frag) : Sp := fun vs H Q _ => ∃ (a : Addr) (ns : List Int), vs = [.ref a] ∧ SqL K H a (ns.map V.int) ∧ ns.length ≤ 63 ∧ ∀ H', Q (.bl true) H'
theorem z_kindx (T : Tx K mg w) {C DB DM : Addr} {H0 : Hp} {t p x dx : Addr} {Q : VK} {E : XK} (ht : H0 t = none) (hp : upd H0 t (.tup [.int 1, .int 0]) p = none) (hx : (upd (upd H0 t (.tup [.int 1, .int 0])) p (.lst [.ref t])) x = none) (hdx : (upd (upd H0 t (.tup [.int 1, .int 0])) p (.lst [.ref t])) dx = none)
    (k : ∀ H', Same H0 H' → KindAt K C H' x "x" [(1, 0)] [] false → Q .non H') :
    spKind K C DB DM [.ref x, .str "x", .ref p, .ref T.t_E, .bl false] (upd (upd (upd (upd H0 t (.tup [.int 1, .int 0])) p (.lst [.ref t])) dx (.own x)) x (.ins C dx [])) Q E := by
  obtain ⟨c0, hc0⟩ := fresh_of [t, p, T.t_E, x, dx]
  have q1 := new_tup ht (hc0 t (by simp)) (.cons (.int 1) (.cons (.int 0) .nil)) (K := K)
  have q2 := new_lst hp (hc0 p (by simp)) (.cons q1.1 .nil) (K := K)
  have L := (leaps_pairs (pr := [(1, 0)]) (by decide) (by decide +kernel) (by decide)).1
  have Rd := (rides_of (R := []) .nil (fun r h => by cases h)).2
  refine sp_ok (c := c0) (pr := [(1, 0)]) (R := []) hx hdx (hc0 x (by simp)) (hc0 dx (by simp)) (by decide +kernel) q2.1 (.tup (hc0 T.t_E (by simp)) (T.s_E _) .nil) L Rd (fun _ => rfl) (.inl (by simp)) fun ps H' s' ka pm _ => ?_
  rw [List.perm_singleton.mp pm] at ka
  exact k H' (((same_new ht).trans (same_new hp)).trans s') ka
theorem G_law (T : Tx K mg w) : FnG P w K mg base CX0 14 T.a_law T.d_law ["script"] (spLaw K) := by
  refine fun_okG T.F_law sc_law (fun vs H Q E h => ?_) (fun cdv A outer s H vs Q E hr hg h => ?_)
  · obtain ⟨a, ns, rfl, _⟩ := h; rfl
  obtain ⟨a, ns, rfl, hS, hlen, k⟩ := h
  obtain ⟨ds2, rb2, hb2⟩ := b2_Kind T
  refine ⟨_, (pss_cons (ps_set (i := 1) sc_law.nd rfl (Or.inl rfl) (pg_call (G__law_scroll T) (hr.mono (by decide)) hg (by rfl) T.m__law_scroll T.F__law_scroll.kp T.b__law_scroll .nil pass0 (pa_cons (pv 0) pa_nil)))
      (pss_cons (ps_for PassesOwn.never rfl (pi_range1 (by rfl) T.z_range (pa_cons pe_int pa_nil)) (pg_name (i := 2) sc_law.nd rfl (Or.inl rfl)) (pss_cons (ps_asg (pg_call (G__law_kind T) (hr.mono (by decide)) hg (by rfl) T.m__law_kind T.F__law_kind.kp T.b__law_kind .nil pass0 (pa_cons (pv 1) (pa_cons (pg_call (G__law_name T) (hr.mono (by decide)) hg (by rfl) T.m__law_name T.F__law_name.kp T.b__law_name .nil pass0 (pa_cons (pv 1) pa_nil)) pa_nil))) (pg_tup rfl (pgs_cons (pg_name (i := 3) sc_law.nd rfl (Or.inl rfl)) (pgs_cons (pg_name (i := 4) sc_law.nd rfl (Or.inl rfl)) (pgs_cons (pg_name (i := 5) sc_law.nd rfl (Or.inl rfl)) (pgs_cons (pg_name (i := 6) sc_law.nd rfl (Or.inl rfl)) pgs_nil))))))
      (pss_cons (ps_set (i := 7) sc_law.nd rfl (Or.inl rfl) (pg_call (G__law_text T) (hr.mono (by decide)) hg (by rfl) T.m__law_text T.F__law_text.kp T.b__law_text .nil pass0 (pa_cons (pv 3) (pa_cons (pv 4) (pa_cons (pv 5) (pa_cons (pv 6) pa_nil))))))
      (pss_cons (ps_set (i := 8) sc_law.nd rfl (Or.inl rfl) (pe_sta T.sr_Kind (O_Kind_read T) (hr.mono (by decide)) (by rfl) T.m_Kind T.b_Kind_read passL (pa_cons (pv 7) pa_nil)))
      (pss_cons (ps_if (PW.pt (pw_or (pt_cmpR (op_neOwn T.oc_Kind (O_Kind___eq__ T) (hr.mono (by decide)) T.b_Kind___eq__ pass0) (pv 8) (pe_make T.mk_Kind (O_Kind___init__ T) (hr.mono (by decide)) (by rfl) T.m_Kind T.b5_Kind .nil passL (pa_cons (pv 3) (pa_cons (pv 4) (pa_cons (pv 5) (pa_cons (pv 6) pa_nil))))) (nomark _)) (pw_or1 (pt_cmpR op_ne (pe_callTy (T := "str") (r := rStrO T.c_Kind (spStrK K T.c_Kind) E0) (call_strO T.os_Kind (O_Kind___str__ T) (hr.mono (by decide)) T.b_Kind___str__ pass0) (by rfl) T.z_str (by decide +kernel) (pa_cons (pv 8) pa_nil)) (pv 7) (nomark _))))) (pss_one (ps_ret pe_bl)) pss_nil)
      (pss_cons (ps_set (i := 9) sc_law.nd rfl (Or.inl rfl) (pe_split (pv 7) pe_str))
      (pss_one (ps_for PassesOwn.never rfl (pi_range1 (by rfl) T.z_range (pa_cons pe_int pa_nil)) (pg_name (i := 10) sc_law.nd rfl (Or.inl rfl)) (pss_cons (ps_set (i := 11) sc_law.nd rfl (Or.inl rfl) (pe_call (O__law_bent T) (hr.mono (by decide)) (by rfl) T.m__law_bent T.F__law_bent.kp T.b__law_bent .nil pass0 (pa_cons (pv 1) (pa_cons (pe_call (O__law_one T) (hr.mono (by decide)) (by rfl) T.m__law_one T.F__law_one.kp T.b__law_one .nil pass0 (pa_cons (pv 1) (pa_cons (pe_lst (pa_cons (pv 9) (pa_cons (pe_call (O__law_bent T) (hr.mono (by decide)) (by rfl) T.m__law_bent T.F__law_bent.kp T.b__law_bent .nil pass0 (pa_cons (pv 1) (pa_cons (pv 9) pa_nil))) pa_nil))) pa_nil))) pa_nil))))
      (pss_cons (ps_set (i := 12) sc_law.nd rfl (Or.inl rfl) (pe_join pe_str (pv 11)))
      (pss_cons (ps_set (i := 13) sc_law.nd rfl (Or.inl rfl) (pe_split (pv 12) pe_str))
      (pss_cons (ps_set (i := 14) sc_law.nd rfl (Or.inl rfl) (pe_call (O__law_stop T) (hr.mono (by decide)) (by rfl) T.m__law_stop T.F__law_stop.kp T.b__law_stop .nil pass0 (pa_cons (pe_split (pe_ix ix_list (pv 13) pe_int (fun _ _ => rfl)) pe_str) pa_nil)))
      (pss_cons (ps_set (i := 15) sc_law.nd rfl (Or.inl rfl) (pe_ifExp (pt_cmpR op_notN (pv 14) pe_non (nomark _)) (pe_tup (pa_cons pe_int (pa_cons (pv 14) pa_nil))) (pe_ifExp (pt_cmpR op_gt (pe_callB call_len_seq (by rfl) T.z_len (by decide +kernel) (pa_cons (pv 13) pa_nil)) pe_int (nomark _)) (pe_tup (pa_cons pe_int (pa_cons pe_int pa_nil))) pe_non)))
      (pss_cons (ps_if (pt_cmpR (op_neD hr.units) (pe_call (O__law_heard T) (hr.mono (by decide)) (by rfl) T.m__law_heard T.F__law_heard.kp T.b__law_heard .nil pass0 (pa_cons (pv 12) pa_nil)) (pv 15) (nomark _)) (pss_one (ps_ret pe_bl)) pss_nil)
      (pss_one (ps_if (PW.pt (pw_and (pt_cmpR op_isN (pv 15) pe_non (nomark _)) (pw_and1 (pt_cmpR op_ne (pe_callTy (T := "str") (r := rStrO T.c_Kind (spStrK K T.c_Kind) E0) (call_strO T.os_Kind (O_Kind___str__ T) (hr.mono (by decide)) T.b_Kind___str__ pass0) (by rfl) T.z_str (by decide +kernel) (pa_cons (pe_sta T.sr_Kind (O_Kind_read T) (hr.mono (by decide)) (by rfl) T.m_Kind T.b_Kind_read passL (pa_cons (pv 12) pa_nil)) pa_nil)) (pv 12) (nomark _))))) (pss_one (ps_ret pe_bl)) pss_nil))))))))))))))))
      (pss_cons (ps_set (i := 16) sc_law.nd rfl (Or.inl rfl) (pe_call (O__law_one T) (hr.mono (by decide)) (by rfl) T.m__law_one T.F__law_one.kp T.b__law_one .nil pass0 (pa_cons (pv 1) (pa_cons (pe_lst (pa_cons pe_non (pa_cons pe_int (pa_cons pe_bl (pa_cons (pe_lst (pa_cons pe_str pa_nil)) (pa_cons (pe_tup (pa_cons pe_str pa_nil)) (pa_cons pe_dnewK (pa_cons (pe_make T.mk_Kind (O_Kind___init__ T) (hr.mono (by decide)) (by rfl) T.m_Kind hb2 rb2 passL (pa_cons pe_str (pa_cons (pe_lst (pa_cons (pe_tup (pa_cons pe_int (pa_cons pe_int pa_nil))) pa_nil)) pa_nil))) pa_nil)))))))) pa_nil))))
      (pss_one (ps_ret (pe_and (pe_cmpR (op_eqD hr.units) (pe_call (O__law_heard T) (hr.mono (by decide)) (by rfl) T.m__law_heard T.F__law_heard.kp T.b__law_heard .nil pass0 (pa_cons (pv 16) pa_nil)) (pe_tup (pa_cons pe_int (pa_cons pe_int pa_nil))) (nomark _)) (pe_and (pe_cmpR (op_eqD hr.units) (pe_call (O__law_heard T) (hr.mono (by decide)) (by rfl) T.m__law_heard T.F__law_heard.kp T.b__law_heard .nil pass0 (pa_cons pe_str pa_nil)) (pe_tup (pa_cons pe_int (pa_cons pe_int pa_nil))) (nomark _)) (pe_one (pe_cmpR (op_eqD hr.units) (pe_call (O__law_heard T) (hr.mono (by decide)) (by rfl) T.m__law_heard T.F__law_heard.kp T.b__law_heard .nil pass0 (pa_cons pe_str pa_nil)) (pe_tup (pa_cons pe_int (pa_cons pe_int pa_nil))) (nomark _)))))))))), ?_⟩
  refine ⟨_, rfl, a, ns, rfl, hS, hlen, fun c l H1 hc0 hl0 x1 b1 => ?_⟩
  dsimp only
  refine ⟨4, rfl, by decide, by decide, ?_⟩
  refine for_it (walk_range (lo := 0) (n := 4)) (fun i σ H' => (∃ t2 t3 t4 t5 t6 t7 t8 t9 t10 t11 t12 t13 t14 t15 t16 : Option V, σ = [some (.ref a), some (.ref c), t2, t3, t4, t5, t6, t7, t8, t9, t10, t11, t12, t13, t14, t15, t16]) ∧ Bag c l (5000 * i) H')
    ⟨⟨_, _, _, _, _, _, _, _, _, _, _, _, _, _, _, rfl⟩, b1⟩ (fun _ _ _ _ _ => trivial) ?_ ?_
  · clear hS hlen x1 b1 hc0 hl0 H1
    rintro i x σ H2 H2' hi ⟨⟨t2, t3, t4, t5, t6, t7, t8, t9, t10, t11, t12, t13, t14, t15, t16, rfl⟩, b2⟩ ⟨rfl, rfl⟩
    have hi : i < 4 := hi
    dsimp only [gName, List.set]
    -- name, leaps, rides, is_lord
    refine ⟨_, rfl, _, rfl, c, l, _, rfl, b2, by omega, fun z H1 nm b1 x1 => ⟨c, l, _, z, rfl, b1, by omega, fun p la lb ls R q H3 dr da ha0 hb0 nab hp b3 x3 => ?_⟩⟩
    have nac := b1.ne ha0
    have nbc := b1.ne hb0
    refine ⟨p, _, rfl, .of hp, rfl, _, _, rfl, _, _, rfl, _, _, rfl, _, _, rfl, rfl, ?_⟩
    dsimp only [gName, List.set]
    clear hp x3 x1 ha0 hb0 b1 b2 H1
    have zl : z.length ≤ 1000 := by
      have h := nm
      unfold isNameS at h
      rw [Bool.and_eq_true, Bool.and_eq_true, Bool.and_eq_true] at h
      have := of_decide_eq_true h.1.1.2
      omega
    -- text
    refine ⟨_, rfl, _, rfl, _, rfl, _, rfl, z, la, lb, ls, R, q, rfl, zl, dr, da, fun ps H4 perm pw s4 => ?_⟩
    dsimp only [gName, List.set]
    have g := dr.good nm perm pw
    have da4 := da.ext b3 nac nbc (Ext.of s4)
    have b4 := b3.same s4
    clear da b3 s4 H3
    -- told
    refine ⟨_, rfl, .str (textK z ps (ridL R) q), .type "str", rfl, .base (.str _), .inl ⟨_, rfl, text_len g, fun l p e => (by rw [rdText_own g] at e; cases e), fun z' ps' rs' q' e k5 H5 s5 fk5 kat => ?_⟩⟩
    rw [rdText_own g] at e
    cases e
    dsimp only [gName, List.set]
    have da5 := da4.ext b4 nac nbc (Ext.of s5)
    have b5 := b4.same s5
    clear da4 b4 s5 fk5 H4
    have rs4 : ∀ r ∈ ridL R, r ∈ steps4 := ridL_sub R
    have nne : ∀ {H : Hp} {m : Nat}, Bag c l m H → DrAt H la lb ls R → ∀ p ∈ ls, p.1 ≠ c := fun hb da p hp z => by
      obtain ⟨ns, pt, rest, h1, _⟩ := hb
      have h2 := da.ht p hp
      rw [z, h1] at h2; cases h2
    -- told != Kind(..)
    refine ⟨_, rfl, _, rfl, _, rfl, _, rfl, _, rfl, fun x dx hx hdx _ => ?_⟩
    have dvl : DV K c H5 (.ref la) (.list ((ls.map (·.2)).map pairD)) := .lst nac (.of da5.ha) (dv_pairs (nne b5 da5) fun p hp => .of (da5.ht p hp))
    have dvr : DV K c H5 (.ref lb) (.list (R.map PyData.str)) := .lst nbc (.of da5.hb) (dv_strs R)
    refine sp_ok (c := c) hx hdx (b5.ne hx) (b5.ne hdx) nm dvl dvr (leaps_pairs dr.nd dr.ok (Nat.le_trans dr.few (by decide))).1 (rides_of dr.nr dr.st).1 dr.lord dr.some fun ps2 H6 s6 kat2 perm2 pw2 => ⟨rfl, ?_⟩
    have eps := srt_uniq dr.nd perm2 pw2 perm pw
    subst eps
    have kat6 := kat.same s6
    obtain ⟨d1, _, _, _, g1, -⟩ := id kat6
    obtain ⟨d2, _, _, _, g2, -⟩ := id kat2
    refine ⟨k5, d1, _, .ref T.c_Kind, rfl, g1, T.ty_Kind.ty g2, nf_own, k5, .ref x, .ref T.c_Kind, z, ps2, ridL R, q, rfl, kat6, rs4, T.ty_Kind.ty g2, .inr ⟨T.kk_Kind, x, z, ps2, ridL R, q, rfl, kat2, rs4, fun H7 s7 => ⟨_, rfl, _, rfl, ?_⟩⟩⟩
    refine iteB (fun e => absurd e (by simp)) (fun _ => ?_)
    have kat7 := kat6.same s7
    have b7 := (b5.same s6).same s7
    clear kat6 g1 g2 d1 d2 kat2 kat s7 s6 dvl dvr da5 b5 hx hdx H6 H5
    -- str(told) != text
    obtain ⟨d7, _, _, _, g7, -⟩ := id kat7
    refine ⟨_, rfl, k5, d7, _, rfl, g7, k5, z, ps2, ridL R, q, rfl, kat7, zl, Nat.le_trans g.asc.few (by decide), g.bnd, Nat.le_trans (ridL_len R) (by decide), rs4, fun H8 s8 => ⟨_, rfl, _, rfl, rfl, _, rfl, ?_⟩⟩
    refine iteB (fun e => absurd e (by simp)) (fun _ => ?_)
    have b8 := b7.same s8
    clear kat7 g7 d7 s8 b7 H7
    -- items
    refine ⟨_, rfl, ⟨_, rfl⟩, textK z ps2 (ridL R) q, _, rfl, rfl, rfl, Nat.le_trans (Nat.add_le_add_right (text_len g) 2) (by decide), fun it hit => ?_⟩
    have git : upd H8 it (.lst ((Txt.split (textK z ps2 (ridL R) q) " ").map V.str)) it = some (.lst ((flatK z ps2 (ridL R) q).map V.str)) := by rw [upd_same, ← words_text g]; rfl
    have nic := b8.ne hit
    have b9 := b8.new hit (o := .lst ((Txt.split (textK z ps2 (ridL R) q) " ").map V.str))
    have wb := wb_flat g
    generalize upd H8 it (.lst ((Txt.split (textK z ps2 (ridL R) q) " ").map V.str)) = H9 at git b9 ⊢
    clear hit b8 H8
    dsimp only [gName, List.set]
    generalize flatK z ps2 (ridL R) q = ws at git wb
    refine ⟨7, rfl, by decide, by decide, ?_⟩
    refine for_it (walk_range (lo := 0) (n := 7)) (fun j σ H' => (∃ t10 t11 t12 t13 t14 t15 t16 : Option V, σ = [some (.ref a), some (.ref c), some (.int (0 + (i : Int))), some (.str z), some (.ref la), some (.ref lb), some (.bl q), some (.str (textK z ps2 (ridL R) q)), some (.ref k5), some (.ref it), t10, t11, t12, t13, t14, t15, t16]) ∧
        H' it = some (.lst (ws.map V.str)) ∧ Bag c l (5000 * i + 1000 + 20 * j) H') ⟨⟨_, _, _, _, _, _, _, rfl⟩, git, b9.mono (by omega)⟩ (fun _ _ _ _ _ => trivial) ?_ ?_
    · clear git b9 H9
      rintro j y σ H10 H10' hj ⟨⟨t10', t11', t12', t13', t14', t15', t16', rfl⟩, git, b10⟩ ⟨rfl, rfl⟩
      have hj : j < 7 := hj
      dsimp only [gName, List.set]
      -- bent
      refine ⟨_, rfl, _, rfl, _, rfl, _, rfl, _, rfl, c, l, it, _, 200, ws, rfl, b10, by omega, nic, git, wb, by decide, fun b1 ws1 H1 f1 nc1 nl1 g1 w1 b11 x1 => ⟨szl rfl, fun p hp => ⟨c, l, p, _, _, rfl, b11.new hp, by omega, b11.ne hp, .of upd_same, by simp, szl2 rfl, fun ii v H3 hii b3 x3 => ?_⟩⟩⟩
      have x13 := (x1.trans (Ext.new hp)).trans x3
      have git3 := x13 _ _ nic git
      have gb3 := ((Ext.new hp).trans x3) _ _ nc1 g1
      obtain ⟨a2, ws2, rfl, g2, na2, w2⟩ : ∃ a2 ws2, v = V.ref a2 ∧ H3 a2 = some (.lst (ws2.map V.str)) ∧ a2 ≠ c ∧ Wb 601 ws2 := by
        have hm := one_of hii
        simp only [List.mem_cons, List.not_mem_nil, or_false] at hm
        rcases hm with rfl | rfl
        · exact ⟨it, ws, rfl, git3, nic, ⟨Nat.le_trans wb.len (by decide), wb.each⟩⟩
        · exact ⟨b1, ws1, rfl, gb3, nc1, w1⟩
      clear hii gb3 x1 hp f1 nc1 nl1 g1 w1 b11 x3 git b10
      refine ⟨c, l, a2, _, 601, ws2, rfl, b3, by omega, na2, g2, w2, by decide, fun b2 ws3 H4 f2 nc2 nl2 g3 w3 b4 x4 => ?_⟩
      have git4 := x4 _ _ nic git3
      clear g2 na2 w2 git3 x13 x4 b3 f2 nl2 H3
      dsimp only [gName, List.set]
      -- made
      refine ⟨⟨_, rfl⟩, _, rfl, " ", b2, ws3, rfl, rfl, .inl (.of g3), (made_ok w3 (by decide)).2.2, ?_⟩
      obtain ⟨ml, mo, -⟩ := made_ok w3 (by decide)
      generalize Txt.join " " ws3 = made at ml mo ⊢
      clear g3 w3
      dsimp only [gName, List.set]
      -- lines
      refine ⟨_, rfl, ⟨_, rfl⟩, made, _, rfl, rfl, rfl, Nat.le_trans (Nat.add_le_add_right ml 2) (by decide), fun ln hln => ?_⟩
      have gln : upd H4 ln (.lst ((Txt.split made "\n").map V.str)) ln = some (.lst ((linesOf made).map V.str)) := upd_same
      have s5 : Same H4 (upd H4 ln (.lst ((Txt.split made "\n").map V.str))) := same_new hln
      generalize upd H4 ln (.lst ((Txt.split made "\n").map V.str)) = H5 at gln s5 ⊢
      have git5 := s5 _ _ git4
      have b5 := b4.same s5
      clear s5 hln git4 b4 H4
      dsimp only [gName, List.set]
      obtain ⟨y0, rest, el⟩ := lines_pos made
      have ym : y0 ∈ Txt.split made "\n" := by
        have : y0 ∈ linesOf made := by rw [el]; exact List.mem_cons_self
        exact this
      have yl : y0.length ≤ 999999 := Nat.le_trans (split_row made (c := 10) (by decide) ym) ml
      have yo : SOk y0 := sOk_split mo ym
      have eh : (linesOf made).headD "" = y0 := by rw [el]; rfl
      -- stop
      refine ⟨_, rfl, ln, _, _, .str y0, rfl, rfl, .of gln, atI_nat (j := 0) (by rw [el]; rfl), ⟨_, rfl⟩, y0, _, rfl, rfl, rfl, Nat.le_trans (Nat.add_le_add_right yl 2) (by decide), fun wl hwl => ⟨wl, wordsOf y0, rfl, .of upd_same, wd_words yl yo, words_ne y0, fun H6 s6 => ?_⟩⟩
      have s56 : Same H5 H6 := (same_new hwl).trans s6
      have git6 := s56 _ _ git5
      have gln6 := s56 _ _ gln
      have b6 := b5.same s56
      clear s56 s6 hwl git5 gln b5 H5 yl yo ym
      dsimp only [gName, List.set]
      generalize hst : stopK (wordsOf y0) = st
      rw [← eh] at hst
      -- due
      refine seq_cut (fun v H' => Same H6 H' ∧ ((∃ (lp pp : Nat) (t : Addr), v = .ref t ∧ H' t = some (.tup [.int lp, .int pp]) ∧ rdText made = .error (lp, pp)) ∨ (v = .non ∧ ∃ r, rdText made = .ok r))) (fun Q' hq => ?_) ?_
      · refine ⟨_, rfl, rfl, _, rfl, ?_⟩
        cases st with
        | some pp =>
          refine iteB (fun _ => ?_) (fun e => absurd e (by simp [oN]))
          exact ⟨_, rfl, szl rfl, fun t ht => hq _ _ ⟨same_new ht, .inl ⟨0, pp, t, rfl, upd_same, rd_some hst⟩⟩⟩
        | none =>
          refine iteB (fun e => absurd e (by simp [oN])) (fun _ => ?_)
          refine ⟨_, rfl, ln, _, rfl, .inl (.of gln6), _, _, rfl, rfl, _, rfl, ?_⟩
          rw [List.length_map]
          refine iteB (fun e => ?_) (fun e => ?_)
          · have e := of_decide_eq_true e
            exact ⟨szl rfl, fun t ht => hq _ _ ⟨same_new ht, .inl ⟨1, 0, t, rfl, upd_same, rd_lines hst (by omega)⟩⟩⟩
          · have e := of_decide_eq_false e
            exact hq _ _ ⟨Same.refl _, .inr ⟨rfl, rd_fine hst (by omega)⟩⟩
      rintro v H7 ⟨s7, hv⟩
      have git7 := s7 _ _ git6
      have b7 := b6.same s7
      clear git6 gln6 b6 s7 hst eh el H6
      dsimp only [gName, List.set]
      -- heard
      refine ⟨_, rfl, .str made, .type "str", rfl, .base (.str _), .inl ⟨made, rfl, ml, fun lp pp e r H8 s8 hr8 => ?_, fun z9 ps9 rs9 q9 e H8 s8 => ?_⟩⟩
      · rcases hv with ⟨lp2, pp2, t, rfl, ht, e2⟩ | ⟨_, r2, e2⟩
        rotate_left
        · rw [e] at e2; cases e2
        rw [e] at e2
        cases e2
        have ht8 := s8 _ _ ht
        have sh : SeqAt.shaped (.tuple [.int (lp : Int), .int (pp : Int)]) = true := shaped_of ⟨rfl, by simp [PyData.depthAll, PyData.depth]⟩
        refine ⟨_, rfl, .tuple [.int lp, .int pp], .tuple [.int lp, .int pp], .tup (.of hr8) (.cons (.int _) (.cons (.int _) .nil)), .tup (.of ht8) (.cons (.int _) (.cons (.int _) .nil)), sh, sh, _, rfl, ?_⟩
        refine iteB (fun e => absurd e (by simp [PyData.eqv, PyData.eqvAll])) (fun _ => ?_)
        refine ⟨_, rfl, rfl, _, rfl, ?_⟩
        refine iteB (fun e => absurd e (by simp)) (fun _ => iteF ?_)
        exact ⟨⟨_, _, _, _, _, _, _, rfl⟩, s8 _ _ git7, (b7.same s8).mono (by omega)⟩
      · rcases hv with ⟨lp2, pp2, t, rfl, ht, e2⟩ | ⟨rfl, -⟩
        · rw [e] at e2; cases e2
        refine ⟨_, rfl, .none, .none, .non, .non, rfl, rfl, _, rfl, ?_⟩
        refine iteB (fun e => absurd e (by decide)) (fun _ => ?_)
        refine ⟨_, rfl, rfl, _, rfl, ?_⟩
        refine iteB (fun _ => ?_) (fun e => absurd e (by decide))
        refine ⟨_, rfl, .str made, .type "str", rfl, .base (.str _), .inl ⟨made, rfl, ml, fun lp pp e2 => (by rw [e] at e2; cases e2), fun z8 ps8 rs8 q8 e3 k8 H9 s9 _ kat => ?_⟩⟩
        have g9 := rdText_good e3
        have ta := text_again e3
        obtain ⟨d8, _, _, _, g8, -⟩ := id kat
        refine ⟨k8, d8, _, rfl, g8, k8, z8, ps8, rs8, q8, rfl, kat, Nat.le_trans (small_name g9.nm).1 (by decide), Nat.le_trans g9.asc.few (by decide), g9.bnd, Nat.le_trans g9.sub.length_le (by decide), fun r hr => g9.sub.subset hr, fun H10 s10 => ⟨_, rfl, _, rfl, rfl, _, rfl, ?_⟩⟩
        rw [ta]
        refine iteB (fun e => absurd e (by simp)) (fun _ => ?_)
        exact ⟨⟨_, _, _, _, _, _, _, rfl⟩, s10 _ _ (s9 _ _ (s8 _ _ git7)), (((b7.same s8).same s9).same s10).mono (by omega)⟩
    · rintro σ H10 ⟨⟨t10', t11', t12', t13', t14', t15', t16', rfl⟩, _, b10⟩
      exact ⟨⟨_, _, _, _, _, _, _, _, _, _, _, _, _, _, _, rfl⟩, b10.mono (by omega)⟩
  clear hS hlen x1 b1 hc0 hl0 H1
  rintro σ H2 ⟨⟨t2, t3, t4, t5, t6, t7, t8, t9, t10, t11, t12, t13, t14, t15, t16, rfl⟩, b2⟩
  -- odd
  refine ⟨_, rfl, szl rfl, fun p1 hp1 => ⟨szl rfl, fun q1 hq1 => fun d1 hd1 => ⟨szl rfl, fun t1 ht1 => ⟨szl rfl, fun p2 hp2 => fun x dx hx hdx _ => ?_⟩⟩⟩⟩
  have sA := same_new hp1 (o := .lst [.str "x"])
  have sB := same_new hq1 (o := .tup [.str "x rides up"])
  have sC := same_new hd1 (o := .dK [])
  have gp : upd (upd (upd H2 p1 (.lst [.str "x"])) q1 (.tup [.str "x rides up"])) d1 (.dK []) p1 = some (.lst [.str "x"]) := sC _ _ (sB _ _ upd_same)
  have gq : upd (upd (upd H2 p1 (.lst [.str "x"])) q1 (.tup [.str "x rides up"])) d1 (.dK []) q1 = some (.tup [.str "x rides up"]) := sC _ _ upd_same
  have gd : upd (upd (upd H2 p1 (.lst [.str "x"])) q1 (.tup [.str "x rides up"])) d1 (.dK []) d1 = some (.dK []) := upd_same
  have sABC := (sA.trans sB).trans sC
  refine z_kindx T ht1 hp2 hx hdx fun H3 s3 kat => ⟨rfl, ?_⟩
  have gp3 := s3 _ _ gp
  have gq3 := s3 _ _ gq
  have gd3 := s3 _ _ gd
  have b3 := b2.same (sABC.trans s3)
  clear hx hdx hp2 ht1 gp gq gd sABC sA sB sC s3 hd1 hq1 hp1 b2
  refine ⟨szl rfl, fun pl hpl => ⟨c, l, pl, _, _, rfl, b3.new hpl, by omega, b3.ne hpl, .of upd_same, by simp, szl2 rfl, fun ii v H4 hii b4 x4 => ?_⟩⟩
  have x34 := (Ext.new hpl).trans x4
  have e34 : ExtT H3 H4 := ExtT.bag b3 x34
  obtain ⟨dk, _, _, _, gk, -⟩ := id (kat.t e34)
  have ncB : ∀ q o, H3 q = some o → (∀ xs, o ≠ .lst xs) → H4 q = some o := fun q o h n => e34 _ _ h n
  have gq4 := ncB _ _ gq3 (fun _ z => nomatch z)
  have gd4 := ncB _ _ gd3 (fun _ z => nomatch z)
  have npc : p1 ≠ c := fun z => by
    obtain ⟨ns, pt, rest, h1, _⟩ := b3
    rw [z, h1] at gp3
    cases gp3
  have gp4 := x34 _ _ npc gp3
  dsimp only [gName, List.set]
  obtain ⟨tt, ty, kt⟩ : ∃ tt, TyX K H4 v tt ∧ PySem.W.kitOne K tt (.type "str") = some false := by
    have hm := one_of hii
    simp only [List.mem_cons, List.not_mem_nil, or_false] at hm
    rcases hm with rfl | rfl | rfl | rfl | rfl | rfl | rfl
    · exact ⟨.type "NoneType", .base .non, kit_ty rfl⟩
    · exact ⟨.type "int", .base (.int _), kit_ty rfl⟩
    · exact ⟨.type "bool", .base (.bl _), kit_ty rfl⟩
    · exact ⟨.type "list", .base (.lst gp4), kit_ty rfl⟩
    · exact ⟨.type "tuple", .base (.tup gq4), kit_ty rfl⟩
    · exact ⟨.type "dict", .base (.dK gd4), kit_ty rfl⟩
    · exact ⟨.ref T.c_Kind, T.ty_Kind.ty gk, T.ks_Kind⟩
  clear hii gk gp4 gq4 gd4 ncB e34 x34 x4 kat gp3 gq3 gd3 b3 hpl
  have n1 : rdText "x rides up\n" = .error (1, 0) := by kernel_rfl
  have n2 : rdText "" = .error (0, 0) := by kernel_rfl
  have two : ∀ (r t6 : Addr) (H6 : Hp) (m : Int), H6 r = some (.tup [.int m, .int 0]) → H6 t6 = none → Dp K (upd H6 t6 (.tup [.int m, .int 0])) (.ref r) (.tuple [.int m, .int 0]) ∧ Dp K (upd H6 t6 (.tup [.int m, .int 0])) (.ref t6) (.tuple [.int m, .int 0]) := fun r t6 H6 m h1 h2 =>
    ⟨.tup (.of (by rw [upd_ne (ne_of_none h1 h2)]; exact h1)) (.cons (.int _) (.cons (.int _) .nil)), .tup (.of upd_same) (.cons (.int _) (.cons (.int _) .nil))⟩
  -- the answers
  refine ⟨_, rfl, v, tt, rfl, ty, .inr ⟨kt, fun r H6 s6 hr6 => ⟨szl rfl, fun t6 ht6 => ⟨.tuple [.int 0, .int 0], .tuple [.int 0, .int 0], (two r t6 H6 0 hr6 ht6).1, (two r t6 H6 0 hr6 ht6).2, by decide, by decide, _, rfl, iteT' (by decide +kernel) ?_⟩⟩⟩⟩
  refine ⟨.str "x rides up\n", .type "str", rfl, .base (.str _), .inl ⟨_, rfl, by decide +kernel, fun lp pp e r H7 s7 hr7 => ?_, fun z9 ps9 rs9 q9 e => (by rw [n1] at e; cases e)⟩⟩
  rw [n1] at e
  cases e
  refine ⟨szl rfl, fun t7 ht7 => ⟨.tuple [.int 1, .int 0], .tuple [.int 1, .int 0], (two r t7 H7 1 hr7 ht7).1, (two r t7 H7 1 hr7 ht7).2, by decide, by decide, _, rfl, iteT' (by decide +kernel) ?_⟩⟩
  refine ⟨.str "", .type "str", rfl, .base (.str _), .inl ⟨_, rfl, by decide +kernel, fun lp pp e r H8 s8 hr8 => ?_, fun z9 ps9 rs9 q9 e => (by rw [n2] at e; cases e)⟩⟩
  rw [n2] at e
  cases e
  refine ⟨szl rfl, fun t8 ht8 => ⟨.tuple [.int 0, .int 0], .tuple [.int 0, .int 0], (two r t8 H8 0 hr8 ht8).1, (two r t8 H8 0 hr8 ht8).2, by decide, by decide, ?_⟩⟩
  exact k _
end
end Kd

set_option Elab.async false
set_option linter.all false
set_option maxRecDepth 100000
set_option maxHeartbeats 4000000
namespace Kd
open PySem PySem.Spec PyProof.Rows L2 Gs
section
variable {K : PySem.W.Frag} {w : World}
theorem isFn_of {f : Addr} (h : PySem.W.typeIn K (.ref f) = some (.type "function")) : PySem.W.isFn K (.ref f) = true := by
  unfold PySem.W.isFn; rw [h]; rfl
theorem cls_by {S : Addr} {t : Value} {b : Bool} (h2 : PySem.W.isClsIn K S = true) (h3 : PySem.W.typeIn K (.ref S) = some (.type "type")) (h4 : PySem.W.subIn K t (.ref S) = some b) : PySem.W.kitCls K t (.ref S) = some b := by
  have h2' : (PySem.W.clsIn K S).isSome = true := h2
  show (if ((PySem.W.clsIn K S).isSome && PySem.W.typeIn K (.ref S) == some (.type "type")) = true then PySem.W.subIn K t (.ref S) else none) = some b
  rw [h2', h3]
  exact h4
theorem exm_by {C S : Addr} {b : Bool} (h1 : PySem.W.subIn K (.ref S) (.type "BaseException") = some true) (h2 : PySem.W.isClsIn K S = true) (h3 : PySem.W.typeIn K (.ref S) = some (.type "type")) (h4 : PySem.W.subIn K (.ref C) (.ref S) = some b) :
    PySem.W.exmOne K (.ref C) (.ref S) = some b := by
  have e1 : (PySem.W.subIn K (.ref S) (.type "BaseException") == some true) = true := by rw [h1] <;> rfl
  show (if (PySem.W.subIn K (.ref S) (.type "BaseException") == some true) = true then PySem.W.kitCls K (.ref C) (.ref S) else none) = some b
  rw [if_pos e1]
  exact cls_by h2 h3 h4
theorem kit_by {S : Addr} {t : String} {b : Bool} (h2 : PySem.W.isClsIn K S = true) (h3 : PySem.W.typeIn K (.ref S) = some (.type "type")) (h4 : PySem.W.subIn K (.type t) (.ref S) = some b) : PySem.W.kitOne K (.type t) (.ref S) = some b := by
  show (if ((Value.type t) == (Value.ref S)) = true then some true else PySem.W.kitCls K (.type t) (.ref S)) = some b
  rw [if_neg (by simp)]
  exact cls_by h2 h3 h4
theorem kn_of {S : Addr} (h2 : PySem.W.isClsIn K S = true) (h3 : PySem.W.typeIn K (.ref S) = some (.type "type")) (a1 : PySem.W.subIn K (.type "list") (.ref S) = some false) (a2 : PySem.W.subIn K (.type "str") (.ref S) = some false) (a3 : PySem.W.subIn K (.type "NoneType") (.ref S) = some false)
    (a4 : PySem.W.subIn K (.type "int") (.ref S) = some false) (a5 : PySem.W.subIn K (.type "bool") (.ref S) = some false) (a6 : PySem.W.subIn K (.type "tuple") (.ref S) = some false) (a7 : PySem.W.subIn K (.type "dict") (.ref S) = some false) :
    ∀ t ∈ (["list", "str", "NoneType", "int", "bool", "tuple", "dict"] : List String), PySem.W.kitOne K (.type t) (.ref S) = some false := fun t ht => by
  simp only [List.mem_cons, List.not_mem_nil, or_false] at ht
  rcases ht with rfl | rfl | rfl | rfl | rfl | rfl | rfl
  · exact kit_by h2 h3 a1
  · exact kit_by h2 h3 a2
  · exact kit_by h2 h3 a3
  · exact kit_by h2 h3 a4
  · exact kit_by h2 h3 a5
  · exact kit_by h2 h3 a6
  · exact kit_by h2 h3 a7
theorem ks_of {S : Addr} (h : PySem.W.subIn K (.ref S) (.type "str") = some false) : PySem.W.kitOne K (.ref S) (.type "str") = some false := by
  show (if ((Value.ref S) == (Value.type "str")) = true then some true else (if PySem.W.kitMeta "str" = true then PySem.W.subIn K (.ref S) (.type "str") else none)) = some false
  rw [if_neg (by simp), if_pos (by decide +kernel)]
  exact h
theorem nf_of {S : Addr} (a1 : PySem.W.notFirst K S (.type "list") = true) (a2 : PySem.W.notFirst K S (.type "str") = true) : ∀ t ∈ (["list", "str"] : List String), PySem.W.notFirst K S (.type t) = true := fun t ht => by
  simp only [List.mem_cons, List.not_mem_nil, or_false] at ht
  rcases ht with rfl | rfl
  · exact a1
  · exact a2
theorem wd_of {d r l u o : Addr} {es : Array DictEntry} {n : Nat} (h1 : K.lookup d = some ⟨.type "dict", none, .dict es n, #[]⟩) (h2 : PySem.W.KeysLit w.params es.toList) (h3 : (d == sysModules) = false) (h4 : es.size = 4)
    (a : ∃ en t, es[0]? = some en ∧ en.key = .str "right" t ∧ RelV (.ref r) en.val) (b : ∃ en t, es[1]? = some en ∧ en.key = .str "left" t ∧ RelV (.ref l) en.val) (c : ∃ en t, es[2]? = some en ∧ en.key = .str "up" t ∧ RelV (.ref u) en.val) (e : ∃ en t, es[3]? = some en ∧ en.key = .str "down" t ∧ RelV (.ref o) en.val) :
    WD K w d [("right", .ref r), ("left", .ref l), ("up", .ref u), ("down", .ref o)] :=
  ⟨⟨es, n, ⟨h1, h2, h3⟩, h4, fun i k v h => by
    match i, h with
    | 0, h => cases h; exact a
    | 1, h => cases h; exact b
    | 2, h => cases h; exact c
    | 3, h => cases h; exact e⟩⟩
theorem b5_of {tE a : Addr} {d : FuncData} (F : FunD K "__init__" "Kind.__init__" (defArgs s_Kind___init__) (defBody s_Kind___init__) (defScope s_Kind___init__) [.ref tE, .bl false] [] a d) : Binds K d ["self", "name", "leaps", "rides", "is_lord"] [] := by
  obtain ⟨ds, v, b⟩ : ∃ ds : List Value, Vals (([.ref tE, .bl false] : List V).drop 2) ds ∧ Binds K d ["self", "name", "leaps", "rides", "is_lord"] ds :=
    FunD.binds1 F 5 2 (by simp) rfl fun T kV doc pm an cdv ct us its l1 l2 => by
      match us, its, l1, l2 with
      | [x, n, l, r, q], [d1, d2], _, _ => exact ⟨_, rfl, rfl⟩
  cases v
  exact b
end
theorem seq_list {its : Array Value} {n : Nat} : Data.seq its n = Data.seq its.toList.toArray n := by simp
theorem all_mk {l : PySem.W.OpenLaw} {w : World} {K : PySem.W.Frag} {h : Heap} {mg : Str → Option Value} {fa : Addr} (X : K.In h) (G : h.Ns mainGlobals mg) (hfa : mg "law" = some (.ref fa))
    {cALine : Addr} {cAKind : Addr} {cAFieldError : Addr} {nmFieldError qFieldError : Str} {NFieldError : Addr} {bsFieldError bmFieldError : List Value} {snFieldError : List Str} {subFieldError : List Value} {abFieldError : Bool} {colFieldError : Option Bool} {ddFieldError : Option Addr} {m0FieldError m1FieldError m2FieldError m3FieldError m5FieldError : Option Value} {cABadKind : Addr} {nmBadKind qBadKind : Str} {NBadKind : Addr} {bsBadKind bmBadKind : List Value} {snBadKind : List Str} {subBadKind : List Value} {abBadKind : Bool} {colBadKind : Option Bool} {ddBadKind : Option Addr} {m0BadKind m1BadKind m2BadKind m3BadKind m5BadKind : Option Value} {cAMisfit : Addr} {nmMisfit qMisfit : Str} {NMisfit : Addr} {bsMisfit bmMisfit : List Value} {snMisfit : List Str} {subMisfit : List Value} {abMisfit : Bool} {colMisfit : Option Bool} {ddMisfit : Option Addr} {m0Misfit m1Misfit m2Misfit m3Misfit m5Misfit : Option Value} {cABadText : Addr} {nmBadText qBadText : Str} {NBadText : Addr} {bsBadText bmBadText : List Value} {snBadText : List Str} {subBadText : List Value} {abBadText : Bool} {colBadText : Option Bool} {ddBadText : Option Addr} {m0BadText m1BadText m2BadText m3BadText m5BadText : Option Value} {f0 : Addr} {od0 an0 : Option Addr} {sl0 : Array (Option Value)} {oc0 kV0 dc0 pm0 ct0 : Value} {cd0 : Value} {f1 : Addr} {od1 an1 : Option Addr} {sl1 : Array (Option Value)} {oc1 kV1 dc1 pm1 ct1 : Value} {cd1 : Value} {f2 : Addr} {od2 an2 : Option Addr} {sl2 : Array (Option Value)} {oc2 kV2 dc2 pm2 ct2 : Value} {cd2 : Value} {f3 : Addr} {od3 an3 : Option Addr} {sl3 : Array (Option Value)} {oc3 kV3 dc3 pm3 ct3 : Value} {cd3 : Value} {f4 : Addr} {od4 an4 : Option Addr} {sl4 : Array (Option Value)} {oc4 kV4 dc4 pm4 ct4 : Value} {cd4 : Value} {f5 : Addr} {od5 an5 : Option Addr} {sl5 : Array (Option Value)} {oc5 kV5 dc5 pm5 ct5 : Value} {cd5 : Value} {f6 : Addr} {od6 an6 : Option Addr} {sl6 : Array (Option Value)} {oc6 kV6 dc6 pm6 ct6 : Value} {cd6 : Value} {f7 : Addr} {od7 an7 : Option Addr} {sl7 : Array (Option Value)} {oc7 kV7 dc7 pm7 ct7 : Value} {cd7 : Value} {f8 : Addr} {od8 an8 : Option Addr} {sl8 : Array (Option Value)} {oc8 kV8 dc8 pm8 ct8 : Value} {cd8 : Value} {f9 : Addr} {od9 an9 : Option Addr} {sl9 : Array (Option Value)} {oc9 kV9 dc9 pm9 ct9 : Value} {cd9 : Value} {f10 : Addr} {od10 an10 : Option Addr} {sl10 : Array (Option Value)} {oc10 kV10 dc10 pm10 ct10 : Value} {cd10 : Value} {f11 : Addr} {od11 an11 : Option Addr} {sl11 : Array (Option Value)} {oc11 kV11 dc11 pm11 ct11 : Value} {cd11 : Value} {f12 : Addr} {od12 an12 : Option Addr} {sl12 : Array (Option Value)} {oc12 kV12 dc12 pm12 ct12 : Value} {cd12 : Value} {f13 : Addr} {od13 an13 : Option Addr} {sl13 : Array (Option Value)} {oc13 kV13 dc13 pm13 ct13 : Value} {cd13 : Value} {f14 : Addr} {od14 an14 : Option Addr} {sl14 : Array (Option Value)} {oc14 kV14 dc14 pm14 ct14 : Value} {cd14 : Value} {f15 : Addr} {od15 an15 : Option Addr} {sl15 : Array (Option Value)} {oc15 kV15 dc15 pm15 ct15 : Value} {cd15 : Value} {f16 : Addr} {od16 an16 : Option Addr} {sl16 : Array (Option Value)} {oc16 kV16 dc16 pm16 ct16 : Value} {cd16 : Value} {dT16 : Addr} {dO16 : Option Addr} {dI16 : Array Value} {dN16 : Nat} {dS16 : Array (Option Value)} {eT : Addr} {eO : Option Addr} {eI : Array Value} {eN : Nat} {eS : Array (Option Value)} {f17 : Addr} {od17 an17 : Option Addr} {sl17 : Array (Option Value)} {oc17 kV17 dc17 pm17 ct17 : Value} {cd17 : Value} {f18 : Addr} {od18 an18 : Option Addr} {sl18 : Array (Option Value)} {oc18 kV18 dc18 pm18 ct18 : Value} {cd18 : Value} {f19 : Addr} {od19 an19 : Option Addr} {sl19 : Array (Option Value)} {oc19 kV19 dc19 pm19 ct19 : Value} {cd19 : Value} {sp19 : Addr} {sr19 : List Value} {f20 : Addr} {od20 an20 : Option Addr} {sl20 : Array (Option Value)} {oc20 kV20 dc20 pm20 ct20 : Value} {cd20 : Value} {f21 : Addr} {od21 an21 : Option Addr} {sl21 : Array (Option Value)} {oc21 kV21 dc21 pm21 ct21 : Value} {cd21 : Value} {f22 : Addr} {od22 an22 : Option Addr} {sl22 : Array (Option Value)} {oc22 kV22 dc22 pm22 ct22 : Value} {cd22 : Value} {f23 : Addr} {od23 an23 : Option Addr} {sl23 : Array (Option Value)} {oc23 kV23 dc23 pm23 ct23 : Value} {cd23 : Value} {f24 : Addr} {od24 an24 : Option Addr} {sl24 : Array (Option Value)} {oc24 kV24 dc24 pm24 ct24 : Value} {cd24 : Value} {f25 : Addr} {od25 an25 : Option Addr} {sl25 : Array (Option Value)} {oc25 kV25 dc25 pm25 ct25 : Value} {cd25 : Value} {f26 : Addr} {od26 an26 : Option Addr} {sl26 : Array (Option Value)} {oc26 kV26 dc26 pm26 ct26 : Value} {cd26 : Value} {f27 : Addr} {od27 an27 : Option Addr} {sl27 : Array (Option Value)} {oc27 kV27 dc27 pm27 ct27 : Value} {cd27 : Value} {f28 : Addr} {od28 an28 : Option Addr} {sl28 : Array (Option Value)} {oc28 kV28 dc28 pm28 ct28 : Value} {cd28 : Value} {f29 : Addr} {od29 an29 : Option Addr} {sl29 : Array (Option Value)} {oc29 kV29 dc29 pm29 ct29 : Value} {cd29 : Value} {f30 : Addr} {od30 an30 : Option Addr} {sl30 : Array (Option Value)} {oc30 kV30 dc30 pm30 ct30 : Value} {cd30 : Value} {f31 : Addr} {od31 an31 : Option Addr} {sl31 : Array (Option Value)} {oc31 kV31 dc31 pm31 ct31 : Value} {cd31 : Value} {f32 : Addr} {od32 an32 : Option Addr} {sl32 : Array (Option Value)} {oc32 kV32 dc32 pm32 ct32 : Value} {cd32 : Value} {f33 : Addr} {od33 an33 : Option Addr} {sl33 : Array (Option Value)} {oc33 kV33 dc33 pm33 ct33 : Value} {cd33 : Value} {f34 : Addr} {od34 an34 : Option Addr} {sl34 : Array (Option Value)} {oc34 kV34 dc34 pm34 ct34 : Value} {cd34 : Value} {f35 : Addr} {od35 an35 : Option Addr} {sl35 : Array (Option Value)} {oc35 kV35 dc35 pm35 ct35 : Value} {cd35 : Value} {f36 : Addr} {od36 an36 : Option Addr} {sl36 : Array (Option Value)} {oc36 kV36 dc36 pm36 ct36 : Value} {cd36 : Value} {f37 : Addr} {od37 an37 : Option Addr} {sl37 : Array (Option Value)} {oc37 kV37 dc37 pm37 ct37 : Value} {cd37 : Value} {f38 : Addr} {od38 an38 : Option Addr} {sl38 : Array (Option Value)} {oc38 kV38 dc38 pm38 ct38 : Value} {cd38 : Value} {f39 : Addr} {od39 an39 : Option Addr} {sl39 : Array (Option Value)} {oc39 kV39 dc39 pm39 ct39 : Value} {cd39 : Value} {f40 : Addr} {od40 an40 : Option Addr} {sl40 : Array (Option Value)} {oc40 kV40 dc40 pm40 ct40 : Value} {cd40 : Value} {f41 : Addr} {od41 an41 : Option Addr} {sl41 : Array (Option Value)} {oc41 kV41 dc41 pm41 ct41 : Value} {cd41 : Value} {f42 : Addr} {od42 an42 : Option Addr} {sl42 : Array (Option Value)} {oc42 kV42 dc42 pm42 ct42 : Value} {cd42 : Value}   {tL1 : Tok} {tN1 : Tok} {tD1 : Tok} {tM1 : Tok} {tP1 : Tok} {fB : Addr} {odB : Option Addr} {itB : Array Value} {nB : Nat} {slB : Array (Option Value)} {fS tRr tLl tUu tDd : Addr} {esS : Array DictEntry} {nS : Nat} {oRr : Option Addr} {iRr : Array Value} {nRr : Nat} {sRr : Array (Option Value)} {oLl : Option Addr} {iLl : Array Value} {nLl : Nat} {sLl : Array (Option Value)} {oUu : Option Addr} {iUu : Array Value} {nUu : Nat} {sUu : Array (Option Value)} {oDd : Option Addr} {iDd : Array Value} {nDd : Nat} {sDd : Array (Option Value)}
    (aCLine : PySem.W.nsIn K mainGlobals "Line" = some (some (.ref cALine)))
    (pgLine : PySem.W.plainGet K cALine Str.empty = true)
    (hdLine : PySem.W.hasDictIn K cALine = true)
    (poLine : PySem.W.plainOver K cALine = true)
    (saLine : PySem.W.findIn K (.ref cALine) "__setattr__" = some (some (.builtin "object.__setattr__")))
    (mkLine : PySem.W.makesIn K cALine = true)
    (kcLine : PySem.W.keepIn K (.ref cALine) = true)
    (nFLine_number : PySem.W.findIn K (.ref cALine) "number" = some none)
    (nFLine_words : PySem.W.findIn K (.ref cALine) "words" = some none)
    (nFLine_at : PySem.W.findIn K (.ref cALine) "at" = some none)
    (aCKind : PySem.W.nsIn K mainGlobals "Kind" = some (some (.ref cAKind)))
    (pgKind : PySem.W.plainGet K cAKind Str.empty = true)
    (hdKind : PySem.W.hasDictIn K cAKind = true)
    (poKind : PySem.W.plainOver K cAKind = true)
    (saKind : PySem.W.findIn K (.ref cAKind) "__setattr__" = some (some (.builtin "object.__setattr__")))
    (mkKind : PySem.W.makesIn K cAKind = true)
    (kcKind : PySem.W.keepIn K (.ref cAKind) = true)
    (nFKind_name : PySem.W.findIn K (.ref cAKind) "name" = some none)
    (nFKind_leaps : PySem.W.findIn K (.ref cAKind) "leaps" = some none)
    (nFKind_rides : PySem.W.findIn K (.ref cAKind) "rides" = some none)
    (nFKind_is_lord : PySem.W.findIn K (.ref cAKind) "is_lord" = some none)
    (aCFieldError : PySem.W.nsIn K mainGlobals "FieldError" = some (some (.ref cAFieldError)))
    (xLFieldError : K.lookup cAFieldError = some (excClassObj nmFieldError qFieldError cAFieldError NFieldError bsFieldError bmFieldError true snFieldError subFieldError abFieldError colFieldError ddFieldError m0FieldError m1FieldError m2FieldError m3FieldError m5FieldError "ValueError.__new__"))
    (rfFieldError : PySem.HandSPX.refsVE bmFieldError = true)
    (saFieldError : PySem.W.findIn K (.ref cAFieldError) "__setattr__" = some (some (.builtin "object.__setattr__")))
    (eCFieldError : PySem.W.subIn K (.ref cAFieldError) (.type "BaseException") = some true)
    (tCFieldError : PySem.W.typeIn K (.ref cAFieldError) = some (.type "type"))
    (kcFieldError : PySem.W.keepIn K (.ref cAFieldError) = true)
    (hdFieldError : PySem.W.hasDictIn K cAFieldError = true)
    (iCFieldError : PySem.W.isClsIn K cAFieldError = true)
    (gaFieldError : PySem.W.findIn K (.ref cAFieldError) "__getattribute__" = some (some (.builtin "BaseException.__getattribute__")))
    (ggFieldError : PySem.W.findIn K (.ref cAFieldError) "__getattr__" = some none)
    (aCBadKind : PySem.W.nsIn K mainGlobals "BadKind" = some (some (.ref cABadKind)))
    (xLBadKind : K.lookup cABadKind = some (excClassObj nmBadKind qBadKind cABadKind NBadKind bsBadKind bmBadKind true snBadKind subBadKind abBadKind colBadKind ddBadKind m0BadKind m1BadKind m2BadKind m3BadKind m5BadKind "ValueError.__new__"))
    (rfBadKind : PySem.HandSPX.refsVE bmBadKind = true)
    (saBadKind : PySem.W.findIn K (.ref cABadKind) "__setattr__" = some (some (.builtin "object.__setattr__")))
    (eCBadKind : PySem.W.subIn K (.ref cABadKind) (.type "BaseException") = some true)
    (tCBadKind : PySem.W.typeIn K (.ref cABadKind) = some (.type "type"))
    (kcBadKind : PySem.W.keepIn K (.ref cABadKind) = true)
    (hdBadKind : PySem.W.hasDictIn K cABadKind = true)
    (iCBadKind : PySem.W.isClsIn K cABadKind = true)
    (gaBadKind : PySem.W.findIn K (.ref cABadKind) "__getattribute__" = some (some (.builtin "BaseException.__getattribute__")))
    (ggBadKind : PySem.W.findIn K (.ref cABadKind) "__getattr__" = some none)
    (noBadKind_part : PySem.W.findIn K (.ref cABadKind) "part" = some none)
    (aCMisfit : PySem.W.nsIn K mainGlobals "Misfit" = some (some (.ref cAMisfit)))
    (xLMisfit : K.lookup cAMisfit = some (excClassObj nmMisfit qMisfit cAMisfit NMisfit bsMisfit bmMisfit true snMisfit subMisfit abMisfit colMisfit ddMisfit m0Misfit m1Misfit m2Misfit m3Misfit m5Misfit "ValueError.__new__"))
    (rfMisfit : PySem.HandSPX.refsVE bmMisfit = true)
    (saMisfit : PySem.W.findIn K (.ref cAMisfit) "__setattr__" = some (some (.builtin "object.__setattr__")))
    (eCMisfit : PySem.W.subIn K (.ref cAMisfit) (.type "BaseException") = some true)
    (tCMisfit : PySem.W.typeIn K (.ref cAMisfit) = some (.type "type"))
    (kcMisfit : PySem.W.keepIn K (.ref cAMisfit) = true)
    (hdMisfit : PySem.W.hasDictIn K cAMisfit = true)
    (iCMisfit : PySem.W.isClsIn K cAMisfit = true)
    (gaMisfit : PySem.W.findIn K (.ref cAMisfit) "__getattribute__" = some (some (.builtin "BaseException.__getattribute__")))
    (ggMisfit : PySem.W.findIn K (.ref cAMisfit) "__getattr__" = some none)
    (noMisfit_part : PySem.W.findIn K (.ref cAMisfit) "part" = some none)
    (aCBadText : PySem.W.nsIn K mainGlobals "BadText" = some (some (.ref cABadText)))
    (xLBadText : K.lookup cABadText = some (excClassObj nmBadText qBadText cABadText NBadText bsBadText bmBadText true snBadText subBadText abBadText colBadText ddBadText m0BadText m1BadText m2BadText m3BadText m5BadText "ValueError.__new__"))
    (rfBadText : PySem.HandSPX.refsVE bmBadText = true)
    (saBadText : PySem.W.findIn K (.ref cABadText) "__setattr__" = some (some (.builtin "object.__setattr__")))
    (eCBadText : PySem.W.subIn K (.ref cABadText) (.type "BaseException") = some true)
    (tCBadText : PySem.W.typeIn K (.ref cABadText) = some (.type "type"))
    (kcBadText : PySem.W.keepIn K (.ref cABadText) = true)
    (hdBadText : PySem.W.hasDictIn K cABadText = true)
    (iCBadText : PySem.W.isClsIn K cABadText = true)
    (gaBadText : PySem.W.findIn K (.ref cABadText) "__getattribute__" = some (some (.builtin "BaseException.__getattribute__")))
    (ggBadText : PySem.W.findIn K (.ref cABadText) "__getattr__" = some none)
    (noBadText_line : PySem.W.findIn K (.ref cABadText) "line" = some none)
    (noBadText_item : PySem.W.findIn K (.ref cABadText) "item" = some none)
    (xmBadText_BadText : PySem.W.subIn K (.ref cABadText) (.ref cABadText) = some true)
    (a0 : PySem.W.nsIn K mainGlobals "is_integer" = some (some (.ref f0)))
    (l0 : K.lookup f0 = some ⟨oc0, od0, .func (PySem.W.fnOf "is_integer" "is_integer" (defArgs s_is_integer) (defBody s_is_integer) (defScope s_is_integer) .none kV0 dc0 pm0 an0 cd0 ct0), sl0⟩)
    (c0 : PySem.W.codeIn K cd0 "is_integer" = true)
    (k0 : PySem.W.keepIn K (.ref f0) = true)
    (a1 : PySem.W.nsIn K mainGlobals "is_within" = some (some (.ref f1)))
    (l1 : K.lookup f1 = some ⟨oc1, od1, .func (PySem.W.fnOf "is_within" "is_within" (defArgs s_is_within) (defBody s_is_within) (defScope s_is_within) .none kV1 dc1 pm1 an1 cd1 ct1), sl1⟩)
    (c1 : PySem.W.codeIn K cd1 "is_within" = true)
    (k1 : PySem.W.keepIn K (.ref f1) = true)
    (a2 : PySem.W.nsIn K mainGlobals "is_list" = some (some (.ref f2)))
    (l2 : K.lookup f2 = some ⟨oc2, od2, .func (PySem.W.fnOf "is_list" "is_list" (defArgs s_is_list) (defBody s_is_list) (defScope s_is_list) .none kV2 dc2 pm2 an2 cd2 ct2), sl2⟩)
    (c2 : PySem.W.codeIn K cd2 "is_list" = true)
    (k2 : PySem.W.keepIn K (.ref f2) = true)
    (a3 : PySem.W.nsIn K mainGlobals "is_name" = some (some (.ref f3)))
    (l3 : K.lookup f3 = some ⟨oc3, od3, .func (PySem.W.fnOf "is_name" "is_name" (defArgs s_is_name) (defBody s_is_name) (defScope s_is_name) .none kV3 dc3 pm3 an3 cd3 ct3), sl3⟩)
    (c3 : PySem.W.codeIn K cd3 "is_name" = true)
    (k3 : PySem.W.keepIn K (.ref f3) = true)
    (a4 : PySem.W.findIn K (.ref cABadKind) "__init__" = some (some (.ref f4)))
    (t4 : PySem.W.typeIn K (.ref f4) = some (.type "function"))
    (l4 : K.lookup f4 = some ⟨oc4, od4, .func (PySem.W.fnOf "__init__" "BadKind.__init__" (defArgs s_BadKind___init__) (defBody s_BadKind___init__) (defScope s_BadKind___init__) .none kV4 dc4 pm4 an4 cd4 ct4), sl4⟩)
    (c4 : PySem.W.codeIn K cd4 "BadKind.__init__" = true)
    (k4 : PySem.W.keepIn K (.ref f4) = true)
    (a5 : PySem.W.findIn K (.ref cAMisfit) "__init__" = some (some (.ref f5)))
    (t5 : PySem.W.typeIn K (.ref f5) = some (.type "function"))
    (l5 : K.lookup f5 = some ⟨oc5, od5, .func (PySem.W.fnOf "__init__" "Misfit.__init__" (defArgs s_Misfit___init__) (defBody s_Misfit___init__) (defScope s_Misfit___init__) .none kV5 dc5 pm5 an5 cd5 ct5), sl5⟩)
    (c5 : PySem.W.codeIn K cd5 "Misfit.__init__" = true)
    (k5 : PySem.W.keepIn K (.ref f5) = true)
    (a6 : PySem.W.findIn K (.ref cABadText) "__init__" = some (some (.ref f6)))
    (t6 : PySem.W.typeIn K (.ref f6) = some (.type "function"))
    (l6 : K.lookup f6 = some ⟨oc6, od6, .func (PySem.W.fnOf "__init__" "BadText.__init__" (defArgs s_BadText___init__) (defBody s_BadText___init__) (defScope s_BadText___init__) .none kV6 dc6 pm6 an6 cd6 ct6), sl6⟩)
    (c6 : PySem.W.codeIn K cd6 "BadText.__init__" = true)
    (k6 : PySem.W.keepIn K (.ref f6) = true)
    (a7 : PySem.W.nsIn K mainGlobals "integer_of" = some (some (.ref f7)))
    (l7 : K.lookup f7 = some ⟨oc7, od7, .func (PySem.W.fnOf "integer_of" "integer_of" (defArgs s_integer_of) (defBody s_integer_of) (defScope s_integer_of) .none kV7 dc7 pm7 an7 cd7 ct7), sl7⟩)
    (c7 : PySem.W.codeIn K cd7 "integer_of" = true)
    (k7 : PySem.W.keepIn K (.ref f7) = true)
    (a8 : PySem.W.nsIn K mainGlobals "lines_of" = some (some (.ref f8)))
    (l8 : K.lookup f8 = some ⟨oc8, od8, .func (PySem.W.fnOf "lines_of" "lines_of" (defArgs s_lines_of) (defBody s_lines_of) (defScope s_lines_of) .none kV8 dc8 pm8 an8 cd8 ct8), sl8⟩)
    (c8 : PySem.W.codeIn K cd8 "lines_of" = true)
    (k8 : PySem.W.keepIn K (.ref f8) = true)
    (a9 : PySem.W.findIn K (.ref cALine) "__init__" = some (some (.ref f9)))
    (t9 : PySem.W.typeIn K (.ref f9) = some (.type "function"))
    (l9 : K.lookup f9 = some ⟨oc9, od9, .func (PySem.W.fnOf "__init__" "Line.__init__" (defArgs s_Line___init__) (defBody s_Line___init__) (defScope s_Line___init__) .none kV9 dc9 pm9 an9 cd9 ct9), sl9⟩)
    (c9 : PySem.W.codeIn K cd9 "Line.__init__" = true)
    (k9 : PySem.W.keepIn K (.ref f9) = true)
    (a10 : PySem.W.findIn K (.ref cALine) "is_left" = some (some (.ref f10)))
    (t10 : PySem.W.typeIn K (.ref f10) = some (.type "function"))
    (l10 : K.lookup f10 = some ⟨oc10, od10, .func (PySem.W.fnOf "is_left" "Line.is_left" (defArgs s_Line_is_left) (defBody s_Line_is_left) (defScope s_Line_is_left) .none kV10 dc10 pm10 an10 cd10 ct10), sl10⟩)
    (c10 : PySem.W.codeIn K cd10 "Line.is_left" = true)
    (k10 : PySem.W.keepIn K (.ref f10) = true)
    (a11 : PySem.W.findIn K (.ref cALine) "seen" = some (some (.ref f11)))
    (t11 : PySem.W.typeIn K (.ref f11) = some (.type "function"))
    (l11 : K.lookup f11 = some ⟨oc11, od11, .func (PySem.W.fnOf "seen" "Line.seen" (defArgs s_Line_seen) (defBody s_Line_seen) (defScope s_Line_seen) .none kV11 dc11 pm11 an11 cd11 ct11), sl11⟩)
    (c11 : PySem.W.codeIn K cd11 "Line.seen" = true)
    (k11 : PySem.W.keepIn K (.ref f11) = true)
    (a12 : PySem.W.findIn K (.ref cALine) "integer" = some (some (.ref f12)))
    (t12 : PySem.W.typeIn K (.ref f12) = some (.type "function"))
    (l12 : K.lookup f12 = some ⟨oc12, od12, .func (PySem.W.fnOf "integer" "Line.integer" (defArgs s_Line_integer) (defBody s_Line_integer) (defScope s_Line_integer) .none kV12 dc12 pm12 an12 cd12 ct12), sl12⟩)
    (c12 : PySem.W.codeIn K cd12 "Line.integer" = true)
    (k12 : PySem.W.keepIn K (.ref f12) = true)
    (a13 : PySem.W.findIn K (.ref cALine) "take" = some (some (.ref f13)))
    (t13 : PySem.W.typeIn K (.ref f13) = some (.type "function"))
    (l13 : K.lookup f13 = some ⟨oc13, od13, .func (PySem.W.fnOf "take" "Line.take" (defArgs s_Line_take) (defBody s_Line_take) (defScope s_Line_take) .none kV13 dc13 pm13 an13 cd13 ct13), sl13⟩)
    (c13 : PySem.W.codeIn K cd13 "Line.take" = true)
    (k13 : PySem.W.keepIn K (.ref f13) = true)
    (a14 : PySem.W.findIn K (.ref cALine) "skip" = some (some (.ref f14)))
    (t14 : PySem.W.typeIn K (.ref f14) = some (.type "function"))
    (l14 : K.lookup f14 = some ⟨oc14, od14, .func (PySem.W.fnOf "skip" "Line.skip" (defArgs s_Line_skip) (defBody s_Line_skip) (defScope s_Line_skip) .none kV14 dc14 pm14 an14 cd14 ct14), sl14⟩)
    (c14 : PySem.W.codeIn K cd14 "Line.skip" = true)
    (k14 : PySem.W.keepIn K (.ref f14) = true)
    (a15 : PySem.W.findIn K (.ref cALine) "refuse" = some (some (.ref f15)))
    (t15 : PySem.W.typeIn K (.ref f15) = some (.type "function"))
    (l15 : K.lookup f15 = some ⟨oc15, od15, .func (PySem.W.fnOf "refuse" "Line.refuse" (defArgs s_Line_refuse) (defBody s_Line_refuse) (defScope s_Line_refuse) .none kV15 dc15 pm15 an15 cd15 ct15), sl15⟩)
    (c15 : PySem.W.codeIn K cd15 "Line.refuse" = true)
    (k15 : PySem.W.keepIn K (.ref f15) = true)
    (a16 : PySem.W.findIn K (.ref cAKind) "__init__" = some (some (.ref f16)))
    (t16 : PySem.W.typeIn K (.ref f16) = some (.type "function"))
    (l16 : K.lookup f16 = some ⟨oc16, od16, .func (PySem.W.fnOf "__init__" "Kind.__init__" (defArgs s_Kind___init__) (defBody s_Kind___init__) (defScope s_Kind___init__) (.ref dT16) kV16 dc16 pm16 an16 cd16 ct16), sl16⟩)
    (c16 : PySem.W.codeIn K cd16 "Kind.__init__" = true)
    (k16 : PySem.W.keepIn K (.ref f16) = true)
    (dl16 : K.lookup dT16 = some ⟨.type "tuple", dO16, .seq dI16 dN16, dS16⟩)
    (vE : Vals [.ref eT, .bl false] dI16.toList)
    (lE : K.lookup eT = some ⟨.type "tuple", eO, .seq eI eN, eS⟩)
    (zE : eI.size ≤ sizeLine)
    (uE : Vals [] eI.toList)
    (a17 : PySem.W.findIn K (.ref cAKind) "__eq__" = some (some (.ref f17)))
    (t17 : PySem.W.typeIn K (.ref f17) = some (.type "function"))
    (l17 : K.lookup f17 = some ⟨oc17, od17, .func (PySem.W.fnOf "__eq__" "Kind.__eq__" (defArgs s_Kind___eq__) (defBody s_Kind___eq__) (defScope s_Kind___eq__) .none kV17 dc17 pm17 an17 cd17 ct17), sl17⟩)
    (c17 : PySem.W.codeIn K cd17 "Kind.__eq__" = true)
    (k17 : PySem.W.keepIn K (.ref f17) = true)
    (a18 : PySem.W.findIn K (.ref cAKind) "__str__" = some (some (.ref f18)))
    (t18 : PySem.W.typeIn K (.ref f18) = some (.type "function"))
    (l18 : K.lookup f18 = some ⟨oc18, od18, .func (PySem.W.fnOf "__str__" "Kind.__str__" (defArgs s_Kind___str__) (defBody s_Kind___str__) (defScope s_Kind___str__) .none kV18 dc18 pm18 an18 cd18 ct18), sl18⟩)
    (c18 : PySem.W.codeIn K cd18 "Kind.__str__" = true)
    (k18 : PySem.W.keepIn K (.ref f18) = true)
    (sf19 : PySem.W.findCls K (.ref cAKind) (.type "type") "read" = some (.get (.builtin "staticmethod.__get__") (.ref sp19) .none (.ref cAKind)))
    (a19 : PySem.W.recIn K sp19 "staticmethod" = some (.ref f19 :: sr19))
    (l19 : K.lookup f19 = some ⟨oc19, od19, .func (PySem.W.fnOf "read" "Kind.read" (defArgs s_Kind_read) (defBody s_Kind_read) (defScope s_Kind_read) .none kV19 dc19 pm19 an19 cd19 ct19), sl19⟩)
    (c19 : PySem.W.codeIn K cd19 "Kind.read" = true)
    (k19 : PySem.W.keepIn K (.ref f19) = true)
    (a20 : PySem.W.nsIn K mainGlobals "are_leaps" = some (some (.ref f20)))
    (l20 : K.lookup f20 = some ⟨oc20, od20, .func (PySem.W.fnOf "are_leaps" "are_leaps" (defArgs s_are_leaps) (defBody s_are_leaps) (defScope s_are_leaps) .none kV20 dc20 pm20 an20 cd20 ct20), sl20⟩)
    (c20 : PySem.W.codeIn K cd20 "are_leaps" = true)
    (k20 : PySem.W.keepIn K (.ref f20) = true)
    (a21 : PySem.W.nsIn K mainGlobals "is_leap" = some (some (.ref f21)))
    (l21 : K.lookup f21 = some ⟨oc21, od21, .func (PySem.W.fnOf "is_leap" "is_leap" (defArgs s_is_leap) (defBody s_is_leap) (defScope s_is_leap) .none kV21 dc21 pm21 an21 cd21 ct21), sl21⟩)
    (c21 : PySem.W.codeIn K cd21 "is_leap" = true)
    (k21 : PySem.W.keepIn K (.ref f21) = true)
    (a22 : PySem.W.nsIn K mainGlobals "is_leap_part" = some (some (.ref f22)))
    (l22 : K.lookup f22 = some ⟨oc22, od22, .func (PySem.W.fnOf "is_leap_part" "is_leap_part" (defArgs s_is_leap_part) (defBody s_is_leap_part) (defScope s_is_leap_part) .none kV22 dc22 pm22 an22 cd22 ct22), sl22⟩)
    (c22 : PySem.W.codeIn K cd22 "is_leap_part" = true)
    (k22 : PySem.W.keepIn K (.ref f22) = true)
    (a23 : PySem.W.nsIn K mainGlobals "are_rides" = some (some (.ref f23)))
    (l23 : K.lookup f23 = some ⟨oc23, od23, .func (PySem.W.fnOf "are_rides" "are_rides" (defArgs s_are_rides) (defBody s_are_rides) (defScope s_are_rides) .none kV23 dc23 pm23 an23 cd23 ct23), sl23⟩)
    (c23 : PySem.W.codeIn K cd23 "are_rides" = true)
    (k23 : PySem.W.keepIn K (.ref f23) = true)
    (a24 : PySem.W.nsIn K mainGlobals "is_ride" = some (some (.ref f24)))
    (l24 : K.lookup f24 = some ⟨oc24, od24, .func (PySem.W.fnOf "is_ride" "is_ride" (defArgs s_is_ride) (defBody s_is_ride) (defScope s_is_ride) .none kV24 dc24 pm24 an24 cd24 ct24), sl24⟩)
    (c24 : PySem.W.codeIn K cd24 "is_ride" = true)
    (k24 : PySem.W.keepIn K (.ref f24) = true)
    (a25 : PySem.W.nsIn K mainGlobals "read_kind" = some (some (.ref f25)))
    (l25 : K.lookup f25 = some ⟨oc25, od25, .func (PySem.W.fnOf "read_kind" "read_kind" (defArgs s_read_kind) (defBody s_read_kind) (defScope s_read_kind) .none kV25 dc25 pm25 an25 cd25 ct25), sl25⟩)
    (c25 : PySem.W.codeIn K cd25 "read_kind" = true)
    (k25 : PySem.W.keepIn K (.ref f25) = true)
    (a26 : PySem.W.nsIn K mainGlobals "read_leaps" = some (some (.ref f26)))
    (l26 : K.lookup f26 = some ⟨oc26, od26, .func (PySem.W.fnOf "read_leaps" "read_leaps" (defArgs s_read_leaps) (defBody s_read_leaps) (defScope s_read_leaps) .none kV26 dc26 pm26 an26 cd26 ct26), sl26⟩)
    (c26 : PySem.W.codeIn K cd26 "read_leaps" = true)
    (k26 : PySem.W.keepIn K (.ref f26) = true)
    (a27 : PySem.W.nsIn K mainGlobals "read_leap" = some (some (.ref f27)))
    (l27 : K.lookup f27 = some ⟨oc27, od27, .func (PySem.W.fnOf "read_leap" "read_leap" (defArgs s_read_leap) (defBody s_read_leap) (defScope s_read_leap) .none kV27 dc27 pm27 an27 cd27 ct27), sl27⟩)
    (c27 : PySem.W.codeIn K cd27 "read_leap" = true)
    (k27 : PySem.W.keepIn K (.ref f27) = true)
    (a28 : PySem.W.nsIn K mainGlobals "read_rides" = some (some (.ref f28)))
    (l28 : K.lookup f28 = some ⟨oc28, od28, .func (PySem.W.fnOf "read_rides" "read_rides" (defArgs s_read_rides) (defBody s_read_rides) (defScope s_read_rides) .none kV28 dc28 pm28 an28 cd28 ct28), sl28⟩)
    (c28 : PySem.W.codeIn K cd28 "read_rides" = true)
    (k28 : PySem.W.keepIn K (.ref f28) = true)
    (a29 : PySem.W.nsIn K mainGlobals "_law_scroll" = some (some (.ref f29)))
    (l29 : K.lookup f29 = some ⟨oc29, od29, .func (PySem.W.fnOf "_law_scroll" "_law_scroll" (defArgs s__law_scroll) (defBody s__law_scroll) (defScope s__law_scroll) .none kV29 dc29 pm29 an29 cd29 ct29), sl29⟩)
    (c29 : PySem.W.codeIn K cd29 "_law_scroll" = true)
    (k29 : PySem.W.keepIn K (.ref f29) = true)
    (a30 : PySem.W.nsIn K mainGlobals "_law_unroll" = some (some (.ref f30)))
    (l30 : K.lookup f30 = some ⟨oc30, od30, .func (PySem.W.fnOf "_law_unroll" "_law_unroll" (defArgs s__law_unroll) (defBody s__law_unroll) (defScope s__law_unroll) .none kV30 dc30 pm30 an30 cd30 ct30), sl30⟩)
    (c30 : PySem.W.codeIn K cd30 "_law_unroll" = true)
    (k30 : PySem.W.keepIn K (.ref f30) = true)
    (a31 : PySem.W.nsIn K mainGlobals "_law_one" = some (some (.ref f31)))
    (l31 : K.lookup f31 = some ⟨oc31, od31, .func (PySem.W.fnOf "_law_one" "_law_one" (defArgs s__law_one) (defBody s__law_one) (defScope s__law_one) .none kV31 dc31 pm31 an31 cd31 ct31), sl31⟩)
    (c31 : PySem.W.codeIn K cd31 "_law_one" = true)
    (k31 : PySem.W.keepIn K (.ref f31) = true)
    (a32 : PySem.W.nsIn K mainGlobals "_law_stirred" = some (some (.ref f32)))
    (l32 : K.lookup f32 = some ⟨oc32, od32, .func (PySem.W.fnOf "_law_stirred" "_law_stirred" (defArgs s__law_stirred) (defBody s__law_stirred) (defScope s__law_stirred) .none kV32 dc32 pm32 an32 cd32 ct32), sl32⟩)
    (c32 : PySem.W.codeIn K cd32 "_law_stirred" = true)
    (k32 : PySem.W.keepIn K (.ref f32) = true)
    (a33 : PySem.W.nsIn K mainGlobals "_law_kind" = some (some (.ref f33)))
    (l33 : K.lookup f33 = some ⟨oc33, od33, .func (PySem.W.fnOf "_law_kind" "_law_kind" (defArgs s__law_kind) (defBody s__law_kind) (defScope s__law_kind) .none kV33 dc33 pm33 an33 cd33 ct33), sl33⟩)
    (c33 : PySem.W.codeIn K cd33 "_law_kind" = true)
    (k33 : PySem.W.keepIn K (.ref f33) = true)
    (a34 : PySem.W.nsIn K mainGlobals "_law_name" = some (some (.ref f34)))
    (l34 : K.lookup f34 = some ⟨oc34, od34, .func (PySem.W.fnOf "_law_name" "_law_name" (defArgs s__law_name) (defBody s__law_name) (defScope s__law_name) .none kV34 dc34 pm34 an34 cd34 ct34), sl34⟩)
    (c34 : PySem.W.codeIn K cd34 "_law_name" = true)
    (k34 : PySem.W.keepIn K (.ref f34) = true)
    (a35 : PySem.W.nsIn K mainGlobals "_law_text" = some (some (.ref f35)))
    (l35 : K.lookup f35 = some ⟨oc35, od35, .func (PySem.W.fnOf "_law_text" "_law_text" (defArgs s__law_text) (defBody s__law_text) (defScope s__law_text) .none kV35 dc35 pm35 an35 cd35 ct35), sl35⟩)
    (c35 : PySem.W.codeIn K cd35 "_law_text" = true)
    (k35 : PySem.W.keepIn K (.ref f35) = true)
    (a36 : PySem.W.nsIn K mainGlobals "_law_number" = some (some (.ref f36)))
    (l36 : K.lookup f36 = some ⟨oc36, od36, .func (PySem.W.fnOf "_law_number" "_law_number" (defArgs s__law_number) (defBody s__law_number) (defScope s__law_number) .none kV36 dc36 pm36 an36 cd36 ct36), sl36⟩)
    (c36 : PySem.W.codeIn K cd36 "_law_number" = true)
    (k36 : PySem.W.keepIn K (.ref f36) = true)
    (a37 : PySem.W.nsIn K mainGlobals "_law_is_name" = some (some (.ref f37)))
    (l37 : K.lookup f37 = some ⟨oc37, od37, .func (PySem.W.fnOf "_law_is_name" "_law_is_name" (defArgs s__law_is_name) (defBody s__law_is_name) (defScope s__law_is_name) .none kV37 dc37 pm37 an37 cd37 ct37), sl37⟩)
    (c37 : PySem.W.codeIn K cd37 "_law_is_name" = true)
    (k37 : PySem.W.keepIn K (.ref f37) = true)
    (a38 : PySem.W.nsIn K mainGlobals "_law_leaps_stop" = some (some (.ref f38)))
    (l38 : K.lookup f38 = some ⟨oc38, od38, .func (PySem.W.fnOf "_law_leaps_stop" "_law_leaps_stop" (defArgs s__law_leaps_stop) (defBody s__law_leaps_stop) (defScope s__law_leaps_stop) .none kV38 dc38 pm38 an38 cd38 ct38), sl38⟩)
    (c38 : PySem.W.codeIn K cd38 "_law_leaps_stop" = true)
    (k38 : PySem.W.keepIn K (.ref f38) = true)
    (a39 : PySem.W.nsIn K mainGlobals "_law_stop" = some (some (.ref f39)))
    (l39 : K.lookup f39 = some ⟨oc39, od39, .func (PySem.W.fnOf "_law_stop" "_law_stop" (defArgs s__law_stop) (defBody s__law_stop) (defScope s__law_stop) .none kV39 dc39 pm39 an39 cd39 ct39), sl39⟩)
    (c39 : PySem.W.codeIn K cd39 "_law_stop" = true)
    (k39 : PySem.W.keepIn K (.ref f39) = true)
    (a40 : PySem.W.nsIn K mainGlobals "_law_bent" = some (some (.ref f40)))
    (l40 : K.lookup f40 = some ⟨oc40, od40, .func (PySem.W.fnOf "_law_bent" "_law_bent" (defArgs s__law_bent) (defBody s__law_bent) (defScope s__law_bent) .none kV40 dc40 pm40 an40 cd40 ct40), sl40⟩)
    (c40 : PySem.W.codeIn K cd40 "_law_bent" = true)
    (k40 : PySem.W.keepIn K (.ref f40) = true)
    (a41 : PySem.W.nsIn K mainGlobals "_law_heard" = some (some (.ref f41)))
    (l41 : K.lookup f41 = some ⟨oc41, od41, .func (PySem.W.fnOf "_law_heard" "_law_heard" (defArgs s__law_heard) (defBody s__law_heard) (defScope s__law_heard) .none kV41 dc41 pm41 an41 cd41 ct41), sl41⟩)
    (c41 : PySem.W.codeIn K cd41 "_law_heard" = true)
    (k41 : PySem.W.keepIn K (.ref f41) = true)
    (a42 : PySem.W.nsIn K mainGlobals "law" = some (some (.ref f42)))
    (l42 : K.lookup f42 = some ⟨oc42, od42, .func (PySem.W.fnOf "law" "law" (defArgs s_law) (defBody s_law) (defScope s_law) .none kV42 dc42 pm42 an42 cd42 ct42), sl42⟩)
    (c42 : PySem.W.codeIn K cd42 "law" = true)
    (k42 : PySem.W.keepIn K (.ref f42) = true)
    (z0 : PySem.W.nsIn K mainGlobals "isinstance" = some none)
    (z1 : PySem.W.nsIn K mainGlobals "int" = some none)
    (z2 : PySem.W.nsIn K mainGlobals "bool" = some none)
    (z3 : PySem.W.nsIn K mainGlobals "list" = some none)
    (z4 : PySem.W.nsIn K mainGlobals "tuple" = some none)
    (z5 : PySem.W.nsIn K mainGlobals "len" = some none)
    (z6 : PySem.W.nsIn K mainGlobals "str" = some none)
    (z7 : PySem.W.nsIn K mainGlobals "all" = some none)
    (z8 : PySem.W.nsIn K mainGlobals "enumerate" = some none)
    (z9 : PySem.W.nsIn K mainGlobals "sorted" = some none)
    (z10 : PySem.W.nsIn K mainGlobals "set" = some none)
    (z11 : PySem.W.nsIn K mainGlobals "abs" = some none)
    (z12 : PySem.W.nsIn K mainGlobals "range" = some none)
    (z13 : PySem.W.nsIn K mainGlobals "repr" = some none)
    (z14 : PySem.W.nsIn K mainGlobals "max" = some none)
    (ne1 : PySem.W.findIn K (.ref cAKind) "__ne__" = some (some (.builtin "object.__ne__")))
    (mo1 : PySem.W.mroIn K cAKind (.type "object") = some true)
    (ha1 : PySem.W.findIn K (.ref cAKind) "__class__" = some (some (.builtin "object.__class__")))
    (hn1 : PySem.W.specialIn K (.builtin "object.__class__") "__get__" = some (some (.builtin "getset_descriptor.__get__")))
    (tk1 : PySem.W.takesIn K (.builtin "object.__class__") = some true)
    (ri1 : PySem.W.readsIn K cAKind (.type "type") = true)
    (sp1 : PySem.W.specialIn K (.ref cAKind) "__getattribute__" = some (some (.builtin "type.__getattribute__")))
    (tC1 : PySem.W.typeIn K (.ref cAKind) = some (.type "type"))
    (iC1 : PySem.W.isClsIn K cAKind = true)
    (ks1 : PySem.W.subIn K (.ref cAKind) (.type "str") = some false)
    (kn_list : PySem.W.subIn K (.type "list") (.ref cAKind) = some false)
    (kn_str : PySem.W.subIn K (.type "str") (.ref cAKind) = some false)
    (kn_NoneType : PySem.W.subIn K (.type "NoneType") (.ref cAKind) = some false)
    (kn_int : PySem.W.subIn K (.type "int") (.ref cAKind) = some false)
    (kn_bool : PySem.W.subIn K (.type "bool") (.ref cAKind) = some false)
    (kn_tuple : PySem.W.subIn K (.type "tuple") (.ref cAKind) = some false)
    (kn_dict : PySem.W.subIn K (.type "dict") (.ref cAKind) = some false)
    (nf_list : PySem.W.notFirst K cAKind (.type "list") = true)
    (nf_str : PySem.W.notFirst K cAKind (.type "str") = true)
    (gL : PySem.W.nsIn K mainGlobals "LETTERS" = some (some (.str "abcdefghijklmnopqrstuvwxyz" tL1)))
    (gN : PySem.W.nsIn K mainGlobals "LONGEST_NAME" = some (some (.int 8 tN1)))
    (gD : PySem.W.nsIn K mainGlobals "DIGITS" = some (some (.str "0123456789" tD1)))
    (gM : PySem.W.nsIn K mainGlobals "MOST_DIGITS" = some (some (.int 70 tM1)))
    (gP : PySem.W.nsIn K mainGlobals "LONGEST_LEAP" = some (some (.int 3 tP1)))
    (gB : PySem.W.nsIn K mainGlobals "BARRED_NAMES" = some (some (.ref fB)))
    (lB : K.lookup fB = some ⟨.type "tuple", odB, .seq itB nB, slB⟩)
    (zB : itB.size ≤ sizeLine)
    (vB : Vals [.str "lord", .str "leaps", .str "rides", .str "stone"] itB.toList)
    (gS : PySem.W.nsIn K mainGlobals "STEPS" = some (some (.ref fS)))
    (lS : K.lookup fS = some ⟨.type "dict", none, .dict esS nS, #[]⟩)
    (ktS : PySem.W.KeysLit w.params esS.toList)
    (loS : (fS == sysModules) = false)
    (zS : esS.size = 4)
    (eRS : ∃ en t, esS[0]? = some en ∧ en.key = .str "right" t ∧ RelV (.ref tRr) en.val)
    (eLS : ∃ en t, esS[1]? = some en ∧ en.key = .str "left" t ∧ RelV (.ref tLl) en.val)
    (eUS : ∃ en t, esS[2]? = some en ∧ en.key = .str "up" t ∧ RelV (.ref tUu) en.val)
    (eDS : ∃ en t, esS[3]? = some en ∧ en.key = .str "down" t ∧ RelV (.ref tDd) en.val)
    (lRr : K.lookup tRr = some ⟨.type "tuple", oRr, .seq iRr nRr, sRr⟩)
    (zRr : iRr.size ≤ sizeLine)
    (vRr : Vals [.int 1, .int 0] iRr.toList)
    (lLl : K.lookup tLl = some ⟨.type "tuple", oLl, .seq iLl nLl, sLl⟩)
    (zLl : iLl.size ≤ sizeLine)
    (vLl : Vals [.int (-1), .int 0] iLl.toList)
    (lUu : K.lookup tUu = some ⟨.type "tuple", oUu, .seq iUu nUu, sUu⟩)
    (zUu : iUu.size ≤ sizeLine)
    (vUu : Vals [.int 0, .int 1] iUu.toList)
    (lDd : K.lookup tDd = some ⟨.type "tuple", oDd, .seq iDd nDd, sDd⟩)
    (zDd : iDd.size ≤ sizeLine)
    (vDd : Vals [.int 0, .int (-1)] iDd.toList) :
    ∃ fd : FuncData, (∀ (s : Shared) (v : Value), BindsTo s fd ⟨[v], []⟩ [("script", v)]) ∧
      ∀ base : Heap, K.In base → base.Ns mainGlobals mg → FnG l.prog w K mg base CX0 14 fa fd ["script"] (spLaw K) := by
  let T : Tx K mg w := {
      c_Line := cALine,
      m_Line := PySem.W.mg_of X G aCLine,
      cl_Line := ⟨pgLine, hdLine, poLine, saLine⟩,
      nF_Line_number := nFLine_number,
      nF_Line_words := nFLine_words,
      nF_Line_at := nFLine_at,
      me_Line_is_left := ⟨a10, isFn_of t10, k10⟩,
      me_Line_seen := ⟨a11, isFn_of t11, k11⟩,
      me_Line_integer := ⟨a12, isFn_of t12, k12⟩,
      me_Line_take := ⟨a13, isFn_of t13, k13⟩,
      me_Line_skip := ⟨a14, isFn_of t14, k14⟩,
      me_Line_refuse := ⟨a15, isFn_of t15, k15⟩,
      mk_Line := ⟨mkLine, a9, isFn_of t9, kcLine⟩,
      c_Kind := cAKind,
      m_Kind := PySem.W.mg_of X G aCKind,
      cl_Kind := ⟨pgKind, hdKind, poKind, saKind⟩,
      nF_Kind_name := nFKind_name,
      nF_Kind_leaps := nFKind_leaps,
      nF_Kind_rides := nFKind_rides,
      nF_Kind_is_lord := nFKind_is_lord,
      mk_Kind := ⟨mkKind, a16, isFn_of t16, kcKind⟩,
      c_FieldError := cAFieldError,
      m_FieldError := PySem.W.mg_of X G aCFieldError,
      ox_FieldError := ⟨⟨_, _, _, _, _, _, _, _, _, _, _, _, _, _, _, xLFieldError, rfFieldError⟩, saFieldError, eCFieldError, tCFieldError, kcFieldError⟩,
      xf_FieldError := ⟨gaFieldError, ggFieldError, eCFieldError, hdFieldError⟩,
      c_BadKind := cABadKind,
      m_BadKind := PySem.W.mg_of X G aCBadKind,
      ox_BadKind := ⟨⟨_, _, _, _, _, _, _, _, _, _, _, _, _, _, _, xLBadKind, rfBadKind⟩, saBadKind, eCBadKind, tCBadKind, kcBadKind⟩,
      xf_BadKind := ⟨gaBadKind, ggBadKind, eCBadKind, hdBadKind⟩,
      no_BadKind_part := noBadKind_part,
      ic_BadKind := a4,
      ti_BadKind := t4,
      c_Misfit := cAMisfit,
      m_Misfit := PySem.W.mg_of X G aCMisfit,
      ox_Misfit := ⟨⟨_, _, _, _, _, _, _, _, _, _, _, _, _, _, _, xLMisfit, rfMisfit⟩, saMisfit, eCMisfit, tCMisfit, kcMisfit⟩,
      xf_Misfit := ⟨gaMisfit, ggMisfit, eCMisfit, hdMisfit⟩,
      no_Misfit_part := noMisfit_part,
      ic_Misfit := a5,
      ti_Misfit := t5,
      c_BadText := cABadText,
      m_BadText := PySem.W.mg_of X G aCBadText,
      ox_BadText := ⟨⟨_, _, _, _, _, _, _, _, _, _, _, _, _, _, _, xLBadText, rfBadText⟩, saBadText, eCBadText, tCBadText, kcBadText⟩,
      xf_BadText := ⟨gaBadText, ggBadText, eCBadText, hdBadText⟩,
      no_BadText_line := noBadText_line,
      no_BadText_item := noBadText_item,
      ic_BadText := a6,
      ti_BadText := t6,
      xm_BadText_BadText := exm_by eCBadText iCBadText tCBadText xmBadText_BadText,
      a_is_integer := f0,
      d_is_integer := _,
      F_is_integer := fun_mk (st := s_is_integer) l0 c0 k0,
      m_is_integer := PySem.W.mg_of X G a0,
      b_is_integer := (fun_mk (st := s_is_integer) l0 c0 k0).binds (ps := ["value"]) fun _ _ _ _ _ _ us hl => match us, hl with | [_], _ => rfl,
      a_is_within := f1,
      d_is_within := _,
      F_is_within := fun_mk (st := s_is_within) l1 c1 k1,
      m_is_within := PySem.W.mg_of X G a1,
      b_is_within := (fun_mk (st := s_is_within) l1 c1 k1).binds (ps := ["value", "least", "most"]) fun _ _ _ _ _ _ us hl => match us, hl with | [_, _, _], _ => rfl,
      a_is_list := f2,
      d_is_list := _,
      F_is_list := fun_mk (st := s_is_list) l2 c2 k2,
      m_is_list := PySem.W.mg_of X G a2,
      b_is_list := (fun_mk (st := s_is_list) l2 c2 k2).binds (ps := ["value"]) fun _ _ _ _ _ _ us hl => match us, hl with | [_], _ => rfl,
      a_is_name := f3,
      d_is_name := _,
      F_is_name := fun_mk (st := s_is_name) l3 c3 k3,
      m_is_name := PySem.W.mg_of X G a3,
      b_is_name := (fun_mk (st := s_is_name) l3 c3 k3).binds (ps := ["value"]) fun _ _ _ _ _ _ us hl => match us, hl with | [_], _ => rfl,
      a_BadKind___init__ := f4,
      d_BadKind___init__ := _,
      F_BadKind___init__ := fun_mk (st := s_BadKind___init__) l4 c4 k4,
      b_BadKind___init__ := (fun_mk (st := s_BadKind___init__) l4 c4 k4).binds (ps := ["self", "part"]) fun _ _ _ _ _ _ us hl => match us, hl with | [_, _], _ => rfl,
      a_Misfit___init__ := f5,
      d_Misfit___init__ := _,
      F_Misfit___init__ := fun_mk (st := s_Misfit___init__) l5 c5 k5,
      b_Misfit___init__ := (fun_mk (st := s_Misfit___init__) l5 c5 k5).binds (ps := ["self", "part"]) fun _ _ _ _ _ _ us hl => match us, hl with | [_, _], _ => rfl,
      a_BadText___init__ := f6,
      d_BadText___init__ := _,
      F_BadText___init__ := fun_mk (st := s_BadText___init__) l6 c6 k6,
      b_BadText___init__ := (fun_mk (st := s_BadText___init__) l6 c6 k6).binds (ps := ["self", "line", "item"]) fun _ _ _ _ _ _ us hl => match us, hl with | [_, _, _], _ => rfl,
      a_integer_of := f7,
      d_integer_of := _,
      F_integer_of := fun_mk (st := s_integer_of) l7 c7 k7,
      m_integer_of := PySem.W.mg_of X G a7,
      b_integer_of := (fun_mk (st := s_integer_of) l7 c7 k7).binds (ps := ["item"]) fun _ _ _ _ _ _ us hl => match us, hl with | [_], _ => rfl,
      a_lines_of := f8,
      d_lines_of := _,
      F_lines_of := fun_mk (st := s_lines_of) l8 c8 k8,
      m_lines_of := PySem.W.mg_of X G a8,
      b_lines_of := (fun_mk (st := s_lines_of) l8 c8 k8).binds (ps := ["text"]) fun _ _ _ _ _ _ us hl => match us, hl with | [_], _ => rfl,
      a_Line___init__ := f9,
      d_Line___init__ := _,
      F_Line___init__ := fun_mk (st := s_Line___init__) l9 c9 k9,
      b_Line___init__ := (fun_mk (st := s_Line___init__) l9 c9 k9).binds (ps := ["self", "number", "row"]) fun _ _ _ _ _ _ us hl => match us, hl with | [_, _, _], _ => rfl,
      a_Line_is_left := f10,
      d_Line_is_left := _,
      F_Line_is_left := fun_mk (st := s_Line_is_left) l10 c10 k10,
      b_Line_is_left := (fun_mk (st := s_Line_is_left) l10 c10 k10).binds (ps := ["self"]) fun _ _ _ _ _ _ us hl => match us, hl with | [_], _ => rfl,
      a_Line_seen := f11,
      d_Line_seen := _,
      F_Line_seen := fun_mk (st := s_Line_seen) l11 c11 k11,
      b_Line_seen := (fun_mk (st := s_Line_seen) l11 c11 k11).binds (ps := ["self"]) fun _ _ _ _ _ _ us hl => match us, hl with | [_], _ => rfl,
      a_Line_integer := f12,
      d_Line_integer := _,
      F_Line_integer := fun_mk (st := s_Line_integer) l12 c12 k12,
      b_Line_integer := (fun_mk (st := s_Line_integer) l12 c12 k12).binds (ps := ["self"]) fun _ _ _ _ _ _ us hl => match us, hl with | [_], _ => rfl,
      a_Line_take := f13,
      d_Line_take := _,
      F_Line_take := fun_mk (st := s_Line_take) l13 c13 k13,
      b_Line_take := (fun_mk (st := s_Line_take) l13 c13 k13).binds (ps := ["self"]) fun _ _ _ _ _ _ us hl => match us, hl with | [_], _ => rfl,
      a_Line_skip := f14,
      d_Line_skip := _,
      F_Line_skip := fun_mk (st := s_Line_skip) l14 c14 k14,
      b_Line_skip := (fun_mk (st := s_Line_skip) l14 c14 k14).binds (ps := ["self", "word"]) fun _ _ _ _ _ _ us hl => match us, hl with | [_, _], _ => rfl,
      a_Line_refuse := f15,
      d_Line_refuse := _,
      F_Line_refuse := fun_mk (st := s_Line_refuse) l15 c15 k15,
      b_Line_refuse := (fun_mk (st := s_Line_refuse) l15 c15 k15).binds (ps := ["self"]) fun _ _ _ _ _ _ us hl => match us, hl with | [_], _ => rfl,
      a_Kind___init__ := f16,
      d_Kind___init__ := _,
      F_Kind___init__ := ⟨⟨_, _, _, _, _, _, _, _, _, _, rfl, l16, c16, .inr ⟨fun z => (nomatch z), _, _, _, _, rfl, dl16, seq_list, vE⟩, .inl rfl⟩, k16⟩,
      a_Kind___eq__ := f17,
      d_Kind___eq__ := _,
      F_Kind___eq__ := fun_mk (st := s_Kind___eq__) l17 c17 k17,
      b_Kind___eq__ := (fun_mk (st := s_Kind___eq__) l17 c17 k17).binds (ps := ["self", "other"]) fun _ _ _ _ _ _ us hl => match us, hl with | [_, _], _ => rfl,
      a_Kind___str__ := f18,
      d_Kind___str__ := _,
      F_Kind___str__ := fun_mk (st := s_Kind___str__) l18 c18 k18,
      b_Kind___str__ := (fun_mk (st := s_Kind___str__) l18 c18 k18).binds (ps := ["self"]) fun _ _ _ _ _ _ us hl => match us, hl with | [_], _ => rfl,
      a_Kind_read := f19,
      d_Kind_read := _,
      F_Kind_read := fun_mk (st := s_Kind_read) l19 c19 k19,
      b_Kind_read := (fun_mk (st := s_Kind_read) l19 c19 k19).binds (ps := ["text"]) fun _ _ _ _ _ _ us hl => match us, hl with | [_], _ => rfl,
      a_are_leaps := f20,
      d_are_leaps := _,
      F_are_leaps := fun_mk (st := s_are_leaps) l20 c20 k20,
      m_are_leaps := PySem.W.mg_of X G a20,
      b_are_leaps := (fun_mk (st := s_are_leaps) l20 c20 k20).binds (ps := ["value"]) fun _ _ _ _ _ _ us hl => match us, hl with | [_], _ => rfl,
      a_is_leap := f21,
      d_is_leap := _,
      F_is_leap := fun_mk (st := s_is_leap) l21 c21 k21,
      m_is_leap := PySem.W.mg_of X G a21,
      b_is_leap := (fun_mk (st := s_is_leap) l21 c21 k21).binds (ps := ["value"]) fun _ _ _ _ _ _ us hl => match us, hl with | [_], _ => rfl,
      a_is_leap_part := f22,
      d_is_leap_part := _,
      F_is_leap_part := fun_mk (st := s_is_leap_part) l22 c22 k22,
      m_is_leap_part := PySem.W.mg_of X G a22,
      b_is_leap_part := (fun_mk (st := s_is_leap_part) l22 c22 k22).binds (ps := ["value"]) fun _ _ _ _ _ _ us hl => match us, hl with | [_], _ => rfl,
      a_are_rides := f23,
      d_are_rides := _,
      F_are_rides := fun_mk (st := s_are_rides) l23 c23 k23,
      m_are_rides := PySem.W.mg_of X G a23,
      b_are_rides := (fun_mk (st := s_are_rides) l23 c23 k23).binds (ps := ["value"]) fun _ _ _ _ _ _ us hl => match us, hl with | [_], _ => rfl,
      a_is_ride := f24,
      d_is_ride := _,
      F_is_ride := fun_mk (st := s_is_ride) l24 c24 k24,
      m_is_ride := PySem.W.mg_of X G a24,
      b_is_ride := (fun_mk (st := s_is_ride) l24 c24 k24).binds (ps := ["value"]) fun _ _ _ _ _ _ us hl => match us, hl with | [_], _ => rfl,
      a_read_kind := f25,
      d_read_kind := _,
      F_read_kind := fun_mk (st := s_read_kind) l25 c25 k25,
      m_read_kind := PySem.W.mg_of X G a25,
      b_read_kind := (fun_mk (st := s_read_kind) l25 c25 k25).binds (ps := ["line"]) fun _ _ _ _ _ _ us hl => match us, hl with | [_], _ => rfl,
      a_read_leaps := f26,
      d_read_leaps := _,
      F_read_leaps := fun_mk (st := s_read_leaps) l26 c26 k26,
      m_read_leaps := PySem.W.mg_of X G a26,
      b_read_leaps := (fun_mk (st := s_read_leaps) l26 c26 k26).binds (ps := ["line"]) fun _ _ _ _ _ _ us hl => match us, hl with | [_], _ => rfl,
      a_read_leap := f27,
      d_read_leap := _,
      F_read_leap := fun_mk (st := s_read_leap) l27 c27 k27,
      m_read_leap := PySem.W.mg_of X G a27,
      b_read_leap := (fun_mk (st := s_read_leap) l27 c27 k27).binds (ps := ["line", "last"]) fun _ _ _ _ _ _ us hl => match us, hl with | [_, _], _ => rfl,
      a_read_rides := f28,
      d_read_rides := _,
      F_read_rides := fun_mk (st := s_read_rides) l28 c28 k28,
      m_read_rides := PySem.W.mg_of X G a28,
      b_read_rides := (fun_mk (st := s_read_rides) l28 c28 k28).binds (ps := ["line"]) fun _ _ _ _ _ _ us hl => match us, hl with | [_], _ => rfl,
      a__law_scroll := f29,
      d__law_scroll := _,
      F__law_scroll := fun_mk (st := s__law_scroll) l29 c29 k29,
      m__law_scroll := PySem.W.mg_of X G a29,
      b__law_scroll := (fun_mk (st := s__law_scroll) l29 c29 k29).binds (ps := ["script"]) fun _ _ _ _ _ _ us hl => match us, hl with | [_], _ => rfl,
      a__law_unroll := f30,
      d__law_unroll := _,
      F__law_unroll := fun_mk (st := s__law_unroll) l30 c30 k30,
      m__law_unroll := PySem.W.mg_of X G a30,
      b__law_unroll := (fun_mk (st := s__law_unroll) l30 c30 k30).binds (ps := ["scroll", "many"]) fun _ _ _ _ _ _ us hl => match us, hl with | [_, _], _ => rfl,
      a__law_one := f31,
      d__law_one := _,
      F__law_one := fun_mk (st := s__law_one) l31 c31 k31,
      m__law_one := PySem.W.mg_of X G a31,
      b__law_one := (fun_mk (st := s__law_one) l31 c31 k31).binds (ps := ["scroll", "some"]) fun _ _ _ _ _ _ us hl => match us, hl with | [_, _], _ => rfl,
      a__law_stirred := f32,
      d__law_stirred := _,
      F__law_stirred := fun_mk (st := s__law_stirred) l32 c32 k32,
      m__law_stirred := PySem.W.mg_of X G a32,
      b__law_stirred := (fun_mk (st := s__law_stirred) l32 c32 k32).binds (ps := ["scroll", "some"]) fun _ _ _ _ _ _ us hl => match us, hl with | [_, _], _ => rfl,
      a__law_kind := f33,
      d__law_kind := _,
      F__law_kind := fun_mk (st := s__law_kind) l33 c33 k33,
      m__law_kind := PySem.W.mg_of X G a33,
      b__law_kind := (fun_mk (st := s__law_kind) l33 c33 k33).binds (ps := ["scroll", "name"]) fun _ _ _ _ _ _ us hl => match us, hl with | [_, _], _ => rfl,
      a__law_name := f34,
      d__law_name := _,
      F__law_name := fun_mk (st := s__law_name) l34 c34 k34,
      m__law_name := PySem.W.mg_of X G a34,
      b__law_name := (fun_mk (st := s__law_name) l34 c34 k34).binds (ps := ["scroll"]) fun _ _ _ _ _ _ us hl => match us, hl with | [_], _ => rfl,
      a__law_text := f35,
      d__law_text := _,
      F__law_text := fun_mk (st := s__law_text) l35 c35 k35,
      m__law_text := PySem.W.mg_of X G a35,
      b__law_text := (fun_mk (st := s__law_text) l35 c35 k35).binds (ps := ["name", "leaps", "rides", "is_lord"]) fun _ _ _ _ _ _ us hl => match us, hl with | [_, _, _, _], _ => rfl,
      a__law_number := f36,
      d__law_number := _,
      F__law_number := fun_mk (st := s__law_number) l36 c36 k36,
      m__law_number := PySem.W.mg_of X G a36,
      b__law_number := (fun_mk (st := s__law_number) l36 c36 k36).binds (ps := ["item"]) fun _ _ _ _ _ _ us hl => match us, hl with | [_], _ => rfl,
      a__law_is_name := f37,
      d__law_is_name := _,
      F__law_is_name := fun_mk (st := s__law_is_name) l37 c37 k37,
      m__law_is_name := PySem.W.mg_of X G a37,
      b__law_is_name := (fun_mk (st := s__law_is_name) l37 c37 k37).binds (ps := ["item"]) fun _ _ _ _ _ _ us hl => match us, hl with | [_], _ => rfl,
      a__law_leaps_stop := f38,
      d__law_leaps_stop := _,
      F__law_leaps_stop := fun_mk (st := s__law_leaps_stop) l38 c38 k38,
      m__law_leaps_stop := PySem.W.mg_of X G a38,
      b__law_leaps_stop := (fun_mk (st := s__law_leaps_stop) l38 c38 k38).binds (ps := ["items", "at"]) fun _ _ _ _ _ _ us hl => match us, hl with | [_, _], _ => rfl,
      a__law_stop := f39,
      d__law_stop := _,
      F__law_stop := fun_mk (st := s__law_stop) l39 c39 k39,
      m__law_stop := PySem.W.mg_of X G a39,
      b__law_stop := (fun_mk (st := s__law_stop) l39 c39 k39).binds (ps := ["items"]) fun _ _ _ _ _ _ us hl => match us, hl with | [_], _ => rfl,
      a__law_bent := f40,
      d__law_bent := _,
      F__law_bent := fun_mk (st := s__law_bent) l40 c40 k40,
      m__law_bent := PySem.W.mg_of X G a40,
      b__law_bent := (fun_mk (st := s__law_bent) l40 c40 k40).binds (ps := ["scroll", "items"]) fun _ _ _ _ _ _ us hl => match us, hl with | [_, _], _ => rfl,
      a__law_heard := f41,
      d__law_heard := _,
      F__law_heard := fun_mk (st := s__law_heard) l41 c41 k41,
      m__law_heard := PySem.W.mg_of X G a41,
      b__law_heard := (fun_mk (st := s__law_heard) l41 c41 k41).binds (ps := ["text"]) fun _ _ _ _ _ _ us hl => match us, hl with | [_], _ => rfl,
      a_law := f42,
      d_law := _,
      F_law := fun_mk (st := s_law) l42 c42 k42,
      m_law := PySem.W.mg_of X G a42,
      b_law := (fun_mk (st := s_law) l42 c42 k42).binds (ps := ["script"]) fun _ _ _ _ _ _ us hl => match us, hl with | [_], _ => rfl,
      z_isinstance := PySem.W.mg_none_of X G z0,
      z_int := PySem.W.mg_none_of X G z1,
      z_bool := PySem.W.mg_none_of X G z2,
      z_list := PySem.W.mg_none_of X G z3,
      z_tuple := PySem.W.mg_none_of X G z4,
      z_len := PySem.W.mg_none_of X G z5,
      z_str := PySem.W.mg_none_of X G z6,
      z_all := PySem.W.mg_none_of X G z7,
      z_enumerate := PySem.W.mg_none_of X G z8,
      z_sorted := PySem.W.mg_none_of X G z9,
      z_set := PySem.W.mg_none_of X G z10,
      z_abs := PySem.W.mg_none_of X G z11,
      z_range := PySem.W.mg_none_of X G z12,
      z_repr := PySem.W.mg_none_of X G z13,
      z_max := PySem.W.mg_none_of X G z14,
      t_E := eT,
      s_E := fun _ => .inr ⟨_, eI, eN, lE, rfl, rfl, zE, uE⟩,
      b5_Kind := b5_of ⟨⟨_, _, _, _, _, _, _, _, _, _, rfl, l16, c16, .inr ⟨fun z => (nomatch z), _, _, _, _, rfl, dl16, seq_list, vE⟩, .inl rfl⟩, k16⟩,
      oc_Kind := ⟨a17, isFn_of t17, ne1, mo1⟩,
      os_Kind := ⟨a18, isFn_of t18⟩,
      sr_Kind := ⟨⟨_, _, _, ri1, sp1, tC1, sf19, a19⟩, k19⟩,
      ty_Kind := ⟨⟨pgKind, hdKind, poKind, saKind⟩, ha1, hn1, tk1, mo1⟩,
      kk_Kind := (by simp [PySem.W.kitOne]),
      kn_Kind := kn_of iC1 tC1 kn_list kn_str kn_NoneType kn_int kn_bool kn_tuple kn_dict,
      nf_Kind := nf_of nf_list nf_str,
      ks_Kind := ks_of ks1,
      kb_read := ⟨fun s us ws _ h1 h2 => match us, ws, h1, h2 with | [], [_], _, _ => .of_eq rfl, fun _ r => r⟩,
      g_LETTERS := ⟨_, PySem.W.mg_of X G gL⟩,
      g_LONGEST := ⟨_, PySem.W.mg_of X G gN⟩,
      g_DIGITS := ⟨_, PySem.W.mg_of X G gD⟩,
      g_MOST := ⟨_, PySem.W.mg_of X G gM⟩,
      g_LEAP := ⟨_, PySem.W.mg_of X G gP⟩,
      t_B := fB,
      g_B := PySem.W.mg_of X G gB,
      s_B := fun _ => .inr ⟨_, itB, nB, lB, rfl, rfl, zB, vB⟩,
      t_S := fS,
      g_S := PySem.W.mg_of X G gS,
      w_S := wd_of lS ktS loS zS eRS eLS eUS eDS,
      t_R := tRr,
      t_L := tLl,
      t_U := tUu,
      t_D := tDd,
      s_R := fun _ => .inr ⟨_, iRr, nRr, lRr, rfl, rfl, zRr, vRr⟩,
      s_L := fun _ => .inr ⟨_, iLl, nLl, lLl, rfl, rfl, zLl, vLl⟩,
      s_U := fun _ => .inr ⟨_, iUu, nUu, lUu, rfl, rfl, zUu, vUu⟩,
      s_D := fun _ => .inr ⟨_, iDd, nDd, lDd, rfl, rfl, zDd, vDd⟩ }
  have e : T.a_law = fa := by
    have := T.m_law.symm.trans hfa
    exact Value.ref.inj (Option.some.inj this)
  refine ⟨T.d_law, fun s v => .of_eq rfl, fun base _ _ => ?_⟩
  rw [← e]
  exact G_law T
end Kd

open PySem PySem.W PyProof.Rows
set_option maxRecDepth 100000
set_option maxHeartbeats 0 in
theorem PySem.Challenge.cw_gapsame_k04_texts_of_kinds_bent_holds : PySem.Challenge.rw_gapsame_k04_texts_of_kinds_bent.Holds := by
  w_on; o_law; k_head; (case hw => w_witness2)
  k_fill
  refine Gs.walkG (l := PySem.Challenge.rw_gapsame_k04_texts_of_kinds_bent) (k := 14) (x := "script") (sp := Kd.spLaw) rfl rfl ⟨rfl, by decide, by decide⟩ (fun w h Y => PySem.W.kIn_of Y) ?F (fun K H a ns hl hS => ⟨a, ns, rfl, hS, hl, fun _ => rfl⟩)
  case F =>
    intro w mg fa h KX G hmg
    refine' Kd.all_mk KX G hmg ?aCLine ?pgLine ?hdLine ?poLine ?saLine ?mkLine ?kcLine ?nFLine_number ?nFLine_words ?nFLine_at ?aCKind ?pgKind ?hdKind ?poKind ?saKind ?mkKind ?kcKind ?nFKind_name ?nFKind_leaps ?nFKind_rides ?nFKind_is_lord ?aCFieldError ?xLFieldError ?rfFieldError ?saFieldError ?eCFieldError ?tCFieldError ?kcFieldError ?hdFieldError ?iCFieldError ?gaFieldError ?ggFieldError ?aCBadKind ?xLBadKind ?rfBadKind ?saBadKind ?eCBadKind ?tCBadKind ?kcBadKind ?hdBadKind ?iCBadKind ?gaBadKind ?ggBadKind ?noBadKind_part ?aCMisfit ?xLMisfit ?rfMisfit ?saMisfit ?eCMisfit ?tCMisfit ?kcMisfit ?hdMisfit ?iCMisfit ?gaMisfit ?ggMisfit ?noMisfit_part ?aCBadText ?xLBadText ?rfBadText ?saBadText ?eCBadText ?tCBadText ?kcBadText ?hdBadText ?iCBadText ?gaBadText ?ggBadText ?noBadText_line ?noBadText_item ?xmBadText_BadText ?a0 ?l0 ?c0 ?k0 ?a1 ?l1 ?c1 ?k1 ?a2 ?l2 ?c2 ?k2 ?a3 ?l3 ?c3 ?k3 ?a4 ?t4 ?l4 ?c4 ?k4 ?a5 ?t5 ?l5 ?c5 ?k5 ?a6 ?t6 ?l6 ?c6 ?k6 ?a7 ?l7 ?c7 ?k7 ?a8 ?l8 ?c8 ?k8 ?a9 ?t9 ?l9 ?c9 ?k9 ?a10 ?t10 ?l10 ?c10 ?k10 ?a11 ?t11 ?l11 ?c11 ?k11 ?a12 ?t12 ?l12 ?c12 ?k12 ?a13 ?t13 ?l13 ?c13 ?k13 ?a14 ?t14 ?l14 ?c14 ?k14 ?a15 ?t15 ?l15 ?c15 ?k15 ?a16 ?t16 ?l16 ?c16 ?k16 ?dl16 ?vE ?lE ?zE ?uE ?a17 ?t17 ?l17 ?c17 ?k17 ?a18 ?t18 ?l18 ?c18 ?k18 ?sf19 ?a19 ?l19 ?c19 ?k19 ?a20 ?l20 ?c20 ?k20 ?a21 ?l21 ?c21 ?k21 ?a22 ?l22 ?c22 ?k22 ?a23 ?l23 ?c23 ?k23 ?a24 ?l24 ?c24 ?k24 ?a25 ?l25 ?c25 ?k25 ?a26 ?l26 ?c26 ?k26 ?a27 ?l27 ?c27 ?k27 ?a28 ?l28 ?c28 ?k28 ?a29 ?l29 ?c29 ?k29 ?a30 ?l30 ?c30 ?k30 ?a31 ?l31 ?c31 ?k31 ?a32 ?l32 ?c32 ?k32 ?a33 ?l33 ?c33 ?k33 ?a34 ?l34 ?c34 ?k34 ?a35 ?l35 ?c35 ?k35 ?a36 ?l36 ?c36 ?k36 ?a37 ?l37 ?c37 ?k37 ?a38 ?l38 ?c38 ?k38 ?a39 ?l39 ?c39 ?k39 ?a40 ?l40 ?c40 ?k40 ?a41 ?l41 ?c41 ?k41 ?a42 ?l42 ?c42 ?k42 ?z0 ?z1 ?z2 ?z3 ?z4 ?z5 ?z6 ?z7 ?z8 ?z9 ?z10 ?z11 ?z12 ?z13 ?z14 ?ne1 ?mo1 ?ha1 ?hn1 ?tk1 ?ri1 ?sp1 ?tC1 ?iC1 ?ks1 ?kn_list ?kn_str ?kn_NoneType ?kn_int ?kn_bool ?kn_tuple ?kn_dict ?nf_list ?nf_str ?gL ?gN ?gD ?gM ?gP ?gB ?lB ?zB ?vB ?gS ?lS ?ktS ?loS ?zS ?eRS ?eLS ?eUS ?eDS ?lRr ?zRr ?vRr ?lLl ?zLl ?vLl ?lUu ?zUu ?vUu ?lDd ?zDd ?vDd
    (case aCLine => k_is)
    (case pgLine => k_is)
    (case hdLine => k_is)
    (case poLine => k_is)
    (case saLine => k_is)
    (case mkLine => k_is)
    (case kcLine => k_is)
    (case nFLine_number => k_is)
    (case nFLine_words => k_is)
    (case nFLine_at => k_is)
    (case aCKind => k_is)
    (case pgKind => k_is)
    (case hdKind => k_is)
    (case poKind => k_is)
    (case saKind => k_is)
    (case mkKind => k_is)
    (case kcKind => k_is)
    (case nFKind_name => k_is)
    (case nFKind_leaps => k_is)
    (case nFKind_rides => k_is)
    (case nFKind_is_lord => k_is)
    (case aCFieldError => k_is)
    (case xLFieldError => k_is)
    (case rfFieldError => decide +kernel)
    (case saFieldError => k_is)
    (case eCFieldError => k_is)
    (case tCFieldError => k_is)
    (case kcFieldError => k_is)
    (case hdFieldError => k_is)
    (case iCFieldError => k_is)
    (case gaFieldError => k_is)
    (case ggFieldError => k_is)
    (case aCBadKind => k_is)
    (case xLBadKind => k_is)
    (case rfBadKind => decide +kernel)
    (case saBadKind => k_is)
    (case eCBadKind => k_is)
    (case tCBadKind => k_is)
    (case kcBadKind => k_is)
    (case hdBadKind => k_is)
    (case iCBadKind => k_is)
    (case gaBadKind => k_is)
    (case ggBadKind => k_is)
    (case noBadKind_part => k_is)
    (case aCMisfit => k_is)
    (case xLMisfit => k_is)
    (case rfMisfit => decide +kernel)
    (case saMisfit => k_is)
    (case eCMisfit => k_is)
    (case tCMisfit => k_is)
    (case kcMisfit => k_is)
    (case hdMisfit => k_is)
    (case iCMisfit => k_is)
    (case gaMisfit => k_is)
    (case ggMisfit => k_is)
    (case noMisfit_part => k_is)
    (case aCBadText => k_is)
    (case xLBadText => k_is)
    (case rfBadText => decide +kernel)
    (case saBadText => k_is)
    (case eCBadText => k_is)
    (case tCBadText => k_is)
    (case kcBadText => k_is)
    (case hdBadText => k_is)
    (case iCBadText => k_is)
    (case gaBadText => k_is)
    (case ggBadText => k_is)
    (case noBadText_line => k_is)
    (case noBadText_item => k_is)
    (case xmBadText_BadText => first | k_is | rfl)
    (case a0 => k_is)
    (case l0 => k_is)
    (case c0 => k_is)
    (case k0 => k_is)
    (case a1 => k_is)
    (case l1 => k_is)
    (case c1 => k_is)
    (case k1 => k_is)
    (case a2 => k_is)
    (case l2 => k_is)
    (case c2 => k_is)
    (case k2 => k_is)
    (case a3 => k_is)
    (case l3 => k_is)
    (case c3 => k_is)
    (case k3 => k_is)
    (case a4 => k_is)
    (case t4 => k_is)
    (case l4 => k_is)
    (case c4 => k_is)
    (case k4 => k_is)
    (case a5 => k_is)
    (case t5 => k_is)
    (case l5 => k_is)
    (case c5 => k_is)
    (case k5 => k_is)
    (case a6 => k_is)
    (case t6 => k_is)
    (case l6 => k_is)
    (case c6 => k_is)
    (case k6 => k_is)
    (case a7 => k_is)
    (case l7 => k_is)
    (case c7 => k_is)
    (case k7 => k_is)
    (case a8 => k_is)
    (case l8 => k_is)
    (case c8 => k_is)
    (case k8 => k_is)
    (case a9 => k_is)
    (case t9 => k_is)
    (case l9 => k_is)
    (case c9 => k_is)
    (case k9 => k_is)
    (case a10 => k_is)
    (case t10 => k_is)
    (case l10 => k_is)
    (case c10 => k_is)
    (case k10 => k_is)
    (case a11 => k_is)
    (case t11 => k_is)
    (case l11 => k_is)
    (case c11 => k_is)
    (case k11 => k_is)
    (case a12 => k_is)
    (case t12 => k_is)
    (case l12 => k_is)
    (case c12 => k_is)
    (case k12 => k_is)
    (case a13 => k_is)
    (case t13 => k_is)
    (case l13 => k_is)
    (case c13 => k_is)
    (case k13 => k_is)
    (case a14 => k_is)
    (case t14 => k_is)
    (case l14 => k_is)
    (case c14 => k_is)
    (case k14 => k_is)
    (case a15 => k_is)
    (case t15 => k_is)
    (case l15 => k_is)
    (case c15 => k_is)
    (case k15 => k_is)
    (case a16 => k_is)
    (case t16 => k_is)
    (case l16 => k_is)
    (case c16 => k_is)
    (case k16 => k_is)
    (case dl16 => k_is)
    (case vE => exact .cons rfl (.cons rfl .nil))
    (case lE => k_is)
    (case zE => decide)
    (case uE => exact .nil)
    (case a17 => k_is)
    (case t17 => k_is)
    (case l17 => k_is)
    (case c17 => k_is)
    (case k17 => k_is)
    (case a18 => k_is)
    (case t18 => k_is)
    (case l18 => k_is)
    (case c18 => k_is)
    (case k18 => k_is)
    (case sf19 => k_is)
    (case a19 => k_is)
    (case l19 => k_is)
    (case c19 => k_is)
    (case k19 => k_is)
    (case a20 => k_is)
    (case l20 => k_is)
    (case c20 => k_is)
    (case k20 => k_is)
    (case a21 => k_is)
    (case l21 => k_is)
    (case c21 => k_is)
    (case k21 => k_is)
    (case a22 => k_is)
    (case l22 => k_is)
    (case c22 => k_is)
    (case k22 => k_is)
    (case a23 => k_is)
    (case l23 => k_is)
    (case c23 => k_is)
    (case k23 => k_is)
    (case a24 => k_is)
    (case l24 => k_is)
    (case c24 => k_is)
    (case k24 => k_is)
    (case a25 => k_is)
    (case l25 => k_is)
    (case c25 => k_is)
    (case k25 => k_is)
    (case a26 => k_is)
    (case l26 => k_is)
    (case c26 => k_is)
    (case k26 => k_is)
    (case a27 => k_is)
    (case l27 => k_is)
    (case c27 => k_is)
    (case k27 => k_is)
    (case a28 => k_is)
    (case l28 => k_is)
    (case c28 => k_is)
    (case k28 => k_is)
    (case a29 => k_is)
    (case l29 => k_is)
    (case c29 => k_is)
    (case k29 => k_is)
    (case a30 => k_is)
    (case l30 => k_is)
    (case c30 => k_is)
    (case k30 => k_is)
    (case a31 => k_is)
    (case l31 => k_is)
    (case c31 => k_is)
    (case k31 => k_is)
    (case a32 => k_is)
    (case l32 => k_is)
    (case c32 => k_is)
    (case k32 => k_is)
    (case a33 => k_is)
    (case l33 => k_is)
    (case c33 => k_is)
    (case k33 => k_is)
    (case a34 => k_is)
    (case l34 => k_is)
    (case c34 => k_is)
    (case k34 => k_is)
    (case a35 => k_is)
    (case l35 => k_is)
    (case c35 => k_is)
    (case k35 => k_is)
    (case a36 => k_is)
    (case l36 => k_is)
    (case c36 => k_is)
    (case k36 => k_is)
    (case a37 => k_is)
    (case l37 => k_is)
    (case c37 => k_is)
    (case k37 => k_is)
    (case a38 => k_is)
    (case l38 => k_is)
    (case c38 => k_is)
    (case k38 => k_is)
    (case a39 => k_is)
    (case l39 => k_is)
    (case c39 => k_is)
    (case k39 => k_is)
    (case a40 => k_is)
    (case l40 => k_is)
    (case c40 => k_is)
    (case k40 => k_is)
    (case a41 => k_is)
    (case l41 => k_is)
    (case c41 => k_is)
    (case k41 => k_is)
    (case a42 => k_is)
    (case l42 => k_is)
    (case c42 => k_is)
    (case k42 => k_is)
    (case z0 => k_is)
    (case z1 => k_is)
    (case z2 => k_is)
    (case z3 => k_is)
    (case z4 => k_is)
    (case z5 => k_is)
    (case z6 => k_is)
    (case z7 => k_is)
    (case z8 => k_is)
    (case z9 => k_is)
    (case z10 => k_is)
    (case z11 => k_is)
    (case z12 => k_is)
    (case z13 => k_is)
    (case z14 => k_is)
    (case ne1 => k_is)
    (case mo1 => k_is)
    (case ha1 => k_is)
    (case hn1 => k_is)
    (case tk1 => k_is)
    (case ri1 => k_is)
    (case sp1 => k_is)
    (case tC1 => k_is)
    (case iC1 => k_is)
    (case ks1 => k_is)
    (case kn_list => k_is)
    (case kn_str => k_is)
    (case kn_NoneType => k_is)
    (case kn_int => k_is)
    (case kn_bool => k_is)
    (case kn_tuple => k_is)
    (case kn_dict => k_is)
    (case nf_list => k_is)
    (case nf_str => k_is)
    (case gL => k_is)
    (case gN => k_is)
    (case gD => k_is)
    (case gM => k_is)
    (case gP => k_is)
    (case gB => k_is)
    (case lB => k_is)
    (case zB => decide)
    (case vB => exact .cons ⟨_, rfl⟩ (.cons ⟨_, rfl⟩ (.cons ⟨_, rfl⟩ (.cons ⟨_, rfl⟩ .nil))))
    (case gS => k_is)
    (case lS => k_is)
    (case ktS => exact ⟨⟨_, _, rfl, rfl⟩, ⟨_, _, rfl, rfl⟩, ⟨_, _, rfl, rfl⟩, ⟨_, _, rfl, rfl⟩, trivial⟩)
    (case loS => decide)
    (case zS => rfl)
    (case eRS => exact ⟨_, _, rfl, rfl, rfl⟩)
    (case eLS => exact ⟨_, _, rfl, rfl, rfl⟩)
    (case eUS => exact ⟨_, _, rfl, rfl, rfl⟩)
    (case eDS => exact ⟨_, _, rfl, rfl, rfl⟩)
    (case lRr => k_is)
    (case zRr => decide)
    (case vRr => exact .cons ⟨_, rfl⟩ (.cons ⟨_, rfl⟩ .nil))
    (case lLl => k_is)
    (case zLl => decide)
    (case vLl => exact .cons ⟨_, rfl⟩ (.cons ⟨_, rfl⟩ .nil))
    (case lUu => k_is)
    (case zUu => decide)
    (case vUu => exact .cons ⟨_, rfl⟩ (.cons ⟨_, rfl⟩ .nil))
    (case lDd => k_is)
    (case zDd => decide)
    (case vDd => exact .cons ⟨_, rfl⟩ (.cons ⟨_, rfl⟩ .nil))

