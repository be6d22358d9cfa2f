import PyProof.Rows.All
import Wide.All
import OpenK.AllK
import Wide.FinOn
import HandS.ForMost
import HandS.IsInst
import HandS.Defaults
import HandS.Flow
import HandS.MakeKwOnly
import PyProof.ReprRoads
import HandS.Wide
import HandS.Walk
import PyProof.ReprBulk
import PyProof.Rows.ReprOcc
import HandS.SetBool
import HandS.TupSets
import HandS.More
import HandS.Iter
import HandS.ClsMeth
import KE.KCallOwn
import HandS.Exc
import HandS.ExcField
import HandS.TryMany
import HandS.WordsExc
import KE.KDictDisplayH
import HandS.DictTup
import HandS.Lambda
import HandS.ExcInit
import HandS.ExcIs
import PySem.Challenge.RW_gapsame_k00_errors_keep_their_fields
import HandS.EndTab
import KE.KNestM
set_option Elab.async false
set_option linter.all false
set_option maxRecDepth 100000
set_option maxHeartbeats 4000000
/-! Layer G: calls under which no guard stands, so that repr tells the whole; data with dicts; what a bag of draws is. -/
namespace Gs
open PySem PySem.Spec PyProof.Rows L2

theorem szl {n : Nat} (h : Nat.ble n 1000 = true) : n ≤ sizeLine := Nat.le_trans (Nat.le_of_ble_eq_true h) (by decide)
theorem szl2 {n : Nat} (h : Nat.ble n 1000 = true) : n ≤ 1000 := Nat.le_of_ble_eq_true h
theorem szm {n : Nat} (h : n ≤ 1000) : n ≤ sizeLine := Nat.le_trans h (by decide)
theorem szs {n : Nat} (h : n < 1000) : n < sizeLine := Nat.lt_of_lt_of_le h (by decide)
/-! ### promises of defs that are entered with no guard -/
structure FnG (P : Program) (w : World) (K : PySem.W.Frag) (mg : Str → Option Value) (base : Heap) (CX : CXT) (k : Nat) (f : Addr)
    (fd : FuncData) (ps : List Str) (sp : Sp) : Prop where
  len : ∀ vs H Q E, sp vs H Q E → vs.length = ps.length
  run : ∀ (A : Around) (outer : List Env) (s : Shared) (H : Hp) (args : Args) (us : List Value) (vs : List V) (Q : VK) (E : XK),
    Room k A → A.guards = some [] → Env0 P w K mg base A outer s H → BindsTo s fd args (ps.zip us) → Vals vs us → sp vs H Q E →
      codeAny (model P w) A (.call (.ref f) args) (CR CX outer P w H s Q E) s
section
variable {P : Program} {w : World} {K : PySem.W.Frag} {mg : Str → Option Value} {base : Heap} {CX : CXT} {j k : Nat} {f : Addr} {fd : FuncData} {ps : List Str} {sp sp' : Sp}
theorem FnG.of (F : FnOk P w K mg base CX k f fd ps sp) : FnG P w K mg base CX k f fd ps sp :=
  ⟨F.len, fun A o s H args us vs Q E hr _ => F.run A o s H args us vs Q E hr⟩
theorem FnG.mono (F : FnG P w K mg base CX j f fd ps sp) (h : j ≤ k) : FnG P w K mg base CX k f fd ps sp :=
  ⟨F.len, fun A o s H args us vs Q E hr => F.run A o s H args us vs Q E (hr.mono h)⟩

theorem fn_ofG {name qual : Str} {params : Arguments} {body : List Stmt} {scope : Scope} {dV kV doc pm cdv ct oc : Value} {an od : Option Addr}
    {osl : Array (Option Value)} {N : List Str}
    (lk : K.lookup f = some ⟨oc, od, .func (PySem.W.fnOf name qual params body scope dV kV doc pm an cdv ct), osl⟩)
    (hcd : PySem.W.codeIn K cdv qual = true) (S : FnScope N ps scope)
    (len : ∀ vs H Q E, sp vs H Q E → vs.length = ps.length)
    (hb : ∀ (A : Around) (outer : List Env) (s : Shared) (H : Hp) (vs : List V) (Q : VK) (E : XK),
      Room k (A.deeper (envOfC qual scope s.heap.objs.size f cdv)) → (A.deeper (envOfC qual scope s.heap.objs.size f cdv)).guards = some [] → sp vs H Q E →
      ∃ t, PSs (cxOf CX P w K mg base N qual scope f cdv A outer s H E) body t ∧ t { nx := fun _ H' => Q .non H', rt := Q } (start N vs) H) :
    FnG P w K mg base CX (k + 1) f (PySem.W.fnOf name qual params body scope dV kV doc pm an cdv ct) ps sp := by
  refine ⟨len, fun A outer s H args us vs Q E hr hgd e0 hbind rv hsp => ?_⟩
  have hl : vs.length = ps.length := len _ _ _ _ hsp
  have kin : K.In s.heap := e0.mod.kin.keeps (fun b o e => (e0.bs b o e).1)
  have noL : s.heap.NoLimit := e0.mod.nolimit.keeps (fun b o e => (e0.bs b o e).1)
  have kinds : ∀ y ∈ ps.zip us, scope.names.lookup y.1 = some .local ∨
      (scope.names.lookup y.1 = some .cell ∧ ((cellsFrom (s.heap.objs.size + 1) scope.names []).lookup y.1).isSome = true) := by
    rintro ⟨n, v⟩ hy
    have hn := (List.of_mem_zip hy).1
    cases S.par n hn with
    | inl q => exact Or.inl q
    | inr q => exact Or.inr ⟨q, PySem.W.cellsFrom_some _ _ _ (Or.inl q)⟩
  refine codeAny_call_function hr.depth (kin _ _ lk) rfl S.co S.gen rfl (PySem.W.codeRec_of kin hcd) (hbind _ _ _ _ ?_)
  refine wpAny_newFunctionEnv_cells S.kind kinds (fun env he s1 x => ?_)
  subst he
  refine ⟨noL.keeps x.toInCall.keep, codeAny_func ?_⟩
  obtain ⟨t, ht, hq⟩ := hb A outer s H vs Q E (hr.deeper _) hgd hsp
  have I := inv_start (CX := CX) (f := f) (cd := cdv) (qual := qual) (E := E) S hr.hd e0 hl rv x
  refine wpAny_mono (ht.run [] s1 (start N vs) H _ I hq) (fun fl s' hs => ?_) (fun e s' hs => hs)
  have done : ∀ {σ' : L2.St} {H' : Hp} {v : V} {u : Value}, Inv (cxOf CX P w K mg base N qual scope f cdv A outer s H E) [] σ' H' s' →
      RelV v u → Q v H' → CE outer P w H s Q u s' := by
    intro σ' H' v u J r2 q2
    exact ⟨v, H', J.os, J.bare, J.base, J.hok, r2, q2⟩
  cases fl with
  | ret u => obtain ⟨v, σ', H', J, r2, q2⟩ := hs; exact done J r2 q2
  | next => obtain ⟨σ', H', J, q2⟩ := hs; exact done (v := V.non) (u := Value.none) J rfl q2
  | brk => obtain ⟨_, _, _, q2⟩ := hs; exact q2.elim
  | cont => obtain ⟨_, _, _, q2⟩ := hs; exact q2.elim

/-- a def of the text without defaults; it may let out what CX tells -/
theorem fun_okX {x qual : Str} {st : Stmt} {N : List Str} (F : Fun K x qual st f fd) (S : FnScope N ps (defScope st))
    (len : ∀ vs H Q E, sp vs H Q E → vs.length = ps.length)
    (hb : ∀ (cdv : Value) (A : Around) (outer : List Env) (s : Shared) (H : Hp) (vs : List V) (Q : VK) (E : XK),
      Room k (A.deeper (envOfC qual (defScope st) s.heap.objs.size f cdv)) → (A.deeper (envOfC qual (defScope st) s.heap.objs.size f cdv)).guards = some [] → sp vs H Q E →
      ∃ t, PSs (cxOf CX P w K mg base N qual (defScope st) f cdv A outer s H E) (defBody st) t ∧
        t { nx := fun _ H' => Q .non H', rt := Q } (start N vs) H) : FnG P w K mg base CX (k + 1) f fd ps sp := by
  obtain ⟨oc, od, kV, doc, pm, an, cdv, ct, osl, rfl, lk, hcd⟩ := F.ex
  exact fn_ofG lk hcd S len (fun A outer s H vs Q E hr hg hsp => hb cdv A outer s H vs Q E hr hg hsp)
/-- a def of the text without defaults; nothing is raised out of it -/
theorem fun_okG {x qual : Str} {st : Stmt} {N : List Str} (F : Fun K x qual st f fd) (S : FnScope N ps (defScope st))
    (len : ∀ vs H Q E, sp vs H Q E → vs.length = ps.length)
    (hb : ∀ (cdv : Value) (A : Around) (outer : List Env) (s : Shared) (H : Hp) (vs : List V) (Q : VK) (E : XK),
      Room k (A.deeper (envOfC qual (defScope st) s.heap.objs.size f cdv)) → (A.deeper (envOfC qual (defScope st) s.heap.objs.size f cdv)).guards = some [] → sp vs H Q E →
      ∃ t, PSs (cxOf CX0 P w K mg base N qual (defScope st) f cdv A outer s H E).nox (defBody st) t ∧
        t { nx := fun _ H' => Q .non H', rt := Q } (start N vs) H) : FnG P w K mg base CX0 (k + 1) f fd ps sp := by
  refine fun_okX F S len (fun cdv A outer s H vs Q E hr hg hsp => ?_)
  obtain ⟨t, h, q⟩ := hb cdv A outer s H vs Q E hr hg hsp
  exact ⟨t, h.nox, q⟩
end

section
variable {X : Cx} {CX : CXT} {k n : Nat} {f C : Addr} {fd : FuncData} {ps ks : List Str} {sp : Sp} {dvs : List V} {ds : List Value} {E : XK}
  {x : Str} {p pos : Pos} {e : Expr} {es : List Expr} {kws : List Keyword} {t tk : TA} {g : List Value → List Value → List Value} {gV : List V → List V → List V}
/-- how the parameters are bound by positional values and keywords (names ks) -/
structure KB (K : PySem.W.Frag) (fd : FuncData) (ps ks : List Str) (n : Nat) (g : List Value → List Value → List Value) (gV : List V → List V → List V) : Prop where
  to : ∀ (s : Shared) (us ws : List Value), K.In s.heap → us.length = n → ws.length = ks.length → BindsTo s fd ⟨us, ks.zip ws⟩ (ps.zip (g us ws))
  rel : ∀ {vs : List V} {us : List Value} {zs : List V} {ws : List Value}, vs.length = n → zs.length = ks.length → Vals vs us → Vals zs ws → Vals (gV vs zs) (g us ws)

theorem run_any {pins : List (Addr × Obj)} {σ : L2.St} {H : Hp} {s : Shared} {Q : VK} {us : List Value} {vs : List V} {vals : List Value} {kw : List (Str × Value)}
    (F : FnG X.prog X.w X.K X.mg X.base CX k f fd ps sp) (hr : Room k X.A) (hg : X.A.guards = some []) (hx : Passes CX X E)
    (I : Inv X pins σ H s) (b : BindsTo s fd ⟨vals, kw⟩ (ps.zip us)) (r : Vals vs us) (h : sp vs H Q E) :
    wpAny (model X.prog X.w) X.A (call (.ref f) vals kw) (EP X pins σ Q) X.xe s := by
  refine wpAny_call (codeAny_mono (F.run X.A X.stack s H ⟨vals, kw⟩ us vs Q E hr hg I.env0 b r h) (fun r' s' hq => ?_))
  match r', hq with
  | .error e, hq => exact hx pins σ H s e s' I hq
  | .ok (.ret u), hq => exact I.after hq
  | .ok .next, hq => exact hq.elim
  | .ok .brk, hq => exact hq.elim
  | .ok .cont, hq => exact hq.elim

/-- f(e, ..) -/
theorem pg_call (F : FnG X.prog X.w X.K X.mg X.base CX k f fd ps sp) (hr : Room k X.A) (hgd : X.A.guards = some []) (hg : Gl X x) (hm : X.mg x = some (.ref f))
    (hk : PySem.W.keepIn X.K (.ref f) = true) (hb : Binds X.K fd ps ds) (hd : Vals dvs ds) (hx : Passes CX X E)
    (ha : PA X (e :: es) t) (hdb : (x == ("__debug__" : Str)) = false := by decide) (he : starEach (e :: es) X.env = (false, eval e X.env) :: starEach es X.env := by rfl)
    (hpl : (backTo pos (starEach es X.env)).any (·.1) = false := by rfl) :
    PE X (.Call (.Name x p) (e :: es) [] pos) (tCall sp dvs E t) := by
  constructor
  intro pins s σ H Q I h
  refine wpAny_Call_Name_kw (ld_glob I hg hm ?_ hdb)
  refine PySem.W.callWith_K (h₀ := X.base) I.ok.mod.kin hk (thn (ha.run pos pins s σ H _ I h) fun us s1 ⟨vs, H1, I1, r, q⟩ => ⟨I1.kIn, ?_⟩) he hpl
  have r2 := r.append hd
  exact run_any (vals := us) (kw := []) F hr hgd hx I1 (hb s1 us I1.kIn (by rw [← r2.length]; exact F.len _ _ _ _ q)) r2 q
/-- f() -/
theorem pg_call0 (F : FnG X.prog X.w X.K X.mg X.base CX k f fd ps sp) (hr : Room k X.A) (hgd : X.A.guards = some []) (hg : Gl X x) (hm : X.mg x = some (.ref f))
    (hk : PySem.W.keepIn X.K (.ref f) = true) (hb : Binds X.K fd ps ds) (hd : Vals dvs ds) (hx : Passes CX X E)
    (hdb : (x == ("__debug__" : Str)) = false := by decide) : PE X (.Call (.Name x p) [] [] pos) (tCall sp dvs E tNil) := by
  constructor
  intro pins s σ H Q I h
  refine wpAny_Call_Name_kw (ld_glob I hg hm ?_ hdb)
  have h : sp ([] ++ dvs) H Q E := h
  have r2 : Vals ([] ++ dvs) ([] ++ ds) := Vals.append .nil hd
  exact PySem.W.callWith_K0 I.kIn hk (run_any (vals := []) (kw := []) F hr hgd hx I (hb s [] I.kIn (by rw [← r2.length]; exact F.len _ _ _ _ h)) r2 h)
def tCallG (n m : Nat) (sp : Sp) (gV : List V → List V → List V) (E : XK) (t tk : TA) : TE := fun σ H Q => t σ H fun vs H1 => tk σ H1 fun zs H2 =>
  vs.length = n ∧ zs.length = m ∧ sp (gV vs zs) H2 Q E
/-- f(e, .., k = v, ..) -/
theorem pg_callK (F : FnG X.prog X.w X.K X.mg X.base CX k f fd ps sp) (hr : Room k X.A) (hgd : X.A.guards = some []) (hg : Gl X x) (hm : X.mg x = some (.ref f))
    (hk : PySem.W.keepIn X.K (.ref f) = true) (hb : KB X.K fd ps ks n g gV) (hx : Passes CX X E)
    (ha : PA X (e :: es) t) (hkw : PK X kws tk) (hall : (backToKw pos (keywordEach kws X.env)).all (·.1.isSome) = true := by rfl)
    (hks : (backToKw pos (keywordEach kws X.env)).filterMap (·.1) = ks := by rfl)
    (hdb : (x == ("__debug__" : Str)) = false := by decide) (he : starEach (e :: es) X.env = (false, eval e X.env) :: starEach es X.env := by rfl)
    (hpl : ((backTo pos (starEach (e :: es) X.env)).any (·.1) || (backToKw pos (keywordEach kws X.env)).any (·.1.isNone)) = false := by rfl) :
    PE X (.Call (.Name x p) (e :: es) kws pos) (tCallG n ks.length sp gV E t tk) := by
  constructor
  intro pins s σ H Q I h
  refine wpAny_Call_Name_kw (ld_glob I hg hm ?_ hdb)
  refine PySem.W.callWith_KW (h₀ := X.base) I.ok.mod.kin hk hall (thn (ha.run pos pins s σ H _ I h) fun us s1 ⟨vs, H1, I1, r, q⟩ => ?_) hpl he
  refine thn (hkw.run pos pins s1 σ H1 _ I1 q) fun ws s2 ⟨zs, H2, I2, rz, l1, l2, q2⟩ => ⟨I2.kIn, ?_⟩
  rw [hks]
  exact run_any (vals := us) (kw := ks.zip ws) F hr hgd hx I2 (hb.to s2 us ws I2.kIn (r.length.symm.trans l1) (rz.length.symm.trans l2)) (hb.rel l1 l2 r rz) q2
end

/-- f(k = v, ..) -/
theorem pg_callK0 {X : Cx} {CX : CXT} {k : Nat} {f : Addr} {fd : FuncData} {ps ks : List Str} {sp : Sp} {E : XK} {x : Str} {p pos : Pos} {kws : List Keyword} {tk : TA}
    {g : List Value → List Value → List Value} {gV : List V → List V → List V}
    (F : FnG X.prog X.w X.K X.mg X.base CX k f fd ps sp) (hr : Room k X.A) (hgd : X.A.guards = some []) (hg : Gl X x) (hm : X.mg x = some (.ref f))
    (hk : PySem.W.keepIn X.K (.ref f) = true) (hb : KB X.K fd ps ks 0 g gV) (hx : Passes CX X E) (hkw : PK X kws tk)
    (hall : (backToKw pos (keywordEach kws X.env)).all (·.1.isSome) = true := by rfl)
    (hks : (backToKw pos (keywordEach kws X.env)).filterMap (·.1) = ks := by rfl)
    (hdb : (x == ("__debug__" : Str)) = false := by decide)
    (hpl : ((backTo pos (starEach [] X.env)).any (·.1) || (backToKw pos (keywordEach kws X.env)).any (·.1.isNone)) = false := by rfl) :
    PE X (.Call (.Name x p) [] kws pos) (tCallG 0 ks.length sp gV E tNil tk) := by
  constructor
  intro pins s σ H Q I h
  refine wpAny_Call_Name_kw (ld_glob I hg hm ?_ hdb)
  refine PySem.W.callWith_KW0 (h₀ := X.base) I.ok.mod.kin hk hall ?_ hpl
  refine thn (hkw.run pos pins s σ H _ I h) fun ws s2 ⟨zs, H2, I2, rz, l1, l2, q2⟩ => ⟨I2.kIn, ?_⟩
  rw [hks]
  exact run_any (vals := []) (kw := ks.zip ws) F hr hgd hx I2 (hb.to s2 [] ws I2.kIn rfl (rz.length.symm.trans l2)) (hb.rel l1 l2 .nil rz) q2

/-! ### data, dicts among it; c: one address that is no part of it (the bag of draws) -/
def Ext (c : Addr) (H H' : Hp) : Prop := ∀ b o, b ≠ c → H b = some o → H' b = some o
theorem Ext.refl {c : Addr} {H : Hp} : Ext c H H := fun _ _ _ h => h
theorem Ext.trans {c : Addr} {H H1 H2 : Hp} (a : Ext c H H1) (b : Ext c H1 H2) : Ext c H H2 := fun x o n h => b x o n (a x o n h)
theorem Ext.new {c p : Addr} {H : Hp} {o : HO} (h : H p = none) : Ext c H (upd H p o) := fun b u _ e => by
  rw [upd_ne (ne_of_none e h)]; exact e
theorem Ext.bag {c : Addr} {H : Hp} {o : HO} : Ext c H (upd H c o) := fun b u n e => by
  rw [upd_ne n]; exact e
/-- a thing that the first heap did not know may change -/
theorem Ext.own {c p : Addr} {H H' : Hp} {o : HO} (e : Ext c H H') (h : H p = none) : Ext c H (upd H' p o) := fun b u n x => by
  rw [upd_ne (ne_of_none x h)]; exact e b u n x
theorem Ext.rd {c a : Addr} {H H' : Hp} {u : HO} (e : Ext c H H') (n : a ≠ c) (h : Rd H a u) : Rd H' a u := by
  rcases h with h | ⟨o, h⟩
  · exact .inl (e _ _ n h)
  · exact .inr ⟨o, e _ _ n h⟩
theorem Ext.sqL {K : PySem.W.Frag} {c a : Addr} {H H' : Hp} {xs : List V} (e : Ext c H H') (n : a ≠ c) (h : SqL K H a xs) : SqL K H' a xs := by
  rcases h with h | h
  · exact .inl (e.rd n h)
  · exact .inr h
theorem Ext.sqT {K : PySem.W.Frag} {c a : Addr} {H H' : Hp} {xs : List V} (e : Ext c H H') (n : a ≠ c) (h : SqT K H a xs) : SqT K H' a xs := by
  rcases h with h | h
  · exact .inl (e.rd n h)
  · exact .inr h
mutual
inductive DV (K : PySem.W.Frag) (c : Addr) (H : Hp) : V → PyData → Prop
  | non : DV K c H .non .none
  | bl (b : Bool) : DV K c H (.bl b) (.bool b)
  | int (i : Int) : DV K c H (.int i) (.int i)
  | str (x : Str) : DV K c H (.str x) (.str x)
  | lst {a : Addr} {xs : List V} {ds : List PyData} : a ≠ c → SqL K H a xs → DVs K c H xs ds → DV K c H (.ref a) (.list ds)
  | tup {a : Addr} {xs : List V} {ds : List PyData} : a ≠ c → SqT K H a xs → DVs K c H xs ds → DV K c H (.ref a) (.tuple ds)
  | dic {a : Addr} {kvs : List (Key × V)} {ps : List (PyData × PyData)} : a ≠ c → H a = some (.dK kvs) → DKs K c H kvs ps → DV K c H (.ref a) (.dict ps)
  | dct {a : Addr} {kvs : List (List Key × V)} {ps : List (PyData × PyData)} : a ≠ c → H a = some (.dT kvs) → PyData.showable (.dict ps) = false → DV K c H (.ref a) (.dict ps)
inductive DVs (K : PySem.W.Frag) (c : Addr) (H : Hp) : List V → List PyData → Prop
  | nil : DVs K c H [] []
  | cons {v : V} {vs : List V} {d : PyData} {ds : List PyData} : DV K c H v d → DVs K c H vs ds → DVs K c H (v :: vs) (d :: ds)
inductive DKs (K : PySem.W.Frag) (c : Addr) (H : Hp) : List (Key × V) → List (PyData × PyData) → Prop
  | nil : DKs K c H [] []
  | cons {k : Key} {v : V} {r : List (Key × V)} {d e : PyData} {ps : List (PyData × PyData)} : DV K c H (kV k) d → DV K c H v e → DKs K c H r ps → DKs K c H ((k, v) :: r) ((d, e) :: ps)
end
section
variable {K : PySem.W.Frag} {c : Addr} {H H' : Hp}
mutual
theorem DV.ext (e : Ext c H H') : ∀ (d : PyData) (v : V), DV K c H v d → DV K c H' v d
  | .none, _, h => by cases h; exact .non
  | .bool _, _, h => by cases h; exact .bl _
  | .int _, _, h => by cases h; exact .int _
  | .str _, _, h => by cases h; exact .str _
  | .list ds, _, h => by
    cases h with
    | lst n s r => exact .lst n (e.sqL n s) (DVs.ext e ds _ r)
  | .tuple ds, _, h => by
    cases h with
    | tup n s r => exact .tup n (e.sqT n s) (DVs.ext e ds _ r)
  | .dict ps, _, h => by
    cases h with
    | dic n s r => exact .dic n (e _ _ n s) (DKs.ext e ps _ r)
    | dct n s z => exact .dct n (e _ _ n s) z
theorem DVs.ext (e : Ext c H H') : ∀ (ds : List PyData) (vs : List V), DVs K c H vs ds → DVs K c H' vs ds
  | [], _, h => by cases h; exact .nil
  | d :: ds, _, h => by
    cases h with
    | cons a b => exact .cons (DV.ext e d _ a) (DVs.ext e ds _ b)
theorem DKs.ext (e : Ext c H H') : ∀ (ps : List (PyData × PyData)) (vs : List (Key × V)), DKs K c H vs ps → DKs K c H' vs ps
  | [], _, h => by cases h; exact .nil
  | (d, f) :: ps, _, h => by
    cases h with
    | cons a b r => exact .cons (DV.ext e d _ a) (DV.ext e f _ b) (DKs.ext e ps _ r)
end
theorem DVs.len : ∀ {vs : List V} {ds : List PyData}, DVs K c H vs ds → vs.length = ds.length
  | _, _, .nil => rfl
  | _, _, .cons _ b => congrArg Nat.succ (DVs.len b)
theorem DVs.at : ∀ {vs : List V} {ds : List PyData} {i : Nat} {v : V}, DVs K c H vs ds → vs[i]? = some v → ∃ d, ds[i]? = some d ∧ DV K c H v d
  | _, _, i, _, .nil, h => by simp at h
  | _, _, 0, _, .cons a _, h => by simp at h; subst h; exact ⟨_, rfl, a⟩
  | _, _, i + 1, _, .cons _ b, h => by simpa using DVs.at b (by simpa using h)
theorem DVs.append : ∀ {vs ws : List V} {ds es : List PyData}, DVs K c H vs ds → DVs K c H ws es → DVs K c H (vs ++ ws) (ds ++ es)
  | _, _, _, _, .nil, h => h
  | _, _, _, _, .cons a b, h => .cons a (DVs.append b h)
end
section
variable {X : Cx} {pins : List (Addr × Obj)} {σ : L2.St} {H : Hp} {s : Shared} {c : Addr}
/-- what is known of a value that bears d, for its text -/
def Shows (X : Cx) (h : Heap) (u : Value) (d : PyData) : Prop := (∃ as, Reads h u d as) ∧ ∃ bs, ReadAtMost h d.depth bs ∧ ReprK X.prog X.w bs h d.depth u d.shown
def ShowsS (X : Cx) (h : Heap) (us : List Value) (ds : List PyData) : Prop := (∃ as, ReadsAll h us ds as) ∧
  ∃ bs, ReadAtMost h (PyData.depthAll ds) bs ∧ ReprAllK X.prog X.w bs h (PyData.depthAll ds) us (PyData.shownAll ds)
theorem ShowsS.nil {h : Heap} : ShowsS X h [] [] := ⟨⟨_, .nil⟩, [], (fun _ z => nomatch z), .nil⟩
theorem ShowsS.cons {h : Heap} {u : Value} {us : List Value} {d : PyData} {ds : List PyData} (a : Shows X h u d) (b : ShowsS X h us ds) : ShowsS X h (u :: us) (d :: ds) := by
  obtain ⟨⟨as, r⟩, bs, m, k⟩ := a
  obtain ⟨⟨as', r'⟩, bs', m', k'⟩ := b
  have l1 : d.depth ≤ PyData.depthAll (d :: ds) := by simp only [PyData.depthAll]; exact Nat.le_max_left _ _
  have l2 : PyData.depthAll ds ≤ PyData.depthAll (d :: ds) := by simp only [PyData.depthAll]; exact Nat.le_max_right _ _
  exact ⟨⟨_, .cons r r'⟩, bs ++ bs', (m.mono l1).append (m'.mono l2), .cons ((k.more fun _ z => List.mem_append_left _ z).level_le l1) (k'.more_le (fun _ z => List.mem_append_right _ z) l2)⟩
theorem dict_len {ps : List (PyData × PyData)} (h : (PyData.shown (.dict ps)).length ≤ sizeLine) : (∀ t ∈ PyData.shownAll (ps.map (·.1)), t.length ≤ sizeLine) ∧ ∀ t ∈ PyData.shownAll (ps.map (·.2)), t.length ≤ sizeLine := by
  have h' : (dictText (PyData.shownKv ps)).length ≤ sizeLine := by simpa only [PyData.shown] using h
  constructor
  · intro t ht
    obtain ⟨p, hp, hl⟩ := PyData.shownKv_key_le ps t ht
    exact Nat.le_trans hl (Nat.le_trans (dictText_mem_le hp) h')
  · intro t ht
    obtain ⟨p, hp, hl⟩ := PyData.shownKv_val_le ps t ht
    exact Nat.le_trans hl (Nat.le_trans (dictText_mem_le hp) h')
mutual
theorem DV.shows (I : Inv X pins σ H s) : ∀ (d : PyData) (v : V) (u : Value), DV X.K c H v d → L2.RelV v u → d.showable = true → d.shown.length ≤ sizeLine → Shows X s.heap u d
  | .none, _, _, h, r, _, _ => by
    cases h; cases r
    exact ⟨⟨_, .none⟩, [], (fun _ z => nomatch z), .of_is ReprIs.none _ _ _⟩
  | .bool b, _, _, h, r, _, _ => by
    cases h; cases r
    exact ⟨⟨_, .bool b⟩, [], (fun _ z => nomatch z), .of_is (ReprIs.bool b) _ _ _⟩
  | .int i, _, _, h, r, hs, _ => by
    cases h; obtain ⟨t, rfl⟩ := r
    exact ⟨⟨_, .int i t⟩, [], (fun _ z => nomatch z), .of_is (ReprIs.int t (by simpa [PyData.showable] using hs)) _ _ _⟩
  | .str x, _, _, h, r, _, hz => by
    cases h; obtain ⟨t, rfl⟩ := r
    exact ⟨⟨_, .str x t⟩, [], (fun _ z => nomatch z), .of_is (ReprIs.str x t (by simpa only [PyData.shown] using hz)) _ _ _⟩
  | .list ds, _, _, h, r, hs, hz => by
    cases h with
    | lst n hq ha =>
      cases r
      obtain ⟨its, rv, ⟨o, m, ho, hc, _, hd⟩, _⟩ := I.list hq
      have hz' : (listText (PyData.shownAll ds)).length ≤ sizeLine := by simpa only [PyData.shown] using hz
      obtain ⟨⟨as, rs⟩, bs, mb, kb⟩ := DVs.shows I ds _ its ha rv (by simpa [PyData.showable] using hs) (fun t ht => Nat.le_trans (listText_mem_le ht) hz')
      have rd : Reads s.heap (.ref _) (.list ds) _ := .list ho hc hd rs
      have lt : PyData.depthAll ds < (PyData.list ds).depth := by simp only [PyData.depth]; omega
      have out := not_mem_of_deeper rd lt mb
      refine ⟨⟨_, rd⟩, _, ReadAtMost.cons rd (Nat.le_of_lt lt) mb, ?_⟩
      simp only [PyData.depth, PyData.shown]
      match its, rs, kb, hd with
      | [], rs, _, hd =>
        cases rs
        simp only [PyData.shownAll, listText_nil]
        exact ReprK.listEmpty ho hc hd
      | x :: l, _, kb, hd => exact ReprK.list ho hc hd out (by simpa using kb.length_eq) (fun i y e => kb.item i y (by simpa using e))
  | .tuple ds, _, _, h, r, hs, hz => by
    cases h with
    | tup n hq ha =>
      cases r
      obtain ⟨its, rv, ⟨o, ho, hc, m, hd⟩, _⟩ := I.tuple hq
      have hz' : (tupleText (PyData.shownAll ds)).length ≤ sizeLine := by simpa only [PyData.shown] using hz
      obtain ⟨⟨as, rs⟩, bs, mb, kb⟩ := DVs.shows I ds _ its ha rv (by simpa [PyData.showable] using hs) (fun t ht => Nat.le_trans (tupleText_mem_le ht) hz')
      have rd : Reads s.heap (.ref _) (.tuple ds) _ := .tuple ho hc hd rs
      have lt : PyData.depthAll ds < (PyData.tuple ds).depth := by simp only [PyData.depth]; omega
      have out := not_mem_of_deeper rd lt mb
      refine ⟨⟨_, rd⟩, _, ReadAtMost.cons rd (Nat.le_of_lt lt) mb, ?_⟩
      simp only [PyData.depth, PyData.shown]
      exact ReprK.tuple ho hc hd out kb
  | .dict ps, _, _, h, r, hs, hz => by
    cases h with
    | dic n hq ha =>
      cases r
      obtain ⟨_, hsm, vs, kv, o, es, ep, ho, hx, hd, _, pr, _⟩ := I.hok _ _ hq
      obtain ⟨hs1, hs2⟩ := PyData.showableKv_split ps (by simpa [PyData.showable] using hs)
      obtain ⟨hz1, hz2⟩ := dict_len hz
      obtain ⟨⟨⟨as, r1⟩, b1, m1, k1⟩, ⟨as', r2⟩, b2, m2, k2⟩ := DKs.shows I ps _ es.toList vs ha kv pr hs1 hs2 hz1 hz2
      have rd : Reads s.heap (.ref _) (.dict ps) _ := .dict ho hx.1 hd r1 r2
      have lt : PyData.depthKv ps < (PyData.dict ps).depth := by simp only [PyData.depth]; omega
      have mb := (m1.mono (PyData.depthAll_keys_le ps)).append (m2.mono (PyData.depthAll_vals_le ps))
      have out := not_mem_of_deeper rd lt mb
      refine ⟨⟨_, rd⟩, _, ReadAtMost.cons rd (Nat.le_of_lt lt) mb, ?_⟩
      simp only [PyData.depth, PyData.shown, PyData.shownKv_eq]
      exact ReprK.dict ho hx.1 hd hsm out (.of_two es.toList _ _ (k1.more_le (fun _ z => List.mem_append_left _ z) (PyData.depthAll_keys_le ps))
        (k2.more_le (fun _ z => List.mem_append_right _ z) (PyData.depthAll_vals_le ps)))
    | dct n q z => rw [z] at hs; cases hs
theorem DVs.shows (I : Inv X pins σ H s) : ∀ (ds : List PyData) (vs : List V) (us : List Value), DVs X.K c H vs ds → L2.Vals vs us → PyData.showableAll ds = true → (∀ t ∈ PyData.shownAll ds, t.length ≤ sizeLine) → ShowsS X s.heap us ds
  | [], _, _, h, r, _, _ => by
    cases h; cases r
    exact .nil
  | d :: ds, _, _, h, r, hs, hz => by
    cases h with
    | cons h1 h2 =>
      cases r with
      | cons r1 r2 =>
        have hs' : d.showable = true ∧ PyData.showableAll ds = true := by simpa [PyData.showableAll] using hs
        simp only [PyData.shownAll] at hz
        exact .cons (DV.shows I d _ _ h1 r1 hs'.1 (hz _ List.mem_cons_self)) (DVs.shows I ds _ _ h2 r2 hs'.2 fun t ht => hz t (List.mem_cons_of_mem _ ht))
theorem DKs.shows (I : Inv X pins σ H s) : ∀ (ps : List (PyData × PyData)) (kvs : List (Key × V)) (es : List DictEntry) (vs : List (Key × Value)), DKs X.K c H kvs ps → KV kvs vs →
    Pairs (mixKind X.prog X.w) es vs → PyData.showableAll (ps.map (·.1)) = true → PyData.showableAll (ps.map (·.2)) = true →
    (∀ t ∈ PyData.shownAll (ps.map (·.1)), t.length ≤ sizeLine) → (∀ t ∈ PyData.shownAll (ps.map (·.2)), t.length ≤ sizeLine) →
    ShowsS X s.heap (es.map (·.key)) (ps.map (·.1)) ∧ ShowsS X s.heap (es.map (·.val)) (ps.map (·.2))
  | [], _, _, _, h, r, p, _, _, _, _ => by
    cases h; cases r; cases p
    exact ⟨.nil, .nil⟩
  | (d, f) :: ps, (k, v) :: kvs, e :: es', kv :: vs', h, r, p, hs1, hs2, hz1, hz2 => by
    cases h with
    | cons h1 h2 h3 =>
      cases r with
      | cons r1 r2 =>
        cases p with
        | cons p1 p2 p3 =>
          obtain ⟨e1, r1⟩ := r1
          have rk : L2.RelV (kV k) e.key := by
            have p1 : keyIs kv.1 e.key = true := p1
            rw [← e1] at p1
            rcases keyIs_shape p1 with ⟨i, t, q1, q2⟩ | ⟨z, t, q1, q2⟩
            · rw [q2]; simp only at q1; rw [q1]; exact ⟨t, rfl⟩
            · rw [q2]; simp only at q1; rw [q1]; exact ⟨t, rfl⟩
          have a1 : d.showable = true ∧ PyData.showableAll (ps.map (·.1)) = true := by simpa [PyData.showableAll] using hs1
          have a2 : f.showable = true ∧ PyData.showableAll (ps.map (·.2)) = true := by simpa [PyData.showableAll] using hs2
          simp only [List.map_cons, PyData.shownAll] at hz1 hz2
          obtain ⟨q3, q4⟩ := DKs.shows I ps _ es' vs' h3 r2 p3 a1.2 a2.2 (fun t ht => hz1 t (List.mem_cons_of_mem _ ht)) fun t ht => hz2 t (List.mem_cons_of_mem _ ht)
          exact ⟨.cons (DV.shows I d _ _ h1 rk a1.1 (hz1 _ List.mem_cons_self)) q3, .cons (DV.shows I f _ e.val h2 (by rw [p2]; exact r1) a2.1 (hz2 _ List.mem_cons_self)) q4⟩
  | (d, f) :: ps, [], _, _, h, r, p, _, _, _, _ => by cases h
  | (d, f) :: ps, _ :: _, [], _, h, r, p, _, _, _, _ => by cases p; cases r
  | (d, f) :: ps, _ :: _, _, [], h, r, p, _, _, _, _ => by cases r
end
/-- repr of data -/
def rRepr (K : PySem.W.Frag) : List V → Hp → VK → Prop := fun xs H Q => ∃ (c a : Addr) (d : PyData), xs = [.ref a] ∧ DV K c H (.ref a) d ∧ d.showable = true ∧ d.depth ≤ 60 ∧ d.shown.length ≤ sizeLine ∧ Q (.str d.shown) H
theorem call_repr {k : Nat} (hr : Room k X.A) (hg : X.A.guards = some []) : CallR X (.builtin "repr") (rRepr X.K) := by
  intro pins s σ H xs us Q I r h
  obtain ⟨c, a, d, rfl, hd, hs, hdp, hz, q⟩ := h
  match us, r with
  | [u], .cons r1 .nil =>
    cases (show u = Value.ref a from r1)
    have un := hr.units
    have un1 : X.A.units + 1 < cLine := by omega
    cases hd with
    | lst n hq ha =>
      rename_i vs ds
      obtain ⟨its, rv, ⟨o, m, ho, hc, _, hdt⟩, _⟩ := I.list hq
      have hz' : (listText (PyData.shownAll ds)).length ≤ sizeLine := by simpa only [PyData.shown] using hz
      obtain ⟨⟨as, rs⟩, bs, mb, kb⟩ := DVs.shows I ds _ its ha rv (by simpa [PyData.showable] using hs) (fun t ht => Nat.le_trans (listText_mem_le ht) hz')
      have rd : Reads s.heap (.ref a) (.list ds) _ := .list ho hc hdt rs
      have lt : PyData.depthAll ds < (PyData.list ds).depth := by simp only [PyData.depth]; omega
      have out := not_mem_of_deeper rd lt mb
      simp only [PyData.depth] at hdp
      simp only [PyData.shown] at q
      refine call_repr_slot un1 ⟨o, ho, hc⟩ F.slot_list_repr.toG ?_
      match its, rs, kb, hdt with
      | [], rs, _, hdt =>
        cases rs
        simp only [PyData.shownAll, listText_nil] at q
        exact call_list_repr_empty ⟨o, ho, hc⟩ ho hdt ⟨_, _, rfl, .str _, H, I.kept fun _ _ e => e, ⟨_, rfl⟩, q⟩
      | x :: l, _, kb, hdt =>
        exact call_list_reprK ho hc hdt out (by simpa using kb.length_eq) (fun i y e => kb.item i y (by simpa using e)) (A := X.A.in1) hg (fun b _ => Clear.nil b)
          (by show X.A.units + 1 + _ < cLine; omega) (fun _ _ e => e) (fun h' u tk hk => ⟨_, _, rfl, .str _, H, I.kept hk, ⟨u, rfl⟩, q⟩) hz'
    | tup n hq ha =>
      rename_i vs ds
      obtain ⟨its, rv, ⟨o, ho, hc, m, hdt⟩, _⟩ := I.tuple hq
      have hz' : (tupleText (PyData.shownAll ds)).length ≤ sizeLine := by simpa only [PyData.shown] using hz
      obtain ⟨⟨as, rs⟩, bs, mb, kb⟩ := DVs.shows I ds _ its ha rv (by simpa [PyData.showable] using hs) (fun t ht => Nat.le_trans (tupleText_mem_le ht) hz')
      have rd : Reads s.heap (.ref a) (.tuple ds) _ := .tuple ho hc hdt rs
      have lt : PyData.depthAll ds < (PyData.tuple ds).depth := by simp only [PyData.depth]; omega
      have out := not_mem_of_deeper rd lt mb
      simp only [PyData.depth] at hdp
      simp only [PyData.shown] at q
      exact call_repr_slot un1 ⟨o, ho, hc⟩ F.slot_tuple_repr (call_tuple_reprK ho hc hdt out kb (A := X.A.in1) hg (fun b _ => Clear.nil b)
          (by show X.A.units + 1 + _ < cLine; omega) (fun _ _ e => e) (fun h' u tk hk => ⟨_, _, rfl, .str _, H, I.kept hk, ⟨u, rfl⟩, q⟩) hz')
    | dic n hq ha =>
      rename_i kvs ps
      obtain ⟨_, hsm, vs, kv, o, es, ep, ho, hx, hdt, _, pr, _⟩ := I.hok _ _ hq
      obtain ⟨hs1, hs2⟩ := PyData.showableKv_split ps (by simpa [PyData.showable] using hs)
      obtain ⟨hz1, hz2⟩ := dict_len hz
      obtain ⟨⟨⟨as, r1⟩, b1, m1, k1⟩, ⟨as', r2⟩, b2, m2, k2⟩ := DKs.shows I ps _ es.toList vs ha kv pr hs1 hs2 hz1 hz2
      have rd : Reads s.heap (.ref a) (.dict ps) _ := .dict ho hx.1 hdt r1 r2
      have lt : PyData.depthKv ps < (PyData.dict ps).depth := by simp only [PyData.depth]; omega
      have mb := (m1.mono (PyData.depthAll_keys_le ps)).append (m2.mono (PyData.depthAll_vals_le ps))
      have out := not_mem_of_deeper rd lt mb
      simp only [PyData.depth] at hdp
      simp only [PyData.shown, PyData.shownKv_eq] at q hz
      exact call_repr_slot un1 ⟨o, ho, hx.1⟩ F.slot_dict_repr (call_dict_reprK ho hx.1 hdt hsm out (.of_two es.toList _ _ (k1.more_le (fun _ z => List.mem_append_left _ z) (PyData.depthAll_keys_le ps))
        (k2.more_le (fun _ z => List.mem_append_right _ z) (PyData.depthAll_vals_le ps))) (A := X.A.in1) hg (fun b _ => Clear.nil b)
          (by show X.A.units + 1 + _ < cLine; omega) (fun _ _ e => e) (fun h' u tk hk => ⟨_, _, rfl, .str _, H, I.kept hk, ⟨u, rfl⟩, q⟩) hz)
    | dct n hq z => rw [z] at hs; cases hs
end

/-! ### small facts of data -/
theorem dp_ints {K : PySem.W.Frag} {H : Hp} : ∀ ns : List Int, DpAll K H (ns.map V.int) (ns.map PyData.int)
  | [] => .nil
  | n :: ns => .cons (.int n) (dp_ints ns)
theorem dv_ints {K : PySem.W.Frag} {H : Hp} {c : Addr} : ∀ ns : List Int, DVs K c H (ns.map V.int) (ns.map PyData.int)
  | [] => .nil
  | n :: ns => .cons (.int n) (dv_ints ns)
theorem can_ints : ∀ ns : List Int, PyData.canLayAll0 (ns.map PyData.int) = true
  | [] => rfl
  | n :: ns => by
    show (PyData.canLay0 (.int n) && PyData.canLayAll0 (ns.map PyData.int)) = true
    rw [can_ints ns]; rfl
theorem depth_ints : ∀ ns : List Int, PyData.depthAll (ns.map PyData.int) ≤ 1
  | [] => by decide
  | n :: ns => by
    have := depth_ints ns
    simp only [List.map_cons, PyData.depthAll, PyData.depth]
    omega
theorem shaped_ints (ns : List Int) : SeqAt.shaped (.list (ns.map PyData.int)) = true := by
  unfold SeqAt.shaped
  have h := depth_ints ns
  have e : PyData.canLay0 (.list (ns.map PyData.int)) = true := by
    simp only [PyData.canLay0]; exact can_ints ns
  rw [e, Bool.true_and, decide_eq_true_eq]
  simp only [PyData.depth]
  omega
theorem eqv_nil (ds : List PyData) : PyData.eqv (.list ds) (.list []) = ds.isEmpty := by
  cases ds with
  | nil => simp [PyData.eqv, PyData.eqvAll]
  | cons d ds => simp [PyData.eqv, PyData.eqvAll]

theorem mix_bound {v pt A B C : Int} (v0 : 0 ≤ v) (v1 : v < 2147483648) (p0 : 0 ≤ pt) (p1 : pt ≤ 1000000) (a0 : 0 ≤ A) (a1 : A ≤ 1000000) (b0 : 0 ≤ B) (b1 : B ≤ 1000000) (c0 : 0 ≤ C) (c1 : C ≤ 1000000) :
    (v * (2 * pt + A) + B * pt * pt + C).natAbs < 2 ^ 64 := by
  have e1 : v * (2 * pt + A) ≤ 2147483648 * 3000000 := Int.mul_le_mul (by omega) (by omega) (by omega) (by omega)
  have e2 : 0 ≤ v * (2 * pt + A) := Int.mul_nonneg v0 (by omega)
  have e3 : B * pt ≤ 1000000 * 1000000 := Int.mul_le_mul b1 p1 p0 (by omega)
  have e4 : 0 ≤ B * pt := Int.mul_nonneg b0 p0
  have e5 : B * pt * pt ≤ 1000000 * 1000000 * 1000000 := Int.mul_le_mul e3 p1 p0 (by omega)
  have e6 : 0 ≤ B * pt * pt := Int.mul_nonneg e4 p0
  omega
theorem mul_pt {B pt : Int} (p0 : 0 ≤ pt) (p1 : pt ≤ 1000000) (b0 : 0 ≤ B) (b1 : B ≤ 1000000) : CMul (B * pt) pt := by
  have e3 : B * pt ≤ 1000000 * 1000000 := Int.mul_le_mul b1 p1 p0 (by omega)
  have e4 : 0 ≤ B * pt := Int.mul_nonneg b0 p0
  exact .inl ⟨by omega, by omega⟩
theorem at_mod {ns : List Int} {pt : Int} (h : ns ≠ []) (p0 : 0 ≤ pt) : ∃ v, atI (ns.map V.int) (pt % ((ns.map V.int).length : Int)) = some (.int v) := by
  have hl : 0 < (ns.map V.int).length := by
    rw [List.length_map]; exact List.length_pos_iff.mpr h
  have h1 := Int.emod_nonneg pt (show ((ns.map V.int).length : Int) ≠ 0 by omega)
  have h2 := Int.emod_lt_of_pos pt (show (0 : Int) < ((ns.map V.int).length : Int) by omega)
  obtain ⟨j, hj⟩ := Int.eq_ofNat_of_zero_le h1
  rw [hj] at h2 ⊢
  have hjl : j < ns.length := by rw [List.length_map] at h2; omega
  refine ⟨ns[j], atI_nat ?_⟩
  rw [List.getElem?_map, List.getElem?_eq_getElem hjl]; rfl
theorem emod_w {x M : Int} (h : 0 < M) (h2 : M ≤ 2147483648) : -(2 ^ 64) < x % M ∧ x % M < 2 ^ 64 := by
  have a := Int.emod_nonneg x (show M ≠ 0 by omega)
  have b := Int.emod_lt_of_pos x h
  omega
theorem emod_b {x M : Int} (h : 0 < M) (h2 : M ≤ 2147483648) : 0 ≤ x % M ∧ x % M < 2147483648 := by
  have a := Int.emod_nonneg x (show M ≠ 0 by omega)
  have b := Int.emod_lt_of_pos x h
  omega
/-- forget what a heap is, but for F -/
theorem gcut {Qd : Hp → Prop} {H : Hp} (F : Hp → Prop) (hF : F H) (h : ∀ H', F H' → Qd H') : Qd H := h H hF
theorem pos_lit {j : Int} (h : 0 < j) : 0 < j := h

section
variable {K : PySem.W.Frag} {c p : Addr} {H H' : Hp} {v : V} {d : PyData} {vs xs : List V} {ds : List PyData}
theorem DV.up (h : DV K c H v d) (e : Ext c H H') : DV K c H' v d := DV.ext e d v h
theorem DVs.up (h : DVs K c H vs ds) (e : Ext c H H') : DVs K c H' vs ds := DVs.ext e ds vs h
/-- a new list, a new tuple, a new dict -/
theorem new_lst (hp : H p = none) (n : p ≠ c) (h : DVs K c H xs ds) : DV K c (upd H p (.lst xs)) (.ref p) (.list ds) ∧ Ext c H (upd H p (.lst xs)) :=
  ⟨.lst n (.of upd_same) (h.up (Ext.new hp)), Ext.new hp⟩
theorem new_tup (hp : H p = none) (n : p ≠ c) (h : DVs K c H xs ds) : DV K c (upd H p (.tup xs)) (.ref p) (.tuple ds) ∧ Ext c H (upd H p (.tup xs)) :=
  ⟨.tup n (.of upd_same) (h.up (Ext.new hp)), Ext.new hp⟩
/-- [x if one of them] -/
theorem one_of {i : Nat} {v : V} {xs : List V} (h : xs[i]? = some v) : v ∈ xs := List.mem_of_getElem? h
end

theorem pi_or {X : Cx} {tg e : Expr} {w1 w2 : TI} (h1 : PI X tg e w1) (h2 : PI X tg e w2) : PI X tg e (fun σ H R => w1 σ H R ∨ w2 σ H R) :=
  ⟨fun pins s σ H R I h => h.elim (h1.run pins s σ H R I) (h2.run pins s σ H R I)⟩
theorem Ext.of {c : Addr} {H H' : Hp} (h : Same H H') : Ext c H H' := fun b o _ e => h b o e
theorem same_new {p : Addr} {H : Hp} {o : HO} (h : H p = none) : Same H (upd H p o) := fun b u e => by
  rw [upd_ne (ne_of_none e h)]; exact e
theorem same_own {p : Addr} {H H' : Hp} {o : HO} (e : Same H H') (h : H p = none) : Same H (upd H' p o) := fun b u x => by
  rw [upd_ne (ne_of_none x h)]; exact e b u x
/-! ### types of data -/
def tyN : PyData → String
  | .none => "NoneType" | .bool _ => "bool" | .int _ => "int" | .str _ => "str" | .list _ => "list" | .tuple _ => "tuple" | .dict _ => "dict"
theorem ty_of {K : PySem.W.Frag} {c : Addr} {H : Hp} {v : V} {d : PyData} (h : DV K c H v d) : TyX K H v (.type (tyN d)) := by
  cases h with
  | non => exact .base .non
  | bl b => exact .base (.bl b)
  | int i => exact .base (.int i)
  | str x => exact .base (.str x)
  | lst _ s _ =>
    rcases s with (s | ⟨o, s⟩) | ⟨o, its, n, e, q, _⟩
    · exact .base (.lst s)
    · exact .base (.frz s)
    · exact .kList e q
  | tup _ s _ =>
    rcases s with (s | ⟨o, s⟩) | ⟨o, its, n, e, q, _⟩
    · exact .base (.tup s)
    · exact .fTuple s
    · exact .kTuple e q
  | dic _ s _ => exact .base (.dK s)
  | dct _ s _ => exact .base (.dT s)
def isInt : PyData → Bool | .int _ => true | _ => false
def isSeq : PyData → Bool | .list _ => true | .tuple _ => true | _ => false
def isStr : PyData → Bool | .str _ => true | _ => false
theorem iteB {b : Bool} {A B : Prop} (h1 : b = true → A) (h2 : b = false → B) : if b = true then A else B := by
  cases b with
  | true => exact iteT (h1 rfl)
  | false => exact iteF (h2 rfl)
/-- a pair of two such things -/
def pairP (f : PyData → Bool) : PyData → Bool
  | .list [a, b] => f a && f b
  | .tuple [a, b] => f a && f b
  | _ => false
abbrev isSq : PyData → Bool := pairP isInt
abbrev isMv : PyData → Bool := pairP isSq
theorem pair_no {f : PyData → Bool} {ds : List PyData} (h : ds.length ≠ 2) : pairP f (.list ds) = false ∧ pairP f (.tuple ds) = false := by
  match ds, h with
  | [], _ => exact ⟨rfl, rfl⟩
  | [_], _ => exact ⟨rfl, rfl⟩
  | [_, _], h => exact absurd rfl h
  | _ :: _ :: _ :: _, _ => exact ⟨rfl, rfl⟩
theorem two_of {α : Type} {ds : List α} (h : ds.length = 2) : ∃ a b, ds = [a, b] := by
  match ds, h with
  | [a, b], _ => exact ⟨a, b, rfl⟩
theorem kI : ∀ d : PyData, kitB (tyN d) "int" = some (match d with | .int _ => true | .bool _ => true | _ => false)
  | .none => (by decide +kernel : kitB "NoneType" "int" = some false)
  | .bool _ => (by decide +kernel : kitB "bool" "int" = some true)
  | .int _ => (by decide +kernel : kitB "int" "int" = some true)
  | .str _ => (by decide +kernel : kitB "str" "int" = some false)
  | .list _ => (by decide +kernel : kitB "list" "int" = some false)
  | .tuple _ => (by decide +kernel : kitB "tuple" "int" = some false)
  | .dict _ => (by decide +kernel : kitB "dict" "int" = some false)
theorem kB : ∀ d : PyData, kitB (tyN d) "bool" = some (match d with | .bool _ => true | _ => false)
  | .none => (by decide +kernel : kitB "NoneType" "bool" = some false)
  | .bool _ => (by decide +kernel : kitB "bool" "bool" = some true)
  | .int _ => (by decide +kernel : kitB "int" "bool" = some false)
  | .str _ => (by decide +kernel : kitB "str" "bool" = some false)
  | .list _ => (by decide +kernel : kitB "list" "bool" = some false)
  | .tuple _ => (by decide +kernel : kitB "tuple" "bool" = some false)
  | .dict _ => (by decide +kernel : kitB "dict" "bool" = some false)
theorem kS : ∀ d : PyData, kitB (tyN d) "str" = some (isStr d)
  | .none => (by decide +kernel : kitB "NoneType" "str" = some false)
  | .bool _ => (by decide +kernel : kitB "bool" "str" = some false)
  | .int _ => (by decide +kernel : kitB "int" "str" = some false)
  | .str _ => (by decide +kernel : kitB "str" "str" = some true)
  | .list _ => (by decide +kernel : kitB "list" "str" = some false)
  | .tuple _ => (by decide +kernel : kitB "tuple" "str" = some false)
  | .dict _ => (by decide +kernel : kitB "dict" "str" = some false)
theorem kL : ∀ d : PyData, kitB (tyN d) "list" = some (match d with | .list _ => true | _ => false)
  | .none => (by decide +kernel : kitB "NoneType" "list" = some false)
  | .bool _ => (by decide +kernel : kitB "bool" "list" = some false)
  | .int _ => (by decide +kernel : kitB "int" "list" = some false)
  | .str _ => (by decide +kernel : kitB "str" "list" = some false)
  | .list _ => (by decide +kernel : kitB "list" "list" = some true)
  | .tuple _ => (by decide +kernel : kitB "tuple" "list" = some false)
  | .dict _ => (by decide +kernel : kitB "dict" "list" = some false)
theorem kT : ∀ d : PyData, kitB (tyN d) "tuple" = some (match d with | .tuple _ => true | _ => false)
  | .none => (by decide +kernel : kitB "NoneType" "tuple" = some false)
  | .bool _ => (by decide +kernel : kitB "bool" "tuple" = some false)
  | .int _ => (by decide +kernel : kitB "int" "tuple" = some false)
  | .str _ => (by decide +kernel : kitB "str" "tuple" = some false)
  | .list _ => (by decide +kernel : kitB "list" "tuple" = some false)
  | .tuple _ => (by decide +kernel : kitB "tuple" "tuple" = some true)
  | .dict _ => (by decide +kernel : kitB "dict" "tuple" = some false)
theorem kit_seq {K : PySem.W.Frag} (d : PyData) : PySem.W.kitAny K (.type (tyN d)) [.type "list", .type "tuple"] = some (isSeq d) := by
  have kl := kL d
  have kt := kT d
  cases d with
  | list _ => exact kitAny_cons (kit_ty kl) (fun h => nomatch h) (fun _ => rfl)
  | tuple _ => exact kitAny_cons (kit_ty kl) (fun _ => kitAny_cons (kit_ty kt) (fun h => nomatch h) (fun _ => rfl)) (fun h => nomatch h)
  | _ => exact kitAny_cons (kit_ty kl) (fun _ => kitAny_cons (kit_ty kt) (fun _ => rfl) (fun h => nomatch h)) (fun h => nomatch h)
/-- a def that tells yes or no of one thing, and changes nothing -/
def spB (K : PySem.W.Frag) (f : PyData → Bool) : Sp := fun vs H Q _ => ∃ (c : Addr) (v : V) (d : PyData), vs = [v] ∧ DV K c H v d ∧ ∀ H', Same H H' → Q (.bl (f d)) H'

/-! ### the bag of draws: at c a list of the list l of ints, the place, what is left of a great number -/
def Bag (c l : Addr) (n : Nat) (H : Hp) : Prop := ∃ (ns : List Int) (pt rest : Int), H c = some (.lst [.ref l, .int pt, .int rest]) ∧
  H l = some (.lst (ns.map V.int)) ∧ l ≠ c ∧ ns.length ≤ 60 ∧ 0 ≤ pt ∧ pt ≤ n ∧ 0 ≤ rest
theorem Bag.mono {c l : Addr} {n m : Nat} {H : Hp} (b : Bag c l n H) (h : n ≤ m) : Bag c l m H := by
  obtain ⟨ns, pt, rest, h1, h2, h3, h4, h5, h6, h7⟩ := b
  exact ⟨ns, pt, rest, h1, h2, h3, h4, h5, by omega, h7⟩
theorem Bag.new {c l p : Addr} {n : Nat} {H : Hp} {o : HO} (b : Bag c l n H) (h : H p = none) : Bag c l n (upd H p o) := by
  obtain ⟨ns, pt, rest, h1, h2, h3, h4, h5, h6, h7⟩ := b
  exact ⟨ns, pt, rest, by rw [upd_ne (ne_of_none h1 h)]; exact h1, by rw [upd_ne (ne_of_none h2 h)]; exact h2, h3, h4, h5, h6, h7⟩
/-- a thing that is neither of the two is written -/
theorem Bag.put {c l p : Addr} {n : Nat} {H : Hp} {o : HO} (b : Bag c l n H) (h : p ≠ c) (h' : p ≠ l) : Bag c l n (upd H p o) := by
  obtain ⟨ns, pt, rest, h1, h2, h3, h4, h5, h6, h7⟩ := b
  exact ⟨ns, pt, rest, by rw [upd_ne h.symm]; exact h1, by rw [upd_ne h'.symm]; exact h2, h3, h4, h5, h6, h7⟩
theorem Bag.ne {c l p : Addr} {n : Nat} {H : Hp} (b : Bag c l n H) (h : H p = none) : p ≠ c := by
  obtain ⟨ns, pt, rest, h1, _⟩ := b
  exact fun e => by rw [e, h1] at h; cases h
theorem Bag.ne2 {c l p : Addr} {n : Nat} {H : Hp} (b : Bag c l n H) (h : H p = none) : p ≠ l := by
  obtain ⟨ns, pt, rest, _, h1, _⟩ := b
  exact fun e => by rw [e, h1] at h; cases h
theorem Bag.same {c l : Addr} {n : Nat} {H H' : Hp} (b : Bag c l n H) (h : Same H H') : Bag c l n H' := by
  obtain ⟨ns, pt, rest, h1, h2, r⟩ := b
  exact ⟨ns, pt, rest, h _ _ h1, h _ _ h2, r⟩
end Gs

set_option Elab.async false
set_option linter.all false
set_option maxRecDepth 100000
set_option maxHeartbeats 4000000
namespace Gs
open PySem PySem.Spec PyProof.Rows L2
/-! ### data of known size: depth at most k, bulk at most n -/
structure Fine (k n : Nat) (d : PyData) : Prop where
  sh : d.showable = true
  dp : d.depth ≤ k
  lf : d.leavesShort 1100 = true
  bk : d.bulk ≤ n
structure FineS (k n : Nat) (ds : List PyData) : Prop where
  sh : PyData.showableAll ds = true
  dp : PyData.depthAll ds ≤ k
  lf : PyData.leavesShortAll 1100 ds = true
  bk : PyData.bulkAll ds ≤ n
section
variable {k k' n n' m : Nat} {d e : PyData} {ds es : List PyData}
theorem Fine.mono (h : Fine k n d) (a : k ≤ k') (b : n ≤ n') : Fine k' n' d := ⟨h.sh, Nat.le_trans h.dp a, h.lf, Nat.le_trans h.bk b⟩
theorem FineS.mono (h : FineS k n ds) (a : k ≤ k') (b : n ≤ n') : FineS k' n' ds := ⟨h.sh, Nat.le_trans h.dp a, h.lf, Nat.le_trans h.bk b⟩
theorem int_len {i : Int} (h : i.natAbs < 2 ^ 1000) : (PyData.shown (.int i)).length ≤ 1100 ∧ i.natAbs.log2 < 1920 := by
  have e : i.natAbs.log2 < 1000 := by
    by_cases z : i.natAbs = 0
    · rw [z]; decide
    · exact (Nat.log2_lt z).mpr h
  refine ⟨?_, by omega⟩
  have := int_text_length_le (a := i) (k := 1000) (by decide) e
  show (Str.ofString (toString i)).length ≤ 1100
  rw [PySem.ofString_length]; omega
theorem Fine.int {i : Int} (h : i.natAbs < 2 ^ 1000) : Fine k n (.int i) := by
  obtain ⟨a, b⟩ := int_len h
  refine ⟨?_, Nat.zero_le _, ?_, Nat.zero_le _⟩
  · simp only [PyData.showable, decide_eq_true_eq]; exact b
  · simp only [PyData.leavesShort, decide_eq_true_eq]; exact a
theorem Fine.non : Fine k n .none := ⟨rfl, Nat.zero_le _, rfl, Nat.zero_le _⟩
theorem Fine.bl {b : Bool} : Fine k n (.bool b) := ⟨rfl, Nat.zero_le _, rfl, Nat.zero_le _⟩
theorem Fine.str {x : Str} (h : ∀ c ∈ x.cps.toList, c < 16 ^ 8) (hn : x.length ≤ n) : Fine k n (.str x) := by
  refine ⟨rfl, Nat.zero_le _, ?_, hn⟩
  simp only [PyData.leavesShort, List.all_eq_true, decide_eq_true_eq]; exact h
theorem FineS.nil : FineS k n [] := ⟨rfl, Nat.zero_le _, rfl, Nat.zero_le _⟩
theorem FineS.cons (h : Fine k n d) (r : FineS k m ds) : FineS k (n + 1 + m) (d :: ds) := by
  refine ⟨?_, ?_, ?_, ?_⟩
  · simp only [PyData.showableAll, h.sh, r.sh, Bool.and_self]
  · have a := h.dp; have b := r.dp
    simp only [PyData.depthAll]; omega
  · simp only [PyData.leavesShortAll, h.lf, r.lf, Bool.and_self]
  · have a := h.bk; have b := r.bk
    simp only [PyData.bulkAll]; omega
theorem Fine.list (r : FineS k n ds) : Fine (k + 1) n (.list ds) := by
  refine ⟨?_, ?_, ?_, ?_⟩
  · simp only [PyData.showable]; exact r.sh
  · have b := r.dp; simp only [PyData.depth]; omega
  · simp only [PyData.leavesShort]; exact r.lf
  · simp only [PyData.bulk]; exact r.bk
theorem Fine.tuple (r : FineS k n ds) : Fine (k + 1) n (.tuple ds) := by
  refine ⟨?_, ?_, ?_, ?_⟩
  · simp only [PyData.showable]; exact r.sh
  · have b := r.dp; simp only [PyData.depth]; omega
  · simp only [PyData.leavesShort]; exact r.lf
  · simp only [PyData.bulk]; exact r.bk
theorem Fine.to_tuple (h : Fine k n (.list ds)) : Fine k n (.tuple ds) := by
  obtain ⟨a, b, c, d⟩ := h
  simp only [PyData.showable, PyData.depth, PyData.leavesShort, PyData.bulk] at a b c d
  refine ⟨?_, ?_, ?_, ?_⟩
  · simp only [PyData.showable]; exact a
  · simp only [PyData.depth]; exact b
  · simp only [PyData.leavesShort]; exact c
  · simp only [PyData.bulk]; exact d
theorem Fine.dict1 {a b : PyData} (h : Fine k n a) (g : Fine k m b) : Fine (k + 1) (n + m + 2) (.dict [(a, b)]) := by
  refine ⟨?_, ?_, ?_, ?_⟩
  · simp only [PyData.showable, PyData.showableKv, h.sh, g.sh, Bool.and_self]
  · have x := h.dp; have y := g.dp
    simp only [PyData.depth, PyData.depthKv]; omega
  · simp only [PyData.leavesShort, PyData.leavesShortKv, h.lf, g.lf, Bool.and_self]
  · have x := h.bk; have y := g.bk
    simp only [PyData.bulk, PyData.bulkKv]; omega
theorem Fine.dict2 {a b a' b' : PyData} (h : Fine k n a) (g : Fine k n b) (h' : Fine k n a') (g' : Fine k n b') : Fine (k + 1) (4 * n + 4) (.dict [(a, b), (a', b')]) := by
  refine ⟨?_, ?_, ?_, ?_⟩
  · simp only [PyData.showable, PyData.showableKv, h.sh, g.sh, h'.sh, g'.sh, Bool.and_self]
  · have x := h.dp; have y := g.dp; have x' := h'.dp; have y' := g'.dp
    simp only [PyData.depth, PyData.depthKv]; omega
  · simp only [PyData.leavesShort, PyData.leavesShortKv, h.lf, g.lf, h'.lf, g'.lf, Bool.and_self]
  · have x := h.bk; have y := g.bk; have x' := h'.bk; have y' := g'.bk
    simp only [PyData.bulk, PyData.bulkKv]; omega
theorem Fine.fits (h : Fine k n d) (hn : n ≤ 15000) : d.shown.length ≤ sizeLine := by
  have a := PyData.shown_le_bulk 1100 (by decide) d h.lf
  have b := h.bk
  have c : sizeLine = 16777216 := by decide
  have e : (1100 + 2) * d.bulk ≤ (1100 + 2) * 15000 := Nat.mul_le_mul_left _ (by omega)
  omega
/-- what a list of bools shows -/
theorem fine_bools : ∀ bs : List Bool, FineS 0 bs.length (bs.map PyData.bool)
  | [] => .nil
  | b :: bs => by
    have := FineS.cons (k := 0) (n := 0) (Fine.bl (b := b)) (fine_bools bs)
    exact this.mono (Nat.le_refl _) (by rw [List.length_cons]; omega)
theorem fine_ints : ∀ zs : List Int, (∀ z ∈ zs, z.natAbs < 2 ^ 1000) → FineS 0 zs.length (zs.map PyData.int)
  | [], _ => .nil
  | z :: zs, h => by
    have := FineS.cons (k := 0) (n := 0) (Fine.int (h z List.mem_cons_self)) (fine_ints zs fun y hy => h y (List.mem_cons_of_mem _ hy))
    exact this.mono (Nat.le_refl _) (by rw [List.length_cons]; omega)
end
section
variable {K : PySem.W.Frag} {c : Addr} {H : Hp}
theorem dv_bools : ∀ bs : List Bool, DVs K c H (bs.map V.bl) (bs.map PyData.bool)
  | [] => .nil
  | b :: bs => .cons (.bl b) (dv_bools bs)
end
/-- a text that Lean wrote has signs below 16 ^ 8 -/
theorem ofs_signs (s : String) : ∀ c ∈ (Str.ofString s).cps.toList, c < 16 ^ 8 := by
  rw [PyProof.Rows.signs_ofString]
  intro c hc
  obtain ⟨ch, _, rfl⟩ := List.mem_map.mp hc
  exact ch.val.toNat_lt
theorem fa_nil {k n : Nat} : ∀ d ∈ ([] : List PyData), Fine k n d := fun _ h => nomatch h
theorem fa_cons {k n : Nat} {d : PyData} {ds : List PyData} (h : Fine k n d) (r : ∀ e ∈ ds, Fine k n e) : ∀ e ∈ d :: ds, Fine k n e := fun e m => by
  rcases List.mem_cons.mp m with rfl | m
  · exact h
  · exact r e m
/-- a list of two, of three -/
theorem fine1 {k n : Nat} {a : PyData} (h : Fine k n a) : FineS k (n + 1) [a] := (FineS.cons h FineS.nil (m := 0)).mono (Nat.le_refl _) (by omega)
theorem fine2 {k n : Nat} {a b : PyData} (h : Fine k n a) (g : Fine k n b) : FineS k (2 * n + 2) [a, b] := (FineS.cons h (fine1 g)).mono (Nat.le_refl _) (by omega)
theorem fine3 {k n : Nat} {a b e : PyData} (h : Fine k n a) (g : Fine k n b) (f : Fine k n e) : FineS k (3 * n + 3) [a, b, e] := (FineS.cons h (fine2 g f)).mono (Nat.le_refl _) (by omega)
theorem fine_tos {k : Nat} {i : Int} (h : i.natAbs < 2 ^ 1000) : Fine k 1100 (.str (toString i)) := by
  refine .str (ofs_signs _) ?_
  exact (int_len h).1
theorem fine_lit {k : Nat} {x : String} (h : (Str.ofString x).length ≤ 100) : Fine k 100 (.str (Str.ofString x)) := .str (ofs_signs _) h
/-- x = e where e has one value whatever way it goes, and changes nothing that is known -/
theorem asg_val {te : TE} {tg : TG} {D : Ends} {σ : L2.St} {H : Hp} (v : V) (h1 : ∀ Q : VK, (∀ H', Same H H' → Q v H') → te σ H Q) (h2 : ∀ H', Same H H' → tg v σ H' D.nx) : tAsg te tg D σ H := h1 _ h2
theorem seq_asg {te : TE} {tg : TG} {r : TS} {D : Ends} {σ : L2.St} {H : Hp} (v : V) (h1 : ∀ Q : VK, (∀ H', Same H H' → Q v H') → te σ H Q) (h2 : ∀ H', Same H H' → tg v σ H' (r D)) : tSeq (tAsg te tg) r D σ H := h1 _ h2
end Gs

set_option Elab.async false
set_option linter.all false
set_option maxRecDepth 100000
set_option maxHeartbeats 4000000
namespace Gs
open PySem PySem.Spec PyProof.Rows L2
section
variable {P : Program} {w : World} {K : PySem.W.Frag} {mg mb : Str → Option Value} {CX : CXT} {k : Nat} {fa a : Addr} {fd : FuncData} {x : Str} {sp : Sp}
  {s₁ : Shared} {vs : List Value} {ns : List Int}
/-- the law's call, from what its def promises where no guard stands -/
theorem law_callG (KX : K.In s₁.heap) (hns : s₁.heap.Ns mainGlobals mg) (hb : s₁.heap.Ns builtinsNs mb) (hbb : ∀ x : Str, x ≠ "__name__" → mb x = bootBuiltins x)
    (hlim : s₁.heap.NoLimit) (hg : s₁.gens = #[]) (ha : s₁.heap.get? a = some { cls := .type "list", data := .seq vs.toArray }) (hi : IntsAre vs ns) (hl : ns.length ≤ sizeLine)
    (hr : Room k callerA) (F : ∀ base : Heap, K.In base → base.Ns mainGlobals mg → FnG P w K mg base CX k fa fd [x] sp)
    (hbind : ∀ (s : Shared) (u : Value), BindsTo s fd ⟨[u], []⟩ [(x, u)])
    (hsp : ∀ H : Hp, SqL K H a (ns.map V.int) → sp [.ref a] H (fun v _ => v = .bl true) fun _ _ _ => False)
    (hCX : ∀ H e s', CX [] H s₁ (fun _ _ _ => False) e s' → False) :
    codeAny (model P w) callerA (.call (.ref fa) ⟨[.ref a], []⟩)
      (fun r s' => r = .ok (.ret (.bool true)) ∧ OldK s₁.heap s'.heap ∧ s'.os = s₁.os ∧ AllBare s'.gens) s₁ := by
  have rv := vals_ints hi
  have nV := hi.length
  -- H knows nothing, or just the script, which is frozen
  have go : ∀ H : Hp, (∀ b, H b = none ∨ (b = a ∧ K.lookup b = none ∧ ∃ o ys, H b = some (.frz o (.lst ys)))) → SqL K H a (ns.map V.int) → HOk P w H s₁.heap →
      codeAny (model P w) callerA (.call (.ref fa) ⟨[.ref a], []⟩)
        (fun r s' => r = .ok (.ret (.bool true)) ∧ OldK s₁.heap s'.heap ∧ s'.os = s₁.os ∧ AllBare s'.gens) s₁ := by
    intro H hO hS hok
    have unk : ∀ {b : Addr} {o : Obj}, s₁.heap.get? b = some o → o.data ≠ .seq vs.toArray → H b = none := by
      intro b o e nd
      rcases hO b with q | ⟨q, _, _⟩
      · exact q
      · rw [q, ha] at e; cases e; exact absurd rfl nd
    have nsH : ∀ {b : Addr} {m : Str → Option Value}, s₁.heap.Ns b m → (hidT s₁.heap H).Ns b m := by
      rintro b m ⟨o, es, ep, e, d, r⟩
      exact ⟨o, es, ep, hidT_get e (unk e (by rw [d]; exact fun z => nomatch z)), d, r⟩
    have kH : K.In (hidT s₁.heap H) := by
      intro b o e
      refine hidT_get (KX b o e) ?_
      rcases hO b with q | ⟨_, q, _⟩
      · exact q
      · rw [q] at e; cases e
    have md : Mod K mg (hidT s₁.heap H) := by
      refine ⟨kH, nsH hns, ⟨mb, nsH hb, hbb⟩, ?_⟩
      obtain ⟨mc, h1, h2⟩ := hlim
      exact ⟨mc, nsH h1, h2⟩
    have e0 : Env0 P w K mg (hidT s₁.heap H) callerA [] s₁ H := by
      refine ⟨rfl, md, fun b o e => of_hidT e, Nat.le_of_eq (hidT_size _ _), trivial, ?_, hok, .of_eq hg⟩
      intro b hb
      exact absurd (show b ∈ ([] : List Addr) from hb) (List.not_mem_nil)
    have run := (F _ kH (nsH hns)).run callerA [] s₁ H ⟨[.ref a], []⟩ [.ref a] [.ref a] _ _ hr rfl e0 (hbind s₁ (.ref a)) (.cons rfl .nil) (hsp H hS)
    refine codeAny_mono run (fun r s' h => ?_)
    match r, h with
    | .error e, h => exact (hCX H e s' h).elim
    | .ok .next, h => exact h.elim
    | .ok .brk, h => exact h.elim
    | .ok .cont, h => exact h.elim
    | .ok (.ret u), h =>
      obtain ⟨v, H', os, bare, un, hok', r', q⟩ := h
      cases (show v = .bl true from q)
      cases (show u = Value.bool true from r')
      refine ⟨rfl, OldK.of_keep (fun b o e => ?_), os, bare⟩
      rcases hO b with q | ⟨_, _, ob, ys, q⟩
      · exact un.keep b o e q (fun z => absurd (show b ∈ ([] : List Addr) from z) List.not_mem_nil) List.not_mem_nil
      · obtain ⟨e1, _⟩ := hok b _ q
        obtain ⟨e2, _⟩ := hok' b _ (un.frzs b ob _ q)
        rw [e] at e1; cases e1; exact e2
  by_cases hk : K.lookup a = none
  · have at_a : (fun b => if b = a then some (HO.frz { cls := .type "list", data := .seq vs.toArray } (.lst (ns.map V.int))) else none : Hp) a = some (.frz { cls := .type "list", data := .seq vs.toArray } (.lst (ns.map V.int))) := if_pos rfl
    refine go (fun b => if b = a then some (.frz { cls := .type "list", data := .seq vs.toArray } (.lst (ns.map V.int))) else none) (fun b => ?_) (.inl (.inr ⟨_, at_a⟩)) (fun b u z => ?_)
    · by_cases e : b = a
      · exact .inr ⟨e, by rw [e]; exact hk, _, _, if_pos e⟩
      · exact .inl (if_neg e)
    · dsimp only at z
      by_cases e : b = a
      · rw [if_pos e] at z; cases z; subst e
        exact ⟨ha, by rw [List.length_map]; exact hl, vs, _, rv, ha⟩
      · rw [if_neg e] at z; cases z
  · obtain ⟨o, ho⟩ := Option.ne_none_iff_exists'.mp hk
    have e := KX a o ho
    rw [ha] at e; cases e
    refine go (fun _ => none) (fun _ => .inl rfl) (.inr ⟨_, vs.toArray, _, ho, rfl, rfl, rfl, ?_, by simpa using rv⟩) (fun b u z => nomatch z)
    rw [List.size_toArray, nV]; exact hl
end
/-- what the head leaves, from the law's promise -/
theorem walkG {l : PySem.W.OpenLaw} {k : Nat} {q : Program} {loose : List Str} {XP : (Str → Option Value) → Heap → Prop} {YP : World → Heap → Prop} {d : DefRec}
    {K : Params → PySem.W.Frag} {sp : PySem.W.Frag → Sp} {x : Str} (hn : l.most = some 63) (hdf : d.params.defaults = []) (hr : Room k callerA)
    (hY : ∀ (w : World) (h : Heap), YP w h → (K w.params).In h)
    (F : ∀ (w : World) (mg : Str → Option Value) (fa : Addr) (h : Heap), (K w.params).In h → h.Ns mainGlobals mg → mg d.name = some (.ref fa) →
      ∃ fd : FuncData, (∀ (s : Shared) (u : Value), BindsTo s fd ⟨[u], []⟩ [(x, u)]) ∧
        ∀ base : Heap, (K w.params).In base → base.Ns mainGlobals mg → FnG l.prog w (K w.params) mg base CX0 k fa fd [x] (sp (K w.params)))
    (hsp : ∀ (K : PySem.W.Frag) (H : Hp) (a : Addr) (ns : List Int), ns.length ≤ 63 → SqL K H a (ns.map V.int) → sp K [.ref a] H (fun v _ => v = .bl true) fun _ _ _ => False) :
    PySem.W.WalkO q loose XP YP l.row.toRowW d [] (fun f vs => PySem.call f vs) := by
  refine Att.attach_call hn hdf (fun w s₀ s₁ mg mb fa o pm cd doc a vs ns G Y ho hd hcd hmg hobj hints hlen hg => ?_)
  have KX := hY w _ Y
  obtain ⟨fd, hb, hF⟩ := F w mg fa _ KX G.T.g hmg
  exact law_callG KX G.T.g G.T.b G.T.builtins G.T.nolimit hg hobj hints (Nat.le_trans hlen (by decide)) hr hF hb (fun H hS => hsp _ H a ns hlen hS) (fun _ _ _ h => h)
end Gs

set_option Elab.async false
set_option linter.all false
set_option maxRecDepth 100000
set_option maxHeartbeats 4000000
/-! Layer G3: {elt for x in ..} whose elt is a tuple of ints. -/
namespace Gs
open PySem PySem.Spec PyProof.Rows L2
section
variable {X : Cx} {pins : List (Addr × Obj)} {σ : L2.St} {H : Hp} {s : Shared}
abbrev Tps := List (Addr × List Int)
/-- D.add(x), x a tuple of ints -/
theorem addT_ok {E : Value → Shared → Prop} {D x : Addr} {L : Tps} {k : List Int} {Q : Value → Shared → Prop} (I : Inv X pins σ H s) (hD : H D = some (SetTO X.prog X.w D L))
    (hL : ∀ p ∈ L, SqT X.K H p.1 (p.2.map V.int)) (hx : SqT X.K H x (k.map V.int)) (hu : X.A.units + 1 < cLine) (room : L.length + 1 < 64)
    (h : ∀ (L' : Tps) s', (k ∈ L.map (·.2) → L' = L) → (k ∉ L.map (·.2) → L'.Perm ((x, k) :: L)) → Inv X pins σ (upd H D (SetTO X.prog X.w D L')) s' → Q .none s') :
    wpAny (model X.prog X.w) X.A (call (.builtin "set.add") [.ref D, .ref x]) Q E s := by
  have R0 : SetT0 X.prog X.w s.heap D L := (I.hok D _ hD).1
  obtain ⟨es, ep, t, R⟩ := R0.full fun p hp => I.isT (hL p hp)
  obtain ⟨o, ho, hex, hd⟩ := R.ob
  have ty : s.TypeIs (.ref D) "set" := ⟨o, ho, hex.1⟩
  refine wpAny_call_entry F.slot_set_add ty F.entry_set_add ?_ (F.args_set_add_2 _ _)
  unfold Builtin.«set.add» Builtin.Frozenset.oneOther
  simp only [List.isEmpty_nil, bind_assoc]
  unfold Builtin.Frozenset.addrOf setAdd
  refine wpAny_bind (wpAny_pure ?_)
  try dsimp only
  refine wpAny_bind (wpAny_pure ?_)
  try dsimp only
  refine wpAny_bind ?_
  refine wpAny_holding ?_
  refine wpAny_bind (wpAny_pyHash_tuple (by show X.A.units + 1 < cLine; exact hu) (I.isT hx) ?_)
  refine add_at (s := { s with toks := s.toks + (k.length + 1) }) R (I.isT hx) (by show X.A.units + 1 < cLine; exact hu) room fun b h' L' es' ep' t' sb R' c1 c2 => ?_
  show wpAny _ _ (ret Value.none) _ _ _
  have there : ∃ u, h'.get? D = some u := by
    obtain ⟨o', ho', _⟩ := R'.ob
    exact ⟨o', ho'⟩
  have J := I.write (e := D) (t' := s.toks + (k.length + 1)) (x := D) (o := SetTO X.prog X.w D L') (by rw [hD]; trivial) (.inl rfl) (fun c u hc hu => (sb.2 c hc).trans hu) there (setTO_new R'.t0)
  exact wpAny_pure ⟨_, rfl, h L' _ c1 c2 J⟩
end
end Gs

set_option Elab.async false
set_option linter.all false
set_option maxRecDepth 100000
set_option maxHeartbeats 4000000
/-! Layer G4: a set comprehension over any kind of set object that adds by a rule of its own; its instance for tuples of ints; len of such a set. -/
namespace Gs
open PySem PySem.Spec PyProof.Rows L2 PpSet
/-- a kind of set objects: what stands at D, the fresh one, what adding a value asks and gives -/
structure SetKd (P : Program) (w : World) (K : PySem.W.Frag) (α : Type) where
  ob : Addr → α → HO
  zero : α
  fresh : ∀ (H : Hp) (h : Heap), ObjOk P w H (h.push { cls := .type "set", dict := none, data := .set #[] 0 (.fresh 0 0 (!w.params.followText "set-order")) }) h.objs.size (ob h.objs.size zero)
  adds : Addr → V → Hp → (Hp → Prop) → Prop
  rule : ∀ (Y : Cx), Y.prog = P → Y.w = w → Y.K = K → Y.A.units + 2 < cLine → ∀ (pins : List (Addr × Obj)) (σ : L2.St) (H : Hp) (s : Shared) (E : Value → Shared → Prop) (D : Addr) (y : V) (u : Value) (F : Hp → Prop), Inv Y pins σ H s → RelV y u → adds D y H F →
    wpAny (model P w) Y.A (call (.builtin "set.add") [.ref D, u]) (fun _ s' => ∃ H', Inv Y pins σ H' s' ∧ F H') E s
def tSetC {P : Program} {w : World} {K : PySem.W.Frag} {α : Type} (Z : SetKd P w K α) (wi : TI) (g : TG) (tt : TT) (te : TE) (vs : List Nat) : TE := fun σ H Q => wi σ H fun J H1 => ∀ D, H1 D = none →
  ∃ W : Nat → Nat → Hp → Prop, (∃ m, W 0 m (upd H1 D (Z.ob D Z.zero))) ∧ ∀ i m H, W i m H → (J.stop i H ∧ Q (.ref D) H) ∨
    (J.go i H ∧ ∃ Nx : Hp → Prop, (∀ H', Nx H' → ∃ m', m' < m ∧ W (i + 1) m' H') ∧ ∀ x H', J.yld i H x H' → g x (wipe σ vs) H' fun σ2 H2 => wipe σ2 vs = wipe σ vs ∧ tt σ2 H2 fun b H3 => if b = true then te σ2 H3 fun y H4 => Z.adds D y H4 Nx else Nx H3)
section
variable {X : Cx}
theorem setc_run {α : Type} {pins : List (Addr × Obj)} {s : Shared} {σ : L2.St} {H : Hp} {Q : VK} {elt tg iter : Expr} {ifs : List Expr} {scope : Scope} {own : List (PySem.Str × Nat)} {pos pos' : Pos} {wi : TI} {g : TG} {tt : TT} {te : TE} {use : Option (Value → Sem Unit)}
    {Qf : Value → Shared → Prop} (Z : SetKd X.prog X.w X.K α) (hu : X.A.units + 2 < cLine) (calm : X.calm = true) (nod : X.N.Nodup) (I : Inv X pins σ H s) (pi : PI X tg iter wi) (bok : BlkOk X.N X.env.scope scope own)
    (pg : ∀ (s : Shared) (H : Hp) (C : Addr) (cl : List (PySem.Str × Addr)) (fp : List Addr), PG (X.blk s H scope (compEnvC scope cl C X.env) fp) tg g)
    (pt : ∀ (s : Shared) (H : Hp) (C : Addr) (cl : List (PySem.Str × Addr)) (fp : List Addr), PTs (X.blk s H scope (compEnvC scope cl C X.env) fp) ifs tt)
    (pe : ∀ (s : Shared) (H : Hp) (C : Addr) (cl : List (PySem.Str × Addr)) (fp : List Addr), PE (X.blk s H scope (compEnvC scope cl C X.env) fp) elt te)
    (plain : ∀ x, foldedSetIterable iter X.env x = pure x) (h : tSetC Z wi g tt te (own.map (·.2)) σ H Q)
    (back : ∀ D C s' m H', Inv X pins σ H' s' → Q (.ref D) H' → s'.heap.Ns C m → FpOk X pins H' C → compPost (model X.prog X.w) X.A X.xe use Qf (.ref D) C (.ok .next) s') :
    wpAny (model X.prog X.w) X.A (comprehension (.SetComp elt [⟨tg, iter, ifs, 0⟩] scope pos) scope X.env pos' (newSet (.type "set")) false (eval iter X.env) use) Qf X.xe s := by
  have cells : ∀ q ∈ scope.names, q.2 = .free → ∃ c, X.env.cells.lookup q.1 = some c := by
    intro q hq e
    cases bok.free q hq e with
    | inl k => exact I.ok.has _ (Or.inl k)
    | inr k => exact I.ok.has _ (Or.inr k)
  refine wpAny_comprehension_free (use := use) rfl plain (closure_ok cells) bok.kind (fun q hq e => (bok.uniq q hq).trans (congrArg some e)) (thn (pi.run pins s σ H _ I h) fun _ s1 hx => thn hx fun _ s2 got => ?_)
  obtain ⟨it, fp, tn, J, H2, rfl, I2, T, st2, f2, q⟩ := got
  refine newSet_ok (newEnv_comp ?_)
  obtain ⟨D, hD⟩ : ∃ D, D = s2.heap.objs.size := ⟨_, rfl⟩
  have free : H2 D = none := I2.hok.fresh (by rw [hD]; exact Nat.le_refl _)
  obtain ⟨W, ⟨m0, w0⟩, turn⟩ := q D free
  obtain ⟨s3, hs3⟩ : ∃ s3 : Shared, s3 = { s2 with heap := s2.heap.push { cls := .type "set", dict := none, data := .set #[] 0 (.fresh 0 0 (!X.w.params.followText "set-order")) } } := ⟨_, rfl⟩
  have hp3 : ∀ b o, s2.heap.get? b = some o → s3.heap.get? b = some o := fun b o e => by rw [hs3]; exact Heap.get?_push_of_some _ e
  have sz3 : s3.heap.objs.size = s2.heap.objs.size + 1 := by rw [hs3]; exact Heap.size_push _ _
  have I3 : Inv X pins σ (upd H2 D (Z.ob D Z.zero)) s3 := by
    rw [hs3]
    refine I2.laid (t' := s2.toks) (fun b o e => Heap.get?_push_of_some _ e) (by rw [hD]; exact Nat.le_refl _) ?_
    rw [hD]
    exact Z.fresh _ _
  have below : ∀ b ∈ fp, b < s2.heap.objs.size := by
    intro b hb
    obtain ⟨o, e, _⟩ := T.obj _ _ st2 b hb
    exact Heap.lt_size e
  have fps : ∀ b ∈ fp, FpOk X pins (upd H2 D (Z.ob D Z.zero)) b ∧ b < s3.heap.objs.size := by
    intro b hb
    have lt := below b hb
    refine ⟨⟨(upd_ne (by rw [hD]; exact Nat.ne_of_lt lt)).trans (f2 b hb).1, (f2 b hb).2⟩, by rw [sz3]; exact Nat.lt_succ_of_lt lt⟩
  have st3 : tn 0 s3.heap := T.keep _ _ _ st2 fun b _ o e => hp3 b o e
  have I4 := block_start I3 bok nod fps
  have pg := pg s3 (upd H2 D (Z.ob D Z.zero)) s3.heap.objs.size (cellsFrom (s3.heap.objs.size + 1) scope.names (cloFrom X.env.cells scope.names [])) fp
  have pt := pt s3 (upd H2 D (Z.ob D Z.zero)) s3.heap.objs.size (cellsFrom (s3.heap.objs.size + 1) scope.names (cloFrom X.env.cells scope.names [])) fp
  have pe := pe s3 (upd H2 D (Z.ob D Z.zero)) s3.heap.objs.size (cellsFrom (s3.heap.objs.size + 1) scope.names (cloFrom X.env.cells scope.names [])) fp
  have fresh : ∀ b ∈ fp, (upd H2 D (Z.ob D Z.zero)) b = none := fun b hb => (fps b hb).1.1
  rw [← hD, ← hs3]
  show codeAny _ _ (.compStart (.SetComp elt [⟨tg, iter, ifs, 0⟩] scope pos) 0 (.ref it) (.ref D) (compEnvC scope (cellsFrom (s3.heap.objs.size + 1) scope.names (cloFrom X.env.cells scope.names [])) s3.heap.objs.size X.env)) (compPost (model X.prog X.w) X.A X.xe use Qf (.ref D) s3.heap.objs.size) _
  revert I4 pg pt pe
  generalize hce : compEnvC scope (cellsFrom (s3.heap.objs.size + 1) scope.names (cloFrom X.env.cells scope.names [])) s3.heap.objs.size X.env = ce
  intro I4 pg pt pe
  have loc : ce.locals = s3.heap.objs.size := by rw [← hce]; rfl
  generalize upd H2 D (Z.ob D Z.zero) = H3 at I3 I4 pg pt pe w0 fresh fps
  obtain ⟨s4, hs4⟩ : ∃ s4 : Shared, s4 = { s3 with heap := pushCells (s3.heap.push { cls := .type "dict", data := .dict #[] }) scope.names } := ⟨_, rfl⟩
  rw [← hs4] at I4 ⊢
  have st4 : tn 0 s4.heap := T.keep _ _ _ st3 fun b _ o e => by rw [hs4]; exact pushCells_keeps _ _ _ _ (Heap.get?_push_of_some _ e)
  have hold : ∀ {σ' : L2.St} {H' : Hp} {s' : Shared}, Inv (X.blk s3 H3 scope ce fp) [] σ' H' s' → (∀ b ∈ fp, H' b = none) → ∀ b ∈ fp, FpOk (X.blk s3 H3 scope ce fp) [] H' b := by
    intro σ' H' s' I' hn b hb
    exact ⟨hn b hb, (I'.ok.exf b hb).1, I'.ok.exfs b hb, .inl hb, fun x c e => (I'.ok.exf b hb).2 x c e, fun p hp => absurd (show p ∈ ([] : List (Addr × Obj)) ++ [] from hp) (by simp)⟩
  have loop : codeAny (model X.prog X.w) X.A (.compLoop (.SetComp elt [⟨tg, iter, ifs, 0⟩] scope pos) 0 (.ref it) (.ref D) ce) (compPost (model X.prog X.w) X.A X.xe use Qf (.ref D) s3.heap.objs.size) s4 := by
    refine compLoopS_any (fun n s' => ∃ i H', Inv (X.blk s3 H3 scope ce fp) [] (wipe σ (own.map (·.2))) H' s' ∧ tn i s'.heap ∧ (∀ b ∈ fp, H' b = none) ∧ W i n H') ?_ m0 ⟨0, H3, I4, st4, fresh, w0⟩
    rintro n s5 ⟨i, H5, I5, st5, n5, w5⟩
    cases turn i n H5 w5 with
    | inl fin =>
      obtain ⟨stop, qq⟩ := fin
      refine thnF (T.done (X.blk s3 H3 scope ce fp) rfl rfl rfl calm i [] s5 _ H5 (fun _ _ => False) I5 (hold I5 n5) st5 stop) fun r s6 ⟨hr, I6⟩ => ?_
      subst hr
      have I7 : Inv X pins σ H5 s6 := I3.call' (ch := fp) I6.os I6.base I6.hok I6.bare fun b hb => ⟨(fps b hb).1.2.2.2.1, (fps b hb).1.2.1, (fps b hb).1.2.2.2.2.1, (fps b hb).1.2.2.2.2.2⟩
      have gone : H5 s3.heap.objs.size = none := by
        have z : H5 ce.locals = none := I6.free
        rwa [loc] at z
      obtain ⟨m, hn, _⟩ := I6.loc
      have hn : s6.heap.Ns ce.locals m := hn
      rw [loc] at hn
      exact back D s3.heap.objs.size s6 m H5 I7 qq hn (I3.fpOk (Nat.le_refl _) gone)
    | inr more =>
      obtain ⟨go, Nx, hNx, step⟩ := more
      refine thnF (T.item (X.blk s3 H3 scope ce fp) rfl rfl rfl calm i [] s5 _ H5 (fun _ _ => False) I5 (hold I5 n5) st5 go) fun r s6 ⟨u, hr, h6⟩ => ?_
      subst hr
      refine thnF h6 fun _ s7 ⟨x, H7, I7, r7, y7, st7, n7⟩ => ?_
      have I7p := I7.pinned (hold I7 n7) (T.obj _ _ st7)
      refine thnF (pg.run _ s7 _ H7 x u _ I7p r7 (step x H7 y7)) fun _ s8 ⟨σ8, H8, I8, hw8, q8⟩ => ?_
      refine thnF (pt.run _ s8 σ8 H8 _ I8 q8) fun b s9 ⟨H9, I9, q9⟩ => ?_
      have again : ∀ {s' : Shared} {H' : Hp}, Inv (X.blk s3 H3 scope ce fp) ([] ++ pinsAt fp s7.heap) σ8 H' s' → Nx H' →
          ∃ m, m < n ∧ ∃ i H', Inv (X.blk s3 H3 scope ce fp) [] (wipe σ (own.map (·.2))) H' s' ∧ tn i s'.heap ∧ (∀ b ∈ fp, H' b = none) ∧ W i m H' := by
        intro s' H' I' nx
        obtain ⟨m', hm, w'⟩ := hNx H' nx
        have pinned : ∀ b ∈ fp, ∀ o, s7.heap.get? b = some o → s'.heap.get? b = some o ∧ H' b = none := by
          intro b hb o e
          have z := I'.pin (b, o) (List.mem_append_right _ (List.mem_append_right _ (mem_pinsAt hb e)))
          exact ⟨z.1, z.2.1⟩
        refine ⟨m', hm, i + 1, H', (I'.unpinned (pins := [])).weak (by rw [← hw8, wipe_length]) (fun j v e => ?_), T.keep _ _ _ st7 (fun b hb o e => (pinned b hb o e).1), (fun b hb => ?_), w'⟩
        · rw [← hw8] at e
          exact (wipe_some e).1
        · obtain ⟨o, e, _⟩ := T.obj _ _ st7 b hb
          exact (pinned b hb o e).2
      cases b with
      | false =>
        rw [if_neg Bool.false_ne_true] at q9 ⊢
        exact again I9 q9
      | true =>
        rw [if_pos rfl] at q9 ⊢
        refine thnF (pe.run _ s9 σ8 H9 _ I9 q9) fun z s10 ⟨yv, H10, I10, r10, ad⟩ => ?_
        refine wpAny_mono (Z.rule (X.blk s3 H3 scope ce fp) rfl rfl rfl hu _ σ8 H10 s10 _ D yv z Nx I10 r10 ad) (fun _ s11 ⟨H11, I11, nx⟩ => again I11 nx) fun _ _ e => e
  exact codeAny_compStart_set loop (T.self X.A 0 _ _ _ st4 loop)
/-- {elt for tg in iter ..} -/
theorem pe_setc {α : Type} {elt tg iter : Expr} {ifs : List Expr} {scope : Scope} {own : List (PySem.Str × Nat)} {pos : Pos} {wi : TI} {g : TG} {tt : TT} {te : TE} (Z : SetKd X.prog X.w X.K α) (hu : X.A.units + 2 < cLine) (calm : X.calm = true) (nod : X.N.Nodup)
    (pi : PI X tg iter wi) (bok : BlkOk X.N X.env.scope scope own) (pg : ∀ (s : Shared) (H : Hp) (C : Addr) (cl : List (PySem.Str × Addr)) (fp : List Addr), PG (X.blk s H scope (compEnvC scope cl C X.env) fp) tg g)
    (pt : ∀ (s : Shared) (H : Hp) (C : Addr) (cl : List (PySem.Str × Addr)) (fp : List Addr), PTs (X.blk s H scope (compEnvC scope cl C X.env) fp) ifs tt)
    (pe : ∀ (s : Shared) (H : Hp) (C : Addr) (cl : List (PySem.Str × Addr)) (fp : List Addr), PE (X.blk s H scope (compEnvC scope cl C X.env) fp) elt te) (plain : ∀ x, foldedSetIterable iter X.env x = pure x := by intro _; rfl) :
    PE X (.SetComp elt [⟨tg, iter, ifs, 0⟩] scope pos) (tSetC Z wi g tt te (own.map (·.2))) := by
  constructor
  intro pins s σ H Q I h
  rw [eval_SetComp]
  refine setc_run Z hu calm nod I pi bok pg pt pe plain h fun D C s' m H' I' q hn f => ⟨m, hn, fun h2 sb => ?_⟩
  obtain ⟨f0, f1, f2, f3, f4, f5⟩ := f
  exact ⟨.ref D, H', I'.turned (t' := s'.toks) (fun b o hb e => (sb.2 b hb).trans e) f0 f1 f3 f4 f5, rfl, q⟩
end
end Gs
namespace Gs
open PySem PySem.Spec PyProof.Rows L2 PpSet
/-- sets of tuples of ints -/
def tupKd (P : Program) (w : World) (K : PySem.W.Frag) : SetKd P w K Tps where
  ob := fun D L => SetTO P w D L
  zero := []
  fresh := fun H h => setTO_new (setTR_fresh (Heap.get?_push_size _ rfl)).t0
  adds := fun D y H F => ∃ (x : Addr) (k : List Int) (L : Tps), y = .ref x ∧ H D = some (SetTO P w D L) ∧ (∀ p ∈ L, SqT K H p.1 (p.2.map V.int)) ∧ SqT K H x (k.map V.int) ∧ L.length + 1 < 64 ∧
    ∀ L' : Tps, (k ∈ L.map (·.2) → L' = L) → (k ∉ L.map (·.2) → L'.Perm ((x, k) :: L)) → F (upd H D (SetTO P w D L'))
  rule := by
    rintro Y rfl rfl rfl hu pins σ H s E D y u F I r ⟨x, k, L, rfl, hD, hL, hx, room, q⟩
    cases (show u = Value.ref x from r)
    exact addT_ok I hD hL hx (by omega) room fun L' s' c1 c2 J => ⟨_, J, q L' c1 c2⟩
def rLenT (K : PySem.W.Frag) (P : Program) (w : World) : List V → Hp → VK → Prop := fun xs H Q => ∃ (a : Addr) (L : Tps), xs = [.ref a] ∧ H a = some (SetTO P w a L) ∧ (∀ p ∈ L, SqT K H p.1 (p.2.map V.int)) ∧ Q (.int L.length) H
theorem call_lenT {X : Cx} : CallR X (.builtin "len") (rLenT X.K X.prog X.w) := by
  intro pins s σ H xs us Q I r h
  obtain ⟨a, L, rfl, ha, hL, q⟩ := h
  rw [Vals.ref1 r]
  have R0 : SetT0 X.prog X.w s.heap a L := (I.hok a _ ha).1
  obtain ⟨es, ep, t, R⟩ := R0.full fun p hp => I.isT (hL p hp)
  obtain ⟨o, ho, hex, hd⟩ := R.ob
  have hn := R.size
  have few := R.few
  exact call_len_set ho hex hd R.fits (by rw [hn]; omega) ⟨.int L.length, H, I.tok _, ⟨_, by rw [hn]⟩, q⟩
end Gs

set_option Elab.async false
set_option linter.all false
set_option maxRecDepth 100000
set_option maxHeartbeats 4000000
/-! Layer G5: a written dict with text keys, walked. -/
namespace Gs
open PySem PySem.Spec PyProof.Rows L2
/-- at d: a written dict that holds kvs, in this order -/
structure WD (K : PySem.W.Frag) (w : World) (d : Addr) (kvs : List (Str × V)) : Prop where
  ex : ∃ (es : Array DictEntry) (n : Nat), KDict K w d es n ∧ es.size = kvs.length ∧ ∀ (i : Nat) k v, kvs[i]? = some (k, v) → ∃ en t, es[i]? = some en ∧ en.key = .str k t ∧ RelV v en.val
def Itw (ks : List Str) : It := ⟨fun i _ => i < ks.length, fun i H x H' => H' = H ∧ ∃ k, ks[i]? = some k ∧ x = .str k, fun i _ => ks.length ≤ i⟩
section
variable {P : Program} {w : World} {K : PySem.W.Frag} {tg : Expr} {d : Addr} {es : Array DictEntry} {n : Nat} {ks : List Str}
theorem turn_wkeys (it : Addr) (D : KDict K w d es n) (hz : es.size = ks.length) (hk : ∀ (i : Nat) k, ks[i]? = some k → ∃ en t, es[i]? = some en ∧ en.key = .str k t) :
    Turn P w K tg (Itw ks) [it] it (fun i h => h.IsKeyIter it d i ks.length n) where
  mem := List.mem_cons_self
  obj := by
    intro i h st b hb
    obtain rfl : b = it := List.mem_singleton.mp hb
    obtain ⟨oi, e, c, dd⟩ := st
    exact ⟨oi, e, fun v z => by rw [dd] at z; cases z⟩
  keep := fun i h h' st k => st.at fun oi e => k it List.mem_cons_self oi e
  item := by
    rintro X rfl rfl rfl hc i pins s σ H E I hf st hi
    obtain ⟨f0, f1, f2, f3, f4, f5⟩ := hf it List.mem_cons_self
    have hi : i < ks.length := hi
    obtain ⟨en, t, hen, hkey⟩ := hk i _ (List.getElem?_eq_getElem hi)
    refine next_key_item st (I.kIn _ _ D.at_) rfl hz hen fun h' st' sb => ?_
    have I1 : Inv X pins σ H { s with heap := h' } := I.turned (t' := s.toks) (fun b ob hb e => (sb.2 b hb).trans e) f0 f1 f3 f4 f5
    obtain ⟨oi, e, c, dd⟩ := id st'
    exact ⟨en.key, rfl, go_of (s := { s with heap := h' }) e c dd (by decide) ⟨.str ks[i], H, I1, ⟨t, hkey⟩, ⟨rfl, _, List.getElem?_eq_getElem hi, rfl⟩, st', fun b hb => (hf b hb).1⟩⟩
  done := by
    rintro X rfl rfl rfl hc i pins s σ H E I hf st hi
    obtain ⟨f0, f1, f2, f3, f4, f5⟩ := hf it List.mem_cons_self
    exact next_key_end (I.ok.hd hc) st (I.kIn _ _ D.at_) rfl hz hi fun h' eb => ⟨rfl, I.turned (t' := s.toks) (fun b ob hb e => eb b ob hb e) f0 f1 f3 f4 f5⟩
  self := fun A i s Q E st h => wpAny_pyIter_keyiter st h
def iWKeys (K : PySem.W.Frag) (w : World) (td : TE) : TI := fun σ H R => td σ H fun x H1 => ∃ d kvs, x = .ref d ∧ WD K w d kvs ∧ R (Itw (kvs.map (·.1))) H1
/-- for k in D, D a written dict -/
theorem pi_wkeys {X : Cx} {e : Expr} {td : TE} (he : PE X e td) : PI X tg e (iWKeys X.K X.w td) := by
  constructor
  intro pins s σ H R I h
  refine thn (he.run pins s σ H _ I h) fun u s1 ⟨x, H1, I1, rx, d, kvs, ex, ⟨es, n, D, hz, hk⟩, q⟩ => ?_
  subst ex
  obtain rfl : u = Value.ref d := rx
  have hz : es.size = (kvs.map (·.1)).length := by rw [hz, List.length_map]
  have hk : ∀ (i : Nat) k, (kvs.map (·.1))[i]? = some k → ∃ en t, es[i]? = some en ∧ en.key = .str k t := by
    intro i k e
    rw [List.getElem?_map] at e
    cases z : kvs[i]? with
    | none => rw [z] at e; cases e
    | some q =>
      rw [z] at e
      obtain ⟨en, t, h1, h2, _⟩ := hk i q.1 q.2 z
      cases e
      exact ⟨en, t, h1, h2⟩
  refine iter_keys D.low (I1.kIn _ _ D.at_) ⟨rfl, rfl, rfl⟩ rfl (pi_one (tk := s1.toks) I1 _ (turn_wkeys _ D hz hk) ⟨_, Heap.get?_push_size _ rfl, rfl, ?_⟩ q)
  rw [hz] <;> rfl
theorem walk_wkeys {ks : List Str} : Walk (Itw ks) ks.length (fun _ => True) (fun i H x H' => H' = H ∧ ∃ k, ks[i]? = some k ∧ x = .str k) :=
  ⟨fun i H hi _ => hi, fun H _ => Nat.le_refl _, fun i H x H' _ _ y => y⟩
theorem isStr_str {k z : Str} {t : Tok} : (Value.str k t).isStr z = decide (k = z) := by
  show (k == z) = _
  by_cases h : k = z
  · subst h; simp
  · rw [decide_eq_false h]; simpa using h
/-- what it tells of a key -/
theorem WD.tells {kvs : List (Str × V)} (D : WD K w d kvs) (z : Str) : (∃ (i : Nat) (v : V) (u : Value), kvs[i]? = some (z, v) ∧ PySem.W.nsIn K d z = some (some u) ∧ RelV v u) ∨ ((∀ v, (z, v) ∉ kvs) ∧ PySem.W.nsIn K d z = some none) := by
  obtain ⟨es, n, ⟨at_, lit, low⟩, hz, hk⟩ := D.ex
  have e0 : PySem.W.nsIn K d z = (match es.toList.find? (·.key.isStr z) with
      | some e => some (some e.val)
      | none => if es.toList.any (·.refKey) then none else some none) := by
    unfold PySem.W.nsIn
    rw [at_] <;> rfl
  cases hf : es.toList.find? (·.key.isStr z) with
  | some e =>
    left
    have hm := List.mem_of_find?_eq_some hf
    have hq := List.find?_some hf
    obtain ⟨i, hi⟩ := List.getElem?_of_mem hm
    rw [Array.getElem?_toList] at hi
    have hl : i < kvs.length := by
      have : i < es.size := (Array.getElem?_eq_some_iff.mp hi).1
      omega
    obtain ⟨en, t, h1, h2, h3⟩ := hk i kvs[i].1 kvs[i].2 (List.getElem?_eq_getElem hl)
    rw [hi] at h1
    cases h1
    have hq : e.key.isStr z = true := hq
    rw [h2, isStr_str] at hq
    have ez : kvs[i].1 = z := of_decide_eq_true hq
    refine ⟨i, kvs[i].2, e.val, by rw [List.getElem?_eq_getElem hl, ← ez], ?_, h3⟩
    rw [e0, hf]
  | none =>
    right
    refine ⟨fun v hm => ?_, ?_⟩
    · obtain ⟨i, hi⟩ := List.getElem?_of_mem hm
      obtain ⟨en, t, h1, h2, h3⟩ := hk i z v hi
      have := List.find?_eq_none.mp hf en (by
        rw [← Array.getElem?_toList] at h1
        exact List.mem_of_getElem? h1)
      rw [h2, isStr_str] at this
      exact this (decide_eq_true rfl)
    · rw [e0, hf]
      have : es.toList.any (·.refKey) = false := by
        rw [List.any_eq_false]
        intro e he
        obtain ⟨x, t, h1, _⟩ := lit.all e he
        unfold DictEntry.refKey
        rw [h1]
        exact Bool.false_ne_true
      rw [this] <;> rfl
end
end Gs
namespace Gs
open PySem PySem.Spec PyProof.Rows L2
theorem pg_or {X : Cx} {e : Expr} {t u : TG} (h1 : PG X e t) (h2 : PG X e u) : PG X e (fun v σ H Q => t v σ H Q ∨ u v σ H Q) :=
  ⟨fun pins s σ H v w Q I r h => h.elim (fun h => h1.run pins s σ H v w Q I r h) fun h => h2.run pins s σ H v w Q I r h⟩
end Gs

set_option Elab.async false
set_option linter.all false
set_option maxRecDepth 100000
set_option maxHeartbeats 4000000
/-! Layer G12: == and != by an own __eq__ whatever it answers; str by an own __str__; a staticmethod off its class. -/
namespace Gs
open PySem PySem.Spec PyProof.Rows L2
theorem rel_ref (a : Addr) : L2.RelV (.ref a) (.ref a) := rfl
theorem rel_bl (b : Bool) : L2.RelV (.bl b) (.bool b) := rfl
theorem rel_str (z : Str) (t : Tok) : L2.RelV (.str z) (.str z t) := ⟨t, rfl⟩
theorem rel_ni {v : V} : ¬ L2.RelV v Value.notImplemented := by
  cases v <;> intro h
  · cases h
  · cases h
  · obtain ⟨_, h⟩ := h; cases h
  · obtain ⟨_, h⟩ := h; cases h
  · obtain ⟨_, h⟩ := h; cases h
  · obtain ⟨_, h⟩ := h; cases h
  · cases h
  · cases h
section
variable {X : Cx} {CX : CXT} {k : Nat} {C f : Addr} {fd : FuncData} {ps : List Str} {sp : Sp} {E : XK}
/-- a def that is called below the running body, its promise told there -/
theorem run_sub {A : Around} {pins : List (Addr × Obj)} {σ : L2.St} {H : Hp} {s : Shared} {Q : VK} {us : List Value} {vs : List V} (F : FnOk X.prog X.w X.K X.mg X.base CX k f fd ps sp)
    (hr : Room k A) (hA : A.frames = X.A.frames) (hb : Binds X.K fd ps []) (hx : Passes CX X E) (I : Inv X pins σ H s) (r : Vals vs us) (h : sp vs H Q E) :
    wpAny (model X.prog X.w) A (call (.ref f) us) (EP X pins σ Q) X.xe s := by
  have n : us.length = ps.length := r.length.symm.trans (F.len _ _ _ _ h)
  have b := hb s us I.kIn (by rw [List.append_nil]; exact n)
  rw [List.append_nil] at b
  have z := I.env0
  have z' : Env0 X.prog X.w X.K X.mg X.base A X.stack s H := ⟨by rw [hA]; exact z.frames, z.mod, z.bs, z.bsz, z.funs, z.frf, z.hok, z.bare⟩
  refine wpAny_call (codeAny_mono (F.run A X.stack s H ⟨us, []⟩ us vs Q E hr z' b r h) (fun q s' hq => ?_))
  match q, hq with
  | .error e, hq => exact hx pins σ H s e s' I hq
  | .ok (.ret u), hq => exact I.after hq
  | .ok .next, hq => exact hq.elim
  | .ok .brk, hq => exact hq.elim
  | .ok .cont, hq => exact hq.elim
/-- what an own class needs that == goes by its own def -/
structure OwnC (K : PySem.W.Frag) (C e : Addr) : Prop where
  eq : PySem.W.findIn K (.ref C) "__eq__" = some (some (.ref e))
  fe : PySem.W.isFn K (.ref e) = true
  ne : PySem.W.findIn K (.ref C) "__ne__" = some (some (.builtin "object.__ne__"))
  mo : PySem.W.mroIn K C (.type "object") = some true
/-- what an own class needs that str goes by its own def -/
structure OwnS (K : PySem.W.Frag) (C g : Addr) : Prop where
  st : PySem.W.findIn K (.ref C) "__str__" = some (some (.ref g))
  fs : PySem.W.isFn K (.ref g) = true
/-- what an own class needs that its instances are looked at by isinstance -/
structure TyC (K : PySem.W.Frag) (C : Addr) : Prop where
  cl : Cls K C
  ha : PySem.W.findIn K (.ref C) "__class__" = some (some (.builtin "object.__class__"))
  hn : PySem.W.specialIn K (.builtin "object.__class__") "__get__" = some (some (.builtin "getset_descriptor.__get__"))
  tk : PySem.W.takesIn K (.builtin "object.__class__") = some true
  mo : PySem.W.mroIn K C (.type "object") = some true
theorem TyC.ty {K : PySem.W.Frag} {C a dx : Addr} {fs : List (Str × V)} {H : Hp} (h : TyC K C) (e : H a = some (.ins C dx fs)) : TyX K H (.ref a) (.ref C) := .base (.ins e h.cl h.ha h.hn h.tk h.mo)
theorem nf_own {K : PySem.W.Frag} {C : Addr} : PySem.W.notFirst K C (.ref C) = true := by simp [PySem.W.notFirst]
def rOwn (K : PySem.W.Frag) (C : Addr) (sp : Sp) (E : XK) : R2 := fun x y H Q => ∃ (a dx : Addr) (fs : List (Str × V)) (t : Value), x = .ref a ∧ H a = some (.ins C dx fs) ∧ TyX K H y t ∧
  PySem.W.notFirst K C t = true ∧ sp [.ref a, y] H Q E
theorem op_eqOwn (O : OwnC X.K C f) (F : FnOk X.prog X.w X.K X.mg X.base CX k f fd ps sp) (hr : Room k X.A) (hb : Binds X.K fd ps []) (hx : Passes CX X E) : OpR X (compareOp .Eq) (rOwn X.K C sp E) := by
  intro pins s σ H x y v u Q I rx ry h
  obtain ⟨a, dx, fs, t, rfl, ha, ty, nf, q⟩ := h
  cases (show v = Value.ref a from rx)
  obtain ⟨_, J0, _⟩ := ins_get I.hok ha
  obtain ⟨_, J, _⟩ := J0.look
  obtain ⟨_, hF⟩ := I.fr
  obtain ⟨_, kx, hp, _⟩ := kit_of I ry ty
  refine PySem.W.cmp_K (op := .Eq) (tb := t) hr.units0 hF I.ok.mod.kin J (kx.ty _ _ I.kIn hp) nf O.eq O.fe ?_
  refine wpAny_mono (run_sub F hr rfl hb hx I (.cons (rel_ref a) (.cons ry .nil)) q) (fun z s' hz => ?_) fun _ _ e => e
  obtain ⟨v', H', I', rv, qq⟩ := hz
  cases z with
  | notImplemented => exact (rel_ni rv).elim
  | _ => exact ⟨v', H', I', rv, qq⟩
/-! the slot object.__ne__, off an own class -/
section
variable {prog : Program} {w : World} {M : Model} {A : Around} {EE : Value → Shared → Prop} {s : Shared} {K : PySem.W.Frag} {x e : Addr} {b tb : Value} {ox : Obj} {od : Option Obj}
theorem ne_entry (hu : A.units < cLine) (X : K.In s.heap) (I : PySem.W.InstAt s.heap x ox C od) (O : OwnC K C e) {Q : Fin → Shared → Prop}
    (h : wpAny (model prog w) A (call (.ref e) [.ref x, b]) (fun v s' => ∃ r, v = .bool r ∧ Q (.done (.ret (.bool (!r)))) s') EE s) :
    wpAny (model prog w) A (Builtin.«object.__ne__» ⟨[.ref x, b], []⟩) Q EE s := by
  have step : wpAny (model prog w) A (callSpecialIfBound? (.ref x) (Str.ofString "__eq__") [b]) (fun r s' => ∃ t, r = some (.bool t) ∧ Q (.done (.ret (.bool (!t)))) s') EE s :=
    PySem.W.ifBound_K X I O.eq O.fe (wpAny_mono h (fun v s' ⟨r, ev, q⟩ => ⟨r, by rw [ev], q⟩) fun _ _ z => z)
  unfold Builtin.«object.__ne__»
  repeat (first
    | with_reducible refine wpAny_cRoomFor hu ?_
    | (refine wpAny_bind (m := callSpecialIfBound? (.ref x) (Str.ofString "__eq__") [b]) (wpAny_mono step (fun r s' hr => by
        obtain ⟨t, rfl, q⟩ := hr
        repeat (first | exact q | exact wpAny_pure q | exact wpAny_truthy_bool q | (refine wpAny_bind (m := truthy (.bool _)) (wpAny_truthy_bool ?_)) | wp_step)) fun _ _ z => z))
    | wp_step)
theorem ne_bound {args : List Value} {Q : Option Value → Shared → Prop} (X : K.In s.heap) (I : PySem.W.InstAt s.heap x ox C od) (O : OwnC K C e)
    (h : wpAny M A (call (.builtin "object.__ne__") (.ref x :: args)) (fun v => Q (some v)) EE s) : wpAny M A (callSpecialIfBound? (.ref x) "__ne__" args) Q EE s := by
  have rest : wpAny M A (call (.builtin "object.__ne__") ([.ref x] ++ args) >>= fun v => pure (some v)) Q EE s := wpAny_bind (wpAny_mono h (fun _ _ z => wpAny_pure z) fun _ _ z => z)
  simp only [callSpecialIfBound?, bindSpecialIfBound?]
  refine wpAny_holding (wpAny_bind (wpAny_bind (wpAny_bind (I.type.here ((PySem.W.looks_findIn X O.ne).here ?_)))))
  refine wpAny_bind (wpAny_askSetting (wpAny_ite ?_))
  split
  · exact wpAny_bind (wpAny_of_eq (F.cmp_object.ne.bind _) (wpAny_pure (by exact rest)))
  · exact wpAny_tryCatch (wpAny_bind (wpAny_of_eq (F.cmp_object.ne.bind _) (wpAny_pure (by exact rest))))
theorem ne_rich {L : Addr} {h₀ : Heap} {m : Str → Option Value} (hu : A.units + 1 < cLine) (X : K.In s.heap) (I : PySem.W.InstAt s.heap x ox C od) (O : OwnC K C e)
    (hb : PySem.W.Looks (model prog w) s.heap (typeOf b) tb) (hn : PySem.W.notFirst K C tb = true) {Q : Value → Shared → Prop}
    (h : wpAny (model prog w) A.in1 (call (.ref e) [.ref x, b]) (fun v s' => ∃ r, v = .bool r ∧ Q (.bool (!r)) s') EE s) :
    wpAny (model prog w) A (richCompare .NotEq (.ref x) b) Q EE s := by
  have one : wpAny (model prog w) A (tryCompare (.ref x) "__ne__" b) (fun r s' => ∃ v, r = some v ∧ Q v s') EE s := by
    unfold tryCompare
    refine wpAny_bind (ne_bound X I O ?_)
    refine wpAny_call (codeAny_call_builtin F.cmp_object.ne.plain F.cmpEntry_ne (PySem.W.check_slot F.cmpKind_ne F.cmpSplit_ne (I.type.andThen (PySem.W.looks_mroIn X O.mo)) (F.cmpArgs_ne _ _) ?_))
    refine ne_entry (A := A.in1) hu X I O (wpAny_mono h (fun v s' hv => ?_) fun _ _ z => z)
    obtain ⟨r, rfl, q⟩ := hv
    exact ⟨r, rfl, wpAny_pure ⟨_, rfl, q⟩⟩
  unfold richCompare
  simp only [oneThing_ref]
  refine wpAny_holding (wpAny_bind (wpAny_cRoomFor (Nat.lt_of_succ_lt hu) ?_))
  refine wpAny_bind (I.type.here (wpAny_bind (hb.here ?_)))
  split
  · rename_i q
    have no : PySem.W.subIn K tb (.ref C) = some false := (Bool.or_eq_true_iff.mp hn).elim (fun z => absurd q (by rw [beq_iff_eq.mp z]; simp)) beq_iff_eq.mp
    refine wpAny_bind ((PySem.W.looks_subIn X no).here ?_)
    rw [if_neg Bool.false_ne_true]
    exact wpAny_bind (wpAny_mono one (fun r s' ⟨v, er, hv⟩ => by subst er; exact wpAny_pure hv) fun _ _ z => z)
  · refine wpAny_bind (wpAny_pure ?_)
    rw [if_neg Bool.false_ne_true]
    exact wpAny_bind (wpAny_mono one (fun r s' ⟨v, er, hv⟩ => by subst er; exact wpAny_pure hv) fun _ _ z => z)
end
theorem op_neOwn (O : OwnC X.K C f) (F : FnOk X.prog X.w X.K X.mg X.base CX k f fd ps sp) (hr : Room (k + 1) X.A) (hb : Binds X.K fd ps []) (hx : Passes CX X E) :
    OpR X (compareOp .NotEq) fun x y H Q => rOwn X.K C sp E x y H fun v H' => ∃ b, v = .bl b ∧ Q (.bl (!b)) H' := by
  intro pins s σ H x y v u Q I rx ry h
  obtain ⟨a, dx, fs, t, rfl, ha, ty, nf, q⟩ := h
  cases (show v = Value.ref a from rx)
  obtain ⟨_, J0, _⟩ := ins_get I.hok ha
  obtain ⟨_, J, _⟩ := J0.look
  obtain ⟨_, kx, hp, _⟩ := kit_of I ry ty
  refine ne_rich (h₀ := X.base) (L := 0) (m := X.mg) (by have := hr.units; omega) I.kIn J O (kx.ty _ _ I.kIn hp) nf ?_
  refine wpAny_mono (run_sub (A := X.A.in1) F hr.in1 rfl hb hx I (.cons (rel_ref a) (.cons ry .nil)) q) (fun z s' hz => ?_) fun _ _ e => e
  obtain ⟨v', H', I', rv, b, rfl, qq⟩ := hz
  exact ⟨b, rv, .bl (!b), H', I', rel_bl _, qq⟩
/-- str(o) -/
def rStrO (C : Addr) (sp : Sp) (E : XK) : List V → Hp → VK → Prop := fun xs H Q => ∃ (a dx : Addr) (fs : List (Str × V)), xs = [.ref a] ∧ H a = some (.ins C dx fs) ∧ sp [.ref a] H (fun v H' => ∃ z, v = .str z ∧ Q v H') E
theorem call_strO (O : OwnS X.K C f) (F : FnOk X.prog X.w X.K X.mg X.base CX k f fd ps sp) (hr : Room (k + 2) X.A) (hb : Binds X.K fd ps []) (hx : Passes CX X E) : CallR X (.type "str") (rStrO C sp E) := by
  intro pins s σ H xs us Q I r h
  obtain ⟨a, dx, fs, rfl, ha, q⟩ := h
  obtain ⟨u, rfl, ru⟩ := r.one
  cases (show u = Value.ref a from ru)
  obtain ⟨_, J0, _⟩ := ins_get I.hok ha
  obtain ⟨_, J, _⟩ := J0.look
  refine PySem.W.kso_call hr.in1.in1.units0 I.kIn J O.st O.fs ?_
  refine wpAny_mono (run_sub (A := X.A.in1.in1) F hr.in1.in1 rfl hb hx I (.cons (rel_ref a) .nil) q) (fun z s' hz => ?_) fun _ _ e => e
  obtain ⟨v', H', I', rv, y, rfl, qq⟩ := hz
  obtain ⟨t, rfl⟩ := rv
  exact ⟨.str y, H', I', rel_str y t, qq⟩
/-- what a class needs that C.m is a staticmethod around the def at g -/
structure StaC (K : PySem.W.Frag) (C : Addr) (m : Str) (g : Addr) : Prop where
  ex : ∃ (mc : Value) (p : Addr) (rest : List Value), PySem.W.readsIn K C mc = true ∧ PySem.W.specialIn K (.ref C) "__getattribute__" = some (some (.builtin "type.__getattribute__")) ∧ PySem.W.typeIn K (.ref C) = some mc ∧
    PySem.W.findCls K (.ref C) mc m = some (.get (.builtin "staticmethod.__get__") (.ref p) .none (.ref C)) ∧ PySem.W.recIn K p "staticmethod" = some (.ref g :: rest)
  kp : PySem.W.keepIn K (.ref g) = true
section
variable {pins : List (Addr × Obj)} {σ : L2.St} {H : Hp} {s : Shared} {g : Addr} {m x : Str} {p pos apos : Pos} {e : Expr} {es : List Expr} {kws : List Keyword} {t tk : TA} {pl : Sem Bool} {ks : List Str}
  {gg : List Value → List Value → List Value} {gV : List V → List V → List V}
theorem get_sta {A : Around} {EE : Value → Shared → Prop} {Q : Value × List Value → Shared → Prop} (I : Inv X pins σ H s) (Z : StaC X.K C m g) (h : ∀ s', Inv X pins σ H s' → Q (.ref g, []) s') :
    wpAny (model X.prog X.w) A (getMethod (.ref C) m pl) Q EE s := by
  obtain ⟨mc, p, rest, r1, r2, r3, r4, r5⟩ := Z.ex
  obtain ⟨_, hF⟩ := I.fr
  exact PySem.W.method_of_cls hF I.ok.mod.kin r2 (PySem.W.cls_sm hF I.ok.mod.kin r3 r1 r4 r5 rfl (h _ (I.tok _)))
/-- C.m(e, ..) -/
theorem pe_sta (Z : StaC X.K C m f) (F : FnOk X.prog X.w X.K X.mg X.base CX k f fd ps sp) (hr : Room k X.A) (hg : Gl X x) (hm : X.mg x = some (.ref C)) (hb : Binds X.K fd ps []) (hx : Passes CX X E) (ha : PA X (e :: es) t)
    (hdb : (x == ("__debug__" : Str)) = false := by decide) (he : starEach (e :: es) X.env = (false, eval e X.env) :: starEach es X.env := by rfl)
    (hpl : ((backTo pos (starEach (e :: es) X.env)).any (·.1) || (backToKw pos (keywordEach [] X.env)).any (·.1.isNone)) = false := by rfl)
    (hpl2 : (backTo pos (starEach es X.env)).any (·.1) = false := by rfl)
    (ht : eval (.Call (.Attribute (.Name x p) m apos) (e :: es) [] pos) X.env = (do
      let ov ← eval (.Name x p) X.env
      standAt apos.atName
      let (f, first) ← holding [ov] (getMethod ov m pl)
      callWith pos f first (backTo pos (starEach (e :: es) X.env)) (backToKw pos (keywordEach [] X.env))) := by rfl) :
    PE X (.Call (.Attribute (.Name x p) m apos) (e :: es) [] pos) (tCall sp [] E t) := by
  refine ⟨fun pins s σ H Q I h => ?_⟩
  refine PySem.W.methodCall_KW (pl := pl) (ld_glob I hg hm ?_ hdb) ht
  refine get_sta I Z fun s0 I0 => ?_
  refine PySem.W.callWith_K (h₀ := X.base) I.ok.mod.kin Z.kp (thn (ha.run pos pins s0 σ H _ I0 h) fun us s1 ⟨vs, H1, I1, r, q⟩ => ⟨I1.kIn, ?_⟩) he hpl2
  exact run_fn F hr hb .nil hx I1 r q
/-- C.m(k = v, ..) -/
theorem pe_staK (Z : StaC X.K C m f) (F : FnOk X.prog X.w X.K X.mg X.base CX k f fd ps sp) (hr : Room k X.A) (hg : Gl X x) (hm : X.mg x = some (.ref C)) (hb : KBn X.K fd ps 0 ks gg gV) (hx : Passes CX X E) (hkw : PK X kws tk)
    (hall : (backToKw pos (keywordEach kws X.env)).all (·.1.isSome) = true := by rfl) (hks : (backToKw pos (keywordEach kws X.env)).filterMap (·.1) = ks := by rfl) (hdb : (x == ("__debug__" : Str)) = false := by decide)
    (hpl : ((backTo pos (starEach [] X.env)).any (·.1) || (backToKw pos (keywordEach kws X.env)).any (·.1.isNone)) = false := by rfl)
    (ht : eval (.Call (.Attribute (.Name x p) m apos) [] kws pos) X.env = (do
      let ov ← eval (.Name x p) X.env
      standAt apos.atName
      let (f, first) ← holding [ov] (getMethod ov m pl)
      callWith pos f first (backTo pos (starEach [] X.env)) (backToKw pos (keywordEach kws X.env))) := by rfl) :
    PE X (.Call (.Attribute (.Name x p) m apos) [] kws pos) (tCallN 0 ks.length sp gV E tNil tk) := by
  refine ⟨fun pins s σ H Q I h => ?_⟩
  refine PySem.W.methodCall_KW (pl := pl) (ld_glob I hg hm ?_ hdb) ht
  refine get_sta I Z fun s0 I0 => ?_
  refine PySem.W.callWith_KW0 (h₀ := X.base) I.ok.mod.kin Z.kp hall ?_ hpl
  refine thn (hkw.run pos pins s0 σ H _ I0 h) fun ws s2 ⟨zs, H2, I2, rz, l1, l2, q2⟩ => ⟨I2.kIn, ?_⟩
  rw [hks]
  exact run_fnN (us := []) (vs := []) F hr hb hx I2 .nil rz rfl l2 q2
end
end
end Gs

set_option Elab.async false
set_option linter.all false
set_option maxRecDepth 100000
set_option maxHeartbeats 4000000
/-! Layer G13: several except clauses, some with a name; a written dict with one tuple as its key. -/
namespace Gs
open PySem PySem.Spec PyProof.Rows L2
/-- a way of catching: from what is wished behind, what is wished of an exception -/
abbrev Catch := Ends → WX → WX
/-- what one clause wishes: nm: the slot of its name, if it has one -/
def oneC (n : Nat) (K : PySem.W.Frag) (c : Value) (nm : Option Nat) (ts : Addr → Value → Option Addr → TS) (rest : Catch) : Catch := fun D W cls d σ H => ∃ b, PySem.W.exmOne K cls c = some b ∧
  (b = true → σ.length = n → ∀ a, H a = none → match nm with
    | none => ts a cls d D σ H
    | some i => ts a cls d { nx := fun σ' H' => D.nx (σ'.set i none) H', rt := D.rt, bk := fun σ' H' => D.bk (σ'.set i none) H', ct := fun σ' H' => D.ct (σ'.set i none) H' } (σ.set i (some (.ref a))) H) ∧
  (b = false → rest D W cls d σ H)
/-- the clauses and what they wish -/
inductive Cls5 (X : Cx) : List ExceptHandler → Catch → Prop
  | done : Cls5 X [] (fun _ W => W)
  | bare {x : Str} {c : Value} {ts : Addr → Value → Option Addr → TS} {b₀ : Stmt} {su : List Stmt} {q q' : Pos} {more : List ExceptHandler} {rest : Catch} (nc : Names X x c)
      (body : ∀ (a : Addr) (ob : Obj) (cls : Value) (d : Option Addr) (pn : List (Addr × Obj)), Zc cls d ob → (∃ vs, ob.data = .fields vs) → PSs (X.suite a ((a, ob) :: pn)) (b₀ :: su) (ts a cls d)) (r : Cls5 X more rest) :
      Cls5 X (.ExceptHandler (some (.Name x q)) none (b₀ :: su) q' :: more) (oneC X.N.length X.K c none ts rest)
  | as {x n : Str} {i : Nat} {c : Value} {ts : Addr → Value → Option Addr → TS} {b₀ : Stmt} {su : List Stmt} {q q' : Pos} {more : List ExceptHandler} {rest : Catch} (nc : Names X x c) (hN : X.N.Nodup) (hi : X.N[i]? = some n) (ln : X.env.kindOf n = some .local)
      (body : ∀ (a : Addr) (ob : Obj) (cls : Value) (d : Option Addr) (pn : List (Addr × Obj)), Zc cls d ob → (∃ vs, ob.data = .fields vs) → PSs (X.suite a ((a, ob) :: pn)) (b₀ :: su) (ts a cls d)) (r : Cls5 X more rest) :
      Cls5 X (.ExceptHandler (some (.Name x q)) (some n) (b₀ :: su) q' :: more) (oneC X.N.length X.K c (some i) ts rest)
section
variable {X : Cx} {pins : List (Addr × Obj)} {σ : L2.St} {H : Hp} {D : Ends}
/-- the end of a suite: back in the def's own context -/
theorem suite_back {a : Addr} {q : Addr × Obj} {f : Flow} {s : Shared} (ok : X.Ok) (h : SP (X.suite a (q :: (X.pn ++ pins))) [] D f s) : SP X pins D f s := by
  cases f with
  | next => obtain ⟨σ', H', S, z⟩ := h; exact ⟨σ', H', S.unsuite ok, z⟩
  | brk => obtain ⟨σ', H', S, z⟩ := h; exact ⟨σ', H', S.unsuite ok, z⟩
  | cont => obtain ⟨σ', H', S, z⟩ := h; exact ⟨σ', H', S.unsuite ok, z⟩
  | ret u => obtain ⟨v, σ', H', S, rv, z⟩ := h; exact ⟨v, σ', H', S.unsuite ok, rv, z⟩
/-- try: body, except .. as ..: .., several -/
theorem ps_try5 {body : List Stmt} {h₀ : ExceptHandler} {hds : List ExceptHandler} {pos : Pos} {tb : WX → TS} {W₀ : WX} {C : Catch} (hs : X.stack = X.env :: X.outer) (hf : X.env.frame = some X.env.locals) (tk : Takes X W₀)
    (hb : ∀ (W : WX) (pn : List (Addr × Obj)) (xe : Value → Shared → Prop), Takes (X.tr pn xe) W → PassesOwn (model X.prog X.w) X.A X.env xe → PSs (X.tr pn xe) body (tb W))
    (hc : Cls5 X (h₀ :: hds) C) : PS X (.Try body (h₀ :: hds) [] [] pos) (fun D σ H => tb (C D W₀) D σ H) := by
  refine ⟨fun pins s σ H D I h => ?_⟩
  have ok := I.ok
  have frm : X.A.frames = some (X.env :: X.outer) := by rw [ok.frames, hs]
  refine wpAny_Try_except (wpAny_mono ((hb (C D W₀) (X.pn ++ pins) (fun e s₁ => wpAny (model X.prog X.w) X.A (noteFrame e X.env) (fun _ s₂ => wpAny (model X.prog X.w) X.A (setFlight e none)
    (fun _ s₃ => wpAny (model X.prog X.w) X.A (handleBy e X.env (h₀ :: hds)) (SP X pins D) X.xe s₃) X.xe s₂) X.xe s₁) (fun u s₁ caught => ?_) PassesOwn.looking).run [] s σ H D (I.toTry _) h) (fun f s₁ hsp => ?_) (fun _ _ z => z))
  rotate_left
  · cases f with
    | next => obtain ⟨σ', H', J, z⟩ := hsp; exact wpAny_execs_nil ⟨σ', H', J.ofTry ok, z⟩
    | brk => obtain ⟨σ', H', J, z⟩ := hsp; exact ⟨σ', H', J.ofTry ok, z⟩
    | cont => obtain ⟨σ', H', J, z⟩ := hsp; exact ⟨σ', H', J.ofTry ok, z⟩
    | ret u => obtain ⟨v, σ', H', J, rv, z⟩ := hsp; exact ⟨v, σ', H', J.ofTry ok, rv, z⟩
  obtain ⟨a, B, sI, pins', σ', H', cls, d, rfl, J', nb, up, sky, na, os, ag, wish⟩ := caught
  have J : Inv X pins σ' H' sI := J'.ofTry ok
  have sky : Sky B (X.env :: X.outer) a (Zc cls d) X.env.locals s₁.heap := by rw [← hs]; exact sky
  show wpAny (model X.prog X.w) X.A (noteFrame (.ref a) X.env) _ _ _
  refine Sky.land Zc.steady frm hf sky fun h₃ fl up₃ => ?_
  have up₃ := up.trans up₃
  obtain ⟨ob, vs, hob, hz, hd⟩ := fl.there
  have apart : ∀ {g : Heap} {o : Obj} {us : Array Value}, g.FunFrames B (X.env :: X.outer) → g.get? a = some o → o.data = .fields us → a ∉ frs (X.env :: X.outer) := by
    intro g o us ff e de hm
    obtain ⟨_, o', e', no⟩ := ff.mem hm
    rw [e] at e'
    cases e'
    exact no _ de
  have nfr := apart fl.2.2.1 hob hd
  have nL : a ≠ X.env.locals := fun z => nfr (List.mem_filterMap.mpr ⟨X.env, List.mem_cons_self, by rw [hf, z]⟩)
  have nF : a ∉ X.fs := fun hm => by
    obtain ⟨e, he, z⟩ := List.mem_filterMap.mp hm
    exact nfr (List.mem_filterMap.mpr ⟨e, List.mem_cons_of_mem _ he, z⟩)
  have J₃ : Inv X pins σ' H' { s₁ with heap := h₃ } := J.landed nb fl.1 up₃ os ag
  have S₃ := J₃.suite hob hd na nL nF
  have looks : PySem.W.Looks (model X.prog X.w) h₃ (typeOf (.ref a)) cls := fun A Q E s k z => wpAny_typeOf_ref (k _ _ hob) (by rw [hz.1]; exact z)
  -- the class that a clause names
  have named : ∀ {x : Str} {c : Value} {q : Pos} {Q : Value → Shared → Prop} {E : Value → Shared → Prop}, Names X x c → Q c { s₁ with heap := h₃ } →
      wpAny (model X.prog X.w) (X.A.mark (some (.ref a))) (eval (.Name x q) X.env) Q E { s₁ with heap := h₃ } := by
    intro x c q Q E nc hq
    obtain ⟨hg, dbg, m | ⟨m, boot, nn⟩⟩ := nc
    · exact ld_glob (X := X.suite a ((a, ob) :: (X.pn ++ pins))) S₃ hg m hq dbg
    · exact ld_blt (X := X.suite a ((a, ob) :: (X.pn ++ pins))) S₃ hg m boot hq nn dbg
  have all : ∀ {hds' : List ExceptHandler} {C' : Catch}, Cls5 X hds' C' → C' D W₀ cls d σ' H' →
      wpAny (model X.prog X.w) X.A (handleBy (.ref a) X.env hds') (SP X pins D) X.xe { s₁ with heap := h₃ } := by
    intro hds' C' hc'
    induction hc' with
    | done =>
      intro wish
      refine wpAny_handleBy_nil ?_
      obtain ⟨_, _, _, oe, us, T, oT, ts', he, _, hde, h1, _⟩ := id fl
      unfold PySem.passOn
      refine wpAny_bind (wpAny_field he hde h1 ?_)
      rw [if_neg (by simp)]
      have fin : wpAny (model X.prog X.w) X.A (setFlight (.ref a) X.env.frame) (fun _ s₄ => wpAny (model X.prog X.w) X.A (throw (.ref a) : Sem Flow) (SP X pins D) X.xe s₄) X.xe { s₁ with heap := h₃ } := by
        rw [hf]
        refine HandSPX.setFlight_upZ fl fun h₄ sk up₄ => wpAny_throw (tk _ _ ?_)
        exact ⟨a, B, sI, pins, σ', H', cls, d, rfl, J, nb, up₃.trans up₄, .inr (.inr (by rw [hs]; exact sk)), na, os, ag, wish⟩
      first
        | exact wpAny_bind (wpAny_pure (wpAny_bind fin))
        | exact wpAny_bind fin
    | bare nc body r ih =>
      intro wish
      obtain ⟨b, hb1, yes, no⟩ := wish
      refine wpAny_handleBy_cons (codeAny_handlers_test ?_) (by intro z; cases z)
      refine named nc ((PySem.W.exm_one (M := model X.prog X.w) J₃.kIn looks hb1).here ?_)
      cases b with
      | false => exact ih (no rfl)
      | true =>
        refine codeAny_handlers_suite ?_
        refine HandSPX.lands_againZ fl fun h₄ fl₄ up₄ => ?_
        obtain ⟨ob4, us4, e4, z4, d4⟩ := fl₄.there
        have J₄ : Inv X pins σ' H' { s₁ with heap := h₄ } := J.landed nb fl₄.1 (up₃.trans up₄) os ag
        have S₄ := J₄.suite e4 d4 na nL nF
        exact wpAny_mono ((body a ob4 cls d (X.pn ++ pins) z4 ⟨_, d4⟩).run [] _ _ H' _ S₄ (yes rfl J.len a na)) (fun f s6 hsp => suite_back ok hsp) (fun _ _ z => z.elim)
    | as nc hN hi ln body r ih =>
      rename_i x n i c ts b₀ su q q' more rest
      intro wish
      obtain ⟨b, hb1, yes, no⟩ := wish
      refine wpAny_handleBy_cons (codeAny_handlers_test ?_) (by intro z; cases z)
      refine named nc ((PySem.W.exm_one (M := model X.prog X.w) J₃.kIn looks hb1).here ?_)
      cases b with
      | false => exact ih (no rfl)
      | true =>
        refine codeAny_handlers_suite_as ?_
        refine HandSPX.lands_againZ fl fun h₄ fl₄ up₄ => ?_
        obtain ⟨ob4, us4, e4, z4, d4⟩ := fl₄.there
        have J₄ : Inv X pins σ' H' { s₁ with heap := h₄ } := J.landed nb fl₄.1 (up₃.trans up₄) os ag
        have S₄ := J₄.suite e4 d4 na nL nF
        have gone : ∀ {σ6 : L2.St} {H6 : Hp} {s6 : Shared} {Q : Shared → Prop}, Inv X pins σ6 H6 s6 → (∀ s7, Inv X pins (σ6.set i none) H6 s7 → Q s7) →
            wpAny (model X.prog X.w) X.A (do bindName X.env n .none; unbindBehindTheSuite X.env n q') (fun _ s7 => Q s7) X.xe s6 := fun S6 hq => gone_ok S6 hN hi ln hq
        refine store_ok (X := X.suite a ((a, ob4) :: (X.pn ++ pins))) (v := .ref a) S₄ hN hi (.inl ln) rfl (fun s5 S5 => ?_) (.inr ln)
        refine wpAny_mono ((body a ob4 cls d (X.pn ++ pins) z4 ⟨_, d4⟩).run [] s5 _ H' _ S5 (yes rfl J.len a na)) (fun f s6 hsp => ?_) (fun _ _ z => z.elim)
        cases f with
        | next => obtain ⟨σ6, H6, S6, z⟩ := hsp; exact gone (S6.unsuite ok) fun s7 J7 => ⟨_, _, J7, z⟩
        | brk => obtain ⟨σ6, H6, S6, z⟩ := hsp; exact gone (S6.unsuite ok) fun s7 J7 => ⟨_, _, J7, z⟩
        | cont => obtain ⟨σ6, H6, S6, z⟩ := hsp; exact gone (S6.unsuite ok) fun s7 J7 => ⟨_, _, J7, z⟩
        | ret u => obtain ⟨v, σ6, H6, S6, rv, z⟩ := hsp; exact gone (S6.unsuite ok) fun s7 J7 => ⟨_, _, _, J7, rv, z⟩
  exact all hc wish
end
/-! ### {(a, b): v} -/
def tDispT (tk tv : TE) : TE := fun σ H Q => ∀ p, H p = none → tk σ (upd H p (.dT [])) fun x H1 => tv σ H1 fun y H2 => ∃ (b : Addr) (k : List Key), x = .ref b ∧ H2 b = some (.tup (k.map kV)) ∧ H2 p = some (.dT []) ∧ Q (.ref p) (upd H2 p (.dT [(k, y)]))
theorem pe_dispT {X : Cx} {pos : Pos} {k v : Expr} {tk tv : TE} (hu : X.A.units + 1 < cLine) (hk : PE X k tk) (hv : PE X v tv) : PE X (.Dict [some k] [v] pos) (tDispT tk tv) := by
  refine ⟨fun pins s σ H Q I h => ?_⟩
  have free := I.hok.fresh (Nat.le_refl s.heap.objs.size)
  have I1 := I.laid (a := s.heap.objs.size) (o := .dT []) (h' := s.heap.push { cls := .type "dict", data := .dict #[] }) (t' := s.toks) (fun _ _ z => Heap.get?_push_of_some _ z) (Nat.le_refl _) (dt_empty s.heap I.big)
  have n1 := pairTrees_length [some k] [v] X.env pos rfl rfl
  have n1 : (pairTrees [some k] [v] X.env pos).length = 1 := n1
  rw [arm_eval_Dict, zip_pairTrees [some k] [v] X.env pos rfl rfl, dictDisplay_pairs _ (fun z => by rw [z] at n1; cases n1) (by rw [n1]; decide)]
  refine wpAny_bind (wpAny_standAt (wpAny_bind (wpAny_subDictH (knd := tupleKind (mixKind X.prog X.w)) (Q := fun d s' => wpAny (model X.prog X.w) X.A (pure (Value.ref d)) (EP X pins σ Q) X.xe s') (Nat.lt_of_succ_lt hu) (by rw [n1]; decide) ?_)))
  refine pairTrees_cons_walk (thn (hk.run pins _ σ _ _ I1 (h _ free)) fun u s1 ⟨x, H1, J1, rx, q1⟩ => thn (hv.run pins s1 σ H1 _ J1 q1) fun r s2 ⟨y, H2, J2, ry, b, ks, ex, hb, hp, q⟩ => pairTrees_nil_walk ?_)
  subst ex
  cases (show u = Value.ref b from rx)
  obtain ⟨_, hd, xs, rel, dd⟩ := dt_of J2.hok hp
  cases rel
  have is := key_of J2.hok hb
  refine ⟨[(ks, b, r)], ⟨rfl, rfl, is, True.intro⟩, dd, fun h' tk' ⟨ob, es, ep, g1, g2, g3, g4, g5, g6⟩ sb => wpAny_pure ⟨.ref s.heap.objs.size, _, ?_, rel_ref _, q⟩⟩
  have nb : b ≠ s.heap.objs.size := ne_of hb hp (fun z => nomatch z)
  refine d_write J2 (by rw [hp]; exact True.intro) sb ⟨ob, g1⟩ ⟨Nat.le_trans (show 1 ≤ 1000 by decide) (by decide), hd, [(ks, b, r)], .cons ⟨rfl, ?_, ry⟩ .nil, ob, es, ep, g1, g2, g3, g4, g6⟩
  rw [upd_ne nb]
  exact hb
end Gs

set_option Elab.async false
set_option linter.all false
set_option maxRecDepth 100000
set_option maxHeartbeats 4000000
/-! Layer G15: exceptions as values: made by place and by keywords, caught and kept; their fields, isinstance of them. -/
namespace PySem
namespace HandSPK
open HandSPX
open Builtin Builtin.ObjectAttr
section
variable {M : Model} {A : Around} {E : Value → Shared → Prop} {h : Heap} {g : Array GenState} {d : Drawn} {t : Nat} {os : OsState}
variable {nm q : Str} {C N : Addr} {bs bm bmB : List Value} {hdct : Bool} {sn : List Str} {sub : List Value} {ab : Bool} {col : Option Bool} {dd : Option Addr} {k0 k1 k2 k3 k5 : Option Value} {B newId initId : String}
theorem check_new_ownK (F : ExcBaseFacts B newId initId bmB) (hT : ∀ X : String, bm.contains (.type X) = bmB.contains (.type X)) {rest : List Value} {kw : List (Str × Value)} {Q : Unit → Shared → Prop}
    (hC : h.get? C = some (excClassObj nm q C N bs bm hdct sn sub ab col dd k0 k1 k2 k3 k5 newId)) (hq : Q () ⟨h, g, d, t, os⟩) : wpAny M A (checkBuiltinCall newId ⟨.ref C :: rest, kw⟩) Q E ⟨h, g, d, t, os⟩ := by
  have hcont : (Value.ref C :: bm).contains (.type B) = true := by rw [List.contains_cons, hT, F.hasB, Bool.or_true]
  have hstar := F.noStar
  simp only [checkBuiltinCall, F.newKind, F.newSplit, F.newRow]
  repeat (first | refine wpAny_loadPart_at hC ?_ | (refine wpAny_isSubtype_exc hC ?_; rw [hcont]) | refine wpAny_staticBase_exc hC ?_ | refine wpAny_madeBy_exc hC ?_ | simp only [bne_self_eq_false, Bool.false_eq_true, if_false] | wp_step)
  exact hq
theorem check_callK {kw : List (Str × Value)} {rest : List Value} {Q : Unit → Shared → Prop} {newId : String} (hC : h.get? C = some (excClassObj nm q C N bs bm hdct sn sub ab col dd k0 k1 k2 k3 k5 newId))
    (hq : Q () ⟨h, g, d, t, os⟩) : wpAny M A (checkBuiltinCall "type.__call__" ⟨.ref C :: rest, kw⟩) Q E ⟨h, g, d, t, os⟩ := by
  have f3 := tc_sub
  have hT : (⟨h, g, d, t, os⟩ : Shared).TypeIs (.ref C) "type" := ⟨_, hC, rfl⟩
  simp only [checkBuiltinCall, tc_kind, tc_split]
  repeat (any_goals (first | assumption | with_reducible refine wpAny_loadPart_at hC ?_ | with_reducible refine wpAny_onRaise ?_ | with_reducible refine wpAny_map ?_ | wp_step))
end
section
variable {prog : Program} {w : World} {A : Around} {E : Value → Shared → Prop} {R : Result → Shared → Prop} {h : Heap} {g : Array GenState} {d : Drawn} {t : Nat} {os : OsState}
variable {nm q : Str} {C N : Addr} {bs bm bmB : List Value} {hdct : Bool} {sn : List Str} {sub : List Value} {ab : Bool} {col : Option Bool} {dd : Option Addr} {k0 k1 k2 k3 k5 : Option Value} {B newId initId : String}
theorem new_ownK (F : ExcBaseFacts B newId initId bmB) (hT : ∀ X : String, bm.contains (.type X) = bmB.contains (.type X)) {rest : List Value} {kw : List (Str × Value)}
    (hC : h.get? C = some (excClassObj nm q C N bs bm hdct sn sub ab col dd k0 k1 k2 k3 k5 newId))
    (hq : R (.ok (.ret (.ref (h.objs.size + 1)))) ⟨(h.push { cls := .type "tuple", data := .seq rest.toArray }).push
      { cls := .ref C, data := .fields #[.ref h.objs.size, .none, .none, .none, .bool false, .none] }, g, d, t, os⟩) (hrest : rest.length ≤ sizeLine) :
    codeAny (model prog w) A (.builtin newId ⟨.ref C :: rest, kw⟩) R ⟨h, g, d, t, os⟩ := by
  have hends := F.ends
  have hcB : (Value.ref C :: bm).contains (.type B) = true := by rw [List.contains_cons, hT, F.hasB, Bool.or_true]
  have hcA : (Value.ref C :: bm).contains (.type "AttributeError") = false := by rw [List.contains_cons, hT, F.noAttr]; rfl
  have hcN : (Value.ref C :: bm).contains (.type "NameError") = false := by rw [List.contains_cons, hT, F.noName]; rfl
  refine codeAny_builtinAt F.entry ?_
  unfold Builtin.«BaseException.__new__»
  refine wpAt_bind ?_
  show wpAt _ _ _ (stack >>= _) _ _ _
  refine wpAt_bind (wpAt_stack fun p below => wpAt_of_wpAny ?_)
  wp_walk
  refine wpAt_of_wpAny ?_
  rw [F.owner]
  repeat (first | with_reducible refine wpAny_madeHere_exc F.canon hC ?_ | with_reducible refine wpAny_loadPart_at hC ?_ | (with_reducible refine wpAny_isSubtype_exc hC ?_; first | rw [hcB] | rw [hcA] | rw [hcN]) | wp_step)
  show R _ _
  rw [Heap.size_push]
  exact hq
theorem type_call_ownK (F : ExcBaseFacts B newId initId bmB) (hT : ∀ X : String, bm.contains (.type X) = bmB.contains (.type X)) {rest : List Value} {kw : List (Str × Value)} {fI : Addr} {Q : Fin → Shared → Prop}
    (hC : h.get? C = some (excClassObj nm q C N bs bm hdct sn sub ab col dd k0 k1 k2 k3 k5 newId))
    (hi : W.Looks (model prog w) h (typeLookup (.ref C) "__init__") (some (.ref fI))) (hb : ∀ self, W.Looks (model prog w) h (bindSpecial (.ref fI) self) (.ref fI, [self])) (hrest : rest.length ≤ sizeLine)
    (hq : codeAny (model prog w) A (.call (.ref fI) ⟨.ref (h.objs.size + 1) :: rest, kw⟩)
      (fun r s' => match r with | .ok (.ret v) => v = .none ∧ Q (.done (.ret (.ref (h.objs.size + 1)))) s' | .ok _ => False | .error e => E e s')
      ⟨(h.push (W.kdv_tup rest)).push (excO C h.objs.size), g, d, t, os⟩) :
    wpAny (model prog w) A (Builtin.«type.__call__» ⟨.ref C :: rest, kw⟩) Q E ⟨h, g, d, t, os⟩ := by
  repeat (first | with_reducible refine wpAny_loadPart_at hC ?_ | with_reducible refine wpAny_madeBy_exc hC ?_ | wp_step)
  refine codeAny_call_builtin_code (Code.quiet_builtin _ F.quiet) (check_new_ownK F hT hC ?_)
  refine new_ownK F hT hC ?_ hrest
  show wpAny _ _ _ _ _ _
  have k : ∀ b o, h.get? b = some o → ((h.push (W.kdv_tup rest)).push (excO C h.objs.size)).get? b = some o := fun b o e => Heap.get?_push_of_some _ (Heap.get?_push_of_some _ e)
  have hC₁ := k _ _ hC
  have hget : ((h.push (W.kdv_tup rest)).push (excO C h.objs.size)).get? (h.objs.size + 1) = some (excO C h.objs.size) := by heap_get
  have hcC : (Value.ref C :: bm).contains (.ref C) = true := by simp
  have i1 := hi.keeps k
  have b1 := (hb (.ref (h.objs.size + 1))).keeps k
  unfold isInstance
  repeat (first | with_reducible refine wpAny_loadPart_at hget ?_ | (with_reducible refine wpAny_isSubtype_exc hC₁ ?_; rw [hcC]) | wp_step)
  show wpAny _ _ (typeLookup (.ref C) _) _ _ _
  refine i1.at ?_
  refine wpAny_holding (wpAny_bind (b1.at ?_))
  refine wpAny_bind (wpAny_call (codeAny_mono hq fun r s' z => ?_))
  rcases r with e | (v | _ | _ | _) <;> first | exact z | exact z.elim | skip
  obtain ⟨rfl, z⟩ := z
  first
    | exact wpAny_pure (wpAny_pure z)
    | (wp_walk; exact z)
theorem call_ownK (F : ExcBaseFacts B newId initId bmB) (hT : ∀ X : String, bm.contains (.type X) = bmB.contains (.type X)) {rest : List Value} {kw : List (Str × Value)} {fI : Addr}
    (hC : h.get? C = some (excClassObj nm q C N bs bm hdct sn sub ab col dd k0 k1 k2 k3 k5 newId))
    (hi : W.Looks (model prog w) h (typeLookup (.ref C) "__init__") (some (.ref fI))) (hb : ∀ self, W.Looks (model prog w) h (bindSpecial (.ref fI) self) (.ref fI, [self])) (hrest : rest.length ≤ sizeLine)
    (hq : codeAny (model prog w) (A.under (.builtin "type.__call__" ⟨.ref C :: rest, kw⟩)) (.call (.ref fI) ⟨.ref (h.objs.size + 1) :: rest, kw⟩) (W.InitBack (h.objs.size + 1) R)
      ⟨(h.push (W.kdv_tup rest)).push (excO C h.objs.size), g, d, t, os⟩) :
    codeAny (model prog w) A (.call (.ref C) ⟨rest, kw⟩) R ⟨h, g, d, t, os⟩ := by
  have f1 := tc_lookup
  have f2 := tc_bind (.ref C)
  have hTy : (⟨h, g, d, t, os⟩ : Shared).TypeIs (.ref C) "type" := ⟨_, hC, rfl⟩
  refine codeAny_of_tree ?_
  show wpAny _ _ (callAny (.ref C) _) _ _ _
  repeat (any_goals (first | assumption | with_reducible refine wpAny_loadPart_at hC ?_ | wp_step))
  refine ⟨rfl, ?_⟩
  refine codeAny_call_builtin_at (Code.quiet_builtin _ (by decide +kernel)) entry_typeCall (check_callK hC (type_call_ownK F hT hC hi hb hrest ?_))
  refine codeAny_mono hq fun r s' z => ?_
  rcases r with e | (v | _ | _ | _) <;> exact z
end
end HandSPK
end PySem

set_option Elab.async false
set_option linter.all false
set_option maxRecDepth 100000
set_option maxHeartbeats 4000000
/-! Layer G16: exceptions as values, told over the abstract heap. -/
namespace PySem.W
open PySem PySem.Spec PySem.Calls PyProof.Rows
section
variable {prog : Program} {w : World} {A : Around} {E : Value → Shared → Prop} {s : Shared} {K : Frag} {x D : Addr} {ox : Obj} {od : Option Obj}
theorem findObj_dataV {C : Addr} {name : Str} {a g : Value} (hc : (clsIn K C).isSome = true) (ha : findIn K (.ref C) name = some (some a)) (hg : specialIn K a "__get__" = some (some g)) (ht : takesIn K a = some true) : findObj K C od name = some (.bind g a) := by
  obtain ⟨cd, hc⟩ := Option.isSome_iff_exists.mp hc
  unfold findObj
  rw [hc, Option.bind_some, ha, Option.bind_some]
  simp [hg, ht]
theorem kin_classV {Q : Option Value → Shared → Prop} (hga : findIn K (.ref D) "__getattribute__" = some (some (.builtin "BaseException.__getattribute__"))) (hgt : findIn K (.ref D) "__getattr__" = some none) (hsub : subIn K (.ref D) (.type "BaseException") = some true)
    (hdct : hasDictIn K D = true) (ha : findIn K (.ref D) "__class__" = some (some (.builtin "object.__class__")))
    (hn : specialIn K (.builtin "object.__class__") "__get__" = some (some (.builtin "getset_descriptor.__get__"))) (htk : takesIn K (.builtin "object.__class__") = some true) (hm : mroIn K D (.type "object") = some true)
    (X : K.In s.heap) (I : InstAt s.heap x ox D od) (h : Q (some (.ref D)) { s with toks := s.toks + 1 }) : wpAny (model prog w) A (getAttr? (.ref x) "__class__") Q E s := by
  have hf : findObj K D od "__class__" = some (.bind (.builtin "getset_descriptor.__get__") (.builtin "object.__class__")) := findObj_dataV (by obtain ⟨cd, hc, _⟩ := any_some hdct; rw [hc]; rfl) ha hn htk
  obtain ⟨hp, g, d, t, os⟩ := s
  have L0 := I.type (M := model prog w)
  have L1 := looks_findIn (M := model prog w) X hga
  have L2 := looks_findIn (M := model prog w) X hgt
  have L3 := looks_find (M := model prog w) X I hf
  have sub : Looks (model prog w) hp (isInstance (.ref x) (.type "BaseException")) true := L0.andThen (looks_subIn X hsub)
  have hx0 : (false && onTheHeap (Value.builtin "BaseException.__getattribute__")) = false := rfl
  have hx2 : (Value.builtin "BaseException.__getattribute__" == Value.builtin "object.__getattribute__") = false := by decide +kernel
  have hx1 : (onTheHeap (Value.ref D) && Value.builtin "BaseException.__getattribute__" == Value.builtin "object.__getattribute__") = false := by rw [hx2]; rfl
  unfold getAttr? getAttrBy? getAttrBy
  refine wpAny_bind (wpAny_mkText (wpAny_bind (wpAny_attempt (wpAny_holding (wpAny_bind (L0.at (wpAny_bind (L1.at ?_))))))))
  show wpAny _ _ (if (onTheHeap (Value.ref D) && Value.builtin "BaseException.__getattribute__" == Value.builtin "object.__getattribute__") = true then _ else _) _ _ _
  rw [hx1, if_neg Bool.false_ne_true]
  unfold getAttrByItsOwn hookBefore
  refine wpAny_bind ?_
  rw [if_pos (show onTheHeap (Value.ref D) = true from rfl)]
  refine L2.at ?_
  refine wpAny_bind (wpAny_attempt (wpAny_holding ?_))
  unfold callGetattribute
  rw [hx0, if_neg Bool.false_ne_true]
  unfold boundAndCalled
  rw [PySem.F.excAttr_ValueError.ga.bind (.ref x)]
  refine wpAny_bind (wpAny_pure ?_)
  show wpAny _ _ (call (.builtin "BaseException.__getattribute__") [.ref x, .str "__class__" t]) _ _ _
  refine wpAny_call (codeAny_call_builtin PySem.F.excAttr_ValueError.ga.plain PySem.F.entry_bexc_ga ?_)
  refine @check_slot (model prog w) _ _ ⟨hp, g, d, t + 1, os⟩ "BaseException.__getattribute__" "BaseException" "__getattribute__" (.ref x) [.str "__class__" t] [] _ (by decide +kernel) (by decide +kernel) sub (PySem.F.args_bexc_ga (.ref x) (.str "__class__" t)) ?_
  unfold Builtin.«object.__getattribute__»
  refine wpAny_bind (wpAny_of_eq (a := ((Value.ref x : Value), [Value.str "__class__" t])) (by first | rfl | (simp only [slotArgs]; rfl)) ?_)
  refine wpAny_bind (wpAny_pure (wpAny_bind (L0.at (wpAny_bind (L3.at ?_)))))
  show wpAny _ _ (holding [Value.builtin "object.__class__"] (call (.builtin "getset_descriptor.__get__") [.builtin "object.__class__", .ref x, .ref D]) >>= ret) _ _ _
  refine wpAny_bind (wpAny_holding (wpAny_call (class_get (s := ⟨hp, g, d, t + 1, os⟩) (ox := ox) (od := od) X I hm ?_)))
  refine wpAny_pure ?_
  show wpAny _ _ (handedOut (.ref D)) _ _ _
  rw [handedOut_of (v := .ref D) rfl]
  first
    | exact wpAny_pure (wpAny_pure h)
    | exact wpAny_pure h
    | exact wpAny_pure (wpAny_bind (wpAny_pure (wpAny_pure h)))
theorem kitx_excV (hga : findIn K (.ref D) "__getattribute__" = some (some (.builtin "BaseException.__getattribute__"))) (hgt : findIn K (.ref D) "__getattr__" = some none) (hsub : subIn K (.ref D) (.type "BaseException") = some true) (hdct : hasDictIn K D = true) (ha : findIn K (.ref D) "__class__" = some (some (.builtin "object.__class__")))
    (hn : specialIn K (.builtin "object.__class__") "__get__" = some (some (.builtin "getset_descriptor.__get__"))) (htk : takesIn K (.builtin "object.__class__") = some true) (hm : mroIn K D (.type "object") = some true) :
    KitX K (.ref x) (.ref D) (fun h => InstAt h x ox D od) where
  ty := fun _ _ _ I => I.type
  it := fun _ _ X _ => by
    obtain ⟨cdD, hcD, _⟩ := any_some hdct
    unfold clsIn at hcD
    split at hcD
    · rename_i c' d' cd' sl' ho
      intro A' Q' E' s' k q
      unfold isType loadHead
      exact wpAny_bind (wpAny_loadPart (k _ _ (X _ _ ho)) (wpAny_pure q))
    · cases hcD
  ne := fun h tp dd its n sl X htp => by
    obtain ⟨cdD, hcD, _⟩ := any_some hdct
    refine Bool.eq_false_iff.mpr fun q => ?_
    have e : D = tp := Value.ref.inj (beq_iff_eq.mp q)
    subst e
    unfold clsIn at hcD
    split at hcD
    · rename_i c' d' cd' sl' ho
      have z := (X _ _ ho).symm.trans htp
      cases z
    · cases hcD
  ca := fun X I k => kin_classV hga hgt hsub hdct ha hn htk hm X I k
end
end PySem.W
namespace Gs
open PySem PySem.Spec PyProof.Rows L2
/-- at a: an exception of the class cls that was caught, its dict d -/
def exv (a : Addr) (cls : Value) (d : Option Addr) : HO := .ext fun h => ∃ ob, h.get? a = some ob ∧ Zc cls d ob ∧ ∃ vs, ob.data = .fields vs
theorem exv_ok {P : Program} {w : World} {H : Hp} {h : Heap} {a : Addr} {cls : Value} {d : Option Addr} {ob : Obj} (e : h.get? a = some ob) (z : Zc cls d ob) (f : ∃ vs, ob.data = .fields vs) : ObjOk P w H h a (exv a cls d) :=
  ⟨⟨ob, e, z, f⟩, ⟨_, e⟩, fun h1 h2 y k => by obtain ⟨o, q, r⟩ := y; exact ⟨o, k _ q, r⟩⟩
/-- an exception of the class at C, its dict: made or caught -/
def ExA (H : Hp) (a C : Addr) (d : Option Addr) : Prop := H a = some (exv a (.ref C) d) ∨ H a = some (exo a C d)
def ExD (H : Hp) (dd : Addr) (fs : List (Str × V)) : Prop := H dd = some (.xd fs) ∨ H dd = some (exd dd fs)
/-- an exception with its fields, or without any -/
def ExI (H : Hp) (a C : Addr) (fs : Option (List (Str × V))) : Prop := match fs with
  | none => ExA H a C none
  | some l => ∃ dd, ExA H a C (some dd) ∧ ExD H dd l
theorem ExA.same {H H' : Hp} {a C : Addr} {d : Option Addr} (h : ExA H a C d) (e : Same H H') : ExA H' a C d := h.elim (fun z => .inl (e _ _ z)) fun z => .inr (e _ _ z)
theorem ExD.same {H H' : Hp} {a : Addr} {d : List (Str × V)} (h : ExD H a d) (e : Same H H') : ExD H' a d := h.elim (fun z => .inl (e _ _ z)) fun z => .inr (e _ _ z)
theorem ExI.same {H H' : Hp} {a C : Addr} {fs : Option (List (Str × V))} (h : ExI H a C fs) (e : Same H H') : ExI H' a C fs := by
  cases fs with
  | none => exact ExA.same h e
  | some l => obtain ⟨dd, x, y⟩ := h; exact ⟨dd, x.same e, y.same e⟩
/-- two heaps that agree on what is no list, no tuple, no dict, no instance: exceptions stay -/
def SameX (H H' : Hp) : Prop := ∀ b (φ : Heap → Prop), H b = some (.ext φ) → H' b = some (.ext φ)
def SameD (H H' : Hp) : Prop := ∀ b fs, H b = some (.xd fs) → H' b = some (.xd fs)
theorem ExI.ext {H H' : Hp} {a C : Addr} {fs : Option (List (Str × V))} (h : ExI H a C fs) (e : SameX H H') (e2 : SameD H H') : ExI H' a C fs := by
  have x : ∀ {d}, ExA H a C d → ExA H' a C d := fun z => z.elim (fun z => .inl (e _ _ z)) fun z => .inr (e _ _ z)
  cases fs with
  | none => exact x h
  | some l =>
    obtain ⟨dd, y, z⟩ := h
    exact ⟨dd, x y, z.elim (fun z => .inl (e2 _ _ z)) fun z => .inr (e _ _ z)⟩
section
variable {X : Cx} {pins : List (Addr × Obj)} {σ : L2.St} {H : Hp} {s : Shared}
theorem ExA.at_ {a C : Addr} {d : Option Addr} (I : Inv X pins σ H s) (h : ExA H a C d) : ∃ ob, s.heap.get? a = some ob ∧ Zc (.ref C) d ob ∧ ∃ vs, ob.data = .fields vs := by
  rcases h with h | h
  · have x : ObjOk X.prog X.w H s.heap a (exv a (.ref C) d) := I.hok _ _ h
    exact x.1
  · obtain ⟨t1, e⟩ := exo_at I.hok h
    exact ⟨_, e, ⟨rfl, rfl⟩, _, rfl⟩
theorem ExD.at_ {dd : Addr} {fs : List (Str × V)} (I : Inv X pins σ H s) (h : ExD H dd fs) : ∃ mA, s.heap.Ns1 dd mA ∧ ∀ f, RelO (fs.lookup f) (mA f) := by
  rcases h with h | h
  · have x : ObjOk X.prog X.w H s.heap dd (.xd fs) := I.hok _ _ h
    exact x
  · exact exd_at I.hok h
theorem ExI.inst {a C : Addr} {fs : Option (List (Str × V))} (I : Inv X pins σ H s) (h : ExI H a C fs) : ∃ ob od, PySem.W.InstAt s.heap a ob C od := by
  cases fs with
  | none =>
    obtain ⟨ob, e, ⟨z1, z2⟩, vs, hd⟩ := ExA.at_ I h
    exact ⟨ob, none, e, z1, by unfold PySem.W.notCls; rw [hd] <;> rfl, by rw [z2] <;> trivial⟩
  | some l =>
    obtain ⟨dd, h1, h2⟩ := h
    obtain ⟨ob, e, ⟨z1, z2⟩, vs, hd⟩ := h1.at_ I
    obtain ⟨mA, hns, _⟩ := h2.at_ I
    obtain ⟨od, ho, _⟩ := lookIn_ns hns
    exact ⟨ob, some od, e, z1, by unfold PySem.W.notCls; rw [hd] <;> rfl, by rw [z2]; exact ho⟩
/-- e.f -/
def tFv (K : PySem.W.Frag) (f : Str) (te : TE) : TE := fun σ H Q => te σ H fun x H1 => ∃ (a C : Addr) (fs : List (Str × V)) (v : V), x = .ref a ∧ XfC K C ∧ PySem.W.findIn K (.ref C) f = some none ∧ ExI H1 a C (some fs) ∧ fs.lookup f = some v ∧ Q v H1
theorem pe_fv {e : Expr} {te : TE} {pos : Pos} {n : Str} (he : PE X e te) (hb : attributeBase e n X.env (eval e X.env) = eval e X.env := by rfl) : PE X (.Attribute e n pos) (tFv X.K n te) := by
  refine ⟨fun pins s σ H Q I h => ?_⟩
  refine attr_of hb (thn (he.run pins s σ H _ I h) fun u s1 hh => ?_)
  obtain ⟨x, H1, I1, rx, a, C, fs, v, ex, T, hno, ⟨dd, h1, h2⟩, l, q⟩ := hh
  subst ex
  obtain rfl : u = Value.ref a := rx
  obtain ⟨ob, e, ⟨z1, z2⟩, vs, hd⟩ := h1.at_ I1
  obtain ⟨mA, hns, hr⟩ := h2.at_ I1
  obtain ⟨od, ho, hl⟩ := lookIn_ns hns
  obtain ⟨u, hu, ru⟩ := RelO.some_of (v := v) (o := mA n) (by rw [← l]; exact hr n)
  have J : PySem.W.InstAt s1.heap a ob C (some od) := ⟨e, z1, by unfold PySem.W.notCls; rw [hd] <;> rfl, by rw [z2]; exact ho⟩
  exact HandSPX.exc_get I1.kIn J T.ga T.gg T.exC (PySem.W.findObj_own T.hdC hno rfl (by rw [hl, hu])) (handed_of ru) ⟨v, H1, I1.tok _, ru, q⟩
/-- isinstance(e, c) -/
def rIsV (K : PySem.W.Frag) : List V → Hp → VK → Prop := fun xs H Q => ∃ (a C : Addr) (fs : Option (List (Str × V))) (c : V) (u : Value) (b : Bool), xs = [.ref a, c] ∧ ExI H a C fs ∧ ExcC K C ∧ ClsV c u ∧ PySem.W.kitOne K (.ref C) u = some b ∧ Q (.bl b) H
theorem call_isV : CallR X (.builtin "isinstance") (rIsV X.K) := by
  intro pins s σ H xs us Q I r h
  obtain ⟨a, C, fs, c, u, b, rfl, hi, Z, k, e, q⟩ := h
  obtain ⟨u1, u2, rfl, r1, r2⟩ := vals2 r
  cases (show u1 = Value.ref a from r1)
  have e2 := k.eq r2
  subst e2
  obtain ⟨ob, od, J⟩ := hi.inst I
  exact PySem.W.kia_one (PySem.W.kitx_excV Z.hg Z.hk Z.hs Z.hd Z.ha Z.hn Z.ht Z.hm) I.kIn J e (fun z => nomatch z) fun tk => ⟨.bl b, H, I.tok tk, rfl, q⟩
/-- isinstance(e, (c, ..)) -/
def rIsVT (K : PySem.W.Frag) : List V → Hp → VK → Prop := fun xs H Q => ∃ (a C : Addr) (fs : Option (List (Str × V))) (tp : Addr) (cs : List V) (us : List Value) (b : Bool), xs = [.ref a, .ref tp] ∧ ExI H a C fs ∧ ExcC K C ∧ H tp = some (.tup cs) ∧ Paired ClsV cs us ∧
  PySem.W.kitAny K (.ref C) us = some b ∧ Q (.bl b) H
theorem call_isVT : CallR X (.builtin "isinstance") (rIsVT X.K) := by
  intro pins s σ H xs us Q I r h
  obtain ⟨a, C, fs, tp, cs, ws, b, rfl, hi, Z, hT, k, e, q⟩ := h
  obtain ⟨u1, u2, rfl, r1, r2⟩ := vals2 r
  cases (show u1 = Value.ref a from r1)
  cases (show u2 = Value.ref tp from r2)
  obtain ⟨ob, od, J⟩ := hi.inst I
  obtain ⟨_, its, rv, o, h1, h2, n, h3⟩ := (show ObjOk X.prog X.w H s.heap tp (.tup cs) from I.hok tp _ hT)
  have e3 := ClsV.all k rv
  subst e3
  obtain ⟨oc, od', dt, sl⟩ := o
  simp only at h2 h3
  subst h2 h3
  exact PySem.W.kia_tup (PySem.W.kitx_excV Z.hg Z.hk Z.hs Z.hd Z.ha Z.hn Z.ht Z.hm) I.kIn J h1 e (fun z => nomatch z) fun tk => ⟨.bl b, H, I.tok tk, rfl, q⟩
end
/-! ### C(e, ..), C(k = v, ..) as a value -/
def tMkV (C : Addr) (sp : Sp) (ta : TA) : TE := fun σ H Q => ta σ H fun vs H1 => vs.length ≤ 1000 ∧ ∀ a, H1 a = none → sp (.ref a :: vs) (upd H1 a (exo a C none)) (fun v H2 => v = .non ∧ Q (.ref a) H2) (fun _ _ _ => False)
def tMkVK (C : Addr) (sp : Sp) (gV : List V → List V → List V) (m : Nat) (tk : TA) : TE := fun σ H Q => tk σ H fun zs H1 => zs.length = m ∧ ∀ a, H1 a = none → sp (gV [.ref a] zs) (upd H1 a (exo a C none)) (fun v H2 => v = .non ∧ Q (.ref a) H2) (fun _ _ _ => False)
section
variable {X : Cx} {CX : CXT} {x : Str} {C fI : Addr} {k : Nat} {fd : FuncData} {ps ks : List Str} {sp : Sp} {p pos : Pos} {e : Expr} {es : List Expr} {kws : List Keyword} {t tk : TA} {g : List Value → List Value → List Value} {gV : List V → List V → List V}
theorem run_exv {pins : List (Addr × Obj)} {σ : L2.St} {H : Hp} {s : Shared} {Q : VK} {us : List Value} {kw : List (Str × Value)} {all : Addr → List V} {alls : Value → List Value} (T : OexC X.K C) (iC : PySem.W.findIn X.K (.ref C) "__init__" = some (some (.ref fI))) (tI : PySem.W.typeIn X.K (.ref fI) = some (.type "function"))
    (F1 : FnOk X.prog X.w X.K X.mg X.base CX k fI fd ps sp) (hr : Room (k + 1) X.A) (hx : Passes CX X (fun _ _ _ => False)) (I : Inv X pins σ H s) (hus : us.length ≤ sizeLine)
    (hb : ∀ (s : Shared) (a : Addr), X.K.In s.heap → BindsTo s fd ⟨.ref a :: us, kw⟩ (ps.zip (alls (.ref a)))) (hv : ∀ a, Vals (all a) (alls (.ref a)))
    (h : ∀ a, H a = none → sp (all a) (upd H a (exo a C none)) (fun v H2 => v = .non ∧ Q (.ref a) H2) (fun _ _ _ => False)) :
    wpAny (model X.prog X.w) X.A (call (.ref C) us kw) (EP X pins σ Q) X.xe s := by
  obtain ⟨nm, q, N, bs, bm, sn, sub, ab, col, dd, k0, k1, k2, k3, k5, hC, hbm⟩ := T.cls
  obtain ⟨hp, gg, dr, tk, os⟩ := s
  have hsz : hp.objs.size ≤ hp.objs.size + 1 := Nat.le_succ _
  have hn : H (hp.objs.size + 1) = none := I.hok.fresh hsz
  have hq := h (hp.objs.size + 1) hn
  have kk : ∀ b o, hp.get? b = some o → ((hp.push (PySem.W.kdv_tup us)).push (PySem.HandSPX.excO C hp.objs.size)).get? b = some o := fun b o e => Heap.get?_push_of_some _ (Heap.get?_push_of_some _ e)
  have hget : ((hp.push (PySem.W.kdv_tup us)).push (PySem.HandSPX.excO C hp.objs.size)).get? (hp.objs.size + 1) = some (PySem.HandSPX.excO C hp.objs.size) := by heap_get
  have I2 : Inv X pins σ (upd H (hp.objs.size + 1) (exo (hp.objs.size + 1) C none)) ⟨(hp.push (PySem.W.kdv_tup us)).push (PySem.HandSPX.excO C hp.objs.size), gg, dr, tk, os⟩ :=
    I.laid (t' := tk) (a := hp.objs.size + 1) (o := exo (hp.objs.size + 1) C none) (h' := (hp.push (PySem.W.kdv_tup us)).push (PySem.HandSPX.excO C hp.objs.size)) kk hsz (exo_ok hget)
  refine wpAny_call (PySem.HandSPK.call_ownK F.excBase_ValueError (fun Y => PySem.HandSPX.refsVE_contains Y bm hbm) (I.kIn _ _ hC) (PySem.W.looks_findIn I.kIn iC) (fun self => PySem.W.bind_fn I.kIn self tI) hus
    (codeAny_mono (F1.run _ X.stack _ _ ⟨Value.ref (hp.objs.size + 1) :: us, kw⟩ (alls (.ref (hp.objs.size + 1))) _ _ (fun _ _ _ => False) (hr.make C us kw) (I2.env0.make C us kw) (hb _ _ I2.kIn) (hv _) hq) fun r s' hq' => ?_))
  cases r with
  | error er => exact hx pins σ _ _ er s' I2 hq'
  | ok fl =>
    cases fl with
    | ret u =>
      obtain ⟨v, H', I3, rv, ev, q3⟩ := I2.after hq'
      subst ev
      exact ⟨rv, ⟨V.ref (hp.objs.size + 1), H', I3, rfl, q3⟩⟩
    | next => exact False.elim hq'
    | brk => exact False.elim hq'
    | cont => exact False.elim hq'
theorem pe_exv (T : OexC X.K C) (iC : PySem.W.findIn X.K (.ref C) "__init__" = some (some (.ref fI))) (tI : PySem.W.typeIn X.K (.ref fI) = some (.type "function"))
    (F1 : FnOk X.prog X.w X.K X.mg X.base CX k fI fd ps sp) (hr : Room (k + 1) X.A) (hb : Binds X.K fd ps []) (hx : Passes CX X (fun _ _ _ => False)) (hg : Gl X x) (hm : X.mg x = some (.ref C)) (ha : PA X (e :: es) t)
    (hdb : (x == ("__debug__" : Str)) = false := by decide) (he : starEach (e :: es) X.env = (false, eval e X.env) :: starEach es X.env := by rfl) (hpl : (backTo pos (starEach es X.env)).any (·.1) = false := by rfl) :
    PE X (.Call (.Name x p) (e :: es) [] pos) (tMkV C sp t) := by
  refine ⟨fun pins s σ H Q I h => ?_⟩
  refine wpAny_Call_Name_kw (ld_glob I hg hm ?_ hdb)
  refine PySem.W.callWith_K (h₀ := X.base) I.ok.mod.kin T.kC (thn (ha.run pos pins s σ H _ I h) fun us s1 ⟨vs, H1, I1, r1, hz, q1⟩ => ⟨I1.kIn, ?_⟩) he hpl
  have hus : us.length ≤ sizeLine := by
    rw [← Paired.length r1, sizeLine_eq]
    omega
  have hl : (us.length + 1) = ps.length := by
    have z := F1.len _ _ _ _ (q1 _ (I1.hok.fresh (Nat.le_refl s1.heap.objs.size)))
    rw [← z, List.length_cons, r1.length]
  refine run_exv (kw := []) (all := fun a => .ref a :: vs) (alls := fun a => a :: us) T iC tI F1 hr hx I1 hus (fun s a kin => ?_) (fun a => .cons rfl r1) q1
  have b := hb s (.ref a :: us) kin (by rw [List.append_nil]; exact hl)
  rw [List.append_nil] at b
  exact b
theorem pe_exv0 (T : OexC X.K C) (iC : PySem.W.findIn X.K (.ref C) "__init__" = some (some (.ref fI))) (tI : PySem.W.typeIn X.K (.ref fI) = some (.type "function"))
    (F1 : FnOk X.prog X.w X.K X.mg X.base CX k fI fd ps sp) (hr : Room (k + 1) X.A) (hb : Binds X.K fd ps []) (hx : Passes CX X (fun _ _ _ => False)) (hg : Gl X x) (hm : X.mg x = some (.ref C))
    (hdb : (x == ("__debug__" : Str)) = false := by decide) : PE X (.Call (.Name x p) [] [] pos) (tMkV C sp tNil) := by
  refine ⟨fun pins s σ H Q I h => ?_⟩
  refine wpAny_Call_Name_kw (ld_glob I hg hm ?_ hdb)
  have h : ([] : List V).length ≤ 1000 ∧ ∀ a, H a = none → sp (.ref a :: []) (upd H a (exo a C none)) (fun v H2 => v = .non ∧ Q (.ref a) H2) (fun _ _ _ => False) := h
  refine PySem.W.callWith_K0 I.kIn T.kC ?_
  have hl : 1 = ps.length := (F1.len _ _ _ _ (h.2 _ (I.hok.fresh (Nat.le_refl s.heap.objs.size)))).symm ▸ rfl
  refine run_exv (kw := []) (us := []) (all := fun a => [.ref a]) (alls := fun a => [a]) T iC tI F1 hr hx I (Nat.zero_le _) (fun s a kin => ?_) (fun a => .cons rfl .nil) h.2
  have b := hb s [.ref a] kin (by rw [List.append_nil]; exact hl)
  rw [List.append_nil] at b
  exact b
theorem pe_exvK (T : OexC X.K C) (iC : PySem.W.findIn X.K (.ref C) "__init__" = some (some (.ref fI))) (tI : PySem.W.typeIn X.K (.ref fI) = some (.type "function"))
    (F1 : FnOk X.prog X.w X.K X.mg X.base CX k fI fd ps sp) (hr : Room (k + 1) X.A) (hb : KB X.K fd ps ks 1 g gV) (hx : Passes CX X (fun _ _ _ => False)) (hg : Gl X x) (hm : X.mg x = some (.ref C)) (hkw : PK X kws tk)
    (hall : (backToKw pos (keywordEach kws X.env)).all (·.1.isSome) = true := by rfl)
    (hks : (backToKw pos (keywordEach kws X.env)).filterMap (·.1) = ks := by rfl) (hdb : (x == ("__debug__" : Str)) = false := by decide)
    (hpl : ((backTo pos (starEach [] X.env)).any (·.1) || (backToKw pos (keywordEach kws X.env)).any (·.1.isNone)) = false := by rfl) :
    PE X (.Call (.Name x p) [] kws pos) (tMkVK C sp gV ks.length tk) := by
  refine ⟨fun pins s σ H Q I h => ?_⟩
  refine wpAny_Call_Name_kw (ld_glob I hg hm ?_ hdb)
  refine PySem.W.callWith_KW0 (h₀ := X.base) I.ok.mod.kin T.kC hall ?_ hpl
  refine thn (hkw.run pos pins s σ H _ I h) fun ws s2 ⟨zs, H2, I2, rz, l1, l2⟩ => ⟨I2.kIn, ?_⟩
  rw [hks]
  exact run_exv (us := []) (kw := ks.zip ws) (all := fun a => gV [.ref a] zs) (alls := fun a => g [a] ws) T iC tI F1 hr hx I2 (Nat.zero_le _) (fun s a kin => hb.to s [.ref a] ws kin rfl (rz.length.symm.trans l1)) (fun a => hb.rel (vs := [.ref a]) rfl l1 (.cons rfl .nil) rz) l2
end
end Gs

set_option Elab.async false
set_option linter.all false
set_option maxRecDepth 100000
set_option maxHeartbeats 4000000
/-! Layer G17: an exception that is caught and kept; an own class's __init__ that is ValueError's. -/
namespace Gs
open PySem PySem.Spec PyProof.Rows L2
section
variable {X : Cx} {pins : List (Addr × Obj)} {σ : L2.St} {H : Hp} {s : Shared} {D : Ends}
theorem ext_own {φ : Heap → Prop} {x : Addr} : HO.ext φ ≠ .own x := fun z => nomatch z
/-- what was pinned is tracked from now on -/
theorem inv_track {a : Addr} {ob : Obj} {u : HO} (I : Inv X ((a, ob) :: pins) σ H s) (hx : X.ex = []) (hn : X.s_0.heap.get? a = none) (hp : ∀ p ∈ X.pn ++ pins, p.1 ≠ a) (ok : ObjOk X.prog X.w (upd H a u) s.heap a u) : Inv X pins σ (upd H a u) s := by
  obtain ⟨q1, q2, q3, q4, q5⟩ := I.pin (a, ob) (List.mem_append_right _ List.mem_cons_self)
  have q1 : s.heap.get? a = some ob := q1
  have q2 : H a = none := q2
  have q3 : a ≠ X.env.locals := q3
  have q5 : ∀ v, ob.data ≠ .cell v := q5
  refine ⟨I.ok, I.os, I.bare, ?_, I.loc, I.cell, ?_, fun x c e => ?_, fun p hm => ?_, fun b o e => ?_, I.len⟩
  · refine ⟨I.base.keep, I.base.slot, fun b o e n hb => ?_, I.base.there, fun b xs e => ?_, fun b o v e => ?_, fun b ps e => ?_⟩
    · have nb : b ≠ a := fun z => by rw [z, hn] at e; cases e
      rw [upd_ne nb]; exact I.base.free b o e n hb
    · have z := I.base.tups b xs e
      rw [upd_ne (ne_of_none z q2)]; exact z
    · have z := I.base.frzs b o v e
      rw [upd_ne (ne_of_none z q2)]; exact z
    · obtain ⟨m, z⟩ := I.base.tbls b ps e
      exact ⟨m, by rw [upd_ne (ne_of_none z q2)]; exact z⟩
  · rw [upd_ne (Ne.symm q3)]; exact I.free
  · have nc : c ≠ a := fun z => by
      obtain ⟨v, hv⟩ := I.cell x c e
      obtain ⟨o, e1, e2⟩ := hv
      rw [z, q1] at e1; cases e1
      exact q5 _ e2
    rw [upd_ne nc]; exact I.freeC x c e
  · have hm' : p ∈ X.pn ++ (a, ob) :: pins := (List.mem_append.mp hm).elim (fun z => List.mem_append_left _ z) fun z => List.mem_append_right _ (List.mem_cons_of_mem _ z)
    obtain ⟨r1, r2, r3, r4, r5⟩ := I.pin p hm'
    exact ⟨r1, by rw [upd_ne (hp p hm)]; exact r2, r3, r4, r5⟩
  · by_cases hb : b = a
    · subst hb
      rw [upd_same] at e; cases e
      exact ok
    · rw [upd_ne hb] at e
      exact (I.hok b o e).stay (fun c v _ r => r) (fun c r => by rw [upd_ne (ne_of_none r q2)]; exact r) fun c xs r => by rw [upd_ne (ne_of_none r q2)]; exact r
/-- what the clause wishes: n slots, i that of the name -/
def oneK (n : Nat) (K : PySem.W.Frag) (c : Value) (i : Nat) (ts : Addr → Value → Option Addr → TS) : Catch := fun D W cls d σ H => ∃ b, PySem.W.exmOne K cls c = some b ∧
  (b = true → σ.length = n → ∀ a, H a = none → ts a cls d { nx := fun σ' H' => D.nx (σ'.set i none) (upd H' a (exv a cls d)), rt := fun v H' => D.rt v (upd H' a (exv a cls d)), bk := fun σ' H' => D.bk (σ'.set i none) (upd H' a (exv a cls d)), ct := fun σ' H' => D.ct (σ'.set i none) (upd H' a (exv a cls d)) } (σ.set i (some (.ref a))) H) ∧ (b = false → W cls d σ H)
/-- try: body, except .. as ..: .., the exception kept -/
theorem ps_tryK {body : List Stmt} {pos : Pos} {tb : WX → TS} {W₀ : WX} {x n : Str} {i : Nat} {c : Value} {ts : Addr → Value → Option Addr → TS} {b₀ : Stmt} {su : List Stmt} {q q' : Pos} (hs : X.stack = X.env :: X.outer) (hf : X.env.frame = some X.env.locals) (hex : X.ex = []) (tk : Takes X W₀)
    (hb : ∀ (W : WX) (pn : List (Addr × Obj)) (xe : Value → Shared → Prop), Takes (X.tr pn xe) W → PassesOwn (model X.prog X.w) X.A X.env xe → PSs (X.tr pn xe) body (tb W))
    (nc : Names X x c) (hN : X.N.Nodup) (hi : X.N[i]? = some n) (ln : X.env.kindOf n = some .local)
    (hsu : ∀ (a : Addr) (ob : Obj) (cls : Value) (d : Option Addr) (pn : List (Addr × Obj)), Zc cls d ob → (∃ vs, ob.data = .fields vs) → PSs (X.suite a ((a, ob) :: pn)) (b₀ :: su) (ts a cls d)) :
    PS X (.Try body [.ExceptHandler (some (.Name x q)) (some n) (b₀ :: su) q'] [] [] pos) (fun D σ H => tb (oneK X.N.length X.K c i ts D W₀) D σ H) := by
  refine ⟨fun pins s σ H D I h => ?_⟩
  have ok := I.ok
  have frm : X.A.frames = some (X.env :: X.outer) := by rw [ok.frames, hs]
  refine wpAny_Try_except (wpAny_mono ((hb (oneK X.N.length X.K c i ts D W₀) (X.pn ++ pins) (fun e s₁ => wpAny (model X.prog X.w) X.A (noteFrame e X.env) (fun _ s₂ => wpAny (model X.prog X.w) X.A (setFlight e none)
    (fun _ s₃ => wpAny (model X.prog X.w) X.A (handleBy e X.env [.ExceptHandler (some (.Name x q)) (some n) (b₀ :: su) q']) (SP X pins D) X.xe s₃) X.xe s₂) X.xe s₁) (fun u s₁ caught => ?_) PassesOwn.looking).run [] s σ H D (I.toTry _) h) (fun f s₁ hsp => ?_) (fun _ _ z => z))
  rotate_left
  · cases f with
    | next => obtain ⟨σ', H', J, z⟩ := hsp; exact wpAny_execs_nil ⟨σ', H', J.ofTry ok, z⟩
    | brk => obtain ⟨σ', H', J, z⟩ := hsp; exact ⟨σ', H', J.ofTry ok, z⟩
    | cont => obtain ⟨σ', H', J, z⟩ := hsp; exact ⟨σ', H', J.ofTry ok, z⟩
    | ret u => obtain ⟨v, σ', H', J, rv, z⟩ := hsp; exact ⟨v, σ', H', J.ofTry ok, rv, z⟩
  obtain ⟨a, B, sI, pins', σ', H', cls, d, rfl, J', nb, up, sky, na, os, ag, wish⟩ := caught
  have J : Inv X pins σ' H' sI := J'.ofTry ok
  have sky : Sky B (X.env :: X.outer) a (Zc cls d) X.env.locals s₁.heap := by rw [← hs]; exact sky
  show wpAny (model X.prog X.w) X.A (noteFrame (.ref a) X.env) _ _ _
  refine Sky.land Zc.steady frm hf sky fun h₃ fl up₃ => ?_
  have up₃ := up.trans up₃
  obtain ⟨ob, vs, hob, hz, hd⟩ := fl.there
  have apart : ∀ {g : Heap} {o : Obj} {us : Array Value}, g.FunFrames B (X.env :: X.outer) → g.get? a = some o → o.data = .fields us → a ∉ frs (X.env :: X.outer) := by
    intro g o us ff e de hm
    obtain ⟨_, o', e', no⟩ := ff.mem hm
    rw [e] at e'
    cases e'
    exact no _ de
  have nfr := apart fl.2.2.1 hob hd
  have nL : a ≠ X.env.locals := fun z => nfr (List.mem_filterMap.mpr ⟨X.env, List.mem_cons_self, by rw [hf, z]⟩)
  have nF : a ∉ X.fs := fun hm => by
    obtain ⟨e, he, z⟩ := List.mem_filterMap.mp hm
    exact nfr (List.mem_filterMap.mpr ⟨e, List.mem_cons_of_mem _ he, z⟩)
  -- the exception is new
  have nI : sI.heap.get? a = none := by
    cases e : sI.heap.get? a with
    | none => rfl
    | some o =>
      have z := nb a o e (by rw [hs]; exact nfr)
      rw [fl.2.1] at z; cases z
  have n0 : X.s_0.heap.get? a = none := by
    cases e : X.s_0.heap.get? a with
    | none => rfl
    | some o =>
      obtain ⟨o', z⟩ := J.base.there a o e (by rw [hex]; exact List.not_mem_nil)
      rw [nI] at z; cases z
  have np : ∀ p ∈ X.pn ++ pins, p.1 ≠ a := fun p hp z => by
    have y := (J.pin p hp).1
    rw [z, nI] at y; cases y
  have J₃ : Inv X pins σ' H' { s₁ with heap := h₃ } := J.landed nb fl.1 up₃ os ag
  have S₃ := J₃.suite hob hd na nL nF
  have looks : PySem.W.Looks (model X.prog X.w) h₃ (typeOf (.ref a)) cls := fun A Q E s k z => wpAny_typeOf_ref (k _ _ hob) (by rw [hz.1]; exact z)
  -- the class that a clause names
  have named : ∀ {x : Str} {c : Value} {q : Pos} {Q : Value → Shared → Prop} {E : Value → Shared → Prop}, Names X x c → Q c { s₁ with heap := h₃ } →
      wpAny (model X.prog X.w) (X.A.mark (some (.ref a))) (eval (.Name x q) X.env) Q E { s₁ with heap := h₃ } := by
    intro x c q Q E nc hq
    obtain ⟨hg, dbg, m | ⟨m, boot, nn⟩⟩ := nc
    · exact ld_glob (X := X.suite a ((a, ob) :: (X.pn ++ pins))) S₃ hg m hq dbg
    · exact ld_blt (X := X.suite a ((a, ob) :: (X.pn ++ pins))) S₃ hg m boot hq nn dbg
  obtain ⟨b, hb1, yes, no⟩ := wish
  refine wpAny_handleBy_cons (codeAny_handlers_test ?_) (by intro z; cases z)
  refine named nc ((PySem.W.exm_one (M := model X.prog X.w) J₃.kIn looks hb1).here ?_)
  cases b with
  | false =>
    have wish := no rfl
    refine wpAny_handleBy_nil ?_
    obtain ⟨_, _, _, oe, us, T, oT, ts', he, _, hde, h1, _⟩ := id fl
    unfold PySem.passOn
    refine wpAny_bind (wpAny_field he hde h1 ?_)
    rw [if_neg (by simp)]
    have fin : wpAny (model X.prog X.w) X.A (setFlight (.ref a) X.env.frame) (fun _ s₄ => wpAny (model X.prog X.w) X.A (throw (.ref a) : Sem Flow) (SP X pins D) X.xe s₄) X.xe { s₁ with heap := h₃ } := by
      rw [hf]
      refine HandSPX.setFlight_upZ fl fun h₄ sk up₄ => wpAny_throw (tk _ _ ?_)
      exact ⟨a, B, sI, pins, σ', H', cls, d, rfl, J, nb, up₃.trans up₄, .inr (.inr (by rw [hs]; exact sk)), na, os, ag, wish⟩
    first
      | exact wpAny_bind (wpAny_pure (wpAny_bind fin))
      | exact wpAny_bind fin
  | true =>
    refine codeAny_handlers_suite_as ?_
    refine HandSPX.lands_againZ fl fun h₄ fl₄ up₄ => ?_
    obtain ⟨ob4, us4, e4, z4, d4⟩ := fl₄.there
    have J₄ : Inv X pins σ' H' { s₁ with heap := h₄ } := J.landed nb fl₄.1 (up₃.trans up₄) os ag
    have S₄ := J₄.suite e4 d4 na nL nF
    -- behind the suite: pinned, the name gone, then tracked
    have gone : ∀ {σ6 : L2.St} {H6 : Hp} {s6 : Shared} {Q : Shared → Prop}, Inv (X.suite a ((a, ob4) :: (X.pn ++ pins))) [] σ6 H6 s6 → (∀ s7, Inv X pins (σ6.set i none) (upd H6 a (exv a cls d)) s7 → Q s7) →
        wpAny (model X.prog X.w) X.A (do bindName X.env n .none; unbindBehindTheSuite X.env n q') (fun _ s7 => Q s7) X.xe s6 := by
      intro σ6 H6 s6 Q S6 hq
      have P6 : Inv X ((a, ob4) :: pins) σ6 H6 s6 := (S6.unsuite ok).pins_of fun p hp => by
        rcases List.mem_cons.mp hp with e | e
        · subst e
          exact S6.pin (a, ob4) (List.mem_append_left _ List.mem_cons_self)
        · exact (S6.unsuite ok).pin p (List.mem_append_right _ e)
      refine gone_ok P6 hN hi ln fun s7 J7 => hq s7 (inv_track J7 hex n0 np ?_)
      have e7 := (J7.pin (a, ob4) (List.mem_append_right _ List.mem_cons_self)).1
      exact exv_ok e7 z4 ⟨_, d4⟩
    refine store_ok (X := X.suite a ((a, ob4) :: (X.pn ++ pins))) (v := .ref a) S₄ hN hi (.inl ln) rfl (fun s5 S5 => ?_) (.inr ln)
    refine wpAny_mono ((hsu a ob4 cls d (X.pn ++ pins) z4 ⟨_, d4⟩).run [] s5 _ H' _ S5 (yes rfl J.len a na)) (fun f s6 hsp => ?_) (fun _ _ z => z.elim)
    cases f with
    | next => obtain ⟨σ6, H6, S6, z⟩ := hsp; exact gone S6 fun s7 J7 => ⟨_, _, J7, z⟩
    | brk => obtain ⟨σ6, H6, S6, z⟩ := hsp; exact gone S6 fun s7 J7 => ⟨_, _, J7, z⟩
    | cont => obtain ⟨σ6, H6, S6, z⟩ := hsp; exact gone S6 fun s7 J7 => ⟨_, _, J7, z⟩
    | ret u => obtain ⟨v, σ6, H6, S6, rv, z⟩ := hsp; exact gone S6 fun s7 J7 => ⟨_, _, _, J7, rv, z⟩
end
/-! ### B.__init__(self, ..), B an own class whose __init__ is ValueError's -/
structure BInit (K : PySem.W.Frag) (C : Addr) : Prop where
  rd : PySem.W.readsIn K C (.type "type") = true
  ga : PySem.W.specialIn K (.ref C) "__getattribute__" = some (some (.builtin "type.__getattribute__"))
  at_ : PySem.W.findCls K (.ref C) (.type "type") "__init__" = some (.val (.builtin "ValueError.__init__"))
theorem pe_finit {X : Cx} {x : Str} {C : Addr} {e : Expr} {es : List Expr} {ta : TA} {p1 p2 pos : Pos} {pl : Sem Bool} (hg : Gl X x) (hm : X.mg x = some (.ref C)) (Z : BInit X.K C) (ha : PA X (e :: es) ta) (hdb : (x == ("__debug__" : Str)) = false := by decide)
    (hc : eval (.Call (.Attribute (.Name x p1) "__init__" p2) (e :: es) [] pos) X.env = (do
      let ov ← eval (.Name x p1) X.env
      standAt p2.atName
      let (f, first) ← holding [ov] (getMethod ov "__init__" pl)
      callWith pos f first (backTo pos (starEach (e :: es) X.env)) (backToKw pos (keywordEach [] X.env))) := by rfl)
    (he : starEach (e :: es) X.env = (false, eval e X.env) :: starEach es X.env := by rfl) (hpl : (backTo pos (starEach es X.env)).any (·.1) = false := by rfl) :
    PE X (.Call (.Attribute (.Name x p1) "__init__" p2) (e :: es) [] pos) (tVeI X.K ta) := by
  refine ⟨fun pins s σ H Q I h => ?_⟩
  refine PySem.W.methodCall_KW (ld_glob I hg hm ?_ hdb) hc
  refine PySem.W.method_cls I.kIn Z.ga (PySem.W.cls_value I.kIn Z.rd Z.at_ rfl ?_)
  show wpAny _ _ (callWith pos (Value.builtin "ValueError.__init__") [] (backTo pos (starEach (e :: es) X.env)) []) _ _ _
  refine PyProof.Rows.callWith_method1 (thn (ha.run pos pins _ σ H _ (I.tok _) h) fun us s1 ⟨vs, H1, I1, r1, a, C, ws, ev, hl, T, ea, q⟩ => ?_) he hpl
  subst ev
  cases r1 with
  | @cons _ u0 _ ur ra rw' =>
    obtain rfl : u0 = Value.ref a := ra
    have hlen : ur.length ≤ sizeLine := by
      rw [← Paired.length rw', sizeLine_eq]
      omega
    exact oinit_ok T I1 ea hlen fun s' J => ⟨.non, H1, J, rfl, q⟩
end Gs

set_option Elab.async false
set_option linter.all false
set_option maxRecDepth 100000
set_option maxHeartbeats 4000000
namespace K0
open PySem PySem.Spec PyProof.Rows L2 Gs
def top (i : Nat) : Stmt := PySem.Challenge.pw_gapsame_k00_errors_keep_their_fields.main.body.getD i (.Pass ⟨0, 0, 0, 0⟩)
abbrev s_BadNumber___init__ : Stmt := inClass (top 3) 0
abbrev n_BadNumber___init__ : List Str := ["self", "part"]
theorem sc_BadNumber___init__ : FnScope n_BadNumber___init__ ["self", "part"] (defScope s_BadNumber___init__) := ⟨rfl, rfl, rfl, by decide +kernel, rfl, by decide +kernel, by decide +kernel⟩
abbrev s_BadSquare___init__ : Stmt := inClass (top 4) 0
abbrev n_BadSquare___init__ : List Str := ["self", "part"]
theorem sc_BadSquare___init__ : FnScope n_BadSquare___init__ ["self", "part"] (defScope s_BadSquare___init__) := ⟨rfl, rfl, rfl, by decide +kernel, rfl, by decide +kernel, by decide +kernel⟩
abbrev s_BadKind___init__ : Stmt := inClass (top 5) 0
abbrev n_BadKind___init__ : List Str := ["self", "part"]
theorem sc_BadKind___init__ : FnScope n_BadKind___init__ ["self", "part"] (defScope s_BadKind___init__) := ⟨rfl, rfl, rfl, by decide +kernel, rfl, by decide +kernel, by decide +kernel⟩
abbrev s_BadGame___init__ : Stmt := inClass (top 6) 0
abbrev n_BadGame___init__ : List Str := ["self", "part"]
theorem sc_BadGame___init__ : FnScope n_BadGame___init__ ["self", "part"] (defScope s_BadGame___init__) := ⟨rfl, rfl, rfl, by decide +kernel, rfl, by decide +kernel, by decide +kernel⟩
abbrev s_BadPosition___init__ : Stmt := inClass (top 7) 0
abbrev n_BadPosition___init__ : List Str := ["self", "part"]
theorem sc_BadPosition___init__ : FnScope n_BadPosition___init__ ["self", "part"] (defScope s_BadPosition___init__) := ⟨rfl, rfl, rfl, by decide +kernel, rfl, by decide +kernel, by decide +kernel⟩
abbrev s_BadMove___init__ : Stmt := inClass (top 8) 0
abbrev n_BadMove___init__ : List Str := ["self", "part"]
theorem sc_BadMove___init__ : FnScope n_BadMove___init__ ["self", "part"] (defScope s_BadMove___init__) := ⟨rfl, rfl, rfl, by decide +kernel, rfl, by decide +kernel, by decide +kernel⟩
abbrev s_BadPlay___init__ : Stmt := inClass (top 9) 0
abbrev n_BadPlay___init__ : List Str := ["self", "part"]
theorem sc_BadPlay___init__ : FnScope n_BadPlay___init__ ["self", "part"] (defScope s_BadPlay___init__) := ⟨rfl, rfl, rfl, by decide +kernel, rfl, by decide +kernel, by decide +kernel⟩
abbrev s_BadPaper___init__ : Stmt := inClass (top 10) 0
abbrev n_BadPaper___init__ : List Str := ["self", "part"]
theorem sc_BadPaper___init__ : FnScope n_BadPaper___init__ ["self", "part"] (defScope s_BadPaper___init__) := ⟨rfl, rfl, rfl, by decide +kernel, rfl, by decide +kernel, by decide +kernel⟩
abbrev s_BadWords___init__ : Stmt := inClass (top 11) 0
abbrev n_BadWords___init__ : List Str := ["self", "part"]
theorem sc_BadWords___init__ : FnScope n_BadWords___init__ ["self", "part"] (defScope s_BadWords___init__) := ⟨rfl, rfl, rfl, by decide +kernel, rfl, by decide +kernel, by decide +kernel⟩
abbrev s_Misfit___init__ : Stmt := inClass (top 12) 0
abbrev n_Misfit___init__ : List Str := ["self", "part"]
theorem sc_Misfit___init__ : FnScope n_Misfit___init__ ["self", "part"] (defScope s_Misfit___init__) := ⟨rfl, rfl, rfl, by decide +kernel, rfl, by decide +kernel, by decide +kernel⟩
abbrev s_NoName___init__ : Stmt := inClass (top 13) 0
abbrev n_NoName___init__ : List Str := ["self", "value"]
theorem sc_NoName___init__ : FnScope n_NoName___init__ ["self", "value"] (defScope s_NoName___init__) := ⟨rfl, rfl, rfl, by decide +kernel, rfl, by decide +kernel, by decide +kernel⟩
abbrev s_Twice___init__ : Stmt := inClass (top 14) 0
abbrev n_Twice___init__ : List Str := ["self", "value"]
theorem sc_Twice___init__ : FnScope n_Twice___init__ ["self", "value"] (defScope s_Twice___init__) := ⟨rfl, rfl, rfl, by decide +kernel, rfl, by decide +kernel, by decide +kernel⟩
abbrev s_TooMany___init__ : Stmt := inClass (top 15) 0
abbrev n_TooMany___init__ : List Str := ["self", "what", "most"]
theorem sc_TooMany___init__ : FnScope n_TooMany___init__ ["self", "what", "most"] (defScope s_TooMany___init__) := ⟨rfl, rfl, rfl, by decide +kernel, rfl, by decide +kernel, by decide +kernel⟩
abbrev s_BadText___init__ : Stmt := inClass (top 18) 0
abbrev n_BadText___init__ : List Str := ["self", "line", "item"]
theorem sc_BadText___init__ : FnScope n_BadText___init__ ["self", "line", "item"] (defScope s_BadText___init__) := ⟨rfl, rfl, rfl, by decide +kernel, rfl, by decide +kernel, by decide +kernel⟩
abbrev s_BadLine___init__ : Stmt := inClass (top 19) 0
abbrev n_BadLine___init__ : List Str := ["self", "line", "error"]
theorem sc_BadLine___init__ : FnScope n_BadLine___init__ ["self", "line", "error"] (defScope s_BadLine___init__) := ⟨rfl, rfl, rfl, by decide +kernel, rfl, by decide +kernel, by decide +kernel⟩
abbrev s_Nothing___init__ : Stmt := inClass (top 16) 0
abbrev n_Nothing___init__ : List Str := ["self"]
theorem sc_Nothing___init__ : FnScope n_Nothing___init__ ["self"] (defScope s_Nothing___init__) := ⟨rfl, rfl, rfl, by decide +kernel, rfl, by decide +kernel, by decide +kernel⟩
abbrev s_Over___init__ : Stmt := inClass (top 17) 0
abbrev n_Over___init__ : List Str := ["self"]
theorem sc_Over___init__ : FnScope n_Over___init__ ["self"] (defScope s_Over___init__) := ⟨rfl, rfl, rfl, by decide +kernel, rfl, by decide +kernel, by decide +kernel⟩
abbrev s_is_integer : Stmt := top 24
abbrev n_is_integer : List Str := ["value"]
theorem sc_is_integer : FnScope n_is_integer ["value"] (defScope s_is_integer) := ⟨rfl, rfl, rfl, by decide +kernel, rfl, by decide +kernel, by decide +kernel⟩
abbrev s_is_list : Stmt := top 26
abbrev n_is_list : List Str := ["value"]
theorem sc_is_list : FnScope n_is_list ["value"] (defScope s_is_list) := ⟨rfl, rfl, rfl, by decide +kernel, rfl, by decide +kernel, by decide +kernel⟩
abbrev s_is_square : Stmt := top 27
abbrev n_is_square : List Str := ["value"]
theorem sc_is_square : FnScope n_is_square ["value"] (defScope s_is_square) := ⟨rfl, rfl, rfl, by decide +kernel, rfl, by decide +kernel, by decide +kernel⟩
abbrev s_is_move : Stmt := top 28
abbrev n_is_move : List Str := ["value"]
theorem sc_is_move : FnScope n_is_move ["value"] (defScope s_is_move) := ⟨rfl, rfl, rfl, by decide +kernel, rfl, by decide +kernel, by decide +kernel⟩
abbrev s_is_name : Stmt := top 29
abbrev n_is_name : List Str := ["value", "sign"]
theorem sc_is_name : FnScope n_is_name ["value"] (defScope s_is_name) := ⟨rfl, rfl, rfl, by decide +kernel, rfl, by decide +kernel, by decide +kernel⟩
abbrev s_Kind___init__ : Stmt := inClass (top 39) 0
abbrev n_Kind___init__ : List Str := ["self", "name", "leaps", "rides", "is_lord", "leap", "ride"]
theorem sc_Kind___init__ : FnScope n_Kind___init__ ["self", "name", "leaps", "rides", "is_lord"] (defScope s_Kind___init__) := ⟨rfl, rfl, rfl, by decide +kernel, rfl, by decide +kernel, by decide +kernel⟩
abbrev s_steps_of : Stmt := top 40
abbrev n_steps_of : List Str := ["kind", "ride"]
theorem sc_steps_of : FnScope n_steps_of ["kind"] (defScope s_steps_of) := ⟨rfl, rfl, rfl, by decide +kernel, rfl, by decide +kernel, by decide +kernel⟩
abbrev s_gone_along : Stmt := top 52
abbrev n_gone_along : List Str := ["move", "how", "across", "up", "start", "end"]
theorem sc_gone_along : FnScope n_gone_along ["move", "how", "across", "up"] (defScope s_gone_along) := ⟨rfl, rfl, rfl, by decide +kernel, rfl, by decide +kernel, by decide +kernel⟩
abbrev s__law_pail : Stmt := top 56
abbrev n__law_pail : List Str := ["script", "cell"]
theorem sc__law_pail : FnScope n__law_pail ["script"] (defScope s__law_pail) := ⟨rfl, rfl, rfl, by decide +kernel, rfl, by decide +kernel, by decide +kernel⟩
abbrev s__law_scoop : Stmt := top 57
abbrev n__law_scoop : List Str := ["pail", "many", "rest", "at", "cell", "mixed"]
theorem sc__law_scoop : FnScope n__law_scoop ["pail", "many"] (defScope s__law_scoop) := ⟨rfl, rfl, rfl, by decide +kernel, rfl, by decide +kernel, by decide +kernel⟩
abbrev s__law_one : Stmt := top 58
abbrev n__law_one : List Str := ["pail", "some"]
theorem sc__law_one : FnScope n__law_one ["pail", "some"] (defScope s__law_one) := ⟨rfl, rfl, rfl, by decide +kernel, rfl, by decide +kernel, by decide +kernel⟩
abbrev s__law_value : Stmt := top 59
abbrev n__law_value : List Str := ["pail", "number", "some"]
theorem sc__law_value : FnScope n__law_value ["pail"] (defScope s__law_value) := ⟨rfl, rfl, rfl, by decide +kernel, rfl, by decide +kernel, by decide +kernel⟩
abbrev s__law_by_place : Stmt := top 60
abbrev n__law_by_place : List Str := ["at", "one", "other", "made"]
theorem sc__law_by_place : FnScope n__law_by_place ["at", "one", "other"] (defScope s__law_by_place) := ⟨rfl, rfl, rfl, by decide +kernel, rfl, by decide +kernel, by decide +kernel⟩
abbrev s__law_by_name : Stmt := top 61
abbrev n__law_by_name : List Str := ["at", "one", "other", "made"]
theorem sc__law_by_name : FnScope n__law_by_name ["at", "one", "other"] (defScope s__law_by_name) := ⟨rfl, rfl, rfl, by decide +kernel, rfl, by decide +kernel, by decide +kernel⟩
abbrev s__law_fields : Stmt := top 62
abbrev n__law_fields : List Str := ["at", "error"]
theorem sc__law_fields : FnScope n__law_fields ["at", "error"] (defScope s__law_fields) := ⟨rfl, rfl, rfl, by decide +kernel, rfl, by decide +kernel, by decide +kernel⟩
abbrev s__law_flags : Stmt := top 63
abbrev n__law_flags : List Str := ["error", "own"]
theorem sc__law_flags : FnScope n__law_flags ["error"] (defScope s__law_flags) := ⟨rfl, rfl, rfl, by decide +kernel, rfl, by decide +kernel, by decide +kernel⟩
abbrev s__law_is_far : Stmt := top 64
abbrev n__law_is_far : List Str := ["error"]
theorem sc__law_is_far : FnScope n__law_is_far ["error"] (defScope s__law_is_far) := ⟨rfl, rfl, rfl, by decide +kernel, rfl, by decide +kernel, by decide +kernel⟩
abbrev s__law_caught : Stmt := top 65
abbrev n__law_caught : List Str := ["ask", "caught", "error"]
theorem sc__law_caught : FnScope n__law_caught ["ask"] (defScope s__law_caught) := ⟨rfl, rfl, rfl, by decide +kernel, rfl, by decide +kernel, by decide +kernel⟩
abbrev s_law : Stmt := top 66
abbrev n_law : List Str := ["script", "pail", "at", "one", "other", "due", "error", "place", "raised", "heard"]
theorem sc_law : FnScope n_law ["script"] (defScope s_law) := ⟨rfl, rfl, rfl, by decide +kernel, rfl, by decide +kernel, by decide +kernel⟩
structure Tx (K : PySem.W.Frag) (mg : Str → Option Value) where
  t_E : Addr
  c_Kind : Addr
  c_FieldError : Addr
  c_BadNumber : Addr
  c_BadSquare : Addr
  c_BadKind : Addr
  c_BadGame : Addr
  c_BadPosition : Addr
  c_BadMove : Addr
  c_BadPlay : Addr
  c_BadPaper : Addr
  c_BadWords : Addr
  c_Misfit : Addr
  c_NoName : Addr
  c_Twice : Addr
  c_TooMany : Addr
  c_BadText : Addr
  c_BadLine : Addr
  c_Nothing : Addr
  c_Over : Addr
  a_BadNumber___init__ : Addr
  d_BadNumber___init__ : FuncData
  F_BadNumber___init__ : Fun K "__init__" "BadNumber.__init__" s_BadNumber___init__ a_BadNumber___init__ d_BadNumber___init__
  b_BadNumber___init__ : Binds K d_BadNumber___init__ ["self", "part"] []
  a_BadSquare___init__ : Addr
  d_BadSquare___init__ : FuncData
  F_BadSquare___init__ : Fun K "__init__" "BadSquare.__init__" s_BadSquare___init__ a_BadSquare___init__ d_BadSquare___init__
  b_BadSquare___init__ : Binds K d_BadSquare___init__ ["self", "part"] []
  a_BadKind___init__ : Addr
  d_BadKind___init__ : FuncData
  F_BadKind___init__ : Fun K "__init__" "BadKind.__init__" s_BadKind___init__ a_BadKind___init__ d_BadKind___init__
  b_BadKind___init__ : Binds K d_BadKind___init__ ["self", "part"] []
  a_BadGame___init__ : Addr
  d_BadGame___init__ : FuncData
  F_BadGame___init__ : Fun K "__init__" "BadGame.__init__" s_BadGame___init__ a_BadGame___init__ d_BadGame___init__
  b_BadGame___init__ : Binds K d_BadGame___init__ ["self", "part"] []
  a_BadPosition___init__ : Addr
  d_BadPosition___init__ : FuncData
  F_BadPosition___init__ : Fun K "__init__" "BadPosition.__init__" s_BadPosition___init__ a_BadPosition___init__ d_BadPosition___init__
  b_BadPosition___init__ : Binds K d_BadPosition___init__ ["self", "part"] []
  a_BadMove___init__ : Addr
  d_BadMove___init__ : FuncData
  F_BadMove___init__ : Fun K "__init__" "BadMove.__init__" s_BadMove___init__ a_BadMove___init__ d_BadMove___init__
  b_BadMove___init__ : Binds K d_BadMove___init__ ["self", "part"] []
  a_BadPlay___init__ : Addr
  d_BadPlay___init__ : FuncData
  F_BadPlay___init__ : Fun K "__init__" "BadPlay.__init__" s_BadPlay___init__ a_BadPlay___init__ d_BadPlay___init__
  b_BadPlay___init__ : Binds K d_BadPlay___init__ ["self", "part"] []
  a_BadPaper___init__ : Addr
  d_BadPaper___init__ : FuncData
  F_BadPaper___init__ : Fun K "__init__" "BadPaper.__init__" s_BadPaper___init__ a_BadPaper___init__ d_BadPaper___init__
  b_BadPaper___init__ : Binds K d_BadPaper___init__ ["self", "part"] []
  a_BadWords___init__ : Addr
  d_BadWords___init__ : FuncData
  F_BadWords___init__ : Fun K "__init__" "BadWords.__init__" s_BadWords___init__ a_BadWords___init__ d_BadWords___init__
  b_BadWords___init__ : Binds K d_BadWords___init__ ["self", "part"] []
  a_Misfit___init__ : Addr
  d_Misfit___init__ : FuncData
  F_Misfit___init__ : Fun K "__init__" "Misfit.__init__" s_Misfit___init__ a_Misfit___init__ d_Misfit___init__
  b_Misfit___init__ : Binds K d_Misfit___init__ ["self", "part"] []
  a_NoName___init__ : Addr
  d_NoName___init__ : FuncData
  F_NoName___init__ : Fun K "__init__" "NoName.__init__" s_NoName___init__ a_NoName___init__ d_NoName___init__
  b_NoName___init__ : Binds K d_NoName___init__ ["self", "value"] []
  a_Twice___init__ : Addr
  d_Twice___init__ : FuncData
  F_Twice___init__ : Fun K "__init__" "Twice.__init__" s_Twice___init__ a_Twice___init__ d_Twice___init__
  b_Twice___init__ : Binds K d_Twice___init__ ["self", "value"] []
  a_TooMany___init__ : Addr
  d_TooMany___init__ : FuncData
  F_TooMany___init__ : Fun K "__init__" "TooMany.__init__" s_TooMany___init__ a_TooMany___init__ d_TooMany___init__
  b_TooMany___init__ : Binds K d_TooMany___init__ ["self", "what", "most"] []
  a_BadText___init__ : Addr
  d_BadText___init__ : FuncData
  F_BadText___init__ : Fun K "__init__" "BadText.__init__" s_BadText___init__ a_BadText___init__ d_BadText___init__
  b_BadText___init__ : Binds K d_BadText___init__ ["self", "line", "item"] []
  a_BadLine___init__ : Addr
  d_BadLine___init__ : FuncData
  F_BadLine___init__ : Fun K "__init__" "BadLine.__init__" s_BadLine___init__ a_BadLine___init__ d_BadLine___init__
  b_BadLine___init__ : Binds K d_BadLine___init__ ["self", "line", "error"] []
  a_Nothing___init__ : Addr
  d_Nothing___init__ : FuncData
  F_Nothing___init__ : Fun K "__init__" "Nothing.__init__" s_Nothing___init__ a_Nothing___init__ d_Nothing___init__
  b_Nothing___init__ : Binds K d_Nothing___init__ ["self"] []
  a_Over___init__ : Addr
  d_Over___init__ : FuncData
  F_Over___init__ : Fun K "__init__" "Over.__init__" s_Over___init__ a_Over___init__ d_Over___init__
  b_Over___init__ : Binds K d_Over___init__ ["self"] []
  a_is_integer : Addr
  d_is_integer : FuncData
  F_is_integer : Fun K "is_integer" "is_integer" s_is_integer a_is_integer d_is_integer
  m_is_integer : mg "is_integer" = some (.ref a_is_integer)
  b_is_integer : Binds K d_is_integer ["value"] []
  a_is_list : Addr
  d_is_list : FuncData
  F_is_list : Fun K "is_list" "is_list" s_is_list a_is_list d_is_list
  m_is_list : mg "is_list" = some (.ref a_is_list)
  b_is_list : Binds K d_is_list ["value"] []
  a_is_square : Addr
  d_is_square : FuncData
  F_is_square : Fun K "is_square" "is_square" s_is_square a_is_square d_is_square
  m_is_square : mg "is_square" = some (.ref a_is_square)
  b_is_square : Binds K d_is_square ["value"] []
  a_is_move : Addr
  d_is_move : FuncData
  F_is_move : Fun K "is_move" "is_move" s_is_move a_is_move d_is_move
  m_is_move : mg "is_move" = some (.ref a_is_move)
  b_is_move : Binds K d_is_move ["value"] []
  a_is_name : Addr
  d_is_name : FuncData
  F_is_name : Fun K "is_name" "is_name" s_is_name a_is_name d_is_name
  m_is_name : mg "is_name" = some (.ref a_is_name)
  b_is_name : Binds K d_is_name ["value"] []
  a_Kind___init__ : Addr
  d_Kind___init__ : FuncData
  F_Kind___init__ : FunD K "__init__" "Kind.__init__" (defArgs s_Kind___init__) (defBody s_Kind___init__) (defScope s_Kind___init__) [.ref t_E, .bl false] [] a_Kind___init__ d_Kind___init__
  a_steps_of : Addr
  d_steps_of : FuncData
  F_steps_of : Fun K "steps_of" "steps_of" s_steps_of a_steps_of d_steps_of
  m_steps_of : mg "steps_of" = some (.ref a_steps_of)
  b_steps_of : Binds K d_steps_of ["kind"] []
  a_gone_along : Addr
  d_gone_along : FuncData
  F_gone_along : FunD K "gone_along" "gone_along" (defArgs s_gone_along) (defBody s_gone_along) (defScope s_gone_along) [.int 0, .int 0] [] a_gone_along d_gone_along
  a__law_pail : Addr
  d__law_pail : FuncData
  F__law_pail : Fun K "_law_pail" "_law_pail" s__law_pail a__law_pail d__law_pail
  m__law_pail : mg "_law_pail" = some (.ref a__law_pail)
  b__law_pail : Binds K d__law_pail ["script"] []
  a__law_scoop : Addr
  d__law_scoop : FuncData
  F__law_scoop : Fun K "_law_scoop" "_law_scoop" s__law_scoop a__law_scoop d__law_scoop
  m__law_scoop : mg "_law_scoop" = some (.ref a__law_scoop)
  b__law_scoop : Binds K d__law_scoop ["pail", "many"] []
  a__law_one : Addr
  d__law_one : FuncData
  F__law_one : Fun K "_law_one" "_law_one" s__law_one a__law_one d__law_one
  m__law_one : mg "_law_one" = some (.ref a__law_one)
  b__law_one : Binds K d__law_one ["pail", "some"] []
  a__law_value : Addr
  d__law_value : FuncData
  F__law_value : Fun K "_law_value" "_law_value" s__law_value a__law_value d__law_value
  m__law_value : mg "_law_value" = some (.ref a__law_value)
  b__law_value : Binds K d__law_value ["pail"] []
  a__law_by_place : Addr
  d__law_by_place : FuncData
  F__law_by_place : Fun K "_law_by_place" "_law_by_place" s__law_by_place a__law_by_place d__law_by_place
  m__law_by_place : mg "_law_by_place" = some (.ref a__law_by_place)
  b__law_by_place : Binds K d__law_by_place ["at", "one", "other"] []
  a__law_by_name : Addr
  d__law_by_name : FuncData
  F__law_by_name : Fun K "_law_by_name" "_law_by_name" s__law_by_name a__law_by_name d__law_by_name
  m__law_by_name : mg "_law_by_name" = some (.ref a__law_by_name)
  b__law_by_name : Binds K d__law_by_name ["at", "one", "other"] []
  a__law_fields : Addr
  d__law_fields : FuncData
  F__law_fields : Fun K "_law_fields" "_law_fields" s__law_fields a__law_fields d__law_fields
  m__law_fields : mg "_law_fields" = some (.ref a__law_fields)
  b__law_fields : Binds K d__law_fields ["at", "error"] []
  a__law_flags : Addr
  d__law_flags : FuncData
  F__law_flags : Fun K "_law_flags" "_law_flags" s__law_flags a__law_flags d__law_flags
  m__law_flags : mg "_law_flags" = some (.ref a__law_flags)
  b__law_flags : Binds K d__law_flags ["error"] []
  a__law_is_far : Addr
  d__law_is_far : FuncData
  F__law_is_far : Fun K "_law_is_far" "_law_is_far" s__law_is_far a__law_is_far d__law_is_far
  m__law_is_far : mg "_law_is_far" = some (.ref a__law_is_far)
  b__law_is_far : Binds K d__law_is_far ["error"] []
  a__law_caught : Addr
  d__law_caught : FuncData
  F__law_caught : Fun K "_law_caught" "_law_caught" s__law_caught a__law_caught d__law_caught
  m__law_caught : mg "_law_caught" = some (.ref a__law_caught)
  b__law_caught : Binds K d__law_caught ["ask"] []
  a_law : Addr
  d_law : FuncData
  F_law : Fun K "law" "law" s_law a_law d_law
  m_law : mg "law" = some (.ref a_law)
  b_law : Binds K d_law ["script"] []
  m_Kind : mg "Kind" = some (.ref c_Kind)
  cl_Kind : Cls K c_Kind
  mk_Kind : Mk K c_Kind a_Kind___init__
  m_FieldError : mg "FieldError" = some (.ref c_FieldError)
  ox_FieldError : OexC K c_FieldError
  xf_FieldError : XfC K c_FieldError
  m_BadNumber : mg "BadNumber" = some (.ref c_BadNumber)
  ox_BadNumber : OexC K c_BadNumber
  ic_BadNumber : PySem.W.findIn K (.ref c_BadNumber) "__init__" = some (some (.ref a_BadNumber___init__))
  ti_BadNumber : PySem.W.typeIn K (.ref a_BadNumber___init__) = some (.type "function")
  xf_BadNumber : XfC K c_BadNumber
  no_BadNumber_part : PySem.W.findIn K (.ref c_BadNumber) "part" = some none
  m_BadSquare : mg "BadSquare" = some (.ref c_BadSquare)
  ox_BadSquare : OexC K c_BadSquare
  ic_BadSquare : PySem.W.findIn K (.ref c_BadSquare) "__init__" = some (some (.ref a_BadSquare___init__))
  ti_BadSquare : PySem.W.typeIn K (.ref a_BadSquare___init__) = some (.type "function")
  xf_BadSquare : XfC K c_BadSquare
  no_BadSquare_part : PySem.W.findIn K (.ref c_BadSquare) "part" = some none
  m_BadKind : mg "BadKind" = some (.ref c_BadKind)
  ox_BadKind : OexC K c_BadKind
  ic_BadKind : PySem.W.findIn K (.ref c_BadKind) "__init__" = some (some (.ref a_BadKind___init__))
  ti_BadKind : PySem.W.typeIn K (.ref a_BadKind___init__) = some (.type "function")
  xf_BadKind : XfC K c_BadKind
  no_BadKind_part : PySem.W.findIn K (.ref c_BadKind) "part" = some none
  m_BadGame : mg "BadGame" = some (.ref c_BadGame)
  ox_BadGame : OexC K c_BadGame
  ic_BadGame : PySem.W.findIn K (.ref c_BadGame) "__init__" = some (some (.ref a_BadGame___init__))
  ti_BadGame : PySem.W.typeIn K (.ref a_BadGame___init__) = some (.type "function")
  xf_BadGame : XfC K c_BadGame
  no_BadGame_part : PySem.W.findIn K (.ref c_BadGame) "part" = some none
  m_BadPosition : mg "BadPosition" = some (.ref c_BadPosition)
  ox_BadPosition : OexC K c_BadPosition
  ic_BadPosition : PySem.W.findIn K (.ref c_BadPosition) "__init__" = some (some (.ref a_BadPosition___init__))
  ti_BadPosition : PySem.W.typeIn K (.ref a_BadPosition___init__) = some (.type "function")
  xf_BadPosition : XfC K c_BadPosition
  no_BadPosition_part : PySem.W.findIn K (.ref c_BadPosition) "part" = some none
  m_BadMove : mg "BadMove" = some (.ref c_BadMove)
  ox_BadMove : OexC K c_BadMove
  ic_BadMove : PySem.W.findIn K (.ref c_BadMove) "__init__" = some (some (.ref a_BadMove___init__))
  ti_BadMove : PySem.W.typeIn K (.ref a_BadMove___init__) = some (.type "function")
  xf_BadMove : XfC K c_BadMove
  no_BadMove_part : PySem.W.findIn K (.ref c_BadMove) "part" = some none
  m_BadPlay : mg "BadPlay" = some (.ref c_BadPlay)
  ox_BadPlay : OexC K c_BadPlay
  ic_BadPlay : PySem.W.findIn K (.ref c_BadPlay) "__init__" = some (some (.ref a_BadPlay___init__))
  ti_BadPlay : PySem.W.typeIn K (.ref a_BadPlay___init__) = some (.type "function")
  xf_BadPlay : XfC K c_BadPlay
  no_BadPlay_part : PySem.W.findIn K (.ref c_BadPlay) "part" = some none
  m_BadPaper : mg "BadPaper" = some (.ref c_BadPaper)
  ox_BadPaper : OexC K c_BadPaper
  ic_BadPaper : PySem.W.findIn K (.ref c_BadPaper) "__init__" = some (some (.ref a_BadPaper___init__))
  ti_BadPaper : PySem.W.typeIn K (.ref a_BadPaper___init__) = some (.type "function")
  xf_BadPaper : XfC K c_BadPaper
  no_BadPaper_part : PySem.W.findIn K (.ref c_BadPaper) "part" = some none
  m_BadWords : mg "BadWords" = some (.ref c_BadWords)
  ox_BadWords : OexC K c_BadWords
  ic_BadWords : PySem.W.findIn K (.ref c_BadWords) "__init__" = some (some (.ref a_BadWords___init__))
  ti_BadWords : PySem.W.typeIn K (.ref a_BadWords___init__) = some (.type "function")
  xf_BadWords : XfC K c_BadWords
  no_BadWords_part : PySem.W.findIn K (.ref c_BadWords) "part" = some none
  m_Misfit : mg "Misfit" = some (.ref c_Misfit)
  ox_Misfit : OexC K c_Misfit
  ic_Misfit : PySem.W.findIn K (.ref c_Misfit) "__init__" = some (some (.ref a_Misfit___init__))
  ti_Misfit : PySem.W.typeIn K (.ref a_Misfit___init__) = some (.type "function")
  xf_Misfit : XfC K c_Misfit
  no_Misfit_part : PySem.W.findIn K (.ref c_Misfit) "part" = some none
  m_NoName : mg "NoName" = some (.ref c_NoName)
  ox_NoName : OexC K c_NoName
  ic_NoName : PySem.W.findIn K (.ref c_NoName) "__init__" = some (some (.ref a_NoName___init__))
  ti_NoName : PySem.W.typeIn K (.ref a_NoName___init__) = some (.type "function")
  xf_NoName : XfC K c_NoName
  no_NoName_value : PySem.W.findIn K (.ref c_NoName) "value" = some none
  m_Twice : mg "Twice" = some (.ref c_Twice)
  ox_Twice : OexC K c_Twice
  ic_Twice : PySem.W.findIn K (.ref c_Twice) "__init__" = some (some (.ref a_Twice___init__))
  ti_Twice : PySem.W.typeIn K (.ref a_Twice___init__) = some (.type "function")
  xf_Twice : XfC K c_Twice
  no_Twice_value : PySem.W.findIn K (.ref c_Twice) "value" = some none
  m_TooMany : mg "TooMany" = some (.ref c_TooMany)
  ox_TooMany : OexC K c_TooMany
  ic_TooMany : PySem.W.findIn K (.ref c_TooMany) "__init__" = some (some (.ref a_TooMany___init__))
  ti_TooMany : PySem.W.typeIn K (.ref a_TooMany___init__) = some (.type "function")
  xf_TooMany : XfC K c_TooMany
  no_TooMany_what : PySem.W.findIn K (.ref c_TooMany) "what" = some none
  no_TooMany_most : PySem.W.findIn K (.ref c_TooMany) "most" = some none
  m_BadText : mg "BadText" = some (.ref c_BadText)
  ox_BadText : OexC K c_BadText
  ic_BadText : PySem.W.findIn K (.ref c_BadText) "__init__" = some (some (.ref a_BadText___init__))
  ti_BadText : PySem.W.typeIn K (.ref a_BadText___init__) = some (.type "function")
  xf_BadText : XfC K c_BadText
  no_BadText_line : PySem.W.findIn K (.ref c_BadText) "line" = some none
  no_BadText_item : PySem.W.findIn K (.ref c_BadText) "item" = some none
  m_BadLine : mg "BadLine" = some (.ref c_BadLine)
  ox_BadLine : OexC K c_BadLine
  ic_BadLine : PySem.W.findIn K (.ref c_BadLine) "__init__" = some (some (.ref a_BadLine___init__))
  ti_BadLine : PySem.W.typeIn K (.ref a_BadLine___init__) = some (.type "function")
  xf_BadLine : XfC K c_BadLine
  no_BadLine_line : PySem.W.findIn K (.ref c_BadLine) "line" = some none
  no_BadLine_error : PySem.W.findIn K (.ref c_BadLine) "error" = some none
  m_Nothing : mg "Nothing" = some (.ref c_Nothing)
  ox_Nothing : OexC K c_Nothing
  ic_Nothing : PySem.W.findIn K (.ref c_Nothing) "__init__" = some (some (.ref a_Nothing___init__))
  ti_Nothing : PySem.W.typeIn K (.ref a_Nothing___init__) = some (.type "function")
  xf_Nothing : XfC K c_Nothing
  m_Over : mg "Over" = some (.ref c_Over)
  ox_Over : OexC K c_Over
  ic_Over : PySem.W.findIn K (.ref c_Over) "__init__" = some (some (.ref a_Over___init__))
  ti_Over : PySem.W.typeIn K (.ref a_Over___init__) = some (.type "function")
  xf_Over : XfC K c_Over
  xm_BadKind_FieldError : PySem.W.exmOne K (.ref c_BadKind) (.ref c_FieldError) = some true
  xm_BadMove_FieldError : PySem.W.exmOne K (.ref c_BadMove) (.ref c_FieldError) = some true
  xm_BadWords_FieldError : PySem.W.exmOne K (.ref c_BadWords) (.ref c_FieldError) = some true
  z_isinstance : mg "isinstance" = none
  z_int : mg "int" = none
  z_bool : mg "bool" = none
  z_list : mg "list" = none
  z_tuple : mg "tuple" = none
  z_len : mg "len" = none
  z_str : mg "str" = none
  z_all : mg "all" = none
  z_abs : mg "abs" = none
  z_range : mg "range" = none
  z_repr : mg "repr" = none
  z_LookupError : mg "LookupError" = none
  z_TypeError : mg "TypeError" = none
  z_ArithmeticError : mg "ArithmeticError" = none
  z_AttributeError : mg "AttributeError" = none
  z_RuntimeError : mg "RuntimeError" = none
  z_ValueError : mg "ValueError" = none
  g_LONGEST : ∃ t, mg "LONGEST_NAME" = some (.int 8 t)
  m_gone : mg "gone_along" = some (.ref a_gone_along)
  kn_Kind : PySem.W.kitOne K (.type "str") (.ref c_Kind) = some false
  bi_F : Gs.BInit K c_FieldError
  kk : ∀ (i j : Nat) (a b : Addr), ([c_BadNumber, c_BadSquare, c_BadKind, c_BadGame, c_BadPosition, c_BadMove, c_BadPlay, c_BadPaper, c_BadWords, c_Misfit, c_NoName, c_Twice, c_TooMany, c_BadText, c_BadLine, c_Nothing, c_Over] : List Addr)[i]? = some a → ([c_BadNumber, c_BadSquare, c_BadKind, c_BadGame, c_BadPosition, c_BadMove, c_BadPlay, c_BadPaper, c_BadWords, c_Misfit, c_NoName, c_Twice, c_TooMany, c_BadText, c_BadLine, c_Nothing, c_Over] : List Addr)[j]? = some b → PySem.W.kitOne K (.ref b) (.ref a) = some (decide (i = j))
  kF : ∀ a ∈ ([c_BadNumber, c_BadSquare, c_BadKind, c_BadGame, c_BadPosition, c_BadMove, c_BadPlay, c_BadPaper, c_BadWords, c_Misfit, c_NoName, c_Twice, c_TooMany, c_BadText, c_BadLine, c_Nothing, c_Over] : List Addr), PySem.W.kitOne K (.ref a) (.ref c_FieldError) = some true
  kV : ∀ a ∈ ([c_BadNumber, c_BadSquare, c_BadKind, c_BadGame, c_BadPosition, c_BadMove, c_BadPlay, c_BadPaper, c_BadWords, c_Misfit, c_NoName, c_Twice, c_TooMany, c_BadText, c_BadLine, c_Nothing, c_Over] : List Addr), PySem.W.kitOne K (.ref a) (.type "ValueError") = some true
  kfar : ∀ a ∈ ([c_BadNumber, c_BadSquare, c_BadKind, c_BadGame, c_BadPosition, c_BadMove, c_BadPlay, c_BadPaper, c_BadWords, c_Misfit, c_NoName, c_Twice, c_TooMany, c_BadText, c_BadLine, c_Nothing, c_Over] : List Addr), PySem.W.kitAny K (.ref a) [.type "LookupError", .type "TypeError", .type "ArithmeticError", .type "AttributeError", .type "RuntimeError"] = some false
  xc : ∀ a ∈ ([c_BadNumber, c_BadSquare, c_BadKind, c_BadGame, c_BadPosition, c_BadMove, c_BadPlay, c_BadPaper, c_BadWords, c_Misfit, c_NoName, c_Twice, c_TooMany, c_BadText, c_BadLine, c_Nothing, c_Over] : List Addr), ExcC K a
  t_W : Addr
  g_W : mg "WAYS" = some (.ref t_W)
  s_W : ∀ H, SqT K H t_W [.str "turned", .str "mirrored", .str "moved"]
  kb_BadNumber : Gs.KB K d_BadNumber___init__ ["self", "part"] ["part"] 1 (fun us ws => us ++ ws.reverse) (fun us ws => us ++ ws.reverse)
  kb_BadSquare : Gs.KB K d_BadSquare___init__ ["self", "part"] ["part"] 1 (fun us ws => us ++ ws.reverse) (fun us ws => us ++ ws.reverse)
  kb_BadKind : Gs.KB K d_BadKind___init__ ["self", "part"] ["part"] 1 (fun us ws => us ++ ws.reverse) (fun us ws => us ++ ws.reverse)
  kb_BadGame : Gs.KB K d_BadGame___init__ ["self", "part"] ["part"] 1 (fun us ws => us ++ ws.reverse) (fun us ws => us ++ ws.reverse)
  kb_BadPosition : Gs.KB K d_BadPosition___init__ ["self", "part"] ["part"] 1 (fun us ws => us ++ ws.reverse) (fun us ws => us ++ ws.reverse)
  kb_BadMove : Gs.KB K d_BadMove___init__ ["self", "part"] ["part"] 1 (fun us ws => us ++ ws.reverse) (fun us ws => us ++ ws.reverse)
  kb_BadPlay : Gs.KB K d_BadPlay___init__ ["self", "part"] ["part"] 1 (fun us ws => us ++ ws.reverse) (fun us ws => us ++ ws.reverse)
  kb_BadPaper : Gs.KB K d_BadPaper___init__ ["self", "part"] ["part"] 1 (fun us ws => us ++ ws.reverse) (fun us ws => us ++ ws.reverse)
  kb_BadWords : Gs.KB K d_BadWords___init__ ["self", "part"] ["part"] 1 (fun us ws => us ++ ws.reverse) (fun us ws => us ++ ws.reverse)
  kb_Misfit : Gs.KB K d_Misfit___init__ ["self", "part"] ["part"] 1 (fun us ws => us ++ ws.reverse) (fun us ws => us ++ ws.reverse)
  kb_NoName : Gs.KB K d_NoName___init__ ["self", "value"] ["value"] 1 (fun us ws => us ++ ws.reverse) (fun us ws => us ++ ws.reverse)
  kb_Twice : Gs.KB K d_Twice___init__ ["self", "value"] ["value"] 1 (fun us ws => us ++ ws.reverse) (fun us ws => us ++ ws.reverse)
  kb_TooMany : Gs.KB K d_TooMany___init__ ["self", "what", "most"] ["most", "what"] 1 (fun us ws => us ++ ws.reverse) (fun us ws => us ++ ws.reverse)
  kb_BadText : Gs.KB K d_BadText___init__ ["self", "line", "item"] ["item", "line"] 1 (fun us ws => us ++ ws.reverse) (fun us ws => us ++ ws.reverse)
  kb_BadLine : Gs.KB K d_BadLine___init__ ["self", "line", "error"] ["error", "line"] 1 (fun us ws => us ++ ws.reverse) (fun us ws => us ++ ws.reverse)

section
variable {P : Program} {w : World} {K : PySem.W.Frag} {mg : Str → Option Value} {base : Heap}
def spCrate (K : PySem.W.Frag) : Sp := fun vs H Q _ => ∃ (a : Addr) (ns : List Int), vs = [.ref a] ∧ SqL K H a (ns.map V.int) ∧ ns.length ≤ 63 ∧
  ∀ c l H', H c = none → H l = none → Ext c H H' → Bag c l 0 H' → Q (.ref c) H'
theorem cut60 (ns : List Int) : cutV (ns.map V.int) none (some 60) = (ns.take 60).map V.int := by
  unfold cutV
  rw [HT.sIx_none, show (some (60 : Int)) = some ((60 : Nat) : Int) from rfl, HT.sIx_nat, List.drop_zero, Nat.sub_zero, List.map_take, ← List.take_take, List.take_length]
theorem G__law_pail (T : Tx K mg) : FnG P w K mg base CX0 1 T.a__law_pail T.d__law_pail ["script"] (spCrate K) := by
  refine fun_okG T.F__law_pail sc__law_pail (fun vs H Q E h => ?_) (fun cdv A outer s H vs Q E hr hg h => ?_)
  · obtain ⟨a, ns, rfl, _⟩ := h; rfl
  · obtain ⟨a, ns, rfl, hS, hl, k⟩ := h
    refine ⟨_, (pss_one (ps_ret (pe_lst (pa_cons (pe_lc (own := [("cell", 1)]) (g := (gName 1)) rfl sc__law_pail.nd (pi_list (pe_slice sl_list (pv 0) po_none (po_some pe_int))) (blkOk_by (N := n__law_pail) (sc := defScope s__law_pail) (by decide +kernel)) (fun _ _ _ _ _ => (pg_name (i := 1) sc__law_pail.nd rfl (Or.inl rfl))) (fun _ _ _ _ _ => pts_nil) (fun _ _ _ _ _ => (pe_callTy call_int1 (by rfl) T.z_int (by decide +kernel) (pa_cons (pv 1) pa_nil)))) (pa_cons pe_int (pa_cons pe_int pa_nil)))))), ?_⟩
    refine ⟨_, rfl, _, rfl, a, _, rfl, hS, fun p hp => ?_⟩
    rw [cut60]
    have h60 : (ns.take 60).length ≤ 60 := List.length_take_le ..
    revert h60
    generalize ns.take 60 = ks
    intro h60
    refine ⟨p, rfl, ⟨_, .of upd_same⟩, fun D hD => ?_⟩
    have np : p ≠ D := fun e => by rw [← e, upd_same] at hD; cases hD
    have hD0 : H D = none := by rwa [upd_ne np.symm] at hD
    refine lc_list (K := K) (a := p) (xs := ks.map V.int) (fun i H' => H' p = some (.lst (ks.map V.int)) ∧ H' D = some (.lst ((ks.take i).map V.int)) ∧ ∀ b o, H b = some o → H' b = some o) ?_ ?_ ?_ ?_
    · refine ⟨by rw [upd_ne np, upd_same], upd_same, fun b o e => ?_⟩
      rw [upd_ne (ne_of_none e hD0), upd_ne (ne_of_none e hp)]; exact e
    · intro i H' _ h; exact .of h.1
    · rintro i x H' hx ⟨h1, h2, h3⟩
      obtain ⟨v, hv, rfl⟩ : ∃ v, ks[i]? = some v ∧ V.int v = x := by
        rw [List.getElem?_map] at hx
        cases e : ks[i]? with
        | none => rw [e] at hx; cases hx
        | some v => rw [e] at hx; exact ⟨v, rfl, Option.some.inj hx⟩
      refine ⟨rfl, ?_⟩
      refine ⟨_, rfl, .inl ⟨v, rfl, _, h2, ?_, ?_, ?_, ?_⟩⟩
      · rw [List.length_map]; exact szs (Nat.lt_of_le_of_lt (List.length_take_le' ..) (by omega))
      · rw [upd_ne np]; exact h1
      · rw [upd_same, List.take_add_one, hv, List.map_append]; rfl
      · intro b o e; rw [upd_ne (ne_of_none e hD0)]; exact h3 _ _ e
    · rintro H' ⟨h1, h2, h3⟩
      rw [List.length_map, List.take_length] at h2
      refine ⟨szl rfl, fun c hc => ?_⟩
      have nc : D ≠ c := ne_of_none h2 hc
      have hc0 : H c = none := by
        cases e : H c with
        | none => rfl
        | some o => rw [h3 _ _ e] at hc; cases hc
      refine k c D _ hc0 hD0 (fun b o _ e => ?_) ⟨ks, 0, 0, upd_same, by rw [upd_ne nc]; exact h2, nc, h60, by decide, by decide, by decide⟩
      rw [upd_ne (ne_of_none e hc0)]; exact h3 _ _ e
end
end K0

set_option Elab.async false
set_option linter.all false
set_option maxRecDepth 100000
set_option maxHeartbeats 4000000
namespace K0
open PySem PySem.Spec PyProof.Rows L2 Gs
section
variable {P : Program} {w : World} {K : PySem.W.Frag} {mg : Str → Option Value} {base : Heap}
def spLift : Sp := fun vs H Q _ => ∃ (c l : Addr) (n : Nat) (m : Int), vs = [.ref c, .int m] ∧ Bag c l n H ∧ n ≤ 1000000 ∧ 0 < m ∧ m < 1073741824 ∧
  ∀ v H', 0 ≤ v → v < m → Bag c l (n + 1) H' → Ext c H H' → Q (.int v) H'
theorem G__law_scoop (T : Tx K mg) : FnG P w K mg base CX0 1 T.a__law_scoop T.d__law_scoop ["pail", "many"] spLift := by
  refine fun_okG T.F__law_scoop sc__law_scoop (fun vs H Q E h => ?_) (fun cdv A outer s H vs Q E hr hg h => ?_)
  · obtain ⟨c, l, n, m, rfl, _⟩ := h; rfl
  · obtain ⟨c, l, n, m, rfl, ⟨ns, pt, rest, hc, hl, nlc, hn, h0, h1, h2⟩, hN, hm0, hm1, k⟩ := h
    refine ⟨_, (pss_cons (ps_if (pt_cmpR (op_eqD hr.units) (pe_ix ix_list (pv 0) pe_int (fun _ _ => rfl)) (pe_lst pa_nil) (nomark _)) (pss_one (ps_ret pe_int)) pss_nil)
      (pss_cons (ps_if (pt_cmpR op_gt (pe_ix ix_list (pv 0) pe_int (fun _ _ => rfl)) pe_int (nomark _)) (pss_cons (ps_set (i := 2) sc__law_scoop.nd rfl (Or.inl rfl) (pe_callTy call_int1 (by rfl) T.z_int (by decide +kernel) (pa_cons (pe_ix ix_list (pv 0) pe_int (fun _ _ => rfl)) pa_nil)))
      (pss_cons (ps_asg (pe_op op_fdiv (pv 2) (pv 1)) (pg_sub (pv 0) pe_int set_list))
      (pss_one (ps_ret (pe_op op_mod (pe_callTy call_int1 (by rfl) T.z_int (by decide +kernel) (pa_cons (pv 2) pa_nil)) (pv 1)))))) pss_nil)
      (pss_cons (ps_set (i := 3) sc__law_scoop.nd rfl (Or.inl rfl) (pe_ix ix_list (pv 0) pe_int (fun _ _ => rfl)))
      (pss_cons (ps_asg (pe_op op_add (pv 3) pe_int) (pg_sub (pv 0) pe_int set_list))
      (pss_cons (ps_set (i := 4) sc__law_scoop.nd rfl (Or.inl rfl) (pe_ix ix_list (pe_ix ix_list (pv 0) pe_int (fun _ _ => rfl)) (pe_op op_mod (pe_callTy call_int1 (by rfl) T.z_int (by decide +kernel) (pa_cons (pv 3) pa_nil)) (pe_callB call_len_seq (by rfl) T.z_len (by decide +kernel) (pa_cons (pe_ix ix_list (pv 0) pe_int (fun _ _ => rfl)) pa_nil))) (fun _ _ => rfl)))
      (pss_cons (ps_if (PW.pt (pw_and (pt_cmpR op_lt (pv 3) (pe_callB call_len_seq (by rfl) T.z_len (by decide +kernel) (pa_cons (pe_ix ix_list (pv 0) pe_int (fun _ _ => rfl)) pa_nil)) (nomark _)) (pw_and1 (pt_cmpR op_ge (pe_callB call_abs (by rfl) T.z_abs (by decide +kernel) (pa_cons (pv 4) pa_nil)) (pe_op op_pow pe_int pe_int) (nomark _))))) (pss_cons (ps_set (i := 2) sc__law_scoop.nd rfl (Or.inl rfl) (pe_op op_add (pe_op op_mul pe_int (pe_op op_sub (pe_callB call_abs (by rfl) T.z_abs (by decide +kernel) (pa_cons (pv 4) pa_nil)) (pe_op op_pow pe_int pe_int))) (pe_callTy call_int1 (by rfl) T.z_int (by decide +kernel) (pa_cons (pe_cmpR op_lt (pv 4) pe_int (nomark _)) pa_nil))))
      (pss_cons (ps_asg (pe_op op_fdiv (pe_callTy call_int1 (by rfl) T.z_int (by decide +kernel) (pa_cons (pv 2) pa_nil)) (pv 1)) (pg_sub (pv 0) pe_int set_list))
      (pss_one (ps_ret (pe_op op_mod (pe_callTy call_int1 (by rfl) T.z_int (by decide +kernel) (pa_cons (pv 2) pa_nil)) (pv 1)))))) pss_nil)
      (pss_cons (ps_set (i := 5) sc__law_scoop.nd rfl (Or.inl rfl) (pe_op op_mod (pe_callTy call_int1 (by rfl) T.z_int (by decide +kernel) (pa_cons (pe_op op_pow (pe_op op_add (pe_op op_add (pe_op op_mod (pe_callTy call_int1 (by rfl) T.z_int (by decide +kernel) (pa_cons (pv 4) pa_nil)) pe_int) (pe_op op_mul pe_int (pv 3))) pe_int) pe_int) pa_nil)) pe_int))
      (pss_cons (ps_set (i := 5) sc__law_scoop.nd rfl (Or.inl rfl) (pe_op op_mod (pe_callTy call_int1 (by rfl) T.z_int (by decide +kernel) (pa_cons (pe_op op_pow (pe_op op_add (pe_op op_add (pe_op op_mul (pv 5) (pe_op op_add (pe_op op_mul pe_int (pv 3)) pe_int)) (pe_op op_mul (pe_op op_mul pe_int (pv 3)) (pv 3))) pe_int) pe_int) pa_nil)) pe_int))
      (pss_one (ps_ret (pe_op op_mod (pe_callTy call_int1 (by rfl) T.z_int (by decide +kernel) (pa_cons (pe_op op_fdiv (pv 5) pe_int) pa_nil)) (pv 1)))))))))))), ?_⟩
    have hb : Bag c l n H := ⟨ns, pt, rest, hc, hl, nlc, hn, h0, h1, h2⟩
    -- the bag's list, is it empty
    refine ⟨_, rfl, c, _, 0, _, rfl, rfl, .of hc, rfl, szl rfl, fun e he => ?_⟩
    have nle : l ≠ e := ne_of_none hl he
    have nce : c ≠ e := ne_of_none hc he
    have hc1 : upd H e (.lst []) c = some (.lst [.ref l, .int pt, .int rest]) := by rw [upd_ne nce]; exact hc
    have hl1 : upd H e (.lst []) l = some (.lst (ns.map V.int)) := by rw [upd_ne nle]; exact hl
    have x1 : Ext c H (upd H e (.lst [])) := Ext.new he
    refine ⟨.list (ns.map .int), .list [], .lst (.of hl1) (dp_ints ns), .lst (.of upd_same) .nil, shaped_ints ns, by decide, _, rfl, ?_⟩
    refine ite2 (fun e0 => ?_) (fun e0 => ?_)
    · exact k 0 _ (by decide) hm0 (hb.mono (Nat.le_succ n) |>.new he) x1
    have hne : ns ≠ [] := fun z => by
      apply e0; rw [eqv_nil, z]; rfl
    generalize upd H e (.lst []) = H1 at hc1 hl1 x1
    -- what is left of a great number
    refine ⟨_, rfl, c, _, 2, _, rfl, rfl, .of hc1, rfl, _, _, rfl, rfl, _, rfl, ?_⟩
    refine ite2 (fun e2 => ?_) (fun e2 => ?_)
    · refine ⟨_, rfl, c, _, 2, _, rfl, rfl, .of hc1, rfl, .inl ⟨_, rfl, ?_⟩⟩
      refine ⟨_, rfl, _, rfl, _, _, rfl, rfl, ⟨hm0, hm1⟩, _, rfl, c, _, 2, 2, rfl, rfl, hc1, rfl, ?_⟩
      refine ⟨_, rfl, .inl ⟨_, rfl, _, rfl, _, _, rfl, rfl, hm0, ?_⟩⟩
      exact k (rest % m) _ (Int.emod_nonneg _ (by omega)) (Int.emod_lt_of_pos _ hm0) ⟨ns, pt, rest / m, upd_same, by rw [upd_ne nlc]; exact hl1, nlc, hn, h0, by omega, Int.ediv_nonneg h2 (by omega)⟩ (x1.trans Ext.bag)
    -- the next cell
    refine ⟨_, rfl, c, _, 1, _, rfl, rfl, .of hc1, rfl, ?_⟩
    refine ⟨_, rfl, _, _, rfl, rfl, _, rfl, c, _, 1, 1, rfl, rfl, hc1, rfl, ?_⟩
    refine gcut (fun H2 => H2 c = some (.lst [.ref l, .int (pt + 1), .int rest]) ∧ H2 l = some (.lst (ns.map V.int)) ∧ Ext c H H2) ⟨upd_same, by rw [upd_ne nlc]; exact hl1, x1.trans Ext.bag⟩ ?_
    rintro H2 ⟨hc2, hl2, x2⟩
    have x3 : ∀ r : Int, Ext c H (upd H2 c (.lst [.ref l, .int (pt + 1), .int r])) := fun r => x2.trans Ext.bag
    have hpt : pt ≤ 1000000 := by omega
    obtain ⟨v, hv⟩ := at_mod (pt := pt) hne h0
    have hlen : 0 < ((ns.map V.int).length : Int) := by
      have := List.length_pos_iff.mpr hne
      rw [List.length_map]; omega
    refine ⟨_, rfl, c, _, 0, _, rfl, rfl, .of hc2, rfl, _, rfl, .inl ⟨_, rfl, _, rfl, c, _, 0, _, rfl, rfl, .of hc2, rfl, l, _, rfl, .inl (.of hl2), _, _, rfl, rfl, hlen, l, _, _, .int v, rfl, rfl, .of hl2, hv, ?_⟩⟩
    -- at < len(bag[0]) and abs(cell) >= 10 ** 18
    refine ⟨_, rfl, _, rfl, c, _, 0, _, rfl, rfl, .of hc2, rfl, l, _, rfl, .inl (.of hl2), _, _, rfl, rfl, _, rfl, ?_⟩
    have fin : ∀ r : Int, 0 ≤ r → Bag c l (n + 1) (upd H2 c (.lst [.ref l, .int (pt + 1), .int r])) := fun r hr0 =>
      ⟨ns, pt + 1, r, upd_same, by rw [upd_ne nlc]; exact hl2, nlc, hn, by omega, by omega, hr0⟩
    have fin0 : Bag c l (n + 1) H2 := ⟨ns, pt + 1, rest, hc2, hl2, nlc, hn, by omega, by omega, h2⟩
    refine ite2 (fun e3 => ?_) (fun e3 => ?_)
    · refine ⟨_, rfl, _, rfl, _, _, rfl, rfl, ⟨by decide, by decide, by decide⟩, _, _, rfl, rfl, _, rfl, ?_⟩
      refine ite2 (fun e4 => ?_) (fun e4 => ?_)
      · -- a great number: what it tells is handed out bit by bit
        refine ⟨_, rfl, _, rfl, _, _, rfl, rfl, ⟨by decide, by decide, by decide⟩, _, _, rfl, rfl, _, _, rfl, rfl, .inl ⟨by decide, by decide⟩, _, rfl, _, _, rfl, rfl, .inr ⟨_, rfl, _, _, rfl, rfl, ?_⟩⟩
        have hbig : (0 : Int) ≤ 2 * ((if v < 0 then -v else v) - 10 ^ (18 : Int).toNat) + (if decide (v < 0) = true then 1 else 0) := by
          have := of_decide_eq_true e4
          split <;> omega
        refine ⟨_, rfl, .inl ⟨_, rfl, _, rfl, _, _, rfl, rfl, ⟨hm0, hm1⟩, _, rfl, c, _, 2, 2, rfl, rfl, hc2, rfl, ?_⟩⟩
        refine ⟨_, rfl, .inl ⟨_, rfl, _, rfl, _, _, rfl, rfl, hm0, ?_⟩⟩
        exact k _ _ (Int.emod_nonneg _ (by omega)) (Int.emod_lt_of_pos _ hm0) (fin _ (Int.ediv_nonneg hbig (Int.le_of_lt hm0))) (x3 _)
      · refine ⟨_, rfl, .inl ⟨_, rfl, _, _, rfl, rfl, pos_lit (by decide), _, rfl, _, _, rfl, rfl, .inl ⟨by decide, by decide⟩, _, _, rfl, rfl, _, _, rfl, rfl, _, _, rfl, rfl, ⟨by decide, by decide, by omega⟩, .inl ⟨_, rfl, _, _, rfl, rfl, pos_lit (by decide), ?_⟩⟩⟩
        refine ⟨_, rfl, _, rfl, _, _, rfl, rfl, .inl ⟨by decide, by decide⟩, _, _, rfl, rfl, _, _, rfl, rfl, .inl (emod_w (by decide) (by decide)), _, rfl, _, _, rfl, rfl, .inl ⟨by decide, by decide⟩, _, rfl, _, _, rfl, rfl, mul_pt h0 hpt (by decide) (by decide), _, _, rfl, rfl, _, _, rfl, rfl, _, _, rfl, rfl, ⟨by decide, by decide, mix_bound (emod_b (by decide) (by decide)).1 (emod_b (by decide) (by decide)).2 h0 hpt (by decide) (by decide) (by decide) (by decide) (by decide) (by decide)⟩, .inl ⟨_, rfl, _, _, rfl, rfl, pos_lit (by decide), ?_⟩⟩
        refine ⟨_, rfl, _, _, rfl, rfl, ⟨by decide, by decide⟩, .inl ⟨_, rfl, _, rfl, _, _, rfl, rfl, hm0, ?_⟩⟩
        exact k _ H2 (Int.emod_nonneg _ (by omega)) (Int.emod_lt_of_pos _ hm0) fin0 x2
    · refine ⟨_, rfl, .inl ⟨_, rfl, _, _, rfl, rfl, pos_lit (by decide), _, rfl, _, _, rfl, rfl, .inl ⟨by decide, by decide⟩, _, _, rfl, rfl, _, _, rfl, rfl, _, _, rfl, rfl, ⟨by decide, by decide, by omega⟩, .inl ⟨_, rfl, _, _, rfl, rfl, pos_lit (by decide), ?_⟩⟩⟩
      refine ⟨_, rfl, _, rfl, _, _, rfl, rfl, .inl ⟨by decide, by decide⟩, _, _, rfl, rfl, _, _, rfl, rfl, .inl (emod_w (by decide) (by decide)), _, rfl, _, _, rfl, rfl, .inl ⟨by decide, by decide⟩, _, rfl, _, _, rfl, rfl, mul_pt h0 hpt (by decide) (by decide), _, _, rfl, rfl, _, _, rfl, rfl, _, _, rfl, rfl, ⟨by decide, by decide, mix_bound (emod_b (by decide) (by decide)).1 (emod_b (by decide) (by decide)).2 h0 hpt (by decide) (by decide) (by decide) (by decide) (by decide) (by decide)⟩, .inl ⟨_, rfl, _, _, rfl, rfl, pos_lit (by decide), ?_⟩⟩
      refine ⟨_, rfl, _, _, rfl, rfl, ⟨by decide, by decide⟩, .inl ⟨_, rfl, _, rfl, _, _, rfl, rfl, hm0, ?_⟩⟩
      exact k _ H2 (Int.emod_nonneg _ (by omega)) (Int.emod_lt_of_pos _ hm0) fin0 x2
end
end K0

set_option Elab.async false
set_option linter.all false
set_option maxRecDepth 100000
set_option maxHeartbeats 4000000
namespace K0
open PySem PySem.Spec PyProof.Rows L2 Gs
section
variable {P : Program} {w : World} {K : PySem.W.Frag} {mg : Str → Option Value} {base : Heap}
def spOne (K : PySem.W.Frag) : Sp := fun vs H Q _ => ∃ (c l s : Addr) (n : Nat) (xs : List V), vs = [.ref c, .ref s] ∧ Bag c l n H ∧ n ≤ 1000000 ∧ s ≠ c ∧ SqL K H s xs ∧ xs ≠ [] ∧ xs.length ≤ 1000 ∧
  ∀ (i : Nat) (v : V) (H' : Hp), xs[i]? = some v → Bag c l (n + 1) H' → Ext c H H' → Q v H'
theorem G__law_one (T : Tx K mg) : FnG P w K mg base CX0 2 T.a__law_one T.d__law_one ["pail", "some"] (spOne K) := by
  refine fun_okG T.F__law_one sc__law_one (fun vs H Q E h => ?_) (fun cdv A outer s H vs Q E hr hg h => ?_)
  · obtain ⟨c, l, s, n, xs, rfl, _⟩ := h; rfl
  · obtain ⟨c, l, a, n, xs, rfl, hb, hN, na, hS, hne, hl, k⟩ := h
    have h0 : 0 < xs.length := List.length_pos_iff.mpr hne
    refine ⟨_, (pss_one (ps_ret (pe_ix ix_list (pv 1) (pg_call (G__law_scoop T) (hr.mono (by decide)) hg (by rfl) T.m__law_scoop T.F__law_scoop.kp T.b__law_scoop .nil pass0 (pa_cons (pv 0) (pa_cons (pe_callB call_len_seq (by rfl) T.z_len (by decide +kernel) (pa_cons (pv 1) pa_nil)) pa_nil))) (fun _ _ => rfl)))), ?_⟩
    refine ⟨_, rfl, _, rfl, _, rfl, a, xs, rfl, .inl hS, c, l, n, _, rfl, hb, hN, by omega, by omega, fun v H1 v0 v1 b1 x1 => ?_⟩
    obtain ⟨j, rfl⟩ := Int.eq_ofNat_of_zero_le v0
    have hj : j < xs.length := by omega
    refine ⟨a, xs, _, xs[j], rfl, rfl, x1.sqL na hS, atI_nat (List.getElem?_eq_getElem hj), ?_⟩
    exact k j _ H1 (List.getElem?_eq_getElem hj) b1 x1
def spValue (K : PySem.W.Frag) : Sp := fun vs H Q _ => ∃ (c l : Addr) (n : Nat), vs = [.ref c] ∧ Bag c l n H ∧ n ≤ 999990 ∧
  ∀ (v : V) (d : PyData) (H' : Hp), DV K c H' v d → Fine 3 3000 d → Bag c l (n + 5) H' → Ext c H H' → Q v H'
theorem log_small {z : Int} (h : z.natAbs < 2 ^ 100) : z.natAbs.log2 < 1920 := by
  by_cases e : z.natAbs = 0
  · rw [e]; decide
  · exact Nat.lt_trans ((Nat.log2_lt e).mpr h) (by decide)
theorem G__law_value (T : Tx K mg) : FnG P w K mg base CX0 3 T.a__law_value T.d__law_value ["pail"] (spValue K) := by
  refine fun_okG T.F__law_value sc__law_value (fun vs H Q E h => ?_) (fun cdv A outer s H vs Q E hr hg h => ?_)
  · obtain ⟨c, l, n, rfl, _⟩ := h; rfl
  · obtain ⟨c, l, n, rfl, hb, hN, k⟩ := h
    refine ⟨_, (pss_cons (ps_set (i := 1) sc__law_value.nd rfl (Or.inl rfl) (pg_call (G__law_one T) (hr.mono (by decide)) hg (by rfl) T.m__law_one T.F__law_one.kp T.b__law_one .nil pass0 (pa_cons (pv 0) (pa_cons (pe_lst (pa_cons (pe_op op_sub (pg_call (G__law_scoop T) (hr.mono (by decide)) hg (by rfl) T.m__law_scoop T.F__law_scoop.kp T.b__law_scoop .nil pass0 (pa_cons (pv 0) (pa_cons pe_int pa_nil))) pe_int) (pa_cons (pe_op op_add (pe_op op_pow pe_int pe_int) (pg_call (G__law_scoop T) (hr.mono (by decide)) hg (by rfl) T.m__law_scoop T.F__law_scoop.kp T.b__law_scoop .nil pass0 (pa_cons (pv 0) (pa_cons pe_int pa_nil)))) (pa_cons (pe_un un_neg (pg_call (G__law_scoop T) (hr.mono (by decide)) hg (by rfl) T.m__law_scoop T.F__law_scoop.kp T.b__law_scoop .nil pass0 (pa_cons (pv 0) (pa_cons pe_int pa_nil)))) pa_nil)))) pa_nil))))
      (pss_cons (ps_set (i := 2) sc__law_value.nd rfl (Or.inl rfl) (pe_lst (pa_cons (pv 1) (pa_cons (pe_callTy call_str_int (by rfl) T.z_str (by decide +kernel) (pa_cons (pv 1) pa_nil)) (pa_cons pe_non (pa_cons pe_bl (pa_cons pe_bl (pa_cons (pe_lst (pa_cons (pv 1) pa_nil)) (pa_cons (pe_tup (pa_cons (pv 1) (pa_cons pe_int pa_nil))) (pa_cons (pe_disp (pps_cons (pv 1) (pe_lst (pa_cons (pv 1) pa_nil)) pps_nil) rfl rfl (by simp) (by decide)) (pa_cons pe_str (pa_cons (pe_lst pa_nil) (pa_cons (pe_tup pa_nil) (pa_cons (pe_lst (pa_cons (pe_lst (pa_cons (pv 1) pa_nil)) (pa_cons (pe_tup (pa_cons pe_int (pa_cons (pe_lst (pa_cons pe_int pa_nil)) pa_nil))) pa_nil))) (pa_cons (pe_lst (pa_cons pe_bl (pa_cons pe_int pa_nil))) (pa_cons pe_str pa_nil))))))))))))))))
      (pss_one (ps_ret (pg_call (G__law_one T) (hr.mono (by decide)) hg (by rfl) T.m__law_one T.F__law_one.kp T.b__law_one .nil pass0 (pa_cons (pv 0) (pa_cons (pv 2) pa_nil))))))), ?_⟩
    refine ⟨_, rfl, _, rfl, c, l, n, _, rfl, hb, by omega, by decide, by decide, fun v1 H1 a1 a2 b1 x1 => ?_⟩
    refine ⟨_, _, rfl, rfl, _, _, rfl, rfl, ⟨by decide, by decide, by decide⟩, _, rfl, c, l, n + 1, _, rfl, b1, by omega, by decide, by decide, fun v2 H2 a3 a4 b2 x2 => ?_⟩
    refine ⟨_, _, rfl, rfl, _, rfl, c, l, n + 2, _, rfl, b2, by omega, by decide, by decide, fun v3 H3 a5 a6 b3 x3 => ?_⟩
    refine ⟨_, rfl, szl rfl, fun p hp => ?_⟩
    have np := b3.ne hp
    refine ⟨c, l, p, n + 3, _, rfl, b3.new hp, by omega, np, .of upd_same, by simp, szl2 rfl, fun i v H4 hi b4 x4 => ?_⟩
    have x5 : Ext c H H4 := ((x1.trans x2).trans x3).trans ((Ext.new hp).trans x4)
    obtain ⟨z, rfl, hz⟩ : ∃ z : Int, v = .int z ∧ z.natAbs < 2 ^ 100 := by
      have hm := one_of hi
      simp only [List.mem_cons, List.not_mem_nil, or_false] at hm
      rcases hm with rfl | rfl | rfl
      · exact ⟨_, rfl, by omega⟩
      · exact ⟨_, rfl, by
          have : (10 : Int) ^ (20 : Int).toNat = 100000000000000000000 := by decide
          omega⟩
      · exact ⟨_, rfl, by omega⟩
    clear hi x4 x1 x2 x3 hp np b1 b2 b3
    refine ⟨_, rfl, _, rfl, _, rfl, log_small hz, ?_⟩
    -- [number]
    refine ⟨_, rfl, szl rfl, fun p1 hp1 => ?_⟩
    have f1 := new_lst hp1 (b4.ne hp1) (.cons (.int z) .nil) (K := K)
    have b5 := b4.new hp1 (o := .lst [.int z])
    generalize upd H4 p1 _ = H5 at f1 b5 ⊢
    -- (number, 2)
    refine ⟨_, rfl, szl rfl, fun p2 hp2 => ?_⟩
    have f2 := new_tup hp2 (b5.ne hp2) (.cons (.int z) (.cons (.int 2) .nil)) (K := K)
    have b6 := b5.new hp2 (o := .tup [.int z, .int 2])
    generalize upd H5 p2 _ = H6 at f2 b6 ⊢
    -- {number: [number]}
    intro p3 hp3
    have np3 := b6.ne hp3
    have b7 := b6.new hp3 (o := .dK [])
    have e7 : upd H6 p3 (.dK []) p3 = some (.dK []) := upd_same
    have x7 : Ext c H6 (upd H6 p3 (.dK [])) := Ext.new hp3
    generalize upd H6 p3 _ = H7 at b7 e7 x7 ⊢
    refine ⟨_, rfl, _, rfl, szl rfl, fun p4 hp4 => ?_⟩
    have n34 : p3 ≠ p4 := ne_of_none e7 hp4
    have f4 := new_lst hp4 (b7.ne hp4) (.cons (.int z) .nil) (K := K)
    have b8 := b7.new hp4 (o := .lst [.int z])
    have e8 : upd H7 p4 (.lst [.int z]) p3 = some (.dK []) := by rw [upd_ne n34]; exact e7
    have l8 : upd H7 p4 (.lst [.int z]) p4 = some (.lst [.int z]) := upd_same
    generalize upd H7 p4 _ = H8 at f4 b8 e8 l8 ⊢
    refine ⟨e8, [(.inl z, .ref p4)], rfl, Nat.le_of_ble_eq_true rfl, ?_⟩
    have x8 : Ext c H6 (upd H8 p3 (.dK [(.inl z, .ref p4)])) := (x7.trans f4.2).own hp3
    have b9 := b8.put (o := .dK [(.inl z, .ref p4)]) np3 (b6.ne2 hp3)
    have f3 : DV K c (upd H8 p3 (.dK [(.inl z, .ref p4)])) (.ref p3) (.dict [(.int z, .list [.int z])]) :=
      .dic np3 upd_same (.cons (.int z) (.lst (b7.ne hp4) (.of (by rw [upd_ne n34.symm]; exact l8)) (.cons (.int z) .nil)) .nil)
    change tCons _ _ _ (upd H8 p3 (.dK [(.inl z, .ref p4)])) _
    generalize upd H8 p3 _ = H9 at f3 b9 x8 ⊢
    clear f4 b8 e8 l8 n34 hp4 x7 e7 b7 np3 hp3
    -- '', [], ()
    refine ⟨szl rfl, fun p5 hp5 => ?_⟩
    have f5 := new_lst hp5 (b9.ne hp5) .nil (K := K)
    have b10 := b9.new hp5 (o := .lst [])
    generalize upd H9 p5 _ = H10 at f5 b10 ⊢
    refine ⟨szl rfl, fun p6 hp6 => ?_⟩
    have f6 := new_tup hp6 (b10.ne hp6) .nil (K := K)
    have b11 := b10.new hp6 (o := .tup [])
    generalize upd H10 p6 _ = H11 at f6 b11 ⊢
    -- [[number], (1, [2])]
    refine ⟨_, rfl, szl rfl, fun p7 hp7 => ?_⟩
    have f7 := new_lst hp7 (b11.ne hp7) (.cons (.int z) .nil) (K := K)
    have b12 := b11.new hp7 (o := .lst [.int z])
    generalize upd H11 p7 _ = H12 at f7 b12 ⊢
    refine ⟨szl rfl, fun p8 hp8 => ?_⟩
    have f8 := new_lst hp8 (b12.ne hp8) (.cons (.int 2) .nil) (K := K)
    have b13 := b12.new hp8 (o := .lst [.int 2])
    generalize upd H12 p8 _ = H13 at f8 b13 ⊢
    refine ⟨szl rfl, fun p9 hp9 => ?_⟩
    have f9 := new_tup hp9 (b13.ne hp9) (.cons (.int 1) (.cons f8.1 .nil)) (K := K)
    have b14 := b13.new hp9 (o := .tup [.int 1, .ref p8])
    generalize upd H13 p9 _ = H14 at f9 b14 ⊢
    refine ⟨szl rfl, fun p10 hp10 => ?_⟩
    have f10 := new_lst hp10 (b14.ne hp10) (.cons ((f7.1.up f8.2).up f9.2) (.cons f9.1 .nil)) (K := K)
    have b15 := b14.new hp10 (o := .lst [.ref p7, .ref p9])
    generalize upd H14 p10 _ = H15 at f10 b15 ⊢
    -- [True, 0]
    refine ⟨szl rfl, fun p11 hp11 => ?_⟩
    have f11 := new_lst hp11 (b15.ne hp11) (.cons (.bl true) (.cons (.int 0) .nil)) (K := K)
    have b16 := b15.new hp11 (o := .lst [.bl true, .int 0])
    generalize upd H15 p11 _ = H16 at f11 b16 ⊢
    -- the whole list, one of it
    refine ⟨szl rfl, fun p12 hp12 => ?_⟩
    have np := b16.ne hp12
    have b17 := b16.new hp12 (o := .lst [.int z, .str (toString z), .non, .bl true, .bl false, .ref p1, .ref p2, .ref p3, .str "", .ref p5, .ref p6, .ref p10, .ref p11, .str "[1]"])
    have y9 := ((f5.2.trans f6.2).trans (f7.2.trans f8.2)).trans ((f9.2.trans f10.2).trans f11.2)
    have y11 := ((f7.2.trans f8.2).trans (f9.2.trans f10.2)).trans f11.2
    have y10 := f6.2.trans y11
    have y6 := x8.trans y9
    have y5 := f2.2.trans y6
    have hd : DVs K c H16 [.int z, .str (toString z), .non, .bl true, .bl false, .ref p1, .ref p2, .ref p3, .str "", .ref p5, .ref p6, .ref p10, .ref p11, .str "[1]"] [.int z, .str (toString z), .none, .bool true, .bool false, .list [.int z], .tuple [.int z, .int 2], .dict [(.int z, .list [.int z])], .str "", .list [], .tuple [], .list [.list [.int z], .tuple [.int 1, .list [.int 2]]], .list [.bool true, .int 0], .str "[1]"] :=
      .cons (.int z) (.cons (.str _) (.cons .non (.cons (.bl _) (.cons (.bl _) (.cons (f1.1.up y5) (.cons (f2.1.up y6) (.cons (f3.up y9) (.cons (.str _)
        (.cons (f5.1.up y10) (.cons (f6.1.up y11) (.cons (f10.1.up f11.2) (.cons f11.1 (.cons (.str _) .nil)))))))))))))
    have xx : Ext c H4 (upd H16 p12 (.lst [.int z, .str (toString z), .non, .bl true, .bl false, .ref p1, .ref p2, .ref p3, .str "", .ref p5, .ref p6, .ref p10, .ref p11, .str "[1]"])) := (f1.2.trans y5).trans (Ext.new hp12)
    refine ⟨_, rfl, _, rfl, c, l, p12, n + 4, _, rfl, b17, by omega, np, .of upd_same, by simp, szl2 rfl, fun i v H18 hi b18 x18 => ?_⟩
    obtain ⟨d, hdi, hdv⟩ := hd.at hi
    have w1 : z.natAbs < 2 ^ 1000 := Nat.lt_of_lt_of_le hz (Nat.pow_le_pow_right (by decide) (by decide))
    have z0 : (0 : Int).natAbs < 2 ^ 1000 := by decide +kernel
    have z1 : (1 : Int).natAbs < 2 ^ 1000 := by decide +kernel
    have z2 : (2 : Int).natAbs < 2 ^ 1000 := by decide +kernel
    have g1 : Fine 1 1 (.list [.int z]) := .list (fine1 (n := 0) (.int w1))
    have g2 : Fine 2 4 (.tuple [.int 1, .list [.int 2]]) := .tuple ((FineS.cons (n := 0) (k := 1) (.int z1) (fine1 (n := 1) (.list (fine1 (n := 0) (.int z2))))).mono (Nat.le_refl _) (by decide))
    have hfine : Fine 3 3000 d := by
      refine (fa_cons (.int w1) (fa_cons ((fine_tos w1).mono (Nat.le_refl _) (by decide)) (fa_cons .non (fa_cons .bl (fa_cons .bl (fa_cons (g1.mono (by decide) (by decide))
        (fa_cons ((Fine.tuple (fine2 (n := 0) (k := 0) (.int w1) (.int z2))).mono (by decide) (by decide)) (fa_cons ((Fine.dict1 (k := 1) (n := 0) (.int w1) g1).mono (by decide) (by decide)) (fa_cons ((fine_lit (k := 0) (by decide +kernel)).mono (by decide) (by decide))
        (fa_cons ((Fine.list (FineS.nil (k := 0) (n := 0))).mono (by decide) (by decide)) (fa_cons ((Fine.tuple (FineS.nil (k := 0) (n := 0))).mono (by decide) (by decide))
        (fa_cons ((Fine.list (fine2 (n := 4) (k := 2) (g1.mono (by decide) (by decide)) g2)).mono (by decide) (by decide)) (fa_cons ((Fine.list (fine2 (n := 0) (k := 0) .bl (.int z0))).mono (by decide) (by decide))
        (fa_cons ((fine_lit (k := 0) (by decide +kernel)).mono (by decide) (by decide)) fa_nil)))))))))))))) d (List.mem_of_getElem? hdi)
    exact k v d H18 ((hdv.up (Ext.new hp12)).up x18) hfine b18 ((x5.trans xx).trans x18)
end
end K0

set_option Elab.async false
set_option linter.all false
set_option maxRecDepth 100000
set_option maxHeartbeats 4000000
namespace K0
open PySem PySem.Spec PyProof.Rows L2 Gs
section
variable {P : Program} {w : World} {K : PySem.W.Frag} {mg : Str → Option Value} {base : Heap}
theorem pss_never {X : Cx} {body : List Stmt} : PSs X body (fun _ _ _ => False) := ⟨fun pins s σ H D I h => h.elim⟩
/-- an own error's __init__ with one field -/
def spErr (C : Addr) (f : Str) : Sp := fun vs H Q _ => ∃ (a : Addr) (v : V), vs = [.ref a, v] ∧ H a = some (exo a C none) ∧
  ∀ d, H d = none → d ≠ a → Q .non (upd (upd H d (exd d [(f, v)])) a (exo a C (some d)))
/-- .. with two fields -/
def spErr2 (C : Addr) (f g : Str) : Sp := fun vs H Q _ => ∃ (a : Addr) (v u : V), vs = [.ref a, v, u] ∧ H a = some (exo a C none) ∧
  ∀ d, H d = none → d ≠ a → Q .non (upd (upd (upd H d (exd d [(f, v)])) a (exo a C (some d))) d (exd d [(g, u), (f, v)]))
theorem same_err {H : Hp} {a d : Addr} {fs : List (Str × V)} {H2 : Hp} (ha : H a = none) (hd : H d = none) (h2 : ∀ b, b ≠ a → b ≠ d → H2 b = H b) : Same H (upd (del H2 a) d (.xd fs)) := fun b o e => by
  have na := ne_of_none e ha
  have nd := ne_of_none e hd
  rw [upd_ne nd, del_ne na, h2 b na nd]; exact e
/-- C(v) raised, its __init__ as above -/
theorem mk_err {C : Addr} {f : Str} {v : V} {H : Hp} {Q : XK} (h : ∀ d H', H d = none → Same H H' → H' d = some (.xd [(f, v)]) → Q (.ref C) (some d) H') : ∀ a, H a = none →
    spErr C f (.ref a :: ([v] ++ [])) (upd H a (exo a C none)) (fun x H2 => x = .non ∧ ∃ (d : Addr) (fs : List (Str × V)), H2 a = some (exo a C (some d)) ∧ H2 d = some (exd d fs) ∧ H d = none ∧ Q (.ref C) (some d) (upd (del H2 a) d (.xd fs))) (fun _ _ _ => False) := by
  intro a ha
  refine ⟨a, v, rfl, upd_same, fun d hd nda => ⟨rfl, d, _, upd_same, by rw [upd_ne nda, upd_same], ?_, ?_⟩⟩
  · rwa [upd_ne nda] at hd
  · rw [upd_ne nda] at hd
    refine h d _ hd (same_err ha hd fun b n1 n2 => by rw [upd_ne n1, upd_ne n2, upd_ne n1]) upd_same
theorem mk_err2 {C : Addr} {f g : Str} {v u : V} {H : Hp} {Q : XK} (h : ∀ d H', H d = none → Same H H' → H' d = some (.xd [(g, u), (f, v)]) → Q (.ref C) (some d) H') : ∀ a, H a = none →
    spErr2 C f g (.ref a :: ([v, u] ++ [])) (upd H a (exo a C none)) (fun x H2 => x = .non ∧ ∃ (d : Addr) (fs : List (Str × V)), H2 a = some (exo a C (some d)) ∧ H2 d = some (exd d fs) ∧ H d = none ∧ Q (.ref C) (some d) (upd (del H2 a) d (.xd fs))) (fun _ _ _ => False) := by
  intro a ha
  refine ⟨a, v, u, rfl, upd_same, fun d hd nda => ⟨rfl, d, _, by rw [upd_ne (Ne.symm nda), upd_same], upd_same, ?_, ?_⟩⟩
  · rwa [upd_ne nda] at hd
  · rw [upd_ne nda] at hd
    refine h d _ hd (same_err ha hd fun b n1 n2 => by rw [upd_ne n2, upd_ne n1, upd_ne n2, upd_ne n1]) upd_same
def sp0 (C : Addr) : Sp := fun vs H Q _ => ∃ a : Addr, vs = [.ref a] ∧ H a = some (exo a C none) ∧ Q .non H
theorem mk_val {C : Addr} {f : Str} {v : V} {H : Hp} {R : Addr → Hp → Prop} (h : ∀ a H', H a = none → Same H H' → ExI H' a C (some [(f, v)]) → R a H') : ∀ a, H a = none →
    spErr C f [.ref a, v] (upd H a (exo a C none)) (fun x H2 => x = .non ∧ R a H2) (fun _ _ _ => False) := by
  intro a ha
  refine ⟨a, v, rfl, upd_same, fun d hd nda => ⟨rfl, h a _ ha (fun b o e => ?_) ⟨d, .inr upd_same, .inr (by rw [upd_ne nda, upd_same])⟩⟩⟩
  rw [upd_ne nda] at hd
  rw [upd_ne (ne_of_none e ha), upd_ne (ne_of_none e hd), upd_ne (ne_of_none e ha)]
  exact e
theorem mk_val2 {C : Addr} {f g : Str} {v u : V} {H : Hp} {R : Addr → Hp → Prop} (h : ∀ a H', H a = none → Same H H' → ExI H' a C (some [(g, u), (f, v)]) → R a H') : ∀ a, H a = none →
    spErr2 C f g [.ref a, v, u] (upd H a (exo a C none)) (fun x H2 => x = .non ∧ R a H2) (fun _ _ _ => False) := by
  intro a ha
  refine ⟨a, v, u, rfl, upd_same, fun d hd nda => ⟨rfl, h a _ ha (fun b o e => ?_) ⟨d, .inr (by rw [upd_ne (Ne.symm nda), upd_same]), .inr upd_same⟩⟩⟩
  rw [upd_ne nda] at hd
  rw [upd_ne (ne_of_none e hd), upd_ne (ne_of_none e ha), upd_ne (ne_of_none e hd), upd_ne (ne_of_none e ha)]
  exact e
theorem mk_val0 {C : Addr} {H : Hp} {R : Addr → Hp → Prop} (h : ∀ a H', H a = none → Same H H' → ExI H' a C none → R a H') : ∀ a, H a = none →
    sp0 C [.ref a] (upd H a (exo a C none)) (fun x H2 => x = .non ∧ R a H2) (fun _ _ _ => False) := by
  intro a ha
  exact ⟨a, rfl, upd_same, rfl, h a _ ha (same_new ha) (.inr upd_same)⟩

theorem O_BadNumber___init__ (T : Tx K mg) : FnOk P w K mg base CX0 1 T.a_BadNumber___init__ T.d_BadNumber___init__ ["self", "part"] (spErr T.c_BadNumber "part") := by
  refine T.F_BadNumber___init__.ok sc_BadNumber___init__ (fun vs H Q E h => ?_) (fun cdv A outer s H vs Q E hr h => ?_)
  · obtain ⟨a, v, rfl, _⟩ := h; rfl
  obtain ⟨a, v, rfl, ha, k⟩ := h
  refine ⟨_, (pss_one (ps_ost (pv 0) (pv 1))), ?_⟩
  exact ⟨_, rfl, _, rfl, a, _, rfl, T.ox_BadNumber, T.no_BadNumber_part, .inl ⟨ha, fun d hd nd => k d hd nd⟩⟩

theorem O_BadSquare___init__ (T : Tx K mg) : FnOk P w K mg base CX0 1 T.a_BadSquare___init__ T.d_BadSquare___init__ ["self", "part"] (spErr T.c_BadSquare "part") := by
  refine T.F_BadSquare___init__.ok sc_BadSquare___init__ (fun vs H Q E h => ?_) (fun cdv A outer s H vs Q E hr h => ?_)
  · obtain ⟨a, v, rfl, _⟩ := h; rfl
  obtain ⟨a, v, rfl, ha, k⟩ := h
  refine ⟨_, (pss_one (ps_ost (pv 0) (pv 1))), ?_⟩
  exact ⟨_, rfl, _, rfl, a, _, rfl, T.ox_BadSquare, T.no_BadSquare_part, .inl ⟨ha, fun d hd nd => k d hd nd⟩⟩

theorem O_BadKind___init__ (T : Tx K mg) : FnOk P w K mg base CX0 1 T.a_BadKind___init__ T.d_BadKind___init__ ["self", "part"] (spErr T.c_BadKind "part") := by
  refine T.F_BadKind___init__.ok sc_BadKind___init__ (fun vs H Q E h => ?_) (fun cdv A outer s H vs Q E hr h => ?_)
  · obtain ⟨a, v, rfl, _⟩ := h; rfl
  obtain ⟨a, v, rfl, ha, k⟩ := h
  refine ⟨_, (pss_one (ps_ost (pv 0) (pv 1))), ?_⟩
  exact ⟨_, rfl, _, rfl, a, _, rfl, T.ox_BadKind, T.no_BadKind_part, .inl ⟨ha, fun d hd nd => k d hd nd⟩⟩

theorem O_BadGame___init__ (T : Tx K mg) : FnOk P w K mg base CX0 1 T.a_BadGame___init__ T.d_BadGame___init__ ["self", "part"] (spErr T.c_BadGame "part") := by
  refine T.F_BadGame___init__.ok sc_BadGame___init__ (fun vs H Q E h => ?_) (fun cdv A outer s H vs Q E hr h => ?_)
  · obtain ⟨a, v, rfl, _⟩ := h; rfl
  obtain ⟨a, v, rfl, ha, k⟩ := h
  refine ⟨_, (pss_one (ps_ost (pv 0) (pv 1))), ?_⟩
  exact ⟨_, rfl, _, rfl, a, _, rfl, T.ox_BadGame, T.no_BadGame_part, .inl ⟨ha, fun d hd nd => k d hd nd⟩⟩

theorem O_BadPosition___init__ (T : Tx K mg) : FnOk P w K mg base CX0 1 T.a_BadPosition___init__ T.d_BadPosition___init__ ["self", "part"] (spErr T.c_BadPosition "part") := by
  refine T.F_BadPosition___init__.ok sc_BadPosition___init__ (fun vs H Q E h => ?_) (fun cdv A outer s H vs Q E hr h => ?_)
  · obtain ⟨a, v, rfl, _⟩ := h; rfl
  obtain ⟨a, v, rfl, ha, k⟩ := h
  refine ⟨_, (pss_one (ps_ost (pv 0) (pv 1))), ?_⟩
  exact ⟨_, rfl, _, rfl, a, _, rfl, T.ox_BadPosition, T.no_BadPosition_part, .inl ⟨ha, fun d hd nd => k d hd nd⟩⟩

theorem O_BadMove___init__ (T : Tx K mg) : FnOk P w K mg base CX0 1 T.a_BadMove___init__ T.d_BadMove___init__ ["self", "part"] (spErr T.c_BadMove "part") := by
  refine T.F_BadMove___init__.ok sc_BadMove___init__ (fun vs H Q E h => ?_) (fun cdv A outer s H vs Q E hr h => ?_)
  · obtain ⟨a, v, rfl, _⟩ := h; rfl
  obtain ⟨a, v, rfl, ha, k⟩ := h
  refine ⟨_, (pss_one (ps_ost (pv 0) (pv 1))), ?_⟩
  exact ⟨_, rfl, _, rfl, a, _, rfl, T.ox_BadMove, T.no_BadMove_part, .inl ⟨ha, fun d hd nd => k d hd nd⟩⟩

theorem O_BadPlay___init__ (T : Tx K mg) : FnOk P w K mg base CX0 1 T.a_BadPlay___init__ T.d_BadPlay___init__ ["self", "part"] (spErr T.c_BadPlay "part") := by
  refine T.F_BadPlay___init__.ok sc_BadPlay___init__ (fun vs H Q E h => ?_) (fun cdv A outer s H vs Q E hr h => ?_)
  · obtain ⟨a, v, rfl, _⟩ := h; rfl
  obtain ⟨a, v, rfl, ha, k⟩ := h
  refine ⟨_, (pss_one (ps_ost (pv 0) (pv 1))), ?_⟩
  exact ⟨_, rfl, _, rfl, a, _, rfl, T.ox_BadPlay, T.no_BadPlay_part, .inl ⟨ha, fun d hd nd => k d hd nd⟩⟩

theorem O_BadPaper___init__ (T : Tx K mg) : FnOk P w K mg base CX0 1 T.a_BadPaper___init__ T.d_BadPaper___init__ ["self", "part"] (spErr T.c_BadPaper "part") := by
  refine T.F_BadPaper___init__.ok sc_BadPaper___init__ (fun vs H Q E h => ?_) (fun cdv A outer s H vs Q E hr h => ?_)
  · obtain ⟨a, v, rfl, _⟩ := h; rfl
  obtain ⟨a, v, rfl, ha, k⟩ := h
  refine ⟨_, (pss_one (ps_ost (pv 0) (pv 1))), ?_⟩
  exact ⟨_, rfl, _, rfl, a, _, rfl, T.ox_BadPaper, T.no_BadPaper_part, .inl ⟨ha, fun d hd nd => k d hd nd⟩⟩

theorem O_BadWords___init__ (T : Tx K mg) : FnOk P w K mg base CX0 1 T.a_BadWords___init__ T.d_BadWords___init__ ["self", "part"] (spErr T.c_BadWords "part") := by
  refine T.F_BadWords___init__.ok sc_BadWords___init__ (fun vs H Q E h => ?_) (fun cdv A outer s H vs Q E hr h => ?_)
  · obtain ⟨a, v, rfl, _⟩ := h; rfl
  obtain ⟨a, v, rfl, ha, k⟩ := h
  refine ⟨_, (pss_one (ps_ost (pv 0) (pv 1))), ?_⟩
  exact ⟨_, rfl, _, rfl, a, _, rfl, T.ox_BadWords, T.no_BadWords_part, .inl ⟨ha, fun d hd nd => k d hd nd⟩⟩

theorem O_Misfit___init__ (T : Tx K mg) : FnOk P w K mg base CX0 1 T.a_Misfit___init__ T.d_Misfit___init__ ["self", "part"] (spErr T.c_Misfit "part") := by
  refine T.F_Misfit___init__.ok sc_Misfit___init__ (fun vs H Q E h => ?_) (fun cdv A outer s H vs Q E hr h => ?_)
  · obtain ⟨a, v, rfl, _⟩ := h; rfl
  obtain ⟨a, v, rfl, ha, k⟩ := h
  refine ⟨_, (pss_one (ps_ost (pv 0) (pv 1))), ?_⟩
  exact ⟨_, rfl, _, rfl, a, _, rfl, T.ox_Misfit, T.no_Misfit_part, .inl ⟨ha, fun d hd nd => k d hd nd⟩⟩

theorem O_NoName___init__ (T : Tx K mg) : FnOk P w K mg base CX0 1 T.a_NoName___init__ T.d_NoName___init__ ["self", "value"] (spErr T.c_NoName "value") := by
  refine T.F_NoName___init__.ok sc_NoName___init__ (fun vs H Q E h => ?_) (fun cdv A outer s H vs Q E hr h => ?_)
  · obtain ⟨a, v, rfl, _⟩ := h; rfl
  obtain ⟨a, v, rfl, ha, k⟩ := h
  refine ⟨_, (pss_one (ps_ost (pv 0) (pv 1))), ?_⟩
  exact ⟨_, rfl, _, rfl, a, _, rfl, T.ox_NoName, T.no_NoName_value, .inl ⟨ha, fun d hd nd => k d hd nd⟩⟩

theorem O_Twice___init__ (T : Tx K mg) : FnOk P w K mg base CX0 1 T.a_Twice___init__ T.d_Twice___init__ ["self", "value"] (spErr T.c_Twice "value") := by
  refine T.F_Twice___init__.ok sc_Twice___init__ (fun vs H Q E h => ?_) (fun cdv A outer s H vs Q E hr h => ?_)
  · obtain ⟨a, v, rfl, _⟩ := h; rfl
  obtain ⟨a, v, rfl, ha, k⟩ := h
  refine ⟨_, (pss_one (ps_ost (pv 0) (pv 1))), ?_⟩
  exact ⟨_, rfl, _, rfl, a, _, rfl, T.ox_Twice, T.no_Twice_value, .inl ⟨ha, fun d hd nd => k d hd nd⟩⟩

theorem O_TooMany___init__ (T : Tx K mg) : FnOk P w K mg base CX0 1 T.a_TooMany___init__ T.d_TooMany___init__ ["self", "what", "most"] (spErr2 T.c_TooMany "what" "most") := by
  refine T.F_TooMany___init__.ok sc_TooMany___init__ (fun vs H Q E h => ?_) (fun cdv A outer s H vs Q E hr h => ?_)
  · obtain ⟨a, v, u, rfl, _⟩ := h; rfl
  obtain ⟨a, v, u, rfl, ha, k⟩ := h
  refine ⟨_, (pss_cons (ps_ost (pv 0) (pv 1))
      (pss_one (ps_ost (pv 0) (pv 2)))), ?_⟩
  refine ⟨_, rfl, _, rfl, a, _, rfl, T.ox_TooMany, T.no_TooMany_what, .inl ⟨ha, fun d hd nd => ?_⟩⟩
  exact ⟨_, rfl, _, rfl, a, _, rfl, T.ox_TooMany, T.no_TooMany_most, .inr ⟨d, _, upd_same, by rw [upd_ne nd, upd_same], Nat.le_of_ble_eq_true rfl, k d hd nd⟩⟩

theorem O_BadText___init__ (T : Tx K mg) : FnOk P w K mg base CX0 1 T.a_BadText___init__ T.d_BadText___init__ ["self", "line", "item"] (spErr2 T.c_BadText "line" "item") := by
  refine T.F_BadText___init__.ok sc_BadText___init__ (fun vs H Q E h => ?_) (fun cdv A outer s H vs Q E hr h => ?_)
  · obtain ⟨a, v, u, rfl, _⟩ := h; rfl
  obtain ⟨a, v, u, rfl, ha, k⟩ := h
  refine ⟨_, (pss_cons (ps_ost (pv 0) (pv 1))
      (pss_one (ps_ost (pv 0) (pv 2)))), ?_⟩
  refine ⟨_, rfl, _, rfl, a, _, rfl, T.ox_BadText, T.no_BadText_line, .inl ⟨ha, fun d hd nd => ?_⟩⟩
  exact ⟨_, rfl, _, rfl, a, _, rfl, T.ox_BadText, T.no_BadText_item, .inr ⟨d, _, upd_same, by rw [upd_ne nd, upd_same], Nat.le_of_ble_eq_true rfl, k d hd nd⟩⟩

theorem O_BadLine___init__ (T : Tx K mg) : FnOk P w K mg base CX0 1 T.a_BadLine___init__ T.d_BadLine___init__ ["self", "line", "error"] (spErr2 T.c_BadLine "line" "error") := by
  refine T.F_BadLine___init__.ok sc_BadLine___init__ (fun vs H Q E h => ?_) (fun cdv A outer s H vs Q E hr h => ?_)
  · obtain ⟨a, v, u, rfl, _⟩ := h; rfl
  obtain ⟨a, v, u, rfl, ha, k⟩ := h
  refine ⟨_, (pss_cons (ps_ost (pv 0) (pv 1))
      (pss_one (ps_ost (pv 0) (pv 2)))), ?_⟩
  refine ⟨_, rfl, _, rfl, a, _, rfl, T.ox_BadLine, T.no_BadLine_line, .inl ⟨ha, fun d hd nd => ?_⟩⟩
  exact ⟨_, rfl, _, rfl, a, _, rfl, T.ox_BadLine, T.no_BadLine_error, .inr ⟨d, _, upd_same, by rw [upd_ne nd, upd_same], Nat.le_of_ble_eq_true rfl, k d hd nd⟩⟩

theorem O_Nothing___init__ (T : Tx K mg) : FnOk P w K mg base CX0 1 T.a_Nothing___init__ T.d_Nothing___init__ ["self"] (sp0 T.c_Nothing) := by
  refine T.F_Nothing___init__.ok sc_Nothing___init__ (fun vs H Q E h => ?_) (fun cdv A outer s H vs Q E hr h => ?_)
  · obtain ⟨a, rfl, _⟩ := h; rfl
  obtain ⟨a, rfl, ha, k⟩ := h
  refine ⟨_, (pss_one (ps_expr (pe_finit (by rfl) T.m_FieldError T.bi_F (pa_cons (pv 0) (pa_cons pe_str pa_nil))))), ?_⟩
  exact ⟨_, rfl, a, _, _, rfl, Nat.le_of_ble_eq_true rfl, T.ox_Nothing, ha, k⟩

theorem O_Over___init__ (T : Tx K mg) : FnOk P w K mg base CX0 1 T.a_Over___init__ T.d_Over___init__ ["self"] (sp0 T.c_Over) := by
  refine T.F_Over___init__.ok sc_Over___init__ (fun vs H Q E h => ?_) (fun cdv A outer s H vs Q E hr h => ?_)
  · obtain ⟨a, rfl, _⟩ := h; rfl
  obtain ⟨a, rfl, ha, k⟩ := h
  refine ⟨_, (pss_one (ps_expr (pe_finit (by rfl) T.m_FieldError T.bi_F (pa_cons (pv 0) (pa_cons pe_str pa_nil))))), ?_⟩
  exact ⟨_, rfl, a, _, _, rfl, Nat.le_of_ble_eq_true rfl, T.ox_Over, ha, k⟩

theorem spB_len {f : PyData → Bool} {n : Str} : ∀ (vs : List V) (H : Hp) (Q : VK) (E : XK), spB K f vs H Q E → vs.length = [n].length := by
  rintro vs H Q E ⟨c, v, d, rfl, _⟩; rfl
theorem O_is_integer (T : Tx K mg) : FnOk P w K mg base CX0 1 T.a_is_integer T.d_is_integer ["value"] (spB K isInt) := by
  refine T.F_is_integer.ok sc_is_integer spB_len (fun cdv A outer s H vs Q E hr h => ?_)
  obtain ⟨c, v, d, rfl, hd, k⟩ := h
  refine ⟨_, (pss_one (ps_ret (pe_and (pe_callB call_isi (by rfl) T.z_isinstance (by decide +kernel) (pa_cons (pv 0) (pa_cons (pe_bltn (v := .ty "int") (u := .type "int") (by rfl) T.z_int (by decide +kernel) rfl) pa_nil))) (pe_one (pe_not (pe_callB call_isi (by rfl) T.z_isinstance (by decide +kernel) (pa_cons (pv 0) (pa_cons (pe_bltn (v := .ty "bool") (u := .type "bool") (by rfl) T.z_bool (by decide +kernel) rfl) pa_nil)))))))), ?_⟩
  refine ⟨_, rfl, _, .ty "int", .type (tyN _), .type "int", _, rfl, .ty _, ty_of hd, kit_ty (kI _), _, rfl, ?_⟩
  have k := k H (Same.refl H)
  cases d with
  | int i => exact iteT ⟨_, rfl, _, .ty "bool", .type (tyN _), .type "bool", _, rfl, .ty _, ty_of hd, kit_ty (kB _), _, rfl, k⟩
  | bool i => exact iteT ⟨_, rfl, _, .ty "bool", .type (tyN _), .type "bool", _, rfl, .ty _, ty_of hd, kit_ty (kB _), _, rfl, k⟩
  | _ => exact iteF k
theorem O_is_list (T : Tx K mg) : FnOk P w K mg base CX0 1 T.a_is_list T.d_is_list ["value"] (spB K isSeq) := by
  refine T.F_is_list.ok sc_is_list spB_len (fun cdv A outer s H vs Q E hr h => ?_)
  obtain ⟨c, v, d, rfl, hd, k⟩ := h
  refine ⟨_, (pss_one (ps_ret (pe_callB call_isiT (by rfl) T.z_isinstance (by decide +kernel) (pa_cons (pv 0) (pa_cons (pe_tup (pa_cons (pe_bltn (v := .ty "list") (u := .type "list") (by rfl) T.z_list (by decide +kernel) rfl) (pa_cons (pe_bltn (v := .ty "tuple") (u := .type "tuple") (by rfl) T.z_tuple (by decide +kernel) rfl) pa_nil))) pa_nil))))), ?_⟩
  refine ⟨_, rfl, szl rfl, fun p hp => ?_⟩
  have hd1 := hd.up (Ext.new hp (o := .tup [.ty "list", .ty "tuple"]))
  exact ⟨v, _, [.ty "list", .ty "tuple"], .type (tyN _), [.type "list", .type "tuple"], isSeq _, rfl, upd_same, .cons (.ty _) (.cons (.ty _) .nil), ty_of hd1, kit_seq _, k _ (same_new hp)⟩

theorem O_is_square (T : Tx K mg) : FnOk P w K mg base CX0 2 T.a_is_square T.d_is_square ["value"] (spB K (pairP isInt)) := by
  refine T.F_is_square.ok sc_is_square spB_len (fun cdv A outer s H vs Q E hr h => ?_)
  obtain ⟨c, v, d, rfl, hd, k⟩ := h
  refine ⟨_, (pss_one (ps_ret (pe_and (pe_call (O_is_list T) (hr.mono (by decide)) (by rfl) T.m_is_list T.F_is_list.kp T.b_is_list .nil pass0 (pa_cons (pv 0) pa_nil)) (pe_and (pe_cmpR op_eq (pe_callB call_len (by rfl) T.z_len (by decide +kernel) (pa_cons (pv 0) pa_nil)) pe_int (nomark _)) (pe_and (pe_call (O_is_integer T) (hr.mono (by decide)) (by rfl) T.m_is_integer T.F_is_integer.kp T.b_is_integer .nil pass0 (pa_cons (pe_ix ix_seq (pv 0) pe_int (fun _ _ => rfl)) pa_nil)) (pe_one (pe_call (O_is_integer T) (hr.mono (by decide)) (by rfl) T.m_is_integer T.F_is_integer.kp T.b_is_integer .nil pass0 (pa_cons (pe_ix ix_seq (pv 0) pe_int (fun _ _ => rfl)) pa_nil)))))))), ?_⟩
  refine ⟨_, rfl, c, v, d, rfl, hd, fun H1 s1 => ⟨_, rfl, ?_⟩⟩
  have hd1 := hd.up (Ext.of s1)
  cases hd1 with
  | @lst a xs ds na hs hv =>
    refine iteT ⟨_, rfl, _, _, rfl, .inl ⟨xs, hs, rfl⟩, rfl, _, rfl, ?_⟩
    refine ite2 (fun e => ?_) (fun e => ?_)
    · have e2 : xs.length = 2 := by
        have := V.int.inj (of_decide_eq_true e); omega
      obtain ⟨x, y, rfl⟩ := two_of e2
      cases hv with
      | cons hx hv =>
      cases hv with
      | cons hy hv =>
      cases hv with
      | nil =>
      rename_i dx dy
      refine ⟨_, rfl, .inl ⟨a, _, 0, x, rfl, rfl, hs, rfl, c, x, dx, rfl, hx, fun H2 s2 => ⟨_, rfl, ?_⟩⟩⟩
      have hs2 := (Ext.of (c := c) s2).sqL na hs
      have hy2 := hy.up (Ext.of s2)
      refine iteB (fun e => ?_) (fun e => ?_)
      rotate_left
      · have := k H2 (s1.trans s2)
        simp only [pairP, e, Bool.false_and] at this
        exact this
      · refine ⟨_, rfl, .inl ⟨a, _, 1, y, rfl, rfl, hs2, rfl, c, y, dy, rfl, hy2, fun H3 s3 => ?_⟩⟩
        have := k H3 ((s1.trans s2).trans s3)
        simp only [pairP, e, Bool.true_and] at this
        exact this
    · have e2 : ds.length ≠ 2 := fun z => e (decide_eq_true (by rw [hv.len, z]; rfl))
      have := k H1 s1
      rw [(pair_no e2).1] at this
      exact this
  | @tup a xs ds na hs hv =>
    refine iteT ⟨_, rfl, _, _, rfl, .inr ⟨xs, hs, rfl⟩, rfl, _, rfl, ?_⟩
    refine ite2 (fun e => ?_) (fun e => ?_)
    · have e2 : xs.length = 2 := by
        have := V.int.inj (of_decide_eq_true e); omega
      obtain ⟨x, y, rfl⟩ := two_of e2
      cases hv with
      | cons hx hv =>
      cases hv with
      | cons hy hv =>
      cases hv with
      | nil =>
      rename_i dx dy
      refine ⟨_, rfl, .inr (.inl ⟨a, _, 0, x, rfl, rfl, hs, rfl, c, x, dx, rfl, hx, fun H2 s2 => ⟨_, rfl, ?_⟩⟩)⟩
      have hs2 := (Ext.of (c := c) s2).sqT na hs
      have hy2 := hy.up (Ext.of s2)
      refine iteB (fun e => ?_) (fun e => ?_)
      rotate_left
      · have := k H2 (s1.trans s2)
        simp only [pairP, e, Bool.false_and] at this
        exact this
      · refine ⟨_, rfl, .inr (.inl ⟨a, _, 1, y, rfl, rfl, hs2, rfl, c, y, dy, rfl, hy2, fun H3 s3 => ?_⟩)⟩
        have := k H3 ((s1.trans s2).trans s3)
        simp only [pairP, e, Bool.true_and] at this
        exact this
    · have e2 : ds.length ≠ 2 := fun z => e (decide_eq_true (by rw [hv.len, z]; rfl))
      have := k H1 s1
      rw [(pair_no e2).2] at this
      exact this
  | non => exact iteF (k H1 s1)
  | bl => exact iteF (k H1 s1)
  | int => exact iteF (k H1 s1)
  | str => exact iteF (k H1 s1)
  | dic => exact iteF (k H1 s1)
  | dct => exact iteF (k H1 s1)
theorem O_is_move (T : Tx K mg) : FnOk P w K mg base CX0 3 T.a_is_move T.d_is_move ["value"] (spB K (pairP isSq)) := by
  refine T.F_is_move.ok sc_is_move spB_len (fun cdv A outer s H vs Q E hr h => ?_)
  obtain ⟨c, v, d, rfl, hd, k⟩ := h
  refine ⟨_, (pss_one (ps_ret (pe_and (pe_call (O_is_list T) (hr.mono (by decide)) (by rfl) T.m_is_list T.F_is_list.kp T.b_is_list .nil pass0 (pa_cons (pv 0) pa_nil)) (pe_and (pe_cmpR op_eq (pe_callB call_len (by rfl) T.z_len (by decide +kernel) (pa_cons (pv 0) pa_nil)) pe_int (nomark _)) (pe_and (pe_call (O_is_square T) (hr.mono (by decide)) (by rfl) T.m_is_square T.F_is_square.kp T.b_is_square .nil pass0 (pa_cons (pe_ix ix_seq (pv 0) pe_int (fun _ _ => rfl)) pa_nil)) (pe_one (pe_call (O_is_square T) (hr.mono (by decide)) (by rfl) T.m_is_square T.F_is_square.kp T.b_is_square .nil pass0 (pa_cons (pe_ix ix_seq (pv 0) pe_int (fun _ _ => rfl)) pa_nil)))))))), ?_⟩
  refine ⟨_, rfl, c, v, d, rfl, hd, fun H1 s1 => ⟨_, rfl, ?_⟩⟩
  have hd1 := hd.up (Ext.of s1)
  cases hd1 with
  | @lst a xs ds na hs hv =>
    refine iteT ⟨_, rfl, _, _, rfl, .inl ⟨xs, hs, rfl⟩, rfl, _, rfl, ?_⟩
    refine ite2 (fun e => ?_) (fun e => ?_)
    · have e2 : xs.length = 2 := by
        have := V.int.inj (of_decide_eq_true e); omega
      obtain ⟨x, y, rfl⟩ := two_of e2
      cases hv with
      | cons hx hv =>
      cases hv with
      | cons hy hv =>
      cases hv with
      | nil =>
      rename_i dx dy
      refine ⟨_, rfl, .inl ⟨a, _, 0, x, rfl, rfl, hs, rfl, c, x, dx, rfl, hx, fun H2 s2 => ⟨_, rfl, ?_⟩⟩⟩
      have hs2 := (Ext.of (c := c) s2).sqL na hs
      have hy2 := hy.up (Ext.of s2)
      refine iteB (fun e => ?_) (fun e => ?_)
      rotate_left
      · have := k H2 (s1.trans s2)
        simp only [pairP, e, Bool.false_and] at this
        exact this
      · refine ⟨_, rfl, .inl ⟨a, _, 1, y, rfl, rfl, hs2, rfl, c, y, dy, rfl, hy2, fun H3 s3 => ?_⟩⟩
        have := k H3 ((s1.trans s2).trans s3)
        simp only [pairP, e, Bool.true_and] at this
        exact this
    · have e2 : ds.length ≠ 2 := fun z => e (decide_eq_true (by rw [hv.len, z]; rfl))
      have := k H1 s1
      rw [(pair_no e2).1] at this
      exact this
  | @tup a xs ds na hs hv =>
    refine iteT ⟨_, rfl, _, _, rfl, .inr ⟨xs, hs, rfl⟩, rfl, _, rfl, ?_⟩
    refine ite2 (fun e => ?_) (fun e => ?_)
    · have e2 : xs.length = 2 := by
        have := V.int.inj (of_decide_eq_true e); omega
      obtain ⟨x, y, rfl⟩ := two_of e2
      cases hv with
      | cons hx hv =>
      cases hv with
      | cons hy hv =>
      cases hv with
      | nil =>
      rename_i dx dy
      refine ⟨_, rfl, .inr (.inl ⟨a, _, 0, x, rfl, rfl, hs, rfl, c, x, dx, rfl, hx, fun H2 s2 => ⟨_, rfl, ?_⟩⟩)⟩
      have hs2 := (Ext.of (c := c) s2).sqT na hs
      have hy2 := hy.up (Ext.of s2)
      refine iteB (fun e => ?_) (fun e => ?_)
      rotate_left
      · have := k H2 (s1.trans s2)
        simp only [pairP, e, Bool.false_and] at this
        exact this
      · refine ⟨_, rfl, .inr (.inl ⟨a, _, 1, y, rfl, rfl, hs2, rfl, c, y, dy, rfl, hy2, fun H3 s3 => ?_⟩)⟩
        have := k H3 ((s1.trans s2).trans s3)
        simp only [pairP, e, Bool.true_and] at this
        exact this
    · have e2 : ds.length ≠ 2 := fun z => e (decide_eq_true (by rw [hv.len, z]; rfl))
      have := k H1 s1
      rw [(pair_no e2).2] at this
      exact this
  | non => exact iteF (k H1 s1)
  | bl => exact iteF (k H1 s1)
  | int => exact iteF (k H1 s1)
  | str => exact iteF (k H1 s1)
  | dic => exact iteF (k H1 s1)
  | dct => exact iteF (k H1 s1)


def spNmI : Sp := fun vs H Q _ => ∃ n : Int, vs = [.int n] ∧ ∀ H', Same H H' → Q (.bl false) H'
theorem O_is_name (T : Tx K mg) : FnOk P w K mg base CX0 1 T.a_is_name T.d_is_name ["value"] spNmI := by
  refine T.F_is_name.ok sc_is_name (fun vs H Q E h => ?_) (fun cdv A outer s H vs Q E hr h => ?_)
  · obtain ⟨n, rfl, _⟩ := h; rfl
  obtain ⟨n, rfl, k⟩ := h
  obtain ⟨tN, hN⟩ := T.g_LONGEST
  refine ⟨_, (pss_cons (ps_if (PW.pt (pw_or (pt_not (pt_val (pe_callB call_isi (by rfl) T.z_isinstance (by decide +kernel) (pa_cons (pv 0) (pa_cons (pe_bltn (v := .ty "str") (u := .type "str") (by rfl) T.z_str (by decide +kernel) rfl) pa_nil))))) (pw_or1 (pt_not (pt_chain op_le op_le pe_int (pe_callB call_len_str (by rfl) T.z_len (by decide +kernel) (pa_cons (pv 0) pa_nil)) (pe_glob (v := .int 8) (by rfl) hN ⟨_, rfl⟩)))))) (pss_one (ps_ret pe_bl)) pss_nil)
      pss_never), ?_⟩
  have hd : DV K 0 H (.int n) (.int n) := .int n
  exact ⟨_, rfl, _, .ty "str", .type (tyN _), .type "str", _, rfl, .ty _, ty_of hd, kit_ty (kS _), _, rfl, iteT (k H (Same.refl H))⟩
def spKindN (DB : Addr) : Sp := fun vs H Q E => ∃ (x : Addr) (n : Int) (vl vr vq : V), vs = [.ref x, .int n, vl, vr, vq] ∧ ∀ d H', H d = none → Same H H' → H' d = some (.xd [("part", .str "name")]) → E (.ref DB) (some d) H'
theorem O_Kind___init__ (T : Tx K mg) : FnOk P w K mg base (L2.CX P w) 3 T.a_Kind___init__ T.d_Kind___init__ ["self", "name", "leaps", "rides", "is_lord"] (spKindN T.c_BadKind) := by
  refine T.F_Kind___init__.ok sc_Kind___init__ (fun vs H Q E h => ?_) (fun cdv A outer s H vs Q E hr h => ?_)
  · obtain ⟨x, n, vl, vr, vq, rfl, _⟩ := h; rfl
  obtain ⟨x, n, vl, vr, vq, rfl, k⟩ := h
  refine ⟨_, (pss_cons (ps_if (pt_not (pt_val (pe_call (O_is_name T) (hr.mono (by decide)) (by rfl) T.m_is_name T.F_is_name.kp T.b_is_name .nil pass0 (pa_cons (pv 1) pa_nil)))) (pss_one (ps_raise rfl (takes_of rfl rfl rfl rfl) (pmk_oex T.ox_BadKind T.ic_BadKind T.ti_BadKind (O_BadKind___init__ T) (hr.mono (by decide)) T.b_BadKind___init__ .nil pass0 (by rfl) T.m_BadKind (pa_cons pe_str pa_nil)))) pss_nil)
      pss_never), ?_⟩
  refine ⟨_, rfl, n, rfl, fun H1 s1 => ⟨_, rfl, iteT ?_⟩⟩
  exact ⟨Nat.le_of_ble_eq_true rfl, mk_err fun d H' h1 h2 h3 => k d H' (s1.free h1) (s1.trans h2) h3⟩
def spStepsS (DB : Addr) : Sp := fun vs H Q E => ∃ x : Str, vs = [.str x] ∧ ∀ d H', H d = none → Same H H' → H' d = some (.xd [("part", .str "kind")]) → E (.ref DB) (some d) H'
theorem O_steps_of (T : Tx K mg) : FnOk P w K mg base (L2.CX P w) 3 T.a_steps_of T.d_steps_of ["kind"] (spStepsS T.c_BadKind) := by
  refine T.F_steps_of.okX sc_steps_of (fun vs H Q E h => ?_) (fun cdv A outer s H vs Q E hr h => ?_)
  · obtain ⟨x, rfl, _⟩ := h; rfl
  obtain ⟨x, rfl, k⟩ := h
  refine ⟨_, (pss_cons (ps_if (pt_not (pt_val (pe_callB call_isi (by rfl) T.z_isinstance (by decide +kernel) (pa_cons (pv 0) (pa_cons (pe_glob (v := .ref T.c_Kind) (by rfl) T.m_Kind rfl) pa_nil))))) (pss_one (ps_raise rfl (takes_of rfl rfl rfl rfl) (pmk_oex T.ox_BadKind T.ic_BadKind T.ti_BadKind (O_BadKind___init__ T) (hr.mono (by decide)) T.b_BadKind___init__ .nil pass0 (by rfl) T.m_BadKind (pa_cons pe_str pa_nil)))) pss_nil)
      pss_never), ?_⟩
  refine ⟨_, rfl, .str x, .ref T.c_Kind, .type "str", .ref T.c_Kind, false, rfl, .own _, .base (.str x), T.kn_Kind, _, rfl, iteT ?_⟩
  exact ⟨Nat.le_of_ble_eq_true rfl, mk_err fun d H' a b c => k d H' a b c⟩
def spGone (DM DW : Addr) (K : PySem.W.Frag) : Sp := fun vs H Q E => ∃ (c : Addr) (v : V) (dm : PyData) (how : Str), vs = [v, .str how, .int 0, .int 0] ∧ DV K c H v dm ∧
  ((isMv dm = false ∧ ∀ d H', H d = none → Same H H' → H' d = some (.xd [("part", .str "move")]) → E (.ref DM) (some d) H') ∨
   (isMv dm = true ∧ inV (.str how) [.str "turned", .str "mirrored", .str "moved"] = false ∧ ∀ d H', H d = none → Same H H' → H' d = some (.xd [("part", .str "how")]) → E (.ref DW) (some d) H'))
theorem O_gone_along (T : Tx K mg) : FnOk P w K mg base (L2.CX P w) 5 T.a_gone_along T.d_gone_along ["move", "how", "across", "up"] (spGone T.c_BadMove T.c_BadWords K) := by
  refine T.F_gone_along.ok sc_gone_along (fun vs H Q E h => ?_) (fun cdv A outer s H vs Q E hr h => ?_)
  · obtain ⟨c, v, dm, how, rfl, _⟩ := h; rfl
  obtain ⟨c, v, dm, how, rfl, hd, k⟩ := h
  refine ⟨_, (pss_cons (ps_if (pt_not (pt_val (pe_call (O_is_move T) (hr.mono (by decide)) (by rfl) T.m_is_move T.F_is_move.kp T.b_is_move .nil pass0 (pa_cons (pv 0) pa_nil)))) (pss_one (ps_raise rfl (takes_of rfl rfl rfl rfl) (pmk_oex T.ox_BadMove T.ic_BadMove T.ti_BadMove (O_BadMove___init__ T) (hr.mono (by decide)) T.b_BadMove___init__ .nil pass0 (by rfl) T.m_BadMove (pa_cons pe_str pa_nil)))) pss_nil)
      (pss_cons (ps_if (PW.pt (pw_or (pt_not (pt_val (pe_callB call_isi (by rfl) T.z_isinstance (by decide +kernel) (pa_cons (pv 1) (pa_cons (pe_bltn (v := .ty "str") (u := .type "str") (by rfl) T.z_str (by decide +kernel) rfl) pa_nil))))) (pw_or1 (pt_cmpR op_notIn_seq (pv 1) (pe_glob (v := .ref T.t_W) (by rfl) T.g_W rfl) (by rfl))))) (pss_one (ps_raise rfl (takes_of rfl rfl rfl rfl) (pmk_oex T.ox_BadWords T.ic_BadWords T.ti_BadWords (O_BadWords___init__ T) (hr.mono (by decide)) T.b_BadWords___init__ .nil pass0 (by rfl) T.m_BadWords (pa_cons pe_str pa_nil)))) pss_nil)
      pss_never)), ?_⟩
  refine ⟨_, rfl, c, v, dm, rfl, hd, fun H1 s1 => ⟨_, rfl, ?_⟩⟩
  rcases k with ⟨e, k⟩ | ⟨e, e2, k⟩
  · have e : pairP isSq dm = false := e
    rw [e]
    exact iteT ⟨Nat.le_of_ble_eq_true rfl, mk_err fun d H' a b c => k d H' (s1.free a) (s1.trans b) c⟩
  · have e : pairP isSq dm = true := e
    rw [e]
    refine iteF ?_
    have hs : DV K c H1 (.str how) (.str how) := .str how
    refine ⟨_, rfl, _, .ty "str", .type (tyN _), .type "str", _, rfl, .ty _, ty_of hs, kit_ty (kS _), _, rfl, iteF ⟨_, rfl, T.t_W, _, rfl, .inr (T.s_W H1), rfl, rfl, _, rfl, ?_⟩⟩
    rw [show (!inV (.str how) [.str "turned", .str "mirrored", .str "moved"]) = true by rw [e2]; rfl]
    exact iteT ⟨Nat.le_of_ble_eq_true rfl, mk_err fun d H' a b c => k d H' (s1.free a) (s1.trans b) c⟩
end
end K0

set_option Elab.async false
set_option linter.all false
set_option maxRecDepth 100000
set_option maxHeartbeats 4000000
namespace K0
open PySem PySem.Spec PyProof.Rows L2 Gs
section
variable {P : Program} {w : World} {K : PySem.W.Frag} {mg : Str → Option Value} {base : Heap}
def Tx.cs (T : Tx K mg) : List Addr := [T.c_BadNumber, T.c_BadSquare, T.c_BadKind, T.c_BadGame, T.c_BadPosition, T.c_BadMove, T.c_BadPlay, T.c_BadPaper, T.c_BadWords, T.c_Misfit, T.c_NoName, T.c_Twice, T.c_TooMany, T.c_BadText, T.c_BadLine, T.c_Nothing, T.c_Over]
/-- the fields of the error of a number -/
def fsE (v1 v2 : V) : Nat → Option (List (Str × V))
  | 10 => some [("value", v1)]
  | 11 => some [("value", v1)]
  | 12 => some [("most", v2), ("what", v1)]
  | 13 => some [("item", v2), ("line", v1)]
  | 14 => some [("error", v2), ("line", v1)]
  | 15 => none
  | 16 => none
  | _ => some [("part", v1)]
def ErrI (cs : List Addr) (i : Nat) (v1 v2 : V) (H : Hp) (a : Addr) : Prop := ∃ C, cs[i]? = some C ∧ ExI H a C (fsE v1 v2 i)
theorem ErrI.same {cs : List Addr} {i : Nat} {v1 v2 : V} {H H' : Hp} {a : Addr} (h : ErrI cs i v1 v2 H a) (e : Same H H') : ErrI cs i v1 v2 H' a := by
  obtain ⟨C, x, y⟩ := h; exact ⟨C, x, y.same e⟩
def EL (cs : List Addr) (v1 v2 : V) (H : Hp) (xs : List V) : Prop := ∀ (i : Nat) (x : V), xs[i]? = some x → ∃ a, x = .ref a ∧ ErrI cs i v1 v2 H a
theorem EL.nil {cs : List Addr} {v1 v2 : V} {H : Hp} : EL cs v1 v2 H [] := fun i x h => by simp at h
theorem EL.mono {cs : List Addr} {v1 v2 : V} {H H' : Hp} {xs : List V} (h : EL cs v1 v2 H xs) (e : Same H H') : EL cs v1 v2 H' xs := fun i x hx => by
  obtain ⟨a, e1, e2⟩ := h i x hx; exact ⟨a, e1, e2.same e⟩
theorem EL.snoc {cs : List Addr} {v1 v2 : V} {H H' : Hp} {xs : List V} {a : Addr} (h : EL cs v1 v2 H xs) (e : Same H H') (hn : ErrI cs xs.length v1 v2 H' a) : EL cs v1 v2 H' (xs ++ [.ref a]) := fun i x hx => by
  by_cases hl : i < xs.length
  · rw [List.getElem?_append_left hl] at hx
    exact (h.mono e) i x hx
  · rw [List.getElem?_append_right (Nat.le_of_not_lt hl)] at hx
    have hz : i - xs.length = 0 := by
      by_cases z : i - xs.length = 0
      · exact z
      · obtain ⟨m, hm⟩ : ∃ m, i - xs.length = m + 1 := ⟨i - xs.length - 1, by omega⟩
        rw [hm] at hx; simp at hx
    rw [hz] at hx
    have : i = xs.length := by omega
    subst this
    cases hx
    exact ⟨a, rfl, hn⟩
def spPl (cs : List Addr) : Sp := fun vs H Q _ => ∃ (i : Nat) (v1 v2 : V), vs = [.int i, v1, v2] ∧ i < 17 ∧ ∀ a H', ErrI cs i v1 v2 H' a → Same H H' → Q (.ref a) H'
theorem O__law_by_place (T : Tx K mg) : FnOk P w K mg base CX0 3 T.a__law_by_place T.d__law_by_place ["at", "one", "other"] (spPl T.cs) := by
  refine T.F__law_by_place.ok sc__law_by_place (fun vs H Q E h => ?_) (fun cdv A outer s H vs Q E hr h => ?_)
  · obtain ⟨i, v1, v2, rfl, _⟩ := h; rfl
  obtain ⟨i, v1, v2, rfl, hi, k⟩ := h
  refine ⟨_, (pss_cons (ps_set (i := 3) sc__law_by_place.nd rfl (Or.inl rfl) (pe_lst (pa_cons (pe_exv T.ox_BadNumber T.ic_BadNumber T.ti_BadNumber (O_BadNumber___init__ T) (hr.mono (by decide)) T.b_BadNumber___init__ pass0 (by rfl) T.m_BadNumber (pa_cons (pv 1) pa_nil)) (pa_cons (pe_exv T.ox_BadSquare T.ic_BadSquare T.ti_BadSquare (O_BadSquare___init__ T) (hr.mono (by decide)) T.b_BadSquare___init__ pass0 (by rfl) T.m_BadSquare (pa_cons (pv 1) pa_nil)) (pa_cons (pe_exv T.ox_BadKind T.ic_BadKind T.ti_BadKind (O_BadKind___init__ T) (hr.mono (by decide)) T.b_BadKind___init__ pass0 (by rfl) T.m_BadKind (pa_cons (pv 1) pa_nil)) (pa_cons (pe_exv T.ox_BadGame T.ic_BadGame T.ti_BadGame (O_BadGame___init__ T) (hr.mono (by decide)) T.b_BadGame___init__ pass0 (by rfl) T.m_BadGame (pa_cons (pv 1) pa_nil)) (pa_cons (pe_exv T.ox_BadPosition T.ic_BadPosition T.ti_BadPosition (O_BadPosition___init__ T) (hr.mono (by decide)) T.b_BadPosition___init__ pass0 (by rfl) T.m_BadPosition (pa_cons (pv 1) pa_nil)) (pa_cons (pe_exv T.ox_BadMove T.ic_BadMove T.ti_BadMove (O_BadMove___init__ T) (hr.mono (by decide)) T.b_BadMove___init__ pass0 (by rfl) T.m_BadMove (pa_cons (pv 1) pa_nil)) (pa_cons (pe_exv T.ox_BadPlay T.ic_BadPlay T.ti_BadPlay (O_BadPlay___init__ T) (hr.mono (by decide)) T.b_BadPlay___init__ pass0 (by rfl) T.m_BadPlay (pa_cons (pv 1) pa_nil)) (pa_cons (pe_exv T.ox_BadPaper T.ic_BadPaper T.ti_BadPaper (O_BadPaper___init__ T) (hr.mono (by decide)) T.b_BadPaper___init__ pass0 (by rfl) T.m_BadPaper (pa_cons (pv 1) pa_nil)) (pa_cons (pe_exv T.ox_BadWords T.ic_BadWords T.ti_BadWords (O_BadWords___init__ T) (hr.mono (by decide)) T.b_BadWords___init__ pass0 (by rfl) T.m_BadWords (pa_cons (pv 1) pa_nil)) pa_nil)))))))))))
      (pss_cons (ps_set (i := 3) sc__law_by_place.nd rfl (Or.inl rfl) (pe_op op_cat (pv 3) (pe_lst (pa_cons (pe_exv T.ox_Misfit T.ic_Misfit T.ti_Misfit (O_Misfit___init__ T) (hr.mono (by decide)) T.b_Misfit___init__ pass0 (by rfl) T.m_Misfit (pa_cons (pv 1) pa_nil)) (pa_cons (pe_exv T.ox_NoName T.ic_NoName T.ti_NoName (O_NoName___init__ T) (hr.mono (by decide)) T.b_NoName___init__ pass0 (by rfl) T.m_NoName (pa_cons (pv 1) pa_nil)) (pa_cons (pe_exv T.ox_Twice T.ic_Twice T.ti_Twice (O_Twice___init__ T) (hr.mono (by decide)) T.b_Twice___init__ pass0 (by rfl) T.m_Twice (pa_cons (pv 1) pa_nil)) (pa_cons (pe_exv T.ox_TooMany T.ic_TooMany T.ti_TooMany (O_TooMany___init__ T) (hr.mono (by decide)) T.b_TooMany___init__ pass0 (by rfl) T.m_TooMany (pa_cons (pv 1) (pa_cons (pv 2) pa_nil))) (pa_cons (pe_exv T.ox_BadText T.ic_BadText T.ti_BadText (O_BadText___init__ T) (hr.mono (by decide)) T.b_BadText___init__ pass0 (by rfl) T.m_BadText (pa_cons (pv 1) (pa_cons (pv 2) pa_nil))) (pa_cons (pe_exv T.ox_BadLine T.ic_BadLine T.ti_BadLine (O_BadLine___init__ T) (hr.mono (by decide)) T.b_BadLine___init__ pass0 (by rfl) T.m_BadLine (pa_cons (pv 1) (pa_cons (pv 2) pa_nil))) pa_nil)))))))))
      (pss_one (ps_ret (pe_ix ix_list (pe_op op_cat (pv 3) (pe_lst (pa_cons (pe_exv0 T.ox_Nothing T.ic_Nothing T.ti_Nothing (O_Nothing___init__ T) (hr.mono (by decide)) T.b_Nothing___init__ pass0 (by rfl) T.m_Nothing) (pa_cons (pe_exv0 T.ox_Over T.ic_Over T.ti_Over (O_Over___init__ T) (hr.mono (by decide)) T.b_Over___init__ pass0 (by rfl) T.m_Over) pa_nil)))) (pv 0) (fun _ _ => rfl)))))), ?_⟩
  refine ⟨_, rfl, szl2 rfl, mk_val fun a1 H1 n1 s1 e1 => ?_⟩
  have E1 : EL T.cs v1 v2 H1 [.ref a1] := EL.snoc (a := a1) (EL.nil (cs := T.cs) (v1 := v1) (v2 := v2) (H := H)) s1 ⟨T.c_BadNumber, rfl, e1⟩
  have S1 := s1
  refine ⟨_, rfl, szl2 rfl, mk_val fun a2 H2 n2 s2 e2 => ?_⟩
  have E2 : EL T.cs v1 v2 H2 [.ref a1, .ref a2] := EL.snoc (a := a2) E1 s2 ⟨T.c_BadSquare, rfl, e2⟩
  have S2 := S1.trans s2
  refine ⟨_, rfl, szl2 rfl, mk_val fun a3 H3 n3 s3 e3 => ?_⟩
  have E3 : EL T.cs v1 v2 H3 [.ref a1, .ref a2, .ref a3] := EL.snoc (a := a3) E2 s3 ⟨T.c_BadKind, rfl, e3⟩
  have S3 := S2.trans s3
  refine ⟨_, rfl, szl2 rfl, mk_val fun a4 H4 n4 s4 e4 => ?_⟩
  have E4 : EL T.cs v1 v2 H4 [.ref a1, .ref a2, .ref a3, .ref a4] := EL.snoc (a := a4) E3 s4 ⟨T.c_BadGame, rfl, e4⟩
  have S4 := S3.trans s4
  refine ⟨_, rfl, szl2 rfl, mk_val fun a5 H5 n5 s5 e5 => ?_⟩
  have E5 : EL T.cs v1 v2 H5 [.ref a1, .ref a2, .ref a3, .ref a4, .ref a5] := EL.snoc (a := a5) E4 s5 ⟨T.c_BadPosition, rfl, e5⟩
  have S5 := S4.trans s5
  refine ⟨_, rfl, szl2 rfl, mk_val fun a6 H6 n6 s6 e6 => ?_⟩
  have E6 : EL T.cs v1 v2 H6 [.ref a1, .ref a2, .ref a3, .ref a4, .ref a5, .ref a6] := EL.snoc (a := a6) E5 s6 ⟨T.c_BadMove, rfl, e6⟩
  have S6 := S5.trans s6
  refine ⟨_, rfl, szl2 rfl, mk_val fun a7 H7 n7 s7 e7 => ?_⟩
  have E7 : EL T.cs v1 v2 H7 [.ref a1, .ref a2, .ref a3, .ref a4, .ref a5, .ref a6, .ref a7] := EL.snoc (a := a7) E6 s7 ⟨T.c_BadPlay, rfl, e7⟩
  have S7 := S6.trans s7
  refine ⟨_, rfl, szl2 rfl, mk_val fun a8 H8 n8 s8 e8 => ?_⟩
  have E8 : EL T.cs v1 v2 H8 [.ref a1, .ref a2, .ref a3, .ref a4, .ref a5, .ref a6, .ref a7, .ref a8] := EL.snoc (a := a8) E7 s8 ⟨T.c_BadPaper, rfl, e8⟩
  have S8 := S7.trans s8
  refine ⟨_, rfl, szl2 rfl, mk_val fun a9 H9 n9 s9 e9 => ?_⟩
  have E9 : EL T.cs v1 v2 H9 [.ref a1, .ref a2, .ref a3, .ref a4, .ref a5, .ref a6, .ref a7, .ref a8, .ref a9] := EL.snoc (a := a9) E8 s9 ⟨T.c_BadWords, rfl, e9⟩
  have S9 := S8.trans s9
  refine ⟨szl rfl, fun p0 hp0 => ?_⟩
  have F0 := EL.mono E9 (same_new hp0 (o := .lst [.ref a1, .ref a2, .ref a3, .ref a4, .ref a5, .ref a6, .ref a7, .ref a8, .ref a9]))
  have U0 := S9.trans (same_new hp0 (o := .lst [.ref a1, .ref a2, .ref a3, .ref a4, .ref a5, .ref a6, .ref a7, .ref a8, .ref a9]))
  have l0 : upd H9 p0 (.lst [.ref a1, .ref a2, .ref a3, .ref a4, .ref a5, .ref a6, .ref a7, .ref a8, .ref a9]) p0 = some (.lst [.ref a1, .ref a2, .ref a3, .ref a4, .ref a5, .ref a6, .ref a7, .ref a8, .ref a9]) := upd_same
  clear E9 S9 E8 S8 E7 S7 E6 S6 E5 S5 E4 S4 E3 S3 E2 S2 E1 S1
  generalize upd H9 p0 _ = G0 at F0 U0 l0 ⊢
  refine ⟨_, rfl, ?_⟩
  refine ⟨_, rfl, szl2 rfl, mk_val fun a10 H10 n10 s10 e10 => ?_⟩
  have E10 : EL T.cs v1 v2 H10 [.ref a1, .ref a2, .ref a3, .ref a4, .ref a5, .ref a6, .ref a7, .ref a8, .ref a9, .ref a10] := EL.snoc (a := a10) F0 s10 ⟨T.c_Misfit, rfl, e10⟩
  have S10 := U0.trans s10
  have L10 := s10 _ _ l0
  refine ⟨_, rfl, szl2 rfl, mk_val fun a11 H11 n11 s11 e11 => ?_⟩
  have E11 : EL T.cs v1 v2 H11 [.ref a1, .ref a2, .ref a3, .ref a4, .ref a5, .ref a6, .ref a7, .ref a8, .ref a9, .ref a10, .ref a11] := EL.snoc (a := a11) E10 s11 ⟨T.c_NoName, rfl, e11⟩
  have S11 := S10.trans s11
  have L11 := s11 _ _ L10
  refine ⟨_, rfl, szl2 rfl, mk_val fun a12 H12 n12 s12 e12 => ?_⟩
  have E12 : EL T.cs v1 v2 H12 [.ref a1, .ref a2, .ref a3, .ref a4, .ref a5, .ref a6, .ref a7, .ref a8, .ref a9, .ref a10, .ref a11, .ref a12] := EL.snoc (a := a12) E11 s12 ⟨T.c_Twice, rfl, e12⟩
  have S12 := S11.trans s12
  have L12 := s12 _ _ L11
  refine ⟨_, rfl, _, rfl, szl2 rfl, mk_val2 fun a13 H13 n13 s13 e13 => ?_⟩
  have E13 : EL T.cs v1 v2 H13 [.ref a1, .ref a2, .ref a3, .ref a4, .ref a5, .ref a6, .ref a7, .ref a8, .ref a9, .ref a10, .ref a11, .ref a12, .ref a13] := EL.snoc (a := a13) E12 s13 ⟨T.c_TooMany, rfl, e13⟩
  have S13 := S12.trans s13
  have L13 := s13 _ _ L12
  refine ⟨_, rfl, _, rfl, szl2 rfl, mk_val2 fun a14 H14 n14 s14 e14 => ?_⟩
  have E14 : EL T.cs v1 v2 H14 [.ref a1, .ref a2, .ref a3, .ref a4, .ref a5, .ref a6, .ref a7, .ref a8, .ref a9, .ref a10, .ref a11, .ref a12, .ref a13, .ref a14] := EL.snoc (a := a14) E13 s14 ⟨T.c_BadText, rfl, e14⟩
  have S14 := S13.trans s14
  have L14 := s14 _ _ L13
  refine ⟨_, rfl, _, rfl, szl2 rfl, mk_val2 fun a15 H15 n15 s15 e15 => ?_⟩
  have E15 : EL T.cs v1 v2 H15 [.ref a1, .ref a2, .ref a3, .ref a4, .ref a5, .ref a6, .ref a7, .ref a8, .ref a9, .ref a10, .ref a11, .ref a12, .ref a13, .ref a14, .ref a15] := EL.snoc (a := a15) E14 s15 ⟨T.c_BadLine, rfl, e15⟩
  have S15 := S14.trans s15
  have L15 := s15 _ _ L14
  refine ⟨szl rfl, fun p1 hp1 => ?_⟩
  have m1 := (same_new hp1 (o := .lst [.ref a10, .ref a11, .ref a12, .ref a13, .ref a14, .ref a15])) _ _ L15
  have F := EL.mono E15 (same_new hp1 (o := .lst [.ref a10, .ref a11, .ref a12, .ref a13, .ref a14, .ref a15]))
  have U := S15.trans (same_new hp1 (o := .lst [.ref a10, .ref a11, .ref a12, .ref a13, .ref a14, .ref a15]))
  have w1 : upd H15 p1 (.lst [.ref a10, .ref a11, .ref a12, .ref a13, .ref a14, .ref a15]) p1 = some (.lst [.ref a10, .ref a11, .ref a12, .ref a13, .ref a14, .ref a15]) := upd_same
  generalize upd H15 p1 _ = J1 at F U m1 w1 ⊢
  refine ⟨p0, p1, _, _, rfl, rfl, m1, w1, szl rfl, fun r1 hr1 => ?_⟩
  have F1 : EL T.cs v1 v2 _ [.ref a1, .ref a2, .ref a3, .ref a4, .ref a5, .ref a6, .ref a7, .ref a8, .ref a9, .ref a10, .ref a11, .ref a12, .ref a13, .ref a14, .ref a15] := EL.mono F (same_new hr1 (o := .lst ([.ref a1, .ref a2, .ref a3, .ref a4, .ref a5, .ref a6, .ref a7, .ref a8, .ref a9] ++ [.ref a10, .ref a11, .ref a12, .ref a13, .ref a14, .ref a15])))
  have U1 := U.trans (same_new hr1 (o := .lst ([.ref a1, .ref a2, .ref a3, .ref a4, .ref a5, .ref a6, .ref a7, .ref a8, .ref a9] ++ [.ref a10, .ref a11, .ref a12, .ref a13, .ref a14, .ref a15])))
  have l1 : upd J1 r1 (.lst ([.ref a1, .ref a2, .ref a3, .ref a4, .ref a5, .ref a6, .ref a7, .ref a8, .ref a9] ++ [.ref a10, .ref a11, .ref a12, .ref a13, .ref a14, .ref a15])) r1 = some (.lst [.ref a1, .ref a2, .ref a3, .ref a4, .ref a5, .ref a6, .ref a7, .ref a8, .ref a9, .ref a10, .ref a11, .ref a12, .ref a13, .ref a14, .ref a15]) := upd_same
  clear F U m1 w1 E15 S15 L15 E14 S14 L14 E13 S13 L13 E12 S12 L12 E11 S11 L11 E10 S10 L10
  generalize upd J1 r1 _ = G1 at F1 U1 l1 ⊢
  refine ⟨_, rfl, ?_⟩
  refine ⟨szl2 rfl, mk_val0 fun a16 H16 n16 s16 e16 => ?_⟩
  have E16 : EL T.cs v1 v2 H16 [.ref a1, .ref a2, .ref a3, .ref a4, .ref a5, .ref a6, .ref a7, .ref a8, .ref a9, .ref a10, .ref a11, .ref a12, .ref a13, .ref a14, .ref a15, .ref a16] := EL.snoc (a := a16) F1 s16 ⟨T.c_Nothing, rfl, e16⟩
  have S16 := U1.trans s16
  have L16 := s16 _ _ l1
  refine ⟨szl2 rfl, mk_val0 fun a17 H17 n17 s17 e17 => ?_⟩
  have E17 : EL T.cs v1 v2 H17 [.ref a1, .ref a2, .ref a3, .ref a4, .ref a5, .ref a6, .ref a7, .ref a8, .ref a9, .ref a10, .ref a11, .ref a12, .ref a13, .ref a14, .ref a15, .ref a16, .ref a17] := EL.snoc (a := a17) E16 s17 ⟨T.c_Over, rfl, e17⟩
  have S17 := S16.trans s17
  have L17 := s17 _ _ L16
  refine ⟨szl rfl, fun p2 hp2 => ?_⟩
  have m2 := (same_new hp2 (o := .lst [.ref a16, .ref a17])) _ _ L17
  have F := EL.mono E17 (same_new hp2 (o := .lst [.ref a16, .ref a17]))
  have U := S17.trans (same_new hp2 (o := .lst [.ref a16, .ref a17]))
  have w2 : upd H17 p2 (.lst [.ref a16, .ref a17]) p2 = some (.lst [.ref a16, .ref a17]) := upd_same
  generalize upd H17 p2 _ = J2 at F U m2 w2 ⊢
  refine ⟨r1, p2, _, _, rfl, rfl, m2, w2, szl rfl, fun r2 hr2 => ?_⟩
  have F2 : EL T.cs v1 v2 _ [.ref a1, .ref a2, .ref a3, .ref a4, .ref a5, .ref a6, .ref a7, .ref a8, .ref a9, .ref a10, .ref a11, .ref a12, .ref a13, .ref a14, .ref a15, .ref a16, .ref a17] := EL.mono F (same_new hr2 (o := .lst ([.ref a1, .ref a2, .ref a3, .ref a4, .ref a5, .ref a6, .ref a7, .ref a8, .ref a9, .ref a10, .ref a11, .ref a12, .ref a13, .ref a14, .ref a15] ++ [.ref a16, .ref a17])))
  have U2 := U.trans (same_new hr2 (o := .lst ([.ref a1, .ref a2, .ref a3, .ref a4, .ref a5, .ref a6, .ref a7, .ref a8, .ref a9, .ref a10, .ref a11, .ref a12, .ref a13, .ref a14, .ref a15] ++ [.ref a16, .ref a17])))
  have l2 : upd J2 r2 (.lst ([.ref a1, .ref a2, .ref a3, .ref a4, .ref a5, .ref a6, .ref a7, .ref a8, .ref a9, .ref a10, .ref a11, .ref a12, .ref a13, .ref a14, .ref a15] ++ [.ref a16, .ref a17])) r2 = some (.lst [.ref a1, .ref a2, .ref a3, .ref a4, .ref a5, .ref a6, .ref a7, .ref a8, .ref a9, .ref a10, .ref a11, .ref a12, .ref a13, .ref a14, .ref a15, .ref a16, .ref a17]) := upd_same
  clear F U m2 w2 E17 S17 L17 E16 S16 L16
  generalize upd J2 r2 _ = G2 at F2 U2 l2 ⊢
  obtain ⟨x, hx⟩ : ∃ x, ([.ref a1, .ref a2, .ref a3, .ref a4, .ref a5, .ref a6, .ref a7, .ref a8, .ref a9, .ref a10, .ref a11, .ref a12, .ref a13, .ref a14, .ref a15, .ref a16, .ref a17] : List V)[i]? = some x := ⟨_, List.getElem?_eq_getElem (show i < ([.ref a1, .ref a2, .ref a3, .ref a4, .ref a5, .ref a6, .ref a7, .ref a8, .ref a9, .ref a10, .ref a11, .ref a12, .ref a13, .ref a14, .ref a15, .ref a16, .ref a17] : List V).length from hi)⟩
  obtain ⟨a, rfl, he⟩ := F2 i x hx
  exact ⟨_, rfl, r2, [.ref a1, .ref a2, .ref a3, .ref a4, .ref a5, .ref a6, .ref a7, .ref a8, .ref a9, .ref a10, .ref a11, .ref a12, .ref a13, .ref a14, .ref a15, .ref a16, .ref a17], _, .ref a, rfl, rfl, .of l2, atI_nat hx, k a _ he U2⟩
theorem O__law_by_name (T : Tx K mg) : FnOk P w K mg base CX0 3 T.a__law_by_name T.d__law_by_name ["at", "one", "other"] (spPl T.cs) := by
  refine T.F__law_by_name.ok sc__law_by_name (fun vs H Q E h => ?_) (fun cdv A outer s H vs Q E hr h => ?_)
  · obtain ⟨i, v1, v2, rfl, _⟩ := h; rfl
  obtain ⟨i, v1, v2, rfl, hi, k⟩ := h
  refine ⟨_, (pss_cons (ps_set (i := 3) sc__law_by_name.nd rfl (Or.inl rfl) (pe_lst (pa_cons (pe_exvK T.ox_BadNumber T.ic_BadNumber T.ti_BadNumber (O_BadNumber___init__ T) (hr.mono (by decide)) T.kb_BadNumber pass0 (by rfl) T.m_BadNumber (pk_cons (pv 1) pk_nil)) (pa_cons (pe_exvK T.ox_BadSquare T.ic_BadSquare T.ti_BadSquare (O_BadSquare___init__ T) (hr.mono (by decide)) T.kb_BadSquare pass0 (by rfl) T.m_BadSquare (pk_cons (pv 1) pk_nil)) (pa_cons (pe_exvK T.ox_BadKind T.ic_BadKind T.ti_BadKind (O_BadKind___init__ T) (hr.mono (by decide)) T.kb_BadKind pass0 (by rfl) T.m_BadKind (pk_cons (pv 1) pk_nil)) (pa_cons (pe_exvK T.ox_BadGame T.ic_BadGame T.ti_BadGame (O_BadGame___init__ T) (hr.mono (by decide)) T.kb_BadGame pass0 (by rfl) T.m_BadGame (pk_cons (pv 1) pk_nil)) (pa_cons (pe_exvK T.ox_BadPosition T.ic_BadPosition T.ti_BadPosition (O_BadPosition___init__ T) (hr.mono (by decide)) T.kb_BadPosition pass0 (by rfl) T.m_BadPosition (pk_cons (pv 1) pk_nil)) (pa_cons (pe_exvK T.ox_BadMove T.ic_BadMove T.ti_BadMove (O_BadMove___init__ T) (hr.mono (by decide)) T.kb_BadMove pass0 (by rfl) T.m_BadMove (pk_cons (pv 1) pk_nil)) pa_nil))))))))
      (pss_cons (ps_set (i := 3) sc__law_by_name.nd rfl (Or.inl rfl) (pe_op op_cat (pv 3) (pe_lst (pa_cons (pe_exvK T.ox_BadPlay T.ic_BadPlay T.ti_BadPlay (O_BadPlay___init__ T) (hr.mono (by decide)) T.kb_BadPlay pass0 (by rfl) T.m_BadPlay (pk_cons (pv 1) pk_nil)) (pa_cons (pe_exvK T.ox_BadPaper T.ic_BadPaper T.ti_BadPaper (O_BadPaper___init__ T) (hr.mono (by decide)) T.kb_BadPaper pass0 (by rfl) T.m_BadPaper (pk_cons (pv 1) pk_nil)) (pa_cons (pe_exvK T.ox_BadWords T.ic_BadWords T.ti_BadWords (O_BadWords___init__ T) (hr.mono (by decide)) T.kb_BadWords pass0 (by rfl) T.m_BadWords (pk_cons (pv 1) pk_nil)) (pa_cons (pe_exvK T.ox_Misfit T.ic_Misfit T.ti_Misfit (O_Misfit___init__ T) (hr.mono (by decide)) T.kb_Misfit pass0 (by rfl) T.m_Misfit (pk_cons (pv 1) pk_nil)) (pa_cons (pe_exvK T.ox_NoName T.ic_NoName T.ti_NoName (O_NoName___init__ T) (hr.mono (by decide)) T.kb_NoName pass0 (by rfl) T.m_NoName (pk_cons (pv 1) pk_nil)) (pa_cons (pe_exvK T.ox_Twice T.ic_Twice T.ti_Twice (O_Twice___init__ T) (hr.mono (by decide)) T.kb_Twice pass0 (by rfl) T.m_Twice (pk_cons (pv 1) pk_nil)) pa_nil)))))))))
      (pss_one (ps_ret (pe_ix ix_list (pe_op op_cat (pv 3) (pe_lst (pa_cons (pe_exvK T.ox_TooMany T.ic_TooMany T.ti_TooMany (O_TooMany___init__ T) (hr.mono (by decide)) T.kb_TooMany pass0 (by rfl) T.m_TooMany (pk_cons (pv 2) (pk_cons (pv 1) pk_nil))) (pa_cons (pe_exvK T.ox_BadText T.ic_BadText T.ti_BadText (O_BadText___init__ T) (hr.mono (by decide)) T.kb_BadText pass0 (by rfl) T.m_BadText (pk_cons (pv 2) (pk_cons (pv 1) pk_nil))) (pa_cons (pe_exvK T.ox_BadLine T.ic_BadLine T.ti_BadLine (O_BadLine___init__ T) (hr.mono (by decide)) T.kb_BadLine pass0 (by rfl) T.m_BadLine (pk_cons (pv 2) (pk_cons (pv 1) pk_nil))) (pa_cons (pe_exv0 T.ox_Nothing T.ic_Nothing T.ti_Nothing (O_Nothing___init__ T) (hr.mono (by decide)) T.b_Nothing___init__ pass0 (by rfl) T.m_Nothing) (pa_cons (pe_exv0 T.ox_Over T.ic_Over T.ti_Over (O_Over___init__ T) (hr.mono (by decide)) T.b_Over___init__ pass0 (by rfl) T.m_Over) pa_nil))))))) (pv 0) (fun _ _ => rfl)))))), ?_⟩
  refine ⟨_, rfl, rfl, mk_val fun a1 H1 n1 s1 e1 => ?_⟩
  have E1 : EL T.cs v1 v2 H1 [.ref a1] := EL.snoc (a := a1) (EL.nil (cs := T.cs) (v1 := v1) (v2 := v2) (H := H)) s1 ⟨T.c_BadNumber, rfl, e1⟩
  have S1 := s1
  refine ⟨_, rfl, rfl, mk_val fun a2 H2 n2 s2 e2 => ?_⟩
  have E2 : EL T.cs v1 v2 H2 [.ref a1, .ref a2] := EL.snoc (a := a2) E1 s2 ⟨T.c_BadSquare, rfl, e2⟩
  have S2 := S1.trans s2
  refine ⟨_, rfl, rfl, mk_val fun a3 H3 n3 s3 e3 => ?_⟩
  have E3 : EL T.cs v1 v2 H3 [.ref a1, .ref a2, .ref a3] := EL.snoc (a := a3) E2 s3 ⟨T.c_BadKind, rfl, e3⟩
  have S3 := S2.trans s3
  refine ⟨_, rfl, rfl, mk_val fun a4 H4 n4 s4 e4 => ?_⟩
  have E4 : EL T.cs v1 v2 H4 [.ref a1, .ref a2, .ref a3, .ref a4] := EL.snoc (a := a4) E3 s4 ⟨T.c_BadGame, rfl, e4⟩
  have S4 := S3.trans s4
  refine ⟨_, rfl, rfl, mk_val fun a5 H5 n5 s5 e5 => ?_⟩
  have E5 : EL T.cs v1 v2 H5 [.ref a1, .ref a2, .ref a3, .ref a4, .ref a5] := EL.snoc (a := a5) E4 s5 ⟨T.c_BadPosition, rfl, e5⟩
  have S5 := S4.trans s5
  refine ⟨_, rfl, rfl, mk_val fun a6 H6 n6 s6 e6 => ?_⟩
  have E6 : EL T.cs v1 v2 H6 [.ref a1, .ref a2, .ref a3, .ref a4, .ref a5, .ref a6] := EL.snoc (a := a6) E5 s6 ⟨T.c_BadMove, rfl, e6⟩
  have S6 := S5.trans s6
  refine ⟨szl rfl, fun p0 hp0 => ?_⟩
  have F0 := EL.mono E6 (same_new hp0 (o := .lst [.ref a1, .ref a2, .ref a3, .ref a4, .ref a5, .ref a6]))
  have U0 := S6.trans (same_new hp0 (o := .lst [.ref a1, .ref a2, .ref a3, .ref a4, .ref a5, .ref a6]))
  have l0 : upd H6 p0 (.lst [.ref a1, .ref a2, .ref a3, .ref a4, .ref a5, .ref a6]) p0 = some (.lst [.ref a1, .ref a2, .ref a3, .ref a4, .ref a5, .ref a6]) := upd_same
  clear E6 S6 E5 S5 E4 S4 E3 S3 E2 S2 E1 S1
  generalize upd H6 p0 _ = G0 at F0 U0 l0 ⊢
  refine ⟨_, rfl, ?_⟩
  refine ⟨_, rfl, rfl, mk_val fun a7 H7 n7 s7 e7 => ?_⟩
  have E7 : EL T.cs v1 v2 H7 [.ref a1, .ref a2, .ref a3, .ref a4, .ref a5, .ref a6, .ref a7] := EL.snoc (a := a7) F0 s7 ⟨T.c_BadPlay, rfl, e7⟩
  have S7 := U0.trans s7
  have L7 := s7 _ _ l0
  refine ⟨_, rfl, rfl, mk_val fun a8 H8 n8 s8 e8 => ?_⟩
  have E8 : EL T.cs v1 v2 H8 [.ref a1, .ref a2, .ref a3, .ref a4, .ref a5, .ref a6, .ref a7, .ref a8] := EL.snoc (a := a8) E7 s8 ⟨T.c_BadPaper, rfl, e8⟩
  have S8 := S7.trans s8
  have L8 := s8 _ _ L7
  refine ⟨_, rfl, rfl, mk_val fun a9 H9 n9 s9 e9 => ?_⟩
  have E9 : EL T.cs v1 v2 H9 [.ref a1, .ref a2, .ref a3, .ref a4, .ref a5, .ref a6, .ref a7, .ref a8, .ref a9] := EL.snoc (a := a9) E8 s9 ⟨T.c_BadWords, rfl, e9⟩
  have S9 := S8.trans s9
  have L9 := s9 _ _ L8
  refine ⟨_, rfl, rfl, mk_val fun a10 H10 n10 s10 e10 => ?_⟩
  have E10 : EL T.cs v1 v2 H10 [.ref a1, .ref a2, .ref a3, .ref a4, .ref a5, .ref a6, .ref a7, .ref a8, .ref a9, .ref a10] := EL.snoc (a := a10) E9 s10 ⟨T.c_Misfit, rfl, e10⟩
  have S10 := S9.trans s10
  have L10 := s10 _ _ L9
  refine ⟨_, rfl, rfl, mk_val fun a11 H11 n11 s11 e11 => ?_⟩
  have E11 : EL T.cs v1 v2 H11 [.ref a1, .ref a2, .ref a3, .ref a4, .ref a5, .ref a6, .ref a7, .ref a8, .ref a9, .ref a10, .ref a11] := EL.snoc (a := a11) E10 s11 ⟨T.c_NoName, rfl, e11⟩
  have S11 := S10.trans s11
  have L11 := s11 _ _ L10
  refine ⟨_, rfl, rfl, mk_val fun a12 H12 n12 s12 e12 => ?_⟩
  have E12 : EL T.cs v1 v2 H12 [.ref a1, .ref a2, .ref a3, .ref a4, .ref a5, .ref a6, .ref a7, .ref a8, .ref a9, .ref a10, .ref a11, .ref a12] := EL.snoc (a := a12) E11 s12 ⟨T.c_Twice, rfl, e12⟩
  have S12 := S11.trans s12
  have L12 := s12 _ _ L11
  refine ⟨szl rfl, fun p1 hp1 => ?_⟩
  have m1 := (same_new hp1 (o := .lst [.ref a7, .ref a8, .ref a9, .ref a10, .ref a11, .ref a12])) _ _ L12
  have F := EL.mono E12 (same_new hp1 (o := .lst [.ref a7, .ref a8, .ref a9, .ref a10, .ref a11, .ref a12]))
  have U := S12.trans (same_new hp1 (o := .lst [.ref a7, .ref a8, .ref a9, .ref a10, .ref a11, .ref a12]))
  have w1 : upd H12 p1 (.lst [.ref a7, .ref a8, .ref a9, .ref a10, .ref a11, .ref a12]) p1 = some (.lst [.ref a7, .ref a8, .ref a9, .ref a10, .ref a11, .ref a12]) := upd_same
  generalize upd H12 p1 _ = J1 at F U m1 w1 ⊢
  refine ⟨p0, p1, _, _, rfl, rfl, m1, w1, szl rfl, fun r1 hr1 => ?_⟩
  have F1 : EL T.cs v1 v2 _ [.ref a1, .ref a2, .ref a3, .ref a4, .ref a5, .ref a6, .ref a7, .ref a8, .ref a9, .ref a10, .ref a11, .ref a12] := EL.mono F (same_new hr1 (o := .lst ([.ref a1, .ref a2, .ref a3, .ref a4, .ref a5, .ref a6] ++ [.ref a7, .ref a8, .ref a9, .ref a10, .ref a11, .ref a12])))
  have U1 := U.trans (same_new hr1 (o := .lst ([.ref a1, .ref a2, .ref a3, .ref a4, .ref a5, .ref a6] ++ [.ref a7, .ref a8, .ref a9, .ref a10, .ref a11, .ref a12])))
  have l1 : upd J1 r1 (.lst ([.ref a1, .ref a2, .ref a3, .ref a4, .ref a5, .ref a6] ++ [.ref a7, .ref a8, .ref a9, .ref a10, .ref a11, .ref a12])) r1 = some (.lst [.ref a1, .ref a2, .ref a3, .ref a4, .ref a5, .ref a6, .ref a7, .ref a8, .ref a9, .ref a10, .ref a11, .ref a12]) := upd_same
  clear F U m1 w1 E12 S12 L12 E11 S11 L11 E10 S10 L10 E9 S9 L9 E8 S8 L8 E7 S7 L7
  generalize upd J1 r1 _ = G1 at F1 U1 l1 ⊢
  refine ⟨_, rfl, ?_⟩
  refine ⟨_, rfl, _, rfl, rfl, mk_val2 fun a13 H13 n13 s13 e13 => ?_⟩
  have E13 : EL T.cs v1 v2 H13 [.ref a1, .ref a2, .ref a3, .ref a4, .ref a5, .ref a6, .ref a7, .ref a8, .ref a9, .ref a10, .ref a11, .ref a12, .ref a13] := EL.snoc (a := a13) F1 s13 ⟨T.c_TooMany, rfl, e13⟩
  have S13 := U1.trans s13
  have L13 := s13 _ _ l1
  refine ⟨_, rfl, _, rfl, rfl, mk_val2 fun a14 H14 n14 s14 e14 => ?_⟩
  have E14 : EL T.cs v1 v2 H14 [.ref a1, .ref a2, .ref a3, .ref a4, .ref a5, .ref a6, .ref a7, .ref a8, .ref a9, .ref a10, .ref a11, .ref a12, .ref a13, .ref a14] := EL.snoc (a := a14) E13 s14 ⟨T.c_BadText, rfl, e14⟩
  have S14 := S13.trans s14
  have L14 := s14 _ _ L13
  refine ⟨_, rfl, _, rfl, rfl, mk_val2 fun a15 H15 n15 s15 e15 => ?_⟩
  have E15 : EL T.cs v1 v2 H15 [.ref a1, .ref a2, .ref a3, .ref a4, .ref a5, .ref a6, .ref a7, .ref a8, .ref a9, .ref a10, .ref a11, .ref a12, .ref a13, .ref a14, .ref a15] := EL.snoc (a := a15) E14 s15 ⟨T.c_BadLine, rfl, e15⟩
  have S15 := S14.trans s15
  have L15 := s15 _ _ L14
  refine ⟨szl2 rfl, mk_val0 fun a16 H16 n16 s16 e16 => ?_⟩
  have E16 : EL T.cs v1 v2 H16 [.ref a1, .ref a2, .ref a3, .ref a4, .ref a5, .ref a6, .ref a7, .ref a8, .ref a9, .ref a10, .ref a11, .ref a12, .ref a13, .ref a14, .ref a15, .ref a16] := EL.snoc (a := a16) E15 s16 ⟨T.c_Nothing, rfl, e16⟩
  have S16 := S15.trans s16
  have L16 := s16 _ _ L15
  refine ⟨szl2 rfl, mk_val0 fun a17 H17 n17 s17 e17 => ?_⟩
  have E17 : EL T.cs v1 v2 H17 [.ref a1, .ref a2, .ref a3, .ref a4, .ref a5, .ref a6, .ref a7, .ref a8, .ref a9, .ref a10, .ref a11, .ref a12, .ref a13, .ref a14, .ref a15, .ref a16, .ref a17] := EL.snoc (a := a17) E16 s17 ⟨T.c_Over, rfl, e17⟩
  have S17 := S16.trans s17
  have L17 := s17 _ _ L16
  refine ⟨szl rfl, fun p2 hp2 => ?_⟩
  have m2 := (same_new hp2 (o := .lst [.ref a13, .ref a14, .ref a15, .ref a16, .ref a17])) _ _ L17
  have F := EL.mono E17 (same_new hp2 (o := .lst [.ref a13, .ref a14, .ref a15, .ref a16, .ref a17]))
  have U := S17.trans (same_new hp2 (o := .lst [.ref a13, .ref a14, .ref a15, .ref a16, .ref a17]))
  have w2 : upd H17 p2 (.lst [.ref a13, .ref a14, .ref a15, .ref a16, .ref a17]) p2 = some (.lst [.ref a13, .ref a14, .ref a15, .ref a16, .ref a17]) := upd_same
  generalize upd H17 p2 _ = J2 at F U m2 w2 ⊢
  refine ⟨r1, p2, _, _, rfl, rfl, m2, w2, szl rfl, fun r2 hr2 => ?_⟩
  have F2 : EL T.cs v1 v2 _ [.ref a1, .ref a2, .ref a3, .ref a4, .ref a5, .ref a6, .ref a7, .ref a8, .ref a9, .ref a10, .ref a11, .ref a12, .ref a13, .ref a14, .ref a15, .ref a16, .ref a17] := EL.mono F (same_new hr2 (o := .lst ([.ref a1, .ref a2, .ref a3, .ref a4, .ref a5, .ref a6, .ref a7, .ref a8, .ref a9, .ref a10, .ref a11, .ref a12] ++ [.ref a13, .ref a14, .ref a15, .ref a16, .ref a17])))
  have U2 := U.trans (same_new hr2 (o := .lst ([.ref a1, .ref a2, .ref a3, .ref a4, .ref a5, .ref a6, .ref a7, .ref a8, .ref a9, .ref a10, .ref a11, .ref a12] ++ [.ref a13, .ref a14, .ref a15, .ref a16, .ref a17])))
  have l2 : upd J2 r2 (.lst ([.ref a1, .ref a2, .ref a3, .ref a4, .ref a5, .ref a6, .ref a7, .ref a8, .ref a9, .ref a10, .ref a11, .ref a12] ++ [.ref a13, .ref a14, .ref a15, .ref a16, .ref a17])) r2 = some (.lst [.ref a1, .ref a2, .ref a3, .ref a4, .ref a5, .ref a6, .ref a7, .ref a8, .ref a9, .ref a10, .ref a11, .ref a12, .ref a13, .ref a14, .ref a15, .ref a16, .ref a17]) := upd_same
  clear F U m2 w2 E17 S17 L17 E16 S16 L16 E15 S15 L15 E14 S14 L14 E13 S13 L13
  generalize upd J2 r2 _ = G2 at F2 U2 l2 ⊢
  obtain ⟨x, hx⟩ : ∃ x, ([.ref a1, .ref a2, .ref a3, .ref a4, .ref a5, .ref a6, .ref a7, .ref a8, .ref a9, .ref a10, .ref a11, .ref a12, .ref a13, .ref a14, .ref a15, .ref a16, .ref a17] : List V)[i]? = some x := ⟨_, List.getElem?_eq_getElem (show i < ([.ref a1, .ref a2, .ref a3, .ref a4, .ref a5, .ref a6, .ref a7, .ref a8, .ref a9, .ref a10, .ref a11, .ref a12, .ref a13, .ref a14, .ref a15, .ref a16, .ref a17] : List V).length from hi)⟩
  obtain ⟨a, rfl, he⟩ := F2 i x hx
  exact ⟨_, rfl, r2, [.ref a1, .ref a2, .ref a3, .ref a4, .ref a5, .ref a6, .ref a7, .ref a8, .ref a9, .ref a10, .ref a11, .ref a12, .ref a13, .ref a14, .ref a15, .ref a16, .ref a17], _, .ref a, rfl, rfl, .of l2, atI_nat hx, k a _ he U2⟩
end
end K0

set_option Elab.async false
set_option linter.all false
set_option maxRecDepth 100000
set_option maxHeartbeats 4000000
namespace K0
open PySem PySem.Spec PyProof.Rows L2 Gs
section
variable {P : Program} {w : World} {K : PySem.W.Frag} {mg : Str → Option Value} {base : Heap}
/-- what stands in the fields of the error of a number -/
def fl {α : Type} (v1 v2 : α) : Nat → List α
  | 12 => [v1, v2]
  | 13 => [v1, v2]
  | 14 => [v1, v2]
  | 15 => []
  | 16 => []
  | _ => [v1]
abbrev flE (v1 v2 : V) (i : Nat) : List V := fl v1 v2 i
theorem fl_cases : ∀ i, i < 17 → (∀ {α : Type} (x y : α), fl x y i = [x]) ∨ (∀ {α : Type} (x y : α), fl x y i = [x, y]) ∨ (∀ {α : Type} (x y : α), fl x y i = [])
  | 0, _ => .inl fun _ _ => rfl
  | 1, _ => .inl fun _ _ => rfl
  | 2, _ => .inl fun _ _ => rfl
  | 3, _ => .inl fun _ _ => rfl
  | 4, _ => .inl fun _ _ => rfl
  | 5, _ => .inl fun _ _ => rfl
  | 6, _ => .inl fun _ _ => rfl
  | 7, _ => .inl fun _ _ => rfl
  | 8, _ => .inl fun _ _ => rfl
  | 9, _ => .inl fun _ _ => rfl
  | 10, _ => .inl fun _ _ => rfl
  | 11, _ => .inl fun _ _ => rfl
  | 12, _ => .inr (.inl fun _ _ => rfl)
  | 13, _ => .inr (.inl fun _ _ => rfl)
  | 14, _ => .inr (.inl fun _ _ => rfl)
  | 15, _ => .inr (.inr fun _ _ => rfl)
  | 16, _ => .inr (.inr fun _ _ => rfl)
  | n + 17, h => absurd h (by omega)
theorem fs_part {v1 v2 : V} : ∀ i, i < 10 → fsE v1 v2 i = (some [("part", v1)] : Option (List (Str × V))) ∧ flE v1 v2 i = [v1]
  | 0, _ => ⟨rfl, rfl⟩
  | 1, _ => ⟨rfl, rfl⟩
  | 2, _ => ⟨rfl, rfl⟩
  | 3, _ => ⟨rfl, rfl⟩
  | 4, _ => ⟨rfl, rfl⟩
  | 5, _ => ⟨rfl, rfl⟩
  | 6, _ => ⟨rfl, rfl⟩
  | 7, _ => ⟨rfl, rfl⟩
  | 8, _ => ⟨rfl, rfl⟩
  | 9, _ => ⟨rfl, rfl⟩
  | n + 10, h => absurd h (by omega)
theorem cs_part (T : Tx K mg) : ∀ (i : Nat) (C : Addr), T.cs[i]? = some C → i < 10 → XfC K C ∧ PySem.W.findIn K (.ref C) "part" = some none
  | 0, C, h, _ => by
    have h : some T.c_BadNumber = some C := h
    cases h; exact ⟨T.xf_BadNumber, T.no_BadNumber_part⟩
  | 1, C, h, _ => by
    have h : some T.c_BadSquare = some C := h
    cases h; exact ⟨T.xf_BadSquare, T.no_BadSquare_part⟩
  | 2, C, h, _ => by
    have h : some T.c_BadKind = some C := h
    cases h; exact ⟨T.xf_BadKind, T.no_BadKind_part⟩
  | 3, C, h, _ => by
    have h : some T.c_BadGame = some C := h
    cases h; exact ⟨T.xf_BadGame, T.no_BadGame_part⟩
  | 4, C, h, _ => by
    have h : some T.c_BadPosition = some C := h
    cases h; exact ⟨T.xf_BadPosition, T.no_BadPosition_part⟩
  | 5, C, h, _ => by
    have h : some T.c_BadMove = some C := h
    cases h; exact ⟨T.xf_BadMove, T.no_BadMove_part⟩
  | 6, C, h, _ => by
    have h : some T.c_BadPlay = some C := h
    cases h; exact ⟨T.xf_BadPlay, T.no_BadPlay_part⟩
  | 7, C, h, _ => by
    have h : some T.c_BadPaper = some C := h
    cases h; exact ⟨T.xf_BadPaper, T.no_BadPaper_part⟩
  | 8, C, h, _ => by
    have h : some T.c_BadWords = some C := h
    cases h; exact ⟨T.xf_BadWords, T.no_BadWords_part⟩
  | 9, C, h, _ => by
    have h : some T.c_Misfit = some C := h
    cases h; exact ⟨T.xf_Misfit, T.no_Misfit_part⟩
  | n + 10, C, h, z => absurd z (by omega)
theorem cs_mem {T : Tx K mg} {i : Nat} {C : Addr} (h : T.cs[i]? = some C) : C ∈ T.cs := List.mem_of_getElem? h
def spFl (cs : List Addr) : Sp := fun vs H Q _ => ∃ (i : Nat) (a : Addr) (v1 v2 : V), vs = [.int i, .ref a] ∧ i < 17 ∧ ErrI cs i v1 v2 H a ∧ ∀ p H', H p = none → Same H H' → H' p = some (.lst (flE v1 v2 i)) → Q (.ref p) H'
theorem O__law_fields (T : Tx K mg) : FnOk P w K mg base CX0 2 T.a__law_fields T.d__law_fields ["at", "error"] (spFl T.cs) := by
  refine T.F__law_fields.ok sc__law_fields (fun vs H Q E h => ?_) (fun cdv A outer s H vs Q E hr h => ?_)
  · obtain ⟨i, a, v1, v2, rfl, _⟩ := h; rfl
  obtain ⟨i, a, v1, v2, rfl, hi, ⟨C, hC, hE⟩, k⟩ := h
  refine ⟨_, (pss_cons (ps_if (pt_cmpR op_lt (pv 0) pe_int (nomark _)) (pss_one (ps_ret (pe_lst (pa_cons (pe_fv (pv 1)) pa_nil)))) pss_nil)
      (pss_cons (ps_if (pt_cmpR op_lt (pv 0) pe_int (nomark _)) (pss_one (ps_ret (pe_lst (pa_cons (pe_fv (pv 1)) pa_nil)))) pss_nil)
      (pss_cons (ps_if (pt_cmpR op_gt (pv 0) pe_int (nomark _)) (pss_one (ps_ret (pe_lst pa_nil))) pss_nil)
      (pss_one (ps_ret (pe_ifExp (pt_cmpR op_eq (pv 0) pe_int (nomark _)) (pe_lst (pa_cons (pe_fv (pv 1)) (pa_cons (pe_fv (pv 1)) pa_nil))) (pe_ifExp (pt_cmpR op_eq (pv 0) pe_int (nomark _)) (pe_lst (pa_cons (pe_fv (pv 1)) (pa_cons (pe_fv (pv 1)) pa_nil))) (pe_lst (pa_cons (pe_fv (pv 1)) (pa_cons (pe_fv (pv 1)) pa_nil)))))))))), ?_⟩
  have fin : ∀ p, H p = none → (upd H p (.lst (flE v1 v2 i))) p = some (.lst (flE v1 v2 i)) := fun p _ => upd_same
  by_cases h10 : i < 10
  · obtain ⟨e1, e2⟩ := fs_part (v1 := v1) (v2 := v2) i h10
    obtain ⟨x1, x2⟩ := cs_part T i C hC h10
    rw [e1] at hE
    rw [e2] at k
    refine ⟨_, rfl, _, _, rfl, rfl, _, rfl, ?_⟩
    rw [decide_eq_true (show (i : Int) < 10 by omega)]
    exact iteT ⟨_, rfl, a, C, _, v1, rfl, x1, x2, hE, rfl, szl rfl, fun p hp => k p _ hp (same_new hp) upd_same⟩
  refine ⟨_, rfl, _, _, rfl, rfl, _, rfl, ?_⟩
  rw [decide_eq_false (show ¬ (i : Int) < 10 by omega)]
  refine iteF ⟨_, rfl, _, _, rfl, rfl, _, rfl, ?_⟩
  obtain ⟨m, rfl⟩ : ∃ m, i = 10 + m := ⟨i - 10, by omega⟩
  match m, hi, hC, hE, k with
  | 0, _, hC, hE, k =>
    have hC : some T.c_NoName = some C := hC
    cases hC
    exact iteT ⟨_, rfl, a, _, _, v1, rfl, T.xf_NoName, T.no_NoName_value, hE, rfl, szl rfl, fun p hp => k p _ hp (same_new hp) upd_same⟩
  | 1, _, hC, hE, k =>
    have hC : some T.c_Twice = some C := hC
    cases hC
    exact iteT ⟨_, rfl, a, _, _, v1, rfl, T.xf_Twice, T.no_Twice_value, hE, rfl, szl rfl, fun p hp => k p _ hp (same_new hp) upd_same⟩
  | 2, _, hC, hE, k =>
    have hC : some T.c_TooMany = some C := hC
    cases hC
    exact iteF ⟨_, rfl, _, _, rfl, rfl, _, rfl, iteF ⟨_, rfl, rfl, _, rfl, iteT ⟨_, rfl, a, _, _, v1, rfl, T.xf_TooMany, T.no_TooMany_what, hE, rfl, _, rfl, a, _, _, v2, rfl, T.xf_TooMany, T.no_TooMany_most, hE, rfl, szl rfl, fun p hp => k p _ hp (same_new hp) upd_same⟩⟩⟩
  | 3, _, hC, hE, k =>
    have hC : some T.c_BadText = some C := hC
    cases hC
    exact iteF ⟨_, rfl, _, _, rfl, rfl, _, rfl, iteF ⟨_, rfl, rfl, _, rfl, iteF ⟨_, rfl, rfl, _, rfl, iteT ⟨_, rfl, a, _, _, v1, rfl, T.xf_BadText, T.no_BadText_line, hE, rfl, _, rfl, a, _, _, v2, rfl, T.xf_BadText, T.no_BadText_item, hE, rfl, szl rfl, fun p hp => k p _ hp (same_new hp) upd_same⟩⟩⟩⟩
  | 4, _, hC, hE, k =>
    have hC : some T.c_BadLine = some C := hC
    cases hC
    exact iteF ⟨_, rfl, _, _, rfl, rfl, _, rfl, iteF ⟨_, rfl, rfl, _, rfl, iteF ⟨_, rfl, rfl, _, rfl, iteF ⟨_, rfl, a, _, _, v1, rfl, T.xf_BadLine, T.no_BadLine_line, hE, rfl, _, rfl, a, _, _, v2, rfl, T.xf_BadLine, T.no_BadLine_error, hE, rfl, szl rfl, fun p hp => k p _ hp (same_new hp) upd_same⟩⟩⟩⟩
  | 5, _, hC, hE, k => exact iteF ⟨_, rfl, _, _, rfl, rfl, _, rfl, iteT ⟨szl rfl, fun p hp => k p _ hp (same_new hp) upd_same⟩⟩
  | 6, _, hC, hE, k => exact iteF ⟨_, rfl, _, _, rfl, rfl, _, rfl, iteT ⟨szl rfl, fun p hp => k p _ hp (same_new hp) upd_same⟩⟩
  | m + 7, hi, _, _, _ => exact absurd hi (by omega)
def spFg (K : PySem.W.Frag) (cs : List Addr) : Sp := fun vs H Q _ => ∃ (j : Nat) (a C : Addr) (fs : Option (List (Str × V))), vs = [.ref a] ∧ cs[j]? = some C ∧ ExI H a C fs ∧
  ∀ p H', H p = none → Same H H' → H' p = some (.lst ((List.range 17).map fun i => .bl (decide (i = j)))) → Q (.ref p) H'
theorem O__law_flags (T : Tx K mg) : FnOk P w K mg base CX0 2 T.a__law_flags T.d__law_flags ["error"] (spFg K T.cs) := by
  refine T.F__law_flags.ok sc__law_flags (fun vs H Q E h => ?_) (fun cdv A outer s H vs Q E hr h => ?_)
  · obtain ⟨j, a, C, fs, rfl, _⟩ := h; rfl
  obtain ⟨j, a, C, fs, rfl, hC, hE, k⟩ := h
  refine ⟨_, (pss_cons (ps_set (i := 1) sc__law_flags.nd rfl (Or.inl rfl) (pe_lst (pa_cons (pe_callB call_isV (by rfl) T.z_isinstance (by decide +kernel) (pa_cons (pv 0) (pa_cons (pe_glob (v := .ref T.c_BadNumber) (by rfl) T.m_BadNumber rfl) pa_nil))) (pa_cons (pe_callB call_isV (by rfl) T.z_isinstance (by decide +kernel) (pa_cons (pv 0) (pa_cons (pe_glob (v := .ref T.c_BadSquare) (by rfl) T.m_BadSquare rfl) pa_nil))) (pa_cons (pe_callB call_isV (by rfl) T.z_isinstance (by decide +kernel) (pa_cons (pv 0) (pa_cons (pe_glob (v := .ref T.c_BadKind) (by rfl) T.m_BadKind rfl) pa_nil))) (pa_cons (pe_callB call_isV (by rfl) T.z_isinstance (by decide +kernel) (pa_cons (pv 0) (pa_cons (pe_glob (v := .ref T.c_BadGame) (by rfl) T.m_BadGame rfl) pa_nil))) pa_nil))))))
      (pss_cons (ps_set (i := 1) sc__law_flags.nd rfl (Or.inl rfl) (pe_op op_cat (pv 1) (pe_lst (pa_cons (pe_callB call_isV (by rfl) T.z_isinstance (by decide +kernel) (pa_cons (pv 0) (pa_cons (pe_glob (v := .ref T.c_BadPosition) (by rfl) T.m_BadPosition rfl) pa_nil))) (pa_cons (pe_callB call_isV (by rfl) T.z_isinstance (by decide +kernel) (pa_cons (pv 0) (pa_cons (pe_glob (v := .ref T.c_BadMove) (by rfl) T.m_BadMove rfl) pa_nil))) (pa_cons (pe_callB call_isV (by rfl) T.z_isinstance (by decide +kernel) (pa_cons (pv 0) (pa_cons (pe_glob (v := .ref T.c_BadPlay) (by rfl) T.m_BadPlay rfl) pa_nil))) (pa_cons (pe_callB call_isV (by rfl) T.z_isinstance (by decide +kernel) (pa_cons (pv 0) (pa_cons (pe_glob (v := .ref T.c_BadPaper) (by rfl) T.m_BadPaper rfl) pa_nil))) pa_nil)))))))
      (pss_cons (ps_set (i := 1) sc__law_flags.nd rfl (Or.inl rfl) (pe_op op_cat (pv 1) (pe_lst (pa_cons (pe_callB call_isV (by rfl) T.z_isinstance (by decide +kernel) (pa_cons (pv 0) (pa_cons (pe_glob (v := .ref T.c_BadWords) (by rfl) T.m_BadWords rfl) pa_nil))) (pa_cons (pe_callB call_isV (by rfl) T.z_isinstance (by decide +kernel) (pa_cons (pv 0) (pa_cons (pe_glob (v := .ref T.c_Misfit) (by rfl) T.m_Misfit rfl) pa_nil))) (pa_cons (pe_callB call_isV (by rfl) T.z_isinstance (by decide +kernel) (pa_cons (pv 0) (pa_cons (pe_glob (v := .ref T.c_NoName) (by rfl) T.m_NoName rfl) pa_nil))) (pa_cons (pe_callB call_isV (by rfl) T.z_isinstance (by decide +kernel) (pa_cons (pv 0) (pa_cons (pe_glob (v := .ref T.c_Twice) (by rfl) T.m_Twice rfl) pa_nil))) pa_nil)))))))
      (pss_cons (ps_set (i := 1) sc__law_flags.nd rfl (Or.inl rfl) (pe_op op_cat (pv 1) (pe_lst (pa_cons (pe_callB call_isV (by rfl) T.z_isinstance (by decide +kernel) (pa_cons (pv 0) (pa_cons (pe_glob (v := .ref T.c_TooMany) (by rfl) T.m_TooMany rfl) pa_nil))) (pa_cons (pe_callB call_isV (by rfl) T.z_isinstance (by decide +kernel) (pa_cons (pv 0) (pa_cons (pe_glob (v := .ref T.c_BadText) (by rfl) T.m_BadText rfl) pa_nil))) (pa_cons (pe_callB call_isV (by rfl) T.z_isinstance (by decide +kernel) (pa_cons (pv 0) (pa_cons (pe_glob (v := .ref T.c_BadLine) (by rfl) T.m_BadLine rfl) pa_nil))) pa_nil))))))
      (pss_one (ps_ret (pe_op op_cat (pv 1) (pe_lst (pa_cons (pe_callB call_isV (by rfl) T.z_isinstance (by decide +kernel) (pa_cons (pv 0) (pa_cons (pe_glob (v := .ref T.c_Nothing) (by rfl) T.m_Nothing rfl) pa_nil))) (pa_cons (pe_callB call_isV (by rfl) T.z_isinstance (by decide +kernel) (pa_cons (pv 0) (pa_cons (pe_glob (v := .ref T.c_Over) (by rfl) T.m_Over rfl) pa_nil))) pa_nil)))))))))), ?_⟩
  have xc : ExcC K C := T.xc C (cs_mem hC)
  have kk : ∀ (i : Nat) (D : Addr), T.cs[i]? = some D → PySem.W.kitOne K (.ref C) (.ref D) = some (decide (i = j)) := fun i D h => T.kk i j D C h hC
  refine ⟨_, rfl, a, C, fs, _, _, decide (0 = j), rfl, hE, xc, .own _, kk 0 _ rfl, ?_⟩
  refine ⟨_, rfl, a, C, fs, _, _, decide (1 = j), rfl, hE, xc, .own _, kk 1 _ rfl, ?_⟩
  refine ⟨_, rfl, a, C, fs, _, _, decide (2 = j), rfl, hE, xc, .own _, kk 2 _ rfl, ?_⟩
  refine ⟨_, rfl, a, C, fs, _, _, decide (3 = j), rfl, hE, xc, .own _, kk 3 _ rfl, ?_⟩
  refine ⟨szl rfl, fun p0 hp0 => ?_⟩
  have U0 := same_new hp0 (o := .lst [.bl (decide (0 = j)), .bl (decide (1 = j)), .bl (decide (2 = j)), .bl (decide (3 = j))])
  have l0 : upd H p0 (.lst [.bl (decide (0 = j)), .bl (decide (1 = j)), .bl (decide (2 = j)), .bl (decide (3 = j))]) p0 = some (.lst [.bl (decide (0 = j)), .bl (decide (1 = j)), .bl (decide (2 = j)), .bl (decide (3 = j))]) := upd_same
  have E0 := hE.same U0
  generalize upd H p0 _ = G0 at U0 l0 E0 ⊢
  refine ⟨_, rfl, ?_⟩
  refine ⟨_, rfl, a, C, fs, _, _, decide (4 = j), rfl, E0, xc, .own _, kk 4 _ rfl, ?_⟩
  refine ⟨_, rfl, a, C, fs, _, _, decide (5 = j), rfl, E0, xc, .own _, kk 5 _ rfl, ?_⟩
  refine ⟨_, rfl, a, C, fs, _, _, decide (6 = j), rfl, E0, xc, .own _, kk 6 _ rfl, ?_⟩
  refine ⟨_, rfl, a, C, fs, _, _, decide (7 = j), rfl, E0, xc, .own _, kk 7 _ rfl, ?_⟩
  refine ⟨szl rfl, fun p1 hp1 => ?_⟩
  have t1 := same_new hp1 (o := .lst [.bl (decide (4 = j)), .bl (decide (5 = j)), .bl (decide (6 = j)), .bl (decide (7 = j))])
  have m1 := t1 _ _ l0
  have w1 : upd G0 p1 (.lst [.bl (decide (4 = j)), .bl (decide (5 = j)), .bl (decide (6 = j)), .bl (decide (7 = j))]) p1 = some (.lst [.bl (decide (4 = j)), .bl (decide (5 = j)), .bl (decide (6 = j)), .bl (decide (7 = j))]) := upd_same
  have V1 := U0.trans t1
  generalize upd G0 p1 _ = J1 at t1 m1 w1 V1 ⊢
  refine ⟨p0, p1, _, _, rfl, rfl, m1, w1, szl rfl, fun r1 hr1 => ?_⟩
  have U1 := V1.trans (same_new hr1 (o := .lst ([.bl (decide (0 = j)), .bl (decide (1 = j)), .bl (decide (2 = j)), .bl (decide (3 = j))] ++ [.bl (decide (4 = j)), .bl (decide (5 = j)), .bl (decide (6 = j)), .bl (decide (7 = j))])))
  have l1 : upd J1 r1 (.lst ([.bl (decide (0 = j)), .bl (decide (1 = j)), .bl (decide (2 = j)), .bl (decide (3 = j))] ++ [.bl (decide (4 = j)), .bl (decide (5 = j)), .bl (decide (6 = j)), .bl (decide (7 = j))])) r1 = some (.lst [.bl (decide (0 = j)), .bl (decide (1 = j)), .bl (decide (2 = j)), .bl (decide (3 = j)), .bl (decide (4 = j)), .bl (decide (5 = j)), .bl (decide (6 = j)), .bl (decide (7 = j))]) := upd_same
  have E1 := hE.same U1
  clear E0 U0 l0 t1 m1 w1 V1
  generalize upd J1 r1 _ = G1 at U1 l1 E1 ⊢
  refine ⟨_, rfl, ?_⟩
  refine ⟨_, rfl, a, C, fs, _, _, decide (8 = j), rfl, E1, xc, .own _, kk 8 _ rfl, ?_⟩
  refine ⟨_, rfl, a, C, fs, _, _, decide (9 = j), rfl, E1, xc, .own _, kk 9 _ rfl, ?_⟩
  refine ⟨_, rfl, a, C, fs, _, _, decide (10 = j), rfl, E1, xc, .own _, kk 10 _ rfl, ?_⟩
  refine ⟨_, rfl, a, C, fs, _, _, decide (11 = j), rfl, E1, xc, .own _, kk 11 _ rfl, ?_⟩
  refine ⟨szl rfl, fun p2 hp2 => ?_⟩
  have t2 := same_new hp2 (o := .lst [.bl (decide (8 = j)), .bl (decide (9 = j)), .bl (decide (10 = j)), .bl (decide (11 = j))])
  have m2 := t2 _ _ l1
  have w2 : upd G1 p2 (.lst [.bl (decide (8 = j)), .bl (decide (9 = j)), .bl (decide (10 = j)), .bl (decide (11 = j))]) p2 = some (.lst [.bl (decide (8 = j)), .bl (decide (9 = j)), .bl (decide (10 = j)), .bl (decide (11 = j))]) := upd_same
  have V2 := U1.trans t2
  generalize upd G1 p2 _ = J2 at t2 m2 w2 V2 ⊢
  refine ⟨r1, p2, _, _, rfl, rfl, m2, w2, szl rfl, fun r2 hr2 => ?_⟩
  have U2 := V2.trans (same_new hr2 (o := .lst ([.bl (decide (0 = j)), .bl (decide (1 = j)), .bl (decide (2 = j)), .bl (decide (3 = j)), .bl (decide (4 = j)), .bl (decide (5 = j)), .bl (decide (6 = j)), .bl (decide (7 = j))] ++ [.bl (decide (8 = j)), .bl (decide (9 = j)), .bl (decide (10 = j)), .bl (decide (11 = j))])))
  have l2 : upd J2 r2 (.lst ([.bl (decide (0 = j)), .bl (decide (1 = j)), .bl (decide (2 = j)), .bl (decide (3 = j)), .bl (decide (4 = j)), .bl (decide (5 = j)), .bl (decide (6 = j)), .bl (decide (7 = j))] ++ [.bl (decide (8 = j)), .bl (decide (9 = j)), .bl (decide (10 = j)), .bl (decide (11 = j))])) r2 = some (.lst [.bl (decide (0 = j)), .bl (decide (1 = j)), .bl (decide (2 = j)), .bl (decide (3 = j)), .bl (decide (4 = j)), .bl (decide (5 = j)), .bl (decide (6 = j)), .bl (decide (7 = j)), .bl (decide (8 = j)), .bl (decide (9 = j)), .bl (decide (10 = j)), .bl (decide (11 = j))]) := upd_same
  have E2 := hE.same U2
  clear E1 U1 l1 t2 m2 w2 V2
  generalize upd J2 r2 _ = G2 at U2 l2 E2 ⊢
  refine ⟨_, rfl, ?_⟩
  refine ⟨_, rfl, a, C, fs, _, _, decide (12 = j), rfl, E2, xc, .own _, kk 12 _ rfl, ?_⟩
  refine ⟨_, rfl, a, C, fs, _, _, decide (13 = j), rfl, E2, xc, .own _, kk 13 _ rfl, ?_⟩
  refine ⟨_, rfl, a, C, fs, _, _, decide (14 = j), rfl, E2, xc, .own _, kk 14 _ rfl, ?_⟩
  refine ⟨szl rfl, fun p3 hp3 => ?_⟩
  have t3 := same_new hp3 (o := .lst [.bl (decide (12 = j)), .bl (decide (13 = j)), .bl (decide (14 = j))])
  have m3 := t3 _ _ l2
  have w3 : upd G2 p3 (.lst [.bl (decide (12 = j)), .bl (decide (13 = j)), .bl (decide (14 = j))]) p3 = some (.lst [.bl (decide (12 = j)), .bl (decide (13 = j)), .bl (decide (14 = j))]) := upd_same
  have V3 := U2.trans t3
  generalize upd G2 p3 _ = J3 at t3 m3 w3 V3 ⊢
  refine ⟨r2, p3, _, _, rfl, rfl, m3, w3, szl rfl, fun r3 hr3 => ?_⟩
  have U3 := V3.trans (same_new hr3 (o := .lst ([.bl (decide (0 = j)), .bl (decide (1 = j)), .bl (decide (2 = j)), .bl (decide (3 = j)), .bl (decide (4 = j)), .bl (decide (5 = j)), .bl (decide (6 = j)), .bl (decide (7 = j)), .bl (decide (8 = j)), .bl (decide (9 = j)), .bl (decide (10 = j)), .bl (decide (11 = j))] ++ [.bl (decide (12 = j)), .bl (decide (13 = j)), .bl (decide (14 = j))])))
  have l3 : upd J3 r3 (.lst ([.bl (decide (0 = j)), .bl (decide (1 = j)), .bl (decide (2 = j)), .bl (decide (3 = j)), .bl (decide (4 = j)), .bl (decide (5 = j)), .bl (decide (6 = j)), .bl (decide (7 = j)), .bl (decide (8 = j)), .bl (decide (9 = j)), .bl (decide (10 = j)), .bl (decide (11 = j))] ++ [.bl (decide (12 = j)), .bl (decide (13 = j)), .bl (decide (14 = j))])) r3 = some (.lst [.bl (decide (0 = j)), .bl (decide (1 = j)), .bl (decide (2 = j)), .bl (decide (3 = j)), .bl (decide (4 = j)), .bl (decide (5 = j)), .bl (decide (6 = j)), .bl (decide (7 = j)), .bl (decide (8 = j)), .bl (decide (9 = j)), .bl (decide (10 = j)), .bl (decide (11 = j)), .bl (decide (12 = j)), .bl (decide (13 = j)), .bl (decide (14 = j))]) := upd_same
  have E3 := hE.same U3
  clear E2 U2 l2 t3 m3 w3 V3
  generalize upd J3 r3 _ = G3 at U3 l3 E3 ⊢
  refine ⟨_, rfl, ?_⟩
  refine ⟨_, rfl, a, C, fs, _, _, decide (15 = j), rfl, E3, xc, .own _, kk 15 _ rfl, ?_⟩
  refine ⟨_, rfl, a, C, fs, _, _, decide (16 = j), rfl, E3, xc, .own _, kk 16 _ rfl, ?_⟩
  refine ⟨szl rfl, fun p4 hp4 => ?_⟩
  have t4 := same_new hp4 (o := .lst [.bl (decide (15 = j)), .bl (decide (16 = j))])
  have m4 := t4 _ _ l3
  have w4 : upd G3 p4 (.lst [.bl (decide (15 = j)), .bl (decide (16 = j))]) p4 = some (.lst [.bl (decide (15 = j)), .bl (decide (16 = j))]) := upd_same
  have V4 := U3.trans t4
  generalize upd G3 p4 _ = J4 at t4 m4 w4 V4 ⊢
  refine ⟨r3, p4, _, _, rfl, rfl, m4, w4, szl rfl, fun r4 hr4 => ?_⟩
  exact k r4 _ (V4.free hr4) (V4.trans (same_new hr4 (o := .lst ([.bl (decide (0 = j)), .bl (decide (1 = j)), .bl (decide (2 = j)), .bl (decide (3 = j)), .bl (decide (4 = j)), .bl (decide (5 = j)), .bl (decide (6 = j)), .bl (decide (7 = j)), .bl (decide (8 = j)), .bl (decide (9 = j)), .bl (decide (10 = j)), .bl (decide (11 = j)), .bl (decide (12 = j)), .bl (decide (13 = j)), .bl (decide (14 = j))] ++ [.bl (decide (15 = j)), .bl (decide (16 = j))])))) upd_same
def spFar (K : PySem.W.Frag) (cs : List Addr) : Sp := fun vs H Q _ => ∃ (a C : Addr) (fs : Option (List (Str × V))), vs = [.ref a] ∧ C ∈ cs ∧ ExI H a C fs ∧ ∀ H', Same H H' → Q (.bl false) H'
theorem O__law_is_far (T : Tx K mg) : FnOk P w K mg base CX0 2 T.a__law_is_far T.d__law_is_far ["error"] (spFar K T.cs) := by
  refine T.F__law_is_far.ok sc__law_is_far (fun vs H Q E h => ?_) (fun cdv A outer s H vs Q E hr h => ?_)
  · obtain ⟨a, C, fs, rfl, _⟩ := h; rfl
  obtain ⟨a, C, fs, rfl, hC, hE, k⟩ := h
  refine ⟨_, (pss_one (ps_ret (pe_callB call_isVT (by rfl) T.z_isinstance (by decide +kernel) (pa_cons (pv 0) (pa_cons (pe_tup (pa_cons (pe_bltn (v := .ty "LookupError") (u := .type "LookupError") (by rfl) T.z_LookupError (by decide +kernel) rfl) (pa_cons (pe_bltn (v := .ty "TypeError") (u := .type "TypeError") (by rfl) T.z_TypeError (by decide +kernel) rfl) (pa_cons (pe_bltn (v := .ty "ArithmeticError") (u := .type "ArithmeticError") (by rfl) T.z_ArithmeticError (by decide +kernel) rfl) (pa_cons (pe_bltn (v := .ty "AttributeError") (u := .type "AttributeError") (by rfl) T.z_AttributeError (by decide +kernel) rfl) (pa_cons (pe_bltn (v := .ty "RuntimeError") (u := .type "RuntimeError") (by rfl) T.z_RuntimeError (by decide +kernel) rfl) pa_nil)))))) pa_nil))))), ?_⟩
  refine ⟨_, rfl, szl rfl, fun p hp => ?_⟩
  exact ⟨a, C, fs, p, _, _, false, rfl, hE.same (same_new hp), T.xc C hC, upd_same, .cons (.ty _) (.cons (.ty _) (.cons (.ty _) (.cons (.ty _) (.cons (.ty _) .nil)))), T.kfar C hC, k _ (same_new hp)⟩
end
end K0

set_option Elab.async false
set_option linter.all false
set_option maxRecDepth 100000
set_option maxHeartbeats 4000000
namespace Gs
open PySem PySem.Spec PyProof.Rows L2
theorem tabs_none {P : Addr} {q : Str} {H : Hp} (h : H P = some (.tbl #[])) : LamX.Tabs [(P, q)] H := fun p hp => by
  rw [List.mem_singleton.mp hp]
  exact LamX.TabS.nil h
section
variable {P : Program} {w : World} {K : PySem.W.Frag} {mg mb : Str → Option Value} {CX : CXT} {k : Nat} {fa a cc T : Addr} {fd : FuncData} {x : Str} {sp : Sp}
  {s₁ : Shared} {vs : List Value} {ns : List Int}
/-- the law's call where one code object has an empty table -/
theorem law_callGT (KX : K.In s₁.heap) (hns : s₁.heap.Ns mainGlobals mg) (hb : s₁.heap.Ns builtinsNs mb) (hbb : ∀ x : Str, x ≠ "__name__" → mb x = bootBuiltins x)
    (hlim : s₁.heap.NoLimit) (hg : s₁.gens = #[]) (hT : s₁.heap.get? T = some { cls := .none, data := .fields #[] }) (nT : K.lookup T = none) (C : PySem.W.CodeHd s₁.heap cc T)
    (hbm : ∃ (bm : Addr) (ob : Obj), mg "__builtins__" = some (.ref bm) ∧ bm ≠ builtinsNs ∧ s₁.heap.get? bm = some ob ∧ ob.cls = .type "module" ∧ ob.dict = some builtinsNs ∧ ob.data = .plain)
    (ha : s₁.heap.get? a = some { cls := .type "list", data := .seq vs.toArray }) (hi : IntsAre vs ns) (hl : ns.length ≤ sizeLine)
    (hr : Room k callerA) (F : ∀ base : Heap, K.In base → base.Ns mainGlobals mg → LamX.TabB base mg cc T → FnG P w K mg base CX k fa fd [x] sp)
    (hbind : ∀ (s : Shared) (u : Value), BindsTo s fd ⟨[u], []⟩ [(x, u)])
    (hsp : ∀ H : Hp, H T = some (.tbl #[]) → SqL K H a (ns.map V.int) → sp [.ref a] H (fun v _ => v = .bl true) fun _ _ _ => False)
    (hCX : ∀ H e s', CX [] H s₁ (fun _ _ _ => False) e s' → False) :
    codeAny (model P w) callerA (.call (.ref fa) ⟨[.ref a], []⟩)
      (fun r s' => r = .ok (.ret (.bool true)) ∧ OldK s₁.heap s'.heap ∧ s'.os = s₁.os ∧ AllBare s'.gens) s₁ := by
  have rv := vals_ints hi
  have nV := hi.length
  have aT : a ≠ T := fun z => by rw [z, hT] at ha; cases ha
  -- H knows the table, and perhaps the script, which is frozen
  have go : ∀ H : Hp, (∀ b, H b = none ∨ (b = a ∧ K.lookup b = none ∧ ∃ o ys, H b = some (.frz o (.lst ys))) ∨ b = T) → H T = some (.tbl #[]) → SqL K H a (ns.map V.int) → HOk P w H s₁.heap →
      codeAny (model P w) callerA (.call (.ref fa) ⟨[.ref a], []⟩)
        (fun r s' => r = .ok (.ret (.bool true)) ∧ OldK s₁.heap s'.heap ∧ s'.os = s₁.os ∧ AllBare s'.gens) s₁ := by
    intro H hO hHT hS hok
    have unk : ∀ {b : Addr} {o : Obj}, s₁.heap.get? b = some o → o.data ≠ .seq vs.toArray → o.data ≠ .fields #[] → H b = none := by
      intro b o e nd nf
      rcases hO b with q | ⟨q, _, _⟩ | q
      · exact q
      · rw [q, ha] at e; cases e; exact absurd rfl nd
      · rw [q, hT] at e; cases e; exact absurd rfl nf
    have hid : ∀ {b : Addr} {o : Obj}, s₁.heap.get? b = some o → o.data ≠ .seq vs.toArray → o.data ≠ .fields #[] → (hidT s₁.heap H).get? b = some o := fun e n1 n2 => hidT_get e (unk e n1 n2)
    have nsH : ∀ {b : Addr} {m : Str → Option Value}, s₁.heap.Ns b m → (hidT s₁.heap H).Ns b m := by
      rintro b m ⟨o, es, ep, e, d, r⟩
      exact ⟨o, es, ep, hid e (by rw [d]; exact fun z => nomatch z) (by rw [d]; exact fun z => nomatch z), d, r⟩
    have kH : K.In (hidT s₁.heap H) := by
      intro b o e
      refine hidT_get (KX b o e) ?_
      rcases hO b with q | ⟨_, q, _⟩ | q
      · exact q
      · rw [q] at e; cases e
      · rw [q, nT] at e; cases e
    have md : Mod K mg (hidT s₁.heap H) := by
      refine ⟨kH, nsH hns, ⟨mb, nsH hb, hbb⟩, ?_⟩
      obtain ⟨mc, h1, h2⟩ := hlim
      exact ⟨mc, nsH h1, h2⟩
    have e0 : Env0 P w K mg (hidT s₁.heap H) callerA [] s₁ H := by
      refine ⟨rfl, md, fun b o e => of_hidT e, Nat.le_of_eq (hidT_size _ _), trivial, ?_, hok, .of_eq hg⟩
      intro b hb
      exact absurd (show b ∈ ([] : List Addr) from hb) (List.not_mem_nil)
    have ngT : mainGlobals ≠ T := fun z => by
      obtain ⟨o, es, ep, e, d, _⟩ := hns
      rw [z, hT] at e; cases e; cases d
    have TB : LamX.TabB (hidT s₁.heap H) mg cc T := by
      refine ⟨?_, ?_, ngT⟩
      · obtain ⟨o, us, file, tf, flags, tg, inF, text, tt, e1, r1, r2, r3, rest⟩ := C
        refine ⟨o, us, file, tf, flags, tg, inF, text, tt, hid e1 (by rw [r2]; exact fun z => nomatch z) (fun z => ?_), r1, r2, r3, rest⟩
        rw [r2] at z; cases z; simp at r3
      · obtain ⟨bm, ob, b1, b2, b3, b4, b5, b6⟩ := hbm
        refine ⟨bm, ob, b1, b2, fun z => ?_, fun z => ?_, hid b3 (by rw [b6]; exact fun z => nomatch z) (by rw [b6]; exact fun z => nomatch z), b4, b5, b6⟩
        · obtain ⟨o, es, ep, e, d, _⟩ := hns
          rw [z, e] at b3; cases b3
          rw [d] at b6; cases b6
        · rw [z, hT] at b3; cases b3; cases b6
    have run := (F _ kH (nsH hns) TB).run callerA [] s₁ H ⟨[.ref a], []⟩ [.ref a] [.ref a] _ _ hr rfl e0 (hbind s₁ (.ref a)) (.cons rfl .nil) (hsp H hHT hS)
    refine codeAny_mono run (fun r s' h => ?_)
    match r, h with
    | .error e, h => exact (hCX H e s' h).elim
    | .ok .next, h => exact h.elim
    | .ok .brk, h => exact h.elim
    | .ok .cont, h => exact h.elim
    | .ok (.ret u), h =>
      obtain ⟨v, H', os, bare, un, hok', r', q⟩ := h
      cases (show v = .bl true from q)
      cases (show u = Value.bool true from r')
      obtain ⟨more, hm⟩ := un.tbls T #[] hHT
      have gT : s'.heap.get? T = some { cls := .none, data := .fields (#[] ++ more) } := hok' T _ hm
      have keep : ∀ b o, b ≠ T → s₁.heap.get? b = some o → s'.heap.get? b = some o := fun b o nb e => by
        rcases hO b with q | ⟨_, _, ob, ys, q⟩ | q
        · exact un.keep b o e q (fun z => absurd (show b ∈ ([] : List Addr) from z) List.not_mem_nil) List.not_mem_nil
        · obtain ⟨e1, _⟩ := hok b _ q
          obtain ⟨e2, _⟩ := hok' b _ (un.frzs b ob _ q)
          rw [e] at e1; cases e1; exact e2
        · exact absurd q nb
      refine ⟨rfl, ⟨fun b o e => ?_, fun b o e => ?_⟩, os, bare⟩
      · by_cases nb : b = T
        · subst nb
          rw [hT] at e; cases e
          exact .inr (.inl ⟨(C.tab hT).isCodeTable, rfl, #[], more, rfl, gT⟩)
        · exact .inl (keep b o nb e)
      · by_cases nb : b = T
        · rw [nb]; exact ⟨_, gT⟩
        · exact ⟨o, keep b o nb e⟩
  by_cases hk : K.lookup a = none
  · have at_T : (fun b => if b = T then some (HO.tbl #[]) else if b = a then some (HO.frz { cls := .type "list", data := .seq vs.toArray } (.lst (ns.map V.int))) else none : Hp) T = some (.tbl #[]) := if_pos rfl
    have at_a : (fun b => if b = T then some (HO.tbl #[]) else if b = a then some (HO.frz { cls := .type "list", data := .seq vs.toArray } (.lst (ns.map V.int))) else none : Hp) a = some (.frz { cls := .type "list", data := .seq vs.toArray } (.lst (ns.map V.int))) := (if_neg aT).trans (if_pos rfl)
    refine go (fun b => if b = T then some (HO.tbl #[]) else if b = a then some (HO.frz { cls := .type "list", data := .seq vs.toArray } (.lst (ns.map V.int))) else none) (fun b => ?_) at_T (.inl (.inr ⟨_, at_a⟩)) (fun b u z => ?_)
    · by_cases e : b = T
      · exact .inr (.inr e)
      · by_cases e2 : b = a
        · refine .inr (.inl ⟨e2, by rw [e2]; exact hk, _, _, (if_neg e).trans (if_pos e2)⟩)
        · exact .inl ((if_neg e).trans (if_neg e2))
    · dsimp only at z
      by_cases e : b = T
      · rw [if_pos e] at z; cases z; rw [e]; exact hT
      · rw [if_neg e] at z
        by_cases e2 : b = a
        · rw [if_pos e2] at z; cases z; rw [e2]
          exact ⟨ha, by rw [List.length_map]; exact hl, vs, _, rv, ha⟩
        · rw [if_neg e2] at z; cases z
  · obtain ⟨o, ho⟩ := Option.ne_none_iff_exists'.mp hk
    have e := KX a o ho
    rw [ha] at e; cases e
    refine go (fun b => if b = T then some (.tbl #[]) else none) (fun b => ?_) (if_pos rfl) (.inr ⟨_, vs.toArray, _, ho, rfl, rfl, rfl, ?_, by simpa using rv⟩) (fun b u z => ?_)
    · by_cases e : b = T
      · exact .inr (.inr e)
      · exact .inl (if_neg e)
    · rw [List.size_toArray, nV]; exact hl
    · dsimp only at z
      by_cases e : b = T
      · rw [if_pos e] at z; cases z; rw [e]; exact hT
      · rw [if_neg e] at z; cases z
end
/-- what the head leaves, from the law's promise; one code object has a table -/
theorem walkGT {l : PySem.W.OpenLaw} {k : Nat} {q : Program} {loose : List Str} {XP : (Str → Option Value) → Heap → Prop} {YP : World → Heap → Prop} {d : DefRec}
    {K : Params → PySem.W.Frag} {sp : PySem.W.Frag → Sp} {x : Str} {T : Addr} (hn : l.most = some 63) (hdf : d.params.defaults = []) (hr : Room k callerA)
    (hY : ∀ (w : World) (h : Heap), YP w h → (K w.params).In h) (hT : ∀ (w : World) (h : Heap), YP w h → h.get? T = some { cls := .none, data := .fields #[] })
    (F : ∀ (w : World) (mg : Str → Option Value) (fa : Addr) (h : Heap), (K w.params).In h → h.Ns mainGlobals mg → mg d.name = some (.ref fa) →
      ∃ (fd : FuncData) (cc : Addr), (∀ (s : Shared) (u : Value), BindsTo s fd ⟨[u], []⟩ [(x, u)]) ∧ (K w.params).lookup T = none ∧ PySem.W.codeHdIn (K w.params) cc T = true ∧
        ∀ base : Heap, (K w.params).In base → base.Ns mainGlobals mg → LamX.TabB base mg cc T → FnG l.prog w (K w.params) mg base CX0 k fa fd [x] (sp (K w.params)))
    (hsp : ∀ (K : PySem.W.Frag) (H : Hp) (a : Addr) (ns : List Int), ns.length ≤ 63 → H T = some (.tbl #[]) → SqL K H a (ns.map V.int) → sp K [.ref a] H (fun v _ => v = .bl true) fun _ _ _ => False) :
    PySem.W.WalkO q loose XP YP l.row.toRowW d [] (fun f vs => PySem.call f vs) := by
  refine Att.attach_call hn hdf (fun w s₀ s₁ mg mb fa o pm cd doc a vs ns G Y ho hd hcd hmg hobj hints hlen hg => ?_)
  have KX := hY w _ Y
  obtain ⟨fd, cc, hb, nT, hc, hF⟩ := F w mg fa _ KX G.T.g hmg
  exact law_callGT KX G.T.g G.T.b G.T.builtins G.T.nolimit hg (hT w _ Y) nT (PySem.W.codeHd_of_K KX hc) G.T.bmain hobj hints (Nat.le_trans hlen (by decide)) hr hF hb (fun H hHT hS => hsp _ H a ns hlen hHT hS) (fun _ _ _ h => h)
end Gs

set_option Elab.async false
set_option linter.all false
set_option maxRecDepth 100000
set_option maxHeartbeats 8000000
namespace K0
open PySem PySem.Spec PyProof.Rows L2 Gs
section
variable {P : Program} {w : World} {K : PySem.W.Frag} {mg : Str → Option Value} {base : Heap}
/-- _law_caught: what it makes of what is asked -/
def TTC (K : PySem.W.Frag) (CF : Addr) : (XK → Hp → VK → Prop) → Hp → VK → Prop := fun tl H Q => tl (fun cls d H' => PySem.W.exmOne K cls (.ref CF) = some true ∧ ∀ a, H' a = none → Q (.ref a) (upd H' a (exv a cls d))) H
  (fun _ H' => ∃ v : V, some (some V.non) = some (some v) ∧ Q v H')
theorem heard_gives (T : Tx K mg) {X : Cx} {q : Str} {cdg : Value} (eK : X.K = K) (em : X.mg = mg) : LamX.GivesTo X n__law_caught "_law_caught" (defScope s__law_caught) T.a__law_caught cdg (defBody s__law_caught) "ask" q (TTC K T.c_FieldError) := by
  subst eK em
  intro f c' s H Q tl act hc h
  have hgF : Names (cxOf C8.CX0 X.prog X.w X.K X.mg X.base n__law_caught "_law_caught" (defScope s__law_caught) T.a__law_caught cdg X.A X.stack s H C8.E0).nox "FieldError" (.ref T.c_FieldError) := ⟨rfl, by decide, .inl T.m_FieldError⟩
  refine ⟨_, pss_cons (ps_set (i := 1) sc__law_caught.nd rfl (Or.inl rfl) pe_non) (pss_cons (ps_tryK
      (tb := fun W D σ H => ∃ Ech : XK, (∀ cls d σ' H', Ech cls d H' → W cls d σ' H') ∧ σ[0]? = some (some (.ref f)) ∧ H c' = some (LamX.CodeO c' q) ∧ tl Ech H (fun _ H' => D.nx σ H'))
      (i := 2) rfl rfl rfl LamX.takes0 (fun W pn xe tk _ => ?_) hgF sc__law_caught.nd rfl rfl
      (fun a ob cls d pn hz hf => pss_one (ps_set (i := 1) sc__law_caught.nd rfl (Or.inl rfl) (pv 2)))) (pss_one (ps_ret (pv 1)))), ?_⟩
  · refine ⟨fun pins s' σ H' D I h' => ?_⟩
    obtain ⟨Ech, hW, h1, h2, h3⟩ := h'
    exact (pss_one (ps_expr (act W pn xe Ech _ _ tk hW))).run pins s' σ H' D I ⟨h1, h2, h3⟩
  have len3 : ∀ {σ' : L2.St}, σ'.length = n__law_caught.length → ∃ x y z, σ' = [x, y, z] := fun {σ'} h => by
    match σ', h with
    | [x, y, z], _ => exact ⟨x, y, z, rfl⟩
  refine ⟨_, fun cls d σ' H' => ?_, rfl, hc, h⟩
  rintro ⟨ex, k⟩
  refine ⟨true, ex, fun _ hl a na => ?_, fun z => nomatch z⟩
  obtain ⟨x, y, z, rfl⟩ := len3 hl
  exact ⟨_, rfl, _, rfl, k a na⟩
/-- _law_caught(lambda: body) -/
theorem pe_heard (T : Tx K mg) {X : Cx} (eK : X.K = K) (em : X.mg = mg) {tabs : List (Addr × Str)} {c P' : Addr} {k : Nat} {params : Arguments} {body : Expr} {scope : Scope} {t : XK → TE} {p lpos pos : Pos} (hg : Gl X "_law_caught")
    (TB : LamX.TabB X.base X.mg c P') (hcode : X.env.code = .ref c) (hmT : (P', X.env.qual ++ "<lambda>") ∈ tabs) (hu : ∀ p ∈ tabs, p.1 = P' → p.2 = X.env.qual ++ "<lambda>") (hr : Room (k + 2) X.A) (L : LamX.LamS X.env.scope scope) (hdef : defaultsOf params X.env = ([], []))
    (hbind : ∀ (q : Str) (cl : List (Str × Addr)) (pm cv ctv : Value), bindArgs (PySem.W.kla_fn "<lambda>" q params body scope cl pm cv ctv) ⟨[], []⟩ = pure [])
    (hbody : ∀ (A : Around) (outer : List Env) (s : Shared) (H : Hp) (E : XK) (f c' : Addr), Room k (A.deeper (LamX.lamEnv X scope s.heap.objs.size f c')) → PE (LamX.lamCx X A outer s H E scope f c') body (t E)) :
    PE X (.Call (.Name "_law_caught" p) [.Lambda params body scope lpos] [] pos) (LamX.tLam tabs (TTC K T.c_FieldError) t) := by
  subst eK em
  obtain ⟨oc, od, kV, doc, pm, an, cdv, ct, osl, e, lk, hcd⟩ := T.F__law_caught.ex
  have hb := T.b__law_caught
  rw [e] at hb lk
  exact LamX.pe_lamcall (Ng := n__law_caught) (a := "ask") hg T.m__law_caught T.F__law_caught.kp lk hcd hb sc__law_caught rfl (.inl rfl) (heard_gives T rfl rfl) TB hcode hmT hu hr L hdef hbind hbody
end
end K0

set_option Elab.async false
set_option linter.all false
set_option maxRecDepth 100000
set_option maxHeartbeats 8000000
namespace K0
open PySem PySem.Spec PyProof.Rows L2 Gs
theorem seq_cut {te : TE} {tg : TG} {r : TS} {D : Ends} {σ : L2.St} {H : Hp} (R : V → Hp → Prop) (h1 : ∀ Q : VK, (∀ v H', R v H' → Q v H') → te σ H Q) (h2 : ∀ v H', R v H' → tg v σ H' (r D)) : tSeq (tAsg te tg) r D σ H := h1 _ h2
/-! ### all but lists stays; a list may be pushed upon -/
def ExtL (H H' : Hp) : Prop := ∀ b o, H b = some o → (∀ xs, o ≠ .lst xs) → (∀ ps, o ≠ .tbl ps) → H' b = some o
theorem ExtL.refl {H : Hp} : ExtL H H := fun _ _ h _ _ => h
theorem ExtL.trans {H H1 H2 : Hp} (a : ExtL H H1) (b : ExtL H1 H2) : ExtL H H2 := fun x o h t u => b x o (a x o h t u) t u
theorem ExtL.of {H H' : Hp} (e : Same H H') : ExtL H H' := fun b o h _ _ => e b o h
theorem ExtL.ofN {H H' : Hp} (e : LamX.ExtN H H') : ExtL H H' := fun b o h _ t => e b o h t
theorem ExtL.put {H : Hp} {p : Addr} {xs ys : List V} (h : H p = some (.lst xs)) : ExtL H (upd H p (.lst ys)) := fun b o e n _ => by
  have : b ≠ p := fun z => by rw [z, h] at e; cases e; exact n _ rfl
  rw [upd_ne this]; exact e
theorem ExtL.ex {H H' : Hp} {a C : Addr} {fs : Option (List (Str × V))} (e : ExtL H H') (h : ExI H a C fs) : ExI H' a C fs :=
  h.ext (fun b φ z => e _ _ z (fun _ y => nomatch y) (fun _ y => nomatch y)) fun b fs z => e _ _ z (fun _ y => nomatch y) (fun _ y => nomatch y)
theorem ExtL.tabs {tabs : List (Addr × Str)} {H H' : Hp} (t : LamX.Tabs tabs H) (e : ∀ b o, H b = some o → (∀ xs, o ≠ .lst xs) → H' b = some o) : LamX.Tabs tabs H' := fun p hp => by
  obtain ⟨ps, h1, h2, h3⟩ := t p hp
  refine ⟨ps, e _ _ h1 (fun _ z => nomatch z), h2, fun pos cv hc => ?_⟩
  obtain ⟨c, e1, e2⟩ := h3 pos cv hc
  exact ⟨c, e1, e _ _ e2 (fun _ z => by unfold LamX.CodeO at z; cases z)⟩
/-- _law_caught(lambda: ..), the lambda raises -/
theorem lamC {K : PySem.W.Frag} {CF C : Addr} {tabs : List (Addr × Str)} {H : Hp} {σ : L2.St} {t : XK → TE} {Q' : VK} {p : Str} (hT : LamX.Tabs tabs H) (hx : PySem.W.exmOne K (.ref C) (.ref CF) = some true)
    (body : ∀ (E : XK) (H1 : Hp) (Q1 : VK), LamX.ExtN H H1 → (∀ d H', Same H1 H' → H' d = some (.xd [("part", .str p)]) → E (.ref C) (some d) H') → t E σ H1 Q1)
    (k : ∀ a H', LamX.Tabs tabs H' → LamX.ExtN H H' → ExI H' a C (some [("part", .str p)]) → Q' (.ref a) H') : LamX.tLam tabs (TTC K CF) t σ H Q' := by
  refine ⟨hT, fun H1 eN T1 => body _ H1 _ eN fun d H' s hd => ⟨hx, fun a ha => k a _ ?_ ?_ ⟨d, .inl upd_same, .inl ?_⟩⟩⟩
  · exact (T1.ext s).ext (same_new ha)
  · exact eN.trans (.of (s.trans (same_new ha)))
  · rw [upd_ne (ne_of_none hd ha)]; exact hd
/-- the list of what was caught: its address, its class, its part -/
structure JL (tabs : List (Addr × Str)) (hl : Addr) (ts : List (Addr × Addr × Str)) (H : Hp) : Prop where
  tb : LamX.Tabs tabs H
  at_ : H hl = some (.lst (ts.map fun t => V.ref t.1))
  ex : ∀ t ∈ ts, ExI H t.1 t.2.1 (some [("part", .str t.2.2)])
theorem JL.push {tabs : List (Addr × Str)} {hl a C : Addr} {ts : List (Addr × Addr × Str)} {H H' : Hp} {p : Str} (j : JL tabs hl ts H) (tb : LamX.Tabs tabs H') (e : LamX.ExtN H H') (x : ExI H' a C (some [("part", .str p)])) :
    H' hl = some (.lst (ts.map fun t => V.ref t.1)) ∧ JL tabs hl (ts ++ [(a, C, p)]) (upd H' hl (.lst ((ts.map fun t => V.ref t.1) ++ [.ref a]))) := by
  have g : H' hl = some (.lst (ts.map fun t => V.ref t.1)) := e _ _ j.at_ (fun _ z => nomatch z)
  have pt : ExtL H' (upd H' hl (.lst ((ts.map fun t => V.ref t.1) ++ [.ref a]))) := .put g
  refine ⟨g, ExtL.tabs tb fun b o h n => ?_, by rw [upd_same, List.map_append]; rfl, fun t ht => ?_⟩
  · have : b ≠ hl := fun z => by rw [z, g] at h; cases h; exact n _ rfl
    rw [upd_ne this]; exact h
  · rcases List.mem_append.mp ht with ht | ht
    · exact pt.ex ((ExtL.ofN e).ex (j.ex t ht))
    · rw [List.mem_singleton.mp ht]; exact pt.ex x
theorem pe_fvK {X : Cx} {K : PySem.W.Frag} {e : Expr} {te : TE} {pos : Pos} {n : Str} (eK : X.K = K) (he : PE X e te) (hb : attributeBase e n X.env (eval e X.env) = eval e X.env := by rfl) : PE X (.Attribute e n pos) (tFv K n te) := by
  subst eK; exact pe_fv he hb
theorem pe_indexK {X : Cx} {K : PySem.W.Frag} {o e : Expr} {es : List Expr} {to : TE} {t : TA} {apos cpos : Pos} (eK : X.K = K) (ho : PE X o to) (ha : PA X (e :: es) t)
    (hbase : attributeBase o "index" X.env (eval o X.env) = eval o X.env := by rfl)
    (hfew : ((backTo cpos (starEach (e :: es) X.env)).all (fun x => !x.1) && (backToKw cpos (keywordEach [] X.env)).all (fun x => x.1.isSome)
      && decide ((e :: es).length + ([] : List Keyword).length + (if ([] : List Keyword).isEmpty then 0 else 1) < 30)) = true := by rfl)
    (hline : (apos.endLine == cpos.line) = true := by rfl) (hs : starEach (e :: es) X.env = (false, eval e X.env) :: starEach es X.env := by rfl) (hplain : (backTo cpos (starEach es X.env)).any (·.1) = false := by rfl) :
    PE X (.Call (.Attribute o "index" apos) (e :: es) [] cpos) (tBM K "list" (rIndex K) to t) := by
  subst eK
  exact pe_bm PySem.F.plainAttrs_list PySem.F.slot_list_index PySem.F.type_list_index mt_index ho ha hbase hfew hline hs hplain
theorem fresh3 (p q r : Nat) : ∃ c : Nat, p ≠ c ∧ q ≠ c ∧ r ≠ c := ⟨p + q + r + 1, by omega, by omega, by omega⟩
theorem same3 {H H' : Hp} {p x dx : Addr} {o1 o2 o3 : HO} (hp : H p = none) (hx : upd H p o1 x = none) (hdx : upd H p o1 dx = none) (s : Same (upd (upd (upd H p o1) dx o2) x o3) H') : Same H H' := fun b o e => s b o (by
  have e1 := same_new hp (o := o1) b o e
  rw [upd_ne (ne_of_none e1 hx), upd_ne (ne_of_none e1 hdx)]; exact e1)
theorem pX {X : Cx} {E : XK} {W : WX} (tk : Takes X W) (hW : ∀ cls d σ H, E cls d H → W cls d σ H) : Passes (L2.CX X.prog X.w) X E := passes_call tk hW
theorem pss_any {X : Cx} {ss : List Stmt} : PSs X ss (fun D σ H => ∃ t, PSs X ss t ∧ t D σ H) := ⟨fun pins s σ H D I ⟨t, h, q⟩ => h.run pins s σ H D I q⟩
section
variable {P : Program} {w : World} {K : PySem.W.Frag} {mg : Str → Option Value} {base : Heap}
abbrev lamQ : Str := ("law.<locals>." : Str) ++ "<lambda>"
abbrev XL (P : Program) (w : World) (K : PySem.W.Frag) (mg : Str → Option Value) (base : Heap) (f : Addr) (cdv : Value) (A : Around) (outer : List Env) (s : Shared) (H : Hp) (E : XK) : Cx :=
  (cxOf CX0 P w K mg base n_law "law" (defScope s_law) f cdv A outer s H E).nox
theorem kit_bmw (T : Tx K mg) : ∀ C ∈ ([T.c_BadKind, T.c_BadMove, T.c_BadWords] : List Addr), PySem.W.kitAny K (.ref C) [.ref T.c_BadKind, .ref T.c_BadMove, .ref T.c_BadWords] = some true := fun C hC => by
  simp only [List.mem_cons, List.not_mem_nil, or_false] at hC
  rcases hC with rfl | rfl | rfl
  · exact kitAny_cons (T.kk 2 2 _ _ rfl rfl) (fun h => by cases h) (fun _ => rfl)
  · exact kitAny_cons (T.kk 2 5 _ _ rfl rfl) (fun _ => kitAny_cons (T.kk 5 5 _ _ rfl rfl) (fun h => by cases h) (fun _ => rfl)) (fun h => by cases h)
  · exact kitAny_cons (T.kk 2 8 _ _ rfl rfl) (fun _ => kitAny_cons (T.kk 5 8 _ _ rfl rfl) (fun _ => kitAny_cons (T.kk 8 8 _ _ rfl rfl) (fun h => by cases h) (fun _ => rfl)) (fun h => by cases h)) (fun h => by cases h)
theorem b4_ (T : Tx K mg) : ∃ ds : List Value, Vals (([.ref T.t_E, .bl false] : List V).drop 1) ds ∧ Binds K T.d_Kind___init__ ["self", "name", "leaps", "rides", "is_lord"] ds :=
  FunD.binds1 T.F_Kind___init__ 4 1 (by simp) rfl fun T kV doc pm an cdv ct us its l1 l2 => by
    match us, its, l1, l2 with
    | [x, n, l, r], [d1, d2], _, _ => exact ⟨_, rfl, rfl⟩
theorem b2g (T : Tx K mg) : ∃ ds : List Value, Vals (([.int 0, .int 0] : List V).drop 0) ds ∧ Binds K T.d_gone_along ["move", "how", "across", "up"] ds :=
  FunD.binds1 T.F_gone_along 2 0 (by simp) rfl fun T kV doc pm an cdv ct us its l1 l2 => by
    match us, its, l1, l2 with
    | [x, n], [d1, d2], _, _ => exact ⟨_, rfl, rfl⟩
/-- the list of what was caught, made -/
theorem lw1 (T : Tx K mg) {cdv : Value} {A : Around} {outer : List Env} {s : Shared} {H0 : Hp} {E : XK} {D : Ends} {rest : TS} {P' cc : Addr} {x0 x1 x2 x4 x5 x6 x7 x8 x9 : Option V} {v : V} {H : Hp}
    (hr : Room 13 (A.deeper (envOfC "law" (defScope s_law) s.heap.objs.size T.a_law cdv))) (hg : (A.deeper (envOfC "law" (defScope s_law) s.heap.objs.size T.a_law cdv)).guards = some [])
    (TB : LamX.TabB base mg cc P') (hcode : cdv = .ref cc) (hmT : (P', lamQ) ∈ [(P', lamQ)]) (hu : ∀ p ∈ [(P', lamQ)], p.1 = P' → p.2 = lamQ)
    (HT : PSs (XL P w K mg base T.a_law cdv A outer s H0 E) ((defBody s_law).drop 6) rest) (ht : LamX.Tabs [(P', lamQ)] H)
    (go : ∀ hl a1 a2 a3 a4 H', JL [(P', lamQ)] hl [(a1, T.c_BadKind, "name"), (a2, T.c_BadKind, "kind"), (a3, T.c_BadMove, "move"), (a4, T.c_BadWords, "how")] H' → rest D [x0, x1, x2, some v, x4, x5, x6, x7, some (.ref hl), x9] H') :
    ∃ t, PSs (XL P w K mg base T.a_law cdv A outer s H0 E) ((defBody s_law).drop 2) t ∧ t D [x0, x1, x2, some v, x4, x5, x6, x7, x8, x9] H := by
  obtain ⟨ds3, rb3, hb3⟩ := b4_ T
  obtain ⟨ds2, rg2, hg2⟩ := b2g T
  refine ⟨_, (pss_cons (ps_set (i := 8) sc_law.nd rfl (Or.inl rfl) (pe_lst (pa_cons (pe_heard (k := 9) T rfl rfl (by rfl) TB hcode hmT hu (hr.mono (by decide)) (LamX.lamS_by (sc := defScope s_law) (by decide +kernel)) rfl (fun _ _ _ _ _ => rfl) (fun _ _ _ _ _ _ _ hr' => (pe_make T.mk_Kind (O_Kind___init__ T) (hr'.mono (by decide)) (by rfl) T.m_Kind hb3 rb3 (pX (takes_of rfl rfl rfl rfl) (fun _ _ _ _ h => h)) (pa_cons pe_int (pa_cons (pe_lst pa_nil) (pa_cons (pv 3) pa_nil)))))) pa_nil)))
      (pss_cons (ps_expr (pe_bm PySem.F.plainAttrs_list PySem.F.slot_list_append PySem.F.type_list_append mt_append (pv 8) (pa_cons (pe_heard (k := 9) T rfl rfl (by rfl) TB hcode hmT hu (hr.mono (by decide)) (LamX.lamS_by (sc := defScope s_law) (by decide +kernel)) rfl (fun _ _ _ _ _ => rfl) (fun _ _ _ _ _ _ _ hr' => (pe_call (O_steps_of T) (hr'.mono (by decide)) (by rfl) T.m_steps_of T.F_steps_of.kp T.b_steps_of .nil (pX (takes_of rfl rfl rfl rfl) (fun _ _ _ _ h => h)) (pa_cons pe_str pa_nil)))) pa_nil)))
      (pss_cons (ps_expr (pe_bm PySem.F.plainAttrs_list PySem.F.slot_list_append PySem.F.type_list_append mt_append (pv 8) (pa_cons (pe_heard (k := 9) T rfl rfl (by rfl) TB hcode hmT hu (hr.mono (by decide)) (LamX.lamS_by (sc := defScope s_law) (by decide +kernel)) rfl (fun _ _ _ _ _ => rfl) (fun _ _ _ _ _ _ _ hr' => (pe_call (O_gone_along T) (hr'.mono (by decide)) (by rfl) T.m_gone T.F_gone_along.kp hg2 rg2 (pX (takes_of rfl rfl rfl rfl) (fun _ _ _ _ h => h)) (pa_cons (pe_tup (pa_cons pe_int (pa_cons pe_int pa_nil))) (pa_cons pe_str pa_nil))))) pa_nil)))
      (pss_cons (ps_expr (pe_bm PySem.F.plainAttrs_list PySem.F.slot_list_append PySem.F.type_list_append mt_append (pv 8) (pa_cons (pe_heard (k := 9) T rfl rfl (by rfl) TB hcode hmT hu (hr.mono (by decide)) (LamX.lamS_by (sc := defScope s_law) (by decide +kernel)) rfl (fun _ _ _ _ _ => rfl) (fun _ _ _ _ _ _ _ hr' => (pe_call (O_gone_along T) (hr'.mono (by decide)) (by rfl) T.m_gone T.F_gone_along.kp hg2 rg2 (pX (takes_of rfl rfl rfl rfl) (fun _ _ _ _ h => h)) (pa_cons (pe_tup (pa_cons (pe_tup (pa_cons pe_int (pa_cons pe_int pa_nil))) (pa_cons (pe_tup (pa_cons pe_int (pa_cons pe_int pa_nil))) pa_nil))) (pa_cons pe_str pa_nil))))) pa_nil)))
      HT)))), ?_⟩
  refine lamC (C := T.c_BadKind) (p := "name") ht T.xm_BadKind_FieldError (fun E' H1 Q1 eN he => ?_) (fun a1 H1 t1 e1 g1 => ?_)
  · refine ⟨szl rfl, fun p hp => ⟨_, rfl, fun x dx hx hdx _ => ⟨x, 5, _, _, _, rfl, fun d H' _ s hd => ?_⟩⟩⟩
    exact he d H' (same3 hp hx hdx s) hd
  -- the list
  refine ⟨szl rfl, fun hl hh => ?_⟩
  have j1 : JL [(P', lamQ)] hl [(a1, T.c_BadKind, "name")] (upd H1 hl (.lst [.ref a1])) := ⟨t1.ext (same_new hh), upd_same, fun t ht => by
    rw [List.mem_singleton.mp ht]; exact g1.same (same_new hh)⟩
  clear g1 e1 t1
  -- steps_of("up")
  refine ⟨_, rfl, .inl ⟨rfl, _, .of j1.at_⟩, lamC (C := T.c_BadKind) (p := "kind") j1.tb T.xm_BadKind_FieldError (fun E' H1 Q1 eN he => ?_) (fun a2 H2 t2 e2 g2 => ?_)⟩
  · exact ⟨"up", rfl, fun d H' _ s hd => he d H' s hd⟩
  obtain ⟨q2, j2⟩ := j1.push t2 e2 g2
  refine ⟨hl, _, _, rfl, rfl, q2, szs (show 1 < 1000 by decide), ?_⟩
  -- gone_along((0, 1), "turned")
  refine ⟨_, rfl, .inl ⟨rfl, _, .of j2.at_⟩, lamC (C := T.c_BadMove) (p := "move") j2.tb T.xm_BadMove_FieldError (fun E' H1 Q1 eN he => ?_) (fun a3 H3 t3 e3 g3 => ?_)⟩
  · refine ⟨szl rfl, fun p hp => ⟨p + 1, _, .tuple [.int 0, .int 1], "turned", rfl, .tup (Nat.ne_of_lt (Nat.lt_succ_self p)) (.of upd_same) (.cons (.int 0) (.cons (.int 1) .nil)), .inl ⟨rfl, fun d H' _ s hd => he d H' ((same_new hp).trans s) hd⟩⟩⟩
  obtain ⟨q3, j3⟩ := j2.push t3 e3 g3
  refine ⟨hl, _, _, rfl, rfl, q3, szs (show 2 < 1000 by decide), ?_⟩
  -- gone_along(((0, 1), (2, 3)), "left")
  refine ⟨_, rfl, .inl ⟨rfl, _, .of j3.at_⟩, lamC (C := T.c_BadWords) (p := "how") j3.tb T.xm_BadWords_FieldError (fun E' H1 Q1 eN he => ?_) (fun a4 H4 t4 e4 g4 => ?_)⟩
  · refine ⟨szl rfl, fun p hp => ⟨szl rfl, fun q hq => ⟨szl rfl, fun r hr3 => ?_⟩⟩⟩
    obtain ⟨c, hc⟩ : ∃ c : Addr, p ≠ c ∧ q ≠ c ∧ r ≠ c := fresh3 p q r
    have f1 := new_tup hp hc.1 (.cons (.int 0) (.cons (.int 1) .nil)) (K := K)
    have f2 := new_tup hq hc.2.1 (.cons (.int 2) (.cons (.int 3) .nil)) (K := K)
    have f3 := new_tup hr3 hc.2.2 (.cons (f1.1.up f2.2) (.cons f2.1 .nil)) (K := K)
    exact ⟨c, _, _, "left", rfl, f3.1, .inr ⟨rfl, by decide +kernel, fun d H' _ s hd => he d H' ((((same_new hp).trans (same_new hq)).trans (same_new hr3)).trans s) hd⟩⟩
  obtain ⟨q4, j4⟩ := j3.push t4 e4 g4
  refine ⟨hl, _, _, rfl, rfl, q4, szs (show 3 < 1000 by decide), ?_⟩
  exact go hl a1 a2 a3 a4 _ j4
end
end K0

set_option Elab.async false
set_option linter.all false
set_option maxRecDepth 100000
set_option maxHeartbeats 8000000
namespace K0
open PySem PySem.Spec PyProof.Rows L2 Gs
theorem flags_at {j : Nat} {m : Nat} {z : V} (h : m < 17) (e : ((List.range 17).map fun i => V.bl (decide (i = j)))[m]? = some z) : z = .bl (decide (m = j)) := by
  rw [List.getElem?_map, List.getElem?_range h] at e
  exact (Option.some.inj e).symm
theorem flags_get {j : Nat} (h : j < 17) : ((List.range 17).map fun i => V.bl (decide (i = j)))[j]? = some (.bl true) := by
  rw [List.getElem?_map, List.getElem?_range h]
  show some (V.bl (decide (j = j))) = _
  rw [decide_eq_true rfl]
theorem flags_flat (j : Nat) : ((List.range 17).map fun i => V.bl (decide (i = j))).all flatV = true := by
  rw [List.all_map]
  exact List.all_eq_true.mpr fun _ _ => rfl
section
variable {P : Program} {w : World} {K : PySem.W.Frag} {mg : Str → Option Value} {base : Heap}
/-- the number of a class that was caught -/
def BMW (T : Tx K mg) (C : Addr) (j : Nat) : Prop := (C = T.c_BadKind ∧ j = 2) ∨ (C = T.c_BadMove ∧ j = 5) ∨ (C = T.c_BadWords ∧ j = 8)
theorem BMW.facts {T : Tx K mg} {C : Addr} {j : Nat} (h : BMW T C j) : T.cs[j]? = some C ∧ j < 17 ∧ XfC K C ∧ PySem.W.findIn K (.ref C) "part" = some none ∧ ExcC K C ∧ PySem.W.kitAny K (.ref C) [.ref T.c_BadKind, .ref T.c_BadMove, .ref T.c_BadWords] = some true := by
  rcases h with ⟨rfl, rfl⟩ | ⟨rfl, rfl⟩ | ⟨rfl, rfl⟩
  · exact ⟨rfl, by decide, T.xf_BadKind, T.no_BadKind_part, T.xc _ (by simp), kit_bmw T _ (by simp)⟩
  · exact ⟨rfl, by decide, T.xf_BadMove, T.no_BadMove_part, T.xc _ (by simp), kit_bmw T _ (by simp)⟩
  · exact ⟨rfl, by decide, T.xf_BadWords, T.no_BadWords_part, T.xc _ (by simp), kit_bmw T _ (by simp)⟩
theorem lw2 (T : Tx K mg) {cdv : Value} {A : Around} {outer : List Env} {s : Shared} {H0 : Hp} {E : XK} {D : Ends} {P' hl a1 a2 a3 a4 : Addr} {x0 x1 x2 x3 x4 x5 x6 x7 x9 : Option V} {H : Hp}
    (hr : Room 13 (A.deeper (envOfC "law" (defScope s_law) s.heap.objs.size T.a_law cdv))) (hg : (A.deeper (envOfC "law" (defScope s_law) s.heap.objs.size T.a_law cdv)).guards = some [])
    (j : JL [(P', lamQ)] hl [(a1, T.c_BadKind, "name"), (a2, T.c_BadKind, "kind"), (a3, T.c_BadMove, "move"), (a4, T.c_BadWords, "how")] H) (k : ∀ H', D.rt (.bl true) H') :
    ∃ t, PSs (XL P w K mg base T.a_law cdv A outer s H0 E) ((defBody s_law).drop 6) t ∧ t D [x0, x1, x2, x3, x4, x5, x6, x7, some (.ref hl), x9] H := by
  obtain ⟨ts, hts⟩ : ∃ ts : List (Addr × Addr × Str), ts = ([(a1, T.c_BadKind, ("name" : Str)), (a2, T.c_BadKind, ("kind" : Str)), (a3, T.c_BadMove, ("move" : Str)), (a4, T.c_BadWords, ("how" : Str))] : List (Addr × Addr × Str)) := ⟨_, rfl⟩
  have n4 : ts.length = 4 := by rw [hts]; rfl
  have hm : ∀ t ∈ ts, ∃ j, BMW T t.2.1 j := fun t ht => by
    rw [hts] at ht
    simp only [List.mem_cons, List.not_mem_nil, or_false] at ht
    rcases ht with rfl | rfl | rfl | rfl
    · exact ⟨2, .inl ⟨rfl, rfl⟩⟩
    · exact ⟨2, .inl ⟨rfl, rfl⟩⟩
    · exact ⟨5, .inr (.inl ⟨rfl, rfl⟩)⟩
    · exact ⟨8, .inr (.inr ⟨rfl, rfl⟩)⟩
  have hn : ∀ (i : Nat) t, ts[i]? = some t → BMW T t.2.1 ([2, 2, 5, 8].getD i 0) := fun i t ht => by
    rw [hts] at ht
    match i, ht with
    | 0, ht => cases ht; exact .inl ⟨rfl, rfl⟩
    | 1, ht => cases ht; exact .inl ⟨rfl, rfl⟩
    | 2, ht => cases ht; exact .inr (.inl ⟨rfl, rfl⟩)
    | 3, ht => cases ht; exact .inr (.inr ⟨rfl, rfl⟩)
    | n + 4, ht => cases ht
  rw [← hts] at j
  obtain ⟨_, hat, hex⟩ := j
  refine ⟨_, (pss_cons (ps_setLc (i := 9) (own := [("error", 6)]) (g := (gName 6)) rfl sc_law.nd rfl rfl (sw_true rfl rfl rfl (by decide +kernel)) (pi_list (pv 8)) (blkOk_by (N := n_law) (sc := defScope s_law) (by decide +kernel)) (fun _ _ _ _ _ => (pg_name (i := 6) sc_law.nd rfl (Or.inl rfl))) (fun _ _ _ _ _ => pts_one (pt_val (pe_callB (r := rIsVT K) call_isVT (by rfl) T.z_isinstance (by decide +kernel) (pa_cons (pv 6) (pa_cons (pe_tup (pa_cons (pe_glob (v := .ref T.c_BadKind) (by rfl) T.m_BadKind rfl) (pa_cons (pe_glob (v := .ref T.c_BadMove) (by rfl) T.m_BadMove rfl) (pa_cons (pe_glob (v := .ref T.c_BadWords) (by rfl) T.m_BadWords rfl) pa_nil)))) pa_nil))))) (fun _ _ _ _ _ => (pe_fvK (K := K) rfl (pv 6))))
      (pss_one (ps_ret (pe_and (pe_cmpR (op_eqD hr.units) (pv 9) (pe_lst (pa_cons pe_str (pa_cons pe_str (pa_cons pe_str (pa_cons pe_str pa_nil))))) (nomark _)) (pe_one (pe_cmpR (op_eqD hr.units) (pe_lc (own := [("error", 6)]) (g := (gName 6)) rfl sc_law.nd (pi_list (pv 8)) (blkOk_by (N := n_law) (sc := defScope s_law) (by decide +kernel)) (fun _ _ _ _ _ => (pg_name (i := 6) sc_law.nd rfl (Or.inl rfl))) (fun _ _ _ _ _ => pts_nil) (fun _ _ _ _ _ => (pe_indexK (K := K) rfl (pe_call (O__law_flags T) (hr.mono (by decide)) (by rfl) T.m__law_flags T.F__law_flags.kp T.b__law_flags .nil pass0 (pa_cons (pv 6) pa_nil)) (pa_cons pe_bl pa_nil)))) (pe_lst (pa_cons pe_int (pa_cons pe_int (pa_cons pe_int (pa_cons pe_int pa_nil))))) (nomark _))))))), ?_⟩
  have item : ∀ {i : Nat} {z : V}, (ts.map fun t => V.ref t.1)[i]? = some z → ∃ t, ts[i]? = some t ∧ z = .ref t.1 := fun {i z} h => by
    rw [List.getElem?_map] at h
    cases e : ts[i]? with
    | none => rw [e] at h; cases h
    | some t => rw [e] at h; exact ⟨t, rfl, (Option.some.inj h).symm⟩
  refine ⟨_, rfl, hl, rfl, ⟨_, .of hat⟩, fun D1 hD => ?_⟩
  refine lc_it (walk_list (K := K) (a := hl) (xs := ts.map fun t => V.ref t.1)) (fun i H' => H' D1 = some (.lst ((ts.take i).map fun t => V.str t.2.2)) ∧ Same H H') ⟨upd_same, same_new hD⟩ (fun i H' _ h => .of (h.2 _ _ hat)) ?_ ?_
  · rintro i z H2 H2' hi ⟨h1, h2⟩ ⟨rfl, hz⟩
    obtain ⟨t, ht, rfl⟩ := item hz
    have hi4 : i < 4 := by
      have : i < ts.length := (List.getElem?_eq_some_iff.mp ht).1
      omega
    obtain ⟨jj, hj⟩ := hm t (List.mem_of_getElem? ht)
    obtain ⟨f1, f2, f3, f4, f5, f6⟩ := hj.facts
    have ex2 := (hex t (List.mem_of_getElem? ht)).same h2
    refine ⟨rfl, ?_⟩
    refine ⟨_, rfl, szl rfl, fun p hp => ?_⟩
    have ex3 := ex2.same (same_new hp (o := .tup [.ref T.c_BadKind, .ref T.c_BadMove, .ref T.c_BadWords]))
    refine ⟨t.1, t.2.1, _, p, _, _, true, rfl, ex3, f5, upd_same, .cons (.own _) (.cons (.own _) (.cons (.own _) .nil)), f6, _, rfl, iteT ?_⟩
    refine ⟨_, rfl, t.1, t.2.1, _, _, rfl, f3, f4, ex3, rfl, _, by rw [upd_ne (ne_of_none h1 hp)]; exact h1, ?_, ?_, ?_⟩
    · rw [List.length_map]; exact szs (Nat.lt_of_le_of_lt (List.length_take_le ..) (by omega))
    · rw [upd_same, List.take_add_one, ht, List.map_append]; rfl
    · exact same_own (h2.trans (same_new hp)) hD
  rintro H2 ⟨h1, h2⟩
  rw [List.length_map, List.take_length] at h1
  -- heard == [..]
  refine ⟨_, rfl, szl rfl, fun p hp => ?_⟩
  have h1' : upd H2 p (.lst [.str "name", .str "kind", .str "move", .str "how"]) D1 = some (.lst [.str "name", .str "kind", .str "move", .str "how"]) := by
    rw [upd_ne (ne_of_none h1 hp), h1, hts]; rfl
  have h3 := h2.trans (same_new hp (o := .lst [.str "name", .str "kind", .str "move", .str "how"]))
  refine ⟨.list [.str "name", .str "kind", .str "move", .str "how"], .list [.str "name", .str "kind", .str "move", .str "how"], .lst (.of h1') (.cons (.str _) (.cons (.str _) (.cons (.str _) (.cons (.str _) .nil)))), .lst (.of upd_same) (.cons (.str _) (.cons (.str _) (.cons (.str _) (.cons (.str _) .nil)))), by decide +kernel, by decide +kernel, _, rfl, ?_⟩
  rw [show PyData.eqv (.list [.str "name", .str "kind", .str "move", .str "how"]) (.list [.str "name", .str "kind", .str "move", .str "how"]) = true by decide +kernel]
  refine iteT ?_
  generalize upd H2 p _ = H3 at h3 ⊢
  clear h1' h1 h2 hp hD
  -- the numbers of the classes
  refine ⟨_, rfl, hl, rfl, ⟨_, .of (h3 _ _ hat)⟩, fun D2 hD2 => ?_⟩
  refine lc_it (walk_list (K := K) (a := hl) (xs := ts.map fun t => V.ref t.1)) (fun i H' => H' D2 = some (.lst ((([2, 2, 5, 8] : List Int).take i).map V.int)) ∧ Same H3 H') ⟨upd_same, same_new hD2⟩ (fun i H' _ h => .of (h.2 _ _ (h3 _ _ hat))) ?_ ?_
  · rintro i z H4 H4' hi ⟨q1, q2⟩ ⟨rfl, hz⟩
    obtain ⟨t, ht, rfl⟩ := item hz
    have hi4 : i < 4 := by
      have : i < ts.length := (List.getElem?_eq_some_iff.mp ht).1
      omega
    have hj := hn i t ht
    obtain ⟨jj, ej⟩ : ∃ jj, jj = [2, 2, 5, 8].getD i 0 := ⟨_, rfl⟩
    rw [← ej] at hj
    obtain ⟨f1, f2, f3, f4, f5, f6⟩ := hj.facts
    have ex2 := ((hex t (List.mem_of_getElem? ht)).same h3).same q2
    refine ⟨rfl, ?_⟩
    refine ⟨_, rfl, jj, t.1, t.2.1, _, rfl, f1, ex2, fun r H5 nr s5 lr => ?_⟩
    refine ⟨.inl ⟨rfl, _, .of lr⟩, r, _, .bl true, jj, .bl true, rfl, rfl, .of lr, rfl, flags_flat jj, flags_get f2, by decide, fun m z' hm e => ?_, _, s5 _ _ q1, ?_, ?_, ?_⟩
    · rw [flags_at (Nat.lt_trans hm f2) e, decide_eq_false (Nat.ne_of_lt hm)]; decide
    · rw [List.length_map]; exact szs (Nat.lt_of_le_of_lt (List.length_take_le ..) (by omega))
    · rw [upd_same, List.take_add_one, List.map_append]
      have : ([2, 2, 5, 8] : List Int)[i]? = some ((jj : Nat) : Int) := by
        rw [ej]
        match i, hi4 with
        | 0, _ => rfl
        | 1, _ => rfl
        | 2, _ => rfl
        | 3, _ => rfl
      rw [this]; rfl
    · exact same_own (q2.trans s5) hD2
  rintro H4 ⟨q1, q2⟩
  have e4 : (ts.map fun t => V.ref t.1).length = 4 := by rw [List.length_map, n4]
  rw [e4] at q1
  refine ⟨szl rfl, fun p hp => ?_⟩
  refine ⟨.list ([2, 2, 5, 8].map .int), .list ([2, 2, 5, 8].map .int), .lst (.of (by rw [upd_ne (ne_of_none q1 hp)]; exact q1)) (dp_ints [2, 2, 5, 8]), .lst (.of upd_same) (dp_ints [2, 2, 5, 8]), by decide +kernel, by decide +kernel, ?_⟩
  rw [show PyData.eqv (.list ([2, 2, 5, 8].map .int)) (.list ([2, 2, 5, 8].map .int)) = true by decide +kernel]
  exact k _
end
end K0

set_option Elab.async false
set_option linter.all false
set_option maxRecDepth 100000
set_option maxHeartbeats 16000000
namespace K0
open PySem PySem.Spec PyProof.Rows L2 Gs
theorem tabs_b {tabs : List (Addr × Str)} {c l : Addr} {n : Nat} {H H' : Hp} (t : LamX.Tabs tabs H) (b : Bag c l n H) (e : Gs.Ext c H H') : LamX.Tabs tabs H' := ExtL.tabs t fun q o h nl => e q o (fun z => by
  obtain ⟨ns, pt, rest, h1, _⟩ := b
  rw [z, h1] at h; cases h; exact nl _ rfl) h
theorem fl_due {α : Type} (x y : α) : ∀ i, i < 17 → fl x y i = if i < 12 then [x] else if i < 15 then [x, y] else []
  | 0, _ => rfl
  | 1, _ => rfl
  | 2, _ => rfl
  | 3, _ => rfl
  | 4, _ => rfl
  | 5, _ => rfl
  | 6, _ => rfl
  | 7, _ => rfl
  | 8, _ => rfl
  | 9, _ => rfl
  | 10, _ => rfl
  | 11, _ => rfl
  | 12, _ => rfl
  | 13, _ => rfl
  | 14, _ => rfl
  | 15, _ => rfl
  | 16, _ => rfl
  | n + 17, h => absurd h (by omega)
theorem dp_bools {K : PySem.W.Frag} {H : Hp} : ∀ bs : List Bool, DpAll K H (bs.map V.bl) (bs.map PyData.bool)
  | [] => .nil
  | b :: bs => .cons (.bl b) (dp_bools bs)
theorem can_bools : ∀ bs : List Bool, PyData.canLayAll0 (bs.map PyData.bool) = true
  | [] => rfl
  | b :: bs => by
    show (PyData.canLay0 (.bool b) && PyData.canLayAll0 (bs.map PyData.bool)) = true
    rw [can_bools bs]; rfl
theorem depth_bools : ∀ bs : List Bool, PyData.depthAll (bs.map PyData.bool) ≤ 1
  | [] => by decide
  | b :: bs => by
    have := depth_bools bs
    simp only [List.map_cons, PyData.depthAll, PyData.depth]
    omega
theorem shaped_bools (bs : List Bool) : SeqAt.shaped (.list (bs.map PyData.bool)) = true := by
  unfold SeqAt.shaped
  have h := depth_bools bs
  have e : PyData.canLay0 (.list (bs.map PyData.bool)) = true := by
    simp only [PyData.canLay0]; exact can_bools bs
  rw [e, Bool.true_and, decide_eq_true_eq]
  simp only [PyData.depth]
  omega
theorem eqv_bools (bs : List Bool) : PyData.eqv (.list (bs.map PyData.bool)) (.list (bs.map PyData.bool)) = true := by
  have key : ∀ bs : List Bool, PyData.eqvAll (bs.map PyData.bool) (bs.map PyData.bool) = true := fun bs => by
    induction bs with
    | nil => simp [PyData.eqvAll]
    | cons b bs ih => rw [List.map_cons, PyData.eqvAll, ih]; simp [PyData.eqv]
  rw [PyData.eqv]; exact key bs
section
variable {P : Program} {w : World} {K : PySem.W.Frag} {mg : Str → Option Value} {base : Heap}
def numsE (i : Nat) : List Bool := (List.range 17).map fun k => decide (k = i)
theorem numsE_bl (i : Nat) : ((List.range 17).map fun k => V.bl (decide (k = i))) = (numsE i).map V.bl := by unfold numsE; rw [List.map_map]; rfl
theorem lw0 (T : Tx K mg) {cdv : Value} {A : Around} {outer : List Env} {s : Shared} {H0 : Hp} {E : XK} {D : Ends} {rest : TS} {a c l P' : Addr} {H : Hp}
    (hr : Room 13 (A.deeper (envOfC "law" (defScope s_law) s.heap.objs.size T.a_law cdv))) (hg : (A.deeper (envOfC "law" (defScope s_law) s.heap.objs.size T.a_law cdv)).guards = some [])
    (HT : PSs (XL P w K mg base T.a_law cdv A outer s H0 E) ((defBody s_law).drop 2) rest) (hb : Bag c l 0 H) (ht : LamX.Tabs [(P', lamQ)] H)
    (go : ∀ t2 v t4 t5 t6 t7 H', LamX.Tabs [(P', lamQ)] H' → rest D [some (.ref a), some (.ref c), t2, some v, t4, t5, t6, t7, none, none] H') :
    ∃ t, PSs (XL P w K mg base T.a_law cdv A outer s H0 E) ((defBody s_law).drop 1) t ∧ t D [some (.ref a), some (.ref c), none, none, none, none, none, none, none, none] H := by
  refine ⟨_, (pss_cons (ps_for PassesOwn.never rfl (pi_range1 (by rfl) T.z_range (pa_cons pe_int pa_nil)) (pg_name (i := 2) sc_law.nd rfl (Or.inr rfl)) (pss_cons (ps_asg (pe_tup (pa_cons (pg_call (G__law_value T) (hr.mono (by decide)) hg (by rfl) T.m__law_value T.F__law_value.kp T.b__law_value .nil pass0 (pa_cons (pv 1) pa_nil)) (pa_cons (pg_call (G__law_value T) (hr.mono (by decide)) hg (by rfl) T.m__law_value T.F__law_value.kp T.b__law_value .nil pass0 (pa_cons (pv 1) pa_nil)) pa_nil))) (pg_tup rfl (pgs_cons (pg_name (i := 3) sc_law.nd rfl (Or.inr rfl)) (pgs_cons (pg_name (i := 4) sc_law.nd rfl (Or.inl rfl)) pgs_nil))))
      (pss_cons (ps_set (i := 5) sc_law.nd rfl (Or.inl rfl) (pe_ifExp (pt_cmpR op_lt (pv 2) pe_int (nomark _)) (pe_lst (pa_cons (pv 3) pa_nil)) (pe_ifExp (pt_cmpR op_lt (pv 2) pe_int (nomark _)) (pe_lst (pa_cons (pv 3) (pa_cons (pv 4) pa_nil))) (pe_lst pa_nil))))
      (pss_one (ps_for PassesOwn.never rfl (pi_tup (pe_tup (pa_cons (pe_call (O__law_by_place T) (hr.mono (by decide)) (by rfl) T.m__law_by_place T.F__law_by_place.kp T.b__law_by_place .nil pass0 (pa_cons (pv 2) (pa_cons (pv 3) (pa_cons (pv 4) pa_nil)))) (pa_cons (pe_call (O__law_by_name T) (hr.mono (by decide)) (by rfl) T.m__law_by_name T.F__law_by_name.kp T.b__law_by_name .nil pass0 (pa_cons (pv 2) (pa_cons (pv 3) (pa_cons (pv 4) pa_nil)))) pa_nil)))) (pg_name (i := 6) sc_law.nd rfl (Or.inl rfl)) (pss_cons (ps_if (PW.pt (pw_or (pt_cmpR op_ne (pe_callB (call_repr hr hg) (by rfl) T.z_repr (by decide +kernel) (pa_cons (pe_call (O__law_fields T) (hr.mono (by decide)) (by rfl) T.m__law_fields T.F__law_fields.kp T.b__law_fields .nil pass0 (pa_cons (pv 2) (pa_cons (pv 6) pa_nil))) pa_nil)) (pe_callB (call_repr hr hg) (by rfl) T.z_repr (by decide +kernel) (pa_cons (pv 5) pa_nil)) (nomark _)) (pw_or1 (pt_cmpR (op_neD hr.units) (pe_call (O__law_flags T) (hr.mono (by decide)) (by rfl) T.m__law_flags T.F__law_flags.kp T.b__law_flags .nil pass0 (pa_cons (pv 6) pa_nil)) (pe_lc (own := [("place", 7)]) (g := (gName 7)) rfl sc_law.nd (pi_range1 (by rfl) T.z_range (pa_cons pe_int pa_nil)) (blkOk_by (N := n_law) (sc := defScope s_law) (by decide +kernel)) (fun _ _ _ _ _ => (pg_name (i := 7) sc_law.nd rfl (Or.inl rfl))) (fun _ _ _ _ _ => pts_nil) (fun _ _ _ _ _ => (pe_cmpR op_eq (pv 7) (pv 2) (nomark _)))) (nomark _))))) (pss_one (ps_ret pe_bl)) pss_nil)
      (pss_one (ps_if (PW.pt (pw_or (pt_val (pe_call (O__law_is_far T) (hr.mono (by decide)) (by rfl) T.m__law_is_far T.F__law_is_far.kp T.b__law_is_far .nil pass0 (pa_cons (pv 6) pa_nil))) (pw_or (pt_not (pt_val (pe_callB call_isV (by rfl) T.z_isinstance (by decide +kernel) (pa_cons (pv 6) (pa_cons (pe_glob (v := .ref T.c_FieldError) (by rfl) T.m_FieldError rfl) pa_nil))))) (pw_or1 (pt_not (pt_val (pe_callB call_isV (by rfl) T.z_isinstance (by decide +kernel) (pa_cons (pv 6) (pa_cons (pe_bltn (v := .ty "ValueError") (u := .type "ValueError") (by rfl) T.z_ValueError (by decide +kernel) rfl) pa_nil))))))))) (pss_one (ps_ret pe_bl)) pss_nil))))))))
      HT), ?_⟩
  refine ⟨17, rfl, by decide, by decide, ?_⟩
  refine for_it (walk_range (lo := 0) (n := 17)) (fun i σ H' => (∃ t2 t3 t4 t5 t6 t7 : Option V, σ = [some (.ref a), some (.ref c), t2, t3, t4, t5, t6, t7, none, none] ∧ (0 < i → ∃ v, t3 = some v)) ∧ Bag c l (10 * i) H' ∧ LamX.Tabs [(P', lamQ)] H')
    ⟨⟨_, _, _, _, _, _, rfl, fun h => absurd h (Nat.lt_irrefl 0)⟩, hb, ht⟩ (fun _ _ _ _ _ => trivial) ?_ ?_
  rotate_left
  · rintro σ H2 ⟨⟨t2, t3, t4, t5, t6, t7, rfl, h3⟩, _, q2⟩
    obtain ⟨v, rfl⟩ := h3 (by decide)
    exact go t2 v t4 t5 t6 t7 H2 q2
  clear hb ht go H
  rintro i x σ H2 H2' hi ⟨⟨t2, t3, t4, t5, t6, t7, rfl, _⟩, b2, q2⟩ ⟨rfl, rfl⟩
  have hi : i < 17 := hi
  dsimp only [gName]
  rw [Int.zero_add]
  -- one, other
  refine ⟨_, rfl, c, l, _, rfl, b2, by omega, fun v1 d1 H3 hv1 g1 b3 x3 => ?_⟩
  refine ⟨_, rfl, c, l, _, rfl, b3, by omega, fun v2 d2 H4 hv2 g2 b4 x4 => ?_⟩
  refine ⟨szl rfl, fun pt hpt => ?_⟩
  have q4 : LamX.Tabs [(P', lamQ)] H4 := tabs_b (tabs_b q2 b2 x3) b3 x4
  have hv1 := (hv1.up x4).up (Ext.new hpt (o := .tup [v1, v2]))
  have hv2 := hv2.up (Ext.new hpt (o := .tup [v1, v2]))
  have b5 := b4.new hpt (o := .tup [v1, v2])
  have q5 := q4.ext (same_new hpt (o := .tup [v1, v2]))
  have e5 : upd H4 pt (.tup [v1, v2]) pt = some (.tup [v1, v2]) := upd_same
  clear x3 x4 b2 b3 q2 q4
  generalize upd H4 pt _ = H5 at hv1 hv2 b5 q5 e5 ⊢
  refine ⟨pt, _, rfl, .of e5, rfl, ?_⟩
  clear e5 hpt b4
  -- due
  refine ⟨v1, _, rfl, v2, _, rfl, rfl, ?_⟩
  dsimp only [List.set]
  refine seq_cut (fun v H' => ∃ p, v = .ref p ∧ p ≠ c ∧ Same H5 H' ∧ H' p = some (.lst (fl v1 v2 i))) (fun Q' hq => ?_) ?_
  · have fin : ∀ p, H5 p = none → Q' (.ref p) (upd H5 p (.lst (fl v1 v2 i))) := fun p hp => hq _ _ ⟨p, rfl, b5.ne hp, same_new hp, upd_same⟩
    rw [fl_due v1 v2 i hi] at fin
    refine ⟨_, rfl, _, _, rfl, rfl, _, rfl, ?_⟩
    refine iteB (fun e => ?_) (fun e => ?_)
    · have e : i < 12 := by have := of_decide_eq_true e; omega
      rw [if_pos e] at fin
      exact ⟨_, rfl, szl rfl, fin⟩
    · have e : ¬ i < 12 := by have := of_decide_eq_false e; omega
      rw [if_neg e] at fin
      refine ⟨_, rfl, _, _, rfl, rfl, _, rfl, ?_⟩
      refine iteB (fun e => ?_) (fun e => ?_)
      · have e : i < 15 := by have := of_decide_eq_true e; omega
        rw [if_pos e] at fin
        exact ⟨_, rfl, _, rfl, szl rfl, fin⟩
      · have e : ¬ i < 15 := by have := of_decide_eq_false e; omega
        rw [if_neg e] at fin
        exact ⟨szl rfl, fin⟩
  rintro _ H6 ⟨pd, rfl, npd, s6, l6⟩
  have hv1 := hv1.up (Ext.of s6)
  have hv2 := hv2.up (Ext.of s6)
  have b6 := b5.same s6
  have q6 := q5.ext s6
  clear s6 b5 q5
  -- the two errors
  refine ⟨_, rfl, _, rfl, _, rfl, i, v1, v2, rfl, hi, fun a1 H7 e1 s7 => ?_⟩
  refine ⟨_, rfl, _, rfl, _, rfl, i, v1, v2, rfl, hi, fun a2 H8 e2 s8 => ?_⟩
  refine ⟨szl rfl, fun pe hpe => ?_⟩
  have s69 := (s7.trans s8).trans (same_new hpe (o := .tup [.ref a1, .ref a2]))
  have E1 := (e1.same s8).same (same_new hpe (o := .tup [.ref a1, .ref a2]))
  have E2 := e2.same (same_new hpe (o := .tup [.ref a1, .ref a2]))
  have l9 : upd H8 pe (.tup [.ref a1, .ref a2]) pe = some (.tup [.ref a1, .ref a2]) := upd_same
  clear e1 e2 s7
  generalize upd H8 pe _ = H9 at s69 E1 E2 l9 ⊢
  clear hpe s8
  have hv1 := hv1.up (Ext.of s69)
  have hv2 := hv2.up (Ext.of s69)
  have b9 := b6.same s69
  have q9 := q6.ext s69
  have l6 := s69 _ _ l6
  clear s69 b6 q6
  refine ⟨pe, rfl, ⟨_, .of l9⟩, ?_⟩
  refine for_it (walk_tup (K := K) (a := pe) (xs := [.ref a1, .ref a2])) (fun j σ H' => (∃ t6 t7 : Option V, σ = [some (.ref a), some (.ref c), some (.int i), some v1, some v2, some (.ref pd), t6, t7, none, none]) ∧ Same H9 H') ⟨⟨_, _, rfl⟩, Same.refl _⟩ (fun j σ H' _ h => .of (h.2 _ _ l9)) ?_ ?_
  rotate_left
  · rintro σ H10 ⟨⟨t6', t7', rfl⟩, s10⟩
    exact ⟨⟨_, _, _, _, _, _, rfl, fun _ => ⟨_, rfl⟩⟩, (b9.mono (by omega)).same s10, q9.ext s10⟩
  rintro j x σ H10 H10' hj ⟨⟨t6', t7', rfl⟩, s10⟩ ⟨rfl, hx⟩
  obtain ⟨ae, rfl, ⟨C, hC, hE⟩⟩ : ∃ ae, x = .ref ae ∧ ErrI T.cs i v1 v2 H10' ae := by
    match j, hx with
    | 0, hx => cases hx; exact ⟨a1, rfl, E1.same s10⟩
    | 1, hx => cases hx; exact ⟨a2, rfl, E2.same s10⟩
    | n + 2, hx => cases hx
  clear E1 E2 hx l9
  dsimp only [gName]
  have hv1 := hv1.up (Ext.of s10)
  have hv2 := hv2.up (Ext.of s10)
  have hb := b9.same s10
  have l6 := s10 _ _ l6
  have fine : Fine 4 6002 (.list (fl d1 d2 i)) := by
    rcases fl_cases i hi with e | e | e
    · rw [e]; exact (Fine.list (fine1 g1)).mono (by decide) (by decide)
    · rw [e]; exact (Fine.list (fine2 g1 g2)).mono (by decide) (by decide)
    · rw [e]; exact (Fine.list (FineS.nil (k := 0) (n := 0))).mono (by decide) (by decide)
  have dvs : ∀ H', Same H10' H' → DVs K c H' (fl v1 v2 i) (fl d1 d2 i) := fun H' s' => by
    rcases fl_cases i hi with e | e | e
    · rw [e, e]; exact .cons (hv1.up (Ext.of s')) .nil
    · rw [e, e]; exact .cons (hv1.up (Ext.of s')) (.cons (hv2.up (Ext.of s')) .nil)
    · rw [e, e]; exact .nil
  -- repr(fields) != repr(due)
  refine ⟨_, rfl, _, rfl, i, ae, v1, v2, rfl, hi, ⟨C, hC, hE⟩, fun p H11 np s11 l11 => ?_⟩
  have np' := hb.ne np
  refine ⟨c, p, _, rfl, .lst np' (.of l11) (dvs _ s11), fine.sh, Nat.le_trans fine.dp (by decide), fine.fits (by decide), ?_⟩
  refine ⟨_, rfl, c, pd, _, rfl, .lst npd (.of (s11 _ _ l6)) (dvs _ s11), fine.sh, Nat.le_trans fine.dp (by decide), fine.fits (by decide), rfl, _, rfl, ?_⟩
  rw [decide_eq_true rfl]
  refine iteF ?_
  have hE := hE.same s11
  -- flags != [..]
  refine ⟨_, rfl, i, ae, C, _, rfl, hC, hE, fun pf H12 nf s12 l12 => ?_⟩
  rw [numsE_bl] at l12
  refine ⟨17, rfl, by decide, by decide, fun Dd hD => ?_⟩
  refine lc_it (walk_range (lo := 0) (n := 17)) (fun m H' => H' Dd = some (.lst (((numsE i).take m).map V.bl)) ∧ Same H12 H') ⟨upd_same, same_new hD⟩ (fun _ _ _ _ => trivial) ?_ ?_
  · rintro m y H13 H13' hm ⟨h1, h2⟩ ⟨rfl, rfl⟩
    have hm : m < 17 := hm
    refine ⟨rfl, _, rfl, _, rfl, rfl, _, h1, ?_, ?_, ?_⟩
    · rw [List.length_map]; exact szs (Nat.lt_of_le_of_lt (List.length_take_le ..) (by omega))
    · have : (numsE i)[m]? = some (decide (m = i)) := by
        unfold numsE
        rw [List.getElem?_map, List.getElem?_range hm]; rfl
      rw [upd_same, List.take_add_one, this, List.map_append]
      have e : decide (V.int ((0 : Int) + (m : Int)) = V.int (i : Int)) = decide (m = i) := by
        rw [Int.zero_add]; exact decide_eq_decide.mpr ⟨fun h => by have := V.int.inj h; omega, fun h => by rw [h]⟩
      rw [← e]; rfl
    · exact same_own h2 hD
  rintro H13 ⟨h1, h2⟩
  have n17 : (numsE i).length = 17 := by unfold numsE; rw [List.length_map, List.length_range]
  rw [show (numsE i).take 17 = numsE i from List.take_of_length_le (by rw [n17]; exact Nat.le_refl _)] at h1
  refine ⟨.list ((numsE i).map .bool), .list ((numsE i).map .bool), .lst (.of (h2 _ _ l12)) (dp_bools _), .lst (.of h1) (dp_bools _), shaped_bools _, shaped_bools _, _, rfl, ?_⟩
  rw [eqv_bools]
  refine iteF ?_
  have s13 := (s11.trans s12).trans h2
  have hE := (hE.same s12).same h2
  clear h1 h2 l11 l12 s11 s12 hD nf np n17
  -- far, FieldError, ValueError
  refine ⟨_, rfl, ae, C, _, rfl, cs_mem hC, hE, fun H14 s14 => ⟨_, rfl, iteF ?_⟩⟩
  have hE := hE.same s14
  refine ⟨_, rfl, ae, C, _, _, _, true, rfl, hE, T.xc C (cs_mem hC), .own _, T.kF C (cs_mem hC), _, rfl, iteF ?_⟩
  refine ⟨_, rfl, ae, C, _, _, _, true, rfl, hE, T.xc C (cs_mem hC), .ty _, T.kV C (cs_mem hC), _, rfl, iteF ?_⟩
  exact ⟨⟨_, _, rfl⟩, (s10.trans s13).trans s14⟩
end
end K0

set_option Elab.async false
set_option linter.all false
set_option maxRecDepth 100000
set_option maxHeartbeats 16000000
namespace K0
open PySem PySem.Spec PyProof.Rows L2 Gs
section
variable {P : Program} {w : World} {K : PySem.W.Frag} {mg : Str → Option Value} {base : Heap} {CX : CXT} {k : Nat} {f : Addr} {fd : FuncData} {ps : List Str} {sp : Sp}
/-- a def without defaults, entered with no guard; its code object is told -/
theorem fun_okCG {x qual : Str} {st : Stmt} {N : List Str} (F : Fun K x qual st f fd) (S : FnScope N ps (defScope st))
    (len : ∀ vs H Q E, sp vs H Q E → vs.length = ps.length)
    (hb : ∀ (cdv : Value), fd.code = cdv → ∀ (A : Around) (outer : List Env) (s : Shared) (H : Hp) (vs : List V) (Q : VK) (E : XK),
      Room k (A.deeper (envOfC qual (defScope st) s.heap.objs.size f cdv)) → (A.deeper (envOfC qual (defScope st) s.heap.objs.size f cdv)).guards = some [] → sp vs H Q E →
      ∃ t, PSs (cxOf CX0 P w K mg base N qual (defScope st) f cdv A outer s H E).nox (defBody st) t ∧
        t { nx := fun _ H' => Q .non H', rt := Q } (L2.start N vs) H) : FnG P w K mg base CX0 (k + 1) f fd ps sp := by
  obtain ⟨oc, od, kV, doc, pm, an, cdv, ct, osl, rfl, lk, hcd⟩ := F.ex
  refine fn_ofG lk hcd S len (fun A outer s H vs Q E hr hg hsp => ?_)
  obtain ⟨t, h, q⟩ := hb cdv rfl A outer s H vs Q E hr hg hsp
  exact ⟨t, h.nox, q⟩
end
section
variable {P : Program} {w : World} {K : PySem.W.Frag} {mg : Str → Option Value} {base : Heap}
def spLaw (K : PySem.W.Frag) (P' : Addr) : Sp := fun vs H Q _ => ∃ (a : Addr) (ns : List Int), vs = [.ref a] ∧ SqL K H a (ns.map V.int) ∧ ns.length ≤ 63 ∧ LamX.Tabs [(P', lamQ)] H ∧ ∀ H', Q (.bl true) H'
theorem G_law (T : Tx K mg) {cc P' : Addr} (TB : LamX.TabB base mg cc P') (hcc : T.d_law.code = .ref cc) : FnG P w K mg base CX0 14 T.a_law T.d_law ["script"] (spLaw K P') := by
  refine fun_okCG T.F_law sc_law (fun vs H Q E h => ?_) (fun cdv hcd A outer s H vs Q E hr hg h => ?_)
  · obtain ⟨a, ns, rfl, _⟩ := h; rfl
  obtain ⟨a, ns, rfl, hS, hlen, ht, k⟩ := h
  have hcode : cdv = .ref cc := hcd.symm.trans hcc
  refine ⟨_, (pss_cons (ps_set (i := 1) sc_law.nd rfl (Or.inl rfl) (pg_call (G__law_pail T) (hr.mono (by decide)) hg (by rfl) T.m__law_pail T.F__law_pail.kp T.b__law_pail .nil pass0 (pa_cons (pv 0) pa_nil)))
      pss_any), ?_⟩
  refine ⟨_, rfl, a, ns, rfl, hS, hlen, fun c l H1 hc hl x1 b1 => ?_⟩
  have t1 : LamX.Tabs [(P', lamQ)] H1 := ExtL.tabs ht fun b o h _ => x1 b o (fun z => by rw [z, hc] at h; cases h) h
  refine lw0 T hr hg pss_any b1 t1 fun t2 v t4 t5 t6 t7 H2 q2 => ?_
  refine lw1 T hr hg TB hcode (by simp) (fun p hp _ => by rw [List.mem_singleton.mp hp]) pss_any q2 fun hl a1 a2 a3 a4 H3 j3 => ?_
  exact lw2 T hr hg j3 fun H4 => k H4
end
end K0

set_option Elab.async false
set_option linter.all false
set_option maxRecDepth 100000
set_option maxHeartbeats 4000000
namespace K0
open PySem PySem.Spec PyProof.Rows L2 Gs
section
variable {K : PySem.W.Frag} {w : World}
theorem isFn_of {f : Addr} (h : PySem.W.typeIn K (.ref f) = some (.type "function")) : PySem.W.isFn K (.ref f) = true := by
  unfold PySem.W.isFn; rw [h]; rfl
theorem cls_by {S : Addr} {t : Value} {b : Bool} (h2 : PySem.W.isClsIn K S = true) (h3 : PySem.W.typeIn K (.ref S) = some (.type "type")) (h4 : PySem.W.subIn K t (.ref S) = some b) : PySem.W.kitCls K t (.ref S) = some b := by
  have h2' : (PySem.W.clsIn K S).isSome = true := h2
  show (if ((PySem.W.clsIn K S).isSome && PySem.W.typeIn K (.ref S) == some (.type "type")) = true then PySem.W.subIn K t (.ref S) else none) = some b
  rw [h2', h3]
  exact h4
theorem exm_by {C S : Addr} {b : Bool} (h1 : PySem.W.subIn K (.ref S) (.type "BaseException") = some true) (h2 : PySem.W.isClsIn K S = true) (h3 : PySem.W.typeIn K (.ref S) = some (.type "type")) (h4 : PySem.W.subIn K (.ref C) (.ref S) = some b) :
    PySem.W.exmOne K (.ref C) (.ref S) = some b := by
  have e1 : (PySem.W.subIn K (.ref S) (.type "BaseException") == some true) = true := by rw [h1] <;> rfl
  show (if (PySem.W.subIn K (.ref S) (.type "BaseException") == some true) = true then PySem.W.kitCls K (.ref C) (.ref S) else none) = some b
  rw [if_pos e1]
  exact cls_by h2 h3 h4
theorem kit_by {S : Addr} {t : String} {b : Bool} (h2 : PySem.W.isClsIn K S = true) (h3 : PySem.W.typeIn K (.ref S) = some (.type "type")) (h4 : PySem.W.subIn K (.type t) (.ref S) = some b) : PySem.W.kitOne K (.type t) (.ref S) = some b := by
  show (if ((Value.type t) == (Value.ref S)) = true then some true else PySem.W.kitCls K (.type t) (.ref S)) = some b
  rw [if_neg (by simp)]
  exact cls_by h2 h3 h4
def matB (K : PySem.W.Frag) (cs : List Addr) : Bool := cs.all fun a => cs.all fun b => decide (PySem.W.kitOne K (.ref b) (.ref a) = some (decide (a = b)))
def allB (K : PySem.W.Frag) (cs : List Addr) (c : Value) : Bool := cs.all fun a => decide (PySem.W.kitOne K (.ref a) c = some true)
def farB (K : PySem.W.Frag) (cs : List Addr) : Bool := cs.all fun a => decide (PySem.W.kitAny K (.ref a) [.type "LookupError", .type "TypeError", .type "ArithmeticError", .type "AttributeError", .type "RuntimeError"] = some false)
def xcB (K : PySem.W.Frag) (D : Addr) : Bool := decide (PySem.W.findIn K (.ref D) "__getattribute__" = some (some (.builtin "BaseException.__getattribute__"))) && (decide (PySem.W.findIn K (.ref D) "__getattr__" = some none) && (decide (PySem.W.subIn K (.ref D) (.type "BaseException") = some true) && (PySem.W.hasDictIn K D &&
  (decide (PySem.W.findIn K (.ref D) "__class__" = some (some (.builtin "object.__class__"))) && (decide (PySem.W.specialIn K (.builtin "object.__class__") "__get__" = some (some (.builtin "getset_descriptor.__get__"))) && (decide (PySem.W.takesIn K (.builtin "object.__class__") = some true) && decide (PySem.W.mroIn K D (.type "object") = some true)))))))
theorem mat_ok {cs : List Addr} (hn : cs.Nodup) (h : matB K cs = true) : ∀ (i j : Nat) (a b : Addr), cs[i]? = some a → cs[j]? = some b → PySem.W.kitOne K (.ref b) (.ref a) = some (decide (i = j)) := fun i j a b ha hb => by
  have e := of_decide_eq_true (List.all_eq_true.mp (List.all_eq_true.mp h a (List.mem_of_getElem? ha)) b (List.mem_of_getElem? hb))
  rw [e]
  have : decide (a = b) = decide (i = j) := decide_eq_decide.mpr ⟨fun z => by
    subst z
    obtain ⟨h1, e1⟩ := List.getElem?_eq_some_iff.mp ha
    obtain ⟨h2, e2⟩ := List.getElem?_eq_some_iff.mp hb
    have hp := List.pairwise_iff_getElem.mp hn
    rcases Nat.lt_trichotomy i j with h | h | h
    · exact absurd (e1.trans e2.symm) (hp i j h1 h2 h)
    · exact h
    · exact absurd (e2.trans e1.symm) (hp j i h2 h1 h), fun z => by
    subst z
    rw [ha] at hb; exact Option.some.inj hb⟩
  rw [this]
theorem all_ok {cs : List Addr} {c : Value} (h : allB K cs c = true) : ∀ a ∈ cs, PySem.W.kitOne K (.ref a) c = some true := fun a ha => of_decide_eq_true (List.all_eq_true.mp h a ha)
theorem far_ok {cs : List Addr} (h : farB K cs = true) : ∀ a ∈ cs, PySem.W.kitAny K (.ref a) [.type "LookupError", .type "TypeError", .type "ArithmeticError", .type "AttributeError", .type "RuntimeError"] = some false := fun a ha => of_decide_eq_true (List.all_eq_true.mp h a ha)
theorem xc_ok {cs : List Addr} (h : cs.all (xcB K) = true) : ∀ a ∈ cs, ExcC K a := fun a ha => by
  have e := List.all_eq_true.mp h a ha
  obtain ⟨h1, e⟩ := Bool.and_eq_true_iff.mp e
  obtain ⟨h2, e⟩ := Bool.and_eq_true_iff.mp e
  obtain ⟨h3, e⟩ := Bool.and_eq_true_iff.mp e
  obtain ⟨h4, e⟩ := Bool.and_eq_true_iff.mp e
  obtain ⟨h5, e⟩ := Bool.and_eq_true_iff.mp e
  obtain ⟨h6, e⟩ := Bool.and_eq_true_iff.mp e
  obtain ⟨h7, h8⟩ := Bool.and_eq_true_iff.mp e
  exact ⟨of_decide_eq_true h1, of_decide_eq_true h2, of_decide_eq_true h3, h4, of_decide_eq_true h5, of_decide_eq_true h6, of_decide_eq_true h7, of_decide_eq_true h8⟩
end
theorem seq_list {its : Array Value} {n : Nat} : Data.seq its n = Data.seq its.toList.toArray n := by simp
theorem all_mk {l : PySem.W.OpenLaw} {w : World} {K : PySem.W.Frag} {h : Heap} {mg : Str → Option Value} {fa : Addr} (X : K.In h) (G : h.Ns mainGlobals mg) (hfa : mg "law" = some (.ref fa))
    {cAKind : Addr} {cAFieldError : Addr} {nmFieldError qFieldError : Str} {NFieldError : Addr} {bsFieldError bmFieldError : List Value} {snFieldError : List Str} {subFieldError : List Value} {abFieldError : Bool} {colFieldError : Option Bool} {ddFieldError : Option Addr} {m0FieldError m1FieldError m2FieldError m3FieldError m5FieldError : Option Value} {cABadNumber : Addr} {nmBadNumber qBadNumber : Str} {NBadNumber : Addr} {bsBadNumber bmBadNumber : List Value} {snBadNumber : List Str} {subBadNumber : List Value} {abBadNumber : Bool} {colBadNumber : Option Bool} {ddBadNumber : Option Addr} {m0BadNumber m1BadNumber m2BadNumber m3BadNumber m5BadNumber : Option Value} {cABadSquare : Addr} {nmBadSquare qBadSquare : Str} {NBadSquare : Addr} {bsBadSquare bmBadSquare : List Value} {snBadSquare : List Str} {subBadSquare : List Value} {abBadSquare : Bool} {colBadSquare : Option Bool} {ddBadSquare : Option Addr} {m0BadSquare m1BadSquare m2BadSquare m3BadSquare m5BadSquare : Option Value} {cABadKind : Addr} {nmBadKind qBadKind : Str} {NBadKind : Addr} {bsBadKind bmBadKind : List Value} {snBadKind : List Str} {subBadKind : List Value} {abBadKind : Bool} {colBadKind : Option Bool} {ddBadKind : Option Addr} {m0BadKind m1BadKind m2BadKind m3BadKind m5BadKind : Option Value} {cABadGame : Addr} {nmBadGame qBadGame : Str} {NBadGame : Addr} {bsBadGame bmBadGame : List Value} {snBadGame : List Str} {subBadGame : List Value} {abBadGame : Bool} {colBadGame : Option Bool} {ddBadGame : Option Addr} {m0BadGame m1BadGame m2BadGame m3BadGame m5BadGame : Option Value} {cABadPosition : Addr} {nmBadPosition qBadPosition : Str} {NBadPosition : Addr} {bsBadPosition bmBadPosition : List Value} {snBadPosition : List Str} {subBadPosition : List Value} {abBadPosition : Bool} {colBadPosition : Option Bool} {ddBadPosition : Option Addr} {m0BadPosition m1BadPosition m2BadPosition m3BadPosition m5BadPosition : Option Value} {cABadMove : Addr} {nmBadMove qBadMove : Str} {NBadMove : Addr} {bsBadMove bmBadMove : List Value} {snBadMove : List Str} {subBadMove : List Value} {abBadMove : Bool} {colBadMove : Option Bool} {ddBadMove : Option Addr} {m0BadMove m1BadMove m2BadMove m3BadMove m5BadMove : Option Value} {cABadPlay : Addr} {nmBadPlay qBadPlay : Str} {NBadPlay : Addr} {bsBadPlay bmBadPlay : List Value} {snBadPlay : List Str} {subBadPlay : List Value} {abBadPlay : Bool} {colBadPlay : Option Bool} {ddBadPlay : Option Addr} {m0BadPlay m1BadPlay m2BadPlay m3BadPlay m5BadPlay : Option Value} {cABadPaper : Addr} {nmBadPaper qBadPaper : Str} {NBadPaper : Addr} {bsBadPaper bmBadPaper : List Value} {snBadPaper : List Str} {subBadPaper : List Value} {abBadPaper : Bool} {colBadPaper : Option Bool} {ddBadPaper : Option Addr} {m0BadPaper m1BadPaper m2BadPaper m3BadPaper m5BadPaper : Option Value} {cABadWords : Addr} {nmBadWords qBadWords : Str} {NBadWords : Addr} {bsBadWords bmBadWords : List Value} {snBadWords : List Str} {subBadWords : List Value} {abBadWords : Bool} {colBadWords : Option Bool} {ddBadWords : Option Addr} {m0BadWords m1BadWords m2BadWords m3BadWords m5BadWords : Option Value} {cAMisfit : Addr} {nmMisfit qMisfit : Str} {NMisfit : Addr} {bsMisfit bmMisfit : List Value} {snMisfit : List Str} {subMisfit : List Value} {abMisfit : Bool} {colMisfit : Option Bool} {ddMisfit : Option Addr} {m0Misfit m1Misfit m2Misfit m3Misfit m5Misfit : Option Value} {cANoName : Addr} {nmNoName qNoName : Str} {NNoName : Addr} {bsNoName bmNoName : List Value} {snNoName : List Str} {subNoName : List Value} {abNoName : Bool} {colNoName : Option Bool} {ddNoName : Option Addr} {m0NoName m1NoName m2NoName m3NoName m5NoName : Option Value} {cATwice : Addr} {nmTwice qTwice : Str} {NTwice : Addr} {bsTwice bmTwice : List Value} {snTwice : List Str} {subTwice : List Value} {abTwice : Bool} {colTwice : Option Bool} {ddTwice : Option Addr} {m0Twice m1Twice m2Twice m3Twice m5Twice : Option Value} {cATooMany : Addr} {nmTooMany qTooMany : Str} {NTooMany : Addr} {bsTooMany bmTooMany : List Value} {snTooMany : List Str} {subTooMany : List Value} {abTooMany : Bool} {colTooMany : Option Bool} {ddTooMany : Option Addr} {m0TooMany m1TooMany m2TooMany m3TooMany m5TooMany : Option Value} {cABadText : Addr} {nmBadText qBadText : Str} {NBadText : Addr} {bsBadText bmBadText : List Value} {snBadText : List Str} {subBadText : List Value} {abBadText : Bool} {colBadText : Option Bool} {ddBadText : Option Addr} {m0BadText m1BadText m2BadText m3BadText m5BadText : Option Value} {cABadLine : Addr} {nmBadLine qBadLine : Str} {NBadLine : Addr} {bsBadLine bmBadLine : List Value} {snBadLine : List Str} {subBadLine : List Value} {abBadLine : Bool} {colBadLine : Option Bool} {ddBadLine : Option Addr} {m0BadLine m1BadLine m2BadLine m3BadLine m5BadLine : Option Value} {cANothing : Addr} {nmNothing qNothing : Str} {NNothing : Addr} {bsNothing bmNothing : List Value} {snNothing : List Str} {subNothing : List Value} {abNothing : Bool} {colNothing : Option Bool} {ddNothing : Option Addr} {m0Nothing m1Nothing m2Nothing m3Nothing m5Nothing : Option Value} {cAOver : Addr} {nmOver qOver : Str} {NOver : Addr} {bsOver bmOver : List Value} {snOver : List Str} {subOver : List Value} {abOver : Bool} {colOver : Option Bool} {ddOver : Option Addr} {m0Over m1Over m2Over m3Over m5Over : Option Value} {f0 : Addr} {od0 an0 : Option Addr} {sl0 : Array (Option Value)} {oc0 kV0 dc0 pm0 ct0 : Value} {cd0 : Value} {f1 : Addr} {od1 an1 : Option Addr} {sl1 : Array (Option Value)} {oc1 kV1 dc1 pm1 ct1 : Value} {cd1 : Value} {f2 : Addr} {od2 an2 : Option Addr} {sl2 : Array (Option Value)} {oc2 kV2 dc2 pm2 ct2 : Value} {cd2 : Value} {f3 : Addr} {od3 an3 : Option Addr} {sl3 : Array (Option Value)} {oc3 kV3 dc3 pm3 ct3 : Value} {cd3 : Value} {f4 : Addr} {od4 an4 : Option Addr} {sl4 : Array (Option Value)} {oc4 kV4 dc4 pm4 ct4 : Value} {cd4 : Value} {f5 : Addr} {od5 an5 : Option Addr} {sl5 : Array (Option Value)} {oc5 kV5 dc5 pm5 ct5 : Value} {cd5 : Value} {f6 : Addr} {od6 an6 : Option Addr} {sl6 : Array (Option Value)} {oc6 kV6 dc6 pm6 ct6 : Value} {cd6 : Value} {f7 : Addr} {od7 an7 : Option Addr} {sl7 : Array (Option Value)} {oc7 kV7 dc7 pm7 ct7 : Value} {cd7 : Value} {f8 : Addr} {od8 an8 : Option Addr} {sl8 : Array (Option Value)} {oc8 kV8 dc8 pm8 ct8 : Value} {cd8 : Value} {f9 : Addr} {od9 an9 : Option Addr} {sl9 : Array (Option Value)} {oc9 kV9 dc9 pm9 ct9 : Value} {cd9 : Value} {f10 : Addr} {od10 an10 : Option Addr} {sl10 : Array (Option Value)} {oc10 kV10 dc10 pm10 ct10 : Value} {cd10 : Value} {f11 : Addr} {od11 an11 : Option Addr} {sl11 : Array (Option Value)} {oc11 kV11 dc11 pm11 ct11 : Value} {cd11 : Value} {f12 : Addr} {od12 an12 : Option Addr} {sl12 : Array (Option Value)} {oc12 kV12 dc12 pm12 ct12 : Value} {cd12 : Value} {f13 : Addr} {od13 an13 : Option Addr} {sl13 : Array (Option Value)} {oc13 kV13 dc13 pm13 ct13 : Value} {cd13 : Value} {f14 : Addr} {od14 an14 : Option Addr} {sl14 : Array (Option Value)} {oc14 kV14 dc14 pm14 ct14 : Value} {cd14 : Value} {f15 : Addr} {od15 an15 : Option Addr} {sl15 : Array (Option Value)} {oc15 kV15 dc15 pm15 ct15 : Value} {cd15 : Value} {f16 : Addr} {od16 an16 : Option Addr} {sl16 : Array (Option Value)} {oc16 kV16 dc16 pm16 ct16 : Value} {cd16 : Value} {f17 : Addr} {od17 an17 : Option Addr} {sl17 : Array (Option Value)} {oc17 kV17 dc17 pm17 ct17 : Value} {cd17 : Value} {f18 : Addr} {od18 an18 : Option Addr} {sl18 : Array (Option Value)} {oc18 kV18 dc18 pm18 ct18 : Value} {cd18 : Value} {f19 : Addr} {od19 an19 : Option Addr} {sl19 : Array (Option Value)} {oc19 kV19 dc19 pm19 ct19 : Value} {cd19 : Value} {f20 : Addr} {od20 an20 : Option Addr} {sl20 : Array (Option Value)} {oc20 kV20 dc20 pm20 ct20 : Value} {cd20 : Value} {f21 : Addr} {od21 an21 : Option Addr} {sl21 : Array (Option Value)} {oc21 kV21 dc21 pm21 ct21 : Value} {cd21 : Value} {f22 : Addr} {od22 an22 : Option Addr} {sl22 : Array (Option Value)} {oc22 kV22 dc22 pm22 ct22 : Value} {cd22 : Value} {dT22 : Addr} {dO22 : Option Addr} {dI22 : Array Value} {dN22 : Nat} {dS22 : Array (Option Value)} {eT : Addr} {f23 : Addr} {od23 an23 : Option Addr} {sl23 : Array (Option Value)} {oc23 kV23 dc23 pm23 ct23 : Value} {cd23 : Value} {f24 : Addr} {od24 an24 : Option Addr} {sl24 : Array (Option Value)} {oc24 kV24 dc24 pm24 ct24 : Value} {cd24 : Value} {dT24 : Addr} {dO24 : Option Addr} {dI24 : Array Value} {dN24 : Nat} {dS24 : Array (Option Value)} {f25 : Addr} {od25 an25 : Option Addr} {sl25 : Array (Option Value)} {oc25 kV25 dc25 pm25 ct25 : Value} {cd25 : Value} {f26 : Addr} {od26 an26 : Option Addr} {sl26 : Array (Option Value)} {oc26 kV26 dc26 pm26 ct26 : Value} {cd26 : Value} {f27 : Addr} {od27 an27 : Option Addr} {sl27 : Array (Option Value)} {oc27 kV27 dc27 pm27 ct27 : Value} {cd27 : Value} {f28 : Addr} {od28 an28 : Option Addr} {sl28 : Array (Option Value)} {oc28 kV28 dc28 pm28 ct28 : Value} {cd28 : Value} {f29 : Addr} {od29 an29 : Option Addr} {sl29 : Array (Option Value)} {oc29 kV29 dc29 pm29 ct29 : Value} {cd29 : Value} {f30 : Addr} {od30 an30 : Option Addr} {sl30 : Array (Option Value)} {oc30 kV30 dc30 pm30 ct30 : Value} {cd30 : Value} {f31 : Addr} {od31 an31 : Option Addr} {sl31 : Array (Option Value)} {oc31 kV31 dc31 pm31 ct31 : Value} {cd31 : Value} {f32 : Addr} {od32 an32 : Option Addr} {sl32 : Array (Option Value)} {oc32 kV32 dc32 pm32 ct32 : Value} {cd32 : Value} {f33 : Addr} {od33 an33 : Option Addr} {sl33 : Array (Option Value)} {oc33 kV33 dc33 pm33 ct33 : Value} {cd33 : Value} {f34 : Addr} {od34 an34 : Option Addr} {sl34 : Array (Option Value)} {oc34 kV34 dc34 pm34 ct34 : Value} {cd34 : Value} {f35 : Addr} {od35 an35 : Option Addr} {sl35 : Array (Option Value)} {oc35 kV35 dc35 pm35 ct35 : Value} {ccL : Addr}  {tN1 : Tok} {fW : Addr} {odW : Option Addr} {itW : Array Value} {nW : Nat} {slW : Array (Option Value)}                 {Tb : Addr}
    (aCKind : PySem.W.nsIn K mainGlobals "Kind" = some (some (.ref cAKind)))
    (pgKind : PySem.W.plainGet K cAKind Str.empty = true)
    (hdKind : PySem.W.hasDictIn K cAKind = true)
    (poKind : PySem.W.plainOver K cAKind = true)
    (saKind : PySem.W.findIn K (.ref cAKind) "__setattr__" = some (some (.builtin "object.__setattr__")))
    (mkKind : PySem.W.makesIn K cAKind = true)
    (kcKind : PySem.W.keepIn K (.ref cAKind) = true)
    (aCFieldError : PySem.W.nsIn K mainGlobals "FieldError" = some (some (.ref cAFieldError)))
    (xLFieldError : K.lookup cAFieldError = some (excClassObj nmFieldError qFieldError cAFieldError NFieldError bsFieldError bmFieldError true snFieldError subFieldError abFieldError colFieldError ddFieldError m0FieldError m1FieldError m2FieldError m3FieldError m5FieldError "ValueError.__new__"))
    (rfFieldError : PySem.HandSPX.refsVE bmFieldError = true)
    (saFieldError : PySem.W.findIn K (.ref cAFieldError) "__setattr__" = some (some (.builtin "object.__setattr__")))
    (eCFieldError : PySem.W.subIn K (.ref cAFieldError) (.type "BaseException") = some true)
    (tCFieldError : PySem.W.typeIn K (.ref cAFieldError) = some (.type "type"))
    (kcFieldError : PySem.W.keepIn K (.ref cAFieldError) = true)
    (hdFieldError : PySem.W.hasDictIn K cAFieldError = true)
    (iCFieldError : PySem.W.isClsIn K cAFieldError = true)
    (gaFieldError : PySem.W.findIn K (.ref cAFieldError) "__getattribute__" = some (some (.builtin "BaseException.__getattribute__")))
    (ggFieldError : PySem.W.findIn K (.ref cAFieldError) "__getattr__" = some none)
    (aCBadNumber : PySem.W.nsIn K mainGlobals "BadNumber" = some (some (.ref cABadNumber)))
    (xLBadNumber : K.lookup cABadNumber = some (excClassObj nmBadNumber qBadNumber cABadNumber NBadNumber bsBadNumber bmBadNumber true snBadNumber subBadNumber abBadNumber colBadNumber ddBadNumber m0BadNumber m1BadNumber m2BadNumber m3BadNumber m5BadNumber "ValueError.__new__"))
    (rfBadNumber : PySem.HandSPX.refsVE bmBadNumber = true)
    (saBadNumber : PySem.W.findIn K (.ref cABadNumber) "__setattr__" = some (some (.builtin "object.__setattr__")))
    (eCBadNumber : PySem.W.subIn K (.ref cABadNumber) (.type "BaseException") = some true)
    (tCBadNumber : PySem.W.typeIn K (.ref cABadNumber) = some (.type "type"))
    (kcBadNumber : PySem.W.keepIn K (.ref cABadNumber) = true)
    (hdBadNumber : PySem.W.hasDictIn K cABadNumber = true)
    (iCBadNumber : PySem.W.isClsIn K cABadNumber = true)
    (gaBadNumber : PySem.W.findIn K (.ref cABadNumber) "__getattribute__" = some (some (.builtin "BaseException.__getattribute__")))
    (ggBadNumber : PySem.W.findIn K (.ref cABadNumber) "__getattr__" = some none)
    (noBadNumber_part : PySem.W.findIn K (.ref cABadNumber) "part" = some none)
    (aCBadSquare : PySem.W.nsIn K mainGlobals "BadSquare" = some (some (.ref cABadSquare)))
    (xLBadSquare : K.lookup cABadSquare = some (excClassObj nmBadSquare qBadSquare cABadSquare NBadSquare bsBadSquare bmBadSquare true snBadSquare subBadSquare abBadSquare colBadSquare ddBadSquare m0BadSquare m1BadSquare m2BadSquare m3BadSquare m5BadSquare "ValueError.__new__"))
    (rfBadSquare : PySem.HandSPX.refsVE bmBadSquare = true)
    (saBadSquare : PySem.W.findIn K (.ref cABadSquare) "__setattr__" = some (some (.builtin "object.__setattr__")))
    (eCBadSquare : PySem.W.subIn K (.ref cABadSquare) (.type "BaseException") = some true)
    (tCBadSquare : PySem.W.typeIn K (.ref cABadSquare) = some (.type "type"))
    (kcBadSquare : PySem.W.keepIn K (.ref cABadSquare) = true)
    (hdBadSquare : PySem.W.hasDictIn K cABadSquare = true)
    (iCBadSquare : PySem.W.isClsIn K cABadSquare = true)
    (gaBadSquare : PySem.W.findIn K (.ref cABadSquare) "__getattribute__" = some (some (.builtin "BaseException.__getattribute__")))
    (ggBadSquare : PySem.W.findIn K (.ref cABadSquare) "__getattr__" = some none)
    (noBadSquare_part : PySem.W.findIn K (.ref cABadSquare) "part" = some none)
    (aCBadKind : PySem.W.nsIn K mainGlobals "BadKind" = some (some (.ref cABadKind)))
    (xLBadKind : K.lookup cABadKind = some (excClassObj nmBadKind qBadKind cABadKind NBadKind bsBadKind bmBadKind true snBadKind subBadKind abBadKind colBadKind ddBadKind m0BadKind m1BadKind m2BadKind m3BadKind m5BadKind "ValueError.__new__"))
    (rfBadKind : PySem.HandSPX.refsVE bmBadKind = true)
    (saBadKind : PySem.W.findIn K (.ref cABadKind) "__setattr__" = some (some (.builtin "object.__setattr__")))
    (eCBadKind : PySem.W.subIn K (.ref cABadKind) (.type "BaseException") = some true)
    (tCBadKind : PySem.W.typeIn K (.ref cABadKind) = some (.type "type"))
    (kcBadKind : PySem.W.keepIn K (.ref cABadKind) = true)
    (hdBadKind : PySem.W.hasDictIn K cABadKind = true)
    (iCBadKind : PySem.W.isClsIn K cABadKind = true)
    (gaBadKind : PySem.W.findIn K (.ref cABadKind) "__getattribute__" = some (some (.builtin "BaseException.__getattribute__")))
    (ggBadKind : PySem.W.findIn K (.ref cABadKind) "__getattr__" = some none)
    (noBadKind_part : PySem.W.findIn K (.ref cABadKind) "part" = some none)
    (aCBadGame : PySem.W.nsIn K mainGlobals "BadGame" = some (some (.ref cABadGame)))
    (xLBadGame : K.lookup cABadGame = some (excClassObj nmBadGame qBadGame cABadGame NBadGame bsBadGame bmBadGame true snBadGame subBadGame abBadGame colBadGame ddBadGame m0BadGame m1BadGame m2BadGame m3BadGame m5BadGame "ValueError.__new__"))
    (rfBadGame : PySem.HandSPX.refsVE bmBadGame = true)
    (saBadGame : PySem.W.findIn K (.ref cABadGame) "__setattr__" = some (some (.builtin "object.__setattr__")))
    (eCBadGame : PySem.W.subIn K (.ref cABadGame) (.type "BaseException") = some true)
    (tCBadGame : PySem.W.typeIn K (.ref cABadGame) = some (.type "type"))
    (kcBadGame : PySem.W.keepIn K (.ref cABadGame) = true)
    (hdBadGame : PySem.W.hasDictIn K cABadGame = true)
    (iCBadGame : PySem.W.isClsIn K cABadGame = true)
    (gaBadGame : PySem.W.findIn K (.ref cABadGame) "__getattribute__" = some (some (.builtin "BaseException.__getattribute__")))
    (ggBadGame : PySem.W.findIn K (.ref cABadGame) "__getattr__" = some none)
    (noBadGame_part : PySem.W.findIn K (.ref cABadGame) "part" = some none)
    (aCBadPosition : PySem.W.nsIn K mainGlobals "BadPosition" = some (some (.ref cABadPosition)))
    (xLBadPosition : K.lookup cABadPosition = some (excClassObj nmBadPosition qBadPosition cABadPosition NBadPosition bsBadPosition bmBadPosition true snBadPosition subBadPosition abBadPosition colBadPosition ddBadPosition m0BadPosition m1BadPosition m2BadPosition m3BadPosition m5BadPosition "ValueError.__new__"))
    (rfBadPosition : PySem.HandSPX.refsVE bmBadPosition = true)
    (saBadPosition : PySem.W.findIn K (.ref cABadPosition) "__setattr__" = some (some (.builtin "object.__setattr__")))
    (eCBadPosition : PySem.W.subIn K (.ref cABadPosition) (.type "BaseException") = some true)
    (tCBadPosition : PySem.W.typeIn K (.ref cABadPosition) = some (.type "type"))
    (kcBadPosition : PySem.W.keepIn K (.ref cABadPosition) = true)
    (hdBadPosition : PySem.W.hasDictIn K cABadPosition = true)
    (iCBadPosition : PySem.W.isClsIn K cABadPosition = true)
    (gaBadPosition : PySem.W.findIn K (.ref cABadPosition) "__getattribute__" = some (some (.builtin "BaseException.__getattribute__")))
    (ggBadPosition : PySem.W.findIn K (.ref cABadPosition) "__getattr__" = some none)
    (noBadPosition_part : PySem.W.findIn K (.ref cABadPosition) "part" = some none)
    (aCBadMove : PySem.W.nsIn K mainGlobals "BadMove" = some (some (.ref cABadMove)))
    (xLBadMove : K.lookup cABadMove = some (excClassObj nmBadMove qBadMove cABadMove NBadMove bsBadMove bmBadMove true snBadMove subBadMove abBadMove colBadMove ddBadMove m0BadMove m1BadMove m2BadMove m3BadMove m5BadMove "ValueError.__new__"))
    (rfBadMove : PySem.HandSPX.refsVE bmBadMove = true)
    (saBadMove : PySem.W.findIn K (.ref cABadMove) "__setattr__" = some (some (.builtin "object.__setattr__")))
    (eCBadMove : PySem.W.subIn K (.ref cABadMove) (.type "BaseException") = some true)
    (tCBadMove : PySem.W.typeIn K (.ref cABadMove) = some (.type "type"))
    (kcBadMove : PySem.W.keepIn K (.ref cABadMove) = true)
    (hdBadMove : PySem.W.hasDictIn K cABadMove = true)
    (iCBadMove : PySem.W.isClsIn K cABadMove = true)
    (gaBadMove : PySem.W.findIn K (.ref cABadMove) "__getattribute__" = some (some (.builtin "BaseException.__getattribute__")))
    (ggBadMove : PySem.W.findIn K (.ref cABadMove) "__getattr__" = some none)
    (noBadMove_part : PySem.W.findIn K (.ref cABadMove) "part" = some none)
    (aCBadPlay : PySem.W.nsIn K mainGlobals "BadPlay" = some (some (.ref cABadPlay)))
    (xLBadPlay : K.lookup cABadPlay = some (excClassObj nmBadPlay qBadPlay cABadPlay NBadPlay bsBadPlay bmBadPlay true snBadPlay subBadPlay abBadPlay colBadPlay ddBadPlay m0BadPlay m1BadPlay m2BadPlay m3BadPlay m5BadPlay "ValueError.__new__"))
    (rfBadPlay : PySem.HandSPX.refsVE bmBadPlay = true)
    (saBadPlay : PySem.W.findIn K (.ref cABadPlay) "__setattr__" = some (some (.builtin "object.__setattr__")))
    (eCBadPlay : PySem.W.subIn K (.ref cABadPlay) (.type "BaseException") = some true)
    (tCBadPlay : PySem.W.typeIn K (.ref cABadPlay) = some (.type "type"))
    (kcBadPlay : PySem.W.keepIn K (.ref cABadPlay) = true)
    (hdBadPlay : PySem.W.hasDictIn K cABadPlay = true)
    (iCBadPlay : PySem.W.isClsIn K cABadPlay = true)
    (gaBadPlay : PySem.W.findIn K (.ref cABadPlay) "__getattribute__" = some (some (.builtin "BaseException.__getattribute__")))
    (ggBadPlay : PySem.W.findIn K (.ref cABadPlay) "__getattr__" = some none)
    (noBadPlay_part : PySem.W.findIn K (.ref cABadPlay) "part" = some none)
    (aCBadPaper : PySem.W.nsIn K mainGlobals "BadPaper" = some (some (.ref cABadPaper)))
    (xLBadPaper : K.lookup cABadPaper = some (excClassObj nmBadPaper qBadPaper cABadPaper NBadPaper bsBadPaper bmBadPaper true snBadPaper subBadPaper abBadPaper colBadPaper ddBadPaper m0BadPaper m1BadPaper m2BadPaper m3BadPaper m5BadPaper "ValueError.__new__"))
    (rfBadPaper : PySem.HandSPX.refsVE bmBadPaper = true)
    (saBadPaper : PySem.W.findIn K (.ref cABadPaper) "__setattr__" = some (some (.builtin "object.__setattr__")))
    (eCBadPaper : PySem.W.subIn K (.ref cABadPaper) (.type "BaseException") = some true)
    (tCBadPaper : PySem.W.typeIn K (.ref cABadPaper) = some (.type "type"))
    (kcBadPaper : PySem.W.keepIn K (.ref cABadPaper) = true)
    (hdBadPaper : PySem.W.hasDictIn K cABadPaper = true)
    (iCBadPaper : PySem.W.isClsIn K cABadPaper = true)
    (gaBadPaper : PySem.W.findIn K (.ref cABadPaper) "__getattribute__" = some (some (.builtin "BaseException.__getattribute__")))
    (ggBadPaper : PySem.W.findIn K (.ref cABadPaper) "__getattr__" = some none)
    (noBadPaper_part : PySem.W.findIn K (.ref cABadPaper) "part" = some none)
    (aCBadWords : PySem.W.nsIn K mainGlobals "BadWords" = some (some (.ref cABadWords)))
    (xLBadWords : K.lookup cABadWords = some (excClassObj nmBadWords qBadWords cABadWords NBadWords bsBadWords bmBadWords true snBadWords subBadWords abBadWords colBadWords ddBadWords m0BadWords m1BadWords m2BadWords m3BadWords m5BadWords "ValueError.__new__"))
    (rfBadWords : PySem.HandSPX.refsVE bmBadWords = true)
    (saBadWords : PySem.W.findIn K (.ref cABadWords) "__setattr__" = some (some (.builtin "object.__setattr__")))
    (eCBadWords : PySem.W.subIn K (.ref cABadWords) (.type "BaseException") = some true)
    (tCBadWords : PySem.W.typeIn K (.ref cABadWords) = some (.type "type"))
    (kcBadWords : PySem.W.keepIn K (.ref cABadWords) = true)
    (hdBadWords : PySem.W.hasDictIn K cABadWords = true)
    (iCBadWords : PySem.W.isClsIn K cABadWords = true)
    (gaBadWords : PySem.W.findIn K (.ref cABadWords) "__getattribute__" = some (some (.builtin "BaseException.__getattribute__")))
    (ggBadWords : PySem.W.findIn K (.ref cABadWords) "__getattr__" = some none)
    (noBadWords_part : PySem.W.findIn K (.ref cABadWords) "part" = some none)
    (aCMisfit : PySem.W.nsIn K mainGlobals "Misfit" = some (some (.ref cAMisfit)))
    (xLMisfit : K.lookup cAMisfit = some (excClassObj nmMisfit qMisfit cAMisfit NMisfit bsMisfit bmMisfit true snMisfit subMisfit abMisfit colMisfit ddMisfit m0Misfit m1Misfit m2Misfit m3Misfit m5Misfit "ValueError.__new__"))
    (rfMisfit : PySem.HandSPX.refsVE bmMisfit = true)
    (saMisfit : PySem.W.findIn K (.ref cAMisfit) "__setattr__" = some (some (.builtin "object.__setattr__")))
    (eCMisfit : PySem.W.subIn K (.ref cAMisfit) (.type "BaseException") = some true)
    (tCMisfit : PySem.W.typeIn K (.ref cAMisfit) = some (.type "type"))
    (kcMisfit : PySem.W.keepIn K (.ref cAMisfit) = true)
    (hdMisfit : PySem.W.hasDictIn K cAMisfit = true)
    (iCMisfit : PySem.W.isClsIn K cAMisfit = true)
    (gaMisfit : PySem.W.findIn K (.ref cAMisfit) "__getattribute__" = some (some (.builtin "BaseException.__getattribute__")))
    (ggMisfit : PySem.W.findIn K (.ref cAMisfit) "__getattr__" = some none)
    (noMisfit_part : PySem.W.findIn K (.ref cAMisfit) "part" = some none)
    (aCNoName : PySem.W.nsIn K mainGlobals "NoName" = some (some (.ref cANoName)))
    (xLNoName : K.lookup cANoName = some (excClassObj nmNoName qNoName cANoName NNoName bsNoName bmNoName true snNoName subNoName abNoName colNoName ddNoName m0NoName m1NoName m2NoName m3NoName m5NoName "ValueError.__new__"))
    (rfNoName : PySem.HandSPX.refsVE bmNoName = true)
    (saNoName : PySem.W.findIn K (.ref cANoName) "__setattr__" = some (some (.builtin "object.__setattr__")))
    (eCNoName : PySem.W.subIn K (.ref cANoName) (.type "BaseException") = some true)
    (tCNoName : PySem.W.typeIn K (.ref cANoName) = some (.type "type"))
    (kcNoName : PySem.W.keepIn K (.ref cANoName) = true)
    (hdNoName : PySem.W.hasDictIn K cANoName = true)
    (iCNoName : PySem.W.isClsIn K cANoName = true)
    (gaNoName : PySem.W.findIn K (.ref cANoName) "__getattribute__" = some (some (.builtin "BaseException.__getattribute__")))
    (ggNoName : PySem.W.findIn K (.ref cANoName) "__getattr__" = some none)
    (noNoName_value : PySem.W.findIn K (.ref cANoName) "value" = some none)
    (aCTwice : PySem.W.nsIn K mainGlobals "Twice" = some (some (.ref cATwice)))
    (xLTwice : K.lookup cATwice = some (excClassObj nmTwice qTwice cATwice NTwice bsTwice bmTwice true snTwice subTwice abTwice colTwice ddTwice m0Twice m1Twice m2Twice m3Twice m5Twice "ValueError.__new__"))
    (rfTwice : PySem.HandSPX.refsVE bmTwice = true)
    (saTwice : PySem.W.findIn K (.ref cATwice) "__setattr__" = some (some (.builtin "object.__setattr__")))
    (eCTwice : PySem.W.subIn K (.ref cATwice) (.type "BaseException") = some true)
    (tCTwice : PySem.W.typeIn K (.ref cATwice) = some (.type "type"))
    (kcTwice : PySem.W.keepIn K (.ref cATwice) = true)
    (hdTwice : PySem.W.hasDictIn K cATwice = true)
    (iCTwice : PySem.W.isClsIn K cATwice = true)
    (gaTwice : PySem.W.findIn K (.ref cATwice) "__getattribute__" = some (some (.builtin "BaseException.__getattribute__")))
    (ggTwice : PySem.W.findIn K (.ref cATwice) "__getattr__" = some none)
    (noTwice_value : PySem.W.findIn K (.ref cATwice) "value" = some none)
    (aCTooMany : PySem.W.nsIn K mainGlobals "TooMany" = some (some (.ref cATooMany)))
    (xLTooMany : K.lookup cATooMany = some (excClassObj nmTooMany qTooMany cATooMany NTooMany bsTooMany bmTooMany true snTooMany subTooMany abTooMany colTooMany ddTooMany m0TooMany m1TooMany m2TooMany m3TooMany m5TooMany "ValueError.__new__"))
    (rfTooMany : PySem.HandSPX.refsVE bmTooMany = true)
    (saTooMany : PySem.W.findIn K (.ref cATooMany) "__setattr__" = some (some (.builtin "object.__setattr__")))
    (eCTooMany : PySem.W.subIn K (.ref cATooMany) (.type "BaseException") = some true)
    (tCTooMany : PySem.W.typeIn K (.ref cATooMany) = some (.type "type"))
    (kcTooMany : PySem.W.keepIn K (.ref cATooMany) = true)
    (hdTooMany : PySem.W.hasDictIn K cATooMany = true)
    (iCTooMany : PySem.W.isClsIn K cATooMany = true)
    (gaTooMany : PySem.W.findIn K (.ref cATooMany) "__getattribute__" = some (some (.builtin "BaseException.__getattribute__")))
    (ggTooMany : PySem.W.findIn K (.ref cATooMany) "__getattr__" = some none)
    (noTooMany_what : PySem.W.findIn K (.ref cATooMany) "what" = some none)
    (noTooMany_most : PySem.W.findIn K (.ref cATooMany) "most" = some none)
    (aCBadText : PySem.W.nsIn K mainGlobals "BadText" = some (some (.ref cABadText)))
    (xLBadText : K.lookup cABadText = some (excClassObj nmBadText qBadText cABadText NBadText bsBadText bmBadText true snBadText subBadText abBadText colBadText ddBadText m0BadText m1BadText m2BadText m3BadText m5BadText "ValueError.__new__"))
    (rfBadText : PySem.HandSPX.refsVE bmBadText = true)
    (saBadText : PySem.W.findIn K (.ref cABadText) "__setattr__" = some (some (.builtin "object.__setattr__")))
    (eCBadText : PySem.W.subIn K (.ref cABadText) (.type "BaseException") = some true)
    (tCBadText : PySem.W.typeIn K (.ref cABadText) = some (.type "type"))
    (kcBadText : PySem.W.keepIn K (.ref cABadText) = true)
    (hdBadText : PySem.W.hasDictIn K cABadText = true)
    (iCBadText : PySem.W.isClsIn K cABadText = true)
    (gaBadText : PySem.W.findIn K (.ref cABadText) "__getattribute__" = some (some (.builtin "BaseException.__getattribute__")))
    (ggBadText : PySem.W.findIn K (.ref cABadText) "__getattr__" = some none)
    (noBadText_line : PySem.W.findIn K (.ref cABadText) "line" = some none)
    (noBadText_item : PySem.W.findIn K (.ref cABadText) "item" = some none)
    (aCBadLine : PySem.W.nsIn K mainGlobals "BadLine" = some (some (.ref cABadLine)))
    (xLBadLine : K.lookup cABadLine = some (excClassObj nmBadLine qBadLine cABadLine NBadLine bsBadLine bmBadLine true snBadLine subBadLine abBadLine colBadLine ddBadLine m0BadLine m1BadLine m2BadLine m3BadLine m5BadLine "ValueError.__new__"))
    (rfBadLine : PySem.HandSPX.refsVE bmBadLine = true)
    (saBadLine : PySem.W.findIn K (.ref cABadLine) "__setattr__" = some (some (.builtin "object.__setattr__")))
    (eCBadLine : PySem.W.subIn K (.ref cABadLine) (.type "BaseException") = some true)
    (tCBadLine : PySem.W.typeIn K (.ref cABadLine) = some (.type "type"))
    (kcBadLine : PySem.W.keepIn K (.ref cABadLine) = true)
    (hdBadLine : PySem.W.hasDictIn K cABadLine = true)
    (iCBadLine : PySem.W.isClsIn K cABadLine = true)
    (gaBadLine : PySem.W.findIn K (.ref cABadLine) "__getattribute__" = some (some (.builtin "BaseException.__getattribute__")))
    (ggBadLine : PySem.W.findIn K (.ref cABadLine) "__getattr__" = some none)
    (noBadLine_line : PySem.W.findIn K (.ref cABadLine) "line" = some none)
    (noBadLine_error : PySem.W.findIn K (.ref cABadLine) "error" = some none)
    (aCNothing : PySem.W.nsIn K mainGlobals "Nothing" = some (some (.ref cANothing)))
    (xLNothing : K.lookup cANothing = some (excClassObj nmNothing qNothing cANothing NNothing bsNothing bmNothing true snNothing subNothing abNothing colNothing ddNothing m0Nothing m1Nothing m2Nothing m3Nothing m5Nothing "ValueError.__new__"))
    (rfNothing : PySem.HandSPX.refsVE bmNothing = true)
    (saNothing : PySem.W.findIn K (.ref cANothing) "__setattr__" = some (some (.builtin "object.__setattr__")))
    (eCNothing : PySem.W.subIn K (.ref cANothing) (.type "BaseException") = some true)
    (tCNothing : PySem.W.typeIn K (.ref cANothing) = some (.type "type"))
    (kcNothing : PySem.W.keepIn K (.ref cANothing) = true)
    (hdNothing : PySem.W.hasDictIn K cANothing = true)
    (iCNothing : PySem.W.isClsIn K cANothing = true)
    (gaNothing : PySem.W.findIn K (.ref cANothing) "__getattribute__" = some (some (.builtin "BaseException.__getattribute__")))
    (ggNothing : PySem.W.findIn K (.ref cANothing) "__getattr__" = some none)
    (aCOver : PySem.W.nsIn K mainGlobals "Over" = some (some (.ref cAOver)))
    (xLOver : K.lookup cAOver = some (excClassObj nmOver qOver cAOver NOver bsOver bmOver true snOver subOver abOver colOver ddOver m0Over m1Over m2Over m3Over m5Over "ValueError.__new__"))
    (rfOver : PySem.HandSPX.refsVE bmOver = true)
    (saOver : PySem.W.findIn K (.ref cAOver) "__setattr__" = some (some (.builtin "object.__setattr__")))
    (eCOver : PySem.W.subIn K (.ref cAOver) (.type "BaseException") = some true)
    (tCOver : PySem.W.typeIn K (.ref cAOver) = some (.type "type"))
    (kcOver : PySem.W.keepIn K (.ref cAOver) = true)
    (hdOver : PySem.W.hasDictIn K cAOver = true)
    (iCOver : PySem.W.isClsIn K cAOver = true)
    (gaOver : PySem.W.findIn K (.ref cAOver) "__getattribute__" = some (some (.builtin "BaseException.__getattribute__")))
    (ggOver : PySem.W.findIn K (.ref cAOver) "__getattr__" = some none)
    (xmBadKind_FieldError : PySem.W.subIn K (.ref cABadKind) (.ref cAFieldError) = some true)
    (xmBadMove_FieldError : PySem.W.subIn K (.ref cABadMove) (.ref cAFieldError) = some true)
    (xmBadWords_FieldError : PySem.W.subIn K (.ref cABadWords) (.ref cAFieldError) = some true)
    (a0 : PySem.W.findIn K (.ref cABadNumber) "__init__" = some (some (.ref f0)))
    (t0 : PySem.W.typeIn K (.ref f0) = some (.type "function"))
    (l0 : K.lookup f0 = some ⟨oc0, od0, .func (PySem.W.fnOf "__init__" "BadNumber.__init__" (defArgs s_BadNumber___init__) (defBody s_BadNumber___init__) (defScope s_BadNumber___init__) .none kV0 dc0 pm0 an0 cd0 ct0), sl0⟩)
    (c0 : PySem.W.codeIn K cd0 "BadNumber.__init__" = true)
    (k0 : PySem.W.keepIn K (.ref f0) = true)
    (a1 : PySem.W.findIn K (.ref cABadSquare) "__init__" = some (some (.ref f1)))
    (t1 : PySem.W.typeIn K (.ref f1) = some (.type "function"))
    (l1 : K.lookup f1 = some ⟨oc1, od1, .func (PySem.W.fnOf "__init__" "BadSquare.__init__" (defArgs s_BadSquare___init__) (defBody s_BadSquare___init__) (defScope s_BadSquare___init__) .none kV1 dc1 pm1 an1 cd1 ct1), sl1⟩)
    (c1 : PySem.W.codeIn K cd1 "BadSquare.__init__" = true)
    (k1 : PySem.W.keepIn K (.ref f1) = true)
    (a2 : PySem.W.findIn K (.ref cABadKind) "__init__" = some (some (.ref f2)))
    (t2 : PySem.W.typeIn K (.ref f2) = some (.type "function"))
    (l2 : K.lookup f2 = some ⟨oc2, od2, .func (PySem.W.fnOf "__init__" "BadKind.__init__" (defArgs s_BadKind___init__) (defBody s_BadKind___init__) (defScope s_BadKind___init__) .none kV2 dc2 pm2 an2 cd2 ct2), sl2⟩)
    (c2 : PySem.W.codeIn K cd2 "BadKind.__init__" = true)
    (k2 : PySem.W.keepIn K (.ref f2) = true)
    (a3 : PySem.W.findIn K (.ref cABadGame) "__init__" = some (some (.ref f3)))
    (t3 : PySem.W.typeIn K (.ref f3) = some (.type "function"))
    (l3 : K.lookup f3 = some ⟨oc3, od3, .func (PySem.W.fnOf "__init__" "BadGame.__init__" (defArgs s_BadGame___init__) (defBody s_BadGame___init__) (defScope s_BadGame___init__) .none kV3 dc3 pm3 an3 cd3 ct3), sl3⟩)
    (c3 : PySem.W.codeIn K cd3 "BadGame.__init__" = true)
    (k3 : PySem.W.keepIn K (.ref f3) = true)
    (a4 : PySem.W.findIn K (.ref cABadPosition) "__init__" = some (some (.ref f4)))
    (t4 : PySem.W.typeIn K (.ref f4) = some (.type "function"))
    (l4 : K.lookup f4 = some ⟨oc4, od4, .func (PySem.W.fnOf "__init__" "BadPosition.__init__" (defArgs s_BadPosition___init__) (defBody s_BadPosition___init__) (defScope s_BadPosition___init__) .none kV4 dc4 pm4 an4 cd4 ct4), sl4⟩)
    (c4 : PySem.W.codeIn K cd4 "BadPosition.__init__" = true)
    (k4 : PySem.W.keepIn K (.ref f4) = true)
    (a5 : PySem.W.findIn K (.ref cABadMove) "__init__" = some (some (.ref f5)))
    (t5 : PySem.W.typeIn K (.ref f5) = some (.type "function"))
    (l5 : K.lookup f5 = some ⟨oc5, od5, .func (PySem.W.fnOf "__init__" "BadMove.__init__" (defArgs s_BadMove___init__) (defBody s_BadMove___init__) (defScope s_BadMove___init__) .none kV5 dc5 pm5 an5 cd5 ct5), sl5⟩)
    (c5 : PySem.W.codeIn K cd5 "BadMove.__init__" = true)
    (k5 : PySem.W.keepIn K (.ref f5) = true)
    (a6 : PySem.W.findIn K (.ref cABadPlay) "__init__" = some (some (.ref f6)))
    (t6 : PySem.W.typeIn K (.ref f6) = some (.type "function"))
    (l6 : K.lookup f6 = some ⟨oc6, od6, .func (PySem.W.fnOf "__init__" "BadPlay.__init__" (defArgs s_BadPlay___init__) (defBody s_BadPlay___init__) (defScope s_BadPlay___init__) .none kV6 dc6 pm6 an6 cd6 ct6), sl6⟩)
    (c6 : PySem.W.codeIn K cd6 "BadPlay.__init__" = true)
    (k6 : PySem.W.keepIn K (.ref f6) = true)
    (a7 : PySem.W.findIn K (.ref cABadPaper) "__init__" = some (some (.ref f7)))
    (t7 : PySem.W.typeIn K (.ref f7) = some (.type "function"))
    (l7 : K.lookup f7 = some ⟨oc7, od7, .func (PySem.W.fnOf "__init__" "BadPaper.__init__" (defArgs s_BadPaper___init__) (defBody s_BadPaper___init__) (defScope s_BadPaper___init__) .none kV7 dc7 pm7 an7 cd7 ct7), sl7⟩)
    (c7 : PySem.W.codeIn K cd7 "BadPaper.__init__" = true)
    (k7 : PySem.W.keepIn K (.ref f7) = true)
    (a8 : PySem.W.findIn K (.ref cABadWords) "__init__" = some (some (.ref f8)))
    (t8 : PySem.W.typeIn K (.ref f8) = some (.type "function"))
    (l8 : K.lookup f8 = some ⟨oc8, od8, .func (PySem.W.fnOf "__init__" "BadWords.__init__" (defArgs s_BadWords___init__) (defBody s_BadWords___init__) (defScope s_BadWords___init__) .none kV8 dc8 pm8 an8 cd8 ct8), sl8⟩)
    (c8 : PySem.W.codeIn K cd8 "BadWords.__init__" = true)
    (k8 : PySem.W.keepIn K (.ref f8) = true)
    (a9 : PySem.W.findIn K (.ref cAMisfit) "__init__" = some (some (.ref f9)))
    (t9 : PySem.W.typeIn K (.ref f9) = some (.type "function"))
    (l9 : K.lookup f9 = some ⟨oc9, od9, .func (PySem.W.fnOf "__init__" "Misfit.__init__" (defArgs s_Misfit___init__) (defBody s_Misfit___init__) (defScope s_Misfit___init__) .none kV9 dc9 pm9 an9 cd9 ct9), sl9⟩)
    (c9 : PySem.W.codeIn K cd9 "Misfit.__init__" = true)
    (k9 : PySem.W.keepIn K (.ref f9) = true)
    (a10 : PySem.W.findIn K (.ref cANoName) "__init__" = some (some (.ref f10)))
    (t10 : PySem.W.typeIn K (.ref f10) = some (.type "function"))
    (l10 : K.lookup f10 = some ⟨oc10, od10, .func (PySem.W.fnOf "__init__" "NoName.__init__" (defArgs s_NoName___init__) (defBody s_NoName___init__) (defScope s_NoName___init__) .none kV10 dc10 pm10 an10 cd10 ct10), sl10⟩)
    (c10 : PySem.W.codeIn K cd10 "NoName.__init__" = true)
    (k10 : PySem.W.keepIn K (.ref f10) = true)
    (a11 : PySem.W.findIn K (.ref cATwice) "__init__" = some (some (.ref f11)))
    (t11 : PySem.W.typeIn K (.ref f11) = some (.type "function"))
    (l11 : K.lookup f11 = some ⟨oc11, od11, .func (PySem.W.fnOf "__init__" "Twice.__init__" (defArgs s_Twice___init__) (defBody s_Twice___init__) (defScope s_Twice___init__) .none kV11 dc11 pm11 an11 cd11 ct11), sl11⟩)
    (c11 : PySem.W.codeIn K cd11 "Twice.__init__" = true)
    (k11 : PySem.W.keepIn K (.ref f11) = true)
    (a12 : PySem.W.findIn K (.ref cATooMany) "__init__" = some (some (.ref f12)))
    (t12 : PySem.W.typeIn K (.ref f12) = some (.type "function"))
    (l12 : K.lookup f12 = some ⟨oc12, od12, .func (PySem.W.fnOf "__init__" "TooMany.__init__" (defArgs s_TooMany___init__) (defBody s_TooMany___init__) (defScope s_TooMany___init__) .none kV12 dc12 pm12 an12 cd12 ct12), sl12⟩)
    (c12 : PySem.W.codeIn K cd12 "TooMany.__init__" = true)
    (k12 : PySem.W.keepIn K (.ref f12) = true)
    (a13 : PySem.W.findIn K (.ref cABadText) "__init__" = some (some (.ref f13)))
    (t13 : PySem.W.typeIn K (.ref f13) = some (.type "function"))
    (l13 : K.lookup f13 = some ⟨oc13, od13, .func (PySem.W.fnOf "__init__" "BadText.__init__" (defArgs s_BadText___init__) (defBody s_BadText___init__) (defScope s_BadText___init__) .none kV13 dc13 pm13 an13 cd13 ct13), sl13⟩)
    (c13 : PySem.W.codeIn K cd13 "BadText.__init__" = true)
    (k13 : PySem.W.keepIn K (.ref f13) = true)
    (a14 : PySem.W.findIn K (.ref cABadLine) "__init__" = some (some (.ref f14)))
    (t14 : PySem.W.typeIn K (.ref f14) = some (.type "function"))
    (l14 : K.lookup f14 = some ⟨oc14, od14, .func (PySem.W.fnOf "__init__" "BadLine.__init__" (defArgs s_BadLine___init__) (defBody s_BadLine___init__) (defScope s_BadLine___init__) .none kV14 dc14 pm14 an14 cd14 ct14), sl14⟩)
    (c14 : PySem.W.codeIn K cd14 "BadLine.__init__" = true)
    (k14 : PySem.W.keepIn K (.ref f14) = true)
    (a15 : PySem.W.findIn K (.ref cANothing) "__init__" = some (some (.ref f15)))
    (t15 : PySem.W.typeIn K (.ref f15) = some (.type "function"))
    (l15 : K.lookup f15 = some ⟨oc15, od15, .func (PySem.W.fnOf "__init__" "Nothing.__init__" (defArgs s_Nothing___init__) (defBody s_Nothing___init__) (defScope s_Nothing___init__) .none kV15 dc15 pm15 an15 cd15 ct15), sl15⟩)
    (c15 : PySem.W.codeIn K cd15 "Nothing.__init__" = true)
    (k15 : PySem.W.keepIn K (.ref f15) = true)
    (a16 : PySem.W.findIn K (.ref cAOver) "__init__" = some (some (.ref f16)))
    (t16 : PySem.W.typeIn K (.ref f16) = some (.type "function"))
    (l16 : K.lookup f16 = some ⟨oc16, od16, .func (PySem.W.fnOf "__init__" "Over.__init__" (defArgs s_Over___init__) (defBody s_Over___init__) (defScope s_Over___init__) .none kV16 dc16 pm16 an16 cd16 ct16), sl16⟩)
    (c16 : PySem.W.codeIn K cd16 "Over.__init__" = true)
    (k16 : PySem.W.keepIn K (.ref f16) = true)
    (a17 : PySem.W.nsIn K mainGlobals "is_integer" = some (some (.ref f17)))
    (l17 : K.lookup f17 = some ⟨oc17, od17, .func (PySem.W.fnOf "is_integer" "is_integer" (defArgs s_is_integer) (defBody s_is_integer) (defScope s_is_integer) .none kV17 dc17 pm17 an17 cd17 ct17), sl17⟩)
    (c17 : PySem.W.codeIn K cd17 "is_integer" = true)
    (k17 : PySem.W.keepIn K (.ref f17) = true)
    (a18 : PySem.W.nsIn K mainGlobals "is_list" = some (some (.ref f18)))
    (l18 : K.lookup f18 = some ⟨oc18, od18, .func (PySem.W.fnOf "is_list" "is_list" (defArgs s_is_list) (defBody s_is_list) (defScope s_is_list) .none kV18 dc18 pm18 an18 cd18 ct18), sl18⟩)
    (c18 : PySem.W.codeIn K cd18 "is_list" = true)
    (k18 : PySem.W.keepIn K (.ref f18) = true)
    (a19 : PySem.W.nsIn K mainGlobals "is_square" = some (some (.ref f19)))
    (l19 : K.lookup f19 = some ⟨oc19, od19, .func (PySem.W.fnOf "is_square" "is_square" (defArgs s_is_square) (defBody s_is_square) (defScope s_is_square) .none kV19 dc19 pm19 an19 cd19 ct19), sl19⟩)
    (c19 : PySem.W.codeIn K cd19 "is_square" = true)
    (k19 : PySem.W.keepIn K (.ref f19) = true)
    (a20 : PySem.W.nsIn K mainGlobals "is_move" = some (some (.ref f20)))
    (l20 : K.lookup f20 = some ⟨oc20, od20, .func (PySem.W.fnOf "is_move" "is_move" (defArgs s_is_move) (defBody s_is_move) (defScope s_is_move) .none kV20 dc20 pm20 an20 cd20 ct20), sl20⟩)
    (c20 : PySem.W.codeIn K cd20 "is_move" = true)
    (k20 : PySem.W.keepIn K (.ref f20) = true)
    (a21 : PySem.W.nsIn K mainGlobals "is_name" = some (some (.ref f21)))
    (l21 : K.lookup f21 = some ⟨oc21, od21, .func (PySem.W.fnOf "is_name" "is_name" (defArgs s_is_name) (defBody s_is_name) (defScope s_is_name) .none kV21 dc21 pm21 an21 cd21 ct21), sl21⟩)
    (c21 : PySem.W.codeIn K cd21 "is_name" = true)
    (k21 : PySem.W.keepIn K (.ref f21) = true)
    (a22 : PySem.W.findIn K (.ref cAKind) "__init__" = some (some (.ref f22)))
    (t22 : PySem.W.typeIn K (.ref f22) = some (.type "function"))
    (l22 : K.lookup f22 = some ⟨oc22, od22, .func (PySem.W.fnOf "__init__" "Kind.__init__" (defArgs s_Kind___init__) (defBody s_Kind___init__) (defScope s_Kind___init__) (.ref dT22) kV22 dc22 pm22 an22 cd22 ct22), sl22⟩)
    (c22 : PySem.W.codeIn K cd22 "Kind.__init__" = true)
    (k22 : PySem.W.keepIn K (.ref f22) = true)
    (dl22 : K.lookup dT22 = some ⟨.type "tuple", dO22, .seq dI22 dN22, dS22⟩)
    (vE : Vals [.ref eT, .bl false] dI22.toList)
    (a23 : PySem.W.nsIn K mainGlobals "steps_of" = some (some (.ref f23)))
    (l23 : K.lookup f23 = some ⟨oc23, od23, .func (PySem.W.fnOf "steps_of" "steps_of" (defArgs s_steps_of) (defBody s_steps_of) (defScope s_steps_of) .none kV23 dc23 pm23 an23 cd23 ct23), sl23⟩)
    (c23 : PySem.W.codeIn K cd23 "steps_of" = true)
    (k23 : PySem.W.keepIn K (.ref f23) = true)
    (a24 : PySem.W.nsIn K mainGlobals "gone_along" = some (some (.ref f24)))
    (l24 : K.lookup f24 = some ⟨oc24, od24, .func (PySem.W.fnOf "gone_along" "gone_along" (defArgs s_gone_along) (defBody s_gone_along) (defScope s_gone_along) (.ref dT24) kV24 dc24 pm24 an24 cd24 ct24), sl24⟩)
    (c24 : PySem.W.codeIn K cd24 "gone_along" = true)
    (k24 : PySem.W.keepIn K (.ref f24) = true)
    (dl24 : K.lookup dT24 = some ⟨.type "tuple", dO24, .seq dI24 dN24, dS24⟩)
    (vG : Vals [.int 0, .int 0] dI24.toList)
    (a25 : PySem.W.nsIn K mainGlobals "_law_pail" = some (some (.ref f25)))
    (l25 : K.lookup f25 = some ⟨oc25, od25, .func (PySem.W.fnOf "_law_pail" "_law_pail" (defArgs s__law_pail) (defBody s__law_pail) (defScope s__law_pail) .none kV25 dc25 pm25 an25 cd25 ct25), sl25⟩)
    (c25 : PySem.W.codeIn K cd25 "_law_pail" = true)
    (k25 : PySem.W.keepIn K (.ref f25) = true)
    (a26 : PySem.W.nsIn K mainGlobals "_law_scoop" = some (some (.ref f26)))
    (l26 : K.lookup f26 = some ⟨oc26, od26, .func (PySem.W.fnOf "_law_scoop" "_law_scoop" (defArgs s__law_scoop) (defBody s__law_scoop) (defScope s__law_scoop) .none kV26 dc26 pm26 an26 cd26 ct26), sl26⟩)
    (c26 : PySem.W.codeIn K cd26 "_law_scoop" = true)
    (k26 : PySem.W.keepIn K (.ref f26) = true)
    (a27 : PySem.W.nsIn K mainGlobals "_law_one" = some (some (.ref f27)))
    (l27 : K.lookup f27 = some ⟨oc27, od27, .func (PySem.W.fnOf "_law_one" "_law_one" (defArgs s__law_one) (defBody s__law_one) (defScope s__law_one) .none kV27 dc27 pm27 an27 cd27 ct27), sl27⟩)
    (c27 : PySem.W.codeIn K cd27 "_law_one" = true)
    (k27 : PySem.W.keepIn K (.ref f27) = true)
    (a28 : PySem.W.nsIn K mainGlobals "_law_value" = some (some (.ref f28)))
    (l28 : K.lookup f28 = some ⟨oc28, od28, .func (PySem.W.fnOf "_law_value" "_law_value" (defArgs s__law_value) (defBody s__law_value) (defScope s__law_value) .none kV28 dc28 pm28 an28 cd28 ct28), sl28⟩)
    (c28 : PySem.W.codeIn K cd28 "_law_value" = true)
    (k28 : PySem.W.keepIn K (.ref f28) = true)
    (a29 : PySem.W.nsIn K mainGlobals "_law_by_place" = some (some (.ref f29)))
    (l29 : K.lookup f29 = some ⟨oc29, od29, .func (PySem.W.fnOf "_law_by_place" "_law_by_place" (defArgs s__law_by_place) (defBody s__law_by_place) (defScope s__law_by_place) .none kV29 dc29 pm29 an29 cd29 ct29), sl29⟩)
    (c29 : PySem.W.codeIn K cd29 "_law_by_place" = true)
    (k29 : PySem.W.keepIn K (.ref f29) = true)
    (a30 : PySem.W.nsIn K mainGlobals "_law_by_name" = some (some (.ref f30)))
    (l30 : K.lookup f30 = some ⟨oc30, od30, .func (PySem.W.fnOf "_law_by_name" "_law_by_name" (defArgs s__law_by_name) (defBody s__law_by_name) (defScope s__law_by_name) .none kV30 dc30 pm30 an30 cd30 ct30), sl30⟩)
    (c30 : PySem.W.codeIn K cd30 "_law_by_name" = true)
    (k30 : PySem.W.keepIn K (.ref f30) = true)
    (a31 : PySem.W.nsIn K mainGlobals "_law_fields" = some (some (.ref f31)))
    (l31 : K.lookup f31 = some ⟨oc31, od31, .func (PySem.W.fnOf "_law_fields" "_law_fields" (defArgs s__law_fields) (defBody s__law_fields) (defScope s__law_fields) .none kV31 dc31 pm31 an31 cd31 ct31), sl31⟩)
    (c31 : PySem.W.codeIn K cd31 "_law_fields" = true)
    (k31 : PySem.W.keepIn K (.ref f31) = true)
    (a32 : PySem.W.nsIn K mainGlobals "_law_flags" = some (some (.ref f32)))
    (l32 : K.lookup f32 = some ⟨oc32, od32, .func (PySem.W.fnOf "_law_flags" "_law_flags" (defArgs s__law_flags) (defBody s__law_flags) (defScope s__law_flags) .none kV32 dc32 pm32 an32 cd32 ct32), sl32⟩)
    (c32 : PySem.W.codeIn K cd32 "_law_flags" = true)
    (k32 : PySem.W.keepIn K (.ref f32) = true)
    (a33 : PySem.W.nsIn K mainGlobals "_law_is_far" = some (some (.ref f33)))
    (l33 : K.lookup f33 = some ⟨oc33, od33, .func (PySem.W.fnOf "_law_is_far" "_law_is_far" (defArgs s__law_is_far) (defBody s__law_is_far) (defScope s__law_is_far) .none kV33 dc33 pm33 an33 cd33 ct33), sl33⟩)
    (c33 : PySem.W.codeIn K cd33 "_law_is_far" = true)
    (k33 : PySem.W.keepIn K (.ref f33) = true)
    (a34 : PySem.W.nsIn K mainGlobals "_law_caught" = some (some (.ref f34)))
    (l34 : K.lookup f34 = some ⟨oc34, od34, .func (PySem.W.fnOf "_law_caught" "_law_caught" (defArgs s__law_caught) (defBody s__law_caught) (defScope s__law_caught) .none kV34 dc34 pm34 an34 cd34 ct34), sl34⟩)
    (c34 : PySem.W.codeIn K cd34 "_law_caught" = true)
    (k34 : PySem.W.keepIn K (.ref f34) = true)
    (a35 : PySem.W.nsIn K mainGlobals "law" = some (some (.ref f35)))
    (l35 : K.lookup f35 = some ⟨oc35, od35, .func (PySem.W.fnOf "law" "law" (defArgs s_law) (defBody s_law) (defScope s_law) .none kV35 dc35 pm35 an35 (.ref ccL) ct35), sl35⟩)
    (c35 : PySem.W.codeIn K (.ref ccL) "law" = true)
    (k35 : PySem.W.keepIn K (.ref f35) = true)
    (z0 : PySem.W.nsIn K mainGlobals "isinstance" = some none)
    (z1 : PySem.W.nsIn K mainGlobals "int" = some none)
    (z2 : PySem.W.nsIn K mainGlobals "bool" = some none)
    (z3 : PySem.W.nsIn K mainGlobals "list" = some none)
    (z4 : PySem.W.nsIn K mainGlobals "tuple" = some none)
    (z5 : PySem.W.nsIn K mainGlobals "len" = some none)
    (z6 : PySem.W.nsIn K mainGlobals "str" = some none)
    (z7 : PySem.W.nsIn K mainGlobals "all" = some none)
    (z8 : PySem.W.nsIn K mainGlobals "abs" = some none)
    (z9 : PySem.W.nsIn K mainGlobals "range" = some none)
    (z10 : PySem.W.nsIn K mainGlobals "repr" = some none)
    (z11 : PySem.W.nsIn K mainGlobals "LookupError" = some none)
    (z12 : PySem.W.nsIn K mainGlobals "TypeError" = some none)
    (z13 : PySem.W.nsIn K mainGlobals "ArithmeticError" = some none)
    (z14 : PySem.W.nsIn K mainGlobals "AttributeError" = some none)
    (z15 : PySem.W.nsIn K mainGlobals "RuntimeError" = some none)
    (z16 : PySem.W.nsIn K mainGlobals "ValueError" = some none)
    (gN : PySem.W.nsIn K mainGlobals "LONGEST_NAME" = some (some (.int 8 tN1)))
    (gW : PySem.W.nsIn K mainGlobals "WAYS" = some (some (.ref fW)))
    (lW : K.lookup fW = some ⟨.type "tuple", odW, .seq itW nW, slW⟩)
    (zW : itW.size ≤ sizeLine)
    (vW : Vals [.str "turned", .str "mirrored", .str "moved"] itW.toList)
    (kn1 : PySem.W.kitOne K (.type "str") (.ref cAKind) = some false)
    (ri1 : PySem.W.readsIn K cAFieldError (.type "type") = true)
    (sp1 : PySem.W.specialIn K (.ref cAFieldError) "__getattribute__" = some (some (.builtin "type.__getattribute__")))
    (fi1 : PySem.W.findCls K (.ref cAFieldError) (.type "type") "__init__" = some (.val (.builtin "ValueError.__init__")))
    (mN : ([cABadNumber, cABadSquare, cABadKind, cABadGame, cABadPosition, cABadMove, cABadPlay, cABadPaper, cABadWords, cAMisfit, cANoName, cATwice, cATooMany, cABadText, cABadLine, cANothing, cAOver] : List Addr).Nodup)
    (mM : matB K [cABadNumber, cABadSquare, cABadKind, cABadGame, cABadPosition, cABadMove, cABadPlay, cABadPaper, cABadWords, cAMisfit, cANoName, cATwice, cATooMany, cABadText, cABadLine, cANothing, cAOver] = true)
    (mF : allB K [cABadNumber, cABadSquare, cABadKind, cABadGame, cABadPosition, cABadMove, cABadPlay, cABadPaper, cABadWords, cAMisfit, cANoName, cATwice, cATooMany, cABadText, cABadLine, cANothing, cAOver] (.ref cAFieldError) = true)
    (mV : allB K [cABadNumber, cABadSquare, cABadKind, cABadGame, cABadPosition, cABadMove, cABadPlay, cABadPaper, cABadWords, cAMisfit, cANoName, cATwice, cATooMany, cABadText, cABadLine, cANothing, cAOver] (.type "ValueError") = true)
    (mR : farB K [cABadNumber, cABadSquare, cABadKind, cABadGame, cABadPosition, cABadMove, cABadPlay, cABadPaper, cABadWords, cAMisfit, cANoName, cATwice, cATooMany, cABadText, cABadLine, cANothing, cAOver] = true)
    (mX : ([cABadNumber, cABadSquare, cABadKind, cABadGame, cABadPosition, cABadMove, cABadPlay, cABadPaper, cABadWords, cAMisfit, cANoName, cATwice, cATooMany, cABadText, cABadLine, cANothing, cAOver] : List Addr).all (xcB K) = true)
    (nT : K.lookup Tb = none)
    (hT : PySem.W.codeHdIn K ccL Tb = true) :
    ∃ (fd : FuncData) (cc : Addr), (∀ (s : Shared) (v : Value), BindsTo s fd ⟨[v], []⟩ [("script", v)]) ∧ K.lookup Tb = none ∧ PySem.W.codeHdIn K cc Tb = true ∧
      ∀ base : Heap, K.In base → base.Ns mainGlobals mg → LamX.TabB base mg cc Tb → FnG l.prog w K mg base CX0 14 fa fd ["script"] (spLaw K Tb) := by
  let T : Tx K mg := {
      c_Kind := cAKind,
      m_Kind := PySem.W.mg_of X G aCKind,
      cl_Kind := ⟨pgKind, hdKind, poKind, saKind⟩,
      mk_Kind := ⟨mkKind, a22, isFn_of t22, kcKind⟩,
      c_FieldError := cAFieldError,
      m_FieldError := PySem.W.mg_of X G aCFieldError,
      ox_FieldError := ⟨⟨_, _, _, _, _, _, _, _, _, _, _, _, _, _, _, xLFieldError, rfFieldError⟩, saFieldError, eCFieldError, tCFieldError, kcFieldError⟩,
      xf_FieldError := ⟨gaFieldError, ggFieldError, eCFieldError, hdFieldError⟩,
      c_BadNumber := cABadNumber,
      m_BadNumber := PySem.W.mg_of X G aCBadNumber,
      ox_BadNumber := ⟨⟨_, _, _, _, _, _, _, _, _, _, _, _, _, _, _, xLBadNumber, rfBadNumber⟩, saBadNumber, eCBadNumber, tCBadNumber, kcBadNumber⟩,
      xf_BadNumber := ⟨gaBadNumber, ggBadNumber, eCBadNumber, hdBadNumber⟩,
      no_BadNumber_part := noBadNumber_part,
      ic_BadNumber := a0,
      ti_BadNumber := t0,
      c_BadSquare := cABadSquare,
      m_BadSquare := PySem.W.mg_of X G aCBadSquare,
      ox_BadSquare := ⟨⟨_, _, _, _, _, _, _, _, _, _, _, _, _, _, _, xLBadSquare, rfBadSquare⟩, saBadSquare, eCBadSquare, tCBadSquare, kcBadSquare⟩,
      xf_BadSquare := ⟨gaBadSquare, ggBadSquare, eCBadSquare, hdBadSquare⟩,
      no_BadSquare_part := noBadSquare_part,
      ic_BadSquare := a1,
      ti_BadSquare := t1,
      c_BadKind := cABadKind,
      m_BadKind := PySem.W.mg_of X G aCBadKind,
      ox_BadKind := ⟨⟨_, _, _, _, _, _, _, _, _, _, _, _, _, _, _, xLBadKind, rfBadKind⟩, saBadKind, eCBadKind, tCBadKind, kcBadKind⟩,
      xf_BadKind := ⟨gaBadKind, ggBadKind, eCBadKind, hdBadKind⟩,
      no_BadKind_part := noBadKind_part,
      ic_BadKind := a2,
      ti_BadKind := t2,
      c_BadGame := cABadGame,
      m_BadGame := PySem.W.mg_of X G aCBadGame,
      ox_BadGame := ⟨⟨_, _, _, _, _, _, _, _, _, _, _, _, _, _, _, xLBadGame, rfBadGame⟩, saBadGame, eCBadGame, tCBadGame, kcBadGame⟩,
      xf_BadGame := ⟨gaBadGame, ggBadGame, eCBadGame, hdBadGame⟩,
      no_BadGame_part := noBadGame_part,
      ic_BadGame := a3,
      ti_BadGame := t3,
      c_BadPosition := cABadPosition,
      m_BadPosition := PySem.W.mg_of X G aCBadPosition,
      ox_BadPosition := ⟨⟨_, _, _, _, _, _, _, _, _, _, _, _, _, _, _, xLBadPosition, rfBadPosition⟩, saBadPosition, eCBadPosition, tCBadPosition, kcBadPosition⟩,
      xf_BadPosition := ⟨gaBadPosition, ggBadPosition, eCBadPosition, hdBadPosition⟩,
      no_BadPosition_part := noBadPosition_part,
      ic_BadPosition := a4,
      ti_BadPosition := t4,
      c_BadMove := cABadMove,
      m_BadMove := PySem.W.mg_of X G aCBadMove,
      ox_BadMove := ⟨⟨_, _, _, _, _, _, _, _, _, _, _, _, _, _, _, xLBadMove, rfBadMove⟩, saBadMove, eCBadMove, tCBadMove, kcBadMove⟩,
      xf_BadMove := ⟨gaBadMove, ggBadMove, eCBadMove, hdBadMove⟩,
      no_BadMove_part := noBadMove_part,
      ic_BadMove := a5,
      ti_BadMove := t5,
      c_BadPlay := cABadPlay,
      m_BadPlay := PySem.W.mg_of X G aCBadPlay,
      ox_BadPlay := ⟨⟨_, _, _, _, _, _, _, _, _, _, _, _, _, _, _, xLBadPlay, rfBadPlay⟩, saBadPlay, eCBadPlay, tCBadPlay, kcBadPlay⟩,
      xf_BadPlay := ⟨gaBadPlay, ggBadPlay, eCBadPlay, hdBadPlay⟩,
      no_BadPlay_part := noBadPlay_part,
      ic_BadPlay := a6,
      ti_BadPlay := t6,
      c_BadPaper := cABadPaper,
      m_BadPaper := PySem.W.mg_of X G aCBadPaper,
      ox_BadPaper := ⟨⟨_, _, _, _, _, _, _, _, _, _, _, _, _, _, _, xLBadPaper, rfBadPaper⟩, saBadPaper, eCBadPaper, tCBadPaper, kcBadPaper⟩,
      xf_BadPaper := ⟨gaBadPaper, ggBadPaper, eCBadPaper, hdBadPaper⟩,
      no_BadPaper_part := noBadPaper_part,
      ic_BadPaper := a7,
      ti_BadPaper := t7,
      c_BadWords := cABadWords,
      m_BadWords := PySem.W.mg_of X G aCBadWords,
      ox_BadWords := ⟨⟨_, _, _, _, _, _, _, _, _, _, _, _, _, _, _, xLBadWords, rfBadWords⟩, saBadWords, eCBadWords, tCBadWords, kcBadWords⟩,
      xf_BadWords := ⟨gaBadWords, ggBadWords, eCBadWords, hdBadWords⟩,
      no_BadWords_part := noBadWords_part,
      ic_BadWords := a8,
      ti_BadWords := t8,
      c_Misfit := cAMisfit,
      m_Misfit := PySem.W.mg_of X G aCMisfit,
      ox_Misfit := ⟨⟨_, _, _, _, _, _, _, _, _, _, _, _, _, _, _, xLMisfit, rfMisfit⟩, saMisfit, eCMisfit, tCMisfit, kcMisfit⟩,
      xf_Misfit := ⟨gaMisfit, ggMisfit, eCMisfit, hdMisfit⟩,
      no_Misfit_part := noMisfit_part,
      ic_Misfit := a9,
      ti_Misfit := t9,
      c_NoName := cANoName,
      m_NoName := PySem.W.mg_of X G aCNoName,
      ox_NoName := ⟨⟨_, _, _, _, _, _, _, _, _, _, _, _, _, _, _, xLNoName, rfNoName⟩, saNoName, eCNoName, tCNoName, kcNoName⟩,
      xf_NoName := ⟨gaNoName, ggNoName, eCNoName, hdNoName⟩,
      no_NoName_value := noNoName_value,
      ic_NoName := a10,
      ti_NoName := t10,
      c_Twice := cATwice,
      m_Twice := PySem.W.mg_of X G aCTwice,
      ox_Twice := ⟨⟨_, _, _, _, _, _, _, _, _, _, _, _, _, _, _, xLTwice, rfTwice⟩, saTwice, eCTwice, tCTwice, kcTwice⟩,
      xf_Twice := ⟨gaTwice, ggTwice, eCTwice, hdTwice⟩,
      no_Twice_value := noTwice_value,
      ic_Twice := a11,
      ti_Twice := t11,
      c_TooMany := cATooMany,
      m_TooMany := PySem.W.mg_of X G aCTooMany,
      ox_TooMany := ⟨⟨_, _, _, _, _, _, _, _, _, _, _, _, _, _, _, xLTooMany, rfTooMany⟩, saTooMany, eCTooMany, tCTooMany, kcTooMany⟩,
      xf_TooMany := ⟨gaTooMany, ggTooMany, eCTooMany, hdTooMany⟩,
      no_TooMany_what := noTooMany_what,
      no_TooMany_most := noTooMany_most,
      ic_TooMany := a12,
      ti_TooMany := t12,
      c_BadText := cABadText,
      m_BadText := PySem.W.mg_of X G aCBadText,
      ox_BadText := ⟨⟨_, _, _, _, _, _, _, _, _, _, _, _, _, _, _, xLBadText, rfBadText⟩, saBadText, eCBadText, tCBadText, kcBadText⟩,
      xf_BadText := ⟨gaBadText, ggBadText, eCBadText, hdBadText⟩,
      no_BadText_line := noBadText_line,
      no_BadText_item := noBadText_item,
      ic_BadText := a13,
      ti_BadText := t13,
      c_BadLine := cABadLine,
      m_BadLine := PySem.W.mg_of X G aCBadLine,
      ox_BadLine := ⟨⟨_, _, _, _, _, _, _, _, _, _, _, _, _, _, _, xLBadLine, rfBadLine⟩, saBadLine, eCBadLine, tCBadLine, kcBadLine⟩,
      xf_BadLine := ⟨gaBadLine, ggBadLine, eCBadLine, hdBadLine⟩,
      no_BadLine_line := noBadLine_line,
      no_BadLine_error := noBadLine_error,
      ic_BadLine := a14,
      ti_BadLine := t14,
      c_Nothing := cANothing,
      m_Nothing := PySem.W.mg_of X G aCNothing,
      ox_Nothing := ⟨⟨_, _, _, _, _, _, _, _, _, _, _, _, _, _, _, xLNothing, rfNothing⟩, saNothing, eCNothing, tCNothing, kcNothing⟩,
      xf_Nothing := ⟨gaNothing, ggNothing, eCNothing, hdNothing⟩,
      ic_Nothing := a15,
      ti_Nothing := t15,
      c_Over := cAOver,
      m_Over := PySem.W.mg_of X G aCOver,
      ox_Over := ⟨⟨_, _, _, _, _, _, _, _, _, _, _, _, _, _, _, xLOver, rfOver⟩, saOver, eCOver, tCOver, kcOver⟩,
      xf_Over := ⟨gaOver, ggOver, eCOver, hdOver⟩,
      ic_Over := a16,
      ti_Over := t16,
      xm_BadKind_FieldError := exm_by eCFieldError iCFieldError tCFieldError xmBadKind_FieldError,
      xm_BadMove_FieldError := exm_by eCFieldError iCFieldError tCFieldError xmBadMove_FieldError,
      xm_BadWords_FieldError := exm_by eCFieldError iCFieldError tCFieldError xmBadWords_FieldError,
      a_BadNumber___init__ := f0,
      d_BadNumber___init__ := _,
      F_BadNumber___init__ := fun_mk (st := s_BadNumber___init__) l0 c0 k0,
      b_BadNumber___init__ := (fun_mk (st := s_BadNumber___init__) l0 c0 k0).binds (ps := ["self", "part"]) fun _ _ _ _ _ _ us hl => match us, hl with | [_, _], _ => rfl,
      a_BadSquare___init__ := f1,
      d_BadSquare___init__ := _,
      F_BadSquare___init__ := fun_mk (st := s_BadSquare___init__) l1 c1 k1,
      b_BadSquare___init__ := (fun_mk (st := s_BadSquare___init__) l1 c1 k1).binds (ps := ["self", "part"]) fun _ _ _ _ _ _ us hl => match us, hl with | [_, _], _ => rfl,
      a_BadKind___init__ := f2,
      d_BadKind___init__ := _,
      F_BadKind___init__ := fun_mk (st := s_BadKind___init__) l2 c2 k2,
      b_BadKind___init__ := (fun_mk (st := s_BadKind___init__) l2 c2 k2).binds (ps := ["self", "part"]) fun _ _ _ _ _ _ us hl => match us, hl with | [_, _], _ => rfl,
      a_BadGame___init__ := f3,
      d_BadGame___init__ := _,
      F_BadGame___init__ := fun_mk (st := s_BadGame___init__) l3 c3 k3,
      b_BadGame___init__ := (fun_mk (st := s_BadGame___init__) l3 c3 k3).binds (ps := ["self", "part"]) fun _ _ _ _ _ _ us hl => match us, hl with | [_, _], _ => rfl,
      a_BadPosition___init__ := f4,
      d_BadPosition___init__ := _,
      F_BadPosition___init__ := fun_mk (st := s_BadPosition___init__) l4 c4 k4,
      b_BadPosition___init__ := (fun_mk (st := s_BadPosition___init__) l4 c4 k4).binds (ps := ["self", "part"]) fun _ _ _ _ _ _ us hl => match us, hl with | [_, _], _ => rfl,
      a_BadMove___init__ := f5,
      d_BadMove___init__ := _,
      F_BadMove___init__ := fun_mk (st := s_BadMove___init__) l5 c5 k5,
      b_BadMove___init__ := (fun_mk (st := s_BadMove___init__) l5 c5 k5).binds (ps := ["self", "part"]) fun _ _ _ _ _ _ us hl => match us, hl with | [_, _], _ => rfl,
      a_BadPlay___init__ := f6,
      d_BadPlay___init__ := _,
      F_BadPlay___init__ := fun_mk (st := s_BadPlay___init__) l6 c6 k6,
      b_BadPlay___init__ := (fun_mk (st := s_BadPlay___init__) l6 c6 k6).binds (ps := ["self", "part"]) fun _ _ _ _ _ _ us hl => match us, hl with | [_, _], _ => rfl,
      a_BadPaper___init__ := f7,
      d_BadPaper___init__ := _,
      F_BadPaper___init__ := fun_mk (st := s_BadPaper___init__) l7 c7 k7,
      b_BadPaper___init__ := (fun_mk (st := s_BadPaper___init__) l7 c7 k7).binds (ps := ["self", "part"]) fun _ _ _ _ _ _ us hl => match us, hl with | [_, _], _ => rfl,
      a_BadWords___init__ := f8,
      d_BadWords___init__ := _,
      F_BadWords___init__ := fun_mk (st := s_BadWords___init__) l8 c8 k8,
      b_BadWords___init__ := (fun_mk (st := s_BadWords___init__) l8 c8 k8).binds (ps := ["self", "part"]) fun _ _ _ _ _ _ us hl => match us, hl with | [_, _], _ => rfl,
      a_Misfit___init__ := f9,
      d_Misfit___init__ := _,
      F_Misfit___init__ := fun_mk (st := s_Misfit___init__) l9 c9 k9,
      b_Misfit___init__ := (fun_mk (st := s_Misfit___init__) l9 c9 k9).binds (ps := ["self", "part"]) fun _ _ _ _ _ _ us hl => match us, hl with | [_, _], _ => rfl,
      a_NoName___init__ := f10,
      d_NoName___init__ := _,
      F_NoName___init__ := fun_mk (st := s_NoName___init__) l10 c10 k10,
      b_NoName___init__ := (fun_mk (st := s_NoName___init__) l10 c10 k10).binds (ps := ["self", "value"]) fun _ _ _ _ _ _ us hl => match us, hl with | [_, _], _ => rfl,
      a_Twice___init__ := f11,
      d_Twice___init__ := _,
      F_Twice___init__ := fun_mk (st := s_Twice___init__) l11 c11 k11,
      b_Twice___init__ := (fun_mk (st := s_Twice___init__) l11 c11 k11).binds (ps := ["self", "value"]) fun _ _ _ _ _ _ us hl => match us, hl with | [_, _], _ => rfl,
      a_TooMany___init__ := f12,
      d_TooMany___init__ := _,
      F_TooMany___init__ := fun_mk (st := s_TooMany___init__) l12 c12 k12,
      b_TooMany___init__ := (fun_mk (st := s_TooMany___init__) l12 c12 k12).binds (ps := ["self", "what", "most"]) fun _ _ _ _ _ _ us hl => match us, hl with | [_, _, _], _ => rfl,
      a_BadText___init__ := f13,
      d_BadText___init__ := _,
      F_BadText___init__ := fun_mk (st := s_BadText___init__) l13 c13 k13,
      b_BadText___init__ := (fun_mk (st := s_BadText___init__) l13 c13 k13).binds (ps := ["self", "line", "item"]) fun _ _ _ _ _ _ us hl => match us, hl with | [_, _, _], _ => rfl,
      a_BadLine___init__ := f14,
      d_BadLine___init__ := _,
      F_BadLine___init__ := fun_mk (st := s_BadLine___init__) l14 c14 k14,
      b_BadLine___init__ := (fun_mk (st := s_BadLine___init__) l14 c14 k14).binds (ps := ["self", "line", "error"]) fun _ _ _ _ _ _ us hl => match us, hl with | [_, _, _], _ => rfl,
      a_Nothing___init__ := f15,
      d_Nothing___init__ := _,
      F_Nothing___init__ := fun_mk (st := s_Nothing___init__) l15 c15 k15,
      b_Nothing___init__ := (fun_mk (st := s_Nothing___init__) l15 c15 k15).binds (ps := ["self"]) fun _ _ _ _ _ _ us hl => match us, hl with | [_], _ => rfl,
      a_Over___init__ := f16,
      d_Over___init__ := _,
      F_Over___init__ := fun_mk (st := s_Over___init__) l16 c16 k16,
      b_Over___init__ := (fun_mk (st := s_Over___init__) l16 c16 k16).binds (ps := ["self"]) fun _ _ _ _ _ _ us hl => match us, hl with | [_], _ => rfl,
      a_is_integer := f17,
      d_is_integer := _,
      F_is_integer := fun_mk (st := s_is_integer) l17 c17 k17,
      m_is_integer := PySem.W.mg_of X G a17,
      b_is_integer := (fun_mk (st := s_is_integer) l17 c17 k17).binds (ps := ["value"]) fun _ _ _ _ _ _ us hl => match us, hl with | [_], _ => rfl,
      a_is_list := f18,
      d_is_list := _,
      F_is_list := fun_mk (st := s_is_list) l18 c18 k18,
      m_is_list := PySem.W.mg_of X G a18,
      b_is_list := (fun_mk (st := s_is_list) l18 c18 k18).binds (ps := ["value"]) fun _ _ _ _ _ _ us hl => match us, hl with | [_], _ => rfl,
      a_is_square := f19,
      d_is_square := _,
      F_is_square := fun_mk (st := s_is_square) l19 c19 k19,
      m_is_square := PySem.W.mg_of X G a19,
      b_is_square := (fun_mk (st := s_is_square) l19 c19 k19).binds (ps := ["value"]) fun _ _ _ _ _ _ us hl => match us, hl with | [_], _ => rfl,
      a_is_move := f20,
      d_is_move := _,
      F_is_move := fun_mk (st := s_is_move) l20 c20 k20,
      m_is_move := PySem.W.mg_of X G a20,
      b_is_move := (fun_mk (st := s_is_move) l20 c20 k20).binds (ps := ["value"]) fun _ _ _ _ _ _ us hl => match us, hl with | [_], _ => rfl,
      a_is_name := f21,
      d_is_name := _,
      F_is_name := fun_mk (st := s_is_name) l21 c21 k21,
      m_is_name := PySem.W.mg_of X G a21,
      b_is_name := (fun_mk (st := s_is_name) l21 c21 k21).binds (ps := ["value"]) fun _ _ _ _ _ _ us hl => match us, hl with | [_], _ => rfl,
      a_Kind___init__ := f22,
      d_Kind___init__ := _,
      F_Kind___init__ := ⟨⟨_, _, _, _, _, _, _, _, _, _, rfl, l22, c22, .inr ⟨fun z => (nomatch z), _, _, _, _, rfl, dl22, seq_list, vE⟩, .inl rfl⟩, k22⟩,
      a_steps_of := f23,
      d_steps_of := _,
      F_steps_of := fun_mk (st := s_steps_of) l23 c23 k23,
      m_steps_of := PySem.W.mg_of X G a23,
      b_steps_of := (fun_mk (st := s_steps_of) l23 c23 k23).binds (ps := ["kind"]) fun _ _ _ _ _ _ us hl => match us, hl with | [_], _ => rfl,
      a_gone_along := f24,
      d_gone_along := _,
      F_gone_along := ⟨⟨_, _, _, _, _, _, _, _, _, _, rfl, l24, c24, .inr ⟨fun z => (nomatch z), _, _, _, _, rfl, dl24, seq_list, vG⟩, .inl rfl⟩, k24⟩,
      a__law_pail := f25,
      d__law_pail := _,
      F__law_pail := fun_mk (st := s__law_pail) l25 c25 k25,
      m__law_pail := PySem.W.mg_of X G a25,
      b__law_pail := (fun_mk (st := s__law_pail) l25 c25 k25).binds (ps := ["script"]) fun _ _ _ _ _ _ us hl => match us, hl with | [_], _ => rfl,
      a__law_scoop := f26,
      d__law_scoop := _,
      F__law_scoop := fun_mk (st := s__law_scoop) l26 c26 k26,
      m__law_scoop := PySem.W.mg_of X G a26,
      b__law_scoop := (fun_mk (st := s__law_scoop) l26 c26 k26).binds (ps := ["pail", "many"]) fun _ _ _ _ _ _ us hl => match us, hl with | [_, _], _ => rfl,
      a__law_one := f27,
      d__law_one := _,
      F__law_one := fun_mk (st := s__law_one) l27 c27 k27,
      m__law_one := PySem.W.mg_of X G a27,
      b__law_one := (fun_mk (st := s__law_one) l27 c27 k27).binds (ps := ["pail", "some"]) fun _ _ _ _ _ _ us hl => match us, hl with | [_, _], _ => rfl,
      a__law_value := f28,
      d__law_value := _,
      F__law_value := fun_mk (st := s__law_value) l28 c28 k28,
      m__law_value := PySem.W.mg_of X G a28,
      b__law_value := (fun_mk (st := s__law_value) l28 c28 k28).binds (ps := ["pail"]) fun _ _ _ _ _ _ us hl => match us, hl with | [_], _ => rfl,
      a__law_by_place := f29,
      d__law_by_place := _,
      F__law_by_place := fun_mk (st := s__law_by_place) l29 c29 k29,
      m__law_by_place := PySem.W.mg_of X G a29,
      b__law_by_place := (fun_mk (st := s__law_by_place) l29 c29 k29).binds (ps := ["at", "one", "other"]) fun _ _ _ _ _ _ us hl => match us, hl with | [_, _, _], _ => rfl,
      a__law_by_name := f30,
      d__law_by_name := _,
      F__law_by_name := fun_mk (st := s__law_by_name) l30 c30 k30,
      m__law_by_name := PySem.W.mg_of X G a30,
      b__law_by_name := (fun_mk (st := s__law_by_name) l30 c30 k30).binds (ps := ["at", "one", "other"]) fun _ _ _ _ _ _ us hl => match us, hl with | [_, _, _], _ => rfl,
      a__law_fields := f31,
      d__law_fields := _,
      F__law_fields := fun_mk (st := s__law_fields) l31 c31 k31,
      m__law_fields := PySem.W.mg_of X G a31,
      b__law_fields := (fun_mk (st := s__law_fields) l31 c31 k31).binds (ps := ["at", "error"]) fun _ _ _ _ _ _ us hl => match us, hl with | [_, _], _ => rfl,
      a__law_flags := f32,
      d__law_flags := _,
      F__law_flags := fun_mk (st := s__law_flags) l32 c32 k32,
      m__law_flags := PySem.W.mg_of X G a32,
      b__law_flags := (fun_mk (st := s__law_flags) l32 c32 k32).binds (ps := ["error"]) fun _ _ _ _ _ _ us hl => match us, hl with | [_], _ => rfl,
      a__law_is_far := f33,
      d__law_is_far := _,
      F__law_is_far := fun_mk (st := s__law_is_far) l33 c33 k33,
      m__law_is_far := PySem.W.mg_of X G a33,
      b__law_is_far := (fun_mk (st := s__law_is_far) l33 c33 k33).binds (ps := ["error"]) fun _ _ _ _ _ _ us hl => match us, hl with | [_], _ => rfl,
      a__law_caught := f34,
      d__law_caught := _,
      F__law_caught := fun_mk (st := s__law_caught) l34 c34 k34,
      m__law_caught := PySem.W.mg_of X G a34,
      b__law_caught := (fun_mk (st := s__law_caught) l34 c34 k34).binds (ps := ["ask"]) fun _ _ _ _ _ _ us hl => match us, hl with | [_], _ => rfl,
      a_law := f35,
      d_law := _,
      F_law := fun_mk (st := s_law) l35 c35 k35,
      m_law := PySem.W.mg_of X G a35,
      b_law := (fun_mk (st := s_law) l35 c35 k35).binds (ps := ["script"]) fun _ _ _ _ _ _ us hl => match us, hl with | [_], _ => rfl,
      z_isinstance := PySem.W.mg_none_of X G z0,
      z_int := PySem.W.mg_none_of X G z1,
      z_bool := PySem.W.mg_none_of X G z2,
      z_list := PySem.W.mg_none_of X G z3,
      z_tuple := PySem.W.mg_none_of X G z4,
      z_len := PySem.W.mg_none_of X G z5,
      z_str := PySem.W.mg_none_of X G z6,
      z_all := PySem.W.mg_none_of X G z7,
      z_abs := PySem.W.mg_none_of X G z8,
      z_range := PySem.W.mg_none_of X G z9,
      z_repr := PySem.W.mg_none_of X G z10,
      z_LookupError := PySem.W.mg_none_of X G z11,
      z_TypeError := PySem.W.mg_none_of X G z12,
      z_ArithmeticError := PySem.W.mg_none_of X G z13,
      z_AttributeError := PySem.W.mg_none_of X G z14,
      z_RuntimeError := PySem.W.mg_none_of X G z15,
      z_ValueError := PySem.W.mg_none_of X G z16,
      t_E := eT,
      m_gone := PySem.W.mg_of X G a24,
      g_LONGEST := ⟨_, PySem.W.mg_of X G gN⟩,
      t_W := fW,
      g_W := PySem.W.mg_of X G gW,
      s_W := fun _ => .inr ⟨_, itW, nW, lW, rfl, rfl, zW, vW⟩,
      kn_Kind := kn1,
      bi_F := ⟨ri1, sp1, fi1⟩,
      kk := mat_ok mN mM,
      kF := all_ok mF,
      kV := all_ok mV,
      kfar := far_ok mR,
      xc := xc_ok mX,
      kb_BadNumber := ⟨fun s us ws _ h1 h2 => match us, ws, h1, h2 with | [_], [_], _, _ => .of_eq rfl, fun {vs us zs ws} h1 h2 r1 r2 => match zs, ws, r2 with | [_], _, .cons a .nil => r1.append (.cons a .nil)⟩,
      kb_BadSquare := ⟨fun s us ws _ h1 h2 => match us, ws, h1, h2 with | [_], [_], _, _ => .of_eq rfl, fun {vs us zs ws} h1 h2 r1 r2 => match zs, ws, r2 with | [_], _, .cons a .nil => r1.append (.cons a .nil)⟩,
      kb_BadKind := ⟨fun s us ws _ h1 h2 => match us, ws, h1, h2 with | [_], [_], _, _ => .of_eq rfl, fun {vs us zs ws} h1 h2 r1 r2 => match zs, ws, r2 with | [_], _, .cons a .nil => r1.append (.cons a .nil)⟩,
      kb_BadGame := ⟨fun s us ws _ h1 h2 => match us, ws, h1, h2 with | [_], [_], _, _ => .of_eq rfl, fun {vs us zs ws} h1 h2 r1 r2 => match zs, ws, r2 with | [_], _, .cons a .nil => r1.append (.cons a .nil)⟩,
      kb_BadPosition := ⟨fun s us ws _ h1 h2 => match us, ws, h1, h2 with | [_], [_], _, _ => .of_eq rfl, fun {vs us zs ws} h1 h2 r1 r2 => match zs, ws, r2 with | [_], _, .cons a .nil => r1.append (.cons a .nil)⟩,
      kb_BadMove := ⟨fun s us ws _ h1 h2 => match us, ws, h1, h2 with | [_], [_], _, _ => .of_eq rfl, fun {vs us zs ws} h1 h2 r1 r2 => match zs, ws, r2 with | [_], _, .cons a .nil => r1.append (.cons a .nil)⟩,
      kb_BadPlay := ⟨fun s us ws _ h1 h2 => match us, ws, h1, h2 with | [_], [_], _, _ => .of_eq rfl, fun {vs us zs ws} h1 h2 r1 r2 => match zs, ws, r2 with | [_], _, .cons a .nil => r1.append (.cons a .nil)⟩,
      kb_BadPaper := ⟨fun s us ws _ h1 h2 => match us, ws, h1, h2 with | [_], [_], _, _ => .of_eq rfl, fun {vs us zs ws} h1 h2 r1 r2 => match zs, ws, r2 with | [_], _, .cons a .nil => r1.append (.cons a .nil)⟩,
      kb_BadWords := ⟨fun s us ws _ h1 h2 => match us, ws, h1, h2 with | [_], [_], _, _ => .of_eq rfl, fun {vs us zs ws} h1 h2 r1 r2 => match zs, ws, r2 with | [_], _, .cons a .nil => r1.append (.cons a .nil)⟩,
      kb_Misfit := ⟨fun s us ws _ h1 h2 => match us, ws, h1, h2 with | [_], [_], _, _ => .of_eq rfl, fun {vs us zs ws} h1 h2 r1 r2 => match zs, ws, r2 with | [_], _, .cons a .nil => r1.append (.cons a .nil)⟩,
      kb_NoName := ⟨fun s us ws _ h1 h2 => match us, ws, h1, h2 with | [_], [_], _, _ => .of_eq rfl, fun {vs us zs ws} h1 h2 r1 r2 => match zs, ws, r2 with | [_], _, .cons a .nil => r1.append (.cons a .nil)⟩,
      kb_Twice := ⟨fun s us ws _ h1 h2 => match us, ws, h1, h2 with | [_], [_], _, _ => .of_eq rfl, fun {vs us zs ws} h1 h2 r1 r2 => match zs, ws, r2 with | [_], _, .cons a .nil => r1.append (.cons a .nil)⟩,
      kb_TooMany := ⟨fun s us ws _ h1 h2 => match us, ws, h1, h2 with | [_], [_, _], _, _ => .of_eq rfl, fun {vs us zs ws} h1 h2 r1 r2 => match zs, ws, r2 with | [_, _], _, .cons a (.cons b .nil) => r1.append (.cons b (.cons a .nil))⟩,
      kb_BadText := ⟨fun s us ws _ h1 h2 => match us, ws, h1, h2 with | [_], [_, _], _, _ => .of_eq rfl, fun {vs us zs ws} h1 h2 r1 r2 => match zs, ws, r2 with | [_, _], _, .cons a (.cons b .nil) => r1.append (.cons b (.cons a .nil))⟩,
      kb_BadLine := ⟨fun s us ws _ h1 h2 => match us, ws, h1, h2 with | [_], [_, _], _, _ => .of_eq rfl, fun {vs us zs ws} h1 h2 r1 r2 => match zs, ws, r2 with | [_, _], _, .cons a (.cons b .nil) => r1.append (.cons b (.cons a .nil))⟩ }
  have e : T.a_law = fa := by
    have := T.m_law.symm.trans hfa
    exact Value.ref.inj (Option.some.inj this)
  refine ⟨T.d_law, ccL, fun s v => .of_eq rfl, nT, hT, fun base _ _ TB => ?_⟩
  rw [← e]
  exact G_law T TB rfl
end K0

open PySem PySem.W PyProof.Rows
set_option maxRecDepth 100000
set_option maxHeartbeats 0 in
theorem PySem.Challenge.cw_gapsame_k00_errors_keep_their_fields_holds : PySem.Challenge.rw_gapsame_k00_errors_keep_their_fields.Holds := by
  w_on; o_law; k_head; (case hw => w_witness2)
  k_fill
  refine Gs.walkGT (l := PySem.Challenge.rw_gapsame_k00_errors_keep_their_fields) (k := 14) (x := "script") (T := 683) (sp := fun K => K0.spLaw K 683) rfl rfl ⟨rfl, by decide, by decide⟩ (fun w h Y => PySem.W.km_in_of Y) (fun w h Y => PySem.W.km_tabs_of Y 683 List.mem_cons_self) ?F
    (fun K H a ns hl hT hS => ⟨a, ns, rfl, hS, hl, Gs.tabs_none hT, fun _ => rfl⟩)
  case F =>
    intro w mg fa h KX G hmg
    refine' K0.all_mk (Tb := 683) KX G hmg ?aCKind ?pgKind ?hdKind ?poKind ?saKind ?mkKind ?kcKind ?aCFieldError ?xLFieldError ?rfFieldError ?saFieldError ?eCFieldError ?tCFieldError ?kcFieldError ?hdFieldError ?iCFieldError ?gaFieldError ?ggFieldError ?aCBadNumber ?xLBadNumber ?rfBadNumber ?saBadNumber ?eCBadNumber ?tCBadNumber ?kcBadNumber ?hdBadNumber ?iCBadNumber ?gaBadNumber ?ggBadNumber ?noBadNumber_part ?aCBadSquare ?xLBadSquare ?rfBadSquare ?saBadSquare ?eCBadSquare ?tCBadSquare ?kcBadSquare ?hdBadSquare ?iCBadSquare ?gaBadSquare ?ggBadSquare ?noBadSquare_part ?aCBadKind ?xLBadKind ?rfBadKind ?saBadKind ?eCBadKind ?tCBadKind ?kcBadKind ?hdBadKind ?iCBadKind ?gaBadKind ?ggBadKind ?noBadKind_part ?aCBadGame ?xLBadGame ?rfBadGame ?saBadGame ?eCBadGame ?tCBadGame ?kcBadGame ?hdBadGame ?iCBadGame ?gaBadGame ?ggBadGame ?noBadGame_part ?aCBadPosition ?xLBadPosition ?rfBadPosition ?saBadPosition ?eCBadPosition ?tCBadPosition ?kcBadPosition ?hdBadPosition ?iCBadPosition ?gaBadPosition ?ggBadPosition ?noBadPosition_part ?aCBadMove ?xLBadMove ?rfBadMove ?saBadMove ?eCBadMove ?tCBadMove ?kcBadMove ?hdBadMove ?iCBadMove ?gaBadMove ?ggBadMove ?noBadMove_part ?aCBadPlay ?xLBadPlay ?rfBadPlay ?saBadPlay ?eCBadPlay ?tCBadPlay ?kcBadPlay ?hdBadPlay ?iCBadPlay ?gaBadPlay ?ggBadPlay ?noBadPlay_part ?aCBadPaper ?xLBadPaper ?rfBadPaper ?saBadPaper ?eCBadPaper ?tCBadPaper ?kcBadPaper ?hdBadPaper ?iCBadPaper ?gaBadPaper ?ggBadPaper ?noBadPaper_part ?aCBadWords ?xLBadWords ?rfBadWords ?saBadWords ?eCBadWords ?tCBadWords ?kcBadWords ?hdBadWords ?iCBadWords ?gaBadWords ?ggBadWords ?noBadWords_part ?aCMisfit ?xLMisfit ?rfMisfit ?saMisfit ?eCMisfit ?tCMisfit ?kcMisfit ?hdMisfit ?iCMisfit ?gaMisfit ?ggMisfit ?noMisfit_part ?aCNoName ?xLNoName ?rfNoName ?saNoName ?eCNoName ?tCNoName ?kcNoName ?hdNoName ?iCNoName ?gaNoName ?ggNoName ?noNoName_value ?aCTwice ?xLTwice ?rfTwice ?saTwice ?eCTwice ?tCTwice ?kcTwice ?hdTwice ?iCTwice ?gaTwice ?ggTwice ?noTwice_value ?aCTooMany ?xLTooMany ?rfTooMany ?saTooMany ?eCTooMany ?tCTooMany ?kcTooMany ?hdTooMany ?iCTooMany ?gaTooMany ?ggTooMany ?noTooMany_what ?noTooMany_most ?aCBadText ?xLBadText ?rfBadText ?saBadText ?eCBadText ?tCBadText ?kcBadText ?hdBadText ?iCBadText ?gaBadText ?ggBadText ?noBadText_line ?noBadText_item ?aCBadLine ?xLBadLine ?rfBadLine ?saBadLine ?eCBadLine ?tCBadLine ?kcBadLine ?hdBadLine ?iCBadLine ?gaBadLine ?ggBadLine ?noBadLine_line ?noBadLine_error ?aCNothing ?xLNothing ?rfNothing ?saNothing ?eCNothing ?tCNothing ?kcNothing ?hdNothing ?iCNothing ?gaNothing ?ggNothing ?aCOver ?xLOver ?rfOver ?saOver ?eCOver ?tCOver ?kcOver ?hdOver ?iCOver ?gaOver ?ggOver ?xmBadKind_FieldError ?xmBadMove_FieldError ?xmBadWords_FieldError ?a0 ?t0 ?l0 ?c0 ?k0 ?a1 ?t1 ?l1 ?c1 ?k1 ?a2 ?t2 ?l2 ?c2 ?k2 ?a3 ?t3 ?l3 ?c3 ?k3 ?a4 ?t4 ?l4 ?c4 ?k4 ?a5 ?t5 ?l5 ?c5 ?k5 ?a6 ?t6 ?l6 ?c6 ?k6 ?a7 ?t7 ?l7 ?c7 ?k7 ?a8 ?t8 ?l8 ?c8 ?k8 ?a9 ?t9 ?l9 ?c9 ?k9 ?a10 ?t10 ?l10 ?c10 ?k10 ?a11 ?t11 ?l11 ?c11 ?k11 ?a12 ?t12 ?l12 ?c12 ?k12 ?a13 ?t13 ?l13 ?c13 ?k13 ?a14 ?t14 ?l14 ?c14 ?k14 ?a15 ?t15 ?l15 ?c15 ?k15 ?a16 ?t16 ?l16 ?c16 ?k16 ?a17 ?l17 ?c17 ?k17 ?a18 ?l18 ?c18 ?k18 ?a19 ?l19 ?c19 ?k19 ?a20 ?l20 ?c20 ?k20 ?a21 ?l21 ?c21 ?k21 ?a22 ?t22 ?l22 ?c22 ?k22 ?dl22 ?vE ?a23 ?l23 ?c23 ?k23 ?a24 ?l24 ?c24 ?k24 ?dl24 ?vG ?a25 ?l25 ?c25 ?k25 ?a26 ?l26 ?c26 ?k26 ?a27 ?l27 ?c27 ?k27 ?a28 ?l28 ?c28 ?k28 ?a29 ?l29 ?c29 ?k29 ?a30 ?l30 ?c30 ?k30 ?a31 ?l31 ?c31 ?k31 ?a32 ?l32 ?c32 ?k32 ?a33 ?l33 ?c33 ?k33 ?a34 ?l34 ?c34 ?k34 ?a35 ?l35 ?c35 ?k35 ?z0 ?z1 ?z2 ?z3 ?z4 ?z5 ?z6 ?z7 ?z8 ?z9 ?z10 ?z11 ?z12 ?z13 ?z14 ?z15 ?z16 ?gN ?gW ?lW ?zW ?vW ?kn1 ?ri1 ?sp1 ?fi1 ?mN ?mM ?mF ?mV ?mR ?mX ?nT ?hT
    (case aCKind => k_is)
    (case pgKind => k_is)
    (case hdKind => k_is)
    (case poKind => k_is)
    (case saKind => k_is)
    (case mkKind => k_is)
    (case kcKind => k_is)
    (case aCFieldError => k_is)
    (case xLFieldError => k_is)
    (case rfFieldError => decide +kernel)
    (case saFieldError => k_is)
    (case eCFieldError => k_is)
    (case tCFieldError => k_is)
    (case kcFieldError => k_is)
    (case hdFieldError => k_is)
    (case iCFieldError => k_is)
    (case gaFieldError => k_is)
    (case ggFieldError => k_is)
    (case aCBadNumber => k_is)
    (case xLBadNumber => k_is)
    (case rfBadNumber => decide +kernel)
    (case saBadNumber => k_is)
    (case eCBadNumber => k_is)
    (case tCBadNumber => k_is)
    (case kcBadNumber => k_is)
    (case hdBadNumber => k_is)
    (case iCBadNumber => k_is)
    (case gaBadNumber => k_is)
    (case ggBadNumber => k_is)
    (case noBadNumber_part => k_is)
    (case aCBadSquare => k_is)
    (case xLBadSquare => k_is)
    (case rfBadSquare => decide +kernel)
    (case saBadSquare => k_is)
    (case eCBadSquare => k_is)
    (case tCBadSquare => k_is)
    (case kcBadSquare => k_is)
    (case hdBadSquare => k_is)
    (case iCBadSquare => k_is)
    (case gaBadSquare => k_is)
    (case ggBadSquare => k_is)
    (case noBadSquare_part => k_is)
    (case aCBadKind => k_is)
    (case xLBadKind => k_is)
    (case rfBadKind => decide +kernel)
    (case saBadKind => k_is)
    (case eCBadKind => k_is)
    (case tCBadKind => k_is)
    (case kcBadKind => k_is)
    (case hdBadKind => k_is)
    (case iCBadKind => k_is)
    (case gaBadKind => k_is)
    (case ggBadKind => k_is)
    (case noBadKind_part => k_is)
    (case aCBadGame => k_is)
    (case xLBadGame => k_is)
    (case rfBadGame => decide +kernel)
    (case saBadGame => k_is)
    (case eCBadGame => k_is)
    (case tCBadGame => k_is)
    (case kcBadGame => k_is)
    (case hdBadGame => k_is)
    (case iCBadGame => k_is)
    (case gaBadGame => k_is)
    (case ggBadGame => k_is)
    (case noBadGame_part => k_is)
    (case aCBadPosition => k_is)
    (case xLBadPosition => k_is)
    (case rfBadPosition => decide +kernel)
    (case saBadPosition => k_is)
    (case eCBadPosition => k_is)
    (case tCBadPosition => k_is)
    (case kcBadPosition => k_is)
    (case hdBadPosition => k_is)
    (case iCBadPosition => k_is)
    (case gaBadPosition => k_is)
    (case ggBadPosition => k_is)
    (case noBadPosition_part => k_is)
    (case aCBadMove => k_is)
    (case xLBadMove => k_is)
    (case rfBadMove => decide +kernel)
    (case saBadMove => k_is)
    (case eCBadMove => k_is)
    (case tCBadMove => k_is)
    (case kcBadMove => k_is)
    (case hdBadMove => k_is)
    (case iCBadMove => k_is)
    (case gaBadMove => k_is)
    (case ggBadMove => k_is)
    (case noBadMove_part => k_is)
    (case aCBadPlay => k_is)
    (case xLBadPlay => k_is)
    (case rfBadPlay => decide +kernel)
    (case saBadPlay => k_is)
    (case eCBadPlay => k_is)
    (case tCBadPlay => k_is)
    (case kcBadPlay => k_is)
    (case hdBadPlay => k_is)
    (case iCBadPlay => k_is)
    (case gaBadPlay => k_is)
    (case ggBadPlay => k_is)
    (case noBadPlay_part => k_is)
    (case aCBadPaper => k_is)
    (case xLBadPaper => k_is)
    (case rfBadPaper => decide +kernel)
    (case saBadPaper => k_is)
    (case eCBadPaper => k_is)
    (case tCBadPaper => k_is)
    (case kcBadPaper => k_is)
    (case hdBadPaper => k_is)
    (case iCBadPaper => k_is)
    (case gaBadPaper => k_is)
    (case ggBadPaper => k_is)
    (case noBadPaper_part => k_is)
    (case aCBadWords => k_is)
    (case xLBadWords => k_is)
    (case rfBadWords => decide +kernel)
    (case saBadWords => k_is)
    (case eCBadWords => k_is)
    (case tCBadWords => k_is)
    (case kcBadWords => k_is)
    (case hdBadWords => k_is)
    (case iCBadWords => k_is)
    (case gaBadWords => k_is)
    (case ggBadWords => k_is)
    (case noBadWords_part => k_is)
    (case aCMisfit => k_is)
    (case xLMisfit => k_is)
    (case rfMisfit => decide +kernel)
    (case saMisfit => k_is)
    (case eCMisfit => k_is)
    (case tCMisfit => k_is)
    (case kcMisfit => k_is)
    (case hdMisfit => k_is)
    (case iCMisfit => k_is)
    (case gaMisfit => k_is)
    (case ggMisfit => k_is)
    (case noMisfit_part => k_is)
    (case aCNoName => k_is)
    (case xLNoName => k_is)
    (case rfNoName => decide +kernel)
    (case saNoName => k_is)
    (case eCNoName => k_is)
    (case tCNoName => k_is)
    (case kcNoName => k_is)
    (case hdNoName => k_is)
    (case iCNoName => k_is)
    (case gaNoName => k_is)
    (case ggNoName => k_is)
    (case noNoName_value => k_is)
    (case aCTwice => k_is)
    (case xLTwice => k_is)
    (case rfTwice => decide +kernel)
    (case saTwice => k_is)
    (case eCTwice => k_is)
    (case tCTwice => k_is)
    (case kcTwice => k_is)
    (case hdTwice => k_is)
    (case iCTwice => k_is)
    (case gaTwice => k_is)
    (case ggTwice => k_is)
    (case noTwice_value => k_is)
    (case aCTooMany => k_is)
    (case xLTooMany => k_is)
    (case rfTooMany => decide +kernel)
    (case saTooMany => k_is)
    (case eCTooMany => k_is)
    (case tCTooMany => k_is)
    (case kcTooMany => k_is)
    (case hdTooMany => k_is)
    (case iCTooMany => k_is)
    (case gaTooMany => k_is)
    (case ggTooMany => k_is)
    (case noTooMany_what => k_is)
    (case noTooMany_most => k_is)
    (case aCBadText => k_is)
    (case xLBadText => k_is)
    (case rfBadText => decide +kernel)
    (case saBadText => k_is)
    (case eCBadText => k_is)
    (case tCBadText => k_is)
    (case kcBadText => k_is)
    (case hdBadText => k_is)
    (case iCBadText => k_is)
    (case gaBadText => k_is)
    (case ggBadText => k_is)
    (case noBadText_line => k_is)
    (case noBadText_item => k_is)
    (case aCBadLine => k_is)
    (case xLBadLine => k_is)
    (case rfBadLine => decide +kernel)
    (case saBadLine => k_is)
    (case eCBadLine => k_is)
    (case tCBadLine => k_is)
    (case kcBadLine => k_is)
    (case hdBadLine => k_is)
    (case iCBadLine => k_is)
    (case gaBadLine => k_is)
    (case ggBadLine => k_is)
    (case noBadLine_line => k_is)
    (case noBadLine_error => k_is)
    (case aCNothing => k_is)
    (case xLNothing => k_is)
    (case rfNothing => decide +kernel)
    (case saNothing => k_is)
    (case eCNothing => k_is)
    (case tCNothing => k_is)
    (case kcNothing => k_is)
    (case hdNothing => k_is)
    (case iCNothing => k_is)
    (case gaNothing => k_is)
    (case ggNothing => k_is)
    (case aCOver => k_is)
    (case xLOver => k_is)
    (case rfOver => decide +kernel)
    (case saOver => k_is)
    (case eCOver => k_is)
    (case tCOver => k_is)
    (case kcOver => k_is)
    (case hdOver => k_is)
    (case iCOver => k_is)
    (case gaOver => k_is)
    (case ggOver => k_is)
    (case xmBadKind_FieldError => k_is)
    (case xmBadMove_FieldError => k_is)
    (case xmBadWords_FieldError => k_is)
    (case a0 => k_is)
    (case t0 => k_is)
    (case l0 => k_is)
    (case c0 => k_is)
    (case k0 => k_is)
    (case a1 => k_is)
    (case t1 => k_is)
    (case l1 => k_is)
    (case c1 => k_is)
    (case k1 => k_is)
    (case a2 => k_is)
    (case t2 => k_is)
    (case l2 => k_is)
    (case c2 => k_is)
    (case k2 => k_is)
    (case a3 => k_is)
    (case t3 => k_is)
    (case l3 => k_is)
    (case c3 => k_is)
    (case k3 => k_is)
    (case a4 => k_is)
    (case t4 => k_is)
    (case l4 => k_is)
    (case c4 => k_is)
    (case k4 => k_is)
    (case a5 => k_is)
    (case t5 => k_is)
    (case l5 => k_is)
    (case c5 => k_is)
    (case k5 => k_is)
    (case a6 => k_is)
    (case t6 => k_is)
    (case l6 => k_is)
    (case c6 => k_is)
    (case k6 => k_is)
    (case a7 => k_is)
    (case t7 => k_is)
    (case l7 => k_is)
    (case c7 => k_is)
    (case k7 => k_is)
    (case a8 => k_is)
    (case t8 => k_is)
    (case l8 => k_is)
    (case c8 => k_is)
    (case k8 => k_is)
    (case a9 => k_is)
    (case t9 => k_is)
    (case l9 => k_is)
    (case c9 => k_is)
    (case k9 => k_is)
    (case a10 => k_is)
    (case t10 => k_is)
    (case l10 => k_is)
    (case c10 => k_is)
    (case k10 => k_is)
    (case a11 => k_is)
    (case t11 => k_is)
    (case l11 => k_is)
    (case c11 => k_is)
    (case k11 => k_is)
    (case a12 => k_is)
    (case t12 => k_is)
    (case l12 => k_is)
    (case c12 => k_is)
    (case k12 => k_is)
    (case a13 => k_is)
    (case t13 => k_is)
    (case l13 => k_is)
    (case c13 => k_is)
    (case k13 => k_is)
    (case a14 => k_is)
    (case t14 => k_is)
    (case l14 => k_is)
    (case c14 => k_is)
    (case k14 => k_is)
    (case a15 => k_is)
    (case t15 => k_is)
    (case l15 => k_is)
    (case c15 => k_is)
    (case k15 => k_is)
    (case a16 => k_is)
    (case t16 => k_is)
    (case l16 => k_is)
    (case c16 => k_is)
    (case k16 => k_is)
    (case a17 => k_is)
    (case l17 => k_is)
    (case c17 => k_is)
    (case k17 => k_is)
    (case a18 => k_is)
    (case l18 => k_is)
    (case c18 => k_is)
    (case k18 => k_is)
    (case a19 => k_is)
    (case l19 => k_is)
    (case c19 => k_is)
    (case k19 => k_is)
    (case a20 => k_is)
    (case l20 => k_is)
    (case c20 => k_is)
    (case k20 => k_is)
    (case a21 => k_is)
    (case l21 => k_is)
    (case c21 => k_is)
    (case k21 => k_is)
    (case a22 => k_is)
    (case t22 => k_is)
    (case l22 => k_is)
    (case c22 => k_is)
    (case k22 => k_is)
    (case dl22 => k_is)
    (case vE => exact .cons rfl (.cons rfl .nil))
    (case a23 => k_is)
    (case l23 => k_is)
    (case c23 => k_is)
    (case k23 => k_is)
    (case a24 => k_is)
    (case l24 => k_is)
    (case c24 => k_is)
    (case k24 => k_is)
    (case dl24 => k_is)
    (case vG => exact .cons ⟨_, rfl⟩ (.cons ⟨_, rfl⟩ .nil))
    (case a25 => k_is)
    (case l25 => k_is)
    (case c25 => k_is)
    (case k25 => k_is)
    (case a26 => k_is)
    (case l26 => k_is)
    (case c26 => k_is)
    (case k26 => k_is)
    (case a27 => k_is)
    (case l27 => k_is)
    (case c27 => k_is)
    (case k27 => k_is)
    (case a28 => k_is)
    (case l28 => k_is)
    (case c28 => k_is)
    (case k28 => k_is)
    (case a29 => k_is)
    (case l29 => k_is)
    (case c29 => k_is)
    (case k29 => k_is)
    (case a30 => k_is)
    (case l30 => k_is)
    (case c30 => k_is)
    (case k30 => k_is)
    (case a31 => k_is)
    (case l31 => k_is)
    (case c31 => k_is)
    (case k31 => k_is)
    (case a32 => k_is)
    (case l32 => k_is)
    (case c32 => k_is)
    (case k32 => k_is)
    (case a33 => k_is)
    (case l33 => k_is)
    (case c33 => k_is)
    (case k33 => k_is)
    (case a34 => k_is)
    (case l34 => k_is)
    (case c34 => k_is)
    (case k34 => k_is)
    (case a35 => k_is)
    (case l35 => k_is)
    (case c35 => k_is)
    (case k35 => k_is)
    (case z0 => k_is)
    (case z1 => k_is)
    (case z2 => k_is)
    (case z3 => k_is)
    (case z4 => k_is)
    (case z5 => k_is)
    (case z6 => k_is)
    (case z7 => k_is)
    (case z8 => k_is)
    (case z9 => k_is)
    (case z10 => k_is)
    (case z11 => k_is)
    (case z12 => k_is)
    (case z13 => k_is)
    (case z14 => k_is)
    (case z15 => k_is)
    (case z16 => k_is)
    (case gN => k_is)
    (case gW => k_is)
    (case lW => k_is)
    (case zW => decide)
    (case vW => exact .cons ⟨_, rfl⟩ (.cons ⟨_, rfl⟩ (.cons ⟨_, rfl⟩ .nil)))
    (case kn1 => kernel_rfl)
    (case ri1 => k_is)
    (case sp1 => k_is)
    (case fi1 => k_is)
    (case mN => decide)
    (case mM => kernel_rfl)
    (case mF => kernel_rfl)
    (case mV => kernel_rfl)
    (case mR => kernel_rfl)
    (case mX => kernel_rfl)
    (case nT => kernel_rfl)
    (case hT => kernel_rfl)

