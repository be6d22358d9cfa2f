import PyProof.Rows.All
import Wide.All
import OpenK.AllK
import Wide.FinOn
import HandS.ForMost
import HandS.IsInst
import HandS.Defaults
import HandS.Flow
import HandS.MakeKwOnly
import PyProof.ReprRoads
import HandS.Wide
import HandS.Walk
import PyProof.ReprBulk
import PyProof.Rows.ReprOcc
import HandS.SetBool
import HandS.TupSets
import HandS.More
import HandS.Iter
import HandS.ClsMeth
import KE.KCallOwn
import HandS.EndTab
import HandS.Strs
import HandS.SortRule
import HandS.FStr
import KE.KFmtOwn
import KE.SortData
import HandS.DictComp
import HandS.NoneIn
import HandS.MakeKw
import HandS.RaiseMore
import HandS.Exc
import HandS.ExcField
import HandS.TryMany
import HandS.WordsExc
import KE.KDictDisplayH
import HandS.DictTup
import HandS.Lambda
import HandS.ExcInit
import HandS.ExcIs
import KE.KTypeName
import HandS.Star
import KE.KDictCopyH
import KE.KDictSum
import PyProof.LongRange
import HandS.Conv
import HandS.Text
import HandS.Codes
import HandS.OwnEq
import PyProof.EqKinds
import HandS.DictEq
import HandS.SetKeys
import KE.GoesEnum
import KE.GoesMore
import HandS.Zip
import HandS.Comp
import HandS.WideBits
import PySem.Challenge.RW_gapsame_k02_papers_keep_what_they_tell
import PyProof.P3Eq
import HandS.Style
set_option Elab.async false
set_option linter.all false
set_option maxRecDepth 100000
set_option maxHeartbeats 4000000
/-! Layer G: calls under which no guard stands, so that repr tells the whole; data with dicts; what a bag of draws is. -/
namespace Gs
open PySem PySem.Spec PyProof.Rows L2

theorem szl {n : Nat} (h : Nat.ble n 1000 = true) : n ≤ sizeLine := Nat.le_trans (Nat.le_of_ble_eq_true h) (by decide)
theorem szl2 {n : Nat} (h : Nat.ble n 1000 = true) : n ≤ 1000 := Nat.le_of_ble_eq_true h
theorem szm {n : Nat} (h : n ≤ 1000) : n ≤ sizeLine := Nat.le_trans h (by decide)
theorem szs {n : Nat} (h : n < 1000) : n < sizeLine := Nat.lt_of_lt_of_le h (by decide)
/-! ### promises of defs that are entered with no guard -/
structure FnG (P : Program) (w : World) (K : PySem.W.Frag) (mg : Str → Option Value) (base : Heap) (CX : CXT) (k : Nat) (f : Addr)
    (fd : FuncData) (ps : List Str) (sp : Sp) : Prop where
  len : ∀ vs H Q E, sp vs H Q E → vs.length = ps.length
  run : ∀ (A : Around) (outer : List Env) (s : Shared) (H : Hp) (args : Args) (us : List Value) (vs : List V) (Q : VK) (E : XK),
    Room k A → A.guards = some [] → Env0 P w K mg base A outer s H → BindsTo s fd args (ps.zip us) → Vals vs us → sp vs H Q E →
      codeAny (model P w) A (.call (.ref f) args) (CR CX outer P w H s Q E) s
section
variable {P : Program} {w : World} {K : PySem.W.Frag} {mg : Str → Option Value} {base : Heap} {CX : CXT} {j k : Nat} {f : Addr} {fd : FuncData} {ps : List Str} {sp sp' : Sp}
theorem FnG.of (F : FnOk P w K mg base CX k f fd ps sp) : FnG P w K mg base CX k f fd ps sp :=
  ⟨F.len, fun A o s H args us vs Q E hr _ => F.run A o s H args us vs Q E hr⟩
theorem FnG.mono (F : FnG P w K mg base CX j f fd ps sp) (h : j ≤ k) : FnG P w K mg base CX k f fd ps sp :=
  ⟨F.len, fun A o s H args us vs Q E hr => F.run A o s H args us vs Q E (hr.mono h)⟩

theorem fn_ofG {name qual : Str} {params : Arguments} {body : List Stmt} {scope : Scope} {dV kV doc pm cdv ct oc : Value} {an od : Option Addr}
    {osl : Array (Option Value)} {N : List Str}
    (lk : K.lookup f = some ⟨oc, od, .func (PySem.W.fnOf name qual params body scope dV kV doc pm an cdv ct), osl⟩)
    (hcd : PySem.W.codeIn K cdv qual = true) (S : FnScope N ps scope)
    (len : ∀ vs H Q E, sp vs H Q E → vs.length = ps.length)
    (hb : ∀ (A : Around) (outer : List Env) (s : Shared) (H : Hp) (vs : List V) (Q : VK) (E : XK),
      Room k (A.deeper (envOfC qual scope s.heap.objs.size f cdv)) → (A.deeper (envOfC qual scope s.heap.objs.size f cdv)).guards = some [] → sp vs H Q E →
      ∃ t, PSs (cxOf CX P w K mg base N qual scope f cdv A outer s H E) body t ∧ t { nx := fun _ H' => Q .non H', rt := Q } (start N vs) H) :
    FnG P w K mg base CX (k + 1) f (PySem.W.fnOf name qual params body scope dV kV doc pm an cdv ct) ps sp := by
  refine ⟨len, fun A outer s H args us vs Q E hr hgd e0 hbind rv hsp => ?_⟩
  have hl : vs.length = ps.length := len _ _ _ _ hsp
  have kin : K.In s.heap := e0.mod.kin.keeps (fun b o e => (e0.bs b o e).1)
  have noL : s.heap.NoLimit := e0.mod.nolimit.keeps (fun b o e => (e0.bs b o e).1)
  have kinds : ∀ y ∈ ps.zip us, scope.names.lookup y.1 = some .local ∨
      (scope.names.lookup y.1 = some .cell ∧ ((cellsFrom (s.heap.objs.size + 1) scope.names []).lookup y.1).isSome = true) := by
    rintro ⟨n, v⟩ hy
    have hn := (List.of_mem_zip hy).1
    cases S.par n hn with
    | inl q => exact Or.inl q
    | inr q => exact Or.inr ⟨q, PySem.W.cellsFrom_some _ _ _ (Or.inl q)⟩
  refine codeAny_call_function hr.depth (kin _ _ lk) rfl S.co S.gen rfl (PySem.W.codeRec_of kin hcd) (hbind _ _ _ _ ?_)
  refine wpAny_newFunctionEnv_cells S.kind kinds (fun env he s1 x => ?_)
  subst he
  refine ⟨noL.keeps x.toInCall.keep, codeAny_func ?_⟩
  obtain ⟨t, ht, hq⟩ := hb A outer s H vs Q E (hr.deeper _) hgd hsp
  have I := inv_start (CX := CX) (f := f) (cd := cdv) (qual := qual) (E := E) S hr.hd e0 hl rv x
  refine wpAny_mono (ht.run [] s1 (start N vs) H _ I hq) (fun fl s' hs => ?_) (fun e s' hs => hs)
  have done : ∀ {σ' : L2.St} {H' : Hp} {v : V} {u : Value}, Inv (cxOf CX P w K mg base N qual scope f cdv A outer s H E) [] σ' H' s' →
      RelV v u → Q v H' → CE outer P w H s Q u s' := by
    intro σ' H' v u J r2 q2
    exact ⟨v, H', J.os, J.bare, J.base, J.hok, r2, q2⟩
  cases fl with
  | ret u => obtain ⟨v, σ', H', J, r2, q2⟩ := hs; exact done J r2 q2
  | next => obtain ⟨σ', H', J, q2⟩ := hs; exact done (v := V.non) (u := Value.none) J rfl q2
  | brk => obtain ⟨_, _, _, q2⟩ := hs; exact q2.elim
  | cont => obtain ⟨_, _, _, q2⟩ := hs; exact q2.elim

/-- a def of the text without defaults; it may let out what CX tells -/
theorem fun_okX {x qual : Str} {st : Stmt} {N : List Str} (F : Fun K x qual st f fd) (S : FnScope N ps (defScope st))
    (len : ∀ vs H Q E, sp vs H Q E → vs.length = ps.length)
    (hb : ∀ (cdv : Value) (A : Around) (outer : List Env) (s : Shared) (H : Hp) (vs : List V) (Q : VK) (E : XK),
      Room k (A.deeper (envOfC qual (defScope st) s.heap.objs.size f cdv)) → (A.deeper (envOfC qual (defScope st) s.heap.objs.size f cdv)).guards = some [] → sp vs H Q E →
      ∃ t, PSs (cxOf CX P w K mg base N qual (defScope st) f cdv A outer s H E) (defBody st) t ∧
        t { nx := fun _ H' => Q .non H', rt := Q } (start N vs) H) : FnG P w K mg base CX (k + 1) f fd ps sp := by
  obtain ⟨oc, od, kV, doc, pm, an, cdv, ct, osl, rfl, lk, hcd⟩ := F.ex
  exact fn_ofG lk hcd S len (fun A outer s H vs Q E hr hg hsp => hb cdv A outer s H vs Q E hr hg hsp)
/-- a def of the text without defaults; nothing is raised out of it -/
theorem fun_okG {x qual : Str} {st : Stmt} {N : List Str} (F : Fun K x qual st f fd) (S : FnScope N ps (defScope st))
    (len : ∀ vs H Q E, sp vs H Q E → vs.length = ps.length)
    (hb : ∀ (cdv : Value) (A : Around) (outer : List Env) (s : Shared) (H : Hp) (vs : List V) (Q : VK) (E : XK),
      Room k (A.deeper (envOfC qual (defScope st) s.heap.objs.size f cdv)) → (A.deeper (envOfC qual (defScope st) s.heap.objs.size f cdv)).guards = some [] → sp vs H Q E →
      ∃ t, PSs (cxOf CX0 P w K mg base N qual (defScope st) f cdv A outer s H E).nox (defBody st) t ∧
        t { nx := fun _ H' => Q .non H', rt := Q } (start N vs) H) : FnG P w K mg base CX0 (k + 1) f fd ps sp := by
  refine fun_okX F S len (fun cdv A outer s H vs Q E hr hg hsp => ?_)
  obtain ⟨t, h, q⟩ := hb cdv A outer s H vs Q E hr hg hsp
  exact ⟨t, h.nox, q⟩
end

section
variable {X : Cx} {CX : CXT} {k n : Nat} {f C : Addr} {fd : FuncData} {ps ks : List Str} {sp : Sp} {dvs : List V} {ds : List Value} {E : XK}
  {x : Str} {p pos : Pos} {e : Expr} {es : List Expr} {kws : List Keyword} {t tk : TA} {g : List Value → List Value → List Value} {gV : List V → List V → List V}
/-- how the parameters are bound by positional values and keywords (names ks) -/
structure KB (K : PySem.W.Frag) (fd : FuncData) (ps ks : List Str) (n : Nat) (g : List Value → List Value → List Value) (gV : List V → List V → List V) : Prop where
  to : ∀ (s : Shared) (us ws : List Value), K.In s.heap → us.length = n → ws.length = ks.length → BindsTo s fd ⟨us, ks.zip ws⟩ (ps.zip (g us ws))
  rel : ∀ {vs : List V} {us : List Value} {zs : List V} {ws : List Value}, vs.length = n → zs.length = ks.length → Vals vs us → Vals zs ws → Vals (gV vs zs) (g us ws)

theorem run_any {pins : List (Addr × Obj)} {σ : L2.St} {H : Hp} {s : Shared} {Q : VK} {us : List Value} {vs : List V} {vals : List Value} {kw : List (Str × Value)}
    (F : FnG X.prog X.w X.K X.mg X.base CX k f fd ps sp) (hr : Room k X.A) (hg : X.A.guards = some []) (hx : Passes CX X E)
    (I : Inv X pins σ H s) (b : BindsTo s fd ⟨vals, kw⟩ (ps.zip us)) (r : Vals vs us) (h : sp vs H Q E) :
    wpAny (model X.prog X.w) X.A (call (.ref f) vals kw) (EP X pins σ Q) X.xe s := by
  refine wpAny_call (codeAny_mono (F.run X.A X.stack s H ⟨vals, kw⟩ us vs Q E hr hg I.env0 b r h) (fun r' s' hq => ?_))
  match r', hq with
  | .error e, hq => exact hx pins σ H s e s' I hq
  | .ok (.ret u), hq => exact I.after hq
  | .ok .next, hq => exact hq.elim
  | .ok .brk, hq => exact hq.elim
  | .ok .cont, hq => exact hq.elim

/-- f(e, ..) -/
theorem pg_call (F : FnG X.prog X.w X.K X.mg X.base CX k f fd ps sp) (hr : Room k X.A) (hgd : X.A.guards = some []) (hg : Gl X x) (hm : X.mg x = some (.ref f))
    (hk : PySem.W.keepIn X.K (.ref f) = true) (hb : Binds X.K fd ps ds) (hd : Vals dvs ds) (hx : Passes CX X E)
    (ha : PA X (e :: es) t) (hdb : (x == ("__debug__" : Str)) = false := by decide) (he : starEach (e :: es) X.env = (false, eval e X.env) :: starEach es X.env := by rfl)
    (hpl : (backTo pos (starEach es X.env)).any (·.1) = false := by rfl) :
    PE X (.Call (.Name x p) (e :: es) [] pos) (tCall sp dvs E t) := by
  constructor
  intro pins s σ H Q I h
  refine wpAny_Call_Name_kw (ld_glob I hg hm ?_ hdb)
  refine PySem.W.callWith_K (h₀ := X.base) I.ok.mod.kin hk (thn (ha.run pos pins s σ H _ I h) fun us s1 ⟨vs, H1, I1, r, q⟩ => ⟨I1.kIn, ?_⟩) he hpl
  have r2 := r.append hd
  exact run_any (vals := us) (kw := []) F hr hgd hx I1 (hb s1 us I1.kIn (by rw [← r2.length]; exact F.len _ _ _ _ q)) r2 q
/-- f() -/
theorem pg_call0 (F : FnG X.prog X.w X.K X.mg X.base CX k f fd ps sp) (hr : Room k X.A) (hgd : X.A.guards = some []) (hg : Gl X x) (hm : X.mg x = some (.ref f))
    (hk : PySem.W.keepIn X.K (.ref f) = true) (hb : Binds X.K fd ps ds) (hd : Vals dvs ds) (hx : Passes CX X E)
    (hdb : (x == ("__debug__" : Str)) = false := by decide) : PE X (.Call (.Name x p) [] [] pos) (tCall sp dvs E tNil) := by
  constructor
  intro pins s σ H Q I h
  refine wpAny_Call_Name_kw (ld_glob I hg hm ?_ hdb)
  have h : sp ([] ++ dvs) H Q E := h
  have r2 : Vals ([] ++ dvs) ([] ++ ds) := Vals.append .nil hd
  exact PySem.W.callWith_K0 I.kIn hk (run_any (vals := []) (kw := []) F hr hgd hx I (hb s [] I.kIn (by rw [← r2.length]; exact F.len _ _ _ _ h)) r2 h)
def tCallG (n m : Nat) (sp : Sp) (gV : List V → List V → List V) (E : XK) (t tk : TA) : TE := fun σ H Q => t σ H fun vs H1 => tk σ H1 fun zs H2 =>
  vs.length = n ∧ zs.length = m ∧ sp (gV vs zs) H2 Q E
/-- f(e, .., k = v, ..) -/
theorem pg_callK (F : FnG X.prog X.w X.K X.mg X.base CX k f fd ps sp) (hr : Room k X.A) (hgd : X.A.guards = some []) (hg : Gl X x) (hm : X.mg x = some (.ref f))
    (hk : PySem.W.keepIn X.K (.ref f) = true) (hb : KB X.K fd ps ks n g gV) (hx : Passes CX X E)
    (ha : PA X (e :: es) t) (hkw : PK X kws tk) (hall : (backToKw pos (keywordEach kws X.env)).all (·.1.isSome) = true := by rfl)
    (hks : (backToKw pos (keywordEach kws X.env)).filterMap (·.1) = ks := by rfl)
    (hdb : (x == ("__debug__" : Str)) = false := by decide) (he : starEach (e :: es) X.env = (false, eval e X.env) :: starEach es X.env := by rfl)
    (hpl : ((backTo pos (starEach (e :: es) X.env)).any (·.1) || (backToKw pos (keywordEach kws X.env)).any (·.1.isNone)) = false := by rfl) :
    PE X (.Call (.Name x p) (e :: es) kws pos) (tCallG n ks.length sp gV E t tk) := by
  constructor
  intro pins s σ H Q I h
  refine wpAny_Call_Name_kw (ld_glob I hg hm ?_ hdb)
  refine PySem.W.callWith_KW (h₀ := X.base) I.ok.mod.kin hk hall (thn (ha.run pos pins s σ H _ I h) fun us s1 ⟨vs, H1, I1, r, q⟩ => ?_) hpl he
  refine thn (hkw.run pos pins s1 σ H1 _ I1 q) fun ws s2 ⟨zs, H2, I2, rz, l1, l2, q2⟩ => ⟨I2.kIn, ?_⟩
  rw [hks]
  exact run_any (vals := us) (kw := ks.zip ws) F hr hgd hx I2 (hb.to s2 us ws I2.kIn (r.length.symm.trans l1) (rz.length.symm.trans l2)) (hb.rel l1 l2 r rz) q2
end

/-- f(k = v, ..) -/
theorem pg_callK0 {X : Cx} {CX : CXT} {k : Nat} {f : Addr} {fd : FuncData} {ps ks : List Str} {sp : Sp} {E : XK} {x : Str} {p pos : Pos} {kws : List Keyword} {tk : TA}
    {g : List Value → List Value → List Value} {gV : List V → List V → List V}
    (F : FnG X.prog X.w X.K X.mg X.base CX k f fd ps sp) (hr : Room k X.A) (hgd : X.A.guards = some []) (hg : Gl X x) (hm : X.mg x = some (.ref f))
    (hk : PySem.W.keepIn X.K (.ref f) = true) (hb : KB X.K fd ps ks 0 g gV) (hx : Passes CX X E) (hkw : PK X kws tk)
    (hall : (backToKw pos (keywordEach kws X.env)).all (·.1.isSome) = true := by rfl)
    (hks : (backToKw pos (keywordEach kws X.env)).filterMap (·.1) = ks := by rfl)
    (hdb : (x == ("__debug__" : Str)) = false := by decide)
    (hpl : ((backTo pos (starEach [] X.env)).any (·.1) || (backToKw pos (keywordEach kws X.env)).any (·.1.isNone)) = false := by rfl) :
    PE X (.Call (.Name x p) [] kws pos) (tCallG 0 ks.length sp gV E tNil tk) := by
  constructor
  intro pins s σ H Q I h
  refine wpAny_Call_Name_kw (ld_glob I hg hm ?_ hdb)
  refine PySem.W.callWith_KW0 (h₀ := X.base) I.ok.mod.kin hk hall ?_ hpl
  refine thn (hkw.run pos pins s σ H _ I h) fun ws s2 ⟨zs, H2, I2, rz, l1, l2, q2⟩ => ⟨I2.kIn, ?_⟩
  rw [hks]
  exact run_any (vals := []) (kw := ks.zip ws) F hr hgd hx I2 (hb.to s2 [] ws I2.kIn rfl (rz.length.symm.trans l2)) (hb.rel l1 l2 .nil rz) q2

/-! ### data, dicts among it; c: one address that is no part of it (the bag of draws) -/
def Ext (c : Addr) (H H' : Hp) : Prop := ∀ b o, b ≠ c → H b = some o → H' b = some o
theorem Ext.refl {c : Addr} {H : Hp} : Ext c H H := fun _ _ _ h => h
theorem Ext.trans {c : Addr} {H H1 H2 : Hp} (a : Ext c H H1) (b : Ext c H1 H2) : Ext c H H2 := fun x o n h => b x o n (a x o n h)
theorem Ext.new {c p : Addr} {H : Hp} {o : HO} (h : H p = none) : Ext c H (upd H p o) := fun b u _ e => by
  rw [upd_ne (ne_of_none e h)]; exact e
theorem Ext.bag {c : Addr} {H : Hp} {o : HO} : Ext c H (upd H c o) := fun b u n e => by
  rw [upd_ne n]; exact e
/-- a thing that the first heap did not know may change -/
theorem Ext.own {c p : Addr} {H H' : Hp} {o : HO} (e : Ext c H H') (h : H p = none) : Ext c H (upd H' p o) := fun b u n x => by
  rw [upd_ne (ne_of_none x h)]; exact e b u n x
theorem Ext.rd {c a : Addr} {H H' : Hp} {u : HO} (e : Ext c H H') (n : a ≠ c) (h : Rd H a u) : Rd H' a u := by
  rcases h with h | ⟨o, h⟩
  · exact .inl (e _ _ n h)
  · exact .inr ⟨o, e _ _ n h⟩
theorem Ext.sqL {K : PySem.W.Frag} {c a : Addr} {H H' : Hp} {xs : List V} (e : Ext c H H') (n : a ≠ c) (h : SqL K H a xs) : SqL K H' a xs := by
  rcases h with h | h
  · exact .inl (e.rd n h)
  · exact .inr h
theorem Ext.sqT {K : PySem.W.Frag} {c a : Addr} {H H' : Hp} {xs : List V} (e : Ext c H H') (n : a ≠ c) (h : SqT K H a xs) : SqT K H' a xs := by
  rcases h with h | h
  · exact .inl (e.rd n h)
  · exact .inr h
mutual
inductive DV (K : PySem.W.Frag) (c : Addr) (H : Hp) : V → PyData → Prop
  | non : DV K c H .non .none
  | bl (b : Bool) : DV K c H (.bl b) (.bool b)
  | int (i : Int) : DV K c H (.int i) (.int i)
  | str (x : Str) : DV K c H (.str x) (.str x)
  | lst {a : Addr} {xs : List V} {ds : List PyData} : a ≠ c → SqL K H a xs → DVs K c H xs ds → DV K c H (.ref a) (.list ds)
  | tup {a : Addr} {xs : List V} {ds : List PyData} : a ≠ c → SqT K H a xs → DVs K c H xs ds → DV K c H (.ref a) (.tuple ds)
  | dic {a : Addr} {kvs : List (Key × V)} {ps : List (PyData × PyData)} : a ≠ c → H a = some (.dK kvs) → DKs K c H kvs ps → DV K c H (.ref a) (.dict ps)
  | dct {a : Addr} {kvs : List (List Key × V)} {ps : List (PyData × PyData)} : a ≠ c → H a = some (.dT kvs) → PyData.showable (.dict ps) = false → DV K c H (.ref a) (.dict ps)
inductive DVs (K : PySem.W.Frag) (c : Addr) (H : Hp) : List V → List PyData → Prop
  | nil : DVs K c H [] []
  | cons {v : V} {vs : List V} {d : PyData} {ds : List PyData} : DV K c H v d → DVs K c H vs ds → DVs K c H (v :: vs) (d :: ds)
inductive DKs (K : PySem.W.Frag) (c : Addr) (H : Hp) : List (Key × V) → List (PyData × PyData) → Prop
  | nil : DKs K c H [] []
  | cons {k : Key} {v : V} {r : List (Key × V)} {d e : PyData} {ps : List (PyData × PyData)} : DV K c H (kV k) d → DV K c H v e → DKs K c H r ps → DKs K c H ((k, v) :: r) ((d, e) :: ps)
end
section
variable {K : PySem.W.Frag} {c : Addr} {H H' : Hp}
mutual
theorem DV.ext (e : Ext c H H') : ∀ (d : PyData) (v : V), DV K c H v d → DV K c H' v d
  | .none, _, h => by cases h; exact .non
  | .bool _, _, h => by cases h; exact .bl _
  | .int _, _, h => by cases h; exact .int _
  | .str _, _, h => by cases h; exact .str _
  | .list ds, _, h => by
    cases h with
    | lst n s r => exact .lst n (e.sqL n s) (DVs.ext e ds _ r)
  | .tuple ds, _, h => by
    cases h with
    | tup n s r => exact .tup n (e.sqT n s) (DVs.ext e ds _ r)
  | .dict ps, _, h => by
    cases h with
    | dic n s r => exact .dic n (e _ _ n s) (DKs.ext e ps _ r)
    | dct n s z => exact .dct n (e _ _ n s) z
theorem DVs.ext (e : Ext c H H') : ∀ (ds : List PyData) (vs : List V), DVs K c H vs ds → DVs K c H' vs ds
  | [], _, h => by cases h; exact .nil
  | d :: ds, _, h => by
    cases h with
    | cons a b => exact .cons (DV.ext e d _ a) (DVs.ext e ds _ b)
theorem DKs.ext (e : Ext c H H') : ∀ (ps : List (PyData × PyData)) (vs : List (Key × V)), DKs K c H vs ps → DKs K c H' vs ps
  | [], _, h => by cases h; exact .nil
  | (d, f) :: ps, _, h => by
    cases h with
    | cons a b r => exact .cons (DV.ext e d _ a) (DV.ext e f _ b) (DKs.ext e ps _ r)
end
theorem DVs.len : ∀ {vs : List V} {ds : List PyData}, DVs K c H vs ds → vs.length = ds.length
  | _, _, .nil => rfl
  | _, _, .cons _ b => congrArg Nat.succ (DVs.len b)
theorem DVs.at : ∀ {vs : List V} {ds : List PyData} {i : Nat} {v : V}, DVs K c H vs ds → vs[i]? = some v → ∃ d, ds[i]? = some d ∧ DV K c H v d
  | _, _, i, _, .nil, h => by simp at h
  | _, _, 0, _, .cons a _, h => by simp at h; subst h; exact ⟨_, rfl, a⟩
  | _, _, i + 1, _, .cons _ b, h => by simpa using DVs.at b (by simpa using h)
theorem DVs.append : ∀ {vs ws : List V} {ds es : List PyData}, DVs K c H vs ds → DVs K c H ws es → DVs K c H (vs ++ ws) (ds ++ es)
  | _, _, _, _, .nil, h => h
  | _, _, _, _, .cons a b, h => .cons a (DVs.append b h)
end
section
variable {X : Cx} {pins : List (Addr × Obj)} {σ : L2.St} {H : Hp} {s : Shared} {c : Addr}
/-- what is known of a value that bears d, for its text -/
def Shows (X : Cx) (h : Heap) (u : Value) (d : PyData) : Prop := (∃ as, Reads h u d as) ∧ ∃ bs, ReadAtMost h d.depth bs ∧ ReprK X.prog X.w bs h d.depth u d.shown
def ShowsS (X : Cx) (h : Heap) (us : List Value) (ds : List PyData) : Prop := (∃ as, ReadsAll h us ds as) ∧
  ∃ bs, ReadAtMost h (PyData.depthAll ds) bs ∧ ReprAllK X.prog X.w bs h (PyData.depthAll ds) us (PyData.shownAll ds)
theorem ShowsS.nil {h : Heap} : ShowsS X h [] [] := ⟨⟨_, .nil⟩, [], (fun _ z => nomatch z), .nil⟩
theorem ShowsS.cons {h : Heap} {u : Value} {us : List Value} {d : PyData} {ds : List PyData} (a : Shows X h u d) (b : ShowsS X h us ds) : ShowsS X h (u :: us) (d :: ds) := by
  obtain ⟨⟨as, r⟩, bs, m, k⟩ := a
  obtain ⟨⟨as', r'⟩, bs', m', k'⟩ := b
  have l1 : d.depth ≤ PyData.depthAll (d :: ds) := by simp only [PyData.depthAll]; exact Nat.le_max_left _ _
  have l2 : PyData.depthAll ds ≤ PyData.depthAll (d :: ds) := by simp only [PyData.depthAll]; exact Nat.le_max_right _ _
  exact ⟨⟨_, .cons r r'⟩, bs ++ bs', (m.mono l1).append (m'.mono l2), .cons ((k.more fun _ z => List.mem_append_left _ z).level_le l1) (k'.more_le (fun _ z => List.mem_append_right _ z) l2)⟩
theorem dict_len {ps : List (PyData × PyData)} (h : (PyData.shown (.dict ps)).length ≤ sizeLine) : (∀ t ∈ PyData.shownAll (ps.map (·.1)), t.length ≤ sizeLine) ∧ ∀ t ∈ PyData.shownAll (ps.map (·.2)), t.length ≤ sizeLine := by
  have h' : (dictText (PyData.shownKv ps)).length ≤ sizeLine := by simpa only [PyData.shown] using h
  constructor
  · intro t ht
    obtain ⟨p, hp, hl⟩ := PyData.shownKv_key_le ps t ht
    exact Nat.le_trans hl (Nat.le_trans (dictText_mem_le hp) h')
  · intro t ht
    obtain ⟨p, hp, hl⟩ := PyData.shownKv_val_le ps t ht
    exact Nat.le_trans hl (Nat.le_trans (dictText_mem_le hp) h')
mutual
theorem DV.shows (I : Inv X pins σ H s) : ∀ (d : PyData) (v : V) (u : Value), DV X.K c H v d → L2.RelV v u → d.showable = true → d.shown.length ≤ sizeLine → Shows X s.heap u d
  | .none, _, _, h, r, _, _ => by
    cases h; cases r
    exact ⟨⟨_, .none⟩, [], (fun _ z => nomatch z), .of_is ReprIs.none _ _ _⟩
  | .bool b, _, _, h, r, _, _ => by
    cases h; cases r
    exact ⟨⟨_, .bool b⟩, [], (fun _ z => nomatch z), .of_is (ReprIs.bool b) _ _ _⟩
  | .int i, _, _, h, r, hs, _ => by
    cases h; obtain ⟨t, rfl⟩ := r
    exact ⟨⟨_, .int i t⟩, [], (fun _ z => nomatch z), .of_is (ReprIs.int t (by simpa [PyData.showable] using hs)) _ _ _⟩
  | .str x, _, _, h, r, _, hz => by
    cases h; obtain ⟨t, rfl⟩ := r
    exact ⟨⟨_, .str x t⟩, [], (fun _ z => nomatch z), .of_is (ReprIs.str x t (by simpa only [PyData.shown] using hz)) _ _ _⟩
  | .list ds, _, _, h, r, hs, hz => by
    cases h with
    | lst n hq ha =>
      cases r
      obtain ⟨its, rv, ⟨o, m, ho, hc, _, hd⟩, _⟩ := I.list hq
      have hz' : (listText (PyData.shownAll ds)).length ≤ sizeLine := by simpa only [PyData.shown] using hz
      obtain ⟨⟨as, rs⟩, bs, mb, kb⟩ := DVs.shows I ds _ its ha rv (by simpa [PyData.showable] using hs) (fun t ht => Nat.le_trans (listText_mem_le ht) hz')
      have rd : Reads s.heap (.ref _) (.list ds) _ := .list ho hc hd rs
      have lt : PyData.depthAll ds < (PyData.list ds).depth := by simp only [PyData.depth]; omega
      have out := not_mem_of_deeper rd lt mb
      refine ⟨⟨_, rd⟩, _, ReadAtMost.cons rd (Nat.le_of_lt lt) mb, ?_⟩
      simp only [PyData.depth, PyData.shown]
      match its, rs, kb, hd with
      | [], rs, _, hd =>
        cases rs
        simp only [PyData.shownAll, listText_nil]
        exact ReprK.listEmpty ho hc hd
      | x :: l, _, kb, hd => exact ReprK.list ho hc hd out (by simpa using kb.length_eq) (fun i y e => kb.item i y (by simpa using e))
  | .tuple ds, _, _, h, r, hs, hz => by
    cases h with
    | tup n hq ha =>
      cases r
      obtain ⟨its, rv, ⟨o, ho, hc, m, hd⟩, _⟩ := I.tuple hq
      have hz' : (tupleText (PyData.shownAll ds)).length ≤ sizeLine := by simpa only [PyData.shown] using hz
      obtain ⟨⟨as, rs⟩, bs, mb, kb⟩ := DVs.shows I ds _ its ha rv (by simpa [PyData.showable] using hs) (fun t ht => Nat.le_trans (tupleText_mem_le ht) hz')
      have rd : Reads s.heap (.ref _) (.tuple ds) _ := .tuple ho hc hd rs
      have lt : PyData.depthAll ds < (PyData.tuple ds).depth := by simp only [PyData.depth]; omega
      have out := not_mem_of_deeper rd lt mb
      refine ⟨⟨_, rd⟩, _, ReadAtMost.cons rd (Nat.le_of_lt lt) mb, ?_⟩
      simp only [PyData.depth, PyData.shown]
      exact ReprK.tuple ho hc hd out kb
  | .dict ps, _, _, h, r, hs, hz => by
    cases h with
    | dic n hq ha =>
      cases r
      obtain ⟨_, hsm, vs, kv, o, es, ep, ho, hx, hd, _, pr, _⟩ := I.hok _ _ hq
      obtain ⟨hs1, hs2⟩ := PyData.showableKv_split ps (by simpa [PyData.showable] using hs)
      obtain ⟨hz1, hz2⟩ := dict_len hz
      obtain ⟨⟨⟨as, r1⟩, b1, m1, k1⟩, ⟨as', r2⟩, b2, m2, k2⟩ := DKs.shows I ps _ es.toList vs ha kv pr hs1 hs2 hz1 hz2
      have rd : Reads s.heap (.ref _) (.dict ps) _ := .dict ho hx.1 hd r1 r2
      have lt : PyData.depthKv ps < (PyData.dict ps).depth := by simp only [PyData.depth]; omega
      have mb := (m1.mono (PyData.depthAll_keys_le ps)).append (m2.mono (PyData.depthAll_vals_le ps))
      have out := not_mem_of_deeper rd lt mb
      refine ⟨⟨_, rd⟩, _, ReadAtMost.cons rd (Nat.le_of_lt lt) mb, ?_⟩
      simp only [PyData.depth, PyData.shown, PyData.shownKv_eq]
      exact ReprK.dict ho hx.1 hd hsm out (.of_two es.toList _ _ (k1.more_le (fun _ z => List.mem_append_left _ z) (PyData.depthAll_keys_le ps))
        (k2.more_le (fun _ z => List.mem_append_right _ z) (PyData.depthAll_vals_le ps)))
    | dct n q z => rw [z] at hs; cases hs
theorem DVs.shows (I : Inv X pins σ H s) : ∀ (ds : List PyData) (vs : List V) (us : List Value), DVs X.K c H vs ds → L2.Vals vs us → PyData.showableAll ds = true → (∀ t ∈ PyData.shownAll ds, t.length ≤ sizeLine) → ShowsS X s.heap us ds
  | [], _, _, h, r, _, _ => by
    cases h; cases r
    exact .nil
  | d :: ds, _, _, h, r, hs, hz => by
    cases h with
    | cons h1 h2 =>
      cases r with
      | cons r1 r2 =>
        have hs' : d.showable = true ∧ PyData.showableAll ds = true := by simpa [PyData.showableAll] using hs
        simp only [PyData.shownAll] at hz
        exact .cons (DV.shows I d _ _ h1 r1 hs'.1 (hz _ List.mem_cons_self)) (DVs.shows I ds _ _ h2 r2 hs'.2 fun t ht => hz t (List.mem_cons_of_mem _ ht))
theorem DKs.shows (I : Inv X pins σ H s) : ∀ (ps : List (PyData × PyData)) (kvs : List (Key × V)) (es : List DictEntry) (vs : List (Key × Value)), DKs X.K c H kvs ps → KV kvs vs →
    Pairs (mixKind X.prog X.w) es vs → PyData.showableAll (ps.map (·.1)) = true → PyData.showableAll (ps.map (·.2)) = true →
    (∀ t ∈ PyData.shownAll (ps.map (·.1)), t.length ≤ sizeLine) → (∀ t ∈ PyData.shownAll (ps.map (·.2)), t.length ≤ sizeLine) →
    ShowsS X s.heap (es.map (·.key)) (ps.map (·.1)) ∧ ShowsS X s.heap (es.map (·.val)) (ps.map (·.2))
  | [], _, _, _, h, r, p, _, _, _, _ => by
    cases h; cases r; cases p
    exact ⟨.nil, .nil⟩
  | (d, f) :: ps, (k, v) :: kvs, e :: es', kv :: vs', h, r, p, hs1, hs2, hz1, hz2 => by
    cases h with
    | cons h1 h2 h3 =>
      cases r with
      | cons r1 r2 =>
        cases p with
        | cons p1 p2 p3 =>
          obtain ⟨e1, r1⟩ := r1
          have rk : L2.RelV (kV k) e.key := by
            have p1 : keyIs kv.1 e.key = true := p1
            rw [← e1] at p1
            rcases keyIs_shape p1 with ⟨i, t, q1, q2⟩ | ⟨z, t, q1, q2⟩
            · rw [q2]; simp only at q1; rw [q1]; exact ⟨t, rfl⟩
            · rw [q2]; simp only at q1; rw [q1]; exact ⟨t, rfl⟩
          have a1 : d.showable = true ∧ PyData.showableAll (ps.map (·.1)) = true := by simpa [PyData.showableAll] using hs1
          have a2 : f.showable = true ∧ PyData.showableAll (ps.map (·.2)) = true := by simpa [PyData.showableAll] using hs2
          simp only [List.map_cons, PyData.shownAll] at hz1 hz2
          obtain ⟨q3, q4⟩ := DKs.shows I ps _ es' vs' h3 r2 p3 a1.2 a2.2 (fun t ht => hz1 t (List.mem_cons_of_mem _ ht)) fun t ht => hz2 t (List.mem_cons_of_mem _ ht)
          exact ⟨.cons (DV.shows I d _ _ h1 rk a1.1 (hz1 _ List.mem_cons_self)) q3, .cons (DV.shows I f _ e.val h2 (by rw [p2]; exact r1) a2.1 (hz2 _ List.mem_cons_self)) q4⟩
  | (d, f) :: ps, [], _, _, h, r, p, _, _, _, _ => by cases h
  | (d, f) :: ps, _ :: _, [], _, h, r, p, _, _, _, _ => by cases p; cases r
  | (d, f) :: ps, _ :: _, _, [], h, r, p, _, _, _, _ => by cases r
end
/-- repr of data -/
def rRepr (K : PySem.W.Frag) : List V → Hp → VK → Prop := fun xs H Q => ∃ (c a : Addr) (d : PyData), xs = [.ref a] ∧ DV K c H (.ref a) d ∧ d.showable = true ∧ d.depth ≤ 60 ∧ d.shown.length ≤ sizeLine ∧ Q (.str d.shown) H
theorem call_repr {k : Nat} (hr : Room k X.A) (hg : X.A.guards = some []) : CallR X (.builtin "repr") (rRepr X.K) := by
  intro pins s σ H xs us Q I r h
  obtain ⟨c, a, d, rfl, hd, hs, hdp, hz, q⟩ := h
  match us, r with
  | [u], .cons r1 .nil =>
    cases (show u = Value.ref a from r1)
    have un := hr.units
    have un1 : X.A.units + 1 < cLine := by omega
    cases hd with
    | lst n hq ha =>
      rename_i vs ds
      obtain ⟨its, rv, ⟨o, m, ho, hc, _, hdt⟩, _⟩ := I.list hq
      have hz' : (listText (PyData.shownAll ds)).length ≤ sizeLine := by simpa only [PyData.shown] using hz
      obtain ⟨⟨as, rs⟩, bs, mb, kb⟩ := DVs.shows I ds _ its ha rv (by simpa [PyData.showable] using hs) (fun t ht => Nat.le_trans (listText_mem_le ht) hz')
      have rd : Reads s.heap (.ref a) (.list ds) _ := .list ho hc hdt rs
      have lt : PyData.depthAll ds < (PyData.list ds).depth := by simp only [PyData.depth]; omega
      have out := not_mem_of_deeper rd lt mb
      simp only [PyData.depth] at hdp
      simp only [PyData.shown] at q
      refine call_repr_slot un1 ⟨o, ho, hc⟩ F.slot_list_repr.toG ?_
      match its, rs, kb, hdt with
      | [], rs, _, hdt =>
        cases rs
        simp only [PyData.shownAll, listText_nil] at q
        exact call_list_repr_empty ⟨o, ho, hc⟩ ho hdt ⟨_, _, rfl, .str _, H, I.kept fun _ _ e => e, ⟨_, rfl⟩, q⟩
      | x :: l, _, kb, hdt =>
        exact call_list_reprK ho hc hdt out (by simpa using kb.length_eq) (fun i y e => kb.item i y (by simpa using e)) (A := X.A.in1) hg (fun b _ => Clear.nil b)
          (by show X.A.units + 1 + _ < cLine; omega) (fun _ _ e => e) (fun h' u tk hk => ⟨_, _, rfl, .str _, H, I.kept hk, ⟨u, rfl⟩, q⟩) hz'
    | tup n hq ha =>
      rename_i vs ds
      obtain ⟨its, rv, ⟨o, ho, hc, m, hdt⟩, _⟩ := I.tuple hq
      have hz' : (tupleText (PyData.shownAll ds)).length ≤ sizeLine := by simpa only [PyData.shown] using hz
      obtain ⟨⟨as, rs⟩, bs, mb, kb⟩ := DVs.shows I ds _ its ha rv (by simpa [PyData.showable] using hs) (fun t ht => Nat.le_trans (tupleText_mem_le ht) hz')
      have rd : Reads s.heap (.ref a) (.tuple ds) _ := .tuple ho hc hdt rs
      have lt : PyData.depthAll ds < (PyData.tuple ds).depth := by simp only [PyData.depth]; omega
      have out := not_mem_of_deeper rd lt mb
      simp only [PyData.depth] at hdp
      simp only [PyData.shown] at q
      exact call_repr_slot un1 ⟨o, ho, hc⟩ F.slot_tuple_repr (call_tuple_reprK ho hc hdt out kb (A := X.A.in1) hg (fun b _ => Clear.nil b)
          (by show X.A.units + 1 + _ < cLine; omega) (fun _ _ e => e) (fun h' u tk hk => ⟨_, _, rfl, .str _, H, I.kept hk, ⟨u, rfl⟩, q⟩) hz')
    | dic n hq ha =>
      rename_i kvs ps
      obtain ⟨_, hsm, vs, kv, o, es, ep, ho, hx, hdt, _, pr, _⟩ := I.hok _ _ hq
      obtain ⟨hs1, hs2⟩ := PyData.showableKv_split ps (by simpa [PyData.showable] using hs)
      obtain ⟨hz1, hz2⟩ := dict_len hz
      obtain ⟨⟨⟨as, r1⟩, b1, m1, k1⟩, ⟨as', r2⟩, b2, m2, k2⟩ := DKs.shows I ps _ es.toList vs ha kv pr hs1 hs2 hz1 hz2
      have rd : Reads s.heap (.ref a) (.dict ps) _ := .dict ho hx.1 hdt r1 r2
      have lt : PyData.depthKv ps < (PyData.dict ps).depth := by simp only [PyData.depth]; omega
      have mb := (m1.mono (PyData.depthAll_keys_le ps)).append (m2.mono (PyData.depthAll_vals_le ps))
      have out := not_mem_of_deeper rd lt mb
      simp only [PyData.depth] at hdp
      simp only [PyData.shown, PyData.shownKv_eq] at q hz
      exact call_repr_slot un1 ⟨o, ho, hx.1⟩ F.slot_dict_repr (call_dict_reprK ho hx.1 hdt hsm out (.of_two es.toList _ _ (k1.more_le (fun _ z => List.mem_append_left _ z) (PyData.depthAll_keys_le ps))
        (k2.more_le (fun _ z => List.mem_append_right _ z) (PyData.depthAll_vals_le ps))) (A := X.A.in1) hg (fun b _ => Clear.nil b)
          (by show X.A.units + 1 + _ < cLine; omega) (fun _ _ e => e) (fun h' u tk hk => ⟨_, _, rfl, .str _, H, I.kept hk, ⟨u, rfl⟩, q⟩) hz)
    | dct n hq z => rw [z] at hs; cases hs
end

/-! ### small facts of data -/
theorem dp_ints {K : PySem.W.Frag} {H : Hp} : ∀ ns : List Int, DpAll K H (ns.map V.int) (ns.map PyData.int)
  | [] => .nil
  | n :: ns => .cons (.int n) (dp_ints ns)
theorem dv_ints {K : PySem.W.Frag} {H : Hp} {c : Addr} : ∀ ns : List Int, DVs K c H (ns.map V.int) (ns.map PyData.int)
  | [] => .nil
  | n :: ns => .cons (.int n) (dv_ints ns)
theorem can_ints : ∀ ns : List Int, PyData.canLayAll0 (ns.map PyData.int) = true
  | [] => rfl
  | n :: ns => by
    show (PyData.canLay0 (.int n) && PyData.canLayAll0 (ns.map PyData.int)) = true
    rw [can_ints ns]; rfl
theorem depth_ints : ∀ ns : List Int, PyData.depthAll (ns.map PyData.int) ≤ 1
  | [] => by decide
  | n :: ns => by
    have := depth_ints ns
    simp only [List.map_cons, PyData.depthAll, PyData.depth]
    omega
theorem shaped_ints (ns : List Int) : SeqAt.shaped (.list (ns.map PyData.int)) = true := by
  unfold SeqAt.shaped
  have h := depth_ints ns
  have e : PyData.canLay0 (.list (ns.map PyData.int)) = true := by
    simp only [PyData.canLay0]; exact can_ints ns
  rw [e, Bool.true_and, decide_eq_true_eq]
  simp only [PyData.depth]
  omega
theorem eqv_nil (ds : List PyData) : PyData.eqv (.list ds) (.list []) = ds.isEmpty := by
  cases ds with
  | nil => simp [PyData.eqv, PyData.eqvAll]
  | cons d ds => simp [PyData.eqv, PyData.eqvAll]

theorem mix_bound {v pt A B C : Int} (v0 : 0 ≤ v) (v1 : v < 2147483648) (p0 : 0 ≤ pt) (p1 : pt ≤ 1000000) (a0 : 0 ≤ A) (a1 : A ≤ 1000000) (b0 : 0 ≤ B) (b1 : B ≤ 1000000) (c0 : 0 ≤ C) (c1 : C ≤ 1000000) :
    (v * (2 * pt + A) + B * pt * pt + C).natAbs < 2 ^ 64 := by
  have e1 : v * (2 * pt + A) ≤ 2147483648 * 3000000 := Int.mul_le_mul (by omega) (by omega) (by omega) (by omega)
  have e2 : 0 ≤ v * (2 * pt + A) := Int.mul_nonneg v0 (by omega)
  have e3 : B * pt ≤ 1000000 * 1000000 := Int.mul_le_mul b1 p1 p0 (by omega)
  have e4 : 0 ≤ B * pt := Int.mul_nonneg b0 p0
  have e5 : B * pt * pt ≤ 1000000 * 1000000 * 1000000 := Int.mul_le_mul e3 p1 p0 (by omega)
  have e6 : 0 ≤ B * pt * pt := Int.mul_nonneg e4 p0
  omega
theorem mul_pt {B pt : Int} (p0 : 0 ≤ pt) (p1 : pt ≤ 1000000) (b0 : 0 ≤ B) (b1 : B ≤ 1000000) : CMul (B * pt) pt := by
  have e3 : B * pt ≤ 1000000 * 1000000 := Int.mul_le_mul b1 p1 p0 (by omega)
  have e4 : 0 ≤ B * pt := Int.mul_nonneg b0 p0
  exact .inl ⟨by omega, by omega⟩
theorem at_mod {ns : List Int} {pt : Int} (h : ns ≠ []) (p0 : 0 ≤ pt) : ∃ v, atI (ns.map V.int) (pt % ((ns.map V.int).length : Int)) = some (.int v) := by
  have hl : 0 < (ns.map V.int).length := by
    rw [List.length_map]; exact List.length_pos_iff.mpr h
  have h1 := Int.emod_nonneg pt (show ((ns.map V.int).length : Int) ≠ 0 by omega)
  have h2 := Int.emod_lt_of_pos pt (show (0 : Int) < ((ns.map V.int).length : Int) by omega)
  obtain ⟨j, hj⟩ := Int.eq_ofNat_of_zero_le h1
  rw [hj] at h2 ⊢
  have hjl : j < ns.length := by rw [List.length_map] at h2; omega
  refine ⟨ns[j], atI_nat ?_⟩
  rw [List.getElem?_map, List.getElem?_eq_getElem hjl]; rfl
theorem emod_w {x M : Int} (h : 0 < M) (h2 : M ≤ 2147483648) : -(2 ^ 64) < x % M ∧ x % M < 2 ^ 64 := by
  have a := Int.emod_nonneg x (show M ≠ 0 by omega)
  have b := Int.emod_lt_of_pos x h
  omega
theorem emod_b {x M : Int} (h : 0 < M) (h2 : M ≤ 2147483648) : 0 ≤ x % M ∧ x % M < 2147483648 := by
  have a := Int.emod_nonneg x (show M ≠ 0 by omega)
  have b := Int.emod_lt_of_pos x h
  omega
/-- forget what a heap is, but for F -/
theorem gcut {Qd : Hp → Prop} {H : Hp} (F : Hp → Prop) (hF : F H) (h : ∀ H', F H' → Qd H') : Qd H := h H hF
theorem pos_lit {j : Int} (h : 0 < j) : 0 < j := h

section
variable {K : PySem.W.Frag} {c p : Addr} {H H' : Hp} {v : V} {d : PyData} {vs xs : List V} {ds : List PyData}
theorem DV.up (h : DV K c H v d) (e : Ext c H H') : DV K c H' v d := DV.ext e d v h
theorem DVs.up (h : DVs K c H vs ds) (e : Ext c H H') : DVs K c H' vs ds := DVs.ext e ds vs h
/-- a new list, a new tuple, a new dict -/
theorem new_lst (hp : H p = none) (n : p ≠ c) (h : DVs K c H xs ds) : DV K c (upd H p (.lst xs)) (.ref p) (.list ds) ∧ Ext c H (upd H p (.lst xs)) :=
  ⟨.lst n (.of upd_same) (h.up (Ext.new hp)), Ext.new hp⟩
theorem new_tup (hp : H p = none) (n : p ≠ c) (h : DVs K c H xs ds) : DV K c (upd H p (.tup xs)) (.ref p) (.tuple ds) ∧ Ext c H (upd H p (.tup xs)) :=
  ⟨.tup n (.of upd_same) (h.up (Ext.new hp)), Ext.new hp⟩
/-- [x if one of them] -/
theorem one_of {i : Nat} {v : V} {xs : List V} (h : xs[i]? = some v) : v ∈ xs := List.mem_of_getElem? h
end

theorem pi_or {X : Cx} {tg e : Expr} {w1 w2 : TI} (h1 : PI X tg e w1) (h2 : PI X tg e w2) : PI X tg e (fun σ H R => w1 σ H R ∨ w2 σ H R) :=
  ⟨fun pins s σ H R I h => h.elim (h1.run pins s σ H R I) (h2.run pins s σ H R I)⟩
theorem Ext.of {c : Addr} {H H' : Hp} (h : Same H H') : Ext c H H' := fun b o _ e => h b o e
theorem same_new {p : Addr} {H : Hp} {o : HO} (h : H p = none) : Same H (upd H p o) := fun b u e => by
  rw [upd_ne (ne_of_none e h)]; exact e
theorem same_own {p : Addr} {H H' : Hp} {o : HO} (e : Same H H') (h : H p = none) : Same H (upd H' p o) := fun b u x => by
  rw [upd_ne (ne_of_none x h)]; exact e b u x
/-! ### types of data -/
def tyN : PyData → String
  | .none => "NoneType" | .bool _ => "bool" | .int _ => "int" | .str _ => "str" | .list _ => "list" | .tuple _ => "tuple" | .dict _ => "dict"
theorem ty_of {K : PySem.W.Frag} {c : Addr} {H : Hp} {v : V} {d : PyData} (h : DV K c H v d) : TyX K H v (.type (tyN d)) := by
  cases h with
  | non => exact .base .non
  | bl b => exact .base (.bl b)
  | int i => exact .base (.int i)
  | str x => exact .base (.str x)
  | lst _ s _ =>
    rcases s with (s | ⟨o, s⟩) | ⟨o, its, n, e, q, _⟩
    · exact .base (.lst s)
    · exact .base (.frz s)
    · exact .kList e q
  | tup _ s _ =>
    rcases s with (s | ⟨o, s⟩) | ⟨o, its, n, e, q, _⟩
    · exact .base (.tup s)
    · exact .fTuple s
    · exact .kTuple e q
  | dic _ s _ => exact .base (.dK s)
  | dct _ s _ => exact .base (.dT s)
def isInt : PyData → Bool | .int _ => true | _ => false
def isSeq : PyData → Bool | .list _ => true | .tuple _ => true | _ => false
def isStr : PyData → Bool | .str _ => true | _ => false
theorem iteB {b : Bool} {A B : Prop} (h1 : b = true → A) (h2 : b = false → B) : if b = true then A else B := by
  cases b with
  | true => exact iteT (h1 rfl)
  | false => exact iteF (h2 rfl)
/-- a pair of two such things -/
def pairP (f : PyData → Bool) : PyData → Bool
  | .list [a, b] => f a && f b
  | .tuple [a, b] => f a && f b
  | _ => false
abbrev isSq : PyData → Bool := pairP isInt
abbrev isMv : PyData → Bool := pairP isSq
theorem pair_no {f : PyData → Bool} {ds : List PyData} (h : ds.length ≠ 2) : pairP f (.list ds) = false ∧ pairP f (.tuple ds) = false := by
  match ds, h with
  | [], _ => exact ⟨rfl, rfl⟩
  | [_], _ => exact ⟨rfl, rfl⟩
  | [_, _], h => exact absurd rfl h
  | _ :: _ :: _ :: _, _ => exact ⟨rfl, rfl⟩
theorem two_of {α : Type} {ds : List α} (h : ds.length = 2) : ∃ a b, ds = [a, b] := by
  match ds, h with
  | [a, b], _ => exact ⟨a, b, rfl⟩
theorem kI : ∀ d : PyData, kitB (tyN d) "int" = some (match d with | .int _ => true | .bool _ => true | _ => false)
  | .none => (by decide +kernel : kitB "NoneType" "int" = some false)
  | .bool _ => (by decide +kernel : kitB "bool" "int" = some true)
  | .int _ => (by decide +kernel : kitB "int" "int" = some true)
  | .str _ => (by decide +kernel : kitB "str" "int" = some false)
  | .list _ => (by decide +kernel : kitB "list" "int" = some false)
  | .tuple _ => (by decide +kernel : kitB "tuple" "int" = some false)
  | .dict _ => (by decide +kernel : kitB "dict" "int" = some false)
theorem kB : ∀ d : PyData, kitB (tyN d) "bool" = some (match d with | .bool _ => true | _ => false)
  | .none => (by decide +kernel : kitB "NoneType" "bool" = some false)
  | .bool _ => (by decide +kernel : kitB "bool" "bool" = some true)
  | .int _ => (by decide +kernel : kitB "int" "bool" = some false)
  | .str _ => (by decide +kernel : kitB "str" "bool" = some false)
  | .list _ => (by decide +kernel : kitB "list" "bool" = some false)
  | .tuple _ => (by decide +kernel : kitB "tuple" "bool" = some false)
  | .dict _ => (by decide +kernel : kitB "dict" "bool" = some false)
theorem kS : ∀ d : PyData, kitB (tyN d) "str" = some (isStr d)
  | .none => (by decide +kernel : kitB "NoneType" "str" = some false)
  | .bool _ => (by decide +kernel : kitB "bool" "str" = some false)
  | .int _ => (by decide +kernel : kitB "int" "str" = some false)
  | .str _ => (by decide +kernel : kitB "str" "str" = some true)
  | .list _ => (by decide +kernel : kitB "list" "str" = some false)
  | .tuple _ => (by decide +kernel : kitB "tuple" "str" = some false)
  | .dict _ => (by decide +kernel : kitB "dict" "str" = some false)
theorem kL : ∀ d : PyData, kitB (tyN d) "list" = some (match d with | .list _ => true | _ => false)
  | .none => (by decide +kernel : kitB "NoneType" "list" = some false)
  | .bool _ => (by decide +kernel : kitB "bool" "list" = some false)
  | .int _ => (by decide +kernel : kitB "int" "list" = some false)
  | .str _ => (by decide +kernel : kitB "str" "list" = some false)
  | .list _ => (by decide +kernel : kitB "list" "list" = some true)
  | .tuple _ => (by decide +kernel : kitB "tuple" "list" = some false)
  | .dict _ => (by decide +kernel : kitB "dict" "list" = some false)
theorem kT : ∀ d : PyData, kitB (tyN d) "tuple" = some (match d with | .tuple _ => true | _ => false)
  | .none => (by decide +kernel : kitB "NoneType" "tuple" = some false)
  | .bool _ => (by decide +kernel : kitB "bool" "tuple" = some false)
  | .int _ => (by decide +kernel : kitB "int" "tuple" = some false)
  | .str _ => (by decide +kernel : kitB "str" "tuple" = some false)
  | .list _ => (by decide +kernel : kitB "list" "tuple" = some false)
  | .tuple _ => (by decide +kernel : kitB "tuple" "tuple" = some true)
  | .dict _ => (by decide +kernel : kitB "dict" "tuple" = some false)
theorem kit_seq {K : PySem.W.Frag} (d : PyData) : PySem.W.kitAny K (.type (tyN d)) [.type "list", .type "tuple"] = some (isSeq d) := by
  have kl := kL d
  have kt := kT d
  cases d with
  | list _ => exact kitAny_cons (kit_ty kl) (fun h => nomatch h) (fun _ => rfl)
  | tuple _ => exact kitAny_cons (kit_ty kl) (fun _ => kitAny_cons (kit_ty kt) (fun h => nomatch h) (fun _ => rfl)) (fun h => nomatch h)
  | _ => exact kitAny_cons (kit_ty kl) (fun _ => kitAny_cons (kit_ty kt) (fun _ => rfl) (fun h => nomatch h)) (fun h => nomatch h)
/-- a def that tells yes or no of one thing, and changes nothing -/
def spB (K : PySem.W.Frag) (f : PyData → Bool) : Sp := fun vs H Q _ => ∃ (c : Addr) (v : V) (d : PyData), vs = [v] ∧ DV K c H v d ∧ ∀ H', Same H H' → Q (.bl (f d)) H'

/-! ### the bag of draws: at c a list of the list l of ints, the place, what is left of a great number -/
def Bag (c l : Addr) (n : Nat) (H : Hp) : Prop := ∃ (ns : List Int) (pt rest : Int), H c = some (.lst [.ref l, .int pt, .int rest]) ∧
  H l = some (.lst (ns.map V.int)) ∧ l ≠ c ∧ ns.length ≤ 63 ∧ 0 ≤ pt ∧ pt ≤ n ∧ 0 ≤ rest
theorem Bag.mono {c l : Addr} {n m : Nat} {H : Hp} (b : Bag c l n H) (h : n ≤ m) : Bag c l m H := by
  obtain ⟨ns, pt, rest, h1, h2, h3, h4, h5, h6, h7⟩ := b
  exact ⟨ns, pt, rest, h1, h2, h3, h4, h5, by omega, h7⟩
theorem Bag.new {c l p : Addr} {n : Nat} {H : Hp} {o : HO} (b : Bag c l n H) (h : H p = none) : Bag c l n (upd H p o) := by
  obtain ⟨ns, pt, rest, h1, h2, h3, h4, h5, h6, h7⟩ := b
  exact ⟨ns, pt, rest, by rw [upd_ne (ne_of_none h1 h)]; exact h1, by rw [upd_ne (ne_of_none h2 h)]; exact h2, h3, h4, h5, h6, h7⟩
/-- a thing that is neither of the two is written -/
theorem Bag.put {c l p : Addr} {n : Nat} {H : Hp} {o : HO} (b : Bag c l n H) (h : p ≠ c) (h' : p ≠ l) : Bag c l n (upd H p o) := by
  obtain ⟨ns, pt, rest, h1, h2, h3, h4, h5, h6, h7⟩ := b
  exact ⟨ns, pt, rest, by rw [upd_ne h.symm]; exact h1, by rw [upd_ne h'.symm]; exact h2, h3, h4, h5, h6, h7⟩
theorem Bag.ne {c l p : Addr} {n : Nat} {H : Hp} (b : Bag c l n H) (h : H p = none) : p ≠ c := by
  obtain ⟨ns, pt, rest, h1, _⟩ := b
  exact fun e => by rw [e, h1] at h; cases h
theorem Bag.ne2 {c l p : Addr} {n : Nat} {H : Hp} (b : Bag c l n H) (h : H p = none) : p ≠ l := by
  obtain ⟨ns, pt, rest, _, h1, _⟩ := b
  exact fun e => by rw [e, h1] at h; cases h
theorem Bag.same {c l : Addr} {n : Nat} {H H' : Hp} (b : Bag c l n H) (h : Same H H') : Bag c l n H' := by
  obtain ⟨ns, pt, rest, h1, h2, r⟩ := b
  exact ⟨ns, pt, rest, h _ _ h1, h _ _ h2, r⟩
end Gs

set_option Elab.async false
set_option linter.all false
set_option maxRecDepth 100000
set_option maxHeartbeats 4000000
namespace Gs
open PySem PySem.Spec PyProof.Rows L2
/-! ### data of known size: depth at most k, bulk at most n -/
structure Fine (k n : Nat) (d : PyData) : Prop where
  sh : d.showable = true
  dp : d.depth ≤ k
  lf : d.leavesShort 1100 = true
  bk : d.bulk ≤ n
structure FineS (k n : Nat) (ds : List PyData) : Prop where
  sh : PyData.showableAll ds = true
  dp : PyData.depthAll ds ≤ k
  lf : PyData.leavesShortAll 1100 ds = true
  bk : PyData.bulkAll ds ≤ n
section
variable {k k' n n' m : Nat} {d e : PyData} {ds es : List PyData}
theorem Fine.mono (h : Fine k n d) (a : k ≤ k') (b : n ≤ n') : Fine k' n' d := ⟨h.sh, Nat.le_trans h.dp a, h.lf, Nat.le_trans h.bk b⟩
theorem FineS.mono (h : FineS k n ds) (a : k ≤ k') (b : n ≤ n') : FineS k' n' ds := ⟨h.sh, Nat.le_trans h.dp a, h.lf, Nat.le_trans h.bk b⟩
theorem int_len {i : Int} (h : i.natAbs < 2 ^ 1000) : (PyData.shown (.int i)).length ≤ 1100 ∧ i.natAbs.log2 < 1920 := by
  have e : i.natAbs.log2 < 1000 := by
    by_cases z : i.natAbs = 0
    · rw [z]; decide
    · exact (Nat.log2_lt z).mpr h
  refine ⟨?_, by omega⟩
  have := int_text_length_le (a := i) (k := 1000) (by decide) e
  show (Str.ofString (toString i)).length ≤ 1100
  rw [PySem.ofString_length]; omega
theorem Fine.int {i : Int} (h : i.natAbs < 2 ^ 1000) : Fine k n (.int i) := by
  obtain ⟨a, b⟩ := int_len h
  refine ⟨?_, Nat.zero_le _, ?_, Nat.zero_le _⟩
  · simp only [PyData.showable, decide_eq_true_eq]; exact b
  · simp only [PyData.leavesShort, decide_eq_true_eq]; exact a
theorem Fine.non : Fine k n .none := ⟨rfl, Nat.zero_le _, rfl, Nat.zero_le _⟩
theorem Fine.bl {b : Bool} : Fine k n (.bool b) := ⟨rfl, Nat.zero_le _, rfl, Nat.zero_le _⟩
theorem Fine.str {x : Str} (h : ∀ c ∈ x.cps.toList, c < 16 ^ 8) (hn : x.length ≤ n) : Fine k n (.str x) := by
  refine ⟨rfl, Nat.zero_le _, ?_, hn⟩
  simp only [PyData.leavesShort, List.all_eq_true, decide_eq_true_eq]; exact h
theorem FineS.nil : FineS k n [] := ⟨rfl, Nat.zero_le _, rfl, Nat.zero_le _⟩
theorem FineS.cons (h : Fine k n d) (r : FineS k m ds) : FineS k (n + 1 + m) (d :: ds) := by
  refine ⟨?_, ?_, ?_, ?_⟩
  · simp only [PyData.showableAll, h.sh, r.sh, Bool.and_self]
  · have a := h.dp; have b := r.dp
    simp only [PyData.depthAll]; omega
  · simp only [PyData.leavesShortAll, h.lf, r.lf, Bool.and_self]
  · have a := h.bk; have b := r.bk
    simp only [PyData.bulkAll]; omega
theorem Fine.list (r : FineS k n ds) : Fine (k + 1) n (.list ds) := by
  refine ⟨?_, ?_, ?_, ?_⟩
  · simp only [PyData.showable]; exact r.sh
  · have b := r.dp; simp only [PyData.depth]; omega
  · simp only [PyData.leavesShort]; exact r.lf
  · simp only [PyData.bulk]; exact r.bk
theorem Fine.tuple (r : FineS k n ds) : Fine (k + 1) n (.tuple ds) := by
  refine ⟨?_, ?_, ?_, ?_⟩
  · simp only [PyData.showable]; exact r.sh
  · have b := r.dp; simp only [PyData.depth]; omega
  · simp only [PyData.leavesShort]; exact r.lf
  · simp only [PyData.bulk]; exact r.bk
theorem Fine.to_tuple (h : Fine k n (.list ds)) : Fine k n (.tuple ds) := by
  obtain ⟨a, b, c, d⟩ := h
  simp only [PyData.showable, PyData.depth, PyData.leavesShort, PyData.bulk] at a b c d
  refine ⟨?_, ?_, ?_, ?_⟩
  · simp only [PyData.showable]; exact a
  · simp only [PyData.depth]; exact b
  · simp only [PyData.leavesShort]; exact c
  · simp only [PyData.bulk]; exact d
theorem Fine.dict1 {a b : PyData} (h : Fine k n a) (g : Fine k m b) : Fine (k + 1) (n + m + 2) (.dict [(a, b)]) := by
  refine ⟨?_, ?_, ?_, ?_⟩
  · simp only [PyData.showable, PyData.showableKv, h.sh, g.sh, Bool.and_self]
  · have x := h.dp; have y := g.dp
    simp only [PyData.depth, PyData.depthKv]; omega
  · simp only [PyData.leavesShort, PyData.leavesShortKv, h.lf, g.lf, Bool.and_self]
  · have x := h.bk; have y := g.bk
    simp only [PyData.bulk, PyData.bulkKv]; omega
theorem Fine.dict2 {a b a' b' : PyData} (h : Fine k n a) (g : Fine k n b) (h' : Fine k n a') (g' : Fine k n b') : Fine (k + 1) (4 * n + 4) (.dict [(a, b), (a', b')]) := by
  refine ⟨?_, ?_, ?_, ?_⟩
  · simp only [PyData.showable, PyData.showableKv, h.sh, g.sh, h'.sh, g'.sh, Bool.and_self]
  · have x := h.dp; have y := g.dp; have x' := h'.dp; have y' := g'.dp
    simp only [PyData.depth, PyData.depthKv]; omega
  · simp only [PyData.leavesShort, PyData.leavesShortKv, h.lf, g.lf, h'.lf, g'.lf, Bool.and_self]
  · have x := h.bk; have y := g.bk; have x' := h'.bk; have y' := g'.bk
    simp only [PyData.bulk, PyData.bulkKv]; omega
theorem Fine.fits (h : Fine k n d) (hn : n ≤ 15000) : d.shown.length ≤ sizeLine := by
  have a := PyData.shown_le_bulk 1100 (by decide) d h.lf
  have b := h.bk
  have c : sizeLine = 16777216 := by decide
  have e : (1100 + 2) * d.bulk ≤ (1100 + 2) * 15000 := Nat.mul_le_mul_left _ (by omega)
  omega
/-- what a list of bools shows -/
theorem fine_bools : ∀ bs : List Bool, FineS 0 bs.length (bs.map PyData.bool)
  | [] => .nil
  | b :: bs => by
    have := FineS.cons (k := 0) (n := 0) (Fine.bl (b := b)) (fine_bools bs)
    exact this.mono (Nat.le_refl _) (by rw [List.length_cons]; omega)
theorem fine_ints : ∀ zs : List Int, (∀ z ∈ zs, z.natAbs < 2 ^ 1000) → FineS 0 zs.length (zs.map PyData.int)
  | [], _ => .nil
  | z :: zs, h => by
    have := FineS.cons (k := 0) (n := 0) (Fine.int (h z List.mem_cons_self)) (fine_ints zs fun y hy => h y (List.mem_cons_of_mem _ hy))
    exact this.mono (Nat.le_refl _) (by rw [List.length_cons]; omega)
end
section
variable {K : PySem.W.Frag} {c : Addr} {H : Hp}
theorem dv_bools : ∀ bs : List Bool, DVs K c H (bs.map V.bl) (bs.map PyData.bool)
  | [] => .nil
  | b :: bs => .cons (.bl b) (dv_bools bs)
end
/-- a text that Lean wrote has signs below 16 ^ 8 -/
theorem ofs_signs (s : String) : ∀ c ∈ (Str.ofString s).cps.toList, c < 16 ^ 8 := by
  rw [PyProof.Rows.signs_ofString]
  intro c hc
  obtain ⟨ch, _, rfl⟩ := List.mem_map.mp hc
  exact ch.val.toNat_lt
theorem fa_nil {k n : Nat} : ∀ d ∈ ([] : List PyData), Fine k n d := fun _ h => nomatch h
theorem fa_cons {k n : Nat} {d : PyData} {ds : List PyData} (h : Fine k n d) (r : ∀ e ∈ ds, Fine k n e) : ∀ e ∈ d :: ds, Fine k n e := fun e m => by
  rcases List.mem_cons.mp m with rfl | m
  · exact h
  · exact r e m
/-- a list of two, of three -/
theorem fine1 {k n : Nat} {a : PyData} (h : Fine k n a) : FineS k (n + 1) [a] := (FineS.cons h FineS.nil (m := 0)).mono (Nat.le_refl _) (by omega)
theorem fine2 {k n : Nat} {a b : PyData} (h : Fine k n a) (g : Fine k n b) : FineS k (2 * n + 2) [a, b] := (FineS.cons h (fine1 g)).mono (Nat.le_refl _) (by omega)
theorem fine3 {k n : Nat} {a b e : PyData} (h : Fine k n a) (g : Fine k n b) (f : Fine k n e) : FineS k (3 * n + 3) [a, b, e] := (FineS.cons h (fine2 g f)).mono (Nat.le_refl _) (by omega)
theorem fine_tos {k : Nat} {i : Int} (h : i.natAbs < 2 ^ 1000) : Fine k 1100 (.str (toString i)) := by
  refine .str (ofs_signs _) ?_
  exact (int_len h).1
theorem fine_lit {k : Nat} {x : String} (h : (Str.ofString x).length ≤ 100) : Fine k 100 (.str (Str.ofString x)) := .str (ofs_signs _) h
/-- x = e where e has one value whatever way it goes, and changes nothing that is known -/
theorem asg_val {te : TE} {tg : TG} {D : Ends} {σ : L2.St} {H : Hp} (v : V) (h1 : ∀ Q : VK, (∀ H', Same H H' → Q v H') → te σ H Q) (h2 : ∀ H', Same H H' → tg v σ H' D.nx) : tAsg te tg D σ H := h1 _ h2
theorem seq_asg {te : TE} {tg : TG} {r : TS} {D : Ends} {σ : L2.St} {H : Hp} (v : V) (h1 : ∀ Q : VK, (∀ H', Same H H' → Q v H') → te σ H Q) (h2 : ∀ H', Same H H' → tg v σ H' (r D)) : tSeq (tAsg te tg) r D σ H := h1 _ h2
end Gs

set_option Elab.async false
set_option linter.all false
set_option maxRecDepth 100000
set_option maxHeartbeats 4000000
namespace Gs
open PySem PySem.Spec PyProof.Rows L2
section
variable {P : Program} {w : World} {K : PySem.W.Frag} {mg mb : Str → Option Value} {CX : CXT} {k : Nat} {fa a : Addr} {fd : FuncData} {x : Str} {sp : Sp}
  {s₁ : Shared} {vs : List Value} {ns : List Int}
/-- the law's call, from what its def promises where no guard stands -/
theorem law_callG (KX : K.In s₁.heap) (hns : s₁.heap.Ns mainGlobals mg) (hb : s₁.heap.Ns builtinsNs mb) (hbb : ∀ x : Str, x ≠ "__name__" → mb x = bootBuiltins x)
    (hlim : s₁.heap.NoLimit) (hg : s₁.gens = #[]) (ha : s₁.heap.get? a = some { cls := .type "list", data := .seq vs.toArray }) (hi : IntsAre vs ns) (hl : ns.length ≤ sizeLine)
    (hr : Room k callerA) (F : ∀ base : Heap, K.In base → base.Ns mainGlobals mg → FnG P w K mg base CX k fa fd [x] sp)
    (hbind : ∀ (s : Shared) (u : Value), BindsTo s fd ⟨[u], []⟩ [(x, u)])
    (hsp : ∀ H : Hp, SqL K H a (ns.map V.int) → sp [.ref a] H (fun v _ => v = .bl true) fun _ _ _ => False)
    (hCX : ∀ H e s', CX [] H s₁ (fun _ _ _ => False) e s' → False) :
    codeAny (model P w) callerA (.call (.ref fa) ⟨[.ref a], []⟩)
      (fun r s' => r = .ok (.ret (.bool true)) ∧ OldK s₁.heap s'.heap ∧ s'.os = s₁.os ∧ AllBare s'.gens) s₁ := by
  have rv := vals_ints hi
  have nV := hi.length
  -- H knows nothing, or just the script, which is frozen
  have go : ∀ H : Hp, (∀ b, H b = none ∨ (b = a ∧ K.lookup b = none ∧ ∃ o ys, H b = some (.frz o (.lst ys)))) → SqL K H a (ns.map V.int) → HOk P w H s₁.heap →
      codeAny (model P w) callerA (.call (.ref fa) ⟨[.ref a], []⟩)
        (fun r s' => r = .ok (.ret (.bool true)) ∧ OldK s₁.heap s'.heap ∧ s'.os = s₁.os ∧ AllBare s'.gens) s₁ := by
    intro H hO hS hok
    have unk : ∀ {b : Addr} {o : Obj}, s₁.heap.get? b = some o → o.data ≠ .seq vs.toArray → H b = none := by
      intro b o e nd
      rcases hO b with q | ⟨q, _, _⟩
      · exact q
      · rw [q, ha] at e; cases e; exact absurd rfl nd
    have nsH : ∀ {b : Addr} {m : Str → Option Value}, s₁.heap.Ns b m → (hidT s₁.heap H).Ns b m := by
      rintro b m ⟨o, es, ep, e, d, r⟩
      exact ⟨o, es, ep, hidT_get e (unk e (by rw [d]; exact fun z => nomatch z)), d, r⟩
    have kH : K.In (hidT s₁.heap H) := by
      intro b o e
      refine hidT_get (KX b o e) ?_
      rcases hO b with q | ⟨_, q, _⟩
      · exact q
      · rw [q] at e; cases e
    have md : Mod K mg (hidT s₁.heap H) := by
      refine ⟨kH, nsH hns, ⟨mb, nsH hb, hbb⟩, ?_⟩
      obtain ⟨mc, h1, h2⟩ := hlim
      exact ⟨mc, nsH h1, h2⟩
    have e0 : Env0 P w K mg (hidT s₁.heap H) callerA [] s₁ H := by
      refine ⟨rfl, md, fun b o e => of_hidT e, Nat.le_of_eq (hidT_size _ _), trivial, ?_, hok, .of_eq hg⟩
      intro b hb
      exact absurd (show b ∈ ([] : List Addr) from hb) (List.not_mem_nil)
    have run := (F _ kH (nsH hns)).run callerA [] s₁ H ⟨[.ref a], []⟩ [.ref a] [.ref a] _ _ hr rfl e0 (hbind s₁ (.ref a)) (.cons rfl .nil) (hsp H hS)
    refine codeAny_mono run (fun r s' h => ?_)
    match r, h with
    | .error e, h => exact (hCX H e s' h).elim
    | .ok .next, h => exact h.elim
    | .ok .brk, h => exact h.elim
    | .ok .cont, h => exact h.elim
    | .ok (.ret u), h =>
      obtain ⟨v, H', os, bare, un, hok', r', q⟩ := h
      cases (show v = .bl true from q)
      cases (show u = Value.bool true from r')
      refine ⟨rfl, OldK.of_keep (fun b o e => ?_), os, bare⟩
      rcases hO b with q | ⟨_, _, ob, ys, q⟩
      · exact un.keep b o e q (fun z => absurd (show b ∈ ([] : List Addr) from z) List.not_mem_nil) List.not_mem_nil
      · obtain ⟨e1, _⟩ := hok b _ q
        obtain ⟨e2, _⟩ := hok' b _ (un.frzs b ob _ q)
        rw [e] at e1; cases e1; exact e2
  by_cases hk : K.lookup a = none
  · have at_a : (fun b => if b = a then some (HO.frz { cls := .type "list", data := .seq vs.toArray } (.lst (ns.map V.int))) else none : Hp) a = some (.frz { cls := .type "list", data := .seq vs.toArray } (.lst (ns.map V.int))) := if_pos rfl
    refine go (fun b => if b = a then some (.frz { cls := .type "list", data := .seq vs.toArray } (.lst (ns.map V.int))) else none) (fun b => ?_) (.inl (.inr ⟨_, at_a⟩)) (fun b u z => ?_)
    · by_cases e : b = a
      · exact .inr ⟨e, by rw [e]; exact hk, _, _, if_pos e⟩
      · exact .inl (if_neg e)
    · dsimp only at z
      by_cases e : b = a
      · rw [if_pos e] at z; cases z; subst e
        exact ⟨ha, by rw [List.length_map]; exact hl, vs, _, rv, ha⟩
      · rw [if_neg e] at z; cases z
  · obtain ⟨o, ho⟩ := Option.ne_none_iff_exists'.mp hk
    have e := KX a o ho
    rw [ha] at e; cases e
    refine go (fun _ => none) (fun _ => .inl rfl) (.inr ⟨_, vs.toArray, _, ho, rfl, rfl, rfl, ?_, by simpa using rv⟩) (fun b u z => nomatch z)
    rw [List.size_toArray, nV]; exact hl
end
/-- what the head leaves, from the law's promise -/
theorem walkG {l : PySem.W.OpenLaw} {k : Nat} {q : Program} {loose : List Str} {XP : (Str → Option Value) → Heap → Prop} {YP : World → Heap → Prop} {d : DefRec}
    {K : Params → PySem.W.Frag} {sp : PySem.W.Frag → Sp} {x : Str} (hn : l.most = some 63) (hdf : d.params.defaults = []) (hr : Room k callerA)
    (hY : ∀ (w : World) (h : Heap), YP w h → (K w.params).In h)
    (F : ∀ (w : World) (mg : Str → Option Value) (fa : Addr) (h : Heap), (K w.params).In h → h.Ns mainGlobals mg → mg d.name = some (.ref fa) →
      ∃ fd : FuncData, (∀ (s : Shared) (u : Value), BindsTo s fd ⟨[u], []⟩ [(x, u)]) ∧
        ∀ base : Heap, (K w.params).In base → base.Ns mainGlobals mg → FnG l.prog w (K w.params) mg base CX0 k fa fd [x] (sp (K w.params)))
    (hsp : ∀ (K : PySem.W.Frag) (H : Hp) (a : Addr) (ns : List Int), ns.length ≤ 63 → SqL K H a (ns.map V.int) → sp K [.ref a] H (fun v _ => v = .bl true) fun _ _ _ => False) :
    PySem.W.WalkO q loose XP YP l.row.toRowW d [] (fun f vs => PySem.call f vs) := by
  refine Att.attach_call hn hdf (fun w s₀ s₁ mg mb fa o pm cd doc a vs ns G Y ho hd hcd hmg hobj hints hlen hg => ?_)
  have KX := hY w _ Y
  obtain ⟨fd, hb, hF⟩ := F w mg fa _ KX G.T.g hmg
  exact law_callG KX G.T.g G.T.b G.T.builtins G.T.nolimit hg hobj hints (Nat.le_trans hlen (by decide)) hr hF hb (fun H hS => hsp _ H a ns hlen hS) (fun _ _ _ h => h)
end Gs

set_option Elab.async false
set_option linter.all false
set_option maxRecDepth 100000
set_option maxHeartbeats 4000000
/-! Layer G3: {elt for x in ..} whose elt is a tuple of ints. -/
namespace Gs
open PySem PySem.Spec PyProof.Rows L2
section
variable {X : Cx} {pins : List (Addr × Obj)} {σ : L2.St} {H : Hp} {s : Shared}
abbrev Tps := List (Addr × List Int)
/-- D.add(x), x a tuple of ints -/
theorem addT_ok {E : Value → Shared → Prop} {D x : Addr} {L : Tps} {k : List Int} {Q : Value → Shared → Prop} (I : Inv X pins σ H s) (hD : H D = some (SetTO X.prog X.w D L))
    (hL : ∀ p ∈ L, SqT X.K H p.1 (p.2.map V.int)) (hx : SqT X.K H x (k.map V.int)) (hu : X.A.units + 1 < cLine) (room : L.length + 1 < 64)
    (h : ∀ (L' : Tps) s', (k ∈ L.map (·.2) → L' = L) → (k ∉ L.map (·.2) → L'.Perm ((x, k) :: L)) → Inv X pins σ (upd H D (SetTO X.prog X.w D L')) s' → Q .none s') :
    wpAny (model X.prog X.w) X.A (call (.builtin "set.add") [.ref D, .ref x]) Q E s := by
  have R0 : SetT0 X.prog X.w s.heap D L := (I.hok D _ hD).1
  obtain ⟨es, ep, t, R⟩ := R0.full fun p hp => I.isT (hL p hp)
  obtain ⟨o, ho, hex, hd⟩ := R.ob
  have ty : s.TypeIs (.ref D) "set" := ⟨o, ho, hex.1⟩
  refine wpAny_call_entry F.slot_set_add ty F.entry_set_add ?_ (F.args_set_add_2 _ _)
  unfold Builtin.«set.add» Builtin.Frozenset.oneOther
  simp only [List.isEmpty_nil, bind_assoc]
  unfold Builtin.Frozenset.addrOf setAdd
  refine wpAny_bind (wpAny_pure ?_)
  try dsimp only
  refine wpAny_bind (wpAny_pure ?_)
  try dsimp only
  refine wpAny_bind ?_
  refine wpAny_holding ?_
  refine wpAny_bind (wpAny_pyHash_tuple (by show X.A.units + 1 < cLine; exact hu) (I.isT hx) ?_)
  refine add_at (s := { s with toks := s.toks + (k.length + 1) }) R (I.isT hx) (by show X.A.units + 1 < cLine; exact hu) room fun b h' L' es' ep' t' sb R' c1 c2 => ?_
  show wpAny _ _ (ret Value.none) _ _ _
  have there : ∃ u, h'.get? D = some u := by
    obtain ⟨o', ho', _⟩ := R'.ob
    exact ⟨o', ho'⟩
  have J := I.write (e := D) (t' := s.toks + (k.length + 1)) (x := D) (o := SetTO X.prog X.w D L') (by rw [hD]; trivial) (.inl rfl) (fun c u hc hu => (sb.2 c hc).trans hu) there (setTO_new R'.t0)
  exact wpAny_pure ⟨_, rfl, h L' _ c1 c2 J⟩
end
end Gs

set_option Elab.async false
set_option linter.all false
set_option maxRecDepth 100000
set_option maxHeartbeats 4000000
/-! Layer G4: a set comprehension over any kind of set object that adds by a rule of its own; its instance for tuples of ints; len of such a set. -/
namespace Gs
open PySem PySem.Spec PyProof.Rows L2 PpSet
/-- a kind of set objects: what stands at D, the fresh one, what adding a value asks and gives -/
structure SetKd (P : Program) (w : World) (K : PySem.W.Frag) (α : Type) where
  ob : Addr → α → HO
  zero : α
  fresh : ∀ (H : Hp) (h : Heap), ObjOk P w H (h.push { cls := .type "set", dict := none, data := .set #[] 0 (.fresh 0 0 (!w.params.followText "set-order")) }) h.objs.size (ob h.objs.size zero)
  adds : Addr → V → Hp → (Hp → Prop) → Prop
  rule : ∀ (Y : Cx), Y.prog = P → Y.w = w → Y.K = K → Y.A.units + 2 < cLine → ∀ (pins : List (Addr × Obj)) (σ : L2.St) (H : Hp) (s : Shared) (E : Value → Shared → Prop) (D : Addr) (y : V) (u : Value) (F : Hp → Prop), Inv Y pins σ H s → RelV y u → adds D y H F →
    wpAny (model P w) Y.A (call (.builtin "set.add") [.ref D, u]) (fun _ s' => ∃ H', Inv Y pins σ H' s' ∧ F H') E s
def tSetC {P : Program} {w : World} {K : PySem.W.Frag} {α : Type} (Z : SetKd P w K α) (wi : TI) (g : TG) (tt : TT) (te : TE) (vs : List Nat) : TE := fun σ H Q => wi σ H fun J H1 => ∀ D, H1 D = none →
  ∃ W : Nat → Nat → Hp → Prop, (∃ m, W 0 m (upd H1 D (Z.ob D Z.zero))) ∧ ∀ i m H, W i m H → (J.stop i H ∧ Q (.ref D) H) ∨
    (J.go i H ∧ ∃ Nx : Hp → Prop, (∀ H', Nx H' → ∃ m', m' < m ∧ W (i + 1) m' H') ∧ ∀ x H', J.yld i H x H' → g x (wipe σ vs) H' fun σ2 H2 => wipe σ2 vs = wipe σ vs ∧ tt σ2 H2 fun b H3 => if b = true then te σ2 H3 fun y H4 => Z.adds D y H4 Nx else Nx H3)
section
variable {X : Cx}
theorem setc_run {α : Type} {pins : List (Addr × Obj)} {s : Shared} {σ : L2.St} {H : Hp} {Q : VK} {elt tg iter : Expr} {ifs : List Expr} {scope : Scope} {own : List (PySem.Str × Nat)} {pos pos' : Pos} {wi : TI} {g : TG} {tt : TT} {te : TE} {use : Option (Value → Sem Unit)}
    {Qf : Value → Shared → Prop} (Z : SetKd X.prog X.w X.K α) (hu : X.A.units + 2 < cLine) (calm : X.calm = true) (nod : X.N.Nodup) (I : Inv X pins σ H s) (pi : PI X tg iter wi) (bok : BlkOk X.N X.env.scope scope own)
    (pg : ∀ (s : Shared) (H : Hp) (C : Addr) (cl : List (PySem.Str × Addr)) (fp : List Addr), PG (X.blk s H scope (compEnvC scope cl C X.env) fp) tg g)
    (pt : ∀ (s : Shared) (H : Hp) (C : Addr) (cl : List (PySem.Str × Addr)) (fp : List Addr), PTs (X.blk s H scope (compEnvC scope cl C X.env) fp) ifs tt)
    (pe : ∀ (s : Shared) (H : Hp) (C : Addr) (cl : List (PySem.Str × Addr)) (fp : List Addr), PE (X.blk s H scope (compEnvC scope cl C X.env) fp) elt te)
    (plain : ∀ x, foldedSetIterable iter X.env x = pure x) (h : tSetC Z wi g tt te (own.map (·.2)) σ H Q)
    (back : ∀ D C s' m H', Inv X pins σ H' s' → Q (.ref D) H' → s'.heap.Ns C m → FpOk X pins H' C → compPost (model X.prog X.w) X.A X.xe use Qf (.ref D) C (.ok .next) s') :
    wpAny (model X.prog X.w) X.A (comprehension (.SetComp elt [⟨tg, iter, ifs, 0⟩] scope pos) scope X.env pos' (newSet (.type "set")) false (eval iter X.env) use) Qf X.xe s := by
  have cells : ∀ q ∈ scope.names, q.2 = .free → ∃ c, X.env.cells.lookup q.1 = some c := by
    intro q hq e
    cases bok.free q hq e with
    | inl k => exact I.ok.has _ (Or.inl k)
    | inr k => exact I.ok.has _ (Or.inr k)
  refine wpAny_comprehension_free (use := use) rfl plain (closure_ok cells) bok.kind (fun q hq e => (bok.uniq q hq).trans (congrArg some e)) (thn (pi.run pins s σ H _ I h) fun _ s1 hx => thn hx fun _ s2 got => ?_)
  obtain ⟨it, fp, tn, J, H2, rfl, I2, T, st2, f2, q⟩ := got
  refine newSet_ok (newEnv_comp ?_)
  obtain ⟨D, hD⟩ : ∃ D, D = s2.heap.objs.size := ⟨_, rfl⟩
  have free : H2 D = none := I2.hok.fresh (by rw [hD]; exact Nat.le_refl _)
  obtain ⟨W, ⟨m0, w0⟩, turn⟩ := q D free
  obtain ⟨s3, hs3⟩ : ∃ s3 : Shared, s3 = { s2 with heap := s2.heap.push { cls := .type "set", dict := none, data := .set #[] 0 (.fresh 0 0 (!X.w.params.followText "set-order")) } } := ⟨_, rfl⟩
  have hp3 : ∀ b o, s2.heap.get? b = some o → s3.heap.get? b = some o := fun b o e => by rw [hs3]; exact Heap.get?_push_of_some _ e
  have sz3 : s3.heap.objs.size = s2.heap.objs.size + 1 := by rw [hs3]; exact Heap.size_push _ _
  have I3 : Inv X pins σ (upd H2 D (Z.ob D Z.zero)) s3 := by
    rw [hs3]
    refine I2.laid (t' := s2.toks) (fun b o e => Heap.get?_push_of_some _ e) (by rw [hD]; exact Nat.le_refl _) ?_
    rw [hD]
    exact Z.fresh _ _
  have below : ∀ b ∈ fp, b < s2.heap.objs.size := by
    intro b hb
    obtain ⟨o, e, _⟩ := T.obj _ _ st2 b hb
    exact Heap.lt_size e
  have fps : ∀ b ∈ fp, FpOk X pins (upd H2 D (Z.ob D Z.zero)) b ∧ b < s3.heap.objs.size := by
    intro b hb
    have lt := below b hb
    refine ⟨⟨(upd_ne (by rw [hD]; exact Nat.ne_of_lt lt)).trans (f2 b hb).1, (f2 b hb).2⟩, by rw [sz3]; exact Nat.lt_succ_of_lt lt⟩
  have st3 : tn 0 s3.heap := T.keep _ _ _ st2 fun b _ o e => hp3 b o e
  have I4 := block_start I3 bok nod fps
  have pg := pg s3 (upd H2 D (Z.ob D Z.zero)) s3.heap.objs.size (cellsFrom (s3.heap.objs.size + 1) scope.names (cloFrom X.env.cells scope.names [])) fp
  have pt := pt s3 (upd H2 D (Z.ob D Z.zero)) s3.heap.objs.size (cellsFrom (s3.heap.objs.size + 1) scope.names (cloFrom X.env.cells scope.names [])) fp
  have pe := pe s3 (upd H2 D (Z.ob D Z.zero)) s3.heap.objs.size (cellsFrom (s3.heap.objs.size + 1) scope.names (cloFrom X.env.cells scope.names [])) fp
  have fresh : ∀ b ∈ fp, (upd H2 D (Z.ob D Z.zero)) b = none := fun b hb => (fps b hb).1.1
  rw [← hD, ← hs3]
  show codeAny _ _ (.compStart (.SetComp elt [⟨tg, iter, ifs, 0⟩] scope pos) 0 (.ref it) (.ref D) (compEnvC scope (cellsFrom (s3.heap.objs.size + 1) scope.names (cloFrom X.env.cells scope.names [])) s3.heap.objs.size X.env)) (compPost (model X.prog X.w) X.A X.xe use Qf (.ref D) s3.heap.objs.size) _
  revert I4 pg pt pe
  generalize hce : compEnvC scope (cellsFrom (s3.heap.objs.size + 1) scope.names (cloFrom X.env.cells scope.names [])) s3.heap.objs.size X.env = ce
  intro I4 pg pt pe
  have loc : ce.locals = s3.heap.objs.size := by rw [← hce]; rfl
  generalize upd H2 D (Z.ob D Z.zero) = H3 at I3 I4 pg pt pe w0 fresh fps
  obtain ⟨s4, hs4⟩ : ∃ s4 : Shared, s4 = { s3 with heap := pushCells (s3.heap.push { cls := .type "dict", data := .dict #[] }) scope.names } := ⟨_, rfl⟩
  rw [← hs4] at I4 ⊢
  have st4 : tn 0 s4.heap := T.keep _ _ _ st3 fun b _ o e => by rw [hs4]; exact pushCells_keeps _ _ _ _ (Heap.get?_push_of_some _ e)
  have hold : ∀ {σ' : L2.St} {H' : Hp} {s' : Shared}, Inv (X.blk s3 H3 scope ce fp) [] σ' H' s' → (∀ b ∈ fp, H' b = none) → ∀ b ∈ fp, FpOk (X.blk s3 H3 scope ce fp) [] H' b := by
    intro σ' H' s' I' hn b hb
    exact ⟨hn b hb, (I'.ok.exf b hb).1, I'.ok.exfs b hb, .inl hb, fun x c e => (I'.ok.exf b hb).2 x c e, fun p hp => absurd (show p ∈ ([] : List (Addr × Obj)) ++ [] from hp) (by simp)⟩
  have loop : codeAny (model X.prog X.w) X.A (.compLoop (.SetComp elt [⟨tg, iter, ifs, 0⟩] scope pos) 0 (.ref it) (.ref D) ce) (compPost (model X.prog X.w) X.A X.xe use Qf (.ref D) s3.heap.objs.size) s4 := by
    refine compLoopS_any (fun n s' => ∃ i H', Inv (X.blk s3 H3 scope ce fp) [] (wipe σ (own.map (·.2))) H' s' ∧ tn i s'.heap ∧ (∀ b ∈ fp, H' b = none) ∧ W i n H') ?_ m0 ⟨0, H3, I4, st4, fresh, w0⟩
    rintro n s5 ⟨i, H5, I5, st5, n5, w5⟩
    cases turn i n H5 w5 with
    | inl fin =>
      obtain ⟨stop, qq⟩ := fin
      refine thnF (T.done (X.blk s3 H3 scope ce fp) rfl rfl rfl calm i [] s5 _ H5 (fun _ _ => False) I5 (hold I5 n5) st5 stop) fun r s6 ⟨hr, I6⟩ => ?_
      subst hr
      have I7 : Inv X pins σ H5 s6 := I3.call' (ch := fp) I6.os I6.base I6.hok I6.bare fun b hb => ⟨(fps b hb).1.2.2.2.1, (fps b hb).1.2.1, (fps b hb).1.2.2.2.2.1, (fps b hb).1.2.2.2.2.2⟩
      have gone : H5 s3.heap.objs.size = none := by
        have z : H5 ce.locals = none := I6.free
        rwa [loc] at z
      obtain ⟨m, hn, _⟩ := I6.loc
      have hn : s6.heap.Ns ce.locals m := hn
      rw [loc] at hn
      exact back D s3.heap.objs.size s6 m H5 I7 qq hn (I3.fpOk (Nat.le_refl _) gone)
    | inr more =>
      obtain ⟨go, Nx, hNx, step⟩ := more
      refine thnF (T.item (X.blk s3 H3 scope ce fp) rfl rfl rfl calm i [] s5 _ H5 (fun _ _ => False) I5 (hold I5 n5) st5 go) fun r s6 ⟨u, hr, h6⟩ => ?_
      subst hr
      refine thnF h6 fun _ s7 ⟨x, H7, I7, r7, y7, st7, n7⟩ => ?_
      have I7p := I7.pinned (hold I7 n7) (T.obj _ _ st7)
      refine thnF (pg.run _ s7 _ H7 x u _ I7p r7 (step x H7 y7)) fun _ s8 ⟨σ8, H8, I8, hw8, q8⟩ => ?_
      refine thnF (pt.run _ s8 σ8 H8 _ I8 q8) fun b s9 ⟨H9, I9, q9⟩ => ?_
      have again : ∀ {s' : Shared} {H' : Hp}, Inv (X.blk s3 H3 scope ce fp) ([] ++ pinsAt fp s7.heap) σ8 H' s' → Nx H' →
          ∃ m, m < n ∧ ∃ i H', Inv (X.blk s3 H3 scope ce fp) [] (wipe σ (own.map (·.2))) H' s' ∧ tn i s'.heap ∧ (∀ b ∈ fp, H' b = none) ∧ W i m H' := by
        intro s' H' I' nx
        obtain ⟨m', hm, w'⟩ := hNx H' nx
        have pinned : ∀ b ∈ fp, ∀ o, s7.heap.get? b = some o → s'.heap.get? b = some o ∧ H' b = none := by
          intro b hb o e
          have z := I'.pin (b, o) (List.mem_append_right _ (List.mem_append_right _ (mem_pinsAt hb e)))
          exact ⟨z.1, z.2.1⟩
        refine ⟨m', hm, i + 1, H', (I'.unpinned (pins := [])).weak (by rw [← hw8, wipe_length]) (fun j v e => ?_), T.keep _ _ _ st7 (fun b hb o e => (pinned b hb o e).1), (fun b hb => ?_), w'⟩
        · rw [← hw8] at e
          exact (wipe_some e).1
        · obtain ⟨o, e, _⟩ := T.obj _ _ st7 b hb
          exact (pinned b hb o e).2
      cases b with
      | false =>
        rw [if_neg Bool.false_ne_true] at q9 ⊢
        exact again I9 q9
      | true =>
        rw [if_pos rfl] at q9 ⊢
        refine thnF (pe.run _ s9 σ8 H9 _ I9 q9) fun z s10 ⟨yv, H10, I10, r10, ad⟩ => ?_
        refine wpAny_mono (Z.rule (X.blk s3 H3 scope ce fp) rfl rfl rfl hu _ σ8 H10 s10 _ D yv z Nx I10 r10 ad) (fun _ s11 ⟨H11, I11, nx⟩ => again I11 nx) fun _ _ e => e
  exact codeAny_compStart_set loop (T.self X.A 0 _ _ _ st4 loop)
/-- {elt for tg in iter ..} -/
theorem pe_setc {α : Type} {elt tg iter : Expr} {ifs : List Expr} {scope : Scope} {own : List (PySem.Str × Nat)} {pos : Pos} {wi : TI} {g : TG} {tt : TT} {te : TE} (Z : SetKd X.prog X.w X.K α) (hu : X.A.units + 2 < cLine) (calm : X.calm = true) (nod : X.N.Nodup)
    (pi : PI X tg iter wi) (bok : BlkOk X.N X.env.scope scope own) (pg : ∀ (s : Shared) (H : Hp) (C : Addr) (cl : List (PySem.Str × Addr)) (fp : List Addr), PG (X.blk s H scope (compEnvC scope cl C X.env) fp) tg g)
    (pt : ∀ (s : Shared) (H : Hp) (C : Addr) (cl : List (PySem.Str × Addr)) (fp : List Addr), PTs (X.blk s H scope (compEnvC scope cl C X.env) fp) ifs tt)
    (pe : ∀ (s : Shared) (H : Hp) (C : Addr) (cl : List (PySem.Str × Addr)) (fp : List Addr), PE (X.blk s H scope (compEnvC scope cl C X.env) fp) elt te) (plain : ∀ x, foldedSetIterable iter X.env x = pure x := by intro _; rfl) :
    PE X (.SetComp elt [⟨tg, iter, ifs, 0⟩] scope pos) (tSetC Z wi g tt te (own.map (·.2))) := by
  constructor
  intro pins s σ H Q I h
  rw [eval_SetComp]
  refine setc_run Z hu calm nod I pi bok pg pt pe plain h fun D C s' m H' I' q hn f => ⟨m, hn, fun h2 sb => ?_⟩
  obtain ⟨f0, f1, f2, f3, f4, f5⟩ := f
  exact ⟨.ref D, H', I'.turned (t' := s'.toks) (fun b o hb e => (sb.2 b hb).trans e) f0 f1 f3 f4 f5, rfl, q⟩
end
end Gs
namespace Gs
open PySem PySem.Spec PyProof.Rows L2 PpSet
/-- sets of tuples of ints -/
def tupKd (P : Program) (w : World) (K : PySem.W.Frag) : SetKd P w K Tps where
  ob := fun D L => SetTO P w D L
  zero := []
  fresh := fun H h => setTO_new (setTR_fresh (Heap.get?_push_size _ rfl)).t0
  adds := fun D y H F => ∃ (x : Addr) (k : List Int) (L : Tps), y = .ref x ∧ H D = some (SetTO P w D L) ∧ (∀ p ∈ L, SqT K H p.1 (p.2.map V.int)) ∧ SqT K H x (k.map V.int) ∧ L.length + 1 < 64 ∧
    ∀ L' : Tps, (k ∈ L.map (·.2) → L' = L) → (k ∉ L.map (·.2) → L'.Perm ((x, k) :: L)) → F (upd H D (SetTO P w D L'))
  rule := by
    rintro Y rfl rfl rfl hu pins σ H s E D y u F I r ⟨x, k, L, rfl, hD, hL, hx, room, q⟩
    cases (show u = Value.ref x from r)
    exact addT_ok I hD hL hx (by omega) room fun L' s' c1 c2 J => ⟨_, J, q L' c1 c2⟩
def rLenT (K : PySem.W.Frag) (P : Program) (w : World) : List V → Hp → VK → Prop := fun xs H Q => ∃ (a : Addr) (L : Tps), xs = [.ref a] ∧ H a = some (SetTO P w a L) ∧ (∀ p ∈ L, SqT K H p.1 (p.2.map V.int)) ∧ Q (.int L.length) H
theorem call_lenT {X : Cx} : CallR X (.builtin "len") (rLenT X.K X.prog X.w) := by
  intro pins s σ H xs us Q I r h
  obtain ⟨a, L, rfl, ha, hL, q⟩ := h
  rw [Vals.ref1 r]
  have R0 : SetT0 X.prog X.w s.heap a L := (I.hok a _ ha).1
  obtain ⟨es, ep, t, R⟩ := R0.full fun p hp => I.isT (hL p hp)
  obtain ⟨o, ho, hex, hd⟩ := R.ob
  have hn := R.size
  have few := R.few
  exact call_len_set ho hex hd R.fits (by rw [hn]; omega) ⟨.int L.length, H, I.tok _, ⟨_, by rw [hn]⟩, q⟩
end Gs

set_option Elab.async false
set_option linter.all false
set_option maxRecDepth 100000
set_option maxHeartbeats 4000000
/-! Layer G5: a written dict with text keys, walked. -/
namespace Gs
open PySem PySem.Spec PyProof.Rows L2
/-- at d: a written dict that holds kvs, in this order -/
structure WD (K : PySem.W.Frag) (w : World) (d : Addr) (kvs : List (Str × V)) : Prop where
  ex : ∃ (es : Array DictEntry) (n : Nat), KDict K w d es n ∧ es.size = kvs.length ∧ ∀ (i : Nat) k v, kvs[i]? = some (k, v) → ∃ en t, es[i]? = some en ∧ en.key = .str k t ∧ RelV v en.val
def Itw (ks : List Str) : It := ⟨fun i _ => i < ks.length, fun i H x H' => H' = H ∧ ∃ k, ks[i]? = some k ∧ x = .str k, fun i _ => ks.length ≤ i⟩
section
variable {P : Program} {w : World} {K : PySem.W.Frag} {tg : Expr} {d : Addr} {es : Array DictEntry} {n : Nat} {ks : List Str}
theorem turn_wkeys (it : Addr) (D : KDict K w d es n) (hz : es.size = ks.length) (hk : ∀ (i : Nat) k, ks[i]? = some k → ∃ en t, es[i]? = some en ∧ en.key = .str k t) :
    Turn P w K tg (Itw ks) [it] it (fun i h => h.IsKeyIter it d i ks.length n) where
  mem := List.mem_cons_self
  obj := by
    intro i h st b hb
    obtain rfl : b = it := List.mem_singleton.mp hb
    obtain ⟨oi, e, c, dd⟩ := st
    exact ⟨oi, e, fun v z => by rw [dd] at z; cases z⟩
  keep := fun i h h' st k => st.at fun oi e => k it List.mem_cons_self oi e
  item := by
    rintro X rfl rfl rfl hc i pins s σ H E I hf st hi
    obtain ⟨f0, f1, f2, f3, f4, f5⟩ := hf it List.mem_cons_self
    have hi : i < ks.length := hi
    obtain ⟨en, t, hen, hkey⟩ := hk i _ (List.getElem?_eq_getElem hi)
    refine next_key_item st (I.kIn _ _ D.at_) rfl hz hen fun h' st' sb => ?_
    have I1 : Inv X pins σ H { s with heap := h' } := I.turned (t' := s.toks) (fun b ob hb e => (sb.2 b hb).trans e) f0 f1 f3 f4 f5
    obtain ⟨oi, e, c, dd⟩ := id st'
    exact ⟨en.key, rfl, go_of (s := { s with heap := h' }) e c dd (by decide) ⟨.str ks[i], H, I1, ⟨t, hkey⟩, ⟨rfl, _, List.getElem?_eq_getElem hi, rfl⟩, st', fun b hb => (hf b hb).1⟩⟩
  done := by
    rintro X rfl rfl rfl hc i pins s σ H E I hf st hi
    obtain ⟨f0, f1, f2, f3, f4, f5⟩ := hf it List.mem_cons_self
    exact next_key_end (I.ok.hd hc) st (I.kIn _ _ D.at_) rfl hz hi fun h' eb => ⟨rfl, I.turned (t' := s.toks) (fun b ob hb e => eb b ob hb e) f0 f1 f3 f4 f5⟩
  self := fun A i s Q E st h => wpAny_pyIter_keyiter st h
def iWKeys (K : PySem.W.Frag) (w : World) (td : TE) : TI := fun σ H R => td σ H fun x H1 => ∃ d kvs, x = .ref d ∧ WD K w d kvs ∧ R (Itw (kvs.map (·.1))) H1
/-- for k in D, D a written dict -/
theorem pi_wkeys {X : Cx} {e : Expr} {td : TE} (he : PE X e td) : PI X tg e (iWKeys X.K X.w td) := by
  constructor
  intro pins s σ H R I h
  refine thn (he.run pins s σ H _ I h) fun u s1 ⟨x, H1, I1, rx, d, kvs, ex, ⟨es, n, D, hz, hk⟩, q⟩ => ?_
  subst ex
  obtain rfl : u = Value.ref d := rx
  have hz : es.size = (kvs.map (·.1)).length := by rw [hz, List.length_map]
  have hk : ∀ (i : Nat) k, (kvs.map (·.1))[i]? = some k → ∃ en t, es[i]? = some en ∧ en.key = .str k t := by
    intro i k e
    rw [List.getElem?_map] at e
    cases z : kvs[i]? with
    | none => rw [z] at e; cases e
    | some q =>
      rw [z] at e
      obtain ⟨en, t, h1, h2, _⟩ := hk i q.1 q.2 z
      cases e
      exact ⟨en, t, h1, h2⟩
  refine iter_keys D.low (I1.kIn _ _ D.at_) ⟨rfl, rfl, rfl⟩ rfl (pi_one (tk := s1.toks) I1 _ (turn_wkeys _ D hz hk) ⟨_, Heap.get?_push_size _ rfl, rfl, ?_⟩ q)
  rw [hz] <;> rfl
theorem walk_wkeys {ks : List Str} : Walk (Itw ks) ks.length (fun _ => True) (fun i H x H' => H' = H ∧ ∃ k, ks[i]? = some k ∧ x = .str k) :=
  ⟨fun i H hi _ => hi, fun H _ => Nat.le_refl _, fun i H x H' _ _ y => y⟩
theorem isStr_str {k z : Str} {t : Tok} : (Value.str k t).isStr z = decide (k = z) := by
  show (k == z) = _
  by_cases h : k = z
  · subst h; simp
  · rw [decide_eq_false h]; simpa using h
/-- what it tells of a key -/
theorem WD.tells {kvs : List (Str × V)} (D : WD K w d kvs) (z : Str) : (∃ (i : Nat) (v : V) (u : Value), kvs[i]? = some (z, v) ∧ PySem.W.nsIn K d z = some (some u) ∧ RelV v u) ∨ ((∀ v, (z, v) ∉ kvs) ∧ PySem.W.nsIn K d z = some none) := by
  obtain ⟨es, n, ⟨at_, lit, low⟩, hz, hk⟩ := D.ex
  have e0 : PySem.W.nsIn K d z = (match es.toList.find? (·.key.isStr z) with
      | some e => some (some e.val)
      | none => if es.toList.any (·.refKey) then none else some none) := by
    unfold PySem.W.nsIn
    rw [at_] <;> rfl
  cases hf : es.toList.find? (·.key.isStr z) with
  | some e =>
    left
    have hm := List.mem_of_find?_eq_some hf
    have hq := List.find?_some hf
    obtain ⟨i, hi⟩ := List.getElem?_of_mem hm
    rw [Array.getElem?_toList] at hi
    have hl : i < kvs.length := by
      have : i < es.size := (Array.getElem?_eq_some_iff.mp hi).1
      omega
    obtain ⟨en, t, h1, h2, h3⟩ := hk i kvs[i].1 kvs[i].2 (List.getElem?_eq_getElem hl)
    rw [hi] at h1
    cases h1
    have hq : e.key.isStr z = true := hq
    rw [h2, isStr_str] at hq
    have ez : kvs[i].1 = z := of_decide_eq_true hq
    refine ⟨i, kvs[i].2, e.val, by rw [List.getElem?_eq_getElem hl, ← ez], ?_, h3⟩
    rw [e0, hf]
  | none =>
    right
    refine ⟨fun v hm => ?_, ?_⟩
    · obtain ⟨i, hi⟩ := List.getElem?_of_mem hm
      obtain ⟨en, t, h1, h2, h3⟩ := hk i z v hi
      have := List.find?_eq_none.mp hf en (by
        rw [← Array.getElem?_toList] at h1
        exact List.mem_of_getElem? h1)
      rw [h2, isStr_str] at this
      exact this (decide_eq_true rfl)
    · rw [e0, hf]
      have : es.toList.any (·.refKey) = false := by
        rw [List.any_eq_false]
        intro e he
        obtain ⟨x, t, h1, _⟩ := lit.all e he
        unfold DictEntry.refKey
        rw [h1]
        exact Bool.false_ne_true
      rw [this] <;> rfl
end
end Gs
namespace Gs
open PySem PySem.Spec PyProof.Rows L2
theorem pg_or {X : Cx} {e : Expr} {t u : TG} (h1 : PG X e t) (h2 : PG X e u) : PG X e (fun v σ H Q => t v σ H Q ∨ u v σ H Q) :=
  ⟨fun pins s σ H v w Q I r h => h.elim (fun h => h1.run pins s σ H v w Q I r h) fun h => h2.run pins s σ H v w Q I r h⟩
end Gs

set_option Elab.async false
set_option linter.all false
set_option maxRecDepth 100000
set_option maxHeartbeats 4000000
/-! Layer G12: == and != by an own __eq__ whatever it answers; str by an own __str__; a staticmethod off its class. -/
namespace Gs
open PySem PySem.Spec PyProof.Rows L2
theorem rel_ref (a : Addr) : L2.RelV (.ref a) (.ref a) := rfl
theorem rel_bl (b : Bool) : L2.RelV (.bl b) (.bool b) := rfl
theorem rel_str (z : Str) (t : Tok) : L2.RelV (.str z) (.str z t) := ⟨t, rfl⟩
theorem rel_ni {v : V} : ¬ L2.RelV v Value.notImplemented := by
  cases v <;> intro h
  · cases h
  · cases h
  · obtain ⟨_, h⟩ := h; cases h
  · obtain ⟨_, h⟩ := h; cases h
  · obtain ⟨_, h⟩ := h; cases h
  · obtain ⟨_, h⟩ := h; cases h
  · cases h
  · cases h
section
variable {X : Cx} {CX : CXT} {k : Nat} {C f : Addr} {fd : FuncData} {ps : List Str} {sp : Sp} {E : XK}
/-- a def that is called below the running body, its promise told there -/
theorem run_sub {A : Around} {pins : List (Addr × Obj)} {σ : L2.St} {H : Hp} {s : Shared} {Q : VK} {us : List Value} {vs : List V} (F : FnOk X.prog X.w X.K X.mg X.base CX k f fd ps sp)
    (hr : Room k A) (hA : A.frames = X.A.frames) (hb : Binds X.K fd ps []) (hx : Passes CX X E) (I : Inv X pins σ H s) (r : Vals vs us) (h : sp vs H Q E) :
    wpAny (model X.prog X.w) A (call (.ref f) us) (EP X pins σ Q) X.xe s := by
  have n : us.length = ps.length := r.length.symm.trans (F.len _ _ _ _ h)
  have b := hb s us I.kIn (by rw [List.append_nil]; exact n)
  rw [List.append_nil] at b
  have z := I.env0
  have z' : Env0 X.prog X.w X.K X.mg X.base A X.stack s H := ⟨by rw [hA]; exact z.frames, z.mod, z.bs, z.bsz, z.funs, z.frf, z.hok, z.bare⟩
  refine wpAny_call (codeAny_mono (F.run A X.stack s H ⟨us, []⟩ us vs Q E hr z' b r h) (fun q s' hq => ?_))
  match q, hq with
  | .error e, hq => exact hx pins σ H s e s' I hq
  | .ok (.ret u), hq => exact I.after hq
  | .ok .next, hq => exact hq.elim
  | .ok .brk, hq => exact hq.elim
  | .ok .cont, hq => exact hq.elim
/-- what an own class needs that == goes by its own def -/
structure OwnC (K : PySem.W.Frag) (C e : Addr) : Prop where
  eq : PySem.W.findIn K (.ref C) "__eq__" = some (some (.ref e))
  fe : PySem.W.isFn K (.ref e) = true
  ne : PySem.W.findIn K (.ref C) "__ne__" = some (some (.builtin "object.__ne__"))
  mo : PySem.W.mroIn K C (.type "object") = some true
/-- what an own class needs that str goes by its own def -/
structure OwnS (K : PySem.W.Frag) (C g : Addr) : Prop where
  st : PySem.W.findIn K (.ref C) "__str__" = some (some (.ref g))
  fs : PySem.W.isFn K (.ref g) = true
/-- what an own class needs that its instances are looked at by isinstance -/
structure TyC (K : PySem.W.Frag) (C : Addr) : Prop where
  cl : Cls K C
  ha : PySem.W.findIn K (.ref C) "__class__" = some (some (.builtin "object.__class__"))
  hn : PySem.W.specialIn K (.builtin "object.__class__") "__get__" = some (some (.builtin "getset_descriptor.__get__"))
  tk : PySem.W.takesIn K (.builtin "object.__class__") = some true
  mo : PySem.W.mroIn K C (.type "object") = some true
theorem TyC.ty {K : PySem.W.Frag} {C a dx : Addr} {fs : List (Str × V)} {H : Hp} (h : TyC K C) (e : H a = some (.ins C dx fs)) : TyX K H (.ref a) (.ref C) := .base (.ins e h.cl h.ha h.hn h.tk h.mo)
theorem nf_own {K : PySem.W.Frag} {C : Addr} : PySem.W.notFirst K C (.ref C) = true := by simp [PySem.W.notFirst]
def rOwn (K : PySem.W.Frag) (C : Addr) (sp : Sp) (E : XK) : R2 := fun x y H Q => ∃ (a dx : Addr) (fs : List (Str × V)) (t : Value), x = .ref a ∧ H a = some (.ins C dx fs) ∧ TyX K H y t ∧
  PySem.W.notFirst K C t = true ∧ sp [.ref a, y] H Q E
theorem op_eqOwn (O : OwnC X.K C f) (F : FnOk X.prog X.w X.K X.mg X.base CX k f fd ps sp) (hr : Room k X.A) (hb : Binds X.K fd ps []) (hx : Passes CX X E) : OpR X (compareOp .Eq) (rOwn X.K C sp E) := by
  intro pins s σ H x y v u Q I rx ry h
  obtain ⟨a, dx, fs, t, rfl, ha, ty, nf, q⟩ := h
  cases (show v = Value.ref a from rx)
  obtain ⟨_, J0, _⟩ := ins_get I.hok ha
  obtain ⟨_, J, _⟩ := J0.look
  obtain ⟨_, hF⟩ := I.fr
  obtain ⟨_, kx, hp, _⟩ := kit_of I ry ty
  refine PySem.W.cmp_K (op := .Eq) (tb := t) hr.units0 hF I.ok.mod.kin J (kx.ty _ _ I.kIn hp) nf O.eq O.fe ?_
  refine wpAny_mono (run_sub F hr rfl hb hx I (.cons (rel_ref a) (.cons ry .nil)) q) (fun z s' hz => ?_) fun _ _ e => e
  obtain ⟨v', H', I', rv, qq⟩ := hz
  cases z with
  | notImplemented => exact (rel_ni rv).elim
  | _ => exact ⟨v', H', I', rv, qq⟩
/-! the slot object.__ne__, off an own class -/
section
variable {prog : Program} {w : World} {M : Model} {A : Around} {EE : Value → Shared → Prop} {s : Shared} {K : PySem.W.Frag} {x e : Addr} {b tb : Value} {ox : Obj} {od : Option Obj}
theorem ne_entry (hu : A.units < cLine) (X : K.In s.heap) (I : PySem.W.InstAt s.heap x ox C od) (O : OwnC K C e) {Q : Fin → Shared → Prop}
    (h : wpAny (model prog w) A (call (.ref e) [.ref x, b]) (fun v s' => ∃ r, v = .bool r ∧ Q (.done (.ret (.bool (!r)))) s') EE s) :
    wpAny (model prog w) A (Builtin.«object.__ne__» ⟨[.ref x, b], []⟩) Q EE s := by
  have step : wpAny (model prog w) A (callSpecialIfBound? (.ref x) (Str.ofString "__eq__") [b]) (fun r s' => ∃ t, r = some (.bool t) ∧ Q (.done (.ret (.bool (!t)))) s') EE s :=
    PySem.W.ifBound_K X I O.eq O.fe (wpAny_mono h (fun v s' ⟨r, ev, q⟩ => ⟨r, by rw [ev], q⟩) fun _ _ z => z)
  unfold Builtin.«object.__ne__»
  repeat (first
    | with_reducible refine wpAny_cRoomFor hu ?_
    | (refine wpAny_bind (m := callSpecialIfBound? (.ref x) (Str.ofString "__eq__") [b]) (wpAny_mono step (fun r s' hr => by
        obtain ⟨t, rfl, q⟩ := hr
        repeat (first | exact q | exact wpAny_pure q | exact wpAny_truthy_bool q | (refine wpAny_bind (m := truthy (.bool _)) (wpAny_truthy_bool ?_)) | wp_step)) fun _ _ z => z))
    | wp_step)
theorem ne_bound {args : List Value} {Q : Option Value → Shared → Prop} (X : K.In s.heap) (I : PySem.W.InstAt s.heap x ox C od) (O : OwnC K C e)
    (h : wpAny M A (call (.builtin "object.__ne__") (.ref x :: args)) (fun v => Q (some v)) EE s) : wpAny M A (callSpecialIfBound? (.ref x) "__ne__" args) Q EE s := by
  have rest : wpAny M A (call (.builtin "object.__ne__") ([.ref x] ++ args) >>= fun v => pure (some v)) Q EE s := wpAny_bind (wpAny_mono h (fun _ _ z => wpAny_pure z) fun _ _ z => z)
  simp only [callSpecialIfBound?, bindSpecialIfBound?]
  refine wpAny_holding (wpAny_bind (wpAny_bind (wpAny_bind (I.type.here ((PySem.W.looks_findIn X O.ne).here ?_)))))
  refine wpAny_bind (wpAny_askSetting (wpAny_ite ?_))
  split
  · exact wpAny_bind (wpAny_of_eq (F.cmp_object.ne.bind _) (wpAny_pure (by exact rest)))
  · exact wpAny_tryCatch (wpAny_bind (wpAny_of_eq (F.cmp_object.ne.bind _) (wpAny_pure (by exact rest))))
theorem ne_rich {L : Addr} {h₀ : Heap} {m : Str → Option Value} (hu : A.units + 1 < cLine) (X : K.In s.heap) (I : PySem.W.InstAt s.heap x ox C od) (O : OwnC K C e)
    (hb : PySem.W.Looks (model prog w) s.heap (typeOf b) tb) (hn : PySem.W.notFirst K C tb = true) {Q : Value → Shared → Prop}
    (h : wpAny (model prog w) A.in1 (call (.ref e) [.ref x, b]) (fun v s' => ∃ r, v = .bool r ∧ Q (.bool (!r)) s') EE s) :
    wpAny (model prog w) A (richCompare .NotEq (.ref x) b) Q EE s := by
  have one : wpAny (model prog w) A (tryCompare (.ref x) "__ne__" b) (fun r s' => ∃ v, r = some v ∧ Q v s') EE s := by
    unfold tryCompare
    refine wpAny_bind (ne_bound X I O ?_)
    refine wpAny_call (codeAny_call_builtin F.cmp_object.ne.plain F.cmpEntry_ne (PySem.W.check_slot F.cmpKind_ne F.cmpSplit_ne (I.type.andThen (PySem.W.looks_mroIn X O.mo)) (F.cmpArgs_ne _ _) ?_))
    refine ne_entry (A := A.in1) hu X I O (wpAny_mono h (fun v s' hv => ?_) fun _ _ z => z)
    obtain ⟨r, rfl, q⟩ := hv
    exact ⟨r, rfl, wpAny_pure ⟨_, rfl, q⟩⟩
  unfold richCompare
  simp only [oneThing_ref]
  refine wpAny_holding (wpAny_bind (wpAny_cRoomFor (Nat.lt_of_succ_lt hu) ?_))
  refine wpAny_bind (I.type.here (wpAny_bind (hb.here ?_)))
  split
  · rename_i q
    have no : PySem.W.subIn K tb (.ref C) = some false := (Bool.or_eq_true_iff.mp hn).elim (fun z => absurd q (by rw [beq_iff_eq.mp z]; simp)) beq_iff_eq.mp
    refine wpAny_bind ((PySem.W.looks_subIn X no).here ?_)
    rw [if_neg Bool.false_ne_true]
    exact wpAny_bind (wpAny_mono one (fun r s' ⟨v, er, hv⟩ => by subst er; exact wpAny_pure hv) fun _ _ z => z)
  · refine wpAny_bind (wpAny_pure ?_)
    rw [if_neg Bool.false_ne_true]
    exact wpAny_bind (wpAny_mono one (fun r s' ⟨v, er, hv⟩ => by subst er; exact wpAny_pure hv) fun _ _ z => z)
end
theorem op_neOwn (O : OwnC X.K C f) (F : FnOk X.prog X.w X.K X.mg X.base CX k f fd ps sp) (hr : Room (k + 1) X.A) (hb : Binds X.K fd ps []) (hx : Passes CX X E) :
    OpR X (compareOp .NotEq) fun x y H Q => rOwn X.K C sp E x y H fun v H' => ∃ b, v = .bl b ∧ Q (.bl (!b)) H' := by
  intro pins s σ H x y v u Q I rx ry h
  obtain ⟨a, dx, fs, t, rfl, ha, ty, nf, q⟩ := h
  cases (show v = Value.ref a from rx)
  obtain ⟨_, J0, _⟩ := ins_get I.hok ha
  obtain ⟨_, J, _⟩ := J0.look
  obtain ⟨_, kx, hp, _⟩ := kit_of I ry ty
  refine ne_rich (h₀ := X.base) (L := 0) (m := X.mg) (by have := hr.units; omega) I.kIn J O (kx.ty _ _ I.kIn hp) nf ?_
  refine wpAny_mono (run_sub (A := X.A.in1) F hr.in1 rfl hb hx I (.cons (rel_ref a) (.cons ry .nil)) q) (fun z s' hz => ?_) fun _ _ e => e
  obtain ⟨v', H', I', rv, b, rfl, qq⟩ := hz
  exact ⟨b, rv, .bl (!b), H', I', rel_bl _, qq⟩
/-- str(o) -/
def rStrO (C : Addr) (sp : Sp) (E : XK) : List V → Hp → VK → Prop := fun xs H Q => ∃ (a dx : Addr) (fs : List (Str × V)), xs = [.ref a] ∧ H a = some (.ins C dx fs) ∧ sp [.ref a] H (fun v H' => ∃ z, v = .str z ∧ Q v H') E
theorem call_strO (O : OwnS X.K C f) (F : FnOk X.prog X.w X.K X.mg X.base CX k f fd ps sp) (hr : Room (k + 2) X.A) (hb : Binds X.K fd ps []) (hx : Passes CX X E) : CallR X (.type "str") (rStrO C sp E) := by
  intro pins s σ H xs us Q I r h
  obtain ⟨a, dx, fs, rfl, ha, q⟩ := h
  obtain ⟨u, rfl, ru⟩ := r.one
  cases (show u = Value.ref a from ru)
  obtain ⟨_, J0, _⟩ := ins_get I.hok ha
  obtain ⟨_, J, _⟩ := J0.look
  refine PySem.W.kso_call hr.in1.in1.units0 I.kIn J O.st O.fs ?_
  refine wpAny_mono (run_sub (A := X.A.in1.in1) F hr.in1.in1 rfl hb hx I (.cons (rel_ref a) .nil) q) (fun z s' hz => ?_) fun _ _ e => e
  obtain ⟨v', H', I', rv, y, rfl, qq⟩ := hz
  obtain ⟨t, rfl⟩ := rv
  exact ⟨.str y, H', I', rel_str y t, qq⟩
/-- what a class needs that C.m is a staticmethod around the def at g -/
structure StaC (K : PySem.W.Frag) (C : Addr) (m : Str) (g : Addr) : Prop where
  ex : ∃ (mc : Value) (p : Addr) (rest : List Value), PySem.W.readsIn K C mc = true ∧ PySem.W.specialIn K (.ref C) "__getattribute__" = some (some (.builtin "type.__getattribute__")) ∧ PySem.W.typeIn K (.ref C) = some mc ∧
    PySem.W.findCls K (.ref C) mc m = some (.get (.builtin "staticmethod.__get__") (.ref p) .none (.ref C)) ∧ PySem.W.recIn K p "staticmethod" = some (.ref g :: rest)
  kp : PySem.W.keepIn K (.ref g) = true
section
variable {pins : List (Addr × Obj)} {σ : L2.St} {H : Hp} {s : Shared} {g : Addr} {m x : Str} {p pos apos : Pos} {e : Expr} {es : List Expr} {kws : List Keyword} {t tk : TA} {pl : Sem Bool} {ks : List Str}
  {gg : List Value → List Value → List Value} {gV : List V → List V → List V}
theorem get_sta {A : Around} {EE : Value → Shared → Prop} {Q : Value × List Value → Shared → Prop} (I : Inv X pins σ H s) (Z : StaC X.K C m g) (h : ∀ s', Inv X pins σ H s' → Q (.ref g, []) s') :
    wpAny (model X.prog X.w) A (getMethod (.ref C) m pl) Q EE s := by
  obtain ⟨mc, p, rest, r1, r2, r3, r4, r5⟩ := Z.ex
  obtain ⟨_, hF⟩ := I.fr
  exact PySem.W.method_of_cls hF I.ok.mod.kin r2 (PySem.W.cls_sm hF I.ok.mod.kin r3 r1 r4 r5 rfl (h _ (I.tok _)))
/-- C.m(e, ..) -/
theorem pe_sta (Z : StaC X.K C m f) (F : FnOk X.prog X.w X.K X.mg X.base CX k f fd ps sp) (hr : Room k X.A) (hg : Gl X x) (hm : X.mg x = some (.ref C)) (hb : Binds X.K fd ps []) (hx : Passes CX X E) (ha : PA X (e :: es) t)
    (hdb : (x == ("__debug__" : Str)) = false := by decide) (he : starEach (e :: es) X.env = (false, eval e X.env) :: starEach es X.env := by rfl)
    (hpl : ((backTo pos (starEach (e :: es) X.env)).any (·.1) || (backToKw pos (keywordEach [] X.env)).any (·.1.isNone)) = false := by rfl)
    (hpl2 : (backTo pos (starEach es X.env)).any (·.1) = false := by rfl)
    (ht : eval (.Call (.Attribute (.Name x p) m apos) (e :: es) [] pos) X.env = (do
      let ov ← eval (.Name x p) X.env
      standAt apos.atName
      let (f, first) ← holding [ov] (getMethod ov m pl)
      callWith pos f first (backTo pos (starEach (e :: es) X.env)) (backToKw pos (keywordEach [] X.env))) := by rfl) :
    PE X (.Call (.Attribute (.Name x p) m apos) (e :: es) [] pos) (tCall sp [] E t) := by
  refine ⟨fun pins s σ H Q I h => ?_⟩
  refine PySem.W.methodCall_KW (pl := pl) (ld_glob I hg hm ?_ hdb) ht
  refine get_sta I Z fun s0 I0 => ?_
  refine PySem.W.callWith_K (h₀ := X.base) I.ok.mod.kin Z.kp (thn (ha.run pos pins s0 σ H _ I0 h) fun us s1 ⟨vs, H1, I1, r, q⟩ => ⟨I1.kIn, ?_⟩) he hpl2
  exact run_fn F hr hb .nil hx I1 r q
/-- C.m(k = v, ..) -/
theorem pe_staK (Z : StaC X.K C m f) (F : FnOk X.prog X.w X.K X.mg X.base CX k f fd ps sp) (hr : Room k X.A) (hg : Gl X x) (hm : X.mg x = some (.ref C)) (hb : KBn X.K fd ps 0 ks gg gV) (hx : Passes CX X E) (hkw : PK X kws tk)
    (hall : (backToKw pos (keywordEach kws X.env)).all (·.1.isSome) = true := by rfl) (hks : (backToKw pos (keywordEach kws X.env)).filterMap (·.1) = ks := by rfl) (hdb : (x == ("__debug__" : Str)) = false := by decide)
    (hpl : ((backTo pos (starEach [] X.env)).any (·.1) || (backToKw pos (keywordEach kws X.env)).any (·.1.isNone)) = false := by rfl)
    (ht : eval (.Call (.Attribute (.Name x p) m apos) [] kws pos) X.env = (do
      let ov ← eval (.Name x p) X.env
      standAt apos.atName
      let (f, first) ← holding [ov] (getMethod ov m pl)
      callWith pos f first (backTo pos (starEach [] X.env)) (backToKw pos (keywordEach kws X.env))) := by rfl) :
    PE X (.Call (.Attribute (.Name x p) m apos) [] kws pos) (tCallN 0 ks.length sp gV E tNil tk) := by
  refine ⟨fun pins s σ H Q I h => ?_⟩
  refine PySem.W.methodCall_KW (pl := pl) (ld_glob I hg hm ?_ hdb) ht
  refine get_sta I Z fun s0 I0 => ?_
  refine PySem.W.callWith_KW0 (h₀ := X.base) I.ok.mod.kin Z.kp hall ?_ hpl
  refine thn (hkw.run pos pins s0 σ H _ I0 h) fun ws s2 ⟨zs, H2, I2, rz, l1, l2, q2⟩ => ⟨I2.kIn, ?_⟩
  rw [hks]
  exact run_fnN (us := []) (vs := []) F hr hb hx I2 .nil rz rfl l2 q2
end
end
end Gs

set_option Elab.async false
set_option linter.all false
set_option maxRecDepth 100000
set_option maxHeartbeats 4000000
namespace Gs
open PySem PySem.Spec PyProof.Rows L2
theorem tabs_none {P : Addr} {q : Str} {H : Hp} (h : H P = some (.tbl #[])) : LamX.Tabs [(P, q)] H := fun p hp => by
  rw [List.mem_singleton.mp hp]
  exact LamX.TabS.nil h
section
variable {P : Program} {w : World} {K : PySem.W.Frag} {mg mb : Str → Option Value} {CX : CXT} {k : Nat} {fa a cc T : Addr} {fd : FuncData} {x : Str} {sp : Sp}
  {s₁ : Shared} {vs : List Value} {ns : List Int}
/-- the law's call where one code object has an empty table -/
theorem law_callGT (KX : K.In s₁.heap) (hns : s₁.heap.Ns mainGlobals mg) (hb : s₁.heap.Ns builtinsNs mb) (hbb : ∀ x : Str, x ≠ "__name__" → mb x = bootBuiltins x)
    (hlim : s₁.heap.NoLimit) (hg : s₁.gens = #[]) (hT : s₁.heap.get? T = some { cls := .none, data := .fields #[] }) (nT : K.lookup T = none) (C : PySem.W.CodeHd s₁.heap cc T)
    (hbm : ∃ (bm : Addr) (ob : Obj), mg "__builtins__" = some (.ref bm) ∧ bm ≠ builtinsNs ∧ s₁.heap.get? bm = some ob ∧ ob.cls = .type "module" ∧ ob.dict = some builtinsNs ∧ ob.data = .plain)
    (ha : s₁.heap.get? a = some { cls := .type "list", data := .seq vs.toArray }) (hi : IntsAre vs ns) (hl : ns.length ≤ sizeLine)
    (hr : Room k callerA) (F : ∀ base : Heap, K.In base → base.Ns mainGlobals mg → LamX.TabB base mg cc T → FnG P w K mg base CX k fa fd [x] sp)
    (hbind : ∀ (s : Shared) (u : Value), BindsTo s fd ⟨[u], []⟩ [(x, u)])
    (hsp : ∀ H : Hp, H T = some (.tbl #[]) → SqL K H a (ns.map V.int) → sp [.ref a] H (fun v _ => v = .bl true) fun _ _ _ => False)
    (hCX : ∀ H e s', CX [] H s₁ (fun _ _ _ => False) e s' → False) :
    codeAny (model P w) callerA (.call (.ref fa) ⟨[.ref a], []⟩)
      (fun r s' => r = .ok (.ret (.bool true)) ∧ OldK s₁.heap s'.heap ∧ s'.os = s₁.os ∧ AllBare s'.gens) s₁ := by
  have rv := vals_ints hi
  have nV := hi.length
  have aT : a ≠ T := fun z => by rw [z, hT] at ha; cases ha
  -- H knows the table, and perhaps the script, which is frozen
  have go : ∀ H : Hp, (∀ b, H b = none ∨ (b = a ∧ K.lookup b = none ∧ ∃ o ys, H b = some (.frz o (.lst ys))) ∨ b = T) → H T = some (.tbl #[]) → SqL K H a (ns.map V.int) → HOk P w H s₁.heap →
      codeAny (model P w) callerA (.call (.ref fa) ⟨[.ref a], []⟩)
        (fun r s' => r = .ok (.ret (.bool true)) ∧ OldK s₁.heap s'.heap ∧ s'.os = s₁.os ∧ AllBare s'.gens) s₁ := by
    intro H hO hHT hS hok
    have unk : ∀ {b : Addr} {o : Obj}, s₁.heap.get? b = some o → o.data ≠ .seq vs.toArray → o.data ≠ .fields #[] → H b = none := by
      intro b o e nd nf
      rcases hO b with q | ⟨q, _, _⟩ | q
      · exact q
      · rw [q, ha] at e; cases e; exact absurd rfl nd
      · rw [q, hT] at e; cases e; exact absurd rfl nf
    have hid : ∀ {b : Addr} {o : Obj}, s₁.heap.get? b = some o → o.data ≠ .seq vs.toArray → o.data ≠ .fields #[] → (hidT s₁.heap H).get? b = some o := fun e n1 n2 => hidT_get e (unk e n1 n2)
    have nsH : ∀ {b : Addr} {m : Str → Option Value}, s₁.heap.Ns b m → (hidT s₁.heap H).Ns b m := by
      rintro b m ⟨o, es, ep, e, d, r⟩
      exact ⟨o, es, ep, hid e (by rw [d]; exact fun z => nomatch z) (by rw [d]; exact fun z => nomatch z), d, r⟩
    have kH : K.In (hidT s₁.heap H) := by
      intro b o e
      refine hidT_get (KX b o e) ?_
      rcases hO b with q | ⟨_, q, _⟩ | q
      · exact q
      · rw [q] at e; cases e
      · rw [q, nT] at e; cases e
    have md : Mod K mg (hidT s₁.heap H) := by
      refine ⟨kH, nsH hns, ⟨mb, nsH hb, hbb⟩, ?_⟩
      obtain ⟨mc, h1, h2⟩ := hlim
      exact ⟨mc, nsH h1, h2⟩
    have e0 : Env0 P w K mg (hidT s₁.heap H) callerA [] s₁ H := by
      refine ⟨rfl, md, fun b o e => of_hidT e, Nat.le_of_eq (hidT_size _ _), trivial, ?_, hok, .of_eq hg⟩
      intro b hb
      exact absurd (show b ∈ ([] : List Addr) from hb) (List.not_mem_nil)
    have ngT : mainGlobals ≠ T := fun z => by
      obtain ⟨o, es, ep, e, d, _⟩ := hns
      rw [z, hT] at e; cases e; cases d
    have TB : LamX.TabB (hidT s₁.heap H) mg cc T := by
      refine ⟨?_, ?_, ngT⟩
      · obtain ⟨o, us, file, tf, flags, tg, inF, text, tt, e1, r1, r2, r3, rest⟩ := C
        refine ⟨o, us, file, tf, flags, tg, inF, text, tt, hid e1 (by rw [r2]; exact fun z => nomatch z) (fun z => ?_), r1, r2, r3, rest⟩
        rw [r2] at z; cases z; simp at r3
      · obtain ⟨bm, ob, b1, b2, b3, b4, b5, b6⟩ := hbm
        refine ⟨bm, ob, b1, b2, fun z => ?_, fun z => ?_, hid b3 (by rw [b6]; exact fun z => nomatch z) (by rw [b6]; exact fun z => nomatch z), b4, b5, b6⟩
        · obtain ⟨o, es, ep, e, d, _⟩ := hns
          rw [z, e] at b3; cases b3
          rw [d] at b6; cases b6
        · rw [z, hT] at b3; cases b3; cases b6
    have run := (F _ kH (nsH hns) TB).run callerA [] s₁ H ⟨[.ref a], []⟩ [.ref a] [.ref a] _ _ hr rfl e0 (hbind s₁ (.ref a)) (.cons rfl .nil) (hsp H hHT hS)
    refine codeAny_mono run (fun r s' h => ?_)
    match r, h with
    | .error e, h => exact (hCX H e s' h).elim
    | .ok .next, h => exact h.elim
    | .ok .brk, h => exact h.elim
    | .ok .cont, h => exact h.elim
    | .ok (.ret u), h =>
      obtain ⟨v, H', os, bare, un, hok', r', q⟩ := h
      cases (show v = .bl true from q)
      cases (show u = Value.bool true from r')
      obtain ⟨more, hm⟩ := un.tbls T #[] hHT
      have gT : s'.heap.get? T = some { cls := .none, data := .fields (#[] ++ more) } := hok' T _ hm
      have keep : ∀ b o, b ≠ T → s₁.heap.get? b = some o → s'.heap.get? b = some o := fun b o nb e => by
        rcases hO b with q | ⟨_, _, ob, ys, q⟩ | q
        · exact un.keep b o e q (fun z => absurd (show b ∈ ([] : List Addr) from z) List.not_mem_nil) List.not_mem_nil
        · obtain ⟨e1, _⟩ := hok b _ q
          obtain ⟨e2, _⟩ := hok' b _ (un.frzs b ob _ q)
          rw [e] at e1; cases e1; exact e2
        · exact absurd q nb
      refine ⟨rfl, ⟨fun b o e => ?_, fun b o e => ?_⟩, os, bare⟩
      · by_cases nb : b = T
        · subst nb
          rw [hT] at e; cases e
          exact .inr (.inl ⟨(C.tab hT).isCodeTable, rfl, #[], more, rfl, gT⟩)
        · exact .inl (keep b o nb e)
      · by_cases nb : b = T
        · rw [nb]; exact ⟨_, gT⟩
        · exact ⟨o, keep b o nb e⟩
  by_cases hk : K.lookup a = none
  · have at_T : (fun b => if b = T then some (HO.tbl #[]) else if b = a then some (HO.frz { cls := .type "list", data := .seq vs.toArray } (.lst (ns.map V.int))) else none : Hp) T = some (.tbl #[]) := if_pos rfl
    have at_a : (fun b => if b = T then some (HO.tbl #[]) else if b = a then some (HO.frz { cls := .type "list", data := .seq vs.toArray } (.lst (ns.map V.int))) else none : Hp) a = some (.frz { cls := .type "list", data := .seq vs.toArray } (.lst (ns.map V.int))) := (if_neg aT).trans (if_pos rfl)
    refine go (fun b => if b = T then some (HO.tbl #[]) else if b = a then some (HO.frz { cls := .type "list", data := .seq vs.toArray } (.lst (ns.map V.int))) else none) (fun b => ?_) at_T (.inl (.inr ⟨_, at_a⟩)) (fun b u z => ?_)
    · by_cases e : b = T
      · exact .inr (.inr e)
      · by_cases e2 : b = a
        · refine .inr (.inl ⟨e2, by rw [e2]; exact hk, _, _, (if_neg e).trans (if_pos e2)⟩)
        · exact .inl ((if_neg e).trans (if_neg e2))
    · dsimp only at z
      by_cases e : b = T
      · rw [if_pos e] at z; cases z; rw [e]; exact hT
      · rw [if_neg e] at z
        by_cases e2 : b = a
        · rw [if_pos e2] at z; cases z; rw [e2]
          exact ⟨ha, by rw [List.length_map]; exact hl, vs, _, rv, ha⟩
        · rw [if_neg e2] at z; cases z
  · obtain ⟨o, ho⟩ := Option.ne_none_iff_exists'.mp hk
    have e := KX a o ho
    rw [ha] at e; cases e
    refine go (fun b => if b = T then some (.tbl #[]) else none) (fun b => ?_) (if_pos rfl) (.inr ⟨_, vs.toArray, _, ho, rfl, rfl, rfl, ?_, by simpa using rv⟩) (fun b u z => ?_)
    · by_cases e : b = T
      · exact .inr (.inr e)
      · exact .inl (if_neg e)
    · rw [List.size_toArray, nV]; exact hl
    · dsimp only at z
      by_cases e : b = T
      · rw [if_pos e] at z; cases z; rw [e]; exact hT
      · rw [if_neg e] at z; cases z
end
/-- what the head leaves, from the law's promise; one code object has a table -/
theorem walkGT {l : PySem.W.OpenLaw} {k : Nat} {q : Program} {loose : List Str} {XP : (Str → Option Value) → Heap → Prop} {YP : World → Heap → Prop} {d : DefRec}
    {K : Params → PySem.W.Frag} {sp : PySem.W.Frag → Sp} {x : Str} {T : Addr} (hn : l.most = some 63) (hdf : d.params.defaults = []) (hr : Room k callerA)
    (hY : ∀ (w : World) (h : Heap), YP w h → (K w.params).In h) (hT : ∀ (w : World) (h : Heap), YP w h → h.get? T = some { cls := .none, data := .fields #[] })
    (F : ∀ (w : World) (mg : Str → Option Value) (fa : Addr) (h : Heap), (K w.params).In h → h.Ns mainGlobals mg → mg d.name = some (.ref fa) →
      ∃ (fd : FuncData) (cc : Addr), (∀ (s : Shared) (u : Value), BindsTo s fd ⟨[u], []⟩ [(x, u)]) ∧ (K w.params).lookup T = none ∧ PySem.W.codeHdIn (K w.params) cc T = true ∧
        ∀ base : Heap, (K w.params).In base → base.Ns mainGlobals mg → LamX.TabB base mg cc T → FnG l.prog w (K w.params) mg base CX0 k fa fd [x] (sp (K w.params)))
    (hsp : ∀ (K : PySem.W.Frag) (H : Hp) (a : Addr) (ns : List Int), ns.length ≤ 63 → H T = some (.tbl #[]) → SqL K H a (ns.map V.int) → sp K [.ref a] H (fun v _ => v = .bl true) fun _ _ _ => False) :
    PySem.W.WalkO q loose XP YP l.row.toRowW d [] (fun f vs => PySem.call f vs) := by
  refine Att.attach_call hn hdf (fun w s₀ s₁ mg mb fa o pm cd doc a vs ns G Y ho hd hcd hmg hobj hints hlen hg => ?_)
  have KX := hY w _ Y
  obtain ⟨fd, cc, hb, nT, hc, hF⟩ := F w mg fa _ KX G.T.g hmg
  exact law_callGT KX G.T.g G.T.b G.T.builtins G.T.nolimit hg (hT w _ Y) nT (PySem.W.codeHd_of_K KX hc) G.T.bmain hobj hints (Nat.le_trans hlen (by decide)) hr hF hb (fun H hHT hS => hsp _ H a ns hlen hHT hS) (fun _ _ _ h => h)
end Gs

set_option Elab.async false
set_option linter.all false
set_option maxRecDepth 100000
set_option maxHeartbeats 4000000
namespace Gs
open PySem PySem.Spec PyProof.Rows L2
theorem tabs_none2 {P Q : Addr} {p q : Str} {H : Hp} (h : H P = some (.tbl #[])) (h2 : H Q = some (.tbl #[])) : LamX.Tabs [(P, p), (Q, q)] H := fun r hr => by
  simp only [List.mem_cons, List.not_mem_nil, or_false] at hr
  rcases hr with rfl | rfl
  · exact LamX.TabS.nil h
  · exact LamX.TabS.nil h2
section
variable {P : Program} {w : World} {K : PySem.W.Frag} {mg mb : Str → Option Value} {CX : CXT} {k : Nat} {fa a cc T cc2 T2 : Addr} {fd : FuncData} {x : Str} {sp : Sp}
  {s₁ : Shared} {vs : List Value} {ns : List Int}
/-- the law's call where two code objects have empty tables -/
theorem law_callGT2 (KX : K.In s₁.heap) (hns : s₁.heap.Ns mainGlobals mg) (hb : s₁.heap.Ns builtinsNs mb) (hbb : ∀ x : Str, x ≠ "__name__" → mb x = bootBuiltins x)
    (hlim : s₁.heap.NoLimit) (hg : s₁.gens = #[]) (hT : s₁.heap.get? T = some { cls := .none, data := .fields #[] }) (nT : K.lookup T = none) (C : PySem.W.CodeHd s₁.heap cc T)
    (hT2 : s₁.heap.get? T2 = some { cls := .none, data := .fields #[] }) (nT2 : K.lookup T2 = none) (C2 : PySem.W.CodeHd s₁.heap cc2 T2)
    (hbm : ∃ (bm : Addr) (ob : Obj), mg "__builtins__" = some (.ref bm) ∧ bm ≠ builtinsNs ∧ s₁.heap.get? bm = some ob ∧ ob.cls = .type "module" ∧ ob.dict = some builtinsNs ∧ ob.data = .plain)
    (ha : s₁.heap.get? a = some { cls := .type "list", data := .seq vs.toArray }) (hi : IntsAre vs ns) (hl : ns.length ≤ sizeLine)
    (hr : Room k callerA) (F : ∀ base : Heap, K.In base → base.Ns mainGlobals mg → LamX.TabB base mg cc T → LamX.TabB base mg cc2 T2 → FnG P w K mg base CX k fa fd [x] sp)
    (hbind : ∀ (s : Shared) (u : Value), BindsTo s fd ⟨[u], []⟩ [(x, u)])
    (hsp : ∀ H : Hp, H T = some (.tbl #[]) → H T2 = some (.tbl #[]) → SqL K H a (ns.map V.int) → sp [.ref a] H (fun v _ => v = .bl true) fun _ _ _ => False)
    (hCX : ∀ H e s', CX [] H s₁ (fun _ _ _ => False) e s' → False) :
    codeAny (model P w) callerA (.call (.ref fa) ⟨[.ref a], []⟩)
      (fun r s' => r = .ok (.ret (.bool true)) ∧ OldK s₁.heap s'.heap ∧ s'.os = s₁.os ∧ AllBare s'.gens) s₁ := by
  have rv := vals_ints hi
  have nV := hi.length
  have aT : a ≠ T := fun z => by rw [z, hT] at ha; cases ha
  have aT2 : a ≠ T2 := fun z => by rw [z, hT2] at ha; cases ha
  -- H knows the table, and perhaps the script, which is frozen
  have go : ∀ H : Hp, (∀ b, H b = none ∨ (b = a ∧ K.lookup b = none ∧ ∃ o ys, H b = some (.frz o (.lst ys))) ∨ b = T ∨ b = T2) → H T = some (.tbl #[]) → H T2 = some (.tbl #[]) → SqL K H a (ns.map V.int) → HOk P w H s₁.heap →
      codeAny (model P w) callerA (.call (.ref fa) ⟨[.ref a], []⟩)
        (fun r s' => r = .ok (.ret (.bool true)) ∧ OldK s₁.heap s'.heap ∧ s'.os = s₁.os ∧ AllBare s'.gens) s₁ := by
    intro H hO hHT hHT2 hS hok
    have unk : ∀ {b : Addr} {o : Obj}, s₁.heap.get? b = some o → o.data ≠ .seq vs.toArray → o.data ≠ .fields #[] → H b = none := by
      intro b o e nd nf
      rcases hO b with q | ⟨q, _, _⟩ | q | q
      · exact q
      · rw [q, ha] at e; cases e; exact absurd rfl nd
      · rw [q, hT] at e; cases e; exact absurd rfl nf
      · rw [q, hT2] at e; cases e; exact absurd rfl nf
    have hid : ∀ {b : Addr} {o : Obj}, s₁.heap.get? b = some o → o.data ≠ .seq vs.toArray → o.data ≠ .fields #[] → (hidT s₁.heap H).get? b = some o := fun e n1 n2 => hidT_get e (unk e n1 n2)
    have nsH : ∀ {b : Addr} {m : Str → Option Value}, s₁.heap.Ns b m → (hidT s₁.heap H).Ns b m := by
      rintro b m ⟨o, es, ep, e, d, r⟩
      exact ⟨o, es, ep, hid e (by rw [d]; exact fun z => nomatch z) (by rw [d]; exact fun z => nomatch z), d, r⟩
    have kH : K.In (hidT s₁.heap H) := by
      intro b o e
      refine hidT_get (KX b o e) ?_
      rcases hO b with q | ⟨_, q, _⟩ | q | q
      · exact q
      · rw [q] at e; cases e
      · rw [q, nT] at e; cases e
      · rw [q, nT2] at e; cases e
    have md : Mod K mg (hidT s₁.heap H) := by
      refine ⟨kH, nsH hns, ⟨mb, nsH hb, hbb⟩, ?_⟩
      obtain ⟨mc, h1, h2⟩ := hlim
      exact ⟨mc, nsH h1, h2⟩
    have e0 : Env0 P w K mg (hidT s₁.heap H) callerA [] s₁ H := by
      refine ⟨rfl, md, fun b o e => of_hidT e, Nat.le_of_eq (hidT_size _ _), trivial, ?_, hok, .of_eq hg⟩
      intro b hb
      exact absurd (show b ∈ ([] : List Addr) from hb) (List.not_mem_nil)
    have tbOf : ∀ (c0 t0 : Addr), s₁.heap.get? t0 = some { cls := .none, data := .fields #[] } → PySem.W.CodeHd s₁.heap c0 t0 → LamX.TabB (hidT s₁.heap H) mg c0 t0 := fun c0 t0 h0 C0 => by
      have ng0 : mainGlobals ≠ t0 := fun z => by
        obtain ⟨o, es, ep, e, d, _⟩ := hns
        rw [z, h0] at e; cases e; cases d
      refine ⟨?_, ?_, ng0⟩
      · obtain ⟨o, us, file, tf, flags, tg, inF, text, tt, e1, r1, r2, r3, rest⟩ := C0
        refine ⟨o, us, file, tf, flags, tg, inF, text, tt, hid e1 (by rw [r2]; exact fun z => nomatch z) (fun z => ?_), r1, r2, r3, rest⟩
        rw [r2] at z; cases z; simp at r3
      · obtain ⟨bm, ob, b1, b2, b3, b4, b5, b6⟩ := hbm
        refine ⟨bm, ob, b1, b2, fun z => ?_, fun z => ?_, hid b3 (by rw [b6]; exact fun z => nomatch z) (by rw [b6]; exact fun z => nomatch z), b4, b5, b6⟩
        · obtain ⟨o, es, ep, e, d, _⟩ := hns
          rw [z, e] at b3; cases b3
          rw [d] at b6; cases b6
        · rw [z, h0] at b3; cases b3; cases b6
    have run := (F _ kH (nsH hns) (tbOf _ _ hT C) (tbOf _ _ hT2 C2)).run callerA [] s₁ H ⟨[.ref a], []⟩ [.ref a] [.ref a] _ _ hr rfl e0 (hbind s₁ (.ref a)) (.cons rfl .nil) (hsp H hHT hHT2 hS)
    refine codeAny_mono run (fun r s' h => ?_)
    match r, h with
    | .error e, h => exact (hCX H e s' h).elim
    | .ok .next, h => exact h.elim
    | .ok .brk, h => exact h.elim
    | .ok .cont, h => exact h.elim
    | .ok (.ret u), h =>
      obtain ⟨v, H', os, bare, un, hok', r', q⟩ := h
      cases (show v = .bl true from q)
      cases (show u = Value.bool true from r')
      obtain ⟨more, hm⟩ := un.tbls T #[] hHT
      obtain ⟨more2, hm2⟩ := un.tbls T2 #[] hHT2
      have gT : s'.heap.get? T = some { cls := .none, data := .fields (#[] ++ more) } := hok' T _ hm
      have gT2 : s'.heap.get? T2 = some { cls := .none, data := .fields (#[] ++ more2) } := hok' T2 _ hm2
      have keep : ∀ b o, b ≠ T → b ≠ T2 → s₁.heap.get? b = some o → s'.heap.get? b = some o := fun b o nb nb2 e => by
        rcases hO b with q | ⟨_, _, ob, ys, q⟩ | q | q
        · exact un.keep b o e q (fun z => absurd (show b ∈ ([] : List Addr) from z) List.not_mem_nil) List.not_mem_nil
        · obtain ⟨e1, _⟩ := hok b _ q
          obtain ⟨e2, _⟩ := hok' b _ (un.frzs b ob _ q)
          rw [e] at e1; cases e1; exact e2
        · exact absurd q nb
        · exact absurd q nb2
      refine ⟨rfl, ⟨fun b o e => ?_, fun b o e => ?_⟩, os, bare⟩
      · by_cases nb : b = T
        · subst nb
          rw [hT] at e; cases e
          exact .inr (.inl ⟨(C.tab hT).isCodeTable, rfl, #[], more, rfl, gT⟩)
        · by_cases nb2 : b = T2
          · subst nb2
            rw [hT2] at e; cases e
            exact .inr (.inl ⟨(C2.tab hT2).isCodeTable, rfl, #[], more2, rfl, gT2⟩)
          · exact .inl (keep b o nb nb2 e)
      · by_cases nb : b = T
        · rw [nb]; exact ⟨_, gT⟩
        · by_cases nb2 : b = T2
          · rw [nb2]; exact ⟨_, gT2⟩
          · exact ⟨o, keep b o nb nb2 e⟩
  by_cases hk : K.lookup a = none
  · obtain ⟨F0, hF0⟩ : ∃ F0 : Hp, F0 = fun b => if b = T then some (HO.tbl #[]) else if b = T2 then some (HO.tbl #[]) else if b = a then some (HO.frz { cls := .type "list", data := .seq vs.toArray } (.lst (ns.map V.int))) else none := ⟨_, rfl⟩
    have at_T : F0 T = some (.tbl #[]) := by rw [hF0]; exact if_pos rfl
    have at_T2 : F0 T2 = some (.tbl #[]) := by
      rw [hF0]
      by_cases e : T2 = T
      · exact if_pos e
      · exact (if_neg e).trans (if_pos rfl)
    have at_a : F0 a = some (.frz { cls := .type "list", data := .seq vs.toArray } (.lst (ns.map V.int))) := by
      rw [hF0]; exact (if_neg aT).trans ((if_neg aT2).trans (if_pos rfl))
    refine go F0 (fun b => ?_) at_T at_T2 (.inl (.inr ⟨_, at_a⟩)) (fun b u z => ?_)
    · by_cases e : b = T
      · exact .inr (.inr (.inl e))
      · by_cases e3 : b = T2
        · exact .inr (.inr (.inr e3))
        · by_cases e2 : b = a
          · exact .inr (.inl ⟨e2, by rw [e2]; exact hk, _, _, by rw [e2]; exact at_a⟩)
          · exact .inl (by rw [hF0]; exact (if_neg e).trans ((if_neg e3).trans (if_neg e2)))
    · by_cases e : b = T
      · rw [e, at_T] at z; cases z; rw [e]; exact hT
      · by_cases e3 : b = T2
        · rw [e3, at_T2] at z; cases z; rw [e3]; exact hT2
        · by_cases e2 : b = a
          · rw [e2, at_a] at z; cases z; rw [e2]
            exact ⟨ha, by rw [List.length_map]; exact hl, vs, _, rv, ha⟩
          · rw [hF0] at z
            have z : (if b = T then some (HO.tbl #[]) else if b = T2 then some (HO.tbl #[]) else if b = a then some (HO.frz { cls := .type "list", data := .seq vs.toArray } (.lst (ns.map V.int))) else none) = some u := z
            rw [if_neg e, if_neg e3, if_neg e2] at z; cases z
  · obtain ⟨o, ho⟩ := Option.ne_none_iff_exists'.mp hk
    have e := KX a o ho
    rw [ha] at e; cases e
    obtain ⟨F0, hF0⟩ : ∃ F0 : Hp, F0 = fun b => if b = T then some (HO.tbl #[]) else if b = T2 then some (HO.tbl #[]) else none := ⟨_, rfl⟩
    have at_T : F0 T = some (.tbl #[]) := by rw [hF0]; exact if_pos rfl
    have at_T2 : F0 T2 = some (.tbl #[]) := by
      rw [hF0]
      by_cases e : T2 = T
      · exact if_pos e
      · exact (if_neg e).trans (if_pos rfl)
    refine go F0 (fun b => ?_) at_T at_T2 (.inr ⟨_, vs.toArray, _, ho, rfl, rfl, rfl, ?_, by simpa using rv⟩) (fun b u z => ?_)
    · by_cases e : b = T
      · exact .inr (.inr (.inl e))
      · by_cases e3 : b = T2
        · exact .inr (.inr (.inr e3))
        · exact .inl (by rw [hF0]; exact (if_neg e).trans (if_neg e3))
    · rw [List.size_toArray, nV]; exact hl
    · by_cases e : b = T
      · rw [e, at_T] at z; cases z; rw [e]; exact hT
      · by_cases e3 : b = T2
        · rw [e3, at_T2] at z; cases z; rw [e3]; exact hT2
        · rw [hF0] at z
          have z : (if b = T then some (HO.tbl #[]) else if b = T2 then some (HO.tbl #[]) else none) = some u := z
          rw [if_neg e, if_neg e3] at z; cases z
end
/-- what the head leaves, from the law's promise; two code objects have tables -/
theorem walkGT2 {l : PySem.W.OpenLaw} {k : Nat} {q : Program} {loose : List Str} {XP : (Str → Option Value) → Heap → Prop} {YP : World → Heap → Prop} {d : DefRec}
    {K : Params → PySem.W.Frag} {sp : PySem.W.Frag → Sp} {x : Str} {T T2 : Addr} (hn : l.most = some 63) (hdf : d.params.defaults = []) (hr : Room k callerA)
    (hY : ∀ (w : World) (h : Heap), YP w h → (K w.params).In h) (hT : ∀ (w : World) (h : Heap), YP w h → h.get? T = some { cls := .none, data := .fields #[] }) (hT2 : ∀ (w : World) (h : Heap), YP w h → h.get? T2 = some { cls := .none, data := .fields #[] })
    (F : ∀ (w : World) (mg : Str → Option Value) (fa : Addr) (h : Heap), (K w.params).In h → h.Ns mainGlobals mg → mg d.name = some (.ref fa) →
      ∃ (fd : FuncData) (cc cc2 : Addr), (∀ (s : Shared) (u : Value), BindsTo s fd ⟨[u], []⟩ [(x, u)]) ∧ (K w.params).lookup T = none ∧ PySem.W.codeHdIn (K w.params) cc T = true ∧ (K w.params).lookup T2 = none ∧ PySem.W.codeHdIn (K w.params) cc2 T2 = true ∧
        ∀ base : Heap, (K w.params).In base → base.Ns mainGlobals mg → LamX.TabB base mg cc T → LamX.TabB base mg cc2 T2 → FnG l.prog w (K w.params) mg base CX0 k fa fd [x] (sp (K w.params)))
    (hsp : ∀ (K : PySem.W.Frag) (H : Hp) (a : Addr) (ns : List Int), ns.length ≤ 63 → H T = some (.tbl #[]) → H T2 = some (.tbl #[]) → SqL K H a (ns.map V.int) → sp K [.ref a] H (fun v _ => v = .bl true) fun _ _ _ => False) :
    PySem.W.WalkO q loose XP YP l.row.toRowW d [] (fun f vs => PySem.call f vs) := by
  refine Att.attach_call hn hdf (fun w s₀ s₁ mg mb fa o pm cd doc a vs ns G Y ho hd hcd hmg hobj hints hlen hg => ?_)
  have KX := hY w _ Y
  obtain ⟨fd, cc, cc2, hb, nT, hc, nT2, hc2, hF⟩ := F w mg fa _ KX G.T.g hmg
  exact law_callGT2 KX G.T.g G.T.b G.T.builtins G.T.nolimit hg (hT w _ Y) nT (PySem.W.codeHd_of_K KX hc) (hT2 w _ Y) nT2 (PySem.W.codeHd_of_K KX hc2) G.T.bmain hobj hints (Nat.le_trans hlen (by decide)) hr hF hb (fun H hHT hHT2 hS => hsp _ H a ns hlen hHT hHT2 hS) (fun _ _ _ h => h)
end Gs

set_option Elab.async false
set_option linter.all false
set_option maxRecDepth 100000
set_option maxHeartbeats 4000000
/-! Layer G6: walks of set comprehensions; what the size of a set tells. -/
namespace Gs
open PySem PySem.Spec PyProof.Rows L2
theorem sc_it {P : Program} {w : World} {K : PySem.W.Frag} {α : Type} {Z : SetKd P w K α} {J : It} {n : Nat} {G : Hp → Prop} {Y : Nat → Hp → V → Hp → Prop} (wk : Walk J n G Y) {g : TG} {tt : TT} {te : TE} {vs : List Nat} {σ : L2.St} {H1 : Hp} {D : Addr} {Qd : Hp → Prop}
    (Pv : Nat → Hp → Prop) (h0 : Pv 0 (upd H1 D (Z.ob D Z.zero))) (hG : ∀ i H, i ≤ n → Pv i H → G H)
    (hs : ∀ i x H H', i < n → Pv i H → Y i H x H' → g x (wipe σ vs) H' fun σ2 H2 => wipe σ2 vs = wipe σ vs ∧ tt σ2 H2 fun b H3 => if b = true then te σ2 H3 fun y H4 => Z.adds D y H4 (Pv (i + 1)) else Pv (i + 1) H3)
    (hd : ∀ H, Pv n H → Qd H) :
    ∃ W : Nat → Nat → Hp → Prop, (∃ m, W 0 m (upd H1 D (Z.ob D Z.zero))) ∧ ∀ i m H, W i m H → (J.stop i H ∧ Qd H) ∨
      (J.go i H ∧ ∃ Nx : Hp → Prop, (∀ H', Nx H' → ∃ m', m' < m ∧ W (i + 1) m' H') ∧ ∀ x H', J.yld i H x H' → g x (wipe σ vs) H' fun σ2 H2 => wipe σ2 vs = wipe σ vs ∧ tt σ2 H2 fun b H3 => if b = true then te σ2 H3 fun y H4 => Z.adds D y H4 Nx else Nx H3) := by
  refine ⟨fun i m H => m = n - i ∧ i ≤ n ∧ Pv i H, ⟨n, (Nat.sub_zero n).symm, Nat.zero_le _, h0⟩, ?_⟩
  rintro i m H ⟨rfl, hi, p⟩
  have q := hG i H hi p
  rcases Nat.lt_or_ge i n with lt | ge
  · exact .inr ⟨wk.goes i H lt q, Pv (i + 1), fun H' p' => ⟨n - (i + 1), by omega, rfl, lt, p'⟩, fun x H' y => hs i x H H' lt p (wk.yields i H x H' lt q y)⟩
  · obtain rfl : i = n := Nat.le_antisymm hi ge
    exact .inl ⟨wk.stops H q, hd H p⟩
section
variable {α : Type} [DecidableEq α]
theorem nodup_le : ∀ (l D : List α), l.Nodup → (∀ x ∈ l, x ∈ D) → l.length ≤ D.length
  | [], _, _, _ => Nat.zero_le _
  | x :: l, D, hn, hs => by
    have hx : x ∈ D := hs x List.mem_cons_self
    have hn' := List.nodup_cons.mp hn
    have := nodup_le l (D.erase x) hn'.2 fun y hy => (List.mem_erase_of_ne (fun e : y = x => hn'.1 (e ▸ hy))).mpr (hs y (List.mem_cons_of_mem _ hy))
    have e := List.length_erase_of_mem hx
    have : 0 < D.length := List.length_pos_of_mem hx
    simp only [List.length_cons]
    omega
theorem dup_lt : ∀ (D : List α), ¬ D.Nodup → ∃ D' : List α, D'.length < D.length ∧ ∀ x ∈ D, x ∈ D'
  | [], h => absurd List.nodup_nil h
  | x :: D, h => by
    by_cases hx : x ∈ D
    · refine ⟨D, Nat.lt_succ_self _, fun y hy => ?_⟩
      rcases List.mem_cons.mp hy with e | hy
      · rw [e]; exact hx
      · exact hy
    · obtain ⟨D', h1, h2⟩ := dup_lt D fun hn => h (List.nodup_cons.mpr ⟨hx, hn⟩)
      refine ⟨x :: D', Nat.succ_lt_succ h1, fun y hy => ?_⟩
      rcases List.mem_cons.mp hy with e | hy
      · rw [e]; exact List.mem_cons_self
      · exact List.mem_cons_of_mem _ (h2 y hy)
/-- the members of D once each are as many as D if none stands twice in D -/
theorem size_tells {l D : List α} (hn : l.Nodup) (hm : ∀ x, x ∈ l ↔ x ∈ D) : decide ((l.length : Int) = (D.length : Int)) = decide D.Nodup := by
  refine decide_eq_decide.mpr ⟨fun e => ?_, fun e => ?_⟩
  · refine Decidable.byContradiction fun h => ?_
    obtain ⟨D', h1, h2⟩ := dup_lt D h
    have := nodup_le l D' hn fun x hx => h2 x ((hm x).mp hx)
    omega
  · have a := nodup_le l D hn fun x hx => (hm x).mp hx
    have b := nodup_le D l e fun x hx => (hm x).mpr hx
    omega
end
end Gs
theorem L2.Same.seqT {K : PySem.W.Frag} {H H' : L2.Hp} {a : PySem.Addr} {xs : List L2.V} (e : L2.Same H H') (h : L2.SqT K H a xs) : L2.SqT K H' a xs := by
  rcases h with (h | ⟨o, h⟩) | h
  · exact .inl (.inl (e _ _ h))
  · exact .inl (.inr ⟨o, e _ _ h⟩)
  · exact .inr h
namespace Gs
open PySem PySem.Spec PyProof.Rows L2
/-- a tuple stands while a set is changed -/
theorem seqT_set {P : Program} {w : World} {K : PySem.W.Frag} {H : Hp} {S b : Addr} {L : Tps} {o : HO} {zs : List V} (hS : H S = some (SetTO P w S L)) (h : SqT K H b zs) : SqT K (upd H S o) b zs := by
  rcases h with (h | ⟨q, h⟩) | h
  · refine .inl (.inl ?_)
    rw [upd_ne (fun e => by rw [e, hS] at h; cases h)]; exact h
  · refine .inl (.inr ⟨q, ?_⟩)
    rw [upd_ne (fun e => by rw [e, hS] at h; cases h)]; exact h
  · exact .inr h
end Gs

set_option Elab.async false
set_option linter.all false
set_option maxRecDepth 100000
set_option maxHeartbeats 4000000
/-! Layer G7: len(set(xs)), xs a list or a tuple of texts, any of them more than once. -/
namespace Gs
open PySem PySem.Spec PyProof.Rows
section
variable {prog : Program} {w : World} {A : Around} {R : Result → Shared → Prop} {I : Addr} {fp wr : List Addr} {G : Array GenState → Array GenState → Prop} {n : Nat} {P : Nat → Value → Prop} {St : Nat → Shared → Prop}
/-- the set at S holds the texts L -/
def TxS (prog : Program) (w : World) (h : Heap) (S : Addr) (xs L : List Str) : Prop := h.SetOf (PySem.strKind prog w) S (fun z => decide (z ∈ L)) L.length ∧ L.Nodup ∧ L.length ≤ xs.length ∧ ∀ z, z ∈ L ↔ z ∈ xs
theorem TxS.keeps {h h' : Heap} {S : Addr} {xs L : List Str} (t : TxS prog w h S xs L) (k : ∀ o, h.get? S = some o → h'.get? S = some o) : TxS prog w h' S xs L := by
  obtain ⟨⟨o, es, ep, tb, ho, rest⟩, q⟩ := t
  exact ⟨⟨o, es, ep, tb, k o ho, rest⟩, q⟩
theorem loop_tx (W : WalksS prog w A.in1 I fp wr G n P St) (S : Addr) (nS : S ∉ fp) (xs : List Str) (hx : xs.length = n) (val : ∀ i v, P i v → ∃ t, v = .str (xs.getD i Str.empty) t) (few : n + 1 < scanBound) :
    ∀ (k i : Nat) (s : Shared), n - i = k → i ≤ n → St i s → (∃ L, TxS prog w s.heap S (xs.take i) L) → (∀ s' L, Moved (S :: wr) G s s' → TxS prog w s'.heap S xs L → R (.ok (.ret .none)) s') →
      codeAny (model prog w) A (.builtin "set.update.loop" ⟨[.ref S, .ref I], []⟩) R s := by
  have nW : S ∉ wr := fun h => nS (W.sub _ h)
  have more : ∀ b ∈ wr, b ∈ S :: wr := fun b hb => .tail _ hb
  intro k
  induction k with
  | zero =>
    rintro i s hk hi st ⟨L, hL⟩ hR
    obtain rfl : i = n := by omega
    refine codeAny_builtin PyProof.Rows.F.entry_set_update_loop ?_
    rw [Around.under_plainId PyProof.Rows.F.plain_set_update_loop _]
    show wpAny _ A.in1 (pyNext (.ref I) >>= _) _ _ s
    refine wpAny_bind (W.done s _ _ st fun s' mv => ?_)
    show wpAny _ A.in1 (ret Value.none) _ _ s'
    rw [← hx, List.take_length] at hL
    exact wpAny_pure (hR s' L (mv.mono more) (hL.keeps fun o e => mv.heap S o nW e))
  | succ k ih =>
    rintro i s hk hi st ⟨L, hL⟩ hR
    have lt : i < n := by omega
    refine codeAny_builtin PyProof.Rows.F.entry_set_update_loop ?_
    rw [Around.under_plainId PyProof.Rows.F.plain_set_update_loop _]
    show wpAny _ A.in1 (pyNext (.ref I) >>= _) _ _ s
    refine wpAny_bind (W.item i s _ _ lt st fun v s' hP st' mv => ?_)
    obtain ⟨t, rfl⟩ := val i v hP
    obtain ⟨hS, nd, hl, hm⟩ := hL.keeps (h' := s'.heap) fun o e => mv.heap S o nW e
    generalize hz : xs.getD i Str.empty = z
    have hzi : xs[i]? = some z := by
      have e : xs[i]? = some xs[i] := List.getElem?_eq_getElem (by omega)
      rw [e, ← hz, List.getD_eq_getElem?_getD, e]; rfl
    have hli : L.length ≤ i := Nat.le_trans hl (List.length_take_le _ _)
    show wpAny _ A.in1 (holding [Value.str z t] (setAdd S (.str z t)) >>= _) _ _ s'
    refine wpAny_bind (wpAny_holding ?_)
    unfold setAdd
    refine wpAny_holding ?_
    refine wpAny_bind ((PySem.strKind prog w).pyHash (k := z) (strKind_is _ _ _ _) ?_)
    refine wpAny_setAddHashed_of (knd := PySem.strKind prog w) (s := { s' with toks := s'.toks + 1 }) (strKind_is _ _ _ _) rfl hS (by omega) fun h' same hS2 => ?_
    have next : ∃ L', TxS prog w h' S (xs.take (i + 1)) L' := by
      have mem : ∀ y, y ∈ xs.take (i + 1) ↔ y ∈ L ∨ y = z := fun y => by
        rw [List.take_add_one, hzi, List.mem_append, hm y]
        show _ ∨ y ∈ [z] ↔ _
        rw [List.mem_singleton]
      have len : (xs.take (i + 1)).length = i + 1 := by rw [List.length_take]; omega
      by_cases hin : z ∈ L
      · refine ⟨L, SetOf_congr hS2 (fun y => ?_) (by rw [if_pos (decide_eq_true hin)]), nd, by omega, fun y => ?_⟩
        · by_cases e : y = z
          · subst e; simp [hin]
          · simp [e]
        · rw [mem y]; exact ⟨.inl, fun h => h.elim id fun e => by rw [e]; exact hin⟩
      · refine ⟨L ++ [z], SetOf_congr hS2 (fun y => ?_) ?_, ?_, ?_, fun y => ?_⟩
        · by_cases e : y = z
          · subst e; simp
          · simp [e]
        · rw [if_neg (by simpa using hin), List.length_append]; rfl
        · rw [List.nodup_append]
          exact ⟨nd, by simp, fun a ha b hb e => hin (by rw [← List.mem_singleton.mp hb, ← e]; exact ha)⟩
        · rw [List.length_append, len]; exact Nat.succ_le_succ hli
        · rw [mem y, List.mem_append, List.mem_singleton]
    refine wpAny_pure ⟨plainId_quiet PyProof.Rows.F.plain_set_update_loop _, ih (i + 1) _ (by omega) lt (W.frame _ s' _ _ st' (Nat.le_succ _) fun b hb o e => ?_) next fun s2 L2 mv2 hL2 => ?_⟩
    · exact (same.2 b fun h : b = S => nS (by rw [← h]; exact hb)).trans e
    · exact hR s2 L2 (Moved.trans W.gtrans ((mv.mono more).then_heap (Nat.le_succ _) fun b o hb e => (same.2 b fun h : b = S => hb (by rw [h]; exact .head _)).trans e) mv2) hL2
end
/-- a new empty set -/
abbrev set0 (led : Bool) : Obj := { cls := .type "set", dict := none, data := .set #[] 0 (.fresh 0 0 led) }
section
variable {prog : Program} {w : World} {A : Around} {E : Value → Shared → Prop} {s : Shared}
set_option maxHeartbeats 4000000 in
theorem set_tx_list {l : Addr} {items : Array Value} {xs : List Str} {Q : Value → Shared → Prop} (hh : A.handled = none) (hl : s.heap.IsList l items) (hi : StrsAre items.toList xs) (few : xs.length + 1 < scanBound)
    (h : ∀ (h' : Heap) (tk : Nat) L, TxS prog w h' s.heap.objs.size xs L → (∀ b o, b < s.heap.objs.size → s.heap.get? b = some o → h'.get? b = some o) → Q (.ref s.heap.objs.size) { s with heap := h', toks := tk }) :
    wpAny (model prog w) A (call (.type "set") [.ref l]) Q E s := by
  obtain ⟨c, tl, hmro⟩ := PySem.F.called_set.mro
  have made := PySem.F.called_set.made
  have sub := PySem.F.called_set.sub
  have nt := PySem.F.called_set.notType
  have cc := PySem.F.called_set.canCreate
  have tc := PySem.F.typeCall_set_1 (.ref l)
  refine wpAny_call (codeAny_of_tree ?_)
  show wpAny _ _ (callAny (.type "set") _) _ _ _
  refine wpAny_pure ⟨Code.quiet_builtin _ (by decide +kernel), codeAny_builtin PySem.F.entry_type_call ?_⟩
  rw [Around.under_plain (weight_type_call_type "set" [.ref l] []) rfl]
  repeat (any_goals (first | assumption | wp_step))
  refine codeAny_mono (code_set_new_1 (.ref l) (E := E) (Q₁ := fun obj s₁ => ∃ led : Bool, obj = .ref s.heap.objs.size ∧ s₁ = { s with heap := s.heap.push (set0 led) }) fun led => ⟨led, rfl, rfl⟩) fun r s₁ hr => ?_
  cases r with
  | error e => exact hr
  | ok fl =>
    cases fl with
    | next => exact hr.elim
    | brk => exact hr.elim
    | cont => exact hr.elim
    | ret obj =>
      obtain ⟨led, rfl, rfl⟩ := hr
      have hS : (s.heap.push (set0 led)).get? s.heap.objs.size = some (set0 led) := Heap.get?_push_size _ rfl
      have hT : Shared.TypeIs { s with heap := s.heap.push (set0 led) } (.ref s.heap.objs.size) "set" := ⟨_, hS, rfl⟩
      have li := PySem.F.called_set.init.lookup
      have bi := PySem.F.called_set.init.bind (.ref s.heap.objs.size)
      repeat (any_goals (first | assumption | wp_step))
      refine codeAny_mono (codeAny_call_builtin (R := wants (fun r s₂ => r = .none ∧ ∃ h' tk L, s₂ = { s with heap := h', toks := tk } ∧ TxS prog w h' s.heap.objs.size xs L ∧ ∀ b o, b < s.heap.objs.size → s.heap.get? b = some o → h'.get? b = some o) E)
        PySem.F.called_set.init.plain PySem.F.entry_set_init (check_set_init_1 hT ?_)) fun r₂ s₂ hr₂ => ?_
      · obtain ⟨⟨ocls, odict, odata, oslots⟩, hol, hcl, nl, hdl⟩ := hl
        dsimp only at hcl hdl
        subst hcl hdl
        have hol' : (s.heap.push (set0 led)).get? l = some { cls := .type "list", dict := odict, data := .seq items nl, slots := oslots } := Heap.get?_push_of_some _ hol
        have s1 := PySem.F.sub_list_set
        have s2 := PySem.F.sub_list_frozenset
        have s3 : (Value.type "list" == Value.type "dict") = false := by decide
        have hl1 : (s.heap.push (set0 led)).IsList l items := ⟨_, hol', rfl, nl, rfl⟩
        unfold Builtin.«set.__init__» noKeywords Builtin.Frozenset.updateFrom
        generalize hPI : pyIter = PI
        wp_walk
        subst hPI
        refine wpAny_pyIter_list hl1 ?_
        refine wpAny_bind (wpAny_runValue ?_)
        have lS : l < s.heap.objs.size := Heap.lt_size hol
        have nI : l ≠ (s.heap.push (set0 led)).objs.size := by
          rw [Heap.size_push]
          exact Nat.ne_of_lt (Nat.lt_succ_of_lt lS)
        have nF : s.heap.objs.size ∉ [(s.heap.push (set0 led)).objs.size, l] := by
          rw [Heap.size_push, List.mem_cons, List.mem_singleton]
          rintro (e | e)
          · exact Nat.ne_of_lt (Nat.lt_succ_self _) e
          · exact Nat.ne_of_gt lS e
        have hx : xs.length = items.size := (Array.length_toList ▸ StrsAre.len_eq hi).symm
        refine loop_tx ((Walks.list (by simp [hh]) _ l nI items).toS) s.heap.objs.size nF xs hx (fun i v hv => SS.strs_at hi i v ((Array.getElem?_toList ..).trans hv)) (by omega) (items.size - 0) 0 _ (by omega) (Nat.zero_le _)
          ⟨⟨_, Heap.get?_push_size _ rfl, rfl, rfl⟩, hl1.push _⟩ ⟨[], ?_, List.nodup_nil, Nat.zero_le _, fun z => Iff.rfl⟩ fun s' L mv hL => ?_
        · refine SetOf_congr ((setObjOf_fresh (knd := PySem.strKind prog w) led).setOf (Heap.get?_push_of_some _ hS) (by unfold scanBound; omega)) (fun z => ?_) rfl
          simp
        · obtain ⟨h', g', d', tk', os'⟩ := s'
          have e1 : g' = s.gens := mv.gens
          have e2 : d' = s.drawn := mv.drawn
          have e3 : os' = s.os := mv.os
          subst e1 e2 e3
          show wpAny _ _ _ _ _ _
          refine wpAny_pure ?_
          show wpAny _ _ (ret Value.none) _ _ _
          refine wpAny_pure ⟨rfl, h', tk', L, rfl, hL, fun b o hb e => mv.heap b o ?_ (Heap.get?_push_of_some _ (Heap.get?_push_of_some _ e))⟩
          rw [Heap.size_push, List.mem_cons, List.mem_singleton]
          rintro (z | z)
          · exact Nat.ne_of_lt hb z
          · exact Nat.ne_of_lt (Nat.lt_succ_of_lt hb) z
      · cases r₂ with
        | error e => exact hr₂
        | ok fl₂ =>
          cases fl₂ with
          | next => exact hr₂.elim
          | brk => exact hr₂.elim
          | cont => exact hr₂.elim
          | ret r =>
            obtain ⟨rfl, h', tk, L, rfl, hL, keep⟩ := hr₂
            repeat (any_goals (first | assumption | wp_step))
            exact h _ _ L hL keep
set_option maxHeartbeats 4000000 in
theorem set_tx_tuple {l : Addr} {items : Array Value} {xs : List Str} {Q : Value → Shared → Prop} (hh : A.handled = none) (hl : s.heap.IsTuple l items) (hi : StrsAre items.toList xs) (few : xs.length + 1 < scanBound)
    (h : ∀ (h' : Heap) (tk : Nat) L, TxS prog w h' s.heap.objs.size xs L → (∀ b o, b < s.heap.objs.size → s.heap.get? b = some o → h'.get? b = some o) → Q (.ref s.heap.objs.size) { s with heap := h', toks := tk }) :
    wpAny (model prog w) A (call (.type "set") [.ref l]) Q E s := by
  obtain ⟨c, tl, hmro⟩ := PySem.F.called_set.mro
  have made := PySem.F.called_set.made
  have sub := PySem.F.called_set.sub
  have nt := PySem.F.called_set.notType
  have cc := PySem.F.called_set.canCreate
  have tc := PySem.F.typeCall_set_1 (.ref l)
  refine wpAny_call (codeAny_of_tree ?_)
  show wpAny _ _ (callAny (.type "set") _) _ _ _
  refine wpAny_pure ⟨Code.quiet_builtin _ (by decide +kernel), codeAny_builtin PySem.F.entry_type_call ?_⟩
  rw [Around.under_plain (weight_type_call_type "set" [.ref l] []) rfl]
  repeat (any_goals (first | assumption | wp_step))
  refine codeAny_mono (code_set_new_1 (.ref l) (E := E) (Q₁ := fun obj s₁ => ∃ led : Bool, obj = .ref s.heap.objs.size ∧ s₁ = { s with heap := s.heap.push (set0 led) }) fun led => ⟨led, rfl, rfl⟩) fun r s₁ hr => ?_
  cases r with
  | error e => exact hr
  | ok fl =>
    cases fl with
    | next => exact hr.elim
    | brk => exact hr.elim
    | cont => exact hr.elim
    | ret obj =>
      obtain ⟨led, rfl, rfl⟩ := hr
      have hS : (s.heap.push (set0 led)).get? s.heap.objs.size = some (set0 led) := Heap.get?_push_size _ rfl
      have hT : Shared.TypeIs { s with heap := s.heap.push (set0 led) } (.ref s.heap.objs.size) "set" := ⟨_, hS, rfl⟩
      have li := PySem.F.called_set.init.lookup
      have bi := PySem.F.called_set.init.bind (.ref s.heap.objs.size)
      repeat (any_goals (first | assumption | wp_step))
      refine codeAny_mono (codeAny_call_builtin (R := wants (fun r s₂ => r = .none ∧ ∃ h' tk L, s₂ = { s with heap := h', toks := tk } ∧ TxS prog w h' s.heap.objs.size xs L ∧ ∀ b o, b < s.heap.objs.size → s.heap.get? b = some o → h'.get? b = some o) E)
        PySem.F.called_set.init.plain PySem.F.entry_set_init (check_set_init_1 hT ?_)) fun r₂ s₂ hr₂ => ?_
      · obtain ⟨⟨ocls, odict, odata, oslots⟩, hol, hcl, nl, hdl⟩ := hl
        dsimp only at hcl hdl
        subst hcl hdl
        have hol' : (s.heap.push (set0 led)).get? l = some { cls := .type "tuple", dict := odict, data := .seq items nl, slots := oslots } := Heap.get?_push_of_some _ hol
        have s1 := PySem.F.sub_tuple_set
        have s2 := PySem.F.sub_tuple_frozenset
        have s3 : (Value.type "tuple" == Value.type "dict") = false := by decide
        have hl1 : (s.heap.push (set0 led)).IsTuple l items := ⟨_, hol', rfl, nl, rfl⟩
        unfold Builtin.«set.__init__» noKeywords Builtin.Frozenset.updateFrom
        generalize hPI : pyIter = PI
        wp_walk
        subst hPI
        refine wpAny_pyIter_tuple hl1 ?_
        refine wpAny_bind (wpAny_runValue ?_)
        have lS : l < s.heap.objs.size := Heap.lt_size hol
        have nI : l ≠ (s.heap.push (set0 led)).objs.size := by
          rw [Heap.size_push]
          exact Nat.ne_of_lt (Nat.lt_succ_of_lt lS)
        have nF : s.heap.objs.size ∉ [(s.heap.push (set0 led)).objs.size, l] := by
          rw [Heap.size_push, List.mem_cons, List.mem_singleton]
          rintro (e | e)
          · exact Nat.ne_of_lt (Nat.lt_succ_self _) e
          · exact Nat.ne_of_gt lS e
        have hx : xs.length = items.size := (Array.length_toList ▸ StrsAre.len_eq hi).symm
        refine loop_tx ((Walks.tuple (by simp [hh]) _ l nI items).toS) s.heap.objs.size nF xs hx (fun i v hv => SS.strs_at hi i v ((Array.getElem?_toList ..).trans hv)) (by omega) (items.size - 0) 0 _ (by omega) (Nat.zero_le _)
          ⟨⟨_, Heap.get?_push_size _ rfl, rfl, rfl⟩, hl1.push _⟩ ⟨[], ?_, List.nodup_nil, Nat.zero_le _, fun z => Iff.rfl⟩ fun s' L mv hL => ?_
        · refine SetOf_congr ((setObjOf_fresh (knd := PySem.strKind prog w) led).setOf (Heap.get?_push_of_some _ hS) (by unfold scanBound; omega)) (fun z => ?_) rfl
          simp
        · obtain ⟨h', g', d', tk', os'⟩ := s'
          have e1 : g' = s.gens := mv.gens
          have e2 : d' = s.drawn := mv.drawn
          have e3 : os' = s.os := mv.os
          subst e1 e2 e3
          show wpAny _ _ _ _ _ _
          refine wpAny_pure ?_
          show wpAny _ _ (ret Value.none) _ _ _
          refine wpAny_pure ⟨rfl, h', tk', L, rfl, hL, fun b o hb e => mv.heap b o ?_ (Heap.get?_push_of_some _ (Heap.get?_push_of_some _ e))⟩
          rw [Heap.size_push, List.mem_cons, List.mem_singleton]
          rintro (z | z)
          · exact Nat.ne_of_lt hb z
          · exact Nat.ne_of_lt (Nat.lt_succ_of_lt hb) z
      · cases r₂ with
        | error e => exact hr₂
        | ok fl₂ =>
          cases fl₂ with
          | next => exact hr₂.elim
          | brk => exact hr₂.elim
          | cont => exact hr₂.elim
          | ret r =>
            obtain ⟨rfl, h', tk, L, rfl, hL, keep⟩ := hr₂
            repeat (any_goals (first | assumption | wp_step))
            exact h _ _ L hL keep
end
end Gs
namespace Gs
open PySem PySem.Spec PyProof.Rows L2
section
variable {X : Cx}
def tLenTx (K : PySem.W.Frag) (ta : TE) : TE := fun σ H Q => ta σ H fun x H1 => ∃ (l : Addr) (xs : List Str), x = .ref l ∧ (SqL K H1 l (xs.map V.str) ∨ SqT K H1 l (xs.map V.str)) ∧ xs.length ≤ 1000 ∧
  ∀ L : List Str, L.Nodup → (∀ z, z ∈ L ↔ z ∈ xs) → Q (.int L.length) H1
theorem pe_lenTx {a : Expr} {ta : TE} {p p2 q pos : Pos} (hc : X.calm = true) (hg : Gl X "len") (hm : X.mg "len" = none) (hg2 : Gl X "set") (hm2 : X.mg "set" = none) (ha : PE X a ta)
    (na : starEach [a] X.env = (false, eval a X.env) :: starEach [] X.env := by rfl) : PE X (.Call (.Name "len" p) [.Call (.Name "set" p2) [a] [] q] [] pos) (tLenTx X.K ta) := by
  constructor
  intro pins s σ H Q I h
  refine Call_ (ld_blt I hg hm boot_len ?_)
  refine callWith_builtin1 (args_cons ?_ rfl) rfl rfl
  refine Call_ (ld_blt I hg2 hm2 boot_set ?_)
  refine callWith_type1 (args_cons (thn (ha.run pins s σ H _ I h) fun v s1 ⟨x, H1, I1, r1, l, xs, ex, hq, hz, k⟩ => args_nil ?_) na) na rfl
  subst ex
  cases r1
  have fin : ∀ (h' : Heap) (tk : Nat) (L : List Str), TxS X.prog X.w h' s1.heap.objs.size xs L → (∀ b o, b < s1.heap.objs.size → s1.heap.get? b = some o → h'.get? b = some o) →
      wpAny (model X.prog X.w) X.A (spliced (backTo pos (starEach [] X.env))) (fun vs s₂ => wpAny (model X.prog X.w) X.A (call (.builtin "len") (Value.ref s1.heap.objs.size :: vs)) (EP X pins σ Q) X.xe s₂) X.xe { s1 with heap := h', toks := tk } := by
    rintro h' tk L ⟨⟨o, es, ep, t, ho, hex, hd, _, _, _, hf, hn⟩, nd, hl, hm⟩ keep
    refine args_nil ?_
    have I2 : Inv X pins σ H1 { s1 with heap := h', toks := tk } := I1.kept fun b o e => keep b o (Heap.lt_size e) e
    exact call_len_set ho hex hd hf (by rw [hn]; omega) ⟨.int L.length, H1, I2.tok _, ⟨_, by rw [hn]⟩, k L nd hm⟩
  rcases hq with hq | hq
  · obtain ⟨its, r, pl, _⟩ := I1.list hq
    exact set_tx_list (I1.ok.hd hc) pl.isList (by simpa using strsAre_of r) (by unfold scanBound; omega) fin
  · obtain ⟨its, r, pl, _⟩ := I1.tuple hq
    exact set_tx_tuple (I1.ok.hd hc) (by obtain ⟨o, e1, e2, m, e3⟩ := pl; exact ⟨o, e1, e2, m, e3⟩) (by simpa using strsAre_of r) (by unfold scanBound; omega) fin
end
end Gs

set_option Elab.async false
set_option linter.all false
set_option maxRecDepth 100000
set_option maxHeartbeats 4000000
/-! Layer G8: sorted(xs), xs a list of pairs of ints that stand anywhere (tracked, locked or written). -/
namespace Gs
open PySem PySem.Spec PyProof.Rows L2
theorem perm_pre {α β : Type} {f : α → β} {m out : List β} (h : m.Perm out) : ∀ ks : List α, m = ks.map f → ∃ ls : List α, ls.Perm ks ∧ out = ls.map f := by
  induction h with
  | nil =>
    intro ks e
    exact ⟨[], by rw [List.map_eq_nil_iff.mp e.symm], rfl⟩
  | cons x _ ih =>
    intro ks e
    cases ks with
    | nil => cases e
    | cons k ks =>
      obtain ⟨e1, e2⟩ := List.cons.inj e
      obtain ⟨ls, h1, h2⟩ := ih ks e2
      exact ⟨k :: ls, h1.cons k, by rw [h2, e1]; rfl⟩
  | swap x y l =>
    intro ks e
    match ks, e with
    | k1 :: k2 :: ks, e =>
      obtain ⟨e1, e2⟩ := List.cons.inj e
      obtain ⟨e3, e4⟩ := List.cons.inj e2
      exact ⟨k2 :: k1 :: ks, List.Perm.swap k1 k2 ks, by rw [e1, e3, e4]; rfl⟩
  | trans _ _ ih1 ih2 =>
    intro ks e
    obtain ⟨ls, h1, h2⟩ := ih1 ks e
    obtain ⟨ms, h3, h4⟩ := ih2 ls h2
    exact ⟨ms, h3.trans h1, h4⟩
def rSortT (K : PySem.W.Frag) : List V → Hp → VK → Prop := fun vs H Q => ∃ (a : Addr) (ks : List (Addr × Int × Int)), vs = [V.ref a] ∧ SqL K H a (ks.map fun p => V.ref p.1) ∧ (∀ p ∈ ks, SqT K H p.1 [.int p.2.1, .int p.2.2]) ∧
  ∀ (ls : List (Addr × Int × Int)) p, ls.Perm ks → ls.Pairwise (fun x y => SrtO.lexB y.2 x.2 = false) → H p = none → Q (.ref p) (upd H p (.lst (ls.map fun p => V.ref p.1)))
section
variable {X : Cx}
theorem cr_sortT : CallR X (.builtin "sorted") (rSortT X.K) := by
  intro pins s σ H vs us Q I r h
  obtain ⟨a, ks, rfl, hs, hx, q⟩ := h
  have inj : ∀ p ∈ ks, ∀ q ∈ ks, p.1 = q.1 → p.2 = q.2 := by
    intro p hp q hq e
    obtain ⟨its1, r1, ⟨o1, ho1, _, n1, hd1⟩, _⟩ := I.tuple (hx p hp)
    obtain ⟨its2, r2, ⟨o2, ho2, _, n2, hd2⟩, _⟩ := I.tuple (hx q hq)
    rw [e, ho2] at ho1
    cases ho1
    rw [hd1] at hd2
    have e2 : its1 = its2 := by
      have := (Data.seq.inj hd2).1
      simpa using this
    subst e2
    obtain ⟨u1, u2, e3, ⟨t1, h1⟩, ⟨t2, h2⟩⟩ := vals2 r1
    obtain ⟨v1, v2, e4, ⟨t3, h3⟩, ⟨t4, h4⟩⟩ := vals2 r2
    subst e3 h1 h2
    have e5 := (List.cons.inj e4).1.trans h3
    have e6 := (List.cons.inj (List.cons.inj e4).2).1.trans h4
    exact Prod.ext (Value.int.inj e5).1 (Value.int.inj e6).1
  obtain ⟨its, rv, hl, hz⟩ := I.list hs
  obtain ⟨u, rfl, ru⟩ := vals1 r
  obtain rfl : u = Value.ref a := ru
  have eits : its = ks.map fun p => Value.ref p.1 := by
    clear hs hx inj q hz hl
    induction ks generalizing its with
    | nil => cases rv; rfl
    | cons p ks ih =>
      cases rv with
      | cons r1 r2 =>
        cases r1
        rw [ih _ r2]; rfl
  -- the pair that an address tells
  obtain ⟨k, hk⟩ : ∃ k : Value → Int × Int, ∀ p ∈ ks, k (.ref p.1) = p.2 := by
    refine ⟨fun v => match ks.find? (fun p => Value.ref p.1 == v) with | some p => p.2 | none => (0, 0), fun p hp => ?_⟩
    show (match ks.find? (fun q => Value.ref q.1 == Value.ref p.1) with | some q => q.2 | none => (0, 0)) = p.2
    cases e : ks.find? (fun q => Value.ref q.1 == Value.ref p.1) with
    | none => exact absurd (List.find?_eq_none.mp e p hp) (by simp)
    | some q =>
      have hq := List.find?_some e
      have e1 : q.1 = p.1 := Value.ref.inj (eq_of_beq hq)
      exact inj q (List.mem_of_find?_eq_some e) p hp e1
  refine SrtO.sorted_pairsO (k := k) hl.isList (by rw [← rv.length]; exact hz) (fun v hv => ?_) fun h' d out h1 h2 kp hd hn => ?_
  · rw [eits] at hv
    obtain ⟨p, hp, rfl⟩ := List.mem_map.mp hv
    obtain ⟨its2, r2, ⟨o, ho, hc, n, hdt⟩, _⟩ := I.tuple (hx p hp)
    obtain ⟨u1, u2, e3, ri, rj⟩ := vals2 r2
    obtain ⟨t1, rfl⟩ := ri
    obtain ⟨t2, rfl⟩ := rj
    subst e3
    rw [hk p hp]
    exact ⟨p.1, o, t1, t2, n, rfl, ho, hc, hdt⟩
  · rw [eits] at h2
    obtain ⟨n, hn⟩ := hn
    obtain ⟨ls, hls, rfl⟩ : ∃ ls : List (Addr × Int × Int), ls.Perm ks ∧ out = ls.map fun p => Value.ref p.1 := by
      exact perm_pre h2.perm.symm ks rfl
    have hv : Vals (ls.map fun p => V.ref p.1) (ls.map fun p => Value.ref p.1) := by
      clear h1 h2 kp hn hls
      induction ls with
      | nil => exact .nil
      | cons p ls ih => exact .cons rfl ih
    refine ⟨.ref d, upd H d (.lst (ls.map fun p => V.ref p.1)), I.laid (t' := s.toks) kp hd ⟨?_, _, n, hv, hn⟩, rfl, q ls d hls ?_ (I.hok.fresh hd)⟩
    · rw [List.length_map, hls.length_eq, ← List.length_map (f := fun p => V.ref p.1) (as := ks)]
      exact hz
    · have h1 := List.pairwise_map.mp h1
      refine h1.imp_of_mem fun {x y} hx hy e => ?_
      have e : SrtO.lexB (k (.ref y.1)) (k (.ref x.1)) = false := e
      rw [hk x (hls.mem_iff.mp hx), hk y (hls.mem_iff.mp hy)] at e
      exact e
end
end Gs

set_option Elab.async false
set_option linter.all false
set_option maxRecDepth 100000
set_option maxHeartbeats 4000000
/-! Layer G23: what is never reached; {x} of an instance with an own text; sorted of tuples of ints and texts; set(list of tuples of ints), no tuple twice. -/
namespace Gs
open PySem PySem.Spec PyProof.Rows L2
/-- what is never reached -/
theorem ps_dead {X : Cx} {st : Stmt} : PS X st (fun _ _ _ => False) := ⟨fun _ _ _ _ _ _ h => h.elim⟩
theorem pss_dead {X : Cx} {st : List Stmt} : PSs X st (fun _ _ _ => False) := ⟨fun _ _ _ _ _ _ h => h.elim⟩
theorem pe_dead {X : Cx} {e : Expr} : PE X e (fun _ _ _ => False) := ⟨fun _ _ _ _ _ _ h => h.elim⟩
section
variable {X : Cx} {CX : CXT} {k : Nat} {f C : Addr} {fd : FuncData} {ps : List Str} {sp : Sp} {E : XK}
/-- what an own class needs that {x} of its instances is their own text -/
structure OwnF (K : PySem.W.Frag) (C g : Addr) : Prop where
  st : PySem.W.findIn K (.ref C) "__str__" = some (some (.ref g))
  fs : PySem.W.isFn K (.ref g) = true
  fm : PySem.W.findIn K (.ref C) "__format__" = some (some (.builtin "object.__format__"))
  mo : PySem.W.mroIn K C (.type "object") = some true
/-- {x}, x an instance -/
def tFmtO (C : Addr) (sp : Sp) (E : XK) (te : TE) : TE := fun σ H Q => te σ H fun x H1 => ∃ (a dx : Addr) (fs : List (Str × V)), x = .ref a ∧ H1 a = some (.ins C dx fs) ∧ sp [.ref a] H1 (fun v H' => ∃ z, v = .str z ∧ Q v H') E
theorem pe_fmtO {e : Expr} {te : TE} {pos : Pos} (O : OwnF X.K C f) (F : FnOk X.prog X.w X.K X.mg X.base CX k f fd ps sp) (hr : Room (k + 2) X.A) (hb : Binds X.K fd ps []) (hx : Passes CX X E) (he : PE X e te) : PE X (.FormattedValue e (-1) none pos) (tFmtO C sp E te) := by
  refine ⟨fun pins s σ H Q I h => ?_⟩
  refine wpAny_FormattedValue_plain (thn (he.run pins s σ H _ I h) fun v s1 hv => ?_)
  obtain ⟨x, H1, I1, r1, a, dx, fs, rfl, ha, q⟩ := hv
  cases (show v = Value.ref a from r1)
  obtain ⟨_, J0, _⟩ := ins_get I1.hok ha
  obtain ⟨_, J, _⟩ := J0.look
  have I2 : Inv X pins σ H1 { s1 with toks := s1.toks + 1 } := I1.tok _
  refine PySem.W.kfo_fieldS hr.in1.units0 I1.kIn J O.fm O.mo O.st O.fs ?_
  refine wpAny_mono (run_sub (A := X.A.in1) (F.mono (Nat.le_succ k)) hr.in1 rfl hb hx I2 (.cons (rel_ref a) .nil) q) (fun z s' hz => ?_) fun _ _ e => e
  obtain ⟨v', H', I', rv, y, rfl, qq⟩ := hz
  obtain ⟨t, rfl⟩ := rv
  exact ⟨.str y, H', I', rel_str y t, qq⟩
end
/-! ### sorted, the items tuples of ints and texts -/
def kD : Key → PyData
  | .inl i => .int i
  | .inr x => .str x
abbrev TK := Addr × List Key
def encT (p : TK) : PyData := .tuple (p.2.map kD)
def sortK (ks : List TK) : List TK := ks.mergeSort (PySem.W.dataLe false encT)
theorem sortK_perm (ks : List TK) : (sortK ks).Perm ks := List.mergeSort_perm _ _
theorem reads_keys {h : Heap} : ∀ {us : List Value} {ks : List Key}, Vals (ks.map kV) us → ∃ as, ReadsAll h us (ks.map kD) as
  | _, [], r => by cases r; exact ⟨_, .nil⟩
  | _, .inl i :: ks, r => by
    cases r with
    | cons r1 r2 =>
      obtain ⟨t, rfl⟩ := r1
      obtain ⟨as, h2⟩ := reads_keys r2
      exact ⟨_, .cons (.int i t) h2⟩
  | _, .inr x :: ks, r => by
    cases r with
    | cons r1 r2 =>
      obtain ⟨t, rfl⟩ := r1
      obtain ⟨as, h2⟩ := reads_keys r2
      exact ⟨_, .cons (.str x t) h2⟩
theorem depth_keys : ∀ ks : List Key, PyData.depthAll (ks.map kD) = 0
  | [] => by simp [PyData.depthAll]
  | .inl i :: ks => by simp only [List.map_cons, kD, PyData.depthAll, depth_keys ks, PyData.depth]; rfl
  | .inr i :: ks => by simp only [List.map_cons, kD, PyData.depthAll, depth_keys ks, PyData.depth]; rfl
/-- of one sort, item by item -/
def sameSort : List Key → List Key → Bool
  | .inl _ :: a, .inl _ :: b => sameSort a b
  | .inr _ :: a, .inr _ :: b => sameSort a b
  | [], [] => true
  | _, _ => false
theorem alike_keys : ∀ a b : List Key, sameSort a b = true → PySem.W.alikeAll (a.map kD) (b.map kD) = true
  | [], [], _ => by simp [PySem.W.alikeAll]
  | .inl i :: a, .inl j :: b, h => by
    have := alike_keys a b h
    simp only [List.map_cons, kD, PySem.W.alikeAll, PySem.W.alike, this, Bool.and_self]
  | .inr i :: a, .inr j :: b, h => by
    have := alike_keys a b h
    simp only [List.map_cons, kD, PySem.W.alikeAll, PySem.W.alike, this, Bool.and_self]
  | .inl _ :: _, .inr _ :: _, h => by cases h
  | .inr _ :: _, .inl _ :: _, h => by cases h
  | [], _ :: _, h => by cases h
  | .inl _ :: _, [], h => by cases h
  | .inr _ :: _, [], h => by cases h
theorem each_tks : ∀ {bs : List TK} {us : List Value}, Vals (bs.map fun b => V.ref b.1) us → PySem.W.EachIs (fun (v : Value) (b : TK) => v = .ref b.1) us bs
  | [], _, h => by cases h; exact .nil
  | b :: bs, _, h => by
    cases h with
    | cons r t => exact .cons r (each_tks t)
theorem vals_tks : ∀ {bs : List TK} {us : List Value}, PySem.W.EachIs (fun (v : Value) (b : TK) => v = .ref b.1) us bs → Vals (bs.map fun b => V.ref b.1) us
  | [], _, h => by cases h; exact .nil
  | b :: bs, _, h => by
    cases h with
    | cons r t => exact .cons r (vals_tks t)
theorem each_enc {h : Heap} : ∀ {bs : List TK} {us : List Value}, PySem.W.EachIs (fun (v : Value) (b : TK) => v = .ref b.1) us bs → (∀ b ∈ bs, ∃ as, Reads h (.ref b.1) (encT b) as) → PySem.W.EachIs (fun (v : Value) (b : TK) => ∃ as, Reads h v (encT b) as) us bs
  | _, _, .nil, _ => .nil
  | _, _, .cons r t, h => by
    subst r
    exact .cons (h _ List.mem_cons_self) (each_enc t fun b hb => h b (List.mem_cons_of_mem _ hb))
def rSortK (K : PySem.W.Frag) : List V → Hp → VK → Prop := fun vs H Q => ∃ (a : Addr) (ks : List TK), vs = [V.ref a] ∧ SqL K H a (ks.map fun p => V.ref p.1) ∧ (∀ p ∈ ks, SqT K H p.1 (p.2.map kV)) ∧ (∀ p ∈ ks, p.2 ≠ []) ∧
  (∀ p ∈ ks, ∀ q ∈ ks, sameSort p.2 q.2 = true) ∧ ∀ p, H p = none → Q (.ref p) (upd H p (.lst ((sortK ks).map fun b => V.ref b.1)))
section
variable {X : Cx}
theorem cr_sortK (hu : X.A.units + 64 < cLine) : CallR X (.builtin "sorted") (rSortK X.K) := by
  intro pins s σ H vs us Q I r h
  obtain ⟨a, ks, rfl, hs, hx, hne, hss, q⟩ := h
  obtain ⟨u, rfl, ru⟩ := vals1 r
  obtain rfl : u = Value.ref a := ru
  obtain ⟨its, rv, hl, hz⟩ := I.list hs
  have lb : its.length = ks.length := by rw [← rv.length, List.length_map]
  have er := each_enc (h := s.heap) (each_tks rv) fun b hb => by
    obtain ⟨us, r2, ⟨o, ho, hc, n, hd⟩, _⟩ := I.tuple (hx b hb)
    obtain ⟨as, ra⟩ := reads_keys (h := s.heap) r2
    exact ⟨as, .tuple ho hc hd (by simpa using ra)⟩
  refine PySem.W.sorted_data (β := TK) (enc := encT) hl.isList (each_tks rv) er (fun d hd d' hd' => ?_) (.inl fun d hd => ?_) (by rw [← lb, ← rv.length]; exact hz) (fun b hb => ?_) fun out ho eo => ?_
  · obtain ⟨x, hx1, rfl⟩ := List.mem_map.mp hd
    obtain ⟨y, hy1, rfl⟩ := List.mem_map.mp hd'
    show PySem.W.alike (.tuple _) (.tuple _) = true
    simp only [PySem.W.alike]
    exact alike_keys _ _ (hss x hx1 y hy1)
  · obtain ⟨x, hx1, rfl⟩ := List.mem_map.mp hd
    have := hne x hx1
    unfold encT
    match x.2, this with
    | [], z => exact absurd rfl z
    | y :: l, _ => exact ⟨_, _, rfl⟩
  · have : (encT b).depth = 1 := by
      unfold encT
      simp only [PyData.depth, depth_keys]
    rw [this]; omega
  · obtain ⟨c, hc⟩ := sortedAll_at s.heap its out.toArray
    have hlen2 : (sortK ks).length = ks.length := (sortK_perm ks).length_eq
    refine ⟨.ref _, upd H (s.heap.objs.size + 1) (.lst ((sortK ks).map fun b => V.ref b.1)), I.laid (t' := s.toks) (fun _ _ => sortedAll_old) (Nat.le_succ _) ⟨?_, out, c, vals_tks eo, hc⟩, rfl, q _ (I.hok.fresh (Nat.le_succ _))⟩
    rw [List.length_map, hlen2, ← lb, ← rv.length]; exact hz
/-- set(xs), xs a list of tuples of ints; in the set no tuple stands twice -/
def rSetOfN (K : PySem.W.Frag) (P : Program) (w : World) : List V → Hp → VK → Prop := fun xs H Q => ∃ (l : Addr) (ks : List (Addr × List Int)), xs = [V.ref l] ∧ SqL K H l (ks.map fun p => V.ref p.1) ∧ (∀ p ∈ ks, SqT K H p.1 (p.2.map V.int)) ∧ ks.length < 64 ∧
  ∀ a L, H a = none → (L.map (·.2)).Nodup → (∀ p ∈ L, p ∈ ks) → (∀ p ∈ ks, p.2 ∈ L.map (·.2)) → Q (.ref a) (upd H a (SetTO P w a L))
theorem cr_setOfN (hc : X.calm = true) (hu : X.A.units + 64 < cLine) : CallR X (.type "set") (rSetOfN X.K X.prog X.w) := by
  intro pins s σ H xs us Q I r h
  obtain ⟨l, ks, rfl, hl, hk, hf, q⟩ := h
  cases (Vals.ref1 r)
  obtain ⟨its, rv, pl, hz⟩ := I.list hl
  have free : H s.heap.objs.size = none := I.hok.fresh (Nat.le_refl _)
  have fresh := refs_of_vals rv
  refine call_set_tups (P := X.prog) (w := X.w) ks (I.ok.hd hc) pl.isList (by simpa using fresh) (fun p hp => I.isT (hk p hp)) hf (by omega) ?_
  intro h' tk L es ep t R g kp
  have J : Inv X pins σ (upd H s.heap.objs.size (SetTO X.prog X.w s.heap.objs.size L)) { s with heap := h', toks := tk } := I.laid (t' := tk) kp (Nat.le_refl s.heap.objs.size) (setTO_new R.t0)
  exact ⟨.ref s.heap.objs.size, _, J, rfl, q _ L free R.nd (fun p hp => List.mem_of_mem_take (g.sub p hp)) fun p hp => g.all p (by rw [List.take_length]; exact hp)⟩
end
/-- the members of L once each, all those of ks: as many as ks where no key stands twice in it -/
theorem set_size {L ks : List (Addr × List Int)} (hn : (L.map (·.2)).Nodup) (h1 : ∀ p ∈ L, p ∈ ks) (h2 : ∀ p ∈ ks, p.2 ∈ L.map (·.2)) : decide ((L.length : Int) = (ks.length : Int)) = decide (ks.map (·.2)).Nodup := by
  have h := size_tells (l := L.map (·.2)) (D := ks.map (·.2)) hn (fun x => ⟨fun hx => ?_, fun hx => ?_⟩)
  · rw [List.length_map, List.length_map] at h; exact h
  · obtain ⟨p, hp, rfl⟩ := List.mem_map.mp hx
    exact List.mem_map_of_mem (h1 p hp)
  · obtain ⟨p, hp, rfl⟩ := List.mem_map.mp hx
    exact h2 p hp
end Gs

set_option Elab.async false
set_option linter.all false
set_option maxRecDepth 100000
set_option maxHeartbeats 4000000
/-! Layer G24: {(a, ..): v for .. in ..}: the keys tuples of ints and texts. -/
namespace Gs
open PySem PySem.Spec PyProof.Rows L2 PpSet
def tDcT (wi : TI) (g : TG) (tt : TT) (tk tv : TE) (vs : List Nat) : TE := fun σ H Q => wi σ H fun J H1 => ∀ D, H1 D = none →
  ∃ W : Nat → Nat → Hp → Prop, (∃ m, W 0 m (upd H1 D (.dT []))) ∧ ∀ i m H, W i m H → (J.stop i H ∧ Q (.ref D) H) ∨
    (J.go i H ∧ ∃ Nx : Hp → Prop, (∀ H', Nx H' → ∃ m', m' < m ∧ W (i + 1) m' H') ∧ ∀ x H', J.yld i H x H' → g x (wipe σ vs) H' fun σ2 H2 => wipe σ2 vs = wipe σ vs ∧ tt σ2 H2 fun b H3 =>
      if b = true then tk σ2 H3 fun y H4 => tv σ2 H4 fun z H5 => ∃ (kvs : List (List Key × V)) (k : List Key) (b : Addr), y = .ref b ∧ H5 b = some (.tup (k.map kV)) ∧ H5 D = some (.dT kvs) ∧ kvs.length < sizeLine ∧ Nx (upd H5 D (.dT (putK kvs k z))) else Nx H3)
section
variable {X : Cx}
/-- d[k] = v by a comprehension, k a tuple -/
theorem dctT_put {pins : List (Addr × Obj)} {σ : L2.St} {H : Hp} {s : Shared} {E : Value → Shared → Prop} {D b : Addr} {kvs : List (List Key × V)} {k : List Key} {v : V} {r : Value} {Q : Unit → Shared → Prop} (hu : X.A.units + 1 < cLine) (I : Inv X pins σ H s) (hD : H D = some (.dT kvs))
    (hz : kvs.length < sizeLine) (hb : H b = some (.tup (k.map kV))) (rv : RelV v r) (h : ∀ s', Inv X pins σ (upd H D (.dT (putK kvs k v))) s' → Q () s') : wpAny (model X.prog X.w) X.A (dictSet D (.ref b) r) Q E s := by
  obtain ⟨lz, hd, xs, rel, dd⟩ := dt_of I.hok hD
  have few : xs.length ≤ sizeLine := Paired.length rel ▸ lz
  have room : (putK kvs k v).length ≤ sizeLine := Nat.le_trans (length_putK kvs k v) hz
  have un : (tupleKind (mixKind X.prog X.w)).room X.A := by
    show X.A.units < cLine
    omega
  refine wpAny_dictSet_heap (hsz := few) un (key_of I.hok hb) dd ?_
  intro h' dd' same
  refine h _ ?_
  obtain ⟨q, es, ep, hq, h2, h3, h4, _, h5⟩ := dd'
  refine d_write I (by rw [hD]; exact True.intro) same ⟨q, hq⟩ ⟨room, hd, _, (rel.put k hb rv).keeps ?_, q, es, ep, hq, h2, h3, h4, h5⟩
  intro c ys ec
  rw [upd_ne (ne_of ec hD (fun z => nomatch z))]
  exact ec
theorem dct_run {pins : List (Addr × Obj)} {s : Shared} {σ : L2.St} {H : Hp} {Q : VK} {kx vx tg iter : Expr} {ifs : List Expr} {scope : Scope} {own : List (PySem.Str × Nat)} {pos pos' : Pos} {wi : TI} {g : TG} {tt : TT} {tk tv : TE} {use : Option (Value → Sem Unit)}
    {Qf : Value → Shared → Prop} (hu : X.A.units + 2 < cLine) (calm : X.calm = true) (nod : X.N.Nodup) (I : Inv X pins σ H s) (pi : PI X tg iter wi) (bok : BlkOk X.N X.env.scope scope own)
    (pg : ∀ (s : Shared) (H : Hp) (C : Addr) (cl : List (PySem.Str × Addr)) (fp : List Addr), PG (X.blk s H scope (compEnvC scope cl C X.env) fp) tg g)
    (pt : ∀ (s : Shared) (H : Hp) (C : Addr) (cl : List (PySem.Str × Addr)) (fp : List Addr), PTs (X.blk s H scope (compEnvC scope cl C X.env) fp) ifs tt)
    (pk : ∀ (s : Shared) (H : Hp) (C : Addr) (cl : List (PySem.Str × Addr)) (fp : List Addr), PE (X.blk s H scope (compEnvC scope cl C X.env) fp) kx tk)
    (pe : ∀ (s : Shared) (H : Hp) (C : Addr) (cl : List (PySem.Str × Addr)) (fp : List Addr), PE (X.blk s H scope (compEnvC scope cl C X.env) fp) vx tv)
    (plain : ∀ x, foldedSetIterable iter X.env x = pure x) (h : tDcT wi g tt tk tv (own.map (·.2)) σ H Q)
    (back : ∀ D C s' m H', Inv X pins σ H' s' → Q (.ref D) H' → s'.heap.Ns C m → FpOk X pins H' C → compPost (model X.prog X.w) X.A X.xe use Qf (.ref D) C (.ok .next) s') :
    wpAny (model X.prog X.w) X.A (comprehension (.DictComp kx vx [⟨tg, iter, ifs, 0⟩] scope pos) scope X.env pos' newDict false (eval iter X.env) use) Qf X.xe s := by
  have cells : ∀ q ∈ scope.names, q.2 = .free → ∃ c, X.env.cells.lookup q.1 = some c := by
    intro q hq e
    cases bok.free q hq e with
    | inl k => exact I.ok.has _ (Or.inl k)
    | inr k => exact I.ok.has _ (Or.inr k)
  refine wpAny_comprehension_free (use := use) rfl plain (closure_ok cells) bok.kind (fun q hq e => (bok.uniq q hq).trans (congrArg some e)) (thn (pi.run pins s σ H _ I h) fun _ s1 hx => thn hx fun _ s2 got => ?_)
  obtain ⟨it, fp, tn, J, H2, rfl, I2, T, st2, f2, q⟩ := got
  refine wpAny_newObj_type (newEnv_comp ?_)
  obtain ⟨D, hD⟩ : ∃ D, D = s2.heap.objs.size := ⟨_, rfl⟩
  have free : H2 D = none := I2.hok.fresh (by rw [hD]; exact Nat.le_refl _)
  obtain ⟨W, ⟨m0, w0⟩, turn⟩ := q D free
  obtain ⟨s3, hs3⟩ : ∃ s3 : Shared, s3 = { s2 with heap := s2.heap.push { cls := .type "dict", data := .dict #[] } } := ⟨_, rfl⟩
  have hp3 : ∀ b o, s2.heap.get? b = some o → s3.heap.get? b = some o := fun b o e => by rw [hs3]; exact Heap.get?_push_of_some _ e
  have sz3 : s3.heap.objs.size = s2.heap.objs.size + 1 := by rw [hs3]; exact Heap.size_push _ _
  have I3 : Inv X pins σ (upd H2 D (.dT [])) s3 := by
    rw [hs3]
    refine I2.laid (t' := s2.toks) (fun b o e => Heap.get?_push_of_some _ e) (by rw [hD]; exact Nat.le_refl _) ?_
    rw [hD]
    exact dt_empty s2.heap I2.big
  have below : ∀ b ∈ fp, b < s2.heap.objs.size := by
    intro b hb
    obtain ⟨o, e, _⟩ := T.obj _ _ st2 b hb
    exact Heap.lt_size e
  have fps : ∀ b ∈ fp, FpOk X pins (upd H2 D (.dT [])) b ∧ b < s3.heap.objs.size := by
    intro b hb
    have lt := below b hb
    refine ⟨⟨(upd_ne (by rw [hD]; exact Nat.ne_of_lt lt)).trans (f2 b hb).1, (f2 b hb).2⟩, by rw [sz3]; exact Nat.lt_succ_of_lt lt⟩
  have st3 : tn 0 s3.heap := T.keep _ _ _ st2 fun b _ o e => hp3 b o e
  have I4 := block_start I3 bok nod fps
  have pg := pg s3 (upd H2 D (.dT [])) s3.heap.objs.size (cellsFrom (s3.heap.objs.size + 1) scope.names (cloFrom X.env.cells scope.names [])) fp
  have pt := pt s3 (upd H2 D (.dT [])) s3.heap.objs.size (cellsFrom (s3.heap.objs.size + 1) scope.names (cloFrom X.env.cells scope.names [])) fp
  have pk := pk s3 (upd H2 D (.dT [])) s3.heap.objs.size (cellsFrom (s3.heap.objs.size + 1) scope.names (cloFrom X.env.cells scope.names [])) fp
  have pe := pe s3 (upd H2 D (.dT [])) s3.heap.objs.size (cellsFrom (s3.heap.objs.size + 1) scope.names (cloFrom X.env.cells scope.names [])) fp
  have fresh : ∀ b ∈ fp, (upd H2 D (.dT [])) b = none := fun b hb => (fps b hb).1.1
  rw [← hD, ← hs3]
  show codeAny _ _ (.compStart (.DictComp kx vx [⟨tg, iter, ifs, 0⟩] scope pos) 0 (.ref it) (.ref D) (compEnvC scope (cellsFrom (s3.heap.objs.size + 1) scope.names (cloFrom X.env.cells scope.names [])) s3.heap.objs.size X.env)) (compPost (model X.prog X.w) X.A X.xe use Qf (.ref D) s3.heap.objs.size) _
  revert I4 pg pt pk pe
  generalize hce : compEnvC scope (cellsFrom (s3.heap.objs.size + 1) scope.names (cloFrom X.env.cells scope.names [])) s3.heap.objs.size X.env = ce
  intro I4 pg pt pk pe
  have loc : ce.locals = s3.heap.objs.size := by rw [← hce]; rfl
  generalize upd H2 D (.dT []) = H3 at I3 I4 pg pt pk pe w0 fresh fps
  obtain ⟨s4, hs4⟩ : ∃ s4 : Shared, s4 = { s3 with heap := pushCells (s3.heap.push { cls := .type "dict", data := .dict #[] }) scope.names } := ⟨_, rfl⟩
  rw [← hs4] at I4 ⊢
  have st4 : tn 0 s4.heap := T.keep _ _ _ st3 fun b _ o e => by rw [hs4]; exact pushCells_keeps _ _ _ _ (Heap.get?_push_of_some _ e)
  have hold : ∀ {σ' : L2.St} {H' : Hp} {s' : Shared}, Inv (X.blk s3 H3 scope ce fp) [] σ' H' s' → (∀ b ∈ fp, H' b = none) → ∀ b ∈ fp, FpOk (X.blk s3 H3 scope ce fp) [] H' b := by
    intro σ' H' s' I' hn b hb
    exact ⟨hn b hb, (I'.ok.exf b hb).1, I'.ok.exfs b hb, .inl hb, fun x c e => (I'.ok.exf b hb).2 x c e, fun p hp => absurd (show p ∈ ([] : List (Addr × Obj)) ++ [] from hp) (by simp)⟩
  have loop : codeAny (model X.prog X.w) X.A (.compLoop (.DictComp kx vx [⟨tg, iter, ifs, 0⟩] scope pos) 0 (.ref it) (.ref D) ce) (compPost (model X.prog X.w) X.A X.xe use Qf (.ref D) s3.heap.objs.size) s4 := by
    refine compLoop_anyD (fun n s' => ∃ i H', Inv (X.blk s3 H3 scope ce fp) [] (wipe σ (own.map (·.2))) H' s' ∧ tn i s'.heap ∧ (∀ b ∈ fp, H' b = none) ∧ W i n H') ?_ m0 ⟨0, H3, I4, st4, fresh, w0⟩
    rintro n s5 ⟨i, H5, I5, st5, n5, w5⟩
    cases turn i n H5 w5 with
    | inl fin =>
      obtain ⟨stop, qq⟩ := fin
      refine thnF (T.done (X.blk s3 H3 scope ce fp) rfl rfl rfl calm i [] s5 _ H5 (fun _ _ => False) I5 (hold I5 n5) st5 stop) fun r s6 ⟨hr, I6⟩ => ?_
      subst hr
      have I7 : Inv X pins σ H5 s6 := I3.call' (ch := fp) I6.os I6.base I6.hok I6.bare fun b hb => ⟨(fps b hb).1.2.2.2.1, (fps b hb).1.2.1, (fps b hb).1.2.2.2.2.1, (fps b hb).1.2.2.2.2.2⟩
      have gone : H5 s3.heap.objs.size = none := by
        have z : H5 ce.locals = none := I6.free
        rwa [loc] at z
      obtain ⟨m, hn, _⟩ := I6.loc
      have hn : s6.heap.Ns ce.locals m := hn
      rw [loc] at hn
      exact back D s3.heap.objs.size s6 m H5 I7 qq hn (I3.fpOk (Nat.le_refl _) gone)
    | inr more =>
      obtain ⟨go, Nx, hNx, step⟩ := more
      refine thnF (T.item (X.blk s3 H3 scope ce fp) rfl rfl rfl calm i [] s5 _ H5 (fun _ _ => False) I5 (hold I5 n5) st5 go) fun r s6 ⟨u, hr, h6⟩ => ?_
      subst hr
      refine thnF h6 fun _ s7 ⟨x, H7, I7, r7, y7, st7, n7⟩ => ?_
      have I7p := I7.pinned (hold I7 n7) (T.obj _ _ st7)
      refine thnF (pg.run _ s7 _ H7 x u _ I7p r7 (step x H7 y7)) fun _ s8 ⟨σ8, H8, I8, hw8, q8⟩ => ?_
      refine thnF (pt.run _ s8 σ8 H8 _ I8 q8) fun b s9 ⟨H9, I9, q9⟩ => ?_
      have again : ∀ {s' : Shared} {H' : Hp}, Inv (X.blk s3 H3 scope ce fp) ([] ++ pinsAt fp s7.heap) σ8 H' s' → Nx H' →
          ∃ m, m < n ∧ ∃ i H', Inv (X.blk s3 H3 scope ce fp) [] (wipe σ (own.map (·.2))) H' s' ∧ tn i s'.heap ∧ (∀ b ∈ fp, H' b = none) ∧ W i m H' := by
        intro s' H' I' nx
        obtain ⟨m', hm, w'⟩ := hNx H' nx
        have pinned : ∀ b ∈ fp, ∀ o, s7.heap.get? b = some o → s'.heap.get? b = some o ∧ H' b = none := by
          intro b hb o e
          have z := I'.pin (b, o) (List.mem_append_right _ (List.mem_append_right _ (mem_pinsAt hb e)))
          exact ⟨z.1, z.2.1⟩
        refine ⟨m', hm, i + 1, H', (I'.unpinned (pins := [])).weak (by rw [← hw8, wipe_length]) (fun j v e => ?_), T.keep _ _ _ st7 (fun b hb o e => (pinned b hb o e).1), (fun b hb => ?_), w'⟩
        · rw [← hw8] at e
          exact (wipe_some e).1
        · obtain ⟨o, e, _⟩ := T.obj _ _ st7 b hb
          exact (pinned b hb o e).2
      cases b with
      | false =>
        rw [if_neg Bool.false_ne_true] at q9 ⊢
        exact again I9 q9
      | true =>
        rw [if_pos rfl] at q9 ⊢
        refine thnF (pk.run _ s9 σ8 H9 _ I9 q9) fun y0 s10 hy => ?_
        obtain ⟨yv, H10, I10, r10, q10⟩ := hy
        refine thnF (pe.run _ s10 σ8 H10 _ I10 q10) fun z0 s11 hz => ?_
        obtain ⟨zv, H11, I11, r11, kvs, k, b0, rfl, hb0, hD11, few11, nx⟩ := hz
        cases (show y0 = Value.ref b0 from r10)
        exact dctT_put (X := X.blk s3 H3 scope ce fp) (by show X.A.units + 1 < cLine; omega) I11 hD11 few11 hb0 r11 fun s12 I12 => again I12 nx
  exact codeAny_compStart_dict loop (T.self X.A 0 _ _ _ st4 loop)
/-- {(a, ..): v for tg in iter ..} -/
theorem pe_dct {kx vx tg iter : Expr} {ifs : List Expr} {scope : Scope} {own : List (PySem.Str × Nat)} {pos : Pos} {wi : TI} {g : TG} {tt : TT} {tk tv : TE} (hu : X.A.units + 2 < cLine) (calm : X.calm = true) (nod : X.N.Nodup)
    (pi : PI X tg iter wi) (bok : BlkOk X.N X.env.scope scope own) (pg : ∀ (s : Shared) (H : Hp) (C : Addr) (cl : List (PySem.Str × Addr)) (fp : List Addr), PG (X.blk s H scope (compEnvC scope cl C X.env) fp) tg g)
    (pt : ∀ (s : Shared) (H : Hp) (C : Addr) (cl : List (PySem.Str × Addr)) (fp : List Addr), PTs (X.blk s H scope (compEnvC scope cl C X.env) fp) ifs tt)
    (pk : ∀ (s : Shared) (H : Hp) (C : Addr) (cl : List (PySem.Str × Addr)) (fp : List Addr), PE (X.blk s H scope (compEnvC scope cl C X.env) fp) kx tk)
    (pe : ∀ (s : Shared) (H : Hp) (C : Addr) (cl : List (PySem.Str × Addr)) (fp : List Addr), PE (X.blk s H scope (compEnvC scope cl C X.env) fp) vx tv) (plain : ∀ x, foldedSetIterable iter X.env x = pure x := by intro _; rfl) :
    PE X (.DictComp kx vx [⟨tg, iter, ifs, 0⟩] scope pos) (tDcT wi g tt tk tv (own.map (·.2))) := by
  constructor
  intro pins s σ H Q I h
  rw [arm_eval_DictComp]
  refine dct_run hu calm nod I pi bok pg pt pk pe plain h fun D C s' m H' I' q hn f => ⟨m, hn, fun h2 sb => ?_⟩
  obtain ⟨f0, f1, f2, f3, f4, f5⟩ := f
  exact ⟨.ref D, H', I'.turned (t' := s'.toks) (fun b o hb e => (sb.2 b hb).trans e) f0 f1 f3 f4 f5, rfl, q⟩
/-- over what stands and is walked -/
theorem dct_it {J : It} {n : Nat} {G : Hp → Prop} {Y : Nat → Hp → V → Hp → Prop} (wk : Walk J n G Y) {g : TG} {tt : TT} {tk tv : TE} {vs : List Nat} {σ : L2.St} {H1 : Hp} {D : Addr} {Qd : Hp → Prop}
    (Pv : Nat → Hp → Prop) (h0 : Pv 0 (upd H1 D (.dT []))) (hG : ∀ i H, i ≤ n → Pv i H → G H)
    (hs : ∀ i x H H', i < n → Pv i H → Y i H x H' → g x (wipe σ vs) H' fun σ2 H2 => wipe σ2 vs = wipe σ vs ∧ tt σ2 H2 fun b H3 =>
      if b = true then tk σ2 H3 fun y H4 => tv σ2 H4 fun z H5 => ∃ (kvs : List (List Key × V)) (k : List Key) (b : Addr), y = .ref b ∧ H5 b = some (.tup (k.map kV)) ∧ H5 D = some (.dT kvs) ∧ kvs.length < sizeLine ∧ Pv (i + 1) (upd H5 D (.dT (putK kvs k z))) else Pv (i + 1) H3)
    (hd : ∀ H, Pv n H → Qd H) :
    ∃ W : Nat → Nat → Hp → Prop, (∃ m, W 0 m (upd H1 D (.dT []))) ∧ ∀ i m H, W i m H → (J.stop i H ∧ Qd H) ∨
      (J.go i H ∧ ∃ Nx : Hp → Prop, (∀ H', Nx H' → ∃ m', m' < m ∧ W (i + 1) m' H') ∧ ∀ x H', J.yld i H x H' → g x (wipe σ vs) H' fun σ2 H2 => wipe σ2 vs = wipe σ vs ∧ tt σ2 H2 fun b H3 =>
        if b = true then tk σ2 H3 fun y H4 => tv σ2 H4 fun z H5 => ∃ (kvs : List (List Key × V)) (k : List Key) (b : Addr), y = .ref b ∧ H5 b = some (.tup (k.map kV)) ∧ H5 D = some (.dT kvs) ∧ kvs.length < sizeLine ∧ Nx (upd H5 D (.dT (putK kvs k z))) else Nx H3) := by
  refine ⟨fun i m H => m = n - i ∧ i ≤ n ∧ Pv i H, ⟨n, by simp, Nat.zero_le _, h0⟩, ?_⟩
  rintro i m H ⟨rfl, hi, p⟩
  have st := hG i H hi p
  rcases Nat.lt_or_ge i n with lt | ge
  · exact .inr ⟨wk.goes i H lt st, Pv (i + 1), fun H' p' => ⟨n - (i + 1), by omega, rfl, lt, p'⟩, fun x H' y => hs i x H H' lt p (wk.yields i H x H' lt st y)⟩
  · have e : i = n := Nat.le_antisymm hi ge
    subst e
    exact .inl ⟨wk.stops H st, hd H p⟩
end
end Gs

set_option Elab.async false
set_option linter.all false
set_option maxRecDepth 100000
set_option maxHeartbeats 4000000
/-! Layer G25: lists or tuples unpacked; two rules of a call; keywords where a def has defaults. -/
namespace Gs
open PySem PySem.Spec PyProof.Rows L2
def gSeq (K : PySem.W.Frag) (n : Nat) (t : TGs) : TG := fun v σ H Q => gUnl K n t v σ H Q ∨ gTup K n t v σ H Q
theorem pg_seq {X : Cx} {pos : Pos} {es : List Expr} {k : Nat} {t : TGs} {n : Nat} (hc : X.calm = true) (h : PGs X es t) (hn : (assignEach es X.env).length = n := by rfl) (hst : (assignEach es X.env).findIdx? (·.1) = none := by rfl) : PG X (.Tuple es k pos) (gSeq X.K n t) :=
  pg_or (pg_unl hc h hn hst) (pg_tup hc h hn hst)
theorem gSeq.of {K : PySem.W.Frag} {n : Nat} {t : TGs} {a : Addr} {xs : List V} {σ : L2.St} {H : Hp} {Q : L2.St → Hp → Prop} (h : SqL K H a xs ∨ SqT K H a xs) (hl : xs.length = n) (q : t xs σ H Q) : gSeq K n t (.ref a) σ H Q :=
  h.elim (fun h => .inl ⟨a, xs, rfl, h, hl, q⟩) fun h => .inr ⟨a, xs, rfl, h, hl, q⟩
theorem cr_or {X : Cx} {f : Value} {r1 r2 : List V → Hp → VK → Prop} (h1 : CallR X f r1) (h2 : CallR X f r2) : CallR X f (fun xs H Q => r1 xs H Q ∨ r2 xs H Q) :=
  fun pins s σ H xs us Q I r h => h.elim (h1 pins s σ H xs us Q I r) (h2 pins s σ H xs us Q I r)
section
variable {K : PySem.W.Frag} {x qual : Str} {params : Arguments} {body : List Stmt} {scope : Scope} {dvs : List V} {f : Addr} {fd : FuncData} {ps : List Str}
/-- f(e, .., k = v, ..), some of the defaults filling up; g puts the positional values, all defaults and the keywords' values in the parameters' order -/
theorem kbn_dfl (F : FunD K x qual params body scope dvs [] f fd) (n : Nat) (ks : List Str) (g : {α : Type} → List α → List α → List α → List α) (hd : dvs ≠ [])
    (hrel : ∀ {vs ds zs : List V} {us its ws : List Value}, Vals vs us → Vals ds its → Vals zs ws → Vals (g vs ds zs) (g us its ws))
    (h : ∀ (T : Addr) (kV doc pm : Value) (an : Option Addr) (cdv ct : Value) (us its ws : List Value), us.length = n → its.length = dvs.length → ws.length = ks.length →
      ∃ k, bindArgs (PySem.W.fnOf x qual params body scope (.ref T) kV doc pm an cdv ct) ⟨us, ks.zip ws⟩ = seqItems? (.ref T) >>= k ∧ k (some its.toArray) = pure (ps.zip (g us its ws))) :
    ∃ its : List Value, KBn K fd ps n ks (fun us ws => g us its ws) (fun vs zs => g vs dvs zs) := by
  obtain ⟨oc, od, dV, kV, doc, pm, an, cdv, ct, osl, rfl, lk, hcd, hD, hK⟩ := F.ex
  rcases hD with ⟨e, _⟩ | ⟨_, T, o, its, m, rfl, lT, oT, rT⟩
  · exact absurd e hd
  · refine ⟨its, ⟨fun s us ws X l1 l2 => ?_, fun rv rz => hrel rv rT rz⟩⟩
    obtain ⟨k, e1, e2⟩ := h T kV doc pm an cdv ct us its ws l1 rT.length.symm l2
    refine BindsTo.of_looks fun M => ?_
    rw [e1]
    exact looks_items X lT oT (.of_pure e2)
end
end Gs

set_option Elab.async false
set_option linter.all false
set_option maxRecDepth 100000
set_option maxHeartbeats 4000000
/-! repr of None, of a text. -/
namespace Gs
open PySem PySem.Spec PyProof.Rows L2
section
variable {X : Cx}
def rReprS : List V → Hp → VK → Prop := fun xs H Q => (xs = [.non] ∧ Q (.str "None") H) ∨ ∃ z : Str, xs = [.str z] ∧ (reprText z).length ≤ sizeLine ∧ Q (.str (reprText z)) H
theorem call_reprS : CallR X (.builtin "repr") rReprS := by
  intro pins s σ H xs us Q I r h
  rcases h with ⟨rfl, q⟩ | ⟨z, rfl, hz, q⟩
  · obtain ⟨u, rfl, ru⟩ := vals1 r
    obtain rfl : u = Value.none := by cases u <;> first | rfl | cases ru
    exact PySem.P.repr_of_none ⟨.str _, H, I.tok _, ⟨_, rfl⟩, q⟩
  · obtain ⟨u, rfl, ru⟩ := vals1 r
    obtain ⟨t, rfl⟩ : ∃ t, u = Value.str z t := ru
    exact PySem.P.repr_of_str ⟨.str _, H, I.tok _, ⟨_, rfl⟩, q⟩ hz
end
end Gs

set_option Elab.async false
set_option linter.all false
set_option maxRecDepth 100000
set_option maxHeartbeats 4000000
/-! Layer G13: several except clauses, some with a name; a written dict with one tuple as its key. -/
namespace Gs
open PySem PySem.Spec PyProof.Rows L2
/-- a way of catching: from what is wished behind, what is wished of an exception -/
abbrev Catch := Ends → WX → WX
/-- what one clause wishes: nm: the slot of its name, if it has one -/
def oneC (n : Nat) (K : PySem.W.Frag) (c : Value) (nm : Option Nat) (ts : Addr → Value → Option Addr → TS) (rest : Catch) : Catch := fun D W cls d σ H => ∃ b, PySem.W.exmOne K cls c = some b ∧
  (b = true → σ.length = n → ∀ a, H a = none → match nm with
    | none => ts a cls d D σ H
    | some i => ts a cls d { nx := fun σ' H' => D.nx (σ'.set i none) H', rt := D.rt, bk := fun σ' H' => D.bk (σ'.set i none) H', ct := fun σ' H' => D.ct (σ'.set i none) H' } (σ.set i (some (.ref a))) H) ∧
  (b = false → rest D W cls d σ H)
/-- the clauses and what they wish -/
inductive Cls5 (X : Cx) : List ExceptHandler → Catch → Prop
  | done : Cls5 X [] (fun _ W => W)
  | bare {x : Str} {c : Value} {ts : Addr → Value → Option Addr → TS} {b₀ : Stmt} {su : List Stmt} {q q' : Pos} {more : List ExceptHandler} {rest : Catch} (nc : Names X x c)
      (body : ∀ (a : Addr) (ob : Obj) (cls : Value) (d : Option Addr) (pn : List (Addr × Obj)), Zc cls d ob → (∃ vs, ob.data = .fields vs) → PSs (X.suite a ((a, ob) :: pn)) (b₀ :: su) (ts a cls d)) (r : Cls5 X more rest) :
      Cls5 X (.ExceptHandler (some (.Name x q)) none (b₀ :: su) q' :: more) (oneC X.N.length X.K c none ts rest)
  | as {x n : Str} {i : Nat} {c : Value} {ts : Addr → Value → Option Addr → TS} {b₀ : Stmt} {su : List Stmt} {q q' : Pos} {more : List ExceptHandler} {rest : Catch} (nc : Names X x c) (hN : X.N.Nodup) (hi : X.N[i]? = some n) (ln : X.env.kindOf n = some .local)
      (body : ∀ (a : Addr) (ob : Obj) (cls : Value) (d : Option Addr) (pn : List (Addr × Obj)), Zc cls d ob → (∃ vs, ob.data = .fields vs) → PSs (X.suite a ((a, ob) :: pn)) (b₀ :: su) (ts a cls d)) (r : Cls5 X more rest) :
      Cls5 X (.ExceptHandler (some (.Name x q)) (some n) (b₀ :: su) q' :: more) (oneC X.N.length X.K c (some i) ts rest)
section
variable {X : Cx} {pins : List (Addr × Obj)} {σ : L2.St} {H : Hp} {D : Ends}
/-- the end of a suite: back in the def's own context -/
theorem suite_back {a : Addr} {q : Addr × Obj} {f : Flow} {s : Shared} (ok : X.Ok) (h : SP (X.suite a (q :: (X.pn ++ pins))) [] D f s) : SP X pins D f s := by
  cases f with
  | next => obtain ⟨σ', H', S, z⟩ := h; exact ⟨σ', H', S.unsuite ok, z⟩
  | brk => obtain ⟨σ', H', S, z⟩ := h; exact ⟨σ', H', S.unsuite ok, z⟩
  | cont => obtain ⟨σ', H', S, z⟩ := h; exact ⟨σ', H', S.unsuite ok, z⟩
  | ret u => obtain ⟨v, σ', H', S, rv, z⟩ := h; exact ⟨v, σ', H', S.unsuite ok, rv, z⟩
/-- try: body, except .. as ..: .., several -/
theorem ps_try5 {body : List Stmt} {h₀ : ExceptHandler} {hds : List ExceptHandler} {pos : Pos} {tb : WX → TS} {W₀ : WX} {C : Catch} (hs : X.stack = X.env :: X.outer) (hf : X.env.frame = some X.env.locals) (tk : Takes X W₀)
    (hb : ∀ (W : WX) (pn : List (Addr × Obj)) (xe : Value → Shared → Prop), Takes (X.tr pn xe) W → PassesOwn (model X.prog X.w) X.A X.env xe → PSs (X.tr pn xe) body (tb W))
    (hc : Cls5 X (h₀ :: hds) C) : PS X (.Try body (h₀ :: hds) [] [] pos) (fun D σ H => tb (C D W₀) D σ H) := by
  refine ⟨fun pins s σ H D I h => ?_⟩
  have ok := I.ok
  have frm : X.A.frames = some (X.env :: X.outer) := by rw [ok.frames, hs]
  refine wpAny_Try_except (wpAny_mono ((hb (C D W₀) (X.pn ++ pins) (fun e s₁ => wpAny (model X.prog X.w) X.A (noteFrame e X.env) (fun _ s₂ => wpAny (model X.prog X.w) X.A (setFlight e none)
    (fun _ s₃ => wpAny (model X.prog X.w) X.A (handleBy e X.env (h₀ :: hds)) (SP X pins D) X.xe s₃) X.xe s₂) X.xe s₁) (fun u s₁ caught => ?_) PassesOwn.looking).run [] s σ H D (I.toTry _) h) (fun f s₁ hsp => ?_) (fun _ _ z => z))
  rotate_left
  · cases f with
    | next => obtain ⟨σ', H', J, z⟩ := hsp; exact wpAny_execs_nil ⟨σ', H', J.ofTry ok, z⟩
    | brk => obtain ⟨σ', H', J, z⟩ := hsp; exact ⟨σ', H', J.ofTry ok, z⟩
    | cont => obtain ⟨σ', H', J, z⟩ := hsp; exact ⟨σ', H', J.ofTry ok, z⟩
    | ret u => obtain ⟨v, σ', H', J, rv, z⟩ := hsp; exact ⟨v, σ', H', J.ofTry ok, rv, z⟩
  obtain ⟨a, B, sI, pins', σ', H', cls, d, rfl, J', nb, up, sky, na, os, ag, wish⟩ := caught
  have J : Inv X pins σ' H' sI := J'.ofTry ok
  have sky : Sky B (X.env :: X.outer) a (Zc cls d) X.env.locals s₁.heap := by rw [← hs]; exact sky
  show wpAny (model X.prog X.w) X.A (noteFrame (.ref a) X.env) _ _ _
  refine Sky.land Zc.steady frm hf sky fun h₃ fl up₃ => ?_
  have up₃ := up.trans up₃
  obtain ⟨ob, vs, hob, hz, hd⟩ := fl.there
  have apart : ∀ {g : Heap} {o : Obj} {us : Array Value}, g.FunFrames B (X.env :: X.outer) → g.get? a = some o → o.data = .fields us → a ∉ frs (X.env :: X.outer) := by
    intro g o us ff e de hm
    obtain ⟨_, o', e', no⟩ := ff.mem hm
    rw [e] at e'
    cases e'
    exact no _ de
  have nfr := apart fl.2.2.1 hob hd
  have nL : a ≠ X.env.locals := fun z => nfr (List.mem_filterMap.mpr ⟨X.env, List.mem_cons_self, by rw [hf, z]⟩)
  have nF : a ∉ X.fs := fun hm => by
    obtain ⟨e, he, z⟩ := List.mem_filterMap.mp hm
    exact nfr (List.mem_filterMap.mpr ⟨e, List.mem_cons_of_mem _ he, z⟩)
  have J₃ : Inv X pins σ' H' { s₁ with heap := h₃ } := J.landed nb fl.1 up₃ os ag
  have S₃ := J₃.suite hob hd na nL nF
  have looks : PySem.W.Looks (model X.prog X.w) h₃ (typeOf (.ref a)) cls := fun A Q E s k z => wpAny_typeOf_ref (k _ _ hob) (by rw [hz.1]; exact z)
  -- the class that a clause names
  have named : ∀ {x : Str} {c : Value} {q : Pos} {Q : Value → Shared → Prop} {E : Value → Shared → Prop}, Names X x c → Q c { s₁ with heap := h₃ } →
      wpAny (model X.prog X.w) (X.A.mark (some (.ref a))) (eval (.Name x q) X.env) Q E { s₁ with heap := h₃ } := by
    intro x c q Q E nc hq
    obtain ⟨hg, dbg, m | ⟨m, boot, nn⟩⟩ := nc
    · exact ld_glob (X := X.suite a ((a, ob) :: (X.pn ++ pins))) S₃ hg m hq dbg
    · exact ld_blt (X := X.suite a ((a, ob) :: (X.pn ++ pins))) S₃ hg m boot hq nn dbg
  have all : ∀ {hds' : List ExceptHandler} {C' : Catch}, Cls5 X hds' C' → C' D W₀ cls d σ' H' →
      wpAny (model X.prog X.w) X.A (handleBy (.ref a) X.env hds') (SP X pins D) X.xe { s₁ with heap := h₃ } := by
    intro hds' C' hc'
    induction hc' with
    | done =>
      intro wish
      refine wpAny_handleBy_nil ?_
      obtain ⟨_, _, _, oe, us, T, oT, ts', he, _, hde, h1, _⟩ := id fl
      unfold PySem.passOn
      refine wpAny_bind (wpAny_field he hde h1 ?_)
      rw [if_neg (by simp)]
      have fin : wpAny (model X.prog X.w) X.A (setFlight (.ref a) X.env.frame) (fun _ s₄ => wpAny (model X.prog X.w) X.A (throw (.ref a) : Sem Flow) (SP X pins D) X.xe s₄) X.xe { s₁ with heap := h₃ } := by
        rw [hf]
        refine HandSPX.setFlight_upZ fl fun h₄ sk up₄ => wpAny_throw (tk _ _ ?_)
        exact ⟨a, B, sI, pins, σ', H', cls, d, rfl, J, nb, up₃.trans up₄, .inr (.inr (by rw [hs]; exact sk)), na, os, ag, wish⟩
      first
        | exact wpAny_bind (wpAny_pure (wpAny_bind fin))
        | exact wpAny_bind fin
    | bare nc body r ih =>
      intro wish
      obtain ⟨b, hb1, yes, no⟩ := wish
      refine wpAny_handleBy_cons (codeAny_handlers_test ?_) (by intro z; cases z)
      refine named nc ((PySem.W.exm_one (M := model X.prog X.w) J₃.kIn looks hb1).here ?_)
      cases b with
      | false => exact ih (no rfl)
      | true =>
        refine codeAny_handlers_suite ?_
        refine HandSPX.lands_againZ fl fun h₄ fl₄ up₄ => ?_
        obtain ⟨ob4, us4, e4, z4, d4⟩ := fl₄.there
        have J₄ : Inv X pins σ' H' { s₁ with heap := h₄ } := J.landed nb fl₄.1 (up₃.trans up₄) os ag
        have S₄ := J₄.suite e4 d4 na nL nF
        exact wpAny_mono ((body a ob4 cls d (X.pn ++ pins) z4 ⟨_, d4⟩).run [] _ _ H' _ S₄ (yes rfl J.len a na)) (fun f s6 hsp => suite_back ok hsp) (fun _ _ z => z.elim)
    | as nc hN hi ln body r ih =>
      rename_i x n i c ts b₀ su q q' more rest
      intro wish
      obtain ⟨b, hb1, yes, no⟩ := wish
      refine wpAny_handleBy_cons (codeAny_handlers_test ?_) (by intro z; cases z)
      refine named nc ((PySem.W.exm_one (M := model X.prog X.w) J₃.kIn looks hb1).here ?_)
      cases b with
      | false => exact ih (no rfl)
      | true =>
        refine codeAny_handlers_suite_as ?_
        refine HandSPX.lands_againZ fl fun h₄ fl₄ up₄ => ?_
        obtain ⟨ob4, us4, e4, z4, d4⟩ := fl₄.there
        have J₄ : Inv X pins σ' H' { s₁ with heap := h₄ } := J.landed nb fl₄.1 (up₃.trans up₄) os ag
        have S₄ := J₄.suite e4 d4 na nL nF
        have gone : ∀ {σ6 : L2.St} {H6 : Hp} {s6 : Shared} {Q : Shared → Prop}, Inv X pins σ6 H6 s6 → (∀ s7, Inv X pins (σ6.set i none) H6 s7 → Q s7) →
            wpAny (model X.prog X.w) X.A (do bindName X.env n .none; unbindBehindTheSuite X.env n q') (fun _ s7 => Q s7) X.xe s6 := fun S6 hq => gone_ok S6 hN hi ln hq
        refine store_ok (X := X.suite a ((a, ob4) :: (X.pn ++ pins))) (v := .ref a) S₄ hN hi (.inl ln) rfl (fun s5 S5 => ?_) (.inr ln)
        refine wpAny_mono ((body a ob4 cls d (X.pn ++ pins) z4 ⟨_, d4⟩).run [] s5 _ H' _ S5 (yes rfl J.len a na)) (fun f s6 hsp => ?_) (fun _ _ z => z.elim)
        cases f with
        | next => obtain ⟨σ6, H6, S6, z⟩ := hsp; exact gone (S6.unsuite ok) fun s7 J7 => ⟨_, _, J7, z⟩
        | brk => obtain ⟨σ6, H6, S6, z⟩ := hsp; exact gone (S6.unsuite ok) fun s7 J7 => ⟨_, _, J7, z⟩
        | cont => obtain ⟨σ6, H6, S6, z⟩ := hsp; exact gone (S6.unsuite ok) fun s7 J7 => ⟨_, _, J7, z⟩
        | ret u => obtain ⟨v, σ6, H6, S6, rv, z⟩ := hsp; exact gone (S6.unsuite ok) fun s7 J7 => ⟨_, _, _, J7, rv, z⟩
  exact all hc wish
end
/-! ### {(a, b): v} -/
def tDispT (tk tv : TE) : TE := fun σ H Q => ∀ p, H p = none → tk σ (upd H p (.dT [])) fun x H1 => tv σ H1 fun y H2 => ∃ (b : Addr) (k : List Key), x = .ref b ∧ H2 b = some (.tup (k.map kV)) ∧ H2 p = some (.dT []) ∧ Q (.ref p) (upd H2 p (.dT [(k, y)]))
theorem pe_dispT {X : Cx} {pos : Pos} {k v : Expr} {tk tv : TE} (hu : X.A.units + 1 < cLine) (hk : PE X k tk) (hv : PE X v tv) : PE X (.Dict [some k] [v] pos) (tDispT tk tv) := by
  refine ⟨fun pins s σ H Q I h => ?_⟩
  have free := I.hok.fresh (Nat.le_refl s.heap.objs.size)
  have I1 := I.laid (a := s.heap.objs.size) (o := .dT []) (h' := s.heap.push { cls := .type "dict", data := .dict #[] }) (t' := s.toks) (fun _ _ z => Heap.get?_push_of_some _ z) (Nat.le_refl _) (dt_empty s.heap I.big)
  have n1 := pairTrees_length [some k] [v] X.env pos rfl rfl
  have n1 : (pairTrees [some k] [v] X.env pos).length = 1 := n1
  rw [arm_eval_Dict, zip_pairTrees [some k] [v] X.env pos rfl rfl, dictDisplay_pairs _ (fun z => by rw [z] at n1; cases n1) (by rw [n1]; decide)]
  refine wpAny_bind (wpAny_standAt (wpAny_bind (wpAny_subDictH (knd := tupleKind (mixKind X.prog X.w)) (Q := fun d s' => wpAny (model X.prog X.w) X.A (pure (Value.ref d)) (EP X pins σ Q) X.xe s') (Nat.lt_of_succ_lt hu) (by rw [n1]; decide) ?_)))
  refine pairTrees_cons_walk (thn (hk.run pins _ σ _ _ I1 (h _ free)) fun u s1 ⟨x, H1, J1, rx, q1⟩ => thn (hv.run pins s1 σ H1 _ J1 q1) fun r s2 ⟨y, H2, J2, ry, b, ks, ex, hb, hp, q⟩ => pairTrees_nil_walk ?_)
  subst ex
  cases (show u = Value.ref b from rx)
  obtain ⟨_, hd, xs, rel, dd⟩ := dt_of J2.hok hp
  cases rel
  have is := key_of J2.hok hb
  refine ⟨[(ks, b, r)], ⟨rfl, rfl, is, True.intro⟩, dd, fun h' tk' ⟨ob, es, ep, g1, g2, g3, g4, g5, g6⟩ sb => wpAny_pure ⟨.ref s.heap.objs.size, _, ?_, rel_ref _, q⟩⟩
  have nb : b ≠ s.heap.objs.size := ne_of hb hp (fun z => nomatch z)
  refine d_write J2 (by rw [hp]; exact True.intro) sb ⟨ob, g1⟩ ⟨Nat.le_trans (show 1 ≤ 1000 by decide) (by decide), hd, [(ks, b, r)], .cons ⟨rfl, ?_, ry⟩ .nil, ob, es, ep, g1, g2, g3, g4, g6⟩
  rw [upd_ne nb]
  exact hb
end Gs

set_option Elab.async false
set_option linter.all false
set_option maxRecDepth 100000
set_option maxHeartbeats 4000000
/-! Layer G15: exceptions as values: made by place and by keywords, caught and kept; their fields, isinstance of them. -/
namespace PySem
namespace HandSPK
open HandSPX
open Builtin Builtin.ObjectAttr
section
variable {M : Model} {A : Around} {E : Value → Shared → Prop} {h : Heap} {g : Array GenState} {d : Drawn} {t : Nat} {os : OsState}
variable {nm q : Str} {C N : Addr} {bs bm bmB : List Value} {hdct : Bool} {sn : List Str} {sub : List Value} {ab : Bool} {col : Option Bool} {dd : Option Addr} {k0 k1 k2 k3 k5 : Option Value} {B newId initId : String}
theorem check_new_ownK (F : ExcBaseFacts B newId initId bmB) (hT : ∀ X : String, bm.contains (.type X) = bmB.contains (.type X)) {rest : List Value} {kw : List (Str × Value)} {Q : Unit → Shared → Prop}
    (hC : h.get? C = some (excClassObj nm q C N bs bm hdct sn sub ab col dd k0 k1 k2 k3 k5 newId)) (hq : Q () ⟨h, g, d, t, os⟩) : wpAny M A (checkBuiltinCall newId ⟨.ref C :: rest, kw⟩) Q E ⟨h, g, d, t, os⟩ := by
  have hcont : (Value.ref C :: bm).contains (.type B) = true := by rw [List.contains_cons, hT, F.hasB, Bool.or_true]
  have hstar := F.noStar
  simp only [checkBuiltinCall, F.newKind, F.newSplit, F.newRow]
  repeat (first | refine wpAny_loadPart_at hC ?_ | (refine wpAny_isSubtype_exc hC ?_; rw [hcont]) | refine wpAny_staticBase_exc hC ?_ | refine wpAny_madeBy_exc hC ?_ | simp only [bne_self_eq_false, Bool.false_eq_true, if_false] | wp_step)
  exact hq
theorem check_callK {kw : List (Str × Value)} {rest : List Value} {Q : Unit → Shared → Prop} {newId : String} (hC : h.get? C = some (excClassObj nm q C N bs bm hdct sn sub ab col dd k0 k1 k2 k3 k5 newId))
    (hq : Q () ⟨h, g, d, t, os⟩) : wpAny M A (checkBuiltinCall "type.__call__" ⟨.ref C :: rest, kw⟩) Q E ⟨h, g, d, t, os⟩ := by
  have f3 := tc_sub
  have hT : (⟨h, g, d, t, os⟩ : Shared).TypeIs (.ref C) "type" := ⟨_, hC, rfl⟩
  simp only [checkBuiltinCall, tc_kind, tc_split]
  repeat (any_goals (first | assumption | with_reducible refine wpAny_loadPart_at hC ?_ | with_reducible refine wpAny_onRaise ?_ | with_reducible refine wpAny_map ?_ | wp_step))
end
section
variable {prog : Program} {w : World} {A : Around} {E : Value → Shared → Prop} {R : Result → Shared → Prop} {h : Heap} {g : Array GenState} {d : Drawn} {t : Nat} {os : OsState}
variable {nm q : Str} {C N : Addr} {bs bm bmB : List Value} {hdct : Bool} {sn : List Str} {sub : List Value} {ab : Bool} {col : Option Bool} {dd : Option Addr} {k0 k1 k2 k3 k5 : Option Value} {B newId initId : String}
theorem new_ownK (F : ExcBaseFacts B newId initId bmB) (hT : ∀ X : String, bm.contains (.type X) = bmB.contains (.type X)) {rest : List Value} {kw : List (Str × Value)}
    (hC : h.get? C = some (excClassObj nm q C N bs bm hdct sn sub ab col dd k0 k1 k2 k3 k5 newId))
    (hq : R (.ok (.ret (.ref (h.objs.size + 1)))) ⟨(h.push { cls := .type "tuple", data := .seq rest.toArray }).push
      { cls := .ref C, data := .fields #[.ref h.objs.size, .none, .none, .none, .bool false, .none] }, g, d, t, os⟩) (hrest : rest.length ≤ sizeLine) :
    codeAny (model prog w) A (.builtin newId ⟨.ref C :: rest, kw⟩) R ⟨h, g, d, t, os⟩ := by
  have hends := F.ends
  have hcB : (Value.ref C :: bm).contains (.type B) = true := by rw [List.contains_cons, hT, F.hasB, Bool.or_true]
  have hcA : (Value.ref C :: bm).contains (.type "AttributeError") = false := by rw [List.contains_cons, hT, F.noAttr]; rfl
  have hcN : (Value.ref C :: bm).contains (.type "NameError") = false := by rw [List.contains_cons, hT, F.noName]; rfl
  refine codeAny_builtinAt F.entry ?_
  unfold Builtin.«BaseException.__new__»
  refine wpAt_bind ?_
  show wpAt _ _ _ (stack >>= _) _ _ _
  refine wpAt_bind (wpAt_stack fun p below => wpAt_of_wpAny ?_)
  wp_walk
  refine wpAt_of_wpAny ?_
  rw [F.owner]
  repeat (first | with_reducible refine wpAny_madeHere_exc F.canon hC ?_ | with_reducible refine wpAny_loadPart_at hC ?_ | (with_reducible refine wpAny_isSubtype_exc hC ?_; first | rw [hcB] | rw [hcA] | rw [hcN]) | wp_step)
  show R _ _
  rw [Heap.size_push]
  exact hq
theorem type_call_ownK (F : ExcBaseFacts B newId initId bmB) (hT : ∀ X : String, bm.contains (.type X) = bmB.contains (.type X)) {rest : List Value} {kw : List (Str × Value)} {fI : Addr} {Q : Fin → Shared → Prop}
    (hC : h.get? C = some (excClassObj nm q C N bs bm hdct sn sub ab col dd k0 k1 k2 k3 k5 newId))
    (hi : W.Looks (model prog w) h (typeLookup (.ref C) "__init__") (some (.ref fI))) (hb : ∀ self, W.Looks (model prog w) h (bindSpecial (.ref fI) self) (.ref fI, [self])) (hrest : rest.length ≤ sizeLine)
    (hq : codeAny (model prog w) A (.call (.ref fI) ⟨.ref (h.objs.size + 1) :: rest, kw⟩)
      (fun r s' => match r with | .ok (.ret v) => v = .none ∧ Q (.done (.ret (.ref (h.objs.size + 1)))) s' | .ok _ => False | .error e => E e s')
      ⟨(h.push (W.kdv_tup rest)).push (excO C h.objs.size), g, d, t, os⟩) :
    wpAny (model prog w) A (Builtin.«type.__call__» ⟨.ref C :: rest, kw⟩) Q E ⟨h, g, d, t, os⟩ := by
  repeat (first | with_reducible refine wpAny_loadPart_at hC ?_ | with_reducible refine wpAny_madeBy_exc hC ?_ | wp_step)
  refine codeAny_call_builtin_code (Code.quiet_builtin _ F.quiet) (check_new_ownK F hT hC ?_)
  refine new_ownK F hT hC ?_ hrest
  show wpAny _ _ _ _ _ _
  have k : ∀ b o, h.get? b = some o → ((h.push (W.kdv_tup rest)).push (excO C h.objs.size)).get? b = some o := fun b o e => Heap.get?_push_of_some _ (Heap.get?_push_of_some _ e)
  have hC₁ := k _ _ hC
  have hget : ((h.push (W.kdv_tup rest)).push (excO C h.objs.size)).get? (h.objs.size + 1) = some (excO C h.objs.size) := by heap_get
  have hcC : (Value.ref C :: bm).contains (.ref C) = true := by simp
  have i1 := hi.keeps k
  have b1 := (hb (.ref (h.objs.size + 1))).keeps k
  unfold isInstance
  repeat (first | with_reducible refine wpAny_loadPart_at hget ?_ | (with_reducible refine wpAny_isSubtype_exc hC₁ ?_; rw [hcC]) | wp_step)
  show wpAny _ _ (typeLookup (.ref C) _) _ _ _
  refine i1.at ?_
  refine wpAny_holding (wpAny_bind (b1.at ?_))
  refine wpAny_bind (wpAny_call (codeAny_mono hq fun r s' z => ?_))
  rcases r with e | (v | _ | _ | _) <;> first | exact z | exact z.elim | skip
  obtain ⟨rfl, z⟩ := z
  first
    | exact wpAny_pure (wpAny_pure z)
    | (wp_walk; exact z)
theorem call_ownK (F : ExcBaseFacts B newId initId bmB) (hT : ∀ X : String, bm.contains (.type X) = bmB.contains (.type X)) {rest : List Value} {kw : List (Str × Value)} {fI : Addr}
    (hC : h.get? C = some (excClassObj nm q C N bs bm hdct sn sub ab col dd k0 k1 k2 k3 k5 newId))
    (hi : W.Looks (model prog w) h (typeLookup (.ref C) "__init__") (some (.ref fI))) (hb : ∀ self, W.Looks (model prog w) h (bindSpecial (.ref fI) self) (.ref fI, [self])) (hrest : rest.length ≤ sizeLine)
    (hq : codeAny (model prog w) (A.under (.builtin "type.__call__" ⟨.ref C :: rest, kw⟩)) (.call (.ref fI) ⟨.ref (h.objs.size + 1) :: rest, kw⟩) (W.InitBack (h.objs.size + 1) R)
      ⟨(h.push (W.kdv_tup rest)).push (excO C h.objs.size), g, d, t, os⟩) :
    codeAny (model prog w) A (.call (.ref C) ⟨rest, kw⟩) R ⟨h, g, d, t, os⟩ := by
  have f1 := tc_lookup
  have f2 := tc_bind (.ref C)
  have hTy : (⟨h, g, d, t, os⟩ : Shared).TypeIs (.ref C) "type" := ⟨_, hC, rfl⟩
  refine codeAny_of_tree ?_
  show wpAny _ _ (callAny (.ref C) _) _ _ _
  repeat (any_goals (first | assumption | with_reducible refine wpAny_loadPart_at hC ?_ | wp_step))
  refine ⟨rfl, ?_⟩
  refine codeAny_call_builtin_at (Code.quiet_builtin _ (by decide +kernel)) entry_typeCall (check_callK hC (type_call_ownK F hT hC hi hb hrest ?_))
  refine codeAny_mono hq fun r s' z => ?_
  rcases r with e | (v | _ | _ | _) <;> exact z
end
end HandSPK
end PySem

set_option Elab.async false
set_option linter.all false
set_option maxRecDepth 100000
set_option maxHeartbeats 4000000
/-! Layer G16: exceptions as values, told over the abstract heap. -/
namespace PySem.W
open PySem PySem.Spec PySem.Calls PyProof.Rows
section
variable {prog : Program} {w : World} {A : Around} {E : Value → Shared → Prop} {s : Shared} {K : Frag} {x D : Addr} {ox : Obj} {od : Option Obj}
theorem findObj_dataV {C : Addr} {name : Str} {a g : Value} (hc : (clsIn K C).isSome = true) (ha : findIn K (.ref C) name = some (some a)) (hg : specialIn K a "__get__" = some (some g)) (ht : takesIn K a = some true) : findObj K C od name = some (.bind g a) := by
  obtain ⟨cd, hc⟩ := Option.isSome_iff_exists.mp hc
  unfold findObj
  rw [hc, Option.bind_some, ha, Option.bind_some]
  simp [hg, ht]
theorem kin_classV {Q : Option Value → Shared → Prop} (hga : findIn K (.ref D) "__getattribute__" = some (some (.builtin "BaseException.__getattribute__"))) (hgt : findIn K (.ref D) "__getattr__" = some none) (hsub : subIn K (.ref D) (.type "BaseException") = some true)
    (hdct : hasDictIn K D = true) (ha : findIn K (.ref D) "__class__" = some (some (.builtin "object.__class__")))
    (hn : specialIn K (.builtin "object.__class__") "__get__" = some (some (.builtin "getset_descriptor.__get__"))) (htk : takesIn K (.builtin "object.__class__") = some true) (hm : mroIn K D (.type "object") = some true)
    (X : K.In s.heap) (I : InstAt s.heap x ox D od) (h : Q (some (.ref D)) { s with toks := s.toks + 1 }) : wpAny (model prog w) A (getAttr? (.ref x) "__class__") Q E s := by
  have hf : findObj K D od "__class__" = some (.bind (.builtin "getset_descriptor.__get__") (.builtin "object.__class__")) := findObj_dataV (by obtain ⟨cd, hc, _⟩ := any_some hdct; rw [hc]; rfl) ha hn htk
  obtain ⟨hp, g, d, t, os⟩ := s
  have L0 := I.type (M := model prog w)
  have L1 := looks_findIn (M := model prog w) X hga
  have L2 := looks_findIn (M := model prog w) X hgt
  have L3 := looks_find (M := model prog w) X I hf
  have sub : Looks (model prog w) hp (isInstance (.ref x) (.type "BaseException")) true := L0.andThen (looks_subIn X hsub)
  have hx0 : (false && onTheHeap (Value.builtin "BaseException.__getattribute__")) = false := rfl
  have hx2 : (Value.builtin "BaseException.__getattribute__" == Value.builtin "object.__getattribute__") = false := by decide +kernel
  have hx1 : (onTheHeap (Value.ref D) && Value.builtin "BaseException.__getattribute__" == Value.builtin "object.__getattribute__") = false := by rw [hx2]; rfl
  unfold getAttr? getAttrBy? getAttrBy
  refine wpAny_bind (wpAny_mkText (wpAny_bind (wpAny_attempt (wpAny_holding (wpAny_bind (L0.at (wpAny_bind (L1.at ?_))))))))
  show wpAny _ _ (if (onTheHeap (Value.ref D) && Value.builtin "BaseException.__getattribute__" == Value.builtin "object.__getattribute__") = true then _ else _) _ _ _
  rw [hx1, if_neg Bool.false_ne_true]
  unfold getAttrByItsOwn hookBefore
  refine wpAny_bind ?_
  rw [if_pos (show onTheHeap (Value.ref D) = true from rfl)]
  refine L2.at ?_
  refine wpAny_bind (wpAny_attempt (wpAny_holding ?_))
  unfold callGetattribute
  rw [hx0, if_neg Bool.false_ne_true]
  unfold boundAndCalled
  rw [PySem.F.excAttr_ValueError.ga.bind (.ref x)]
  refine wpAny_bind (wpAny_pure ?_)
  show wpAny _ _ (call (.builtin "BaseException.__getattribute__") [.ref x, .str "__class__" t]) _ _ _
  refine wpAny_call (codeAny_call_builtin PySem.F.excAttr_ValueError.ga.plain PySem.F.entry_bexc_ga ?_)
  refine @check_slot (model prog w) _ _ ⟨hp, g, d, t + 1, os⟩ "BaseException.__getattribute__" "BaseException" "__getattribute__" (.ref x) [.str "__class__" t] [] _ (by decide +kernel) (by decide +kernel) sub (PySem.F.args_bexc_ga (.ref x) (.str "__class__" t)) ?_
  unfold Builtin.«object.__getattribute__»
  refine wpAny_bind (wpAny_of_eq (a := ((Value.ref x : Value), [Value.str "__class__" t])) (by first | rfl | (simp only [slotArgs]; rfl)) ?_)
  refine wpAny_bind (wpAny_pure (wpAny_bind (L0.at (wpAny_bind (L3.at ?_)))))
  show wpAny _ _ (holding [Value.builtin "object.__class__"] (call (.builtin "getset_descriptor.__get__") [.builtin "object.__class__", .ref x, .ref D]) >>= ret) _ _ _
  refine wpAny_bind (wpAny_holding (wpAny_call (class_get (s := ⟨hp, g, d, t + 1, os⟩) (ox := ox) (od := od) X I hm ?_)))
  refine wpAny_pure ?_
  show wpAny _ _ (handedOut (.ref D)) _ _ _
  rw [handedOut_of (v := .ref D) rfl]
  first
    | exact wpAny_pure (wpAny_pure h)
    | exact wpAny_pure h
    | exact wpAny_pure (wpAny_bind (wpAny_pure (wpAny_pure h)))
theorem kitx_excV (hga : findIn K (.ref D) "__getattribute__" = some (some (.builtin "BaseException.__getattribute__"))) (hgt : findIn K (.ref D) "__getattr__" = some none) (hsub : subIn K (.ref D) (.type "BaseException") = some true) (hdct : hasDictIn K D = true) (ha : findIn K (.ref D) "__class__" = some (some (.builtin "object.__class__")))
    (hn : specialIn K (.builtin "object.__class__") "__get__" = some (some (.builtin "getset_descriptor.__get__"))) (htk : takesIn K (.builtin "object.__class__") = some true) (hm : mroIn K D (.type "object") = some true) :
    KitX K (.ref x) (.ref D) (fun h => InstAt h x ox D od) where
  ty := fun _ _ _ I => I.type
  it := fun _ _ X _ => by
    obtain ⟨cdD, hcD, _⟩ := any_some hdct
    unfold clsIn at hcD
    split at hcD
    · rename_i c' d' cd' sl' ho
      intro A' Q' E' s' k q
      unfold isType loadHead
      exact wpAny_bind (wpAny_loadPart (k _ _ (X _ _ ho)) (wpAny_pure q))
    · cases hcD
  ne := fun h tp dd its n sl X htp => by
    obtain ⟨cdD, hcD, _⟩ := any_some hdct
    refine Bool.eq_false_iff.mpr fun q => ?_
    have e : D = tp := Value.ref.inj (beq_iff_eq.mp q)
    subst e
    unfold clsIn at hcD
    split at hcD
    · rename_i c' d' cd' sl' ho
      have z := (X _ _ ho).symm.trans htp
      cases z
    · cases hcD
  ca := fun X I k => kin_classV hga hgt hsub hdct ha hn htk hm X I k
end
end PySem.W
namespace Gs
open PySem PySem.Spec PyProof.Rows L2
/-- at a: an exception of the class cls that was caught, its dict d -/
def exv (a : Addr) (cls : Value) (d : Option Addr) : HO := .ext fun h => ∃ ob, h.get? a = some ob ∧ Zc cls d ob ∧ ∃ vs, ob.data = .fields vs
theorem exv_ok {P : Program} {w : World} {H : Hp} {h : Heap} {a : Addr} {cls : Value} {d : Option Addr} {ob : Obj} (e : h.get? a = some ob) (z : Zc cls d ob) (f : ∃ vs, ob.data = .fields vs) : ObjOk P w H h a (exv a cls d) :=
  ⟨⟨ob, e, z, f⟩, ⟨_, e⟩, fun h1 h2 y k => by obtain ⟨o, q, r⟩ := y; exact ⟨o, k _ q, r⟩⟩
/-- an exception of the class at C, its dict: made or caught -/
def ExA (H : Hp) (a C : Addr) (d : Option Addr) : Prop := H a = some (exv a (.ref C) d) ∨ H a = some (exo a C d)
def ExD (H : Hp) (dd : Addr) (fs : List (Str × V)) : Prop := H dd = some (.xd fs) ∨ H dd = some (exd dd fs)
/-- an exception with its fields, or without any -/
def ExI (H : Hp) (a C : Addr) (fs : Option (List (Str × V))) : Prop := match fs with
  | none => ExA H a C none
  | some l => ∃ dd, ExA H a C (some dd) ∧ ExD H dd l
theorem ExA.same {H H' : Hp} {a C : Addr} {d : Option Addr} (h : ExA H a C d) (e : Same H H') : ExA H' a C d := h.elim (fun z => .inl (e _ _ z)) fun z => .inr (e _ _ z)
theorem ExD.same {H H' : Hp} {a : Addr} {d : List (Str × V)} (h : ExD H a d) (e : Same H H') : ExD H' a d := h.elim (fun z => .inl (e _ _ z)) fun z => .inr (e _ _ z)
theorem ExI.same {H H' : Hp} {a C : Addr} {fs : Option (List (Str × V))} (h : ExI H a C fs) (e : Same H H') : ExI H' a C fs := by
  cases fs with
  | none => exact ExA.same h e
  | some l => obtain ⟨dd, x, y⟩ := h; exact ⟨dd, x.same e, y.same e⟩
/-- two heaps that agree on what is no list, no tuple, no dict, no instance: exceptions stay -/
def SameX (H H' : Hp) : Prop := ∀ b (φ : Heap → Prop), H b = some (.ext φ) → H' b = some (.ext φ)
def SameD (H H' : Hp) : Prop := ∀ b fs, H b = some (.xd fs) → H' b = some (.xd fs)
theorem ExI.ext {H H' : Hp} {a C : Addr} {fs : Option (List (Str × V))} (h : ExI H a C fs) (e : SameX H H') (e2 : SameD H H') : ExI H' a C fs := by
  have x : ∀ {d}, ExA H a C d → ExA H' a C d := fun z => z.elim (fun z => .inl (e _ _ z)) fun z => .inr (e _ _ z)
  cases fs with
  | none => exact x h
  | some l =>
    obtain ⟨dd, y, z⟩ := h
    exact ⟨dd, x y, z.elim (fun z => .inl (e2 _ _ z)) fun z => .inr (e _ _ z)⟩
section
variable {X : Cx} {pins : List (Addr × Obj)} {σ : L2.St} {H : Hp} {s : Shared}
theorem ExA.at_ {a C : Addr} {d : Option Addr} (I : Inv X pins σ H s) (h : ExA H a C d) : ∃ ob, s.heap.get? a = some ob ∧ Zc (.ref C) d ob ∧ ∃ vs, ob.data = .fields vs := by
  rcases h with h | h
  · have x : ObjOk X.prog X.w H s.heap a (exv a (.ref C) d) := I.hok _ _ h
    exact x.1
  · obtain ⟨t1, e⟩ := exo_at I.hok h
    exact ⟨_, e, ⟨rfl, rfl⟩, _, rfl⟩
theorem ExD.at_ {dd : Addr} {fs : List (Str × V)} (I : Inv X pins σ H s) (h : ExD H dd fs) : ∃ mA, s.heap.Ns1 dd mA ∧ ∀ f, RelO (fs.lookup f) (mA f) := by
  rcases h with h | h
  · have x : ObjOk X.prog X.w H s.heap dd (.xd fs) := I.hok _ _ h
    exact x
  · exact exd_at I.hok h
theorem ExI.inst {a C : Addr} {fs : Option (List (Str × V))} (I : Inv X pins σ H s) (h : ExI H a C fs) : ∃ ob od, PySem.W.InstAt s.heap a ob C od := by
  cases fs with
  | none =>
    obtain ⟨ob, e, ⟨z1, z2⟩, vs, hd⟩ := ExA.at_ I h
    exact ⟨ob, none, e, z1, by unfold PySem.W.notCls; rw [hd] <;> rfl, by rw [z2] <;> trivial⟩
  | some l =>
    obtain ⟨dd, h1, h2⟩ := h
    obtain ⟨ob, e, ⟨z1, z2⟩, vs, hd⟩ := h1.at_ I
    obtain ⟨mA, hns, _⟩ := h2.at_ I
    obtain ⟨od, ho, _⟩ := lookIn_ns hns
    exact ⟨ob, some od, e, z1, by unfold PySem.W.notCls; rw [hd] <;> rfl, by rw [z2]; exact ho⟩
/-- e.f -/
def tFv (K : PySem.W.Frag) (f : Str) (te : TE) : TE := fun σ H Q => te σ H fun x H1 => ∃ (a C : Addr) (fs : List (Str × V)) (v : V), x = .ref a ∧ XfC K C ∧ PySem.W.findIn K (.ref C) f = some none ∧ ExI H1 a C (some fs) ∧ fs.lookup f = some v ∧ Q v H1
theorem pe_fv {e : Expr} {te : TE} {pos : Pos} {n : Str} (he : PE X e te) (hb : attributeBase e n X.env (eval e X.env) = eval e X.env := by rfl) : PE X (.Attribute e n pos) (tFv X.K n te) := by
  refine ⟨fun pins s σ H Q I h => ?_⟩
  refine attr_of hb (thn (he.run pins s σ H _ I h) fun u s1 hh => ?_)
  obtain ⟨x, H1, I1, rx, a, C, fs, v, ex, T, hno, ⟨dd, h1, h2⟩, l, q⟩ := hh
  subst ex
  obtain rfl : u = Value.ref a := rx
  obtain ⟨ob, e, ⟨z1, z2⟩, vs, hd⟩ := h1.at_ I1
  obtain ⟨mA, hns, hr⟩ := h2.at_ I1
  obtain ⟨od, ho, hl⟩ := lookIn_ns hns
  obtain ⟨u, hu, ru⟩ := RelO.some_of (v := v) (o := mA n) (by rw [← l]; exact hr n)
  have J : PySem.W.InstAt s1.heap a ob C (some od) := ⟨e, z1, by unfold PySem.W.notCls; rw [hd] <;> rfl, by rw [z2]; exact ho⟩
  exact HandSPX.exc_get I1.kIn J T.ga T.gg T.exC (PySem.W.findObj_own T.hdC hno rfl (by rw [hl, hu])) (handed_of ru) ⟨v, H1, I1.tok _, ru, q⟩
/-- isinstance(e, c) -/
def rIsV (K : PySem.W.Frag) : List V → Hp → VK → Prop := fun xs H Q => ∃ (a C : Addr) (fs : Option (List (Str × V))) (c : V) (u : Value) (b : Bool), xs = [.ref a, c] ∧ ExI H a C fs ∧ ExcC K C ∧ ClsV c u ∧ PySem.W.kitOne K (.ref C) u = some b ∧ Q (.bl b) H
theorem call_isV : CallR X (.builtin "isinstance") (rIsV X.K) := by
  intro pins s σ H xs us Q I r h
  obtain ⟨a, C, fs, c, u, b, rfl, hi, Z, k, e, q⟩ := h
  obtain ⟨u1, u2, rfl, r1, r2⟩ := vals2 r
  cases (show u1 = Value.ref a from r1)
  have e2 := k.eq r2
  subst e2
  obtain ⟨ob, od, J⟩ := hi.inst I
  exact PySem.W.kia_one (PySem.W.kitx_excV Z.hg Z.hk Z.hs Z.hd Z.ha Z.hn Z.ht Z.hm) I.kIn J e (fun z => nomatch z) fun tk => ⟨.bl b, H, I.tok tk, rfl, q⟩
/-- isinstance(e, (c, ..)) -/
def rIsVT (K : PySem.W.Frag) : List V → Hp → VK → Prop := fun xs H Q => ∃ (a C : Addr) (fs : Option (List (Str × V))) (tp : Addr) (cs : List V) (us : List Value) (b : Bool), xs = [.ref a, .ref tp] ∧ ExI H a C fs ∧ ExcC K C ∧ H tp = some (.tup cs) ∧ Paired ClsV cs us ∧
  PySem.W.kitAny K (.ref C) us = some b ∧ Q (.bl b) H
theorem call_isVT : CallR X (.builtin "isinstance") (rIsVT X.K) := by
  intro pins s σ H xs us Q I r h
  obtain ⟨a, C, fs, tp, cs, ws, b, rfl, hi, Z, hT, k, e, q⟩ := h
  obtain ⟨u1, u2, rfl, r1, r2⟩ := vals2 r
  cases (show u1 = Value.ref a from r1)
  cases (show u2 = Value.ref tp from r2)
  obtain ⟨ob, od, J⟩ := hi.inst I
  obtain ⟨_, its, rv, o, h1, h2, n, h3⟩ := (show ObjOk X.prog X.w H s.heap tp (.tup cs) from I.hok tp _ hT)
  have e3 := ClsV.all k rv
  subst e3
  obtain ⟨oc, od', dt, sl⟩ := o
  simp only at h2 h3
  subst h2 h3
  exact PySem.W.kia_tup (PySem.W.kitx_excV Z.hg Z.hk Z.hs Z.hd Z.ha Z.hn Z.ht Z.hm) I.kIn J h1 e (fun z => nomatch z) fun tk => ⟨.bl b, H, I.tok tk, rfl, q⟩
end
/-! ### C(e, ..), C(k = v, ..) as a value -/
def tMkV (C : Addr) (sp : Sp) (ta : TA) : TE := fun σ H Q => ta σ H fun vs H1 => vs.length ≤ 1000 ∧ ∀ a, H1 a = none → sp (.ref a :: vs) (upd H1 a (exo a C none)) (fun v H2 => v = .non ∧ Q (.ref a) H2) (fun _ _ _ => False)
def tMkVK (C : Addr) (sp : Sp) (gV : List V → List V → List V) (m : Nat) (tk : TA) : TE := fun σ H Q => tk σ H fun zs H1 => zs.length = m ∧ ∀ a, H1 a = none → sp (gV [.ref a] zs) (upd H1 a (exo a C none)) (fun v H2 => v = .non ∧ Q (.ref a) H2) (fun _ _ _ => False)
section
variable {X : Cx} {CX : CXT} {x : Str} {C fI : Addr} {k : Nat} {fd : FuncData} {ps ks : List Str} {sp : Sp} {p pos : Pos} {e : Expr} {es : List Expr} {kws : List Keyword} {t tk : TA} {g : List Value → List Value → List Value} {gV : List V → List V → List V}
theorem run_exv {pins : List (Addr × Obj)} {σ : L2.St} {H : Hp} {s : Shared} {Q : VK} {us : List Value} {kw : List (Str × Value)} {all : Addr → List V} {alls : Value → List Value} (T : OexC X.K C) (iC : PySem.W.findIn X.K (.ref C) "__init__" = some (some (.ref fI))) (tI : PySem.W.typeIn X.K (.ref fI) = some (.type "function"))
    (F1 : FnOk X.prog X.w X.K X.mg X.base CX k fI fd ps sp) (hr : Room (k + 1) X.A) (hx : Passes CX X (fun _ _ _ => False)) (I : Inv X pins σ H s) (hus : us.length ≤ sizeLine)
    (hb : ∀ (s : Shared) (a : Addr), X.K.In s.heap → BindsTo s fd ⟨.ref a :: us, kw⟩ (ps.zip (alls (.ref a)))) (hv : ∀ a, Vals (all a) (alls (.ref a)))
    (h : ∀ a, H a = none → sp (all a) (upd H a (exo a C none)) (fun v H2 => v = .non ∧ Q (.ref a) H2) (fun _ _ _ => False)) :
    wpAny (model X.prog X.w) X.A (call (.ref C) us kw) (EP X pins σ Q) X.xe s := by
  obtain ⟨nm, q, N, bs, bm, sn, sub, ab, col, dd, k0, k1, k2, k3, k5, hC, hbm⟩ := T.cls
  obtain ⟨hp, gg, dr, tk, os⟩ := s
  have hsz : hp.objs.size ≤ hp.objs.size + 1 := Nat.le_succ _
  have hn : H (hp.objs.size + 1) = none := I.hok.fresh hsz
  have hq := h (hp.objs.size + 1) hn
  have kk : ∀ b o, hp.get? b = some o → ((hp.push (PySem.W.kdv_tup us)).push (PySem.HandSPX.excO C hp.objs.size)).get? b = some o := fun b o e => Heap.get?_push_of_some _ (Heap.get?_push_of_some _ e)
  have hget : ((hp.push (PySem.W.kdv_tup us)).push (PySem.HandSPX.excO C hp.objs.size)).get? (hp.objs.size + 1) = some (PySem.HandSPX.excO C hp.objs.size) := by heap_get
  have I2 : Inv X pins σ (upd H (hp.objs.size + 1) (exo (hp.objs.size + 1) C none)) ⟨(hp.push (PySem.W.kdv_tup us)).push (PySem.HandSPX.excO C hp.objs.size), gg, dr, tk, os⟩ :=
    I.laid (t' := tk) (a := hp.objs.size + 1) (o := exo (hp.objs.size + 1) C none) (h' := (hp.push (PySem.W.kdv_tup us)).push (PySem.HandSPX.excO C hp.objs.size)) kk hsz (exo_ok hget)
  refine wpAny_call (PySem.HandSPK.call_ownK F.excBase_ValueError (fun Y => PySem.HandSPX.refsVE_contains Y bm hbm) (I.kIn _ _ hC) (PySem.W.looks_findIn I.kIn iC) (fun self => PySem.W.bind_fn I.kIn self tI) hus
    (codeAny_mono (F1.run _ X.stack _ _ ⟨Value.ref (hp.objs.size + 1) :: us, kw⟩ (alls (.ref (hp.objs.size + 1))) _ _ (fun _ _ _ => False) (hr.make C us kw) (I2.env0.make C us kw) (hb _ _ I2.kIn) (hv _) hq) fun r s' hq' => ?_))
  cases r with
  | error er => exact hx pins σ _ _ er s' I2 hq'
  | ok fl =>
    cases fl with
    | ret u =>
      obtain ⟨v, H', I3, rv, ev, q3⟩ := I2.after hq'
      subst ev
      exact ⟨rv, ⟨V.ref (hp.objs.size + 1), H', I3, rfl, q3⟩⟩
    | next => exact False.elim hq'
    | brk => exact False.elim hq'
    | cont => exact False.elim hq'
theorem pe_exv (T : OexC X.K C) (iC : PySem.W.findIn X.K (.ref C) "__init__" = some (some (.ref fI))) (tI : PySem.W.typeIn X.K (.ref fI) = some (.type "function"))
    (F1 : FnOk X.prog X.w X.K X.mg X.base CX k fI fd ps sp) (hr : Room (k + 1) X.A) (hb : Binds X.K fd ps []) (hx : Passes CX X (fun _ _ _ => False)) (hg : Gl X x) (hm : X.mg x = some (.ref C)) (ha : PA X (e :: es) t)
    (hdb : (x == ("__debug__" : Str)) = false := by decide) (he : starEach (e :: es) X.env = (false, eval e X.env) :: starEach es X.env := by rfl) (hpl : (backTo pos (starEach es X.env)).any (·.1) = false := by rfl) :
    PE X (.Call (.Name x p) (e :: es) [] pos) (tMkV C sp t) := by
  refine ⟨fun pins s σ H Q I h => ?_⟩
  refine wpAny_Call_Name_kw (ld_glob I hg hm ?_ hdb)
  refine PySem.W.callWith_K (h₀ := X.base) I.ok.mod.kin T.kC (thn (ha.run pos pins s σ H _ I h) fun us s1 ⟨vs, H1, I1, r1, hz, q1⟩ => ⟨I1.kIn, ?_⟩) he hpl
  have hus : us.length ≤ sizeLine := by
    rw [← Paired.length r1, sizeLine_eq]
    omega
  have hl : (us.length + 1) = ps.length := by
    have z := F1.len _ _ _ _ (q1 _ (I1.hok.fresh (Nat.le_refl s1.heap.objs.size)))
    rw [← z, List.length_cons, r1.length]
  refine run_exv (kw := []) (all := fun a => .ref a :: vs) (alls := fun a => a :: us) T iC tI F1 hr hx I1 hus (fun s a kin => ?_) (fun a => .cons rfl r1) q1
  have b := hb s (.ref a :: us) kin (by rw [List.append_nil]; exact hl)
  rw [List.append_nil] at b
  exact b
theorem pe_exv0 (T : OexC X.K C) (iC : PySem.W.findIn X.K (.ref C) "__init__" = some (some (.ref fI))) (tI : PySem.W.typeIn X.K (.ref fI) = some (.type "function"))
    (F1 : FnOk X.prog X.w X.K X.mg X.base CX k fI fd ps sp) (hr : Room (k + 1) X.A) (hb : Binds X.K fd ps []) (hx : Passes CX X (fun _ _ _ => False)) (hg : Gl X x) (hm : X.mg x = some (.ref C))
    (hdb : (x == ("__debug__" : Str)) = false := by decide) : PE X (.Call (.Name x p) [] [] pos) (tMkV C sp tNil) := by
  refine ⟨fun pins s σ H Q I h => ?_⟩
  refine wpAny_Call_Name_kw (ld_glob I hg hm ?_ hdb)
  have h : ([] : List V).length ≤ 1000 ∧ ∀ a, H a = none → sp (.ref a :: []) (upd H a (exo a C none)) (fun v H2 => v = .non ∧ Q (.ref a) H2) (fun _ _ _ => False) := h
  refine PySem.W.callWith_K0 I.kIn T.kC ?_
  have hl : 1 = ps.length := (F1.len _ _ _ _ (h.2 _ (I.hok.fresh (Nat.le_refl s.heap.objs.size)))).symm ▸ rfl
  refine run_exv (kw := []) (us := []) (all := fun a => [.ref a]) (alls := fun a => [a]) T iC tI F1 hr hx I (Nat.zero_le _) (fun s a kin => ?_) (fun a => .cons rfl .nil) h.2
  have b := hb s [.ref a] kin (by rw [List.append_nil]; exact hl)
  rw [List.append_nil] at b
  exact b
theorem pe_exvK (T : OexC X.K C) (iC : PySem.W.findIn X.K (.ref C) "__init__" = some (some (.ref fI))) (tI : PySem.W.typeIn X.K (.ref fI) = some (.type "function"))
    (F1 : FnOk X.prog X.w X.K X.mg X.base CX k fI fd ps sp) (hr : Room (k + 1) X.A) (hb : KB X.K fd ps ks 1 g gV) (hx : Passes CX X (fun _ _ _ => False)) (hg : Gl X x) (hm : X.mg x = some (.ref C)) (hkw : PK X kws tk)
    (hall : (backToKw pos (keywordEach kws X.env)).all (·.1.isSome) = true := by rfl)
    (hks : (backToKw pos (keywordEach kws X.env)).filterMap (·.1) = ks := by rfl) (hdb : (x == ("__debug__" : Str)) = false := by decide)
    (hpl : ((backTo pos (starEach [] X.env)).any (·.1) || (backToKw pos (keywordEach kws X.env)).any (·.1.isNone)) = false := by rfl) :
    PE X (.Call (.Name x p) [] kws pos) (tMkVK C sp gV ks.length tk) := by
  refine ⟨fun pins s σ H Q I h => ?_⟩
  refine wpAny_Call_Name_kw (ld_glob I hg hm ?_ hdb)
  refine PySem.W.callWith_KW0 (h₀ := X.base) I.ok.mod.kin T.kC hall ?_ hpl
  refine thn (hkw.run pos pins s σ H _ I h) fun ws s2 ⟨zs, H2, I2, rz, l1, l2⟩ => ⟨I2.kIn, ?_⟩
  rw [hks]
  exact run_exv (us := []) (kw := ks.zip ws) (all := fun a => gV [.ref a] zs) (alls := fun a => g [a] ws) T iC tI F1 hr hx I2 (Nat.zero_le _) (fun s a kin => hb.to s [.ref a] ws kin rfl (rz.length.symm.trans l1)) (fun a => hb.rel (vs := [.ref a]) rfl l1 (.cons rfl .nil) rz) l2
end
end Gs

set_option Elab.async false
set_option linter.all false
set_option maxRecDepth 100000
set_option maxHeartbeats 4000000
/-! Layer G17: an exception that is caught and kept; an own class's __init__ that is ValueError's. -/
namespace Gs
open PySem PySem.Spec PyProof.Rows L2
section
variable {X : Cx} {pins : List (Addr × Obj)} {σ : L2.St} {H : Hp} {s : Shared} {D : Ends}
theorem ext_own {φ : Heap → Prop} {x : Addr} : HO.ext φ ≠ .own x := fun z => nomatch z
/-- what was pinned is tracked from now on -/
theorem inv_track {a : Addr} {ob : Obj} {u : HO} (I : Inv X ((a, ob) :: pins) σ H s) (hx : X.ex = []) (hn : X.s_0.heap.get? a = none) (hp : ∀ p ∈ X.pn ++ pins, p.1 ≠ a) (ok : ObjOk X.prog X.w (upd H a u) s.heap a u) : Inv X pins σ (upd H a u) s := by
  obtain ⟨q1, q2, q3, q4, q5⟩ := I.pin (a, ob) (List.mem_append_right _ List.mem_cons_self)
  have q1 : s.heap.get? a = some ob := q1
  have q2 : H a = none := q2
  have q3 : a ≠ X.env.locals := q3
  have q5 : ∀ v, ob.data ≠ .cell v := q5
  refine ⟨I.ok, I.os, I.bare, ?_, I.loc, I.cell, ?_, fun x c e => ?_, fun p hm => ?_, fun b o e => ?_, I.len⟩
  · refine ⟨I.base.keep, I.base.slot, fun b o e n hb => ?_, I.base.there, fun b xs e => ?_, fun b o v e => ?_, fun b ps e => ?_⟩
    · have nb : b ≠ a := fun z => by rw [z, hn] at e; cases e
      rw [upd_ne nb]; exact I.base.free b o e n hb
    · have z := I.base.tups b xs e
      rw [upd_ne (ne_of_none z q2)]; exact z
    · have z := I.base.frzs b o v e
      rw [upd_ne (ne_of_none z q2)]; exact z
    · obtain ⟨m, z⟩ := I.base.tbls b ps e
      exact ⟨m, by rw [upd_ne (ne_of_none z q2)]; exact z⟩
  · rw [upd_ne (Ne.symm q3)]; exact I.free
  · have nc : c ≠ a := fun z => by
      obtain ⟨v, hv⟩ := I.cell x c e
      obtain ⟨o, e1, e2⟩ := hv
      rw [z, q1] at e1; cases e1
      exact q5 _ e2
    rw [upd_ne nc]; exact I.freeC x c e
  · have hm' : p ∈ X.pn ++ (a, ob) :: pins := (List.mem_append.mp hm).elim (fun z => List.mem_append_left _ z) fun z => List.mem_append_right _ (List.mem_cons_of_mem _ z)
    obtain ⟨r1, r2, r3, r4, r5⟩ := I.pin p hm'
    exact ⟨r1, by rw [upd_ne (hp p hm)]; exact r2, r3, r4, r5⟩
  · by_cases hb : b = a
    · subst hb
      rw [upd_same] at e; cases e
      exact ok
    · rw [upd_ne hb] at e
      exact (I.hok b o e).stay (fun c v _ r => r) (fun c r => by rw [upd_ne (ne_of_none r q2)]; exact r) fun c xs r => by rw [upd_ne (ne_of_none r q2)]; exact r
/-- what the clause wishes: n slots, i that of the name -/
def oneK (n : Nat) (K : PySem.W.Frag) (c : Value) (i : Nat) (ts : Addr → Value → Option Addr → TS) : Catch := fun D W cls d σ H => ∃ b, PySem.W.exmOne K cls c = some b ∧
  (b = true → σ.length = n → ∀ a, H a = none → ts a cls d { nx := fun σ' H' => D.nx (σ'.set i none) (upd H' a (exv a cls d)), rt := fun v H' => D.rt v (upd H' a (exv a cls d)), bk := fun σ' H' => D.bk (σ'.set i none) (upd H' a (exv a cls d)), ct := fun σ' H' => D.ct (σ'.set i none) (upd H' a (exv a cls d)) } (σ.set i (some (.ref a))) H) ∧ (b = false → W cls d σ H)
/-- try: body, except .. as ..: .., the exception kept -/
theorem ps_tryK {body : List Stmt} {pos : Pos} {tb : WX → TS} {W₀ : WX} {x n : Str} {i : Nat} {c : Value} {ts : Addr → Value → Option Addr → TS} {b₀ : Stmt} {su : List Stmt} {q q' : Pos} (hs : X.stack = X.env :: X.outer) (hf : X.env.frame = some X.env.locals) (hex : X.ex = []) (tk : Takes X W₀)
    (hb : ∀ (W : WX) (pn : List (Addr × Obj)) (xe : Value → Shared → Prop), Takes (X.tr pn xe) W → PassesOwn (model X.prog X.w) X.A X.env xe → PSs (X.tr pn xe) body (tb W))
    (nc : Names X x c) (hN : X.N.Nodup) (hi : X.N[i]? = some n) (ln : X.env.kindOf n = some .local)
    (hsu : ∀ (a : Addr) (ob : Obj) (cls : Value) (d : Option Addr) (pn : List (Addr × Obj)), Zc cls d ob → (∃ vs, ob.data = .fields vs) → PSs (X.suite a ((a, ob) :: pn)) (b₀ :: su) (ts a cls d)) :
    PS X (.Try body [.ExceptHandler (some (.Name x q)) (some n) (b₀ :: su) q'] [] [] pos) (fun D σ H => tb (oneK X.N.length X.K c i ts D W₀) D σ H) := by
  refine ⟨fun pins s σ H D I h => ?_⟩
  have ok := I.ok
  have frm : X.A.frames = some (X.env :: X.outer) := by rw [ok.frames, hs]
  refine wpAny_Try_except (wpAny_mono ((hb (oneK X.N.length X.K c i ts D W₀) (X.pn ++ pins) (fun e s₁ => wpAny (model X.prog X.w) X.A (noteFrame e X.env) (fun _ s₂ => wpAny (model X.prog X.w) X.A (setFlight e none)
    (fun _ s₃ => wpAny (model X.prog X.w) X.A (handleBy e X.env [.ExceptHandler (some (.Name x q)) (some n) (b₀ :: su) q']) (SP X pins D) X.xe s₃) X.xe s₂) X.xe s₁) (fun u s₁ caught => ?_) PassesOwn.looking).run [] s σ H D (I.toTry _) h) (fun f s₁ hsp => ?_) (fun _ _ z => z))
  rotate_left
  · cases f with
    | next => obtain ⟨σ', H', J, z⟩ := hsp; exact wpAny_execs_nil ⟨σ', H', J.ofTry ok, z⟩
    | brk => obtain ⟨σ', H', J, z⟩ := hsp; exact ⟨σ', H', J.ofTry ok, z⟩
    | cont => obtain ⟨σ', H', J, z⟩ := hsp; exact ⟨σ', H', J.ofTry ok, z⟩
    | ret u => obtain ⟨v, σ', H', J, rv, z⟩ := hsp; exact ⟨v, σ', H', J.ofTry ok, rv, z⟩
  obtain ⟨a, B, sI, pins', σ', H', cls, d, rfl, J', nb, up, sky, na, os, ag, wish⟩ := caught
  have J : Inv X pins σ' H' sI := J'.ofTry ok
  have sky : Sky B (X.env :: X.outer) a (Zc cls d) X.env.locals s₁.heap := by rw [← hs]; exact sky
  show wpAny (model X.prog X.w) X.A (noteFrame (.ref a) X.env) _ _ _
  refine Sky.land Zc.steady frm hf sky fun h₃ fl up₃ => ?_
  have up₃ := up.trans up₃
  obtain ⟨ob, vs, hob, hz, hd⟩ := fl.there
  have apart : ∀ {g : Heap} {o : Obj} {us : Array Value}, g.FunFrames B (X.env :: X.outer) → g.get? a = some o → o.data = .fields us → a ∉ frs (X.env :: X.outer) := by
    intro g o us ff e de hm
    obtain ⟨_, o', e', no⟩ := ff.mem hm
    rw [e] at e'
    cases e'
    exact no _ de
  have nfr := apart fl.2.2.1 hob hd
  have nL : a ≠ X.env.locals := fun z => nfr (List.mem_filterMap.mpr ⟨X.env, List.mem_cons_self, by rw [hf, z]⟩)
  have nF : a ∉ X.fs := fun hm => by
    obtain ⟨e, he, z⟩ := List.mem_filterMap.mp hm
    exact nfr (List.mem_filterMap.mpr ⟨e, List.mem_cons_of_mem _ he, z⟩)
  -- the exception is new
  have nI : sI.heap.get? a = none := by
    cases e : sI.heap.get? a with
    | none => rfl
    | some o =>
      have z := nb a o e (by rw [hs]; exact nfr)
      rw [fl.2.1] at z; cases z
  have n0 : X.s_0.heap.get? a = none := by
    cases e : X.s_0.heap.get? a with
    | none => rfl
    | some o =>
      obtain ⟨o', z⟩ := J.base.there a o e (by rw [hex]; exact List.not_mem_nil)
      rw [nI] at z; cases z
  have np : ∀ p ∈ X.pn ++ pins, p.1 ≠ a := fun p hp z => by
    have y := (J.pin p hp).1
    rw [z, nI] at y; cases y
  have J₃ : Inv X pins σ' H' { s₁ with heap := h₃ } := J.landed nb fl.1 up₃ os ag
  have S₃ := J₃.suite hob hd na nL nF
  have looks : PySem.W.Looks (model X.prog X.w) h₃ (typeOf (.ref a)) cls := fun A Q E s k z => wpAny_typeOf_ref (k _ _ hob) (by rw [hz.1]; exact z)
  -- the class that a clause names
  have named : ∀ {x : Str} {c : Value} {q : Pos} {Q : Value → Shared → Prop} {E : Value → Shared → Prop}, Names X x c → Q c { s₁ with heap := h₃ } →
      wpAny (model X.prog X.w) (X.A.mark (some (.ref a))) (eval (.Name x q) X.env) Q E { s₁ with heap := h₃ } := by
    intro x c q Q E nc hq
    obtain ⟨hg, dbg, m | ⟨m, boot, nn⟩⟩ := nc
    · exact ld_glob (X := X.suite a ((a, ob) :: (X.pn ++ pins))) S₃ hg m hq dbg
    · exact ld_blt (X := X.suite a ((a, ob) :: (X.pn ++ pins))) S₃ hg m boot hq nn dbg
  obtain ⟨b, hb1, yes, no⟩ := wish
  refine wpAny_handleBy_cons (codeAny_handlers_test ?_) (by intro z; cases z)
  refine named nc ((PySem.W.exm_one (M := model X.prog X.w) J₃.kIn looks hb1).here ?_)
  cases b with
  | false =>
    have wish := no rfl
    refine wpAny_handleBy_nil ?_
    obtain ⟨_, _, _, oe, us, T, oT, ts', he, _, hde, h1, _⟩ := id fl
    unfold PySem.passOn
    refine wpAny_bind (wpAny_field he hde h1 ?_)
    rw [if_neg (by simp)]
    have fin : wpAny (model X.prog X.w) X.A (setFlight (.ref a) X.env.frame) (fun _ s₄ => wpAny (model X.prog X.w) X.A (throw (.ref a) : Sem Flow) (SP X pins D) X.xe s₄) X.xe { s₁ with heap := h₃ } := by
      rw [hf]
      refine HandSPX.setFlight_upZ fl fun h₄ sk up₄ => wpAny_throw (tk _ _ ?_)
      exact ⟨a, B, sI, pins, σ', H', cls, d, rfl, J, nb, up₃.trans up₄, .inr (.inr (by rw [hs]; exact sk)), na, os, ag, wish⟩
    first
      | exact wpAny_bind (wpAny_pure (wpAny_bind fin))
      | exact wpAny_bind fin
  | true =>
    refine codeAny_handlers_suite_as ?_
    refine HandSPX.lands_againZ fl fun h₄ fl₄ up₄ => ?_
    obtain ⟨ob4, us4, e4, z4, d4⟩ := fl₄.there
    have J₄ : Inv X pins σ' H' { s₁ with heap := h₄ } := J.landed nb fl₄.1 (up₃.trans up₄) os ag
    have S₄ := J₄.suite e4 d4 na nL nF
    -- behind the suite: pinned, the name gone, then tracked
    have gone : ∀ {σ6 : L2.St} {H6 : Hp} {s6 : Shared} {Q : Shared → Prop}, Inv (X.suite a ((a, ob4) :: (X.pn ++ pins))) [] σ6 H6 s6 → (∀ s7, Inv X pins (σ6.set i none) (upd H6 a (exv a cls d)) s7 → Q s7) →
        wpAny (model X.prog X.w) X.A (do bindName X.env n .none; unbindBehindTheSuite X.env n q') (fun _ s7 => Q s7) X.xe s6 := by
      intro σ6 H6 s6 Q S6 hq
      have P6 : Inv X ((a, ob4) :: pins) σ6 H6 s6 := (S6.unsuite ok).pins_of fun p hp => by
        rcases List.mem_cons.mp hp with e | e
        · subst e
          exact S6.pin (a, ob4) (List.mem_append_left _ List.mem_cons_self)
        · exact (S6.unsuite ok).pin p (List.mem_append_right _ e)
      refine gone_ok P6 hN hi ln fun s7 J7 => hq s7 (inv_track J7 hex n0 np ?_)
      have e7 := (J7.pin (a, ob4) (List.mem_append_right _ List.mem_cons_self)).1
      exact exv_ok e7 z4 ⟨_, d4⟩
    refine store_ok (X := X.suite a ((a, ob4) :: (X.pn ++ pins))) (v := .ref a) S₄ hN hi (.inl ln) rfl (fun s5 S5 => ?_) (.inr ln)
    refine wpAny_mono ((hsu a ob4 cls d (X.pn ++ pins) z4 ⟨_, d4⟩).run [] s5 _ H' _ S5 (yes rfl J.len a na)) (fun f s6 hsp => ?_) (fun _ _ z => z.elim)
    cases f with
    | next => obtain ⟨σ6, H6, S6, z⟩ := hsp; exact gone S6 fun s7 J7 => ⟨_, _, J7, z⟩
    | brk => obtain ⟨σ6, H6, S6, z⟩ := hsp; exact gone S6 fun s7 J7 => ⟨_, _, J7, z⟩
    | cont => obtain ⟨σ6, H6, S6, z⟩ := hsp; exact gone S6 fun s7 J7 => ⟨_, _, J7, z⟩
    | ret u => obtain ⟨v, σ6, H6, S6, rv, z⟩ := hsp; exact gone S6 fun s7 J7 => ⟨_, _, _, J7, rv, z⟩
end
/-! ### B.__init__(self, ..), B an own class whose __init__ is ValueError's -/
structure BInit (K : PySem.W.Frag) (C : Addr) : Prop where
  rd : PySem.W.readsIn K C (.type "type") = true
  ga : PySem.W.specialIn K (.ref C) "__getattribute__" = some (some (.builtin "type.__getattribute__"))
  at_ : PySem.W.findCls K (.ref C) (.type "type") "__init__" = some (.val (.builtin "ValueError.__init__"))
theorem pe_finit {X : Cx} {x : Str} {C : Addr} {e : Expr} {es : List Expr} {ta : TA} {p1 p2 pos : Pos} {pl : Sem Bool} (hg : Gl X x) (hm : X.mg x = some (.ref C)) (Z : BInit X.K C) (ha : PA X (e :: es) ta) (hdb : (x == ("__debug__" : Str)) = false := by decide)
    (hc : eval (.Call (.Attribute (.Name x p1) "__init__" p2) (e :: es) [] pos) X.env = (do
      let ov ← eval (.Name x p1) X.env
      standAt p2.atName
      let (f, first) ← holding [ov] (getMethod ov "__init__" pl)
      callWith pos f first (backTo pos (starEach (e :: es) X.env)) (backToKw pos (keywordEach [] X.env))) := by rfl)
    (he : starEach (e :: es) X.env = (false, eval e X.env) :: starEach es X.env := by rfl) (hpl : (backTo pos (starEach es X.env)).any (·.1) = false := by rfl) :
    PE X (.Call (.Attribute (.Name x p1) "__init__" p2) (e :: es) [] pos) (tVeI X.K ta) := by
  refine ⟨fun pins s σ H Q I h => ?_⟩
  refine PySem.W.methodCall_KW (ld_glob I hg hm ?_ hdb) hc
  refine PySem.W.method_cls I.kIn Z.ga (PySem.W.cls_value I.kIn Z.rd Z.at_ rfl ?_)
  show wpAny _ _ (callWith pos (Value.builtin "ValueError.__init__") [] (backTo pos (starEach (e :: es) X.env)) []) _ _ _
  refine PyProof.Rows.callWith_method1 (thn (ha.run pos pins _ σ H _ (I.tok _) h) fun us s1 ⟨vs, H1, I1, r1, a, C, ws, ev, hl, T, ea, q⟩ => ?_) he hpl
  subst ev
  cases r1 with
  | @cons _ u0 _ ur ra rw' =>
    obtain rfl : u0 = Value.ref a := ra
    have hlen : ur.length ≤ sizeLine := by
      rw [← Paired.length rw', sizeLine_eq]
      omega
    exact oinit_ok T I1 ea hlen fun s' J => ⟨.non, H1, J, rfl, q⟩
end Gs

set_option Elab.async false
set_option linter.all false
set_option maxRecDepth 100000
set_option maxHeartbeats 4000000
/-! Layer G38: o.__class__.__name__ of an own instance; C.__init__(self, .., *rest) of an own class. -/
namespace PySem.W
open Lean Elab Tactic Meta PySem PySem.Calls PyProof.Rows Builtin Builtin.ObjectAttr Builtin.Getset_descriptor
section
variable {prog : Program} {w : World} {A : Around} {E : Value → Shared → Prop} {s : Shared} {K : Frag} {R : Result → Shared → Prop} {C : Addr}
/-- the name of the class at C stands in its third slot -/
def nameIn (K : Frag) (C : Addr) (nm : Str) : Bool := match K.lookup C with
  | some ⟨.type "type", _, .cls _, sl⟩ => (match sl.toList with
    | _ :: _ :: some (.str x _) :: _ => x == nm
    | _ => false)
  | _ => false
theorem nameIn_of {nm : Str} (e : nameIn K C nm = true) : ∃ d cd sl t, K.lookup C = some ⟨.type "type", d, .cls cd, sl⟩ ∧ sl[2]? = some (some (.str nm t)) := by
  unfold nameIn at e
  split at e
  · rename_i d cd sl hl
    split at e
    · rename_i o1 o2 x t rest hs
      obtain rfl : x = nm := beq_iff_eq.mp e
      exact ⟨d, cd, sl, t, hl, by rw [← Array.getElem?_toList, hs]; rfl⟩
    · cases e
  · cases e
theorem kcn_get {tp : Value} {nm : Str} {t : Tok} {d : Option Addr} {cd : ClassData} {sl : Array (Option Value)} (X : K.In s.heap) (hC : K.lookup C = some ⟨.type "type", d, .cls cd, sl⟩) (hs : sl[2]? = some (some (.str nm t)))
    (h : R (.ok (.ret (.str nm t))) s) : codeAny (model prog w) A (.call (.builtin "getset_descriptor.__get__") ⟨[.builtin "type.__name__", .ref C, tp], []⟩) R s := by
  have ho := X _ _ hC
  obtain ⟨hh, g, dr, tk, os⟩ := s
  have L0 : Looks (model prog w) hh (typeOf (.ref C)) (.type "type") := looks_typeIn X (by show (K.lookup C).map (·.cls) = _; rw [hC]; rfl)
  have L1 : Looks (model prog w) hh (isSubtype (.type "type") (.type "type")) true := Looks.of_pure (by rw [isSubtype_type]; kernel_rfl)
  refine codeAny_call_builtin KF.slot_gs.plain KF.entry_gs (KF.slot_gs.check _ _ _ _ _ _ _ _ ktyn_type (KF.args_gs _ _ _) ?_)
  unfold Builtin.«getset_descriptor.__get__» descrGet
  rw [dga_obj]
  refine wpAny_bind (wpAny_pure ?_)
  unfold descrGetter descrCheckInstance descrNameAndClass isInstance
  simp only [ktyn_owner]
  repeat lk
  refine ⟨Code.quiet_builtin _ (by decide +kernel), codeAny_builtin ktyn_entry ?_⟩
  unfold Builtin.«type.__name__»
  dsimp only
  unfold keptObject slotAt
  dsimp only
  refine wpAny_bind (wpAny_bind (wpAny_loadPart ho (wpAny_pure ?_)))
  dsimp only
  rw [hs]
  exact wpAny_pure h
theorem kbo_call {x : Addr} {Q : Value → Shared → Prop} (h : wpAny (model prog w) A.in1.in1 (truthy (.ref x)) (fun b s' => Q (.bool b) s') E s) : wpAny (model prog w) A (call (.type "bool") [.ref x]) Q E s := by
  refine callType_codes (T := "bool") (Bi := Builtin.«object.__init__») (Q₁ := fun r s₁ => ∃ b, r = .bool b ∧ Q r s₁) PySem.F.called_bool (PySem.F.typeCall_bool_1 _) PySem.F.entry_object_init ?_ ?_
  · refine codeAny_of_tree ?_
    show wpAny _ A.in1.in1 (do checkBuiltinCall "bool.__new__" ⟨[.type "bool", .ref x], []⟩; again (.builtin "bool.__new__" ⟨[.type "bool", .ref x], []⟩)) _ _ s
    refine wpAny_bind (wpAny_of_eq (PySem.F.newCall_bool_1 _) (wpAny_pure ⟨plainId_quiet (by decide +kernel) _, codeAny_builtin PySem.F.entry_bool_new ?_⟩))
    rw [Around.under_plainId (by decide +kernel) _]
    have f1 := PySem.F.conv_sub_bool
    unfold Builtin.«bool.__new__»
    refine wpAny_bind (m := truthy (.ref x)) (wpAny_mono h (fun b s₁ hq => wpAny_pure ?_) fun _ _ y => y)
    exact ⟨_, rfl, hq⟩
  · rintro obj s₁ ⟨b, rfl, hq⟩
    have hT : s₁.TypeIs (.bool b) "bool" := rfl
    exact ⟨hT, PySem.F.args_object_init_2 _ _, object_init_meets PySem.F.called_bool.init.lookup PySem.F.called_bool.made PySem.F.newNe_bool prog w A.in1 _ s₁ ⟨hT, rfl, hq⟩⟩
end
end PySem.W
namespace Gs
open PySem PySem.Spec PyProof.Rows L2
/-- what a class must have that o.__class__.__name__ of its instances is nm -/
structure CName (K : PySem.W.Frag) (C : Addr) (nm : Str) : Prop where
  nm : PySem.W.nameIn K C nm = true
  pg : PySem.W.plainGet K C "__class__" = true
  hd : PySem.W.hasDictIn K C = true
  at_ : PySem.W.findIn K (.ref C) "__class__" = some (some (.builtin "object.__class__"))
  sp : PySem.W.specialIn K (.builtin "object.__class__") "__get__" = some (some (.builtin "getset_descriptor.__get__"))
  tk : PySem.W.takesIn K (.builtin "object.__class__") = some true
  mo : PySem.W.mroIn K C (.type "object") = some true
  rd : PySem.W.readsIn K C (.type "type") = true
  fc : PySem.W.findCls K (.ref C) (.type "type") "__name__" = some (.get (.builtin "getset_descriptor.__get__") (.builtin "type.__name__") (.ref C) (.type "type"))
/-- o.__class__.__name__ -/
def tClsName (K : PySem.W.Frag) (ta : TE) : TE := fun σ H Q => ta σ H fun v H1 => ∃ (a C dx : Addr) (fs : List (Str × V)) (nm : Str), v = .ref a ∧ H1 a = some (.ins C dx fs) ∧ CName K C nm ∧ Q (.str nm) H1
theorem pe_clsName {X : Cx} {e : Expr} {te : TE} {p1 p2 : Pos} (he : PE X e te) (hb1 : attributeBase e "__class__" X.env (eval e X.env) = eval e X.env := by rfl)
    (hb2 : attributeBase (.Attribute e "__class__" p1) "__name__" X.env (eval (.Attribute e "__class__" p1) X.env) = eval (.Attribute e "__class__" p1) X.env := by rfl) :
    PE X (.Attribute (.Attribute e "__class__" p1) "__name__" p2) (tClsName X.K te) := by
  refine ⟨fun pins s σ H Q I h => ?_⟩
  refine attr_of hb2 (attr_of hb1 (thn (he.run pins s σ H _ I h) fun u s1 ⟨x, H1, I1, rx, a, C, dx, fs, nm, ex, ea, N, q⟩ => ?_))
  subst ex
  obtain rfl : u = Value.ref a := rx
  obtain ⟨_, J0, _⟩ := ins_get I1.hok ea
  obtain ⟨od, J, _⟩ := J0.look
  obtain ⟨_, hF⟩ := I1.fr
  obtain ⟨d, cd, sl, t, hC, hs⟩ := PySem.W.nameIn_of N.nm
  refine PySem.W.get_class hF I1.ok.mod.kin J N.pg N.hd N.at_ N.sp N.tk N.mo ?_
  refine PySem.W.cls_bind (s := { s1 with toks := s1.toks + 1 }) I1.kIn N.rd N.fc ?_
  refine wpAny_call (PySem.W.kcn_get (s := { s1 with toks := s1.toks + 1 + 1 }) I1.kIn hC hs (PySem.W.handed_on rfl ?_))
  exact ⟨.str nm, H1, (I1.tok _), ⟨_, rfl⟩, q⟩

/-- C.__init__ is the def at f -/
structure FInit (K : PySem.W.Frag) (C f : Addr) : Prop where
  rd : PySem.W.readsIn K C (.type "type") = true
  ga : PySem.W.specialIn K (.ref C) "__getattribute__" = some (some (.builtin "type.__getattribute__"))
  at_ : PySem.W.findCls K (.ref C) (.type "type") "__init__" = some (.val (.ref f))
  kp : PySem.W.keepIn K (.ref f) = true
section
variable {X : Cx} {CX : CXT} {x : Str} {C f : Addr} {k : Nat} {sp : Sp} {E : XK} {e : Expr} {es : List Expr} {ta : TA} {p1 p2 pos : Pos} {pl : Sem Bool}
/-- C.__init__(e, ..) -/
theorem pe_cinit (hg : Gl X x) (hm : X.mg x = some (.ref C)) (Z : FInit X.K C f) (F : FnR X.prog X.w X.K X.mg X.base CX k f sp) (hr : Room k X.A) (hx : Passes CX X E) (ha : PA X (e :: es) ta) (hdb : (x == ("__debug__" : Str)) = false := by decide)
    (hc : eval (.Call (.Attribute (.Name x p1) "__init__" p2) (e :: es) [] pos) X.env = (do
      let ov ← eval (.Name x p1) X.env
      standAt p2.atName
      let (f, first) ← holding [ov] (getMethod ov "__init__" pl)
      callWith pos f first (backTo pos (starEach (e :: es) X.env)) (backToKw pos (keywordEach [] X.env))) := by rfl)
    (he : starEach (e :: es) X.env = (false, eval e X.env) :: starEach es X.env := by rfl) (hpl : (backTo pos (starEach es X.env)).any (·.1) = false := by rfl) :
    PE X (.Call (.Attribute (.Name x p1) "__init__" p2) (e :: es) [] pos) (fun σ H Q => ta σ H fun vs H1 => sp vs H1 Q E) := by
  refine ⟨fun pins s σ H Q I h => ?_⟩
  refine PySem.W.methodCall_KW (ld_glob I hg hm ?_ hdb) hc
  refine PySem.W.method_cls I.kIn Z.ga (PySem.W.cls_value I.kIn Z.rd Z.at_ rfl ?_)
  refine PySem.W.callWith_K (h₀ := X.base) I.ok.mod.kin Z.kp (thn (ha.run pos pins _ σ H _ (I.tok _) h) fun us s1 ⟨vs, H1, I1, r1, q⟩ => ⟨I1.kIn, ?_⟩) he hpl
  exact wpAny_call (run_fnR F hr hx I1 r1 q)
theorem starcall_of {M : Model} {A : Around} {E : Value → Shared → Prop} {s : Shared} {env : Env} {o : Expr} {es : List Expr} {m : Str} {apos pos : Pos} {Q : Value → Shared → Prop} (hbase : attributeBase o m env (eval o env) = eval o env)
    (hform : methodCallForm (es.length + ([] : List Keyword).length) (backTo pos (starEach es env)) [] = false)
    (h : wpAny M A (eval o env) (fun ov s₁ => wpAny M A (getAttr ov m true) (fun f s₂ => wpAny M A (callWith pos f [] (backTo pos (starEach es env)) []) Q E s₂) E s₁) E s) :
    wpAny M A (eval (.Call (.Attribute o m apos) es [] pos) env) Q E s := by
  have hke : backToKw pos (keywordEach [] env) = [] := rfl
  have hpos : methodCallPos false o env apos pos = pure pos := rfl
  have hcal : ∀ ov, calleeOf false o env ov m = (getAttr ov m true >>= fun v => pure (v, [])) := fun _ => rfl
  rw [arm_eval_Call, hbase, hke]
  refine wpAny_bind (wpAny_mono h (fun ov s₁ h₁ => ?_) fun _ _ x => x)
  refine wpAny_bind (wpAny_standAt ?_)
  unfold methodCall
  rw [hform, hpos, hcal]
  refine wpAny_bind (wpAny_holding (wpAny_bind (wpAny_mono h₁ (fun f s₂ h₂ => wpAny_pure ?_) fun _ _ x => x)))
  exact wpAny_bind (wpAny_pure h₂)
/-- C.__init__(e, .., *y) -/
theorem pe_cinitS (hg : Gl X x) (hm : X.mg x = some (.ref C)) (Z : FInit X.K C f) (F : FnR X.prog X.w X.K X.mg X.base CX k f sp) (hr : Room k X.A) (hx : Passes CX X E) (ha : PA X (e :: es) ta) (hdb : (x == ("__debug__" : Str)) = false := by decide)
    (hb : attributeBase (.Name x p1) "__init__" X.env (eval (.Name x p1) X.env) = eval (.Name x p1) X.env := by rfl)
    (hform : methodCallForm ((e :: es).length + ([] : List Keyword).length) (backTo pos (starEach (e :: es) X.env)) [] = false := by rfl)
    (he : starEach (e :: es) X.env = (false, eval e X.env) :: starEach es X.env := by rfl) (hst : (backTo pos (starEach es X.env)).any (·.1) = true := by rfl) :
    PE X (.Call (.Attribute (.Name x p1) "__init__" p2) (e :: es) [] pos) (fun σ H Q => ta σ H fun vs H1 => sp vs H1 Q E) := by
  refine ⟨fun pins s σ H Q I h => ?_⟩
  refine starcall_of hb hform (ld_glob I hg hm ?_ hdb)
  refine PySem.W.cls_value I.kIn Z.rd Z.at_ rfl ?_
  refine PySem.W.callWith_S2 (h₀ := X.base) I.ok.mod.kin Z.kp (thn (ha.run pos pins _ σ H _ (I.tok _) h) fun us s1 ⟨vs, H1, I1, r1, q⟩ => ⟨I1.kIn, ?_⟩) he hst
  exact wpAny_call (run_fnR F hr hx I1 r1 q)
end

/-! ### truth by an own __bool__ -/
structure OwnB (K : PySem.W.Frag) (C f : Addr) : Prop where
  at_ : PySem.W.findIn K (.ref C) "__bool__" = some (some (.ref f))
  fn : PySem.W.isFn K (.ref f) = true
section
variable {X : Cx} {CX : CXT} {k : Nat} {f C : Addr} {fd : FuncData} {ps : List Str} {sp : Sp} {E : XK}
theorem truthy_own {A : Around} {pins : List (Addr × Obj)} {σ : L2.St} {H : Hp} {s : Shared} {a dx : Addr} {fs : List (Str × V)} {Q : Bool → Hp → Prop} (O : OwnB X.K C f) (F : FnOk X.prog X.w X.K X.mg X.base CX k f fd ps sp) (hr : Room k A) (hA : A.frames = X.A.frames)
    (hb : Binds X.K fd ps []) (hx : Passes CX X E) (I : Inv X pins σ H s) (ha : H a = some (.ins C dx fs))
    (h : sp [.ref a] H (fun v H' => ∃ b, v = .bl b ∧ Q b H') E) : wpAny (model X.prog X.w) A (truthy (.ref a)) (TP X pins σ Q) X.xe s := by
  obtain ⟨_, J0, _⟩ := ins_get I.hok ha
  obtain ⟨_, J, _⟩ := J0.look
  obtain ⟨_, hF⟩ := I.fr
  refine PySem.W.truthy_K hF I.ok.mod.kin J O.at_ O.fn ?_
  refine wpAny_mono (run_sub (A := A) F hr hA hb hx I (.cons (rel_ref a) .nil) h) (fun z s' hz => ?_) fun _ _ e => e
  obtain ⟨v', H', I', rv, b, rfl, qq⟩ := hz
  cases rv
  exact ⟨H', I', qq⟩
/-- an own instance's truth, the class and its def told -/
def rTruO (C : Addr) (sp : Sp) (E : XK) : V → Hp → (Bool → Hp → Prop) → Prop := fun x H Q => ∃ (a dx : Addr) (fs : List (Str × V)), x = .ref a ∧ H a = some (.ins C dx fs) ∧ sp [.ref a] H (fun v H' => ∃ b, v = .bl b ∧ Q b H') E
theorem tru_own (O : OwnB X.K C f) (F : FnOk X.prog X.w X.K X.mg X.base CX k f fd ps sp) (hr : Room k X.A) (hb : Binds X.K fd ps []) (hx : Passes CX X E) : TruR X (rTruO C sp E) := by
  intro pins s σ H x v Q I rx h
  obtain ⟨a, dx, fs, rfl, ha, q⟩ := h
  cases rx
  exact truthy_own O F hr rfl hb hx I ha q
/-- bool(o) -/
def rBoolO (C : Addr) (sp : Sp) (E : XK) : List V → Hp → VK → Prop := fun xs H Q => ∃ (a dx : Addr) (fs : List (Str × V)), xs = [.ref a] ∧ H a = some (.ins C dx fs) ∧ sp [.ref a] H (fun v H' => ∃ b, v = .bl b ∧ Q (.bl b) H') E
theorem call_boolO (O : OwnB X.K C f) (F : FnOk X.prog X.w X.K X.mg X.base CX k f fd ps sp) (hr : Room (k + 2) X.A) (hb : Binds X.K fd ps []) (hx : Passes CX X E) : CallR X (.type "bool") (rBoolO C sp E) := by
  intro pins s σ H xs us Q I r h
  obtain ⟨a, dx, fs, rfl, ha, q⟩ := h
  obtain ⟨u, rfl, ru⟩ := r.one
  cases (show u = Value.ref a from ru)
  refine PySem.W.kbo_call ?_
  refine wpAny_mono (truthy_own (Q := fun b H' => Q (.bl b) H') O F hr.in1.in1 rfl hb hx I ha q) (fun b s' hz => ?_) fun _ _ e => e
  obtain ⟨H', I', qq⟩ := hz
  exact ⟨.bl b, H', I', rfl, qq⟩
theorem TruR.or {X : Cx} {r1 r2 : V → Hp → (Bool → Hp → Prop) → Prop} (h1 : TruR X r1) (h2 : TruR X r2) : TruR X (fun x H Q => r1 x H Q ∨ r2 x H Q) := fun pins s σ H x v Q I rx h => h.elim (h1 pins s σ H x v Q I rx) (h2 pins s σ H x v Q I rx)
end
end Gs

set_option Elab.async false
set_option linter.all false
set_option maxRecDepth 100000
set_option maxHeartbeats 4000000
/-! Layer G39: repr of an int, of a truth. What is no list and no tuple; what becomes of it (fixed). -/
namespace Gs
open PySem PySem.Spec PyProof.Rows L2
section
variable {X : Cx}
def rReprI : List V → Hp → VK → Prop := fun xs H Q => (∃ i : Int, xs = [.int i] ∧ i.natAbs.log2 < 1920 ∧ Q (.str (toString i)) H) ∨ ∃ b : Bool, xs = [.bl b] ∧ Q (.str (if b then "True" else "False")) H
theorem call_reprI : CallR X (.builtin "repr") rReprI := by
  intro pins s σ H xs us Q I r h
  rcases h with ⟨i, rfl, hz, q⟩ | ⟨b, rfl, q⟩
  · obtain ⟨u, rfl, t, rfl⟩ := vals1 r
    exact PySem.P.repr_of_int hz ⟨.str _, H, I.tok _, ⟨_, rfl⟩, q⟩
  · obtain ⟨u, rfl, r1⟩ := vals1 r
    cases r1
    exact PySem.P.repr_of_bool ⟨.str _, H, I.tok _, ⟨_, rfl⟩, q⟩
end
/-- instances may be changed, all else stays -/
def ExtX (H H' : Hp) : Prop := ∀ b o, H b = some o → H' b = some o ∨ ∃ C dx fs fs', o = .ins C dx fs ∧ H' b = some (.ins C dx fs')
theorem ExtX.of {H H' : Hp} (s : Same H H') : ExtX H H' := fun b o h => .inl (s b o h)
theorem ExtX.refl {H : Hp} : ExtX H H := .of (Same.refl H)
theorem ExtX.trans {H H1 H2 : Hp} (a : ExtX H H1) (b : ExtX H1 H2) : ExtX H H2 := fun c o h => by
  rcases a c o h with h1 | ⟨C, dx, fs, fs', rfl, h1⟩
  · exact b c o h1
  · rcases b c _ h1 with h2 | ⟨C', dx', fs2, fs3, e, h2⟩
    · exact .inr ⟨C, dx, fs, fs', rfl, h2⟩
    · cases e; exact .inr ⟨C, dx, fs, fs3, rfl, h2⟩
theorem ExtX.put {H : Hp} {x C dx : Addr} {fs fs' : List (Str × V)} (hx : H x = some (.ins C dx fs)) : ExtX H (upd H x (.ins C dx fs')) := fun b o h => by
  by_cases e : b = x
  · subst e; rw [hx] at h; cases h; exact .inr ⟨C, dx, fs, fs', rfl, upd_same⟩
  · exact .inl (by rw [upd_ne e]; exact h)
theorem ExtX.rd {H H' : Hp} {a : Addr} {u : HO} (e : ExtX H H') (hu : ∀ C dx fs, u ≠ .ins C dx fs) (h : Rd H a u) : Rd H' a u := by
  rcases h with h | ⟨o, h⟩
  · rcases e _ _ h with h1 | ⟨C, dx, fs, _, e1, _⟩
    · exact .inl h1
    · exact absurd e1 (hu _ _ _)
  · rcases e _ _ h with h1 | ⟨C, dx, fs, _, e1, _⟩
    · exact .inr ⟨o, h1⟩
    · cases e1
theorem ExtX.sqL {K : PySem.W.Frag} {H H' : Hp} {a : Addr} {xs : List V} (e : ExtX H H') (h : SqL K H a xs) : SqL K H' a xs := h.imp (e.rd fun _ _ _ z => nomatch z) id
theorem ExtX.sqT {K : PySem.W.Frag} {H H' : Hp} {a : Addr} {xs : List V} (e : ExtX H H') (h : SqT K H a xs) : SqT K H' a xs := h.imp (e.rd fun _ _ _ z => nomatch z) id
theorem ExtX.got {H H' : Hp} {a : Addr} {o : HO} (e : ExtX H H') (hu : ∀ C dx fs, o ≠ .ins C dx fs) (h : H a = some o) : H' a = some o := by
  rcases e _ _ h with h1 | ⟨C, dx, fs, _, e1, _⟩
  · exact h1
  · exact absurd e1 (hu _ _ _)
theorem ExtX.free {H H' : Hp} {a : Addr} (e : ExtX H H') (h : H' a = none) : H a = none := by
  cases q : H a with
  | none => rfl
  | some o =>
    rcases e _ _ q with h1 | ⟨C, dx, fs, _, _, h1⟩ <;> (rw [h] at h1; cases h1)
theorem ExtX.ext {c : Addr} {H H' : Hp} {x : HO} (e : Ext c H H') (n : H c = none) : ExtX H H' := fun b o h => .inl (e b o (fun z => by rw [z, n] at h; cases h) h)
mutual
theorem DV.extX {K : PySem.W.Frag} {c : Addr} {H H' : Hp} (e : ExtX H H') : ∀ (d : PyData) (v : V), DV K c H v d → DV K c H' v d
  | .none, _, h => by cases h; exact .non
  | .bool _, _, h => by cases h; exact .bl _
  | .int _, _, h => by cases h; exact .int _
  | .str _, _, h => by cases h; exact .str _
  | .list ds, _, h => by
    cases h with
    | lst n s r => exact .lst n (e.sqL s) (DVs.extX e ds _ r)
  | .tuple ds, _, h => by
    cases h with
    | tup n s r => exact .tup n (e.sqT s) (DVs.extX e ds _ r)
  | .dict ps, _, h => by
    cases h with
    | dic n s r => exact .dic n (e.got (fun _ _ _ z => nomatch z) s) (DKs.extX e ps _ r)
    | dct n s z => exact .dct n (e.got (fun _ _ _ z => nomatch z) s) z
theorem DVs.extX {K : PySem.W.Frag} {c : Addr} {H H' : Hp} (e : ExtX H H') : ∀ (ds : List PyData) (vs : List V), DVs K c H vs ds → DVs K c H' vs ds
  | [], _, h => by cases h; exact .nil
  | d :: ds, _, h => by
    cases h with
    | cons a b => exact .cons (DV.extX e d _ a) (DVs.extX e ds _ b)
theorem DKs.extX {K : PySem.W.Frag} {c : Addr} {H H' : Hp} (e : ExtX H H') : ∀ (ps : List (PyData × PyData)) (vs : List (Key × V)), DKs K c H vs ps → DKs K c H' vs ps
  | [], _, h => by cases h; exact .nil
  | (d, f) :: ps, _, h => by
    cases h with
    | cons a b r => exact .cons (DV.extX e d _ a) (DV.extX e f _ b) (DKs.extX e ps _ r)
end

/-! ### fixed: what it makes -/
/-- what a class needs that its instances are no lists, no tuples -/
structure NSq (K : PySem.W.Frag) (C : Addr) : Prop where
  ty : TyC K C
  no : ∀ t ∈ (["list", "tuple"] : List String), PySem.W.kitOne K (.ref C) (.type t) = some false
/-- no list, no tuple -/
inductive Leaf (K : PySem.W.Frag) (H : Hp) : V → Prop
  | non : Leaf K H .non
  | bl (b : Bool) : Leaf K H (.bl b)
  | int (i : Int) : Leaf K H (.int i)
  | str (x : Str) : Leaf K H (.str x)
  | dK {a : Addr} {kvs : List (Key × V)} (h : H a = some (.dK kvs)) : Leaf K H (.ref a)
  | dT {a : Addr} {kvs : List (List Key × V)} (h : H a = some (.dT kvs)) : Leaf K H (.ref a)
  | ins {a C dx : Addr} {fs : List (Str × V)} (h : H a = some (.ins C dx fs)) (n : NSq K C) : Leaf K H (.ref a)
theorem Leaf.up {K : PySem.W.Frag} {H H' : Hp} {v : V} (e : ExtX H H') (h : Leaf K H v) : Leaf K H' v := by
  cases h with
  | non => exact .non
  | bl b => exact .bl b
  | int i => exact .int i
  | str x => exact .str x
  | dK h => exact .dK (e.got (fun _ _ _ z => nomatch z) h)
  | dT h => exact .dT (e.got (fun _ _ _ z => nomatch z) h)
  | ins h n =>
    rcases e _ _ h with h1 | ⟨C, dx, fs, fs', e1, h1⟩
    · exact .ins h1 n
    · cases e1; exact .ins h1 n
theorem Leaf.not {K : PySem.W.Frag} {H : Hp} {v : V} (h : Leaf K H v) : ∃ t, TyX K H v t ∧ PySem.W.kitAny K t [.type "list", .type "tuple"] = some false := by
  have two : ∀ T : String, kitB T "list" = some false → kitB T "tuple" = some false → PySem.W.kitAny K (.type T) [.type "list", .type "tuple"] = some false := fun T h1 h2 =>
    kitAny_cons (kit_ty h1) (fun _ => kitAny_cons (kit_ty h2) (fun _ => kitAny_nil) fun z => nomatch z) fun z => nomatch z
  cases h with
  | non => exact ⟨_, .base .non, two _ (by decide +kernel) (by decide +kernel)⟩
  | bl b => exact ⟨_, .base (.bl b), two _ (by decide +kernel) (by decide +kernel)⟩
  | int i => exact ⟨_, .base (.int i), two _ (by decide +kernel) (by decide +kernel)⟩
  | str x => exact ⟨_, .base (.str x), two _ (by decide +kernel) (by decide +kernel)⟩
  | dK h => exact ⟨_, .base (.dK h), two _ (by decide +kernel) (by decide +kernel)⟩
  | dT h => exact ⟨_, .base (.dT h), two _ (by decide +kernel) (by decide +kernel)⟩
  | ins h n => exact ⟨_, n.ty.ty h, kitAny_cons (n.no _ (by simp)) (fun _ => kitAny_cons (n.no _ (by simp)) (fun _ => kitAny_nil) fun z => nomatch z) fun z => nomatch z⟩
abbrev RV := Hp → V → Prop
/-- between two later heaps: what the first heap knew, and tuples, stay (instances may be changed) -/
def ExtZ (H0 H' H'' : Hp) : Prop := ∀ b o, H' b = some o → (H0 b ≠ none ∨ ∃ xs, o = .tup xs) → H'' b = some o ∨ ∃ C dx fs fs', o = .ins C dx fs ∧ H'' b = some (.ins C dx fs')
theorem ExtZ.of {H0 H' H'' : Hp} (e : ExtX H' H'') : ExtZ H0 H' H'' := fun b o h _ => e b o h
theorem ExtZ.put {H0 H' : Hp} {D : Addr} {xs : List V} {o : HO} (hD : H0 D = none) (h : H' D = some (.lst xs)) : ExtZ H0 H' (upd H' D o) := fun b u e k => by
  by_cases q : b = D
  · subst q
    rcases k with k | ⟨ys, rfl⟩
    · exact absurd hD k
    · rw [h] at e; cases e
  · exact .inl (by rw [upd_ne q]; exact e)
theorem ExtZ.less {H0 H1 H' H'' : Hp} (e : ExtX H0 H1) (z : ExtZ H1 H' H'') : ExtZ H0 H' H'' := fun b o h k => z b o h (k.imp (fun n m => n (e.free m)) id)
/-- v, as deep as n at most, is fixed to what R tells -/
inductive Fx (K : PySem.W.Frag) (H : Hp) : Nat → V → RV → Prop
  | leaf {n : Nat} {v : V} (h : Leaf K H v) : Fx K H n v (fun _ u => u = v)
  | node {n : Nat} {a : Addr} {xs : List V} {R : Nat → RV} (h : SqL K H a xs ∨ SqT K H a xs) (few : xs.length ≤ 1000) (hs : ∀ (i : Nat) (x : V), xs[i]? = some x → Fx K H n x (R i)) :
    Fx K H (n + 1) (.ref a) (fun H' u => ∃ (t : Addr) (ys : List V), u = .ref t ∧ H t = none ∧ H' t = some (.tup ys) ∧ ys.length = xs.length ∧ ∀ (i : Nat) (y : V), ys[i]? = some y → R i H' y)
theorem Fx.mono {K : PySem.W.Frag} {H : Hp} {n : Nat} {v : V} {R : RV} (h : Fx K H n v R) : ∀ H' H'' u, ExtZ H H' H'' → R H' u → R H'' u := by
  induction h with
  | leaf h => exact fun _ _ _ _ e => e
  | node h few hs ih =>
    rintro H' H'' u e ⟨t, ys, rfl, n0, hT, hl, hy⟩
    refine ⟨t, ys, rfl, n0, ?_, hl, fun i y hi => ?_⟩
    · rcases e _ _ hT (.inr ⟨ys, rfl⟩) with z | ⟨_, _, _, _, z, _⟩
      · exact z
      · cases z
    have hi2 : i < _ := (List.getElem?_eq_some_iff.mp hi).1
    rw [hl] at hi2
    exact ih i _ (List.getElem?_eq_getElem hi2) H' H'' y e (hy i y hi)
theorem pick_rv {xs : List V} {P : Nat → V → RV → Prop} (h : ∀ (i : Nat) (x : V), xs[i]? = some x → ∃ R, P i x R) : ∃ R1 : Nat → RV, ∀ (i : Nat) (x : V), xs[i]? = some x → P i x (R1 i) := by
  have z : ∀ i : Nat, ∃ R : RV, ∀ x, xs[i]? = some x → P i x R := fun i => by
    cases e : xs[i]? with
    | none => exact ⟨fun _ _ => True, fun x hx => nomatch hx⟩
    | some y =>
      obtain ⟨R, hR⟩ := h i y e
      exact ⟨R, fun x hx => by cases hx; exact hR⟩
  exact ⟨fun i => Classical.choose (z i), fun i x hx => Classical.choose_spec (z i) x hx⟩
/-- .. seen from a later heap -/
theorem Fx.up {K : PySem.W.Frag} {H H1 : Hp} {n : Nat} {v : V} {R : RV} (e : ExtX H H1) (h : Fx K H n v R) : ∃ R1, Fx K H1 n v R1 ∧ ∀ H' u, R1 H' u → R H' u := by
  induction h with
  | leaf h => exact ⟨_, .leaf (h.up e), fun _ _ z => z⟩
  | @node n a xs R h few hs ih =>
    have hR : ∃ R1 : Nat → RV, ∀ (i : Nat) (x : V), xs[i]? = some x → Fx K H1 n x (R1 i) ∧ ∀ H' u, R1 i H' u → R i H' u := by
      exact pick_rv ih
    obtain ⟨R1, h1⟩ := hR
    refine ⟨_, .node (R := R1) (h.imp e.sqL e.sqT) few fun i x hx => (h1 i x hx).1, ?_⟩
    rintro H' u ⟨t, ys, e1, e2, e3, hl, hy⟩
    refine ⟨t, ys, e1, e.free e2, e3, hl, fun i y hi => ?_⟩
    have hi2 : i < _ := (List.getElem?_eq_some_iff.mp hi).1
    rw [hl] at hi2
    exact (h1 i _ (List.getElem?_eq_getElem hi2)).2 _ _ (hy i y hi)
theorem Fx.deeper {K : PySem.W.Frag} {H : Hp} {m n : Nat} {v : V} {R : RV} (h : Fx K H m v R) (hm : m ≤ n) : Fx K H n v R := by
  induction h generalizing n with
  | leaf h => exact .leaf h
  | node h few hs ih =>
    obtain ⟨k, rfl⟩ : ∃ k, n = k + 1 := ⟨n - 1, by omega⟩
    exact .node h few fun i x hx => ih i x hx (by omega)
/-! what fixed does to data -/
mutual
def fixD : PyData → PyData
  | .list ds => .tuple (fixDs ds)
  | .tuple ds => .tuple (fixDs ds)
  | d => d
def fixDs : List PyData → List PyData
  | [] => []
  | d :: ds => fixD d :: fixDs ds
end
theorem fixDs_map : ∀ ds : List PyData, fixDs ds = ds.map fixD
  | [] => rfl
  | d :: ds => by rw [fixDs, fixDs_map ds]; rfl
theorem DVs.of_at {K : PySem.W.Frag} {c : Addr} {H : Hp} : ∀ {vs : List V} {ds : List PyData}, vs.length = ds.length → (∀ (i : Nat) (v : V), vs[i]? = some v → ∀ d, ds[i]? = some d → DV K c H v d) → DVs K c H vs ds
  | [], [], _, _ => .nil
  | v :: vs, d :: ds, hl, h => .cons (h 0 v rfl d rfl) (DVs.of_at (by simpa using hl) fun i x hx y hy => h (i + 1) x hx y hy)
mutual
def slimD : PyData → Bool
  | .list ds => decide (ds.length ≤ 1000) && slimDs ds
  | .tuple ds => decide (ds.length ≤ 1000) && slimDs ds
  | _ => true
def slimDs : List PyData → Bool
  | [] => true
  | d :: ds => slimD d && slimDs ds
end
mutual
def deepD : PyData → Nat
  | .list ds => deepDs ds + 1
  | .tuple ds => deepDs ds + 1
  | _ => 0
def deepDs : List PyData → Nat
  | [] => 0
  | d :: ds => max (deepD d) (deepDs ds)
end
section
variable {K : PySem.W.Frag} {c : Addr} {H : Hp}
theorem slim_at : ∀ {ds : List PyData} {i : Nat} {d : PyData}, slimDs ds = true → ds[i]? = some d → slimD d = true
  | e :: ds, 0, d, h, hi => by
    simp at hi; subst hi
    exact (Bool.and_eq_true_iff.mp (show (slimD e && slimDs ds) = true from h)).1
  | e :: ds, i + 1, d, h, hi => slim_at (Bool.and_eq_true_iff.mp (show (slimD e && slimDs ds) = true from h)).2 (by simpa using hi)
theorem deep_at : ∀ {ds : List PyData} {i : Nat} {d : PyData}, ds[i]? = some d → deepD d ≤ deepDs ds
  | e :: ds, 0, d, hi => by
    simp at hi; subst hi
    exact Nat.le_max_left _ _
  | e :: ds, i + 1, d, hi => Nat.le_trans (deep_at (ds := ds) (by simpa using hi)) (Nat.le_max_right _ _)
/-- what R tells is the data d, fixed -/
def FxD (K : PySem.W.Frag) (c : Addr) (H : Hp) (n : Nat) (v : V) (d : PyData) : Prop := ∃ R, Fx K H n v R ∧ ∀ H' u, ExtX H H' → R H' u → DV K c H' u (fixD d)
theorem fx_node {a : Addr} {vs : List V} {ds : List PyData} {m : Nat} (hc : H c ≠ none) (hq : SqL K H a vs ∨ SqT K H a vs) (few : vs.length ≤ 1000) (hl : vs.length = ds.length)
    (hs : ∀ (i : Nat) (x : V) (d : PyData), vs[i]? = some x → ds[i]? = some d → FxD K c H m x d) : ∃ R, Fx K H (m + 1) (.ref a) R ∧ ∀ H' u, ExtX H H' → R H' u → DV K c H' u (.tuple (fixDs ds)) := by
  have hR : ∃ R1 : Nat → RV, ∀ (i : Nat) (x : V), vs[i]? = some x → Fx K H m x (R1 i) ∧ ∀ d, ds[i]? = some d → ∀ H' u, ExtX H H' → R1 i H' u → DV K c H' u (fixD d) := by
    have all : ∀ (i : Nat) (x : V), vs[i]? = some x → ∃ R, Fx K H m x R ∧ ∀ d, ds[i]? = some d → ∀ H' u, ExtX H H' → R H' u → DV K c H' u (fixD d) := fun i x hx => by
      have hi := (List.getElem?_eq_some_iff.mp hx).1
      have hd : ds[i]? = some ds[i] := List.getElem?_eq_getElem (by omega)
      obtain ⟨R, f, g⟩ := hs i x _ hx hd
      exact ⟨R, f, fun d h => by rw [hd] at h; cases h; exact g⟩
    exact pick_rv all
  obtain ⟨R1, h1⟩ := hR
  refine ⟨_, .node (R := R1) hq few fun i x hx => (h1 i x hx).1, ?_⟩
  rintro H' u e ⟨t, ys, rfl, n0, hT, hl2, hy⟩
  refine .tup (fun z => hc (by rw [← z]; exact n0)) (.of hT) ?_
  rw [fixDs_map]
  refine DVs.of_at (by rw [hl2, List.length_map, hl]) fun i y hi d hdi => ?_
  rw [List.getElem?_map] at hdi
  obtain ⟨d0, h0, rfl⟩ := Option.map_eq_some_iff.mp hdi
  have hi2 := (List.getElem?_eq_some_iff.mp hi).1
  have hx : vs[i]? = some vs[i] := List.getElem?_eq_getElem (by omega)
  exact (h1 i _ hx).2 d0 h0 H' y e (hy i y hi)
mutual
theorem DV.fx (hc : H c ≠ none) : ∀ (d : PyData) (v : V) (n : Nat), DV K c H v d → slimD d = true → deepD d ≤ n → FxD K c H n v d
  | .none, _, n, h, _, _ => by cases h; exact ⟨_, .leaf .non, fun _ _ _ e => by subst e; exact .non⟩
  | .bool b, _, n, h, _, _ => by cases h; exact ⟨_, .leaf (.bl _), fun _ _ _ e => by subst e; exact .bl _⟩
  | .int i, _, n, h, _, _ => by cases h; exact ⟨_, .leaf (.int _), fun _ _ _ e => by subst e; exact .int _⟩
  | .str x, _, n, h, _, _ => by cases h; exact ⟨_, .leaf (.str _), fun _ _ _ e => by subst e; exact .str _⟩
  | .dict ps, v, n, h, _, _ => by
    have h' := h
    cases h with
    | dic nc s r => exact ⟨_, .leaf (.dK s), fun _ _ e1 e => by subst e; exact h'.extX e1 _ _⟩
    | dct nc s z => exact ⟨_, .leaf (.dT s), fun _ _ e1 e => by subst e; exact h'.extX e1 _ _⟩
  | .list ds, _, n, h, hs, hd => by
    cases h with
    | lst nc s r =>
      obtain ⟨hs1, hs2⟩ := Bool.and_eq_true_iff.mp (show (decide (ds.length ≤ 1000) && slimDs ds) = true from hs)
      have hd : deepDs ds + 1 ≤ n := hd
      obtain ⟨m, rfl⟩ : ∃ m, n = m + 1 := ⟨n - 1, by omega⟩
      exact fx_node hc (.inl s) (by rw [r.len]; exact of_decide_eq_true hs1) r.len (DVs.fx hc ds _ m r hs2 (by omega))
  | .tuple ds, _, n, h, hs, hd => by
    cases h with
    | tup nc s r =>
      obtain ⟨hs1, hs2⟩ := Bool.and_eq_true_iff.mp (show (decide (ds.length ≤ 1000) && slimDs ds) = true from hs)
      have hd : deepDs ds + 1 ≤ n := hd
      obtain ⟨m, rfl⟩ : ∃ m, n = m + 1 := ⟨n - 1, by omega⟩
      exact fx_node hc (.inr s) (by rw [r.len]; exact of_decide_eq_true hs1) r.len (DVs.fx hc ds _ m r hs2 (by omega))
theorem DVs.fx (hc : H c ≠ none) : ∀ (ds : List PyData) (vs : List V) (n : Nat), DVs K c H vs ds → slimDs ds = true → deepDs ds ≤ n →
    ∀ (i : Nat) (x : V) (d : PyData), vs[i]? = some x → ds[i]? = some d → FxD K c H n x d
  | [], _, n, h, _, _, i, x, d, hi, _ => by cases h; simp at hi
  | e :: ds, _, n, h, hs, hd, i, x, d, hi, hdi => by
    cases h with
    | cons a b =>
      obtain ⟨hs1, hs2⟩ := Bool.and_eq_true_iff.mp (show (slimD e && slimDs ds) = true from hs)
      have hd : max (deepD e) (deepDs ds) ≤ n := hd
      match i with
      | 0 =>
        simp at hi hdi; subst hi hdi
        exact DV.fx hc e _ n a hs1 (by omega)
      | i + 1 => exact DVs.fx hc ds _ n b hs2 (by omega) i x d (by simpa using hi) (by simpa using hdi)
end
end
/-! ### classes -/
theorem kit_rr {K : PySem.W.Frag} {C D : Addr} {b : Bool} (i : PySem.W.isClsIn K D = true) (t : PySem.W.typeIn K (.ref D) = some (.type "type")) (s : PySem.W.subIn K (.ref C) (.ref D) = some b) (n : (Value.ref C == Value.ref D) = false) :
    PySem.W.kitOne K (.ref C) (.ref D) = some b := by
  unfold PySem.W.kitOne
  rw [if_neg (by rw [n]; decide)]
  unfold PySem.W.kitCls
  have i' : (PySem.W.clsIn K D).isSome = true := i
  simp only [i', t, beq_self_eq_true, Bool.and_self, if_true]
  exact s
theorem kit_rt {K : PySem.W.Frag} {C : Addr} {t : String} {b : Bool} (km : PySem.W.kitMeta t = true) (s : PySem.W.subIn K (.ref C) (.type t) = some b) : PySem.W.kitOne K (.ref C) (.type t) = some b := by
  unfold PySem.W.kitOne
  rw [if_neg (by simp)]
  show (if PySem.W.kitMeta t = true then PySem.W.subIn K (.ref C) (.type t) else none) = some b
  rw [if_pos km]
  exact s
theorem nsq_of {K : PySem.W.Frag} {C : Addr} (ty : TyC K C) (l : PySem.W.subIn K (.ref C) (.type "list") = some false) (t : PySem.W.subIn K (.ref C) (.type "tuple") = some false) : NSq K C :=
  ⟨ty, fun z hz => by
    simp only [List.mem_cons, List.not_mem_nil, or_false] at hz
    rcases hz with rfl | rfl
    · exact kit_rt (by decide +kernel) l
    · exact kit_rt (by decide +kernel) t⟩
/-! ### comprehensions that keep every item -/
section
variable {J : It} {G : Hp → Prop} {xs : List V}
theorem lc_mapR (wk : Walk J xs.length G (YAt xs)) {g : TG} {tt : TT} {te : TE} {vs : List Nat} {σ : L2.St} {H1 : Hp} {D : Addr} {Qd : Hp → Prop} (R : Nat → RV) (hD : H1 D = none) (few : xs.length ≤ 1000) (hG : ∀ H', Same H1 H' → G H')
    (mono : ∀ i H' H'' u, i < xs.length → ExtZ H1 H' H'' → R i H' u → R i H'' u)
    (hs : ∀ i x H' (Kc : VK) (Ke : Hp → Prop), i < xs.length → xs[i]? = some x → Same H1 H' → (∀ y H4, Same H' H4 → R i H4 y → Kc y H4) → g x (wipe σ vs) H' fun σ2 H2 => wipe σ2 vs = wipe σ vs ∧ tt σ2 H2 fun b H3 => if b = true then te σ2 H3 Kc else Ke H3)
    (hd : ∀ ys H', Same H1 H' → H' D = some (.lst ys) → ys.length = xs.length → (∀ i y, ys[i]? = some y → R i H' y) → Qd H') :
    ∃ W : Nat → Nat → Hp → Prop, (∃ m, W 0 m (upd H1 D (.lst []))) ∧ ∀ i m H, W i m H →
      (J.stop i H ∧ Qd H) ∨ (J.go i H ∧ ∃ Nx : Hp → Prop, (∀ H', Nx H' → ∃ m', m' < m ∧ W (i + 1) m' H') ∧ ∀ x H', J.yld i H x H' → g x (wipe σ vs) H' fun σ2 H2 => wipe σ2 vs = wipe σ vs ∧ tt σ2 H2 fun b H3 =>
        if b = true then te σ2 H3 fun y H4 => ∃ acc, H4 D = some (.lst acc) ∧ acc.length < sizeLine ∧ Nx (upd H4 D (.lst (acc ++ [y]))) else Nx H3) := by
  refine lc_it wk (fun i H' => Same H1 H' ∧ ∃ ys, H' D = some (.lst ys) ∧ ys.length = i ∧ ∀ j y, ys[j]? = some y → R j H' y) ⟨same_new hD, [], upd_same, rfl, fun j y h => by simp at h⟩ (fun i H' _ h => hG H' h.1) ?_ ?_
  · rintro i x H H' hi ⟨s1, ys, hy, hl, hr⟩ ⟨rfl, hx⟩
    refine hs i x _ _ _ hi hx s1 fun y H4 s4 r4 => ?_
    refine ⟨ys, s4 _ _ hy, by rw [hl]; exact Nat.lt_of_lt_of_le (Nat.lt_of_lt_of_le hi few) (by decide), same_own (s1.trans s4) hD, _, upd_same, by rw [List.length_append, hl]; rfl, fun j z hj => ?_⟩
    have hD4 := s4 _ _ hy
    by_cases e : j < ys.length
    · rw [List.getElem?_append_left e] at hj
      exact mono j _ _ _ (by omega) (.put hD hD4) (mono j _ _ _ (by omega) (.of (ExtX.of s4)) (hr j z hj))
    · rw [List.getElem?_append_right (by omega)] at hj
      have e2 : j = i := by
        have := (List.getElem?_eq_some_iff.mp hj).1
        simp at this; omega
      subst e2
      rw [hl, Nat.sub_self] at hj
      simp at hj
      subst hj
      exact mono j _ _ _ hi (.put hD hD4) r4
  · rintro H ⟨s1, ys, hy, hl, hr⟩
    exact hd ys H s1 hy hl hr
end
end Gs

set_option Elab.async false
set_option linter.all false
set_option maxRecDepth 100000
set_option maxHeartbeats 4000000
/-! Layer G40: the ways of a statement joined behind it. -/
namespace Gs
open PySem PySem.Spec PyProof.Rows L2
theorem seq_join {s r : TS} {D : Ends} {σ : L2.St} {H : Hp} (J : L2.St → Hp → Prop) (h1 : ∀ N : L2.St → Hp → Prop, (∀ σ' H', J σ' H' → N σ' H') → s { D with nx := N } σ H) (hr : ∀ σ' H', J σ' H' → r D σ' H') : tSeq s r D σ H := h1 _ hr
theorem flat_rep {α : Type} (n : Nat) (x : α) : (List.replicate n [x]).flatten = List.replicate n x := by
  induction n with
  | zero => rfl
  | succ n ih => rw [List.replicate_succ, List.flatten_cons, ih]; rfl
theorem isFn_of {K : PySem.W.Frag} {f : Addr} (h : PySem.W.typeIn K (.ref f) = some (.type "function")) : PySem.W.isFn K (.ref f) = true := by
  unfold PySem.W.isFn; rw [h]; rfl
theorem kit_tr {K : PySem.W.Frag} {D : Addr} {t : String} {b : Bool} (i : PySem.W.isClsIn K D = true) (h : PySem.W.typeIn K (.ref D) = some (.type "type")) (s : PySem.W.subIn K (.type t) (.ref D) = some b) : PySem.W.kitOne K (.type t) (.ref D) = some b := by
  unfold PySem.W.kitOne
  rw [if_neg (by simp)]
  unfold PySem.W.kitCls
  have i' : (PySem.W.clsIn K D).isSome = true := i
  simp only [i', h, beq_self_eq_true, Bool.and_self, if_true]
  exact s
end Gs

set_option Elab.async false
set_option linter.all false
set_option maxRecDepth 100000
set_option maxHeartbeats 4000000
/-! sorted(d), d a dict whose keys are tuples of ints and texts. -/
namespace Gs
open PySem PySem.Spec PyProof.Rows L2
theorem kt_keys {H : Hp} {kvs : List (List Key × V)} {xs : List (List Key × Addr × Value)} (r : KT H kvs xs) : kvs.map (·.1) = xs.map (·.1) := by
  induction r with
  | nil => rfl
  | cons h t ih => rw [List.map_cons, List.map_cons, ih, h.1]
theorem kt_tup {H : Hp} {kvs : List (List Key × V)} {xs : List (List Key × Addr × Value)} (r : KT H kvs xs) : ∀ x ∈ xs, H x.2.1 = some (.tup (x.1.map kV)) := by
  induction r with
  | nil => intro x hx; cases hx
  | @cons p q ps qs h t ih =>
    intro x hx
    rcases List.mem_cons.mp hx with e | hx
    · rw [e, ← h.1]; exact h.2.1
    · exact ih x hx
theorem vals_tkR : ∀ ks : List TK, Vals (ks.map fun b => V.ref b.1) (ks.map fun b => Value.ref b.1)
  | [] => .nil
  | _ :: ks => .cons rfl (vals_tkR ks)
theorem reads_flat {h : Heap} : ∀ {us : List Value} {ks : List Key}, Vals (ks.map kV) us → ReadsAll h us (ks.map kD) []
  | _, [], r => by cases r; exact .nil
  | _, .inl i :: ks, r => by
    cases r with
    | cons r1 r2 =>
      obtain ⟨t, rfl⟩ := r1
      exact .cons (as := []) (.int i t) (reads_flat r2)
  | _, .inr i :: ks, r => by
    cases r with
    | cons r1 r2 =>
      obtain ⟨t, rfl⟩ := r1
      exact .cons (as := []) (.str i t) (reads_flat r2)
theorem each_any {R : Value → TK → Prop} : ∀ {bs : List TK} {us : List Value}, PySem.W.EachIs (fun (v : Value) (b : TK) => v = .ref b.1) us bs → (∀ b ∈ bs, R (.ref b.1) b) → PySem.W.EachIs R us bs
  | _, _, .nil, _ => .nil
  | _, _, .cons r t, h => by
    subst r
    exact .cons (h _ List.mem_cons_self) (each_any t fun b hb => h b (List.mem_cons_of_mem _ hb))
/-- sorted(d): the keys' own tuples in their order -/
def rSortDT : List V → Hp → VK → Prop := fun vs H Q => ∃ (a : Addr) (kvs : List (List Key × V)), vs = [V.ref a] ∧ H a = some (.dT kvs) ∧ (∀ p ∈ kvs, p.1 ≠ []) ∧ (∀ p ∈ kvs, ∀ q ∈ kvs, sameSort p.1 q.1 = true) ∧
  ∀ (ks : List TK) (p : Addr), ks.map (·.2) = kvs.map (·.1) → (∀ b ∈ ks, H b.1 = some (.tup (b.2.map kV))) → H p = none → Q (.ref p) (upd H p (.lst ((sortK ks).map fun b => V.ref b.1)))
section
variable {X : Cx}
theorem cr_sortDT (hcalm : X.calm = true) (hu : X.A.units + 64 < cLine) : CallR X (.builtin "sorted") rSortDT := by
  intro pins s σ H vs us Q I r q
  obtain ⟨a, kvs, rfl, hd, hne, hss, q⟩ := q
  obtain ⟨u, rfl, ru⟩ := vals1 r
  obtain rfl : u = Value.ref a := ru
  obtain ⟨z, lo, xs, kt, o, es, ep, ho, hc, hdat, hes, _, _⟩ := dt_of I.hok hd
  have raw : s.heap.DictRaw a es ep := ⟨o, ho, hc, hdat⟩
  obtain ⟨ks, eks⟩ : ∃ ks : List TK, ks = xs.map fun x => (x.2.1, x.1) := ⟨_, rfl⟩
  have hks : ks.map (·.2) = kvs.map (·.1) := by rw [eks, List.map_map, kt_keys kt]; rfl
  have htup : ∀ b ∈ ks, H b.1 = some (.tup (b.2.map kV)) := fun b hb => by
    rw [eks] at hb
    obtain ⟨x, hx, rfl⟩ := List.mem_map.mp hb
    exact kt_tup kt x hx
  have hlen : es.size = ks.length := by rw [eks, List.length_map, ← List.length_map (as := xs) (entryOfKey (tupleKind (mixKind X.prog X.w))), ← hes]; simp
  have hkl : ks.length = kvs.length := by have := congrArg List.length hks; simpa using this
  have hmem : ∀ b ∈ ks, ∃ p ∈ kvs, p.1 = b.2 := fun b hb => by
    have : b.2 ∈ kvs.map (·.1) := by rw [← hks]; exact List.mem_map_of_mem (f := fun x : TK => x.2) hb
    exact List.mem_map.mp this
  refine Calls.call_function_entry PyProof.Rows.kind_sorted PyProof.Rows.plain_sorted PyProof.Rows.entry_sorted (PyProof.Rows.args_sorted1 _) ?_
  unfold Builtin.«sorted»
  refine wpAny_bind (m := checkCount "sorted" 1 1 _) (wpAny_pure ?_)
  refine wpAny_bind (PySem.W.kdu_collect (A := X.A.in1) (PySem.KdlSrc.rawDict (es := es) (ep := ep) lo) (I.ok.hd hcalm) raw (by rw [hlen, hkl]; exact z) fun h' tk acc hk hacc => ?_)
  have eacc : acc.toList = ks.map fun b => Value.ref b.1 := by
    refine List.ext_getElem? fun i => ?_
    rw [eks, List.map_map, List.getElem?_map]
    cases e : acc.toList[i]? with
    | none =>
      have h1 := List.getElem?_eq_none_iff.mp e
      rw [Array.length_toList, hacc.1, hlen, eks, List.length_map] at h1
      rw [List.getElem?_eq_none_iff.mpr h1]; rfl
    | some v =>
      obtain ⟨hi, ev⟩ := hacc.2 i v (by rw [← Array.getElem?_toList]; exact e)
      have h2 : es.toList[i]? = some es[i] := by simp [hi]
      rw [hes, List.getElem?_map] at h2
      cases ex : xs[i]? with
      | none => rw [ex] at h2; cases h2
      | some x =>
        rw [ex] at h2
        have h3 : entryOfKey (tupleKind (mixKind X.prog X.w)) x = es[i] := Option.some.inj h2
        rw [ev, ← h3]; rfl
  have I1 : Inv X pins σ H { s with heap := h', toks := tk } := I.kept hk
  have hlz : acc.toList.length ≤ sizeLine := by rw [eacc, List.length_map, hkl]; exact z
  have hv : Vals (ks.map fun b => V.ref b.1) acc.toList := by rw [eacc]; exact vals_tkR ks
  refine wpAny_bind (wpAny_newList ?_ hlz)
  have hoL : (h'.push (seqObj "list" acc.toList.toArray 0)).get? h'.objs.size = some (seqObj "list" acc.toList.toArray 0) := Heap.get?_push_size _ rfl
  show wpAny _ _ _ _ _ { s with heap := h'.push (seqObj "list" acc.toList.toArray 0), toks := tk }
  have er : PySem.W.EachIs (fun (v : Value) (b : TK) => ∃ as, Reads (h'.push (seqObj "list" acc.toList.toArray 0)) v (encT b) as ∧ h'.objs.size ∉ as) acc.toList ks := each_any (each_tks hv) fun b hb => by
    obtain ⟨us, r2, ⟨o, ho, hc, n, hd⟩, _⟩ := I1.tuple (.of (htup b hb))
    exact ⟨[], .tuple (Heap.get?_push_of_some _ ho) hc hd (by simpa using reads_flat r2), by simp⟩
  refine wpAny_bind (wpAny_holding (PySem.W.list_sort_data (β := TK) (enc := encT) (s := { s with heap := h'.push (seqObj "list" acc.toList.toArray 0), toks := tk }) hoL (each_tks hv) er (fun d hd d' hd' => ?_) (.inl fun d hd => ?_) (by rw [hkl]; exact z) (fun b hb => ?_) fun out ho eo => ?_))
  · obtain ⟨x, hx1, rfl⟩ := List.mem_map.mp hd
    obtain ⟨y, hy1, rfl⟩ := List.mem_map.mp hd'
    obtain ⟨p, hp, ep⟩ := hmem x hx1
    obtain ⟨p', hp', ep'⟩ := hmem y hy1
    show PySem.W.alike (.tuple _) (.tuple _) = true
    simp only [PySem.W.alike]
    exact alike_keys _ _ (by rw [← ep, ← ep']; exact hss p hp p' hp')
  · obtain ⟨x, hx1, rfl⟩ := List.mem_map.mp hd
    obtain ⟨p, hp, ep⟩ := hmem x hx1
    have n1 : x.2 ≠ [] := by rw [← ep]; exact hne p hp
    unfold encT
    match x.2, n1 with
    | [], z => exact absurd rfl z
    | y :: l, _ => exact ⟨_, _, rfl⟩
  · have : (encT b).depth = 1 := by
      unfold encT
      simp only [PyData.depth, depth_keys]
    rw [this]
    show X.A.units + 1 + 1 + 1 < cLine
    omega
  obtain ⟨e', he'⟩ := PyProof.Rows.sortedHeap_at (vs := acc.toList) (out := out.toArray) hoL
  have hz2 : ((sortK ks).map fun b => V.ref b.1).length ≤ sizeLine := by rw [List.length_map, (sortK_perm ks).length_eq, hkl]; exact z
  refine wpAny_pure ⟨_, rfl, .ref h'.objs.size, upd H h'.objs.size (.lst ((sortK ks).map fun b => V.ref b.1)), I1.laid (t' := tk) (fun b u e => ?_) (Nat.le_refl _)
    (show ObjOk X.prog X.w _ _ _ (.lst _) from ⟨hz2, out, e', vals_tks eo, he'⟩), rfl, q ks _ hks htup (I1.hok.fresh (Nat.le_refl _))⟩
  have hb : b < h'.objs.size := Heap.lt_size e
  rw [PyProof.Rows.sortedHeap_old (Nat.ne_of_lt hb) (by rw [size_push']; exact Nat.lt_succ_of_lt hb)]
  exact Heap.get?_push_of_some _ e
end
end Gs

set_option Elab.async false
set_option linter.all false
set_option maxRecDepth 100000
set_option maxHeartbeats 4000000
/-! list(range(a, b)) where a, b are ints of any size. -/
namespace Gs
open PySem PySem.Spec PyProof.Rows L2
section
variable {prog : Program} {w : World} {A : Around} {E : Value → Shared → Prop} {s : Shared} {src L : Addr} {lo hi : Int} {t u v : Tok} {m cap : Nat}
abbrev lstO (acc : Array Value) (c : Nat) : Obj := { cls := .type "list", dict := none, data := .seq acc c, slots := #[] }
abbrev itO (lo hi : Int) : Obj := { cls := .type "longrange_iterator", data := .fields #[rawInt lo, rawInt (Builtin.Range.rangeSize lo hi 1), rawInt 1] }
theorem ext_long {R : Result → Shared → Prop} {res : Value} (calm : A.handled = none) (isr : IsRange s.heap src lo hi 1 t u v) (big : Builtin.Range.small lo hi 1 = false) (size : Builtin.Range.rangeSize lo hi 1 = m) (fit : m ≤ 2 ^ 24)
    (isl : s.heap.get? L = some (lstO #[] cap))
    (fin : ∀ h' tk acc c', (∀ b o, b ≠ L → s.heap.get? b = some o → h'.get? b = some o) → h'.get? L = some (lstO acc c') → ItemsOf (fun i v => ∃ t, v = .int (lo + i * 1) t) acc m → R (.ok (.ret res)) { s with heap := h', toks := tk }) :
    wpAny (model prog w) A.in1 (Builtin.List.listExtendWith (.ref L) (.ref src) res)
      (fun f s' => match f with
        | .done r => R (.ok r) s'
        | .again c => c.quiet = true ∧ codeAny (model prog w) A c R s') (fun e s' => R (.error e) s') s := by
  have ne : L ≠ src := fun z => by rw [z, isr] at isl; simp at isl
  have ltL : L < s.heap.objs.size := Heap.lt_size isl
  have neI : L ≠ s.heap.objs.size := Nat.ne_of_lt ltL
  have noI : L ∉ [s.heap.objs.size] := fun z => neI (List.mem_singleton.mp z)
  have walk := (Walks.longrange (prog := prog) (w := w) (A := A.in1) calm s.heap.objs.size lo 1 m).toS
  have loop : ∀ (g : Heap) (c tk : Nat), IsLongIter g s.heap.objs.size (lo + ((0 : Nat) : Int) * 1) ((m : Int) - ((0 : Nat) : Int)) 1 → (∀ b o, b ≠ L → s.heap.get? b = some o → g.get? b = some o) → g.get? L = some (lstO #[] c) →
      codeAny (model prog w) A (.builtin "list.extend.loop" ⟨[.ref L, .ref s.heap.objs.size, res], []⟩) R { s with heap := g, toks := tk } := fun g c tk isI old isL => by
    refine codeAny_extend_loopS walk (by rw [sizeLine_eq]; omega) L noI res m 0 _ #[] c rfl (Nat.zero_le _) isI isL (ItemsOf.nil _) fun s' acc c' mv isL' its => ?_
    rw [Moved.eq_with mv]
    refine fin s'.heap s'.toks acc c' (fun b o nb e => mv.heap b o (fun z => ?_) (old b o nb e)) isL' its
    rcases List.mem_cons.mp z with z | z
    · exact nb z
    · have := Heap.lt_size e
      rw [List.mem_singleton.mp z] at this
      exact Nat.lt_irrefl _ this
  unfold Builtin.List.listExtendWith
  refine wpAny_bind (wpAny_typeOf (T := "range") ⟨_, isr, rfl⟩ ?_)
  rw [show Builtin.List.listSameRef (.ref L) (.ref src) = false by simp [Builtin.List.listSameRef, ne], show (Value.type "range" == Value.type "list") = false by decide, show (Value.type "range" == Value.type "tuple") = false by decide]
  simp only [Bool.or_false, Bool.false_eq_true, if_false]
  have old1 : ∀ {b o}, s.heap.get? b = some o → (s.heap.push (itO lo hi)).get? b = some o := fun e => Heap.get?_push_of_some _ e
  refine wpAny_bind (wpAny_pyIter_longrange isr big ?_)
  refine wpAny_bind (wpAny_holding (wpAny_hint_range (n := m) (old1 isr) size fit ?_))
  have isI : IsLongIter (s.heap.push (itO lo hi)) s.heap.objs.size (lo + ((0 : Nat) : Int) * 1) ((m : Int) - ((0 : Nat) : Int)) 1 := by
    show (s.heap.push (itO lo hi)).get? _ = _
    rw [Heap.get?_push_size _ rfl, ← size]; simp
  refine wpAny_ite_split (fun _ => ?_) (fun _ => wpAny_pure ⟨plainId_quiet F.plain_extend_loop _, loop _ cap _ isI (fun b o _ e => old1 e) (old1 isl)⟩)
  refine wpAny_bind (wpAny_rule (wpAny_bind ?_))
  show wpAny _ _ (updateSeq L (·.push .none) >>= fun _ => updateSeq L (·.pop)) _ _ _
  refine wpAny_bind (wpAny_updateSeq (old1 isl) rfl ?_)
  have isL2 := Heap.get?_update_self (Obj.mapSeq (·.push Value.none)) (old1 isl) rfl
  refine wpAny_updateSeq (hz := by seq_fits) isL2 rfl ?_
  have isL3 := Heap.get?_update_self (Obj.mapSeq (·.pop)) isL2 rfl
  have oth : ∀ {b : Addr} {o : Obj}, b ≠ L → (s.heap.push (itO lo hi)).get? b = some o → (((s.heap.push (itO lo hi)).update L (Obj.mapSeq (·.push Value.none))).update L (Obj.mapSeq (·.pop))).get? b = some o := fun nb e =>
    (Heap.get?_update_other _ _ nb.symm).trans ((Heap.get?_update_other _ _ nb.symm).trans e)
  exact wpAny_pure ⟨plainId_quiet F.plain_extend_loop _, loop _ _ _ (oth neI.symm isI) (fun b o nb e => oth nb (old1 e)) isL3⟩
theorem call_list_long {Q : Value → Shared → Prop} (calm : A.handled = none) (isr : IsRange s.heap src lo hi 1 t u v) (big : Builtin.Range.small lo hi 1 = false) (size : Builtin.Range.rangeSize lo hi 1 = m) (fit : m ≤ 2 ^ 24)
    (fin : ∀ h' tk acc c', (∀ b o, s.heap.get? b = some o → h'.get? b = some o) → h'.get? s.heap.objs.size = some (lstO acc c') → ItemsOf (fun i v => ∃ t, v = .int (lo + i * 1) t) acc m → Q (.ref s.heap.objs.size) { s with heap := h', toks := tk }) :
    wpAny (model prog w) A (call (.type "list") [.ref src]) Q E s := by
  refine callType_codes (Q₁ := fun x s1 => x = .ref s.heap.objs.size ∧ s1 = { s with heap := s.heap.push (lstO #[] 0) }) F.called_list (F.typeCall_list_1 _) F.entry_list_init (code_list_new _ ⟨rfl, rfl⟩) fun x s1 hx => ?_
  obtain ⟨rfl, rfl⟩ := hx
  have isL : (s.heap.push (lstO #[] 0)).get? s.heap.objs.size = some (lstO #[] 0) := Heap.get?_push_size _ rfl
  have isr1 : IsRange (s.heap.push (lstO #[] 0)) src lo hi 1 t u v := Heap.get?_push_of_some _ isr
  have ne : s.heap.objs.size ≠ src := fun z => Nat.lt_irrefl _ (by
    have := Heap.lt_size isr
    rwa [← z] at this)
  refine ⟨⟨_, isL, rfl⟩, F.args_list_init_2 _ _, ?_⟩
  show wpAny _ _ (do let old ← Builtin.List.listItems (.ref s.heap.objs.size); Builtin.List.listUpdate (.ref s.heap.objs.size) (fun _ => #[]); letGo old.toList.reverse; Builtin.List.listExtendWith (.ref s.heap.objs.size) (.ref src) .none) _ _ _
  unfold Builtin.List.listItems
  refine wpAny_bind (wpAny_bind (wpAny_seqItems isL rfl (wpAny_pure ?_)))
  show wpAny _ _ (updateSeq s.heap.objs.size (fun _ => #[]) >>= fun _ => letGo (#[] : Array Value).toList.reverse >>= fun _ => Builtin.List.listExtendWith (.ref s.heap.objs.size) (.ref src) .none) _ _ _
  refine wpAny_bind (wpAny_updateSeq isL rfl (wpAny_bind (wpAny_letGo ?_)))
  have isL2 := Heap.get?_update_self (Obj.mapSeq (fun _ => (#[] : Array Value))) isL rfl
  have oth : ∀ {b : Addr} {o : Obj}, b ≠ s.heap.objs.size → (s.heap.push (lstO #[] 0)).get? b = some o → ((s.heap.push (lstO #[] 0)).update s.heap.objs.size (Obj.mapSeq (fun _ => (#[] : Array Value)))).get? b = some o := fun nb e => (Heap.get?_update_other _ _ nb.symm).trans e
  refine ext_long (A := A.in1) calm (oth ne.symm isr1) big size fit isL2 fun h' tk acc c' old isL' its => ?_
  exact ⟨rfl, fin h' tk acc c' (fun b o e => old b o (Nat.ne_of_lt (Heap.lt_size e)) (oth (Nat.ne_of_lt (Heap.lt_size e)) (Heap.get?_push_of_some _ e))) isL' its⟩
end
section
variable {X : Cx} {e : Expr} {te : L2.St → Hp → (Int → Int → Hp → Prop) → Prop}
/-- list(range(a, b)): not too many -/
def tLstRa (te : L2.St → Hp → (Int → Int → Hp → Prop) → Prop) : TE := fun σ H Q => te σ H fun a b H1 => (b - a).toNat ≤ 2 ^ 24 ∧ ∀ q, H1 q = none → Q (.ref q) (upd H1 q (.lst (rgV a b)))
theorem pe_listRa {p pos : Pos} (hc : X.calm = true) (hg : Gl X "list") (hm : X.mg "list" = none) (he : PRg X e te) (na : starEach [e] X.env = (false, eval e X.env) :: starEach [] X.env := by rfl) :
    PE X (.Call (.Name "list" p) [e] [] pos) (tLstRa te) := by
  refine ⟨fun pins s σ H Q I h => ?_⟩
  have go := thn (he pins s σ H _ I h) (Q' := fun x s1 => wpAny (model X.prog X.w) X.A (call (.type "list") [x]) (EP X pins σ Q) X.xe s1) fun x s1 hx => ?_
  · refine Call_ (ld_blt I hg hm boot_list (PyProof.Rows.callWith_type1 (args_cons (thn go fun x s1 hx => args_nil hx) na) na))
  obtain ⟨r, a, b, t, u, v, H1, rfl, isr, I1, few, q⟩ := hx
  have end_ : ∀ h' tk (acc : Array Value) c', (∀ b o, s1.heap.get? b = some o → h'.get? b = some o) → h'.get? s1.heap.objs.size = some (lstO acc c') → ItemsOf (fun i v => ∃ t, v = .int (a + i * 1) t) acc (b - a).toNat → EP X pins σ Q (.ref s1.heap.objs.size) { s1 with heap := h', toks := tk } := fun h' tk acc c' old isL its => by
    refine ⟨.ref s1.heap.objs.size, upd H1 s1.heap.objs.size (.lst (rgV a b)), I1.laid old (Nat.le_refl _) (show ObjOk X.prog X.w _ _ _ (.lst (rgV a b)) from ⟨?_, acc.toList, c', vals_rg its, ?_⟩), rfl, q _ (I1.hok.fresh (Nat.le_refl _))⟩
    · rw [rgV_length, sizeLine_eq]; omega
    · rw [Array.toArray_toList]; exact isL
  cases sm : Builtin.Range.small a b 1 with
  | true => exact call_list_range (n := (b - a).toNat) (I1.ok.hd hc) isr sm (rangeSize_nat a b) few end_
  | false => exact call_list_long (m := (b - a).toNat) (I1.ok.hd hc) isr sm (rangeSize_nat a b) few end_
end
end Gs

set_option Elab.async false
set_option linter.all false
set_option maxRecDepth 100000
set_option maxHeartbeats 4000000
/-! rules whose reading names K, for a comprehension in a comprehension. -/
namespace Gs
open PySem PySem.Spec PyProof.Rows L2
section
variable {X : Cx} {K : PySem.W.Frag} {l o e tg : Expr} {tl to te : TE}
theorem pi_listK (hK : X.K = K) (hl : PE X l tl) : PI X tg l (iList K tl) := by
  subst hK; exact pi_list hl
def rJoin (K : PySem.W.Frag) : V → List V → Hp → VK → Prop := fun x xs H Q => ∃ a p, ∃ ys : List Str, x = .str a ∧ xs = [.ref p] ∧ (SqL K H p (ys.map V.str) ∨ SqT K H p (ys.map V.str)) ∧
  (ys.map (·.length)).sum + ys.length * a.length ≤ 16777216 ∧ Q (.str (Txt.join a ys)) H
theorem pe_joinK {apos pos : Pos} (hK : X.K = K) (ho : PE X o to) (he : PE X e te) (hs : starEach [e] X.env = [(false, eval e X.env)] := by rfl) (hbase : attributeBase o "join" X.env (eval o X.env) = eval o X.env := by rfl) (hline : (apos.endLine == pos.line) = true := by rfl) :
    PE X (.Call (.Attribute o "join" apos) [e] [] pos) (tM1 (rJoin K) to te) := by
  subst hK; exact pe_join ho he hs hbase hline
end
def hd0 (z : Str) : Str := ⟨#[z.cps.toList.headD 0]⟩
theorem at0 {z : Str} (h : 1 ≤ z.length) : atI z.cps.toList 0 = some (z.cps.toList.headD 0) := by
  have h : 1 ≤ z.cps.toList.length := by rw [Array.length_toList]; exact h
  match e : z.cps.toList, h with
  | c :: r, _ => exact (atI_nat (xs := c :: r) (j := 0) (v := c) (by simp))
theorem slice1 {z : Str} (h : 1 ≤ z.length) : Txt.slice z none (some 1) = hd0 z := by
  rw [← C8.cutS_slice]
  obtain ⟨⟨l⟩⟩ := z
  match l, h with
  | c :: r, h =>
    unfold cutS hd0
    have e : HT.sIx (Str.mk ⟨c :: r⟩).length (Str.mk ⟨c :: r⟩).length (some (1 : Int)) = 1 := by
      have := HT.sIx_nat (Str.mk ⟨c :: r⟩).length (Str.mk ⟨c :: r⟩).length 1
      rw [show (some (1 : Int)) = some ((1 : Nat) : Int) from rfl, this]
      exact Nat.min_eq_left h
    rw [HT.sIx_none, e]
    simp
theorem hd0_len (z : Str) : (hd0 z).length = 1 := rfl
theorem up_len (z : Str) : (Txt.upper (hd0 z)).length ≤ 3 := PyProof.Rows.len_upper (hd0 z)
end Gs

set_option Elab.async false
set_option linter.all false
set_option maxRecDepth 100000
set_option maxHeartbeats 4000000
/-! == of tuples of own instances, alike or not. -/
namespace Gs
open PySem PySem.Spec PyProof.Rows L2
open PySem.SeqAt
open AutoSeq1 (wpAny_loadPart')
open MeetsSeq MeetsSeq2 MeetsSeq3 SeqRoads2
def allTo (e : Nat → Bool) (n : Nat) : Bool := (List.range n).all e
theorem allTo_iff {e : Nat → Bool} {n : Nat} : allTo e n = true ↔ ∀ j, j < n → e j = true := by
  unfold allTo
  rw [List.all_eq_true]
  exact ⟨fun h j hj => h j (List.mem_range.mpr hj), fun h j hj => h j (List.mem_range.mp hj)⟩
theorem allTo_false {e : Nat → Bool} {n i : Nat} (hi : i < n) (h : e i = false) : allTo e n = false := by
  cases c : allTo e n with
  | false => rfl
  | true => rw [allTo_iff.mp c i hi] at h; cases h
section
variable {prog : Program} {w : World} {A : Around} {R : Result → Shared → Prop}
theorem tup_eqB (l m : Addr) (xs ys : Array Value) (n n2 : Nat) (d1 d2 : Option Addr) (s1 s2 : Array (Option Value)) (e : Nat → Bool) (I : Nat → Shared → Prop)
    (turn : ∀ i (h1 : i < xs.size) (h2 : i < ys.size) s, I i s → wpAny (model prog w) A.in1 (eqBool xs[i] ys[i]) (fun r s' => r = e i ∧ I (i + 1) s') (fun e s' => R (.error e) s') s)
    (fin : ∀ i s, I i s → R (.ok (.ret (.bool (allTo e (min xs.size ys.size) && decide (xs.size = ys.size))))) s) {s : Shared} (hl : s.heap.get? l = some { cls := .type "tuple", dict := d1, data := .seq xs n, slots := s1 })
    (hm : s.heap.get? m = some { cls := .type "tuple", dict := d2, data := .seq ys n2, slots := s2 }) (h : I 0 s) :
    wpAny (model prog w) A.in1 (Builtin.«tuple.__eq__» ⟨[.ref l, .ref m], []⟩) (GQ.FinOf prog w A R) (fun e s' => R (.error e) s') s := by
  have sub := AutoSeq1.sub_tuple_tuple
  have len : (xs.toList.zip ys.toList).length = min xs.size ys.size := by simp
  have h0 := h
  obtain ⟨hp, g, d, tk, os⟩ := s
  wp_walk using wpAny_loadPart' hl, wpAny_loadPart' hm, wpAny_forIn_list _ (fun rest b s' => b.1 = none ∧ ∃ i, rest = (xs.toList.zip ys.toList).drop i ∧ i ≤ min xs.size ys.size ∧ (∀ j, j < i → e j = true) ∧ I i s') _
  case turn =>
    rintro ⟨y, x⟩ rest b s' ⟨hb, i, hz, hi, hj, hI⟩
    have lt : i < (xs.toList.zip ys.toList).length := by
      rcases Nat.lt_or_ge i (xs.toList.zip ys.toList).length with c | c
      · exact c
      · rw [List.drop_of_length_le c] at hz; cases hz
    have ltm := len ▸ lt
    have h1 : i < xs.size := by omega
    have h2 : i < ys.size := by omega
    rw [List.drop_eq_getElem_cons lt] at hz
    obtain ⟨hp1, hrest⟩ := List.cons.inj hz
    have hy : y = xs[i] := by simpa using congrArg Prod.fst hp1
    have hx : x = ys[i] := by simpa using congrArg Prod.snd hp1
    subst hy hx
    refine wpAny_bind (wpAny_mono (turn i h1 h2 s' hI) (fun r s2 q => ?_) fun _ _ x => x)
    obtain ⟨hr, q⟩ := q
    cases he : e i with
    | true =>
      rw [he] at hr
      subst hr
      wp_walk
      refine ⟨rfl, i + 1, hrest, by omega, fun j jl => ?_, q⟩
      rcases Nat.lt_succ_iff_lt_or_eq.mp jl with c | c
      · exact hj j c
      · rw [c]; exact he
    | false =>
      rw [he] at hr
      subst hr
      have k := fin (i + 1) s2 q
      rw [allTo_false ltm he] at k
      wp_walk
      exact k
  case fin =>
    rintro ⟨b1, b2⟩ s' ⟨hb, i, hz, hi, hj, hI⟩
    simp only at hb
    subst hb
    have ge : min xs.size ys.size ≤ i := by
      rcases Nat.lt_or_ge i (xs.toList.zip ys.toList).length with c | c
      · rw [List.drop_eq_getElem_cons c] at hz; cases hz
      · rw [← len]; exact c
    have k := fin i s' hI
    rw [allTo_iff.mpr fun j jl => hj j (by omega), Bool.true_and] at k
    wp_walk
    have e2 : Builtin.Tuple.tupleCompareSizes CmpOp.Eq xs.size ys.size = .bool (decide (xs.size = ys.size)) := rfl
    first
      | exact k
      | (rw [e2]; exact k)
  case h =>
    exact ⟨rfl, 0, rfl, Nat.zero_le _, fun _ z => absurd z (Nat.not_lt_zero _), h0⟩
end
end Gs

set_option Elab.async false
set_option linter.all false
set_option maxRecDepth 100000
set_option maxHeartbeats 4000000
/-! == with both outcomes: instances with an own ==, tuples of such. -/
namespace Gs
open PySem PySem.Spec PyProof.Rows L2
abbrev EqvB := V → V → Bool → Hp → Prop
def MonB (D : EqvB) : Prop := ∀ x y b H H', Same H H' → D x y b H → D x y b H'
/-- == inside a list or tuple tells b, and only makes objects -/
def EqW (X : Cx) (n : Nat) (D : EqvB) : Prop :=
  ∀ (A : Around) (pins : List (Addr × Obj)) (s : Shared) (σ : L2.St) (H : Hp) (x y : V) (u v : Value) (b : Bool), Sub X n A → L2.Inv X pins σ H s → L2.RelV x u → L2.RelV y v → D x y b H →
    wpAny (model X.prog X.w) A (eqBool u v) (fun r s' => r = b ∧ ∃ H', L2.Inv X pins σ H' s' ∧ Same H H') X.xe s
/-- the same of the rich comparison -/
def RcW (X : Cx) (n : Nat) (D : EqvB) : Prop :=
  ∀ (A : Around) (pins : List (Addr × Obj)) (s : Shared) (σ : L2.St) (H : Hp) (x y : V) (u v : Value) (b : Bool), Sub X n A → L2.Inv X pins σ H s → L2.RelV x u → L2.RelV y v → D x y b H →
    wpAny (model X.prog X.w) A (richCompare .Eq u v) (fun r s' => r = .bool b ∧ ∃ H', L2.Inv X pins σ H' s' ∧ Same H H') X.xe s
section
variable {X : Cx} {n m : Nat} {D : EqvB}
theorem RcW.eqW (h : RcW X n D) (hr : ∀ x y b H, D x y b H → (∃ a c, x = .ref a ∧ y = .ref c) ∧ (x = y → b = true)) : EqW X n D := by
  intro A pins s σ H x y u v b sb I rx ry d
  obtain ⟨⟨a, c, rfl, rfl⟩, same⟩ := hr _ _ _ _ d
  cases rx
  cases ry
  by_cases hac : a = c
  · subst hac
    rw [same rfl]
    exact SeqAt.EqAt.same (A := A) (s := s) (.ref a) X.prog X.w X.xe _ ⟨rfl, H, I, fun _ _ h => h⟩
  · refine GQ.eqBool_refG hac (wpAny_mono (h A pins s σ H (.ref a) (.ref c) _ _ b sb I rfl rfl d) (fun r s' q => ?_) fun _ _ x => x)
    obtain ⟨e, q⟩ := q
    exact ⟨b, e, rfl, q⟩
/-- .. what stands on the heap may tell that one is like itself -/
theorem RcW.eqWI (h : RcW X n D) (hr : ∀ pins s σ x y b H, L2.Inv X pins σ H s → D x y b H → (∃ a c, x = .ref a ∧ y = .ref c) ∧ (x = y → b = true)) : EqW X n D := by
  intro A pins s σ H x y u v b sb I rx ry d
  obtain ⟨⟨a, c, rfl, rfl⟩, same⟩ := hr _ _ _ _ _ _ _ I d
  cases rx
  cases ry
  by_cases hac : a = c
  · subst hac
    rw [same rfl]
    exact SeqAt.EqAt.same (A := A) (s := s) (.ref a) X.prog X.w X.xe _ ⟨rfl, H, I, fun _ _ h => h⟩
  · refine GQ.eqBool_refG hac (wpAny_mono (h A pins s σ H (.ref a) (.ref c) _ _ b sb I rfl rfl d) (fun r s' q => ?_) fun _ _ x => x)
    obtain ⟨e, q⟩ := q
    exact ⟨b, e, rfl, q⟩
/-- an instance's own ==: what it promises -/
def spEqW (R : Addr → Addr → Bool → Hp → Prop) : Sp := fun vs H Q _ => ∃ a c b, vs = [.ref a, .ref c] ∧ R a c b H ∧ ∀ H', Same H H' → Q (.bl b) H'
def DInsW (C : Addr) (R : Addr → Addr → Bool → Hp → Prop) : EqvB := fun x y b H => ∃ a c dx dy fs gs, x = .ref a ∧ y = .ref c ∧ H a = some (.ins C dx fs) ∧ H c = some (.ins C dy gs) ∧ R a c b H
theorem rcW_ins {CX : CXT} {C f : Addr} {fd : FuncData} {ps : List Str} {R : Addr → Addr → Bool → Hp → Prop} {E : XK} (F : FnOk X.prog X.w X.K X.mg X.base CX n f fd ps (spEqW R))
    (hs : PySem.W.findIn X.K (.ref C) "__eq__" = some (some (.ref f))) (hf : PySem.W.isFn X.K (.ref f) = true) (hb : Binds X.K fd ps []) (hx : Passes CX X E) : RcW X n (DInsW C R) := by
  intro A pins s σ H x y u v b sb I rx ry d
  obtain ⟨a, c, dx, dy, fs, gs, rfl, rfl, ha, hc, hr⟩ := d
  cases rx
  cases ry
  obtain ⟨_, La, _⟩ := ins_get I.hok ha
  obtain ⟨_, Lc, _⟩ := ins_get I.hok hc
  obtain ⟨_, La, _⟩ := La.look
  obtain ⟨_, Lc, _⟩ := Lc.look
  obtain ⟨_, fr⟩ := I.fr
  refine PySem.W.cmp_K (tb := .ref C) (op := .Eq) sb.room.units0 fr I.ok.mod.kin La Lc.type (by simp [PySem.W.notFirst]) hs hf ?_
  have hsp : spEqW R [.ref a, .ref c] H (fun v H' => v = .bl b ∧ Same H H') E := ⟨a, c, b, rfl, hr, fun H' e => ⟨rfl, e⟩⟩
  have env := I.env0
  have e0 : Env0 X.prog X.w X.K X.mg X.base A X.stack s H := ⟨by rw [sb.fr]; exact env.frames, env.mod, env.bs, env.bsz, env.funs, env.frf, env.hok, env.bare⟩
  have hl := F.len _ _ _ _ hsp
  have r2 : Vals [V.ref a, V.ref c] [Value.ref a, Value.ref c] := .cons rfl (.cons rfl .nil)
  have bind := hb s [.ref a, .ref c] I.kIn (by simpa using hl)
  refine wpAny_call (codeAny_mono (F.run A X.stack s H ⟨[.ref a, .ref c], []⟩ [.ref a, .ref c] [.ref a, .ref c] _ E sb.room e0 (by simpa using bind) r2 hsp) fun r s' hq => ?_)
  match r, hq with
  | .error e, hq => exact hx pins σ H s e s' I hq
  | .ok (.ret w), hq =>
    obtain ⟨z, H', I', rz, ez, ex⟩ := I.after hq
    subst ez
    cases rz
    exact ⟨rfl, H', I', ex⟩
  | .ok .next, hq => exact False.elim hq
  | .ok .brk, hq => exact False.elim hq
  | .ok .cont, hq => exact False.elim hq
/-- item by item -/
def DTupW (K : PySem.W.Frag) (D : EqvB) : EqvB := fun x y b H => ∃ a c xs ys e, x = .ref a ∧ y = .ref c ∧ SqT K H a xs ∧ SqT K H c ys ∧ (∀ (i : Nat) x y, xs[i]? = some x → ys[i]? = some y → D x y (e i) H) ∧ b = (allTo e (min xs.length ys.length) && decide (xs.length = ys.length))
theorem sqT_same {K : PySem.W.Frag} {H H' : Hp} {a : Addr} {xs : List V} (h : SqT K H a xs) (e : Same H H') : SqT K H' a xs := e.seqT h
theorem rcW_tup (hD : MonB D) (h : EqW X n D) : RcW X (n + 1) (DTupW X.K D) := by
  intro A pins s σ H x y u v b sb I rx ry d
  obtain ⟨a, c, xs, ys, e, rfl, rfl, ha, hc, p, eb⟩ := d
  cases rx
  cases ry
  obtain ⟨its, r, ht, z⟩ := I.tuple ha
  obtain ⟨its2, r2, ht2, z2⟩ := I.tuple hc
  obtain ⟨⟨cls, dd, data, sl⟩, ho, hcl, k, hd⟩ := id ht
  obtain ⟨⟨cls2, dd2, data2, sl2⟩, ho2, hcl2, k2, hd2⟩ := id ht2
  simp only at hcl hd hcl2 hd2
  subst hcl hd hcl2 hd2
  refine wpAny_richCompare_same_room (op := .Eq) ⟨_, ho, rfl⟩ ⟨_, ho2, rfl⟩ F.slot_tuple_eq (GQ.call_here F.slot_tuple_eq ⟨_, ho, rfl⟩ F.entry_tuple_eq (F.args_tuple_eq_2 _ _) ?_) sb.room.units0
  have l1 : its.toArray.size = xs.length := by rw [List.size_toArray, ← r.length]
  have l2 : its2.toArray.size = ys.length := by rw [List.size_toArray, ← r2.length]
  refine tup_eqB (R := wants (fun v s' => v ≠ .notImplemented ∧ v = .bool b ∧ ∃ H', L2.Inv X pins σ H' s' ∧ Same H H') X.xe) a c its.toArray its2.toArray k k2 dd dd2 sl sl2 e (fun _ s' => ∃ H', L2.Inv X pins σ H' s' ∧ Same H H') (fun i h1 h2 s' q => ?_) (fun i s' q => ?_) ho ho2 ⟨H, I, fun _ _ h => h⟩
  · obtain ⟨H1, I1, e1⟩ := q
    have k1 : i < xs.length := by omega
    have k2 : i < ys.length := by omega
    obtain ⟨u, eu, ru⟩ := r.get (List.getElem?_eq_getElem k1)
    obtain ⟨v, ev, rv⟩ := r2.get (List.getElem?_eq_getElem k2)
    have g1 : its[i]? = some its.toArray[i] := by
      rw [List.getElem?_eq_getElem (by simpa using h1)] <;> simp
    have g2 : its2[i]? = some its2.toArray[i] := by
      rw [List.getElem?_eq_getElem (by simpa using h2)] <;> simp
    have eu := g1.symm.trans eu
    have ev := g2.symm.trans ev
    rw [Option.some.inj eu, Option.some.inj ev]
    refine wpAny_mono (h A.in1 pins s' σ H1 _ _ u v (e i) sb.in1 I1 ru rv (hD _ _ _ _ _ e1 (p i _ _ (List.getElem?_eq_getElem k1) (List.getElem?_eq_getElem k2)))) (fun r s2 q => ?_) fun _ _ x => x
    exact ⟨q.1, q.2.choose, q.2.choose_spec.1, e1.trans q.2.choose_spec.2⟩
  · rw [l1, l2, ← eb]
    exact ⟨(fun z => nomatch z), rfl, q⟩
/-- x == y, x != y as expressions -/
def rEqW (D : EqvB) : R2 := fun x y H Q => ∃ b, D x y b H ∧ ∀ H', Same H H' → Q (.bl b) H'
theorem op_eqW (h : RcW X n D) (hr : Room n X.A) : OpR X (compareOp .Eq) (rEqW D) := by
  intro pins s σ H x y v u Q I rx ry ⟨b, d, q⟩
  change wpAny _ X.A (richCompare .Eq v u) _ _ s
  refine wpAny_mono (h X.A pins s σ H x y v u b ⟨hr, rfl⟩ I rx ry d) (fun r s' z => ?_) fun _ _ x => x
  obtain ⟨e, H', I', g⟩ := z
  subst e
  exact ⟨.bl b, H', I', rfl, q H' g⟩
end
end Gs

set_option Elab.async false
set_option linter.all false
set_option maxRecDepth 100000
set_option maxHeartbeats 4000000
/-! Layer G41: a dict is like no tuple. -/
namespace PySem.SeqAt
open AutoSeq1 (wpAny_loadPart')
open MeetsSeq
theorem sub_tuple_dict : isSubtype (.type "tuple") (.type "dict") = pure false := by rw [isSubtype_type]; kernel_rfl
theorem sub_dict_tuple : isSubtype (.type "dict") (.type "tuple") = pure false := by rw [isSubtype_type]; kernel_rfl
theorem tuple_eq_declines_dict (l b : Addr) (items : Array Value) (n : Nat) (dd dd2 : Option Addr) (sl sl2 : Array (Option Value)) (dt : Data) :
    Meets (Builtin.«tuple.__eq__» ⟨[.ref l, .ref b], []⟩) (fun _ R s => s.heap.get? l = some { cls := .type "tuple", dict := dd, data := .seq items n, slots := sl } ∧ s.heap.get? b = some { cls := .type "dict", dict := dd2, data := dt, slots := sl2 } ∧ R (.ok (.ret .notImplemented)) s) :=
  .of_wp fun prog w A R s h => by obtain ⟨hp, g, d, tk, os⟩ := s; obtain ⟨hl, hb, h⟩ := h; have f1 := sub_dict_tuple; wp_walk using wpAny_loadPart' hl, wpAny_loadPart' hb; exact ⟨_, rfl, h⟩
section
variable {prog : Program} {w : World} {A : Around} {E : Value → Shared → Prop} {s : Shared}
theorem rc_dict_tuple {l b : Addr} {o : Obj} {items : Array Value} {Q : Value → Shared → Prop} (ho : s.heap.get? l = some o) (hc : o.cls = .type "dict") (hb : s.heap.IsTuple b items) (hu : A.units < cLine) (h : Q (.bool false) s) :
    wpAny (model prog w) A (richCompare .Eq (.ref l) (.ref b)) Q E s := by
  obtain ⟨⟨cls2, dd2, data2, sl2⟩, ho2, hc2, n2, hd2⟩ := id hb
  obtain ⟨cls, dd, dt, sl⟩ := o
  simp only at hc hc2 hd2
  subst hc hc2 hd2
  have hne : l ≠ b := fun e => by
    subst e
    rw [ho] at ho2
    exact absurd (congrArg Obj.cls (Option.some.inj ho2)) (by simp)
  have dl : s.TypeIs (.ref l) "dict" := ⟨_, ho, rfl⟩
  have db : s.TypeIs (.ref b) "tuple" := ⟨_, ho2, rfl⟩
  refine rc_eq_decline_or (k := false) dl db (by decide) sub_tuple_dict F.slot_dict_eq F.slot_tuple_eq_refl (fun Q' hq => ?_)
    (fun _ hq => call_meets F.slot_tuple_eq_refl db F.entry_tuple_eq (F.args_tuple_eq_2 _ _) (tuple_eq_declines_dict b l items n2 dd2 dd sl2 sl dt) ⟨ho2, ho, hq⟩)
    (fun _ hq => wpAny_isSame_ref_other hne ho ho2 (by simp) hq) (.inr hu) h
  refine wpAny_call_entry F.slot_dict_eq dl F.entry_dict_eq ?_ (F.args_dict_eq_2 _ _)
  show wpAny _ _ (Builtin.Dict.dictSlotArgs "__eq__" ⟨[.ref l, .ref b], []⟩ >>= _) _ _ s
  refine wpAny_bind ?_
  unfold Builtin.Dict.dictSlotArgs
  refine wpAny_bind (PySem.wpAny_notOrdered_dict dl ?_)
  show wpAny _ _ (pure (Value.ref l, Value.ref b)) _ _ s
  refine wpAny_pure ?_
  refine wpAny_bind (wpAny_isInstance db sub_tuple_dict ?_)
  simp only [Bool.not_false, if_true]
  exact wpAny_bind (wpAny_rule (wpAny_pure ⟨_, rfl, hq⟩))
end
end PySem.SeqAt
namespace Gs
open PySem PySem.Spec PyProof.Rows L2
open MeetsSeq
/-- data; the same thing; a dict and a tuple -/
def DMix (K : PySem.W.Frag) : EqvB := fun x y b H => (∃ d e, Dp K H x d ∧ Dp K H y e ∧ SeqAt.shaped d = true ∧ SeqAt.shaped e = true ∧ b = PyData.eqv d e) ∨ (∃ a, x = .ref a ∧ y = .ref a ∧ b = true) ∨
  ∃ a c kvs xs, x = .ref a ∧ y = .ref c ∧ H a = some (.dK kvs) ∧ SqT K H c xs ∧ b = false
section
variable {K : PySem.W.Frag} {H H' : Hp}
mutual
theorem dp_same (e : Same H H') : ∀ (d : PyData) (v : V), Dp K H v d → Dp K H' v d
  | .none, _, h => by cases h; exact .non
  | .bool _, _, h => by cases h; exact .bl _
  | .int _, _, h => by cases h; exact .int _
  | .str _, _, h => by cases h; exact .str _
  | .list ds, _, h => by
    cases h with
    | lst s r => exact .lst (e.seq s) (dps_same e ds _ r)
  | .tuple ds, _, h => by
    cases h with
    | tup s r => exact .tup (e.seqT s) (dps_same e ds _ r)
  | .dict ps, _, h => by cases h
theorem dps_same (e : Same H H') : ∀ (ds : List PyData) (vs : List V), DpAll K H vs ds → DpAll K H' vs ds
  | [], _, h => by cases h; exact .nil
  | d :: ds, _, h => by
    cases h with
    | cons a b => exact .cons (dp_same e d _ a) (dps_same e ds _ b)
end
end
theorem mon_mix {K : PySem.W.Frag} : MonB (DMix K) := fun x y b H H' s h => by
  rcases h with ⟨d, e, h1, h2, r⟩ | h | ⟨a, c, kvs, xs, r1, r2, h1, h2, r3⟩
  · exact .inl ⟨d, e, dp_same s d x h1, dp_same s e y h2, r⟩
  · exact .inr (.inl h)
  · exact .inr (.inr ⟨a, c, kvs, xs, r1, r2, s _ _ h1, s.seqT h2, r3⟩)
theorem eqW_mix {X : Cx} : EqW X 70 (DMix X.K) := by
  intro A pins s σ H x y u v b sb I rx ry h
  have hu := sb.room.units
  rcases h with ⟨d, e, h1, h2, s1, s2, rfl⟩ | ⟨a, rfl, rfl, rfl⟩ | ⟨a, c, kvs, xs, rfl, rfl, h1, h2, rfl⟩
  · obtain ⟨as, r1⟩ := Dp.reads I d x u h1 rx
    obtain ⟨bs, r2⟩ := Dp.reads I e y v h2 ry
    exact SeqAt.eqAt_reads d e A s u v as bs r1 r2 (SeqAt.canLay_of_shaped s1) (SeqAt.canLay_of_shaped s2) (SeqAt.room_of_shaped s1 (by omega)) X.prog X.w X.xe _ ⟨rfl, H, I, Same.refl H⟩
  · cases rx
    cases ry
    exact SeqAt.EqAt.same (A := A) (s := s) (.ref a) X.prog X.w X.xe _ ⟨rfl, H, I, Same.refl H⟩
  · cases rx
    cases ry
    obtain ⟨_, _, vs, _, o, es, ep, ho, hx, _⟩ := I.hok _ _ h1
    obtain ⟨its, rv, ht, _⟩ := I.tuple h2
    have hne : a ≠ c := fun e => by
      subst e
      obtain ⟨o2, ho2, hc2, _⟩ := id ht
      rw [ho] at ho2
      have e3 := Option.some.inj ho2
      rw [← e3, hx.1] at hc2
      exact absurd hc2 (by simp)
    refine GQ.eqBool_refG hne (SeqAt.rc_dict_tuple ho hx.1 ht (by omega) ⟨false, rfl, rfl, H, I, Same.refl H⟩)
end Gs

set_option Elab.async false
set_option linter.all false
set_option maxRecDepth 100000
set_option maxHeartbeats 4000000
/-! Layer G42: x == y where y's class is below x's: y's own __eq__ is asked first. -/
namespace PySem.W
open PySem PySem.Spec PySem.Calls PyProof.Rows
section
variable {prog : Program} {w : World} {A : Around} {E : Value → Shared → Prop} {s : Shared} {K : Frag} {x C y D f : Addr} {ox oy : Obj} {od oe : Option Obj}
theorem cmp_Kr {Q : Value → Shared → Prop} (hu : A.units < cLine) (X : K.In s.heap) (I : InstAt s.heap x ox C od) (J : InstAt s.heap y oy D oe) (hne : (Value.ref C != Value.ref D) = true) (hsub : subIn K (.ref D) (.ref C) = some true)
    (hs : findIn K (.ref D) "__eq__" = some (some (.ref f))) (hf : isFn K (.ref f) = true) (h : wpAny (model prog w) A (call (.ref f) [.ref y, .ref x]) (CmpBack Q) E s) : wpAny (model prog w) A (richCompare .Eq (.ref x) (.ref y)) Q E s := by
  have one : wpAny (model prog w) A (tryCompare (.ref y) "__eq__" (.ref x)) (fun r s' => ∃ v, r = some v ∧ Q v s') E s := by
    unfold tryCompare
    refine wpAny_bind (ifBound_K X J hs hf (wpAny_mono h (fun v s' hv => ?_) fun _ _ e => e))
    cases v <;> first | exact hv.elim | exact wpAny_pure ⟨_, rfl, hv⟩
  unfold richCompare
  simp only [oneThing_ref]
  refine wpAny_holding (wpAny_bind (wpAny_cRoomFor hu ?_))
  refine wpAny_bind (I.type.here (wpAny_bind (J.type.here ?_)))
  rw [if_pos hne]
  refine wpAny_bind ((looks_subIn X hsub).here ?_)
  rw [if_pos rfl]
  refine wpAny_bind (wpAny_mono one (fun r s' z => ?_) fun _ _ e => e)
  obtain ⟨v, rfl, hq⟩ := z
  exact wpAny_bind (wpAny_rule (wpAny_pure hq))
end
end PySem.W
namespace Gs
open PySem PySem.Spec PyProof.Rows L2
section
variable {X : Cx} {CX : CXT} {k : Nat} {f C D : Addr} {fd : FuncData} {ps : List Str} {sp : Sp} {E : XK}
def rOwnR (C D : Addr) (sp : Sp) (E : XK) : R2 := fun x y H Q => ∃ (a dx b dy : Addr) (fs gs : List (Str × V)), x = .ref a ∧ H a = some (.ins C dx fs) ∧ y = .ref b ∧ H b = some (.ins D dy gs) ∧ sp [.ref b, .ref a] H (fun v H' => ∃ r, v = .bl r ∧ Q (.bl r) H') E
theorem op_eqOwnR (O : OwnC X.K D f) (hne : (Value.ref C != Value.ref D) = true) (hsub : PySem.W.subIn X.K (.ref D) (.ref C) = some true) (F : FnOk X.prog X.w X.K X.mg X.base CX k f fd ps sp) (hr : Room k X.A) (hb : Binds X.K fd ps []) (hx : Passes CX X E) :
    OpR X (compareOp .Eq) (rOwnR C D sp E) := by
  intro pins s σ H x y v u Q I rx ry h
  obtain ⟨a, dx, b, dy, fs, gs, rfl, ha, rfl, hb2, q⟩ := h
  cases (show v = Value.ref a from rx)
  cases (show u = Value.ref b from ry)
  obtain ⟨_, J0, _⟩ := ins_get I.hok ha
  obtain ⟨_, J, _⟩ := J0.look
  obtain ⟨_, J1, _⟩ := ins_get I.hok hb2
  obtain ⟨_, J2, _⟩ := J1.look
  change wpAny _ X.A (richCompare .Eq (.ref a) (.ref b)) _ _ s
  refine PySem.W.cmp_Kr (by have := hr.units; omega) I.kIn J J2 hne hsub O.eq O.fe ?_
  refine wpAny_mono (run_sub (A := X.A) F hr rfl hb hx I (.cons (rel_ref b) (.cons (rel_ref a) .nil)) q) (fun z s' hz => ?_) fun _ _ e => e
  obtain ⟨v', H', I', rv, r, rfl, qq⟩ := hz
  cases rv
  exact ⟨.bl r, H', I', rfl, qq⟩
end
end Gs

set_option Elab.async false
set_option linter.all false
set_option maxRecDepth 100000
set_option maxHeartbeats 4000000
/-! Layer G20: set comprehensions of ints and texts; len of such a set. -/
namespace Gs
open PySem PySem.Spec PyProof.Rows L2
abbrev SK := (Key → Bool) × Nat
def keyKd (P : Program) (w : World) (K : PySem.W.Frag) : SetKd P w K SK where
  ob := fun D z => SetK P w D z.1 z.2
  zero := (fun _ => false, 0)
  fresh := fun H h => setK_new ⟨_, #[], 0, _, Heap.get?_push_size _ rfl, ⟨rfl, rfl, rfl⟩, rfl, (fun e he => by simp at he), (fun k => by simp), (by decide), (by rfl), rfl⟩
  adds := fun D y H F => ∃ (k : Key) (S : Key → Bool) (n : Nat), y = kV k ∧ H D = some (SetK P w D S n) ∧ n + 1 < scanBound ∧ F (upd H D (SetK P w D (fun j => S j || decide (j = k)) (if S k = true then n else n + 1)))
  rule := by
    rintro Y rfl rfl rfl hu pins σ H s E D y u F I r ⟨k, S, n, rfl, hD, room, q⟩
    refine call_set_add (kV_is r) (key_scan r) (setK_get I hD) room fun h' sb new => ?_
    have he : ∃ u, h'.get? D = some u := by
      have ⟨o, _, _, _, ho, _⟩ := new
      exact ⟨o, ho⟩
    exact ⟨_, I.write (e := D) (t' := s.toks + 1) (by rw [hD]; trivial) (.inl rfl) (fun b u hb hu => (sb.2 b hb).trans hu) he (setK_new new), q⟩
def rLenK (P : Program) (w : World) : List V → Hp → VK → Prop := fun xs H Q => ∃ (a : Addr) (S : Key → Bool) (n : Nat), xs = [.ref a] ∧ H a = some (SetK P w a S n) ∧ n < 1000000 ∧ Q (.int n) H
theorem call_lenK {X : Cx} : CallR X (.builtin "len") (rLenK X.prog X.w) := by
  intro pins s σ H xs us Q I r h
  obtain ⟨a, S, n, rfl, ha, hz, q⟩ := h
  rw [Vals.ref1 r]
  obtain ⟨o, es, ep, t, ho, hex, hd, h1, h2, h3, h4, h5⟩ := setK_get I ha
  exact call_len_set ho hex hd h4 (by omega) ⟨.int n, H, I.tok _, ⟨_, by rw [h5]⟩, q⟩
end Gs

set_option Elab.async false
set_option linter.all false
set_option maxRecDepth 100000
set_option maxHeartbeats 4000000
/-! Layer G21: zip of a list or a tuple with a list or a tuple. -/
namespace Gs
open PySem PySem.Spec PyProof.Rows L2
/-- a list (false) or a tuple (true) -/
def SqB (K : PySem.W.Frag) : Bool → Hp → Addr → List V → Prop
  | false, H, a, xs => SqL K H a xs
  | true, H, a, xs => SqT K H a xs
def ObB (h : Heap) : Bool → Addr → Array Value → Prop
  | false, l, xs => h.IsList l xs
  | true, l, xs => h.IsTuple l xs
def ItB (h : Heap) : Bool → Addr → Addr → Nat → Prop
  | false, it, l, i => h.IsListIter it l i
  | true, it, l, i => h.IsTupleIter it l i
theorem drawsB {prog : Program} {w : World} {A : Around} (hh : A.handled = none) (t : Bool) (it l : Addr) (hne : l ≠ it) (items : Array Value) :
    Draws prog w A it [it, l] items.size (fun i v => items[i]? = some v) (fun i h => ItB h t it l i ∧ ObB h t l items) := by
  cases t with
  | false => exact Draws.list hh it l hne items
  | true => exact Draws.tuple hh it l hne items
theorem ItB.at {h h' : Heap} {t : Bool} {it l : Addr} {i : Nat} (x : ItB h t it l i) (k : ∀ o, h.get? it = some o → h'.get? it = some o) : ItB h' t it l i := by
  cases t with
  | false => exact Heap.IsListIter.at x k
  | true => exact Heap.IsTupleIter.at x k
theorem ItB.ob {h : Heap} {t : Bool} {it l : Addr} {i : Nat} (x : ItB h t it l i) : ∃ o, h.get? it = some o ∧ ∀ v, o.data ≠ .cell v := by
  cases t with
  | false => obtain ⟨o, e, _, d⟩ := x; exact ⟨o, e, fun v q => by rw [d] at q; cases q⟩
  | true => obtain ⟨o, e, _, d⟩ := x; exact ⟨o, e, fun v q => by rw [d] at q; cases q⟩
def obB (t : Bool) (l : Addr) : Obj := if t = true then { cls := .type "tuple_iterator", data := .fields #[.ref l, .int 0 0] } else { cls := .type "list_iterator", data := .fields #[.ref l, .int 0 0] }
theorem beginsB (t : Bool) (l : Addr) (items : Array Value) : Begins (.ref l) (obB t l) fun h => ObB h t l items := by
  cases t with
  | false => exact begins_list l items
  | true => exact begins_tuple l items
theorem itB_new {h : Heap} {t : Bool} {it l : Addr} (e : h.get? it = some (obB t l)) : ItB h t it l 0 := by
  cases t with
  | false => exact ⟨_, e, rfl, rfl⟩
  | true => exact ⟨_, e, rfl, rfl⟩
section
variable {X : Cx} {pins : List (Addr × Obj)} {σ : L2.St} {H : Hp} {s : Shared}
theorem Inv.sqB {t : Bool} {a : Addr} {xs : List V} (I : Inv X pins σ H s) (h : SqB X.K t H a xs) : ∃ its : List Value, Vals xs its ∧ ObB s.heap t a its.toArray ∧ a < s.heap.objs.size := by
  cases t with
  | false =>
    obtain ⟨its, rv, p, _⟩ := I.list h
    exact ⟨its, rv, p.isList, p.lt⟩
  | true =>
    obtain ⟨its, rv, p, _⟩ := I.tuple h
    obtain ⟨o, ho, _⟩ := id p
    exact ⟨its, rv, p, Heap.lt_size ho⟩
theorem Inv.sqB_inj {t : Bool} {a : Addr} {xs ys : List V} (I : Inv X pins σ H s) (h : SqB X.K t H a xs) (h2 : SqB X.K t H a ys) : xs = ys := by
  cases t with
  | false => exact I.list_inj h h2
  | true => exact I.tuple_inj h h2
end
/-- the sequences at a and b as they stand at each turn, the items in new pairs -/
def ItzM (K : PySem.W.Frag) (t u : Bool) (a b : Addr) : It :=
  ⟨fun i H => ∃ (xs ys : List V) (x y : V), SqB K t H a xs ∧ SqB K u H b ys ∧ xs[i]? = some x ∧ ys[i]? = some y,
    fun i H v H' => ∃ T x y, v = .ref T ∧ H T = none ∧ H' = upd H T (.tup [x, y]) ∧ (∀ xs, SqB K t H a xs → xs[i]? = some x) ∧ ∀ ys, SqB K u H b ys → ys[i]? = some y,
    fun i H => ∃ xs ys : List V, SqB K t H a xs ∧ SqB K u H b ys ∧ i ≤ xs.length ∧ i ≤ ys.length ∧ (i = xs.length ∨ i = ys.length)⟩
theorem turn_zipM {P : Program} {w : World} {K : PySem.W.Frag} {elts : List Expr} {kk : Nat} {tpos : Pos} {t u : Bool} {a b z TI TO i1 i2 : Addr} (D : ZipSep2 z TI TO i1 i2 [i1, a] [i2, b]) (n1 : a ≠ i1) (n2 : b ≠ i2) :
    Turn P w K (.Tuple elts kk tpos) (ItzM K t u a b) [z, TI, TO, i1, i2] z (fun i h => IsZip h z TI TO .none ∧ IsTupOf2 h TI (.ref i1) (.ref i2) ∧ (∃ x y, IsTupOf2 h TO x y) ∧ ItB h t i1 a i ∧ ItB h u i2 b i) where
  mem := by simp
  obj := fun i h st c hc => by
    obtain ⟨hz, hTI, ⟨x, y, hTO⟩, h1, h2⟩ := st
    have e' : c = z ∨ c = TI ∨ c = TO ∨ c = i1 ∨ c = i2 := by simpa using hc
    rcases e' with q | q | q | q | q
    · rw [q]; exact ⟨_, hz, fun v q => nomatch q⟩
    · rw [q]; exact ⟨_, hTI, fun v q => nomatch q⟩
    · rw [q]; exact ⟨_, hTO, fun v q => nomatch q⟩
    · rw [q]; exact h1.ob
    · rw [q]; exact h2.ob
  keep := fun i h h' st k => by
    obtain ⟨hz, hTI, ⟨x, y, hTO⟩, h1, h2⟩ := st
    exact ⟨k z (by simp) _ hz, k TI (by simp) _ hTI, ⟨x, y, k TO (by simp) _ hTO⟩, h1.at fun o q => k i1 (by simp) o q, h2.at fun o q => k i2 (by simp) o q⟩
  item := by
    rintro X rfl rfl rfl hc i pins s σ H E I hf ⟨hz, hTI, ⟨x0, y0, hTO⟩, h1, h2⟩ ⟨xs, ys, x, y, hqx, hqy, hx, hy⟩
    obtain ⟨its, rv, p, _⟩ := Inv.sqB I hqx
    obtain ⟨its2, rv2, p2, _⟩ := Inv.sqB I hqy
    have l1 : its.length = xs.length := rv.length.symm
    have l2 : its2.length = ys.length := rv2.length.symm
    obtain ⟨v1, hu, ru⟩ := rv.get hx
    obtain ⟨v2, hu2, ru2⟩ := rv2.get hy
    have hzl : z < s.heap.objs.size := Heap.lt_size hz
    have g1 := (List.getElem?_eq_some_iff.mp hx).1
    have g2 := (List.getElem?_eq_some_iff.mp hy).1
    refine wpAny_pyNext_zipD2_item D (drawsB (A := X.A.in1) (show X.A.in1.handled = none from I.ok.hd hc) t i1 a n1 its.toArray) (drawsB (A := X.A.in1) (show X.A.in1.handled = none from I.ok.hd hc) u i2 b n2 its2.toArray) hz hTI hTO ⟨h1, p⟩ ⟨h2, p2⟩ (by simp; omega) (by simp; omega) fun x1 x2 h' tk e1 e2 z' TO' st1 st2 hT hsz hk => ?_
    have e1 : its.toArray[i]? = some x1 := e1
    have e2 : its2.toArray[i]? = some x2 := e2
    have e1 : v1 = x1 := by
      have q : its[i]? = some x1 := by simpa using e1
      rw [hu] at q; exact Option.some.inj q
    have e2 : v2 = x2 := by
      have q : its2[i]? = some x2 := by simpa using e2
      rw [hu2] at q; exact Option.some.inj q
    subst e1 e2
    refine ⟨_, rfl, wpAny_letOwnedTupleGo_zip (s := { s with heap := h', toks := tk }) z' fun h'' z'' sb => ?_⟩
    have hT2 : h''.get? s.heap.objs.size = some { cls := .type "tuple", data := .seq #[v1, v2] } := (sb.2 _ (Nat.ne_of_gt hzl)).trans hT
    have new : ObjOk X.prog X.w (upd H s.heap.objs.size (.tup [x, y])) h'' s.heap.objs.size (.tup [x, y]) :=
      ⟨by show 2 ≤ sizeLine; decide, [v1, v2], .cons ru (.cons ru2 .nil), ⟨_, hT2, rfl, _, rfl⟩⟩
    have I1 : Inv X pins σ (upd H s.heap.objs.size (.tup [x, y])) { s with heap := h'', toks := tk } :=
      I.turnedNew (t' := tk) (ch := [z, TI, TO, i1, i2]) (fun c o hb q => (sb.2 c (fun q' => hb (by simp [q']))).trans (hk c o (fun q' => hb (by simp [q'])) (fun q' => hb (by simp [q'])) (fun q' => hb (by simp [q'])) (fun q' => hb (by simp [q'])) q)) hf (Nat.le_refl _) new
    have ni1 : i1 ≠ z := fun q => D.zf1 (by rw [← q]; simp)
    have ni2 : i2 ≠ z := fun q => D.zf2 (by rw [← q]; simp)
    refine ⟨.ref s.heap.objs.size, _, I1, rfl, ⟨_, x, y, rfl, I.hok.fresh (Nat.le_refl _), rfl, fun l hl => by rw [Inv.sqB_inj I hl hqx]; exact hx, fun l hl => by rw [Inv.sqB_inj I hl hqy]; exact hy⟩, ⟨z'', ?_, ⟨v1, v2, ?_⟩, ?_, ?_⟩, fun c hcm => ?_⟩
    · exact (sb.2 _ D.TIz).trans (hk _ _ D.TIz D.TITO D.TIi1 D.TIi2 hTI)
    · exact (sb.2 _ D.TOz).trans TO'
    · exact st1.1.at fun o q => (sb.2 _ ni1).trans q
    · exact st2.1.at fun o q => (sb.2 _ ni2).trans q
    · have hlt : c < s.heap.objs.size := by
        have e' : c = z ∨ c = TI ∨ c = TO ∨ c = i1 ∨ c = i2 := by simpa using hcm
        rcases e' with q | q | q | q | q
        · rw [q]; exact hzl
        · rw [q]; exact Heap.lt_size hTI
        · rw [q]; exact Heap.lt_size hTO
        · rw [q]; obtain ⟨_, e1, _⟩ := h1.ob; exact Heap.lt_size e1
        · rw [q]; obtain ⟨_, e2, _⟩ := h2.ob; exact Heap.lt_size e2
      rw [upd_ne (Nat.ne_of_lt hlt)]
      exact (hf c hcm).1
  done := by
    rintro X rfl rfl rfl hc i pins s σ H E I hf ⟨hz, hTI, ⟨x0, y0, hTO⟩, h1, h2⟩ ⟨xs, ys, hqx, hqy, m1, m2, hend⟩
    obtain ⟨its, rv, p, _⟩ := Inv.sqB I hqx
    obtain ⟨its2, rv2, p2, _⟩ := Inv.sqB I hqy
    have l1 : its.length = xs.length := rv.length.symm
    have l2 : its2.length = ys.length := rv2.length.symm
    exact wpAny_pyNext_zipD2_end D (drawsB (A := X.A.in1) (show X.A.in1.handled = none from I.ok.hd hc) t i1 a n1 its.toArray) (drawsB (A := X.A.in1) (show X.A.in1.handled = none from I.ok.hd hc) u i2 b n2 its2.toArray) hz hTI hTO ⟨h1, p⟩ ⟨h2, p2⟩ (by simp; omega) (by simp; omega) (by simp; omega) fun h' tk hk =>
      ⟨rfl, I.turnedL (t' := tk) (ch := [z, TI, TO, i1, i2]) (fun c o hb q => hk c o (fun q' => hb (by simp [q'])) (fun q' => hb (by simp [q'])) (fun q' => hb (by simp [q'])) (fun q' => hb (by simp [q'])) q) hf⟩
  self := fun A i s Q E st h => wpAny_pyIter_zip st.1 h
def iZipM (K : PySem.W.Frag) (ta : TA) : TI := fun σ H R => ta σ H fun vs H1 => ∃ a b t u xs ys, vs = [.ref a, .ref b] ∧ SqB K t H1 a xs ∧ SqB K u H1 b ys ∧ R (ItzM K t u a b) H1
theorem pi_zipM {X : Cx} {e e2 : Expr} {ta : TA} {p pos tpos : Pos} {elts : List Expr} {kk : Nat} (hg : Gl X "zip") (hm : X.mg "zip" = none) (ha : PA X [e, e2] ta)
    (hs : starEach [e, e2] X.env = (false, eval e X.env) :: starEach [e2] X.env := by rfl) (hpl : (backTo pos (starEach [e2] X.env)).any (·.1) = false := by rfl) :
    PI X (.Tuple elts kk tpos) (.Call (.Name "zip" p) [e, e2] [] pos) (iZipM X.K ta) := by
  refine ⟨fun pins s σ H R I h => ?_⟩
  refine Call_ (ld_blt I hg hm PyProof.Rows.boot_zip (PyProof.Rows.callWith_type1 (thn (ha.run pos pins s σ H _ I h) fun us s1 ⟨vs, H1, I1, r1, q1⟩ => ?_) hs hpl))
  obtain ⟨a, b, t, u, xs, ys, ex, hqx, hqy, q⟩ := q1
  subst ex
  cases r1 with
  | cons r rr =>
    cases rr with
    | cons r' rr =>
      cases rr
      cases r
      cases r'
      obtain ⟨its, rv, p1, a1⟩ := Inv.sqB I1 hqx
      obtain ⟨its2, rv2, p2, a2⟩ := Inv.sqB I1 hqy
      refine zip_begins2 (beginsB t a its.toArray) (beginsB u b its2.toArray) p1 p2 fun h' hz hTI hTO h1 h2 hsz hk => wpAny_pyIter_zip hz ?_
      have fresh5 : ∀ c, c ∈ [s1.heap.objs.size + 4, s1.heap.objs.size + 2, s1.heap.objs.size + 3, s1.heap.objs.size, s1.heap.objs.size + 1] → FpOk X pins H1 c := fun c hcm => by
        have hle : s1.heap.objs.size ≤ c := by
          simp only [List.mem_cons, List.not_mem_nil, or_false] at hcm
          rcases hcm with z | z | z | z | z
          · rw [z]; exact Nat.le_add_right _ _
          · rw [z]; exact Nat.le_add_right _ _
          · rw [z]; exact Nat.le_add_right _ _
          · rw [z]; exact Nat.le_refl _
          · rw [z]; exact Nat.le_add_right _ _
        exact I1.fpOk hle (I1.hok.fresh hle)
      have I2 : Inv X pins σ H1 { s1 with heap := h' } := I1.kept (t' := s1.toks) hk
      exact ⟨s1.heap.objs.size + 4, [s1.heap.objs.size + 4, s1.heap.objs.size + 2, s1.heap.objs.size + 3, s1.heap.objs.size, s1.heap.objs.size + 1], _, _, H1, rfl, I2,
        turn_zipM (zip_sep2 (fp1 := [a]) (fp2 := [b]) (fun c hc => by rw [List.mem_singleton.mp hc]; exact a1) (fun c hc => by rw [List.mem_singleton.mp hc]; exact a2)) (Nat.ne_of_lt a1) (Nat.ne_of_lt (Nat.lt_succ_of_lt a2)), ⟨hz, hTI, ⟨_, _, hTO⟩, itB_new h1, itB_new h2⟩, fresh5, q⟩
/-- two sequences of one length that stand -/
theorem walk_zipM {K : PySem.W.Frag} {t u : Bool} {a b : Addr} {xs ys : List V} (hl : xs.length = ys.length) : Walk (ItzM K t u a b) xs.length (fun H => SqB K t H a xs ∧ SqB K u H b ys) (fun i H v H' => ∃ T x y, v = .ref T ∧ H T = none ∧ H' = upd H T (.tup [x, y]) ∧ xs[i]? = some x ∧ ys[i]? = some y) where
  goes := fun i H hi g => ⟨xs, ys, xs[i], ys[i]'(by omega), g.1, g.2, by simp [hi], by simp⟩
  stops := fun H g => ⟨xs, ys, g.1, g.2, Nat.le_refl _, by omega, .inl rfl⟩
  yields := fun i H x H' hi g h => by
    obtain ⟨T, x, y, h1, h2, h3, h4, h5⟩ := h
    exact ⟨T, x, y, h1, h2, h3, h4 _ g.1, h5 _ g.2⟩
theorem pe_fldK {X : Cx} {K : PySem.W.Frag} {e : Expr} {te : TE} {pos : Pos} {n : Str} (eK : X.K = K) (he : PE X e te) (hb : attributeBase e n X.env (eval e X.env) = eval e X.env := by rfl) : PE X (.Attribute e n pos) (tFld K te n) := by
  subst eK; exact pe_fld he hb
end Gs

set_option Elab.async false
set_option linter.all false
set_option maxRecDepth 100000
set_option maxHeartbeats 4000000
namespace K02
open PySem PySem.Spec PyProof.Rows L2 Gs
theorem szM {n : Nat} (h : n ≤ 1000000) : n ≤ sizeLine := Nat.le_trans h (by decide)
theorem szK {n : Nat} (h : n < 1000001) : n < sizeLine := Nat.lt_of_lt_of_le h (by decide)
def top (i : Nat) : Stmt := PySem.Challenge.pw_gapsame_k02_papers_keep_what_they_tell.main.body.getD i (.Pass ⟨0, 0, 0, 0⟩)
abbrev s_is_list : Stmt := top 1
abbrev n_is_list : List Str := ["value"]
theorem sc_is_list : FnScope n_is_list ["value"] (defScope s_is_list) := ⟨rfl, rfl, rfl, by decide +kernel, rfl, by decide +kernel, by decide +kernel⟩
abbrev s_fixed : Stmt := top 3
abbrev n_fixed : List Str := ["value", "item"]
theorem sc_fixed : FnScope n_fixed ["value"] (defScope s_fixed) := ⟨rfl, rfl, rfl, by decide +kernel, rfl, by decide +kernel, by decide +kernel⟩
abbrev s_Paper___init__ : Stmt := inClass (top 4) 0
abbrev n_Paper___init__ : List Str := ["self", "word", "parts"]
theorem sc_Paper___init__ : FnScope n_Paper___init__ ["self", "word", "parts"] (defScope s_Paper___init__) := ⟨rfl, rfl, rfl, by decide +kernel, rfl, by decide +kernel, by decide +kernel⟩
abbrev s_Paper___eq__ : Stmt := inClass (top 4) 1
abbrev n_Paper___eq__ : List Str := ["self", "other"]
theorem sc_Paper___eq__ : FnScope n_Paper___eq__ ["self", "other"] (defScope s_Paper___eq__) := ⟨rfl, rfl, rfl, by decide +kernel, rfl, by decide +kernel, by decide +kernel⟩
abbrev s_Paper___bool__ : Stmt := inClass (top 4) 2
abbrev n_Paper___bool__ : List Str := ["self"]
theorem sc_Paper___bool__ : FnScope n_Paper___bool__ ["self"] (defScope s_Paper___bool__) := ⟨rfl, rfl, rfl, by decide +kernel, rfl, by decide +kernel, by decide +kernel⟩
abbrev s_Denial___init__ : Stmt := inClass (top 5) 0
abbrev n_Denial___init__ : List Str := ["self", "word", "parts"]
theorem sc_Denial___init__ : FnScope n_Denial___init__ ["self", "word", "parts"] (defScope s_Denial___init__) := ⟨rfl, rfl, rfl, by decide +kernel, rfl, by decide +kernel, by decide +kernel⟩
abbrev s_Denial___eq__ : Stmt := inClass (top 5) 1
abbrev n_Denial___eq__ : List Str := ["self", "other"]
theorem sc_Denial___eq__ : FnScope n_Denial___eq__ ["self", "other"] (defScope s_Denial___eq__) := ⟨rfl, rfl, rfl, by decide +kernel, rfl, by decide +kernel, by decide +kernel⟩
abbrev s_Denial___bool__ : Stmt := inClass (top 5) 2
abbrev n_Denial___bool__ : List Str := ["self"]
theorem sc_Denial___bool__ : FnScope n_Denial___bool__ ["self"] (defScope s_Denial___bool__) := ⟨rfl, rfl, rfl, by decide +kernel, rfl, by decide +kernel, by decide +kernel⟩
abbrev s_is_same_paper : Stmt := top 6
abbrev n_is_same_paper : List Str := ["paper", "other"]
theorem sc_is_same_paper : FnScope n_is_same_paper ["paper", "other"] (defScope s_is_same_paper) := ⟨rfl, rfl, rfl, by decide +kernel, rfl, by decide +kernel, by decide +kernel⟩
abbrev s_Won___init__ : Stmt := inClass (top 8) 0
abbrev n_Won___init__ : List Str := ["self", "book"]
theorem sc_Won___init__ : FnScope n_Won___init__ ["self", "book"] (defScope s_Won___init__) := ⟨rfl, rfl, rfl, by decide +kernel, rfl, by decide +kernel, by decide +kernel⟩
abbrev s_Unwon___init__ : Stmt := inClass (top 9) 0
abbrev n_Unwon___init__ : List Str := ["self", "replies"]
theorem sc_Unwon___init__ : FnScope n_Unwon___init__ ["self", "replies"] (defScope s_Unwon___init__) := ⟨rfl, rfl, rfl, by decide +kernel, rfl, by decide +kernel, by decide +kernel⟩
abbrev s_Alike___init__ : Stmt := inClass (top 11) 0
abbrev n_Alike___init__ : List Str := ["self"]
theorem sc_Alike___init__ : FnScope n_Alike___init__ ["self"] (defScope s_Alike___init__) := ⟨rfl, rfl, rfl, by decide +kernel, rfl, by decide +kernel, by decide +kernel⟩
abbrev s_Unlike___init__ : Stmt := inClass (top 12) 0
abbrev n_Unlike___init__ : List Str := ["self", "part"]
theorem sc_Unlike___init__ : FnScope n_Unlike___init__ ["self", "part"] (defScope s_Unlike___init__) := ⟨rfl, rfl, rfl, by decide +kernel, rfl, by decide +kernel, by decide +kernel⟩
abbrev s_Family___init__ : Stmt := inClass (top 14) 0
abbrev n_Family___init__ : List Str := ["self", "papers"]
theorem sc_Family___init__ : FnScope n_Family___init__ ["self", "papers"] (defScope s_Family___init__) := ⟨rfl, rfl, rfl, by decide +kernel, rfl, by decide +kernel, by decide +kernel⟩
abbrev s__law_tray : Stmt := top 16
abbrev n__law_tray : List Str := ["script", "cell"]
theorem sc__law_tray : FnScope n__law_tray ["script"] (defScope s__law_tray) := ⟨rfl, rfl, rfl, by decide +kernel, rfl, by decide +kernel, by decide +kernel⟩
abbrev s__law_hold : Stmt := top 17
abbrev n__law_hold : List Str := ["tray", "many", "rest", "at", "cell", "mixed"]
theorem sc__law_hold : FnScope n__law_hold ["tray", "many"] (defScope s__law_hold) := ⟨rfl, rfl, rfl, by decide +kernel, rfl, by decide +kernel, by decide +kernel⟩
abbrev s__law_one : Stmt := top 18
abbrev n__law_one : List Str := ["tray", "some"]
theorem sc__law_one : FnScope n__law_one ["tray", "some"] (defScope s__law_one) := ⟨rfl, rfl, rfl, by decide +kernel, rfl, by decide +kernel, by decide +kernel⟩
abbrev s__law_value : Stmt := top 19
abbrev n__law_value : List Str := ["tray", "number", "some"]
theorem sc__law_value : FnScope n__law_value ["tray"] (defScope s__law_value) := ⟨rfl, rfl, rfl, by decide +kernel, rfl, by decide +kernel, by decide +kernel⟩
abbrev s__law_own : Stmt := top 20
abbrev n__law_own : List Str := ["value", "part"]
theorem sc__law_own : FnScope n__law_own ["value"] (defScope s__law_own) := ⟨rfl, rfl, rfl, by decide +kernel, rfl, by decide +kernel, by decide +kernel⟩
abbrev s__law_made : Stmt := top 21
abbrev n__law_made : List Str := ["at", "one", "is_named"]
theorem sc__law_made : FnScope n__law_made ["at", "one", "is_named"] (defScope s__law_made) := ⟨rfl, rfl, rfl, by decide +kernel, rfl, by decide +kernel, by decide +kernel⟩
abbrev s__law_kept : Stmt := top 22
abbrev n__law_kept : List Str := ["at", "paper"]
theorem sc__law_kept : FnScope n__law_kept ["at", "paper"] (defScope s__law_kept) := ⟨rfl, rfl, rfl, by decide +kernel, rfl, by decide +kernel, by decide +kernel⟩
abbrev s__law_paper_right : Stmt := top 23
abbrev n__law_paper_right : List Str := ["tray", "at", "word", "is_denial", "one", "due", "paper", "again", "each", "plain", "other"]
theorem sc__law_paper_right : FnScope n__law_paper_right ["tray", "at"] (defScope s__law_paper_right) := ⟨rfl, rfl, rfl, by decide +kernel, rfl, by decide +kernel, by decide +kernel⟩
abbrev s__law_deep_right : Stmt := top 24
abbrev n__law_deep_right : List Str := ["tray", "value", "due", "turn"]
theorem sc__law_deep_right : FnScope n__law_deep_right ["tray"] (defScope s__law_deep_right) := ⟨rfl, rfl, rfl, by decide +kernel, rfl, by decide +kernel, by decide +kernel⟩
abbrev s_law : Stmt := top 25
abbrev n_law : List Str := ["script", "tray", "at", "note"]
theorem sc_law : FnScope n_law ["script"] (defScope s_law) := ⟨rfl, rfl, rfl, by decide +kernel, rfl, by decide +kernel, by decide +kernel⟩
def suB (K : PySem.W.Frag) (l : List (Addr × Addr)) : Bool := l.all fun p => (Value.ref p.2 != Value.ref p.1) && (PySem.W.subIn K (.ref p.1) (.ref p.2) == some true)
theorem suB_of {K : PySem.W.Frag} {l : List (Addr × Addr)} (h : suB K l = true) : ∀ p ∈ l, (Value.ref p.2 != Value.ref p.1) = true ∧ PySem.W.subIn K (.ref p.1) (.ref p.2) = some true := fun p hp => by
  obtain ⟨a, b⟩ := Bool.and_eq_true_iff.mp (List.all_eq_true.mp h p hp)
  exact ⟨a, beq_iff_eq.mp b⟩
def nfB (K : PySem.W.Frag) (l m : List Addr) : Bool := l.all fun a => m.all fun b => PySem.W.notFirst K b (.ref a)
theorem nfB_of {K : PySem.W.Frag} {l m : List Addr} (h : nfB K l m = true) : ∀ a ∈ l, ∀ b ∈ m, PySem.W.notFirst K b (.ref a) = true := fun a ha b hb => List.all_eq_true.mp (List.all_eq_true.mp h a ha) b hb
def ntB (K : PySem.W.Frag) (m : List Addr) : Bool := m.all fun b => PySem.W.notFirst K b (.type "tuple")
theorem ntB_of {K : PySem.W.Frag} {m : List Addr} (h : ntB K m = true) : ∀ b ∈ m, PySem.W.notFirst K b (.type "tuple") = true := fun b hb => List.all_eq_true.mp h b hb
structure Tx (K : PySem.W.Frag) (mg : Str → Option Value) where
  c_Paper : Addr
  c_Denial : Addr
  c_Alike : Addr
  c_Unlike : Addr
  c_Won : Addr
  c_Unwon : Addr
  c_Family : Addr
  a_is_list : Addr
  d_is_list : FuncData
  F_is_list : Fun K "is_list" "is_list" s_is_list a_is_list d_is_list
  m_is_list : mg "is_list" = some (.ref a_is_list)
  b_is_list : Binds K d_is_list ["value"] []
  a_fixed : Addr
  d_fixed : FuncData
  F_fixed : Fun K "fixed" "fixed" s_fixed a_fixed d_fixed
  m_fixed : mg "fixed" = some (.ref a_fixed)
  b_fixed : Binds K d_fixed ["value"] []
  a_Paper___init__ : Addr
  d_Paper___init__ : FuncData
  F_Paper___init__ : Fun K "__init__" "Paper.__init__" s_Paper___init__ a_Paper___init__ d_Paper___init__
  a_Paper___eq__ : Addr
  d_Paper___eq__ : FuncData
  F_Paper___eq__ : Fun K "__eq__" "Paper.__eq__" s_Paper___eq__ a_Paper___eq__ d_Paper___eq__
  b_Paper___eq__ : Binds K d_Paper___eq__ ["self", "other"] []
  a_Paper___bool__ : Addr
  d_Paper___bool__ : FuncData
  F_Paper___bool__ : Fun K "__bool__" "Paper.__bool__" s_Paper___bool__ a_Paper___bool__ d_Paper___bool__
  b_Paper___bool__ : Binds K d_Paper___bool__ ["self"] []
  a_Denial___init__ : Addr
  d_Denial___init__ : FuncData
  F_Denial___init__ : Fun K "__init__" "Denial.__init__" s_Denial___init__ a_Denial___init__ d_Denial___init__
  a_Denial___eq__ : Addr
  d_Denial___eq__ : FuncData
  F_Denial___eq__ : Fun K "__eq__" "Denial.__eq__" s_Denial___eq__ a_Denial___eq__ d_Denial___eq__
  b_Denial___eq__ : Binds K d_Denial___eq__ ["self", "other"] []
  a_Denial___bool__ : Addr
  d_Denial___bool__ : FuncData
  F_Denial___bool__ : Fun K "__bool__" "Denial.__bool__" s_Denial___bool__ a_Denial___bool__ d_Denial___bool__
  b_Denial___bool__ : Binds K d_Denial___bool__ ["self"] []
  a_is_same_paper : Addr
  d_is_same_paper : FuncData
  F_is_same_paper : Fun K "is_same_paper" "is_same_paper" s_is_same_paper a_is_same_paper d_is_same_paper
  m_is_same_paper : mg "is_same_paper" = some (.ref a_is_same_paper)
  b_is_same_paper : Binds K d_is_same_paper ["paper", "other"] []
  a_Won___init__ : Addr
  d_Won___init__ : FuncData
  F_Won___init__ : Fun K "__init__" "Won.__init__" s_Won___init__ a_Won___init__ d_Won___init__
  b_Won___init__ : Binds K d_Won___init__ ["self", "book"] []
  a_Unwon___init__ : Addr
  d_Unwon___init__ : FuncData
  F_Unwon___init__ : Fun K "__init__" "Unwon.__init__" s_Unwon___init__ a_Unwon___init__ d_Unwon___init__
  b_Unwon___init__ : Binds K d_Unwon___init__ ["self", "replies"] []
  a_Alike___init__ : Addr
  d_Alike___init__ : FuncData
  F_Alike___init__ : Fun K "__init__" "Alike.__init__" s_Alike___init__ a_Alike___init__ d_Alike___init__
  b_Alike___init__ : Binds K d_Alike___init__ ["self"] []
  a_Unlike___init__ : Addr
  d_Unlike___init__ : FuncData
  F_Unlike___init__ : Fun K "__init__" "Unlike.__init__" s_Unlike___init__ a_Unlike___init__ d_Unlike___init__
  b_Unlike___init__ : Binds K d_Unlike___init__ ["self", "part"] []
  a_Family___init__ : Addr
  d_Family___init__ : FuncData
  F_Family___init__ : Fun K "__init__" "Family.__init__" s_Family___init__ a_Family___init__ d_Family___init__
  b_Family___init__ : Binds K d_Family___init__ ["self", "papers"] []
  a__law_tray : Addr
  d__law_tray : FuncData
  F__law_tray : Fun K "_law_tray" "_law_tray" s__law_tray a__law_tray d__law_tray
  m__law_tray : mg "_law_tray" = some (.ref a__law_tray)
  b__law_tray : Binds K d__law_tray ["script"] []
  a__law_hold : Addr
  d__law_hold : FuncData
  F__law_hold : Fun K "_law_hold" "_law_hold" s__law_hold a__law_hold d__law_hold
  m__law_hold : mg "_law_hold" = some (.ref a__law_hold)
  b__law_hold : Binds K d__law_hold ["tray", "many"] []
  a__law_one : Addr
  d__law_one : FuncData
  F__law_one : Fun K "_law_one" "_law_one" s__law_one a__law_one d__law_one
  m__law_one : mg "_law_one" = some (.ref a__law_one)
  b__law_one : Binds K d__law_one ["tray", "some"] []
  a__law_value : Addr
  d__law_value : FuncData
  F__law_value : Fun K "_law_value" "_law_value" s__law_value a__law_value d__law_value
  m__law_value : mg "_law_value" = some (.ref a__law_value)
  b__law_value : Binds K d__law_value ["tray"] []
  a__law_own : Addr
  d__law_own : FuncData
  F__law_own : Fun K "_law_own" "_law_own" s__law_own a__law_own d__law_own
  m__law_own : mg "_law_own" = some (.ref a__law_own)
  b__law_own : Binds K d__law_own ["value"] []
  a__law_made : Addr
  d__law_made : FuncData
  F__law_made : Fun K "_law_made" "_law_made" s__law_made a__law_made d__law_made
  m__law_made : mg "_law_made" = some (.ref a__law_made)
  b__law_made : Binds K d__law_made ["at", "one", "is_named"] []
  a__law_kept : Addr
  d__law_kept : FuncData
  F__law_kept : Fun K "_law_kept" "_law_kept" s__law_kept a__law_kept d__law_kept
  m__law_kept : mg "_law_kept" = some (.ref a__law_kept)
  b__law_kept : Binds K d__law_kept ["at", "paper"] []
  a__law_paper_right : Addr
  d__law_paper_right : FuncData
  F__law_paper_right : Fun K "_law_paper_right" "_law_paper_right" s__law_paper_right a__law_paper_right d__law_paper_right
  m__law_paper_right : mg "_law_paper_right" = some (.ref a__law_paper_right)
  b__law_paper_right : Binds K d__law_paper_right ["tray", "at"] []
  a__law_deep_right : Addr
  d__law_deep_right : FuncData
  F__law_deep_right : Fun K "_law_deep_right" "_law_deep_right" s__law_deep_right a__law_deep_right d__law_deep_right
  m__law_deep_right : mg "_law_deep_right" = some (.ref a__law_deep_right)
  b__law_deep_right : Binds K d__law_deep_right ["tray"] []
  a_law : Addr
  d_law : FuncData
  F_law : Fun K "law" "law" s_law a_law d_law
  m_law : mg "law" = some (.ref a_law)
  b_law : Binds K d_law ["script"] []
  m_Paper : mg "Paper" = some (.ref c_Paper)
  cl_Paper : Cls K c_Paper
  nF_Paper_word : NoAttr K c_Paper "word"
  nF_Paper_parts : NoAttr K c_Paper "parts"
  mk_Paper : Mk K c_Paper a_Paper___init__
  m_Denial : mg "Denial" = some (.ref c_Denial)
  cl_Denial : Cls K c_Denial
  nF_Denial_word : NoAttr K c_Denial "word"
  nF_Denial_parts : NoAttr K c_Denial "parts"
  mk_Denial : Mk K c_Denial a_Denial___init__
  m_Alike : mg "Alike" = some (.ref c_Alike)
  cl_Alike : Cls K c_Alike
  nF_Alike_word : NoAttr K c_Alike "word"
  nF_Alike_parts : NoAttr K c_Alike "parts"
  mk_Alike : Mk K c_Alike a_Alike___init__
  m_Unlike : mg "Unlike" = some (.ref c_Unlike)
  cl_Unlike : Cls K c_Unlike
  nF_Unlike_word : NoAttr K c_Unlike "word"
  nF_Unlike_parts : NoAttr K c_Unlike "parts"
  nF_Unlike_part : NoAttr K c_Unlike "part"
  mk_Unlike : Mk K c_Unlike a_Unlike___init__
  m_Won : mg "Won" = some (.ref c_Won)
  cl_Won : Cls K c_Won
  nF_Won_word : NoAttr K c_Won "word"
  nF_Won_parts : NoAttr K c_Won "parts"
  nF_Won_book : NoAttr K c_Won "book"
  mk_Won : Mk K c_Won a_Won___init__
  m_Unwon : mg "Unwon" = some (.ref c_Unwon)
  cl_Unwon : Cls K c_Unwon
  nF_Unwon_word : NoAttr K c_Unwon "word"
  nF_Unwon_parts : NoAttr K c_Unwon "parts"
  nF_Unwon_replies : NoAttr K c_Unwon "replies"
  mk_Unwon : Mk K c_Unwon a_Unwon___init__
  m_Family : mg "Family" = some (.ref c_Family)
  cl_Family : Cls K c_Family
  nF_Family_word : NoAttr K c_Family "word"
  nF_Family_parts : NoAttr K c_Family "parts"
  nF_Family_papers : NoAttr K c_Family "papers"
  mk_Family : Mk K c_Family a_Family___init__
  z_isinstance : mg "isinstance" = none
  z_int : mg "int" = none
  z_bool : mg "bool" = none
  z_list : mg "list" = none
  z_tuple : mg "tuple" = none
  z_len : mg "len" = none
  z_abs : mg "abs" = none
  z_range : mg "range" = none
  z_repr : mg "repr" = none
  z_str : mg "str" = none
  kb_fixed : KB K d_fixed ["value"] ["value"] 0 (fun _ ws => ws) (fun _ zs => zs)
  kb_Unlike : KBn K d_Unlike___init__ ["self", "part"] 1 ["part"] (fun us ws => us ++ ws) (fun us ws => us ++ ws)
  kb_Won : KBn K d_Won___init__ ["self", "book"] 1 ["book"] (fun us ws => us ++ ws) (fun us ws => us ++ ws)
  kb_Unwon : KBn K d_Unwon___init__ ["self", "replies"] 1 ["replies"] (fun us ws => us ++ ws) (fun us ws => us ++ ws)
  kb_Family : KBn K d_Family___init__ ["self", "papers"] 1 ["papers"] (fun us ws => us ++ ws) (fun us ws => us ++ ws)
  cn_Paper : Gs.CName K c_Paper "Paper"
  ty_Paper : Gs.TyC K c_Paper
  kp_Paper : PySem.W.kitOne K (.ref c_Paper) (.ref c_Paper) = some true
  kd_Paper : PySem.W.kitOne K (.ref c_Paper) (.ref c_Denial) = some false
  ob_Paper : Gs.OwnB K c_Paper a_Paper___bool__
  oc_Paper : Gs.OwnC K c_Paper a_Paper___eq__
  cn_Denial : Gs.CName K c_Denial "Denial"
  ty_Denial : Gs.TyC K c_Denial
  kp_Denial : PySem.W.kitOne K (.ref c_Denial) (.ref c_Paper) = some true
  kd_Denial : PySem.W.kitOne K (.ref c_Denial) (.ref c_Denial) = some true
  ob_Denial : Gs.OwnB K c_Denial a_Denial___bool__
  oc_Denial : Gs.OwnC K c_Denial a_Denial___eq__
  cn_Alike : Gs.CName K c_Alike "Alike"
  ty_Alike : Gs.TyC K c_Alike
  kp_Alike : PySem.W.kitOne K (.ref c_Alike) (.ref c_Paper) = some true
  kd_Alike : PySem.W.kitOne K (.ref c_Alike) (.ref c_Denial) = some false
  ob_Alike : Gs.OwnB K c_Alike a_Paper___bool__
  oc_Alike : Gs.OwnC K c_Alike a_Paper___eq__
  cn_Unlike : Gs.CName K c_Unlike "Unlike"
  ty_Unlike : Gs.TyC K c_Unlike
  kp_Unlike : PySem.W.kitOne K (.ref c_Unlike) (.ref c_Paper) = some true
  kd_Unlike : PySem.W.kitOne K (.ref c_Unlike) (.ref c_Denial) = some true
  ob_Unlike : Gs.OwnB K c_Unlike a_Denial___bool__
  oc_Unlike : Gs.OwnC K c_Unlike a_Denial___eq__
  cn_Won : Gs.CName K c_Won "Won"
  ty_Won : Gs.TyC K c_Won
  kp_Won : PySem.W.kitOne K (.ref c_Won) (.ref c_Paper) = some true
  kd_Won : PySem.W.kitOne K (.ref c_Won) (.ref c_Denial) = some false
  ob_Won : Gs.OwnB K c_Won a_Paper___bool__
  oc_Won : Gs.OwnC K c_Won a_Paper___eq__
  cn_Unwon : Gs.CName K c_Unwon "Unwon"
  ty_Unwon : Gs.TyC K c_Unwon
  kp_Unwon : PySem.W.kitOne K (.ref c_Unwon) (.ref c_Paper) = some true
  kd_Unwon : PySem.W.kitOne K (.ref c_Unwon) (.ref c_Denial) = some true
  ob_Unwon : Gs.OwnB K c_Unwon a_Denial___bool__
  oc_Unwon : Gs.OwnC K c_Unwon a_Denial___eq__
  cn_Family : Gs.CName K c_Family "Family"
  ty_Family : Gs.TyC K c_Family
  kp_Family : PySem.W.kitOne K (.ref c_Family) (.ref c_Paper) = some true
  kd_Family : PySem.W.kitOne K (.ref c_Family) (.ref c_Denial) = some false
  ob_Family : Gs.OwnB K c_Family a_Paper___bool__
  oc_Family : Gs.OwnC K c_Family a_Paper___eq__
  fi_Paper : Gs.FInit K c_Paper a_Paper___init__
  fi_Denial : Gs.FInit K c_Denial a_Denial___init__
  kt_Paper : PySem.W.kitOne K (.type "tuple") (.ref c_Paper) = some false
  su : ∀ p ∈ ([(c_Denial, c_Paper), (c_Alike, c_Paper), (c_Won, c_Paper), (c_Family, c_Paper), (c_Unlike, c_Denial), (c_Unwon, c_Denial)] : List (Addr × Addr)), (Value.ref p.2 != Value.ref p.1) = true ∧ PySem.W.subIn K (.ref p.1) (.ref p.2) = some true
  nf : ∀ a ∈ ([c_Paper, c_Denial, c_Alike, c_Unlike, c_Won, c_Unwon, c_Family] : List Addr), ∀ b ∈ ([c_Alike, c_Unlike, c_Won, c_Unwon, c_Family] : List Addr), PySem.W.notFirst K b (.ref a) = true
  nt : ∀ b ∈ ([c_Alike, c_Unlike, c_Won, c_Unwon, c_Family] : List Addr), PySem.W.notFirst K b (.type "tuple") = true
end K02

set_option Elab.async false
set_option linter.all false
set_option maxRecDepth 100000
set_option maxHeartbeats 4000000
namespace K02
open PySem PySem.Spec PyProof.Rows L2 Gs
section
variable {P : Program} {w : World} {K : PySem.W.Frag} {mg : Str → Option Value} {base : Heap}
def spCrate (K : PySem.W.Frag) : Sp := fun vs H Q _ => ∃ (a : Addr) (ns : List Int), vs = [.ref a] ∧ SqL K H a (ns.map V.int) ∧ ns.length ≤ 63 ∧
  ∀ c l H', H c = none → H l = none → Ext c H H' → Bag c l 0 H' → Q (.ref c) H'
theorem cut60 (ns : List Int) : cutV (ns.map V.int) none (some 60) = (ns.take 60).map V.int := by
  unfold cutV
  rw [HT.sIx_none, show (some (60 : Int)) = some ((60 : Nat) : Int) from rfl, HT.sIx_nat, List.drop_zero, Nat.sub_zero, List.map_take, ← List.take_take, List.take_length]
theorem O__law_tray (T : Tx K mg) : FnOk P w K mg base CX0 1 T.a__law_tray T.d__law_tray ["script"] (spCrate K) := by
  refine T.F__law_tray.ok sc__law_tray (fun vs H Q E h => ?_) (fun cdv A outer s H vs Q E hr h => ?_)
  · obtain ⟨a, ns, rfl, _⟩ := h; rfl
  · obtain ⟨a, ns, rfl, hS, hl, k⟩ := h
    refine ⟨_, (pss_one (ps_ret (pe_lst (pa_cons (pe_lc (own := [("cell", 1)]) (g := (gName 1)) rfl sc__law_tray.nd (pi_list (pe_slice sl_list (pv 0) po_none (po_some pe_int))) (blkOk_by (N := n__law_tray) (sc := defScope s__law_tray) (by decide +kernel)) (fun _ _ _ _ _ => (pg_name (i := 1) sc__law_tray.nd rfl (Or.inl rfl))) (fun _ _ _ _ _ => pts_nil) (fun _ _ _ _ _ => (pe_callTy call_int1 (by rfl) T.z_int (by decide +kernel) (pa_cons (pv 1) pa_nil)))) (pa_cons pe_int (pa_cons pe_int pa_nil)))))), ?_⟩
    refine ⟨_, rfl, _, rfl, a, _, rfl, hS, fun p hp => ?_⟩
    rw [cut60]
    have h60 : (ns.take 60).length ≤ 60 := List.length_take_le ..
    revert h60
    generalize ns.take 60 = ks
    intro h60
    refine ⟨p, rfl, ⟨_, .of upd_same⟩, fun D hD => ?_⟩
    have np : p ≠ D := fun e => by rw [← e, upd_same] at hD; cases hD
    have hD0 : H D = none := by rwa [upd_ne np.symm] at hD
    refine lc_list (K := K) (a := p) (xs := ks.map V.int) (fun i H' => H' p = some (.lst (ks.map V.int)) ∧ H' D = some (.lst ((ks.take i).map V.int)) ∧ ∀ b o, H b = some o → H' b = some o) ?_ ?_ ?_ ?_
    · refine ⟨by rw [upd_ne np, upd_same], upd_same, fun b o e => ?_⟩
      rw [upd_ne (ne_of_none e hD0), upd_ne (ne_of_none e hp)]; exact e
    · intro i H' _ h; exact .of h.1
    · rintro i x H' hx ⟨h1, h2, h3⟩
      obtain ⟨v, hv, rfl⟩ : ∃ v, ks[i]? = some v ∧ V.int v = x := by
        rw [List.getElem?_map] at hx
        cases e : ks[i]? with
        | none => rw [e] at hx; cases hx
        | some v => rw [e] at hx; exact ⟨v, rfl, Option.some.inj hx⟩
      refine ⟨rfl, ?_⟩
      refine ⟨_, rfl, .inl ⟨v, rfl, _, h2, ?_, ?_, ?_, ?_⟩⟩
      · rw [List.length_map]; exact szs (Nat.lt_of_le_of_lt (List.length_take_le' ..) (by omega))
      · rw [upd_ne np]; exact h1
      · rw [upd_same, List.take_add_one, hv, List.map_append]; rfl
      · intro b o e; rw [upd_ne (ne_of_none e hD0)]; exact h3 _ _ e
    · rintro H' ⟨h1, h2, h3⟩
      rw [List.length_map, List.take_length] at h2
      refine ⟨szl rfl, fun c hc => ?_⟩
      have nc : D ≠ c := ne_of_none h2 hc
      have hc0 : H c = none := by
        cases e : H c with
        | none => rfl
        | some o => rw [h3 _ _ e] at hc; cases hc
      refine k c D _ hc0 hD0 (fun b o _ e => ?_) ⟨ks, 0, 0, upd_same, by rw [upd_ne nc]; exact h2, nc, Nat.le_trans h60 (by decide), by decide, by decide, by decide⟩
      rw [upd_ne (ne_of_none e hc0)]; exact h3 _ _ e
def spLift : Sp := fun vs H Q _ => ∃ (c l : Addr) (n : Nat) (m : Int), vs = [.ref c, .int m] ∧ Bag c l n H ∧ n ≤ 1000000 ∧ 0 < m ∧ m < 1073741824 ∧
  ∀ v H', 0 ≤ v → v < m → Bag c l (n + 1) H' → Ext c H H' → Q (.int v) H'
theorem O__law_hold (T : Tx K mg) : FnOk P w K mg base CX0 1 T.a__law_hold T.d__law_hold ["tray", "many"] spLift := by
  refine T.F__law_hold.ok sc__law_hold (fun vs H Q E h => ?_) (fun cdv A outer s H vs Q E hr h => ?_)
  · obtain ⟨c, l, n, m, rfl, _⟩ := h; rfl
  · obtain ⟨c, l, n, m, rfl, ⟨ns, pt, rest, hc, hl, nlc, hn, h0, h1, h2⟩, hN, hm0, hm1, k⟩ := h
    refine ⟨_, (pss_cons (ps_if (pt_cmpR (op_eqD hr.units) (pe_ix ix_list (pv 0) pe_int (fun _ _ => rfl)) (pe_lst pa_nil) (nomark _)) (pss_one (ps_ret pe_int)) pss_nil)
      (pss_cons (ps_if (pt_cmpR op_gt (pe_ix ix_list (pv 0) pe_int (fun _ _ => rfl)) pe_int (nomark _)) (pss_cons (ps_set (i := 2) sc__law_hold.nd rfl (Or.inl rfl) (pe_callTy call_int1 (by rfl) T.z_int (by decide +kernel) (pa_cons (pe_ix ix_list (pv 0) pe_int (fun _ _ => rfl)) pa_nil)))
      (pss_cons (ps_asg (pe_op op_fdiv (pv 2) (pv 1)) (pg_sub (pv 0) pe_int set_list))
      (pss_one (ps_ret (pe_op op_mod (pe_callTy call_int1 (by rfl) T.z_int (by decide +kernel) (pa_cons (pv 2) pa_nil)) (pv 1)))))) pss_nil)
      (pss_cons (ps_set (i := 3) sc__law_hold.nd rfl (Or.inl rfl) (pe_ix ix_list (pv 0) pe_int (fun _ _ => rfl)))
      (pss_cons (ps_asg (pe_op op_add (pv 3) pe_int) (pg_sub (pv 0) pe_int set_list))
      (pss_cons (ps_set (i := 4) sc__law_hold.nd rfl (Or.inl rfl) (pe_ix ix_list (pe_ix ix_list (pv 0) pe_int (fun _ _ => rfl)) (pe_op op_mod (pe_callTy call_int1 (by rfl) T.z_int (by decide +kernel) (pa_cons (pv 3) pa_nil)) (pe_callB call_len_seq (by rfl) T.z_len (by decide +kernel) (pa_cons (pe_ix ix_list (pv 0) pe_int (fun _ _ => rfl)) pa_nil))) (fun _ _ => rfl)))
      (pss_cons (ps_if (PW.pt (pw_and (pt_cmpR op_lt (pv 3) (pe_callB call_len_seq (by rfl) T.z_len (by decide +kernel) (pa_cons (pe_ix ix_list (pv 0) pe_int (fun _ _ => rfl)) pa_nil)) (nomark _)) (pw_and1 (pt_cmpR op_ge (pe_callB call_abs (by rfl) T.z_abs (by decide +kernel) (pa_cons (pv 4) pa_nil)) (pe_op op_pow pe_int pe_int) (nomark _))))) (pss_cons (ps_set (i := 2) sc__law_hold.nd rfl (Or.inl rfl) (pe_op op_add (pe_op op_mul pe_int (pe_op op_sub (pe_callB call_abs (by rfl) T.z_abs (by decide +kernel) (pa_cons (pv 4) pa_nil)) (pe_op op_pow pe_int pe_int))) (pe_callTy call_int1 (by rfl) T.z_int (by decide +kernel) (pa_cons (pe_cmpR op_lt (pv 4) pe_int (nomark _)) pa_nil))))
      (pss_cons (ps_asg (pe_op op_fdiv (pe_callTy call_int1 (by rfl) T.z_int (by decide +kernel) (pa_cons (pv 2) pa_nil)) (pv 1)) (pg_sub (pv 0) pe_int set_list))
      (pss_one (ps_ret (pe_op op_mod (pe_callTy call_int1 (by rfl) T.z_int (by decide +kernel) (pa_cons (pv 2) pa_nil)) (pv 1)))))) pss_nil)
      (pss_cons (ps_set (i := 5) sc__law_hold.nd rfl (Or.inl rfl) (pe_op op_mod (pe_callTy call_int1 (by rfl) T.z_int (by decide +kernel) (pa_cons (pe_op op_pow (pe_op op_add (pe_op op_add (pe_op op_mod (pe_callTy call_int1 (by rfl) T.z_int (by decide +kernel) (pa_cons (pv 4) pa_nil)) pe_int) (pe_op op_mul pe_int (pv 3))) pe_int) pe_int) pa_nil)) pe_int))
      (pss_cons (ps_set (i := 5) sc__law_hold.nd rfl (Or.inl rfl) (pe_op op_mod (pe_callTy call_int1 (by rfl) T.z_int (by decide +kernel) (pa_cons (pe_op op_pow (pe_op op_add (pe_op op_add (pe_op op_mul (pv 5) (pe_op op_add (pe_op op_mul pe_int (pv 3)) pe_int)) (pe_op op_mul (pe_op op_mul pe_int (pv 3)) (pv 3))) pe_int) pe_int) pa_nil)) pe_int))
      (pss_one (ps_ret (pe_op op_mod (pe_callTy call_int1 (by rfl) T.z_int (by decide +kernel) (pa_cons (pe_op op_fdiv (pv 5) pe_int) pa_nil)) (pv 1)))))))))))), ?_⟩
    have hb : Bag c l n H := ⟨ns, pt, rest, hc, hl, nlc, hn, h0, h1, h2⟩
    -- the bag's list, is it empty
    refine ⟨_, rfl, c, _, 0, _, rfl, rfl, .of hc, rfl, szl rfl, fun e he => ?_⟩
    have nle : l ≠ e := ne_of_none hl he
    have nce : c ≠ e := ne_of_none hc he
    have hc1 : upd H e (.lst []) c = some (.lst [.ref l, .int pt, .int rest]) := by rw [upd_ne nce]; exact hc
    have hl1 : upd H e (.lst []) l = some (.lst (ns.map V.int)) := by rw [upd_ne nle]; exact hl
    have x1 : Ext c H (upd H e (.lst [])) := Ext.new he
    refine ⟨.list (ns.map .int), .list [], .lst (.of hl1) (dp_ints ns), .lst (.of upd_same) .nil, shaped_ints ns, by decide, _, rfl, ?_⟩
    refine ite2 (fun e0 => ?_) (fun e0 => ?_)
    · exact k 0 _ (by decide) hm0 (hb.mono (Nat.le_succ n) |>.new he) x1
    have hne : ns ≠ [] := fun z => by
      apply e0; rw [eqv_nil, z]; rfl
    generalize upd H e (.lst []) = H1 at hc1 hl1 x1
    -- what is left of a great number
    refine ⟨_, rfl, c, _, 2, _, rfl, rfl, .of hc1, rfl, _, _, rfl, rfl, _, rfl, ?_⟩
    refine ite2 (fun e2 => ?_) (fun e2 => ?_)
    · refine ⟨_, rfl, c, _, 2, _, rfl, rfl, .of hc1, rfl, .inl ⟨_, rfl, ?_⟩⟩
      refine ⟨_, rfl, _, rfl, _, _, rfl, rfl, ⟨hm0, hm1⟩, _, rfl, c, _, 2, 2, rfl, rfl, hc1, rfl, ?_⟩
      refine ⟨_, rfl, .inl ⟨_, rfl, _, rfl, _, _, rfl, rfl, hm0, ?_⟩⟩
      exact k (rest % m) _ (Int.emod_nonneg _ (by omega)) (Int.emod_lt_of_pos _ hm0) ⟨ns, pt, rest / m, upd_same, by rw [upd_ne nlc]; exact hl1, nlc, hn, h0, by omega, Int.ediv_nonneg h2 (by omega)⟩ (x1.trans Ext.bag)
    -- the next cell
    refine ⟨_, rfl, c, _, 1, _, rfl, rfl, .of hc1, rfl, ?_⟩
    refine ⟨_, rfl, _, _, rfl, rfl, _, rfl, c, _, 1, 1, rfl, rfl, hc1, rfl, ?_⟩
    refine gcut (fun H2 => H2 c = some (.lst [.ref l, .int (pt + 1), .int rest]) ∧ H2 l = some (.lst (ns.map V.int)) ∧ Ext c H H2) ⟨upd_same, by rw [upd_ne nlc]; exact hl1, x1.trans Ext.bag⟩ ?_
    rintro H2 ⟨hc2, hl2, x2⟩
    have x3 : ∀ r : Int, Ext c H (upd H2 c (.lst [.ref l, .int (pt + 1), .int r])) := fun r => x2.trans Ext.bag
    have hpt : pt ≤ 1000000 := by omega
    obtain ⟨v, hv⟩ := at_mod (pt := pt) hne h0
    have hlen : 0 < ((ns.map V.int).length : Int) := by
      have := List.length_pos_iff.mpr hne
      rw [List.length_map]; omega
    refine ⟨_, rfl, c, _, 0, _, rfl, rfl, .of hc2, rfl, _, rfl, .inl ⟨_, rfl, _, rfl, c, _, 0, _, rfl, rfl, .of hc2, rfl, l, _, rfl, .inl (.of hl2), _, _, rfl, rfl, hlen, l, _, _, .int v, rfl, rfl, .of hl2, hv, ?_⟩⟩
    -- at < len(bag[0]) and abs(cell) >= 10 ** 18
    refine ⟨_, rfl, _, rfl, c, _, 0, _, rfl, rfl, .of hc2, rfl, l, _, rfl, .inl (.of hl2), _, _, rfl, rfl, _, rfl, ?_⟩
    have fin : ∀ r : Int, 0 ≤ r → Bag c l (n + 1) (upd H2 c (.lst [.ref l, .int (pt + 1), .int r])) := fun r hr0 =>
      ⟨ns, pt + 1, r, upd_same, by rw [upd_ne nlc]; exact hl2, nlc, hn, by omega, by omega, hr0⟩
    have fin0 : Bag c l (n + 1) H2 := ⟨ns, pt + 1, rest, hc2, hl2, nlc, hn, by omega, by omega, h2⟩
    refine ite2 (fun e3 => ?_) (fun e3 => ?_)
    · refine ⟨_, rfl, _, rfl, _, _, rfl, rfl, ⟨by decide, by decide, by decide⟩, _, _, rfl, rfl, _, rfl, ?_⟩
      refine ite2 (fun e4 => ?_) (fun e4 => ?_)
      · -- a great number: what it tells is handed out bit by bit
        refine ⟨_, rfl, _, rfl, _, _, rfl, rfl, ⟨by decide, by decide, by decide⟩, _, _, rfl, rfl, _, _, rfl, rfl, .inl ⟨by decide, by decide⟩, _, rfl, _, _, rfl, rfl, .inr ⟨_, rfl, _, _, rfl, rfl, ?_⟩⟩
        have hbig : (0 : Int) ≤ 2 * ((if v < 0 then -v else v) - 10 ^ (18 : Int).toNat) + (if decide (v < 0) = true then 1 else 0) := by
          have := of_decide_eq_true e4
          split <;> omega
        refine ⟨_, rfl, .inl ⟨_, rfl, _, rfl, _, _, rfl, rfl, ⟨hm0, hm1⟩, _, rfl, c, _, 2, 2, rfl, rfl, hc2, rfl, ?_⟩⟩
        refine ⟨_, rfl, .inl ⟨_, rfl, _, rfl, _, _, rfl, rfl, hm0, ?_⟩⟩
        exact k _ _ (Int.emod_nonneg _ (by omega)) (Int.emod_lt_of_pos _ hm0) (fin _ (Int.ediv_nonneg hbig (Int.le_of_lt hm0))) (x3 _)
      · refine ⟨_, rfl, .inl ⟨_, rfl, _, _, rfl, rfl, pos_lit (by decide), _, rfl, _, _, rfl, rfl, .inl ⟨by decide, by decide⟩, _, _, rfl, rfl, _, _, rfl, rfl, _, _, rfl, rfl, ⟨by decide, by decide, by omega⟩, .inl ⟨_, rfl, _, _, rfl, rfl, pos_lit (by decide), ?_⟩⟩⟩
        refine ⟨_, rfl, _, rfl, _, _, rfl, rfl, .inl ⟨by decide, by decide⟩, _, _, rfl, rfl, _, _, rfl, rfl, .inl (emod_w (by decide) (by decide)), _, rfl, _, _, rfl, rfl, .inl ⟨by decide, by decide⟩, _, rfl, _, _, rfl, rfl, mul_pt h0 hpt (by decide) (by decide), _, _, rfl, rfl, _, _, rfl, rfl, _, _, rfl, rfl, ⟨by decide, by decide, mix_bound (emod_b (by decide) (by decide)).1 (emod_b (by decide) (by decide)).2 h0 hpt (by decide) (by decide) (by decide) (by decide) (by decide) (by decide)⟩, .inl ⟨_, rfl, _, _, rfl, rfl, pos_lit (by decide), ?_⟩⟩
        refine ⟨_, rfl, _, _, rfl, rfl, ⟨by decide, by decide⟩, .inl ⟨_, rfl, _, rfl, _, _, rfl, rfl, hm0, ?_⟩⟩
        exact k _ H2 (Int.emod_nonneg _ (by omega)) (Int.emod_lt_of_pos _ hm0) fin0 x2
    · refine ⟨_, rfl, .inl ⟨_, rfl, _, _, rfl, rfl, pos_lit (by decide), _, rfl, _, _, rfl, rfl, .inl ⟨by decide, by decide⟩, _, _, rfl, rfl, _, _, rfl, rfl, _, _, rfl, rfl, ⟨by decide, by decide, by omega⟩, .inl ⟨_, rfl, _, _, rfl, rfl, pos_lit (by decide), ?_⟩⟩⟩
      refine ⟨_, rfl, _, rfl, _, _, rfl, rfl, .inl ⟨by decide, by decide⟩, _, _, rfl, rfl, _, _, rfl, rfl, .inl (emod_w (by decide) (by decide)), _, rfl, _, _, rfl, rfl, .inl ⟨by decide, by decide⟩, _, rfl, _, _, rfl, rfl, mul_pt h0 hpt (by decide) (by decide), _, _, rfl, rfl, _, _, rfl, rfl, _, _, rfl, rfl, ⟨by decide, by decide, mix_bound (emod_b (by decide) (by decide)).1 (emod_b (by decide) (by decide)).2 h0 hpt (by decide) (by decide) (by decide) (by decide) (by decide) (by decide)⟩, .inl ⟨_, rfl, _, _, rfl, rfl, pos_lit (by decide), ?_⟩⟩
      refine ⟨_, rfl, _, _, rfl, rfl, ⟨by decide, by decide⟩, .inl ⟨_, rfl, _, rfl, _, _, rfl, rfl, hm0, ?_⟩⟩
      exact k _ H2 (Int.emod_nonneg _ (by omega)) (Int.emod_lt_of_pos _ hm0) fin0 x2
def spOne (K : PySem.W.Frag) : Sp := fun vs H Q _ => ∃ (c l s : Addr) (n : Nat) (xs : List V), vs = [.ref c, .ref s] ∧ Bag c l n H ∧ n ≤ 1000000 ∧ s ≠ c ∧ SqL K H s xs ∧ xs ≠ [] ∧ xs.length ≤ 1000 ∧
  ∀ (i : Nat) (v : V) (H' : Hp), xs[i]? = some v → Bag c l (n + 1) H' → Ext c H H' → Q v H'
theorem O__law_one (T : Tx K mg) : FnOk P w K mg base CX0 2 T.a__law_one T.d__law_one ["tray", "some"] (spOne K) := by
  refine T.F__law_one.ok sc__law_one (fun vs H Q E h => ?_) (fun cdv A outer s H vs Q E hr h => ?_)
  · obtain ⟨c, l, s, n, xs, rfl, _⟩ := h; rfl
  · obtain ⟨c, l, a, n, xs, rfl, hb, hN, na, hS, hne, hl, k⟩ := h
    have h0 : 0 < xs.length := List.length_pos_iff.mpr hne
    refine ⟨_, (pss_one (ps_ret (pe_ix ix_list (pv 1) (pe_call (O__law_hold T) (hr.mono (by decide)) (by rfl) T.m__law_hold T.F__law_hold.kp T.b__law_hold .nil pass0 (pa_cons (pv 0) (pa_cons (pe_callB call_len_seq (by rfl) T.z_len (by decide +kernel) (pa_cons (pv 1) pa_nil)) pa_nil))) (fun _ _ => rfl)))), ?_⟩
    refine ⟨_, rfl, _, rfl, _, rfl, a, xs, rfl, .inl hS, c, l, n, _, rfl, hb, hN, by omega, by omega, fun v H1 v0 v1 b1 x1 => ?_⟩
    obtain ⟨j, rfl⟩ := Int.eq_ofNat_of_zero_le v0
    have hj : j < xs.length := by omega
    refine ⟨a, xs, _, xs[j], rfl, rfl, x1.sqL na hS, atI_nat (List.getElem?_eq_getElem hj), ?_⟩
    exact k j _ H1 (List.getElem?_eq_getElem hj) b1 x1
def valDs (z : Int) : List PyData := [.int z, .str (toString z), .none, .bool true, .bool false, .list [.int z], .tuple [.int z, .int 2], .dict [(.int z, .list [.int z])], .str "", .list [], .tuple [], .list [.list [.int z], .tuple [.int 1, .list [.int 2]]], .list [.bool true, .int 0], .str "[1]"]
def spValue (K : PySem.W.Frag) : Sp := fun vs H Q _ => ∃ (c l : Addr) (n : Nat), vs = [.ref c] ∧ Bag c l n H ∧ n ≤ 999990 ∧
  ∀ (v : V) (d : PyData) (z : Int) (H' : Hp), DV K c H' v d → z.natAbs < 2 ^ 100 → d ∈ valDs z → (∀ ds, d = .list ds → ∃ a xs, v = .ref a ∧ a ≠ l ∧ H' a = some (.lst xs) ∧ DVs K a H' xs ds ∧ H a = none) → Bag c l (n + 5) H' → Ext c H H' → Q v H'
theorem ext_free {c p : Addr} {H H' : Hp} (e : Ext c H H') (hp : H' p = none) (ne : p ≠ c) : H p = none := by
  cases h : H p with
  | none => rfl
  | some o => rw [e p o ne h] at hp; cases hp
theorem log_small {z : Int} (h : z.natAbs < 2 ^ 100) : z.natAbs.log2 < 1920 := by
  by_cases e : z.natAbs = 0
  · rw [e]; decide
  · exact Nat.lt_trans ((Nat.log2_lt e).mpr h) (by decide)
theorem O__law_value (T : Tx K mg) : FnOk P w K mg base CX0 3 T.a__law_value T.d__law_value ["tray"] (spValue K) := by
  refine T.F__law_value.ok sc__law_value (fun vs H Q E h => ?_) (fun cdv A outer s H vs Q E hr h => ?_)
  · obtain ⟨c, l, n, rfl, _⟩ := h; rfl
  · obtain ⟨c, l, n, rfl, hb, hN, k⟩ := h
    refine ⟨_, (pss_cons (ps_set (i := 1) sc__law_value.nd rfl (Or.inl rfl) (pe_call (O__law_one T) (hr.mono (by decide)) (by rfl) T.m__law_one T.F__law_one.kp T.b__law_one .nil pass0 (pa_cons (pv 0) (pa_cons (pe_lst (pa_cons (pe_op op_sub (pe_call (O__law_hold T) (hr.mono (by decide)) (by rfl) T.m__law_hold T.F__law_hold.kp T.b__law_hold .nil pass0 (pa_cons (pv 0) (pa_cons pe_int pa_nil))) pe_int) (pa_cons (pe_op op_add (pe_op op_pow pe_int pe_int) (pe_call (O__law_hold T) (hr.mono (by decide)) (by rfl) T.m__law_hold T.F__law_hold.kp T.b__law_hold .nil pass0 (pa_cons (pv 0) (pa_cons pe_int pa_nil)))) (pa_cons (pe_un un_neg (pe_call (O__law_hold T) (hr.mono (by decide)) (by rfl) T.m__law_hold T.F__law_hold.kp T.b__law_hold .nil pass0 (pa_cons (pv 0) (pa_cons pe_int pa_nil)))) pa_nil)))) pa_nil))))
      (pss_cons (ps_set (i := 2) sc__law_value.nd rfl (Or.inl rfl) (pe_lst (pa_cons (pv 1) (pa_cons (pe_callTy call_str_int (by rfl) T.z_str (by decide +kernel) (pa_cons (pv 1) pa_nil)) (pa_cons pe_non (pa_cons pe_bl (pa_cons pe_bl (pa_cons (pe_lst (pa_cons (pv 1) pa_nil)) (pa_cons (pe_tup (pa_cons (pv 1) (pa_cons pe_int pa_nil))) (pa_cons (pe_disp (pps_cons (pv 1) (pe_lst (pa_cons (pv 1) pa_nil)) pps_nil) rfl rfl (by simp) (by decide)) (pa_cons pe_str (pa_cons (pe_lst pa_nil) (pa_cons (pe_tup pa_nil) (pa_cons (pe_lst (pa_cons (pe_lst (pa_cons (pv 1) pa_nil)) (pa_cons (pe_tup (pa_cons pe_int (pa_cons (pe_lst (pa_cons pe_int pa_nil)) pa_nil))) pa_nil))) (pa_cons (pe_lst (pa_cons pe_bl (pa_cons pe_int pa_nil))) (pa_cons pe_str pa_nil))))))))))))))))
      (pss_one (ps_ret (pe_call (O__law_one T) (hr.mono (by decide)) (by rfl) T.m__law_one T.F__law_one.kp T.b__law_one .nil pass0 (pa_cons (pv 0) (pa_cons (pv 2) pa_nil))))))), ?_⟩
    refine ⟨_, rfl, _, rfl, c, l, n, _, rfl, hb, by omega, by decide, by decide, fun v1 H1 a1 a2 b1 x1 => ?_⟩
    refine ⟨_, _, rfl, rfl, _, _, rfl, rfl, ⟨by decide, by decide, by decide⟩, _, rfl, c, l, n + 1, _, rfl, b1, by omega, by decide, by decide, fun v2 H2 a3 a4 b2 x2 => ?_⟩
    refine ⟨_, _, rfl, rfl, _, rfl, c, l, n + 2, _, rfl, b2, by omega, by decide, by decide, fun v3 H3 a5 a6 b3 x3 => ?_⟩
    refine ⟨_, rfl, szl rfl, fun p hp => ?_⟩
    have np := b3.ne hp
    refine ⟨c, l, p, n + 3, _, rfl, b3.new hp, by omega, np, .of upd_same, by simp, szl2 rfl, fun i v H4 hi b4 x4 => ?_⟩
    have x5 : Ext c H H4 := ((x1.trans x2).trans x3).trans ((Ext.new hp).trans x4)
    obtain ⟨z, rfl, hz⟩ : ∃ z : Int, v = .int z ∧ z.natAbs < 2 ^ 100 := by
      have hm := one_of hi
      simp only [List.mem_cons, List.not_mem_nil, or_false] at hm
      rcases hm with rfl | rfl | rfl
      · exact ⟨_, rfl, by omega⟩
      · exact ⟨_, rfl, by
          have : (10 : Int) ^ (20 : Int).toNat = 100000000000000000000 := by decide
          omega⟩
      · exact ⟨_, rfl, by omega⟩
    clear hi x4 x1 x2 x3 hp np b1 b2 b3
    refine ⟨_, rfl, _, rfl, _, rfl, log_small hz, ?_⟩
    -- [number]
    refine ⟨_, rfl, szl rfl, fun p1 hp1 => ?_⟩
    have f1 := new_lst hp1 (b4.ne hp1) (.cons (.int z) .nil) (K := K)
    have n1 := b4.ne hp1
    have m1 := b4.ne2 hp1
    have e1 : upd H4 p1 (.lst [.int z]) p1 = some (.lst [.int z]) := upd_same
    have b5 := b4.new hp1 (o := .lst [.int z])
    generalize upd H4 p1 _ = H5 at f1 b5 e1 ⊢
    -- (number, 2)
    refine ⟨_, rfl, szl rfl, fun p2 hp2 => ?_⟩
    have f2 := new_tup hp2 (b5.ne hp2) (.cons (.int z) (.cons (.int 2) .nil)) (K := K)
    have b6 := b5.new hp2 (o := .tup [.int z, .int 2])
    generalize upd H5 p2 _ = H6 at f2 b6 ⊢
    -- {number: [number]}
    intro p3 hp3
    have np3 := b6.ne hp3
    have b7 := b6.new hp3 (o := .dK [])
    have e7 : upd H6 p3 (.dK []) p3 = some (.dK []) := upd_same
    have x7 : Ext c H6 (upd H6 p3 (.dK [])) := Ext.new hp3
    generalize upd H6 p3 _ = H7 at b7 e7 x7 ⊢
    refine ⟨_, rfl, _, rfl, szl rfl, fun p4 hp4 => ?_⟩
    have n34 : p3 ≠ p4 := ne_of_none e7 hp4
    have f4 := new_lst hp4 (b7.ne hp4) (.cons (.int z) .nil) (K := K)
    have b8 := b7.new hp4 (o := .lst [.int z])
    have e8 : upd H7 p4 (.lst [.int z]) p3 = some (.dK []) := by rw [upd_ne n34]; exact e7
    have l8 : upd H7 p4 (.lst [.int z]) p4 = some (.lst [.int z]) := upd_same
    generalize upd H7 p4 _ = H8 at f4 b8 e8 l8 ⊢
    refine ⟨e8, [(.inl z, .ref p4)], rfl, Nat.le_of_ble_eq_true rfl, ?_⟩
    have x8 : Ext c H6 (upd H8 p3 (.dK [(.inl z, .ref p4)])) := (x7.trans f4.2).own hp3
    have b9 := b8.put (o := .dK [(.inl z, .ref p4)]) np3 (b6.ne2 hp3)
    have f3 : DV K c (upd H8 p3 (.dK [(.inl z, .ref p4)])) (.ref p3) (.dict [(.int z, .list [.int z])]) :=
      .dic np3 upd_same (.cons (.int z) (.lst (b7.ne hp4) (.of (by rw [upd_ne n34.symm]; exact l8)) (.cons (.int z) .nil)) .nil)
    change tCons _ _ _ (upd H8 p3 (.dK [(.inl z, .ref p4)])) _
    generalize upd H8 p3 _ = H9 at f3 b9 x8 ⊢
    clear f4 b8 e8 l8 n34 hp4 x7 e7 b7 np3 hp3
    -- '', [], ()
    refine ⟨szl rfl, fun p5 hp5 => ?_⟩
    have f5 := new_lst hp5 (b9.ne hp5) .nil (K := K)
    have n5 := b9.ne hp5
    have m5 := b9.ne2 hp5
    have e5 : upd H9 p5 (.lst []) p5 = some (.lst []) := upd_same
    have b10 := b9.new hp5 (o := .lst [])
    generalize upd H9 p5 _ = H10 at f5 b10 e5 ⊢
    refine ⟨szl rfl, fun p6 hp6 => ?_⟩
    have f6 := new_tup hp6 (b10.ne hp6) .nil (K := K)
    have b11 := b10.new hp6 (o := .tup [])
    generalize upd H10 p6 _ = H11 at f6 b11 ⊢
    -- [[number], (1, [2])]
    refine ⟨_, rfl, szl rfl, fun p7 hp7 => ?_⟩
    have f7 := new_lst hp7 (b11.ne hp7) (.cons (.int z) .nil) (K := K)
    have b12 := b11.new hp7 (o := .lst [.int z])
    have e7 : upd H11 p7 (.lst [.int z]) p7 = some (.lst [.int z]) := upd_same
    have n7 := b11.ne hp7
    generalize upd H11 p7 _ = H12 at f7 b12 e7 ⊢
    refine ⟨szl rfl, fun p8 hp8 => ?_⟩
    have f8 := new_lst hp8 (b12.ne hp8) (.cons (.int 2) .nil) (K := K)
    have b13 := b12.new hp8 (o := .lst [.int 2])
    have e8 : upd H12 p8 (.lst [.int 2]) p8 = some (.lst [.int 2]) := upd_same
    have n8 := b12.ne hp8
    generalize upd H12 p8 _ = H13 at f8 b13 e8 ⊢
    refine ⟨szl rfl, fun p9 hp9 => ?_⟩
    have f9 := new_tup hp9 (b13.ne hp9) (.cons (.int 1) (.cons f8.1 .nil)) (K := K)
    have b14 := b13.new hp9 (o := .tup [.int 1, .ref p8])
    have e9 : upd H13 p9 (.tup [.int 1, .ref p8]) p9 = some (.tup [.int 1, .ref p8]) := upd_same
    have n9 := b13.ne hp9
    generalize upd H13 p9 _ = H14 at f9 b14 e9 ⊢
    refine ⟨szl rfl, fun p10 hp10 => ?_⟩
    have q7 : p7 ≠ p10 := fun e => by rw [← e, (f8.2.trans f9.2) _ _ n7 e7] at hp10; cases hp10
    have q8 : p8 ≠ p10 := fun e => by rw [← e, f9.2 _ _ n8 e8] at hp10; cases hp10
    have q9 : p9 ≠ p10 := fun e => by rw [← e, e9] at hp10; cases hp10
    have f10 := new_lst hp10 (b14.ne hp10) (.cons ((f7.1.up f8.2).up f9.2) (.cons f9.1 .nil)) (K := K)
    have n10 := b14.ne hp10
    have m10 := b14.ne2 hp10
    have e10 : upd H14 p10 (.lst [.ref p7, .ref p9]) p10 = some (.lst [.ref p7, .ref p9]) := upd_same
    have b15 := b14.new hp10 (o := .lst [.ref p7, .ref p9])
    generalize upd H14 p10 _ = H15 at f10 b15 e10 ⊢
    -- [True, 0]
    refine ⟨szl rfl, fun p11 hp11 => ?_⟩
    have f11 := new_lst hp11 (b15.ne hp11) (.cons (.bl true) (.cons (.int 0) .nil)) (K := K)
    have n11 := b15.ne hp11
    have m11 := b15.ne2 hp11
    have e11 : upd H15 p11 (.lst [.bl true, .int 0]) p11 = some (.lst [.bl true, .int 0]) := upd_same
    have b16 := b15.new hp11 (o := .lst [.bl true, .int 0])
    generalize upd H15 p11 _ = H16 at f11 b16 e11 ⊢
    -- the whole list, one of it
    refine ⟨szl rfl, fun p12 hp12 => ?_⟩
    have np := b16.ne hp12
    have b17 := b16.new hp12 (o := .lst [.int z, .str (toString z), .non, .bl true, .bl false, .ref p1, .ref p2, .ref p3, .str "", .ref p5, .ref p6, .ref p10, .ref p11, .str "[1]"])
    have y9 := ((f5.2.trans f6.2).trans (f7.2.trans f8.2)).trans ((f9.2.trans f10.2).trans f11.2)
    have y11 := ((f7.2.trans f8.2).trans (f9.2.trans f10.2)).trans f11.2
    have y11b := (f8.2.trans f9.2).trans (f10.2.trans f11.2)
    have y12b := f9.2.trans (f10.2.trans f11.2)
    have y13b := f10.2.trans f11.2
    have y10 := f6.2.trans y11
    have y6 := x8.trans y9
    have y5 := f2.2.trans y6
    have hd : DVs K c H16 [.int z, .str (toString z), .non, .bl true, .bl false, .ref p1, .ref p2, .ref p3, .str "", .ref p5, .ref p6, .ref p10, .ref p11, .str "[1]"] (valDs z) :=
      .cons (.int z) (.cons (.str _) (.cons .non (.cons (.bl _) (.cons (.bl _) (.cons (f1.1.up y5) (.cons (f2.1.up y6) (.cons (f3.up y9) (.cons (.str _)
        (.cons (f5.1.up y10) (.cons (f6.1.up y11) (.cons (f10.1.up f11.2) (.cons f11.1 (.cons (.str _) .nil)))))))))))))
    have xx : Ext c H4 (upd H16 p12 (.lst [.int z, .str (toString z), .non, .bl true, .bl false, .ref p1, .ref p2, .ref p3, .str "", .ref p5, .ref p6, .ref p10, .ref p11, .str "[1]"])) := (f1.2.trans y5).trans (Ext.new hp12)
    refine ⟨_, rfl, _, rfl, c, l, p12, n + 4, _, rfl, b17, by omega, np, .of upd_same, by simp, szl2 rfl, fun i v H18 hi b18 x18 => ?_⟩
    obtain ⟨d, hdi, hdv⟩ := hd.at hi
    refine k v d z H18 ((hdv.up (Ext.new hp12)).up x18) hz (List.mem_of_getElem? hdi) (fun ds hds => ?_) b18 ((x5.trans xx).trans x18)
    have xl : Ext c H16 H18 := (Ext.new hp12).trans x18
    subst hds
    match i, hi, hdi with
    | 5, hi, hq => cases hi; cases hq; exact ⟨p1, _, rfl, m1, xl _ _ n1 (y5 _ _ n1 e1), .cons (.int _) .nil, ext_free x5 hp1 n1⟩
    | 9, hi, hq => cases hi; cases hq; exact ⟨p5, _, rfl, m5, xl _ _ n5 (y10 _ _ n5 e5), .nil, ext_free ((x5.trans f1.2).trans (f2.2.trans x8)) hp5 n5⟩
    | 11, hi, hq =>
      cases hi; cases hq
      refine ⟨p10, _, rfl, m10, xl _ _ n10 (f11.2 _ _ n10 e10), ?_, ext_free (((x5.trans f1.2).trans (f2.2.trans x8)).trans (((f5.2.trans f6.2).trans (f7.2.trans f8.2)).trans f9.2)) hp10 n10⟩
      have g7 := xl _ _ n7 (y11b _ _ n7 e7)
      have g8 := xl _ _ n8 (y12b _ _ n8 e8)
      have g9 := xl _ _ n9 (y13b _ _ n9 e9)
      exact .cons (.lst q7 (.of g7) (.cons (.int z) .nil)) (.cons (.tup q9 (.of g9) (.cons (.int 1) (.cons (.lst q8 (.of g8) (.cons (.int 2) .nil)) .nil))) .nil)
    | 12, hi, hq => cases hi; cases hq; exact ⟨p11, _, rfl, m11, xl _ _ n11 e11, .cons (.bl _) (.cons (.int _) .nil), ext_free (((x5.trans f1.2).trans (f2.2.trans x8)).trans (((f5.2.trans f6.2).trans (f7.2.trans f8.2)).trans (f9.2.trans f10.2))) hp11 n11⟩
    | 0, _, h | 1, _, h | 2, _, h | 3, _, h | 4, _, h | 6, _, h | 7, _, h | 8, _, h | 10, _, h | 13, _, h => cases h
    | k + 14, _, h => cases h
end
end K02

set_option Elab.async false
set_option linter.all false
set_option maxRecDepth 100000
set_option maxHeartbeats 4000000
namespace K02
open PySem PySem.Spec PyProof.Rows L2 Gs
section
variable {P : Program} {w : World} {K : PySem.W.Frag} {mg : Str → Option Value} {base : Heap}
def SqA (K : PySem.W.Frag) (H : Hp) (a : Addr) (xs : List V) : Prop := SqL K H a xs ∨ SqT K H a xs
theorem SqA.up {H H' : Hp} {a : Addr} {xs : List V} (e : ExtX H H') (h : SqA K H a xs) : SqA K H' a xs := h.imp e.sqL e.sqT
theorem ty_sqa {H : Hp} {a : Addr} {xs : List V} (h : SqA K H a xs) : ∃ d : PyData, isSeq d = true ∧ TyX K H (.ref a) (.type (tyN d)) := by
  rcases h with s | s
  · refine ⟨.list [], rfl, ?_⟩
    rcases s with (s | ⟨o, s⟩) | ⟨o, its, n, e, q, _⟩
    · exact .base (.lst s)
    · exact .base (.frz s)
    · exact .kList e q
  · refine ⟨.tuple [], rfl, ?_⟩
    rcases s with (s | ⟨o, s⟩) | ⟨o, its, n, e, q, _⟩
    · exact .base (.tup s)
    · exact .fTuple s
    · exact .kTuple e q
def spIsL (K : PySem.W.Frag) : Sp := fun vs H Q _ => ∃ v, vs = [v] ∧ ((Leaf K H v ∧ ∀ H', Same H H' → Q (.bl false) H') ∨ ∃ a xs, v = .ref a ∧ SqA K H a xs ∧ ∀ H', Same H H' → Q (.bl true) H')
theorem O_is_list (T : Tx K mg) : FnOk P w K mg base CX0 1 T.a_is_list T.d_is_list ["value"] (spIsL K) := by
  refine T.F_is_list.ok sc_is_list (fun vs H Q E h => ?_) (fun cdv A outer s H vs Q E hr h => ?_)
  · obtain ⟨v, rfl, _⟩ := h; rfl
  obtain ⟨v, rfl, h⟩ := h
  refine ⟨_, (pss_one (ps_ret (pe_callB call_isiT (by rfl) T.z_isinstance (by decide +kernel) (pa_cons (pv 0) (pa_cons (pe_tup (pa_cons (pe_bltn (v := .ty "list") (u := .type "list") (by rfl) T.z_list (by decide +kernel) rfl) (pa_cons (pe_bltn (v := .ty "tuple") (u := .type "tuple") (by rfl) T.z_tuple (by decide +kernel) rfl) pa_nil))) pa_nil))))), ?_⟩
  refine ⟨_, rfl, szl rfl, fun p hp => ?_⟩
  have st : Same H (upd H p (.tup [.ty "list", .ty "tuple"])) := same_new hp
  rcases h with ⟨lf, k⟩ | ⟨a, xs, rfl, hs, k⟩
  · obtain ⟨t, ty, kt⟩ := (lf.up (.of st)).not
    exact ⟨_, _, [.ty "list", .ty "tuple"], t, [.type "list", .type "tuple"], false, rfl, upd_same, .cons (.ty _) (.cons (.ty _) .nil), ty, kt, k _ st⟩
  · obtain ⟨d, hq, ty⟩ := ty_sqa (hs.up (.of st))
    refine ⟨.ref a, _, [.ty "list", .ty "tuple"], .type (tyN d), [.type "list", .type "tuple"], isSeq d, rfl, upd_same, .cons (.ty _) (.cons (.ty _) .nil), ty, kit_seq _, ?_⟩
    rw [hq]
    exact k _ st
/-- a list or a tuple is walked -/
theorem sqa_rd {a : Addr} {xs : List V} {σ : L2.St} {H : Hp} {R : It → Hp → Prop} {i : Nat} (hv : σ[i]? = some (some (.ref a))) (hs : SqA K H a xs)
    (h : ∀ (J : It) (G : Hp → Prop), (∀ H', Same H H' → G H') → Walk J xs.length G (YAt xs) → R J H) : iList K (tVar i) σ H R ∨ iTup K (tVar i) σ H R := by
  rcases hs with hs | hs
  · exact .inl ⟨_, hv, a, rfl, ⟨xs, hs⟩, h _ _ (fun H' e => e.seq hs) walk_list⟩
  · exact .inr ⟨_, hv, a, rfl, ⟨xs, hs⟩, h _ _ (fun H' e => e.seqT hs) walk_tup⟩
/-! ### fixed -/
def spFixed (K : PySem.W.Frag) (n : Nat) : Sp := fun vs H Q _ => ∃ v R, vs = [v] ∧ Fx K H n v R ∧ ∀ u H', Same H H' → R H' u → Q u H'
def spFixR (K : PySem.W.Frag) : Nat → Sp
  | 0 => fun _ _ _ _ => False
  | n + 1 => spFixed K n
theorem fixed_step (T : Tx K mg) (n : Nat) (IH : FnOk P w K mg base CX0 (n + 2) T.a_fixed T.d_fixed ["value"] (spFixR K n)) : FnOk P w K mg base CX0 (n + 3) T.a_fixed T.d_fixed ["value"] (spFixed K n) := by
  refine T.F_fixed.ok sc_fixed (fun vs H Q E h => ?_) (fun cdv A outer s H vs Q E hr h => ?_)
  · obtain ⟨v, R, rfl, _⟩ := h; rfl
  obtain ⟨v, R, rfl, f, k⟩ := h
  refine ⟨_, (pss_cons (ps_if (pt_val (pe_call (O_is_list T) (hr.mono (by omega)) (by rfl) T.m_is_list T.F_is_list.kp T.b_is_list .nil pass0 (pa_cons (pv 0) pa_nil))) (pss_one (ps_ret (pe_callTy call_tuple_of (by rfl) T.z_tuple (by decide +kernel) (pa_cons (pe_lc (own := [("item", 1)]) (g := (gName 1)) rfl sc_fixed.nd (pi_or (pi_list (pv 0)) (pi_tup (pv 0))) (blkOk_by (N := n_fixed) (sc := defScope s_fixed) (by decide +kernel)) (fun _ _ _ _ _ => (pg_name (i := 1) sc_fixed.nd rfl (Or.inl rfl))) (fun _ _ _ _ _ => pts_nil) (fun _ _ _ _ _ => (pe_call IH (hr.mono (by omega)) (by rfl) T.m_fixed T.F_fixed.kp T.b_fixed .nil pass0 (pa_cons (pv 1) pa_nil)))) pa_nil)))) pss_nil)
      (pss_one (ps_ret (pv 0)))), ?_⟩
  cases f with
  | leaf lf => exact ⟨_, rfl, v, rfl, .inl ⟨lf, fun H1 s1 => ⟨_, rfl, iteF ⟨_, rfl, k v H1 s1 rfl⟩⟩⟩⟩
  | @node m a xs R hq few hs =>
    refine ⟨_, rfl, _, rfl, .inr ⟨a, xs, rfl, hq, fun H1 s1 => ⟨_, rfl, iteT ?_⟩⟩⟩
    have hq1 : SqA K H1 a xs := SqA.up (ExtX.of s1) hq
    have mono : ∀ i H' H'' u, i < xs.length → ExtZ H1 H' H'' → R i H' u → R i H'' u := fun i H' H'' u hi e => (hs i _ (List.getElem?_eq_getElem hi)).mono _ _ _ (e.less (ExtX.of s1))
    refine sqa_rd rfl hq1 fun J G hG wk D hD => ?_
    refine lc_mapR wk R hD few hG mono ?_ ?_
    · intro i x H' Kc Ke hi hx s2 kc
      obtain ⟨R1, f1, g1⟩ := (hs i x hx).up (ExtX.of (s1.trans s2))
      exact ⟨rfl, _, rfl, x, R1, rfl, f1, fun u H4 s4 r => kc u H4 s4 (g1 _ _ r)⟩
    · intro ys H' s2 hy hl hr
      refine ⟨D, ys, rfl, .inl ⟨.of hy, fun t ht => ?_⟩⟩
      have hi : ∀ i y, ys[i]? = some y → i < xs.length := fun i y h => by rw [← hl]; exact (List.getElem?_eq_some_iff.mp h).1
      exact k _ _ ((s1.trans s2).trans (same_new ht)) ⟨t, ys, rfl, (s1.trans s2).free ht, upd_same, hl, fun i y h => mono i _ _ _ (hi i y h) (.of (ExtX.of (same_new ht))) (hr i y h)⟩
theorem O_fixed (T : Tx K mg) : ∀ n, FnOk P w K mg base CX0 (n + 3) T.a_fixed T.d_fixed ["value"] (spFixed K n)
  | 0 => fixed_step T 0 ⟨fun _ _ _ _ h => h.elim, fun _ _ _ _ _ _ _ _ _ _ _ _ _ h => h.elim⟩
  | n + 1 => fixed_step T (n + 1) (O_fixed T n)
/-! ### the papers' __init__ -/
/-- what a class of papers needs -/
structure PapC (K : PySem.W.Frag) (C : Addr) : Prop where
  cl : Cls K C
  nw : NoAttr K C "word"
  np : NoAttr K C "parts"
/-- self, word, parts (a tuple) -/
def spPap0 (K : PySem.W.Frag) (n : Nat) : Sp := fun vs H Q _ => ∃ (x C dx p : Addr) (z : Str) (rest : List V) (R : Nat → RV), vs = [.ref x, .str z, .ref p] ∧ H x = some (.ins C dx []) ∧ PapC K C ∧ SqT K H p rest ∧ rest.length ≤ 1000 ∧
  (∀ (i : Nat) (y : V), rest[i]? = some y → Fx K H n y (R i)) ∧
  ∀ H' t ys, Ext x H H' → H' x = some (.ins C dx [("word", .str z), ("parts", .ref t)]) → H t = none → H' t = some (.tup ys) → ys.length = rest.length → (∀ (i : Nat) (y : V), ys[i]? = some y → R i H' y) → Q .non H'
def spPap (K : PySem.W.Frag) (n : Nat) : Sp := fun vs H Q _ => ∃ (x C dx : Addr) (z : Str) (rest : List V) (R : Nat → RV), vs = .ref x :: .str z :: rest ∧ H x = some (.ins C dx []) ∧ PapC K C ∧ rest.length ≤ 1000 ∧
  (∀ (i : Nat) (y : V), rest[i]? = some y → Fx K H n y (R i)) ∧
  ∀ H' t ys, Ext x H H' → H' x = some (.ins C dx [("word", .str z), ("parts", .ref t)]) → H t = none → H' t = some (.tup ys) → ys.length = rest.length → (∀ (i : Nat) (y : V), ys[i]? = some y → R i H' y) → Q .non H'
theorem pap_imp {n : Nat} {vs : List V} {H : Hp} {Q : VK} {E : XK} (h : spPap K n vs H Q E) : ∃ ws rest, vs = ws ++ rest ∧ ws.length = ["self", "word"].length ∧ rest.length ≤ sizeLine ∧ ∀ p, H p = none → spPap0 K n (ws ++ [V.ref p]) (upd H p (.tup rest)) Q E := by
  obtain ⟨x, C, dx, z, rest, R, rfl, hx, pc, few, f, k⟩ := h
  refine ⟨[.ref x, .str z], rest, rfl, rfl, szm few, fun p hp => ?_⟩
  have st : Same H (upd H p (.tup rest)) := same_new hp
  obtain ⟨R1, h1⟩ : ∃ R1 : Nat → RV, ∀ (i : Nat) (y : V), rest[i]? = some y → Fx K (upd H p (.tup rest)) n y (R1 i) ∧ ∀ H' u, R1 i H' u → R i H' u := pick_rv fun i y hy => (f i y hy).up (ExtX.of st)
  refine ⟨x, C, dx, p, z, rest, R1, rfl, st _ _ hx, pc, .of upd_same, few, fun i y hy => (h1 i y hy).1, fun H' t ys e e2 n0 hT hl hy => ?_⟩
  refine k H' t ys (fun b o nb eb => e b o nb (st b o eb)) e2 (st.free n0) hT hl fun i y hi => ?_
  have hi2 : i < rest.length := by rw [← hl]; exact (List.getElem?_eq_some_iff.mp hi).1
  exact (h1 i _ (List.getElem?_eq_getElem hi2)).2 _ _ (hy i y hi)
theorem Ext.extX {x C dx : Addr} {fs fs' : List (Str × V)} {H H' : Hp} (e : Ext x H H') (h : H x = some (.ins C dx fs)) (h' : H' x = some (.ins C dx fs')) : ExtX H H' := fun b o hb => by
  by_cases q : b = x
  · subst q; rw [h] at hb; cases hb; exact .inr ⟨C, dx, fs, fs', rfl, h'⟩
  · exact .inl (e b o q hb)
theorem R_Paper___init__ (T : Tx K mg) (n : Nat) : FnR P w K mg base CX0 (n + 5) T.a_Paper___init__ (spPap K n) := by
  obtain ⟨oc, od, kV, doc, pm, an, cdv, ct, osl, ed, lk, hcd⟩ := T.F_Paper___init__.ex
  rw [ed] at lk
  refine FnR.imp (StX.fn_star (ps := ["self", "word"]) (pv := "parts") (sp := spPap0 K n) (k := n + 4) lk hcd sc_Paper___init__ StX.cxUp_none (fun us rest h => match us, h with | [a, b], _ => by cases rest <;> rfl) (fun A outer s H vs Q E hr h => ?_)) fun vs H Q E => pap_imp
  obtain ⟨x, C, dx, p, z, rest, R, rfl, hx, pc, hp, few, f, k⟩ := h
  refine ⟨_, PSs.nox ((pss_cons (ps_fld (pv 0) (pe_call (O_fixed T (n + 1)) (hr.mono (by omega)) (by rfl) T.m_fixed T.F_fixed.kp T.b_fixed .nil pass0 (pa_cons (pv 1) pa_nil)) rfl)
      (pss_one (ps_fld (pv 0) (pe_call (O_fixed T (n + 1)) (hr.mono (by omega)) (by rfl) T.m_fixed T.F_fixed.kp T.b_fixed .nil pass0 (pa_cons (pv 2) pa_nil)) rfl)))), ?_⟩
  refine ⟨_, rfl, .str z, _, rfl, .leaf (.str z), fun u H1 s1 e => ?_⟩
  have e : u = .str z := e
  subst e
  have h1x := s1 _ _ hx
  refine ⟨_, rfl, x, C, dx, _, rfl, h1x, pc.cl, pc.nw, Nat.le_of_ble_eq_true rfl, ?_⟩
  generalize eH : upd H1 x _ = H2
  have x2 : ExtX H H2 := by rw [← eH]; exact (ExtX.of s1).trans (.put h1x)
  have e2 : Ext x H H2 := by rw [← eH]; exact (Ext.of s1).trans Ext.bag
  have h2x : H2 x = some (.ins C dx [("word", .str z)]) := by rw [← eH]; exact upd_same
  clear eH
  obtain ⟨R2, f2⟩ : ∃ R2 : Nat → RV, ∀ (i : Nat) (y : V), rest[i]? = some y → Fx K H2 n y (R2 i) ∧ ∀ H' u, R2 i H' u → R i H' u := pick_rv fun i y hy => (f i y hy).up x2
  refine ⟨_, rfl, .ref p, _, rfl, .node (.inr (x2.sqT hp)) few (fun i y hy => (f2 i y hy).1), fun u H3 s3 e => ?_⟩
  obtain ⟨t, ys, rfl, n0, hT, hl, hy⟩ := e
  have h3x := s3 _ _ h2x
  refine ⟨_, rfl, x, C, dx, _, rfl, h3x, pc.cl, pc.np, Nat.le_of_ble_eq_true rfl, ?_⟩
  have tx : t ≠ x := fun q => by rw [q, h3x] at hT; cases hT
  refine k _ t ys (e2.trans ((Ext.of s3).trans Ext.bag)) upd_same (x2.free n0) (by rw [upd_ne tx]; exact hT) hl fun i y hi => ?_
  have hi2 : i < rest.length := by rw [← hl]; exact (List.getElem?_eq_some_iff.mp hi).1
  have hr0 := List.getElem?_eq_getElem hi2
  exact (f2 i _ hr0).2 _ _ ((f2 i _ hr0).1.mono _ _ _ (.of (.put h3x)) (hy i y hi))
theorem R_Denial___init__ (T : Tx K mg) (n : Nat) : FnR P w K mg base CX0 (n + 6) T.a_Denial___init__ (spPap K n) := by
  obtain ⟨oc, od, kV, doc, pm, an, cdv, ct, osl, ed, lk, hcd⟩ := T.F_Denial___init__.ex
  rw [ed] at lk
  refine FnR.imp (StX.fn_star (ps := ["self", "word"]) (pv := "parts") (sp := spPap0 K n) (k := n + 5) lk hcd sc_Denial___init__ StX.cxUp_none (fun us rest h => match us, h with | [a, b], _ => by cases rest <;> rfl) (fun A outer s H vs Q E hr h => ?_)) fun vs H Q E => pap_imp
  obtain ⟨x, C, dx, p, z, rest, R, rfl, hx, pc, hp, few, f, k⟩ := h
  refine ⟨_, PSs.nox ((pss_one (ps_expr (pe_cinitS (by rfl) T.m_Paper T.fi_Paper (R_Paper___init__ T n) (hr.mono (by omega)) pass0 (pa_cons (pv 0) (pa_cons (pv 1) (StX.pa_star (pv 2) pa_nil))))))), ?_⟩
  refine ⟨_, rfl, _, rfl, _, rfl, p, rest, rfl, .inl hp, x, C, dx, z, rest, R, ?_, hx, pc, few, f, fun H' t ys e1 e2 n0 hT hl hy => k H' t ys e1 e2 n0 hT hl hy⟩
  simp
/-- a paper with its one part in an attribute -/
def spOneP (K : PySem.W.Frag) (C : Addr) (z f : Str) (n : Nat) : Sp := fun vs H Q _ => ∃ (x dx : Addr) (y : V) (R : RV), vs = [.ref x, y] ∧ H x = some (.ins C dx []) ∧ Fx K H n y R ∧
  ∀ H' t u, Ext x H H' → H' x = some (.ins C dx [("word", .str z), ("parts", .ref t), (f, u)]) → H t = none → H' t = some (.tup [u]) → R H' u → Q .non H'
theorem O_Won___init__ (T : Tx K mg) (n : Nat) : FnOk P w K mg base CX0 (n + 6) T.a_Won___init__ T.d_Won___init__ ["self", "book"] (spOneP K T.c_Won "won" "book" n) := by
  refine T.F_Won___init__.ok sc_Won___init__ (fun vs H Q E h => ?_) (fun cdv A outer s H vs Q E hr h => ?_)
  · obtain ⟨x, dx, y, R, rfl, _⟩ := h; rfl
  obtain ⟨x, dx, y, R, rfl, hx, f, k⟩ := h
  refine ⟨_, (pss_cons (ps_expr (pe_cinit (by rfl) T.m_Paper T.fi_Paper (R_Paper___init__ T n) (hr.mono (by omega)) pass0 (pa_cons (pv 0) (pa_cons pe_str (pa_cons (pv 1) pa_nil)))))
      (pss_one (ps_fld (pv 0) (pe_ix ix_tup (pe_fldK (K := K) rfl (pv 0)) pe_int (fun _ _ => rfl)) rfl))), ?_⟩
  refine ⟨_, rfl, _, rfl, x, T.c_Won, dx, "won", [y], fun _ => R, rfl, hx, ⟨T.cl_Won, T.nF_Won_word, T.nF_Won_parts⟩, (by show 1 ≤ 1000; decide), (fun i u hi => ?_), fun H1 t ys e1 h1x n0 hT hl hy => ?_⟩
  · match i, hi with
    | 0, hi => cases hi; exact f
    | i + 1, hi => simp at hi
  match ys, hl with
  | [u], _ =>
    refine ⟨_, rfl, x, _, dx, _, _, rfl, h1x, T.cl_Won, T.nF_Won_parts, rfl, t, _, 0, u, rfl, rfl, .of hT, rfl, ?_⟩
    refine ⟨_, rfl, x, _, dx, _, rfl, h1x, T.cl_Won, T.nF_Won_book, Nat.le_of_ble_eq_true rfl, ?_⟩
    have tx : t ≠ x := fun q => by rw [q, h1x] at hT; cases hT
    exact k _ t u (e1.trans Ext.bag) upd_same n0 (by rw [upd_ne tx]; exact hT) (f.mono _ _ _ (.of (.put h1x)) (hy 0 u rfl))
theorem O_Unwon___init__ (T : Tx K mg) (n : Nat) : FnOk P w K mg base CX0 (n + 7) T.a_Unwon___init__ T.d_Unwon___init__ ["self", "replies"] (spOneP K T.c_Unwon "unwon" "replies" n) := by
  refine T.F_Unwon___init__.ok sc_Unwon___init__ (fun vs H Q E h => ?_) (fun cdv A outer s H vs Q E hr h => ?_)
  · obtain ⟨x, dx, y, R, rfl, _⟩ := h; rfl
  obtain ⟨x, dx, y, R, rfl, hx, f, k⟩ := h
  refine ⟨_, (pss_cons (ps_expr (pe_cinit (by rfl) T.m_Denial T.fi_Denial (R_Denial___init__ T n) (hr.mono (by omega)) pass0 (pa_cons (pv 0) (pa_cons pe_str (pa_cons (pv 1) pa_nil)))))
      (pss_one (ps_fld (pv 0) (pe_ix ix_tup (pe_fldK (K := K) rfl (pv 0)) pe_int (fun _ _ => rfl)) rfl))), ?_⟩
  refine ⟨_, rfl, _, rfl, x, T.c_Unwon, dx, "unwon", [y], fun _ => R, rfl, hx, ⟨T.cl_Unwon, T.nF_Unwon_word, T.nF_Unwon_parts⟩, (by show 1 ≤ 1000; decide), (fun i u hi => ?_), fun H1 t ys e1 h1x n0 hT hl hy => ?_⟩
  · match i, hi with
    | 0, hi => cases hi; exact f
    | i + 1, hi => simp at hi
  match ys, hl with
  | [u], _ =>
    refine ⟨_, rfl, x, _, dx, _, _, rfl, h1x, T.cl_Unwon, T.nF_Unwon_parts, rfl, t, _, 0, u, rfl, rfl, .of hT, rfl, ?_⟩
    refine ⟨_, rfl, x, _, dx, _, rfl, h1x, T.cl_Unwon, T.nF_Unwon_replies, Nat.le_of_ble_eq_true rfl, ?_⟩
    have tx : t ≠ x := fun q => by rw [q, h1x] at hT; cases hT
    exact k _ t u (e1.trans Ext.bag) upd_same n0 (by rw [upd_ne tx]; exact hT) (f.mono _ _ _ (.of (.put h1x)) (hy 0 u rfl))
theorem O_Family___init__ (T : Tx K mg) (n : Nat) : FnOk P w K mg base CX0 (n + 6) T.a_Family___init__ T.d_Family___init__ ["self", "papers"] (spOneP K T.c_Family "family" "papers" n) := by
  refine T.F_Family___init__.ok sc_Family___init__ (fun vs H Q E h => ?_) (fun cdv A outer s H vs Q E hr h => ?_)
  · obtain ⟨x, dx, y, R, rfl, _⟩ := h; rfl
  obtain ⟨x, dx, y, R, rfl, hx, f, k⟩ := h
  refine ⟨_, (pss_cons (ps_expr (pe_cinit (by rfl) T.m_Paper T.fi_Paper (R_Paper___init__ T n) (hr.mono (by omega)) pass0 (pa_cons (pv 0) (pa_cons pe_str (pa_cons (pv 1) pa_nil)))))
      (pss_one (ps_fld (pv 0) (pe_ix ix_tup (pe_fldK (K := K) rfl (pv 0)) pe_int (fun _ _ => rfl)) rfl))), ?_⟩
  refine ⟨_, rfl, _, rfl, x, T.c_Family, dx, "family", [y], fun _ => R, rfl, hx, ⟨T.cl_Family, T.nF_Family_word, T.nF_Family_parts⟩, (by show 1 ≤ 1000; decide), (fun i u hi => ?_), fun H1 t ys e1 h1x n0 hT hl hy => ?_⟩
  · match i, hi with
    | 0, hi => cases hi; exact f
    | i + 1, hi => simp at hi
  match ys, hl with
  | [u], _ =>
    refine ⟨_, rfl, x, _, dx, _, _, rfl, h1x, T.cl_Family, T.nF_Family_parts, rfl, t, _, 0, u, rfl, rfl, .of hT, rfl, ?_⟩
    refine ⟨_, rfl, x, _, dx, _, rfl, h1x, T.cl_Family, T.nF_Family_papers, Nat.le_of_ble_eq_true rfl, ?_⟩
    have tx : t ≠ x := fun q => by rw [q, h1x] at hT; cases hT
    exact k _ t u (e1.trans Ext.bag) upd_same n0 (by rw [upd_ne tx]; exact hT) (f.mono _ _ _ (.of (.put h1x)) (hy 0 u rfl))

theorem O_Unlike___init__ (T : Tx K mg) (n : Nat) : FnOk P w K mg base CX0 (n + 7) T.a_Unlike___init__ T.d_Unlike___init__ ["self", "part"] (spOneP K T.c_Unlike "unlike" "part" n) := by
  refine T.F_Unlike___init__.ok sc_Unlike___init__ (fun vs H Q E h => ?_) (fun cdv A outer s H vs Q E hr h => ?_)
  · obtain ⟨x, dx, y, R, rfl, _⟩ := h; rfl
  obtain ⟨x, dx, y, R, rfl, hx, f, k⟩ := h
  refine ⟨_, (pss_cons (ps_expr (pe_cinit (by rfl) T.m_Denial T.fi_Denial (R_Denial___init__ T n) (hr.mono (by omega)) pass0 (pa_cons (pv 0) (pa_cons pe_str (pa_cons (pv 1) pa_nil)))))
      (pss_one (ps_fld (pv 0) (pe_ix ix_tup (pe_fldK (K := K) rfl (pv 0)) pe_int (fun _ _ => rfl)) rfl))), ?_⟩
  refine ⟨_, rfl, _, rfl, x, T.c_Unlike, dx, "unlike", [y], fun _ => R, rfl, hx, ⟨T.cl_Unlike, T.nF_Unlike_word, T.nF_Unlike_parts⟩, (by show 1 ≤ 1000; decide), (fun i u hi => ?_), fun H1 t ys e1 h1x n0 hT hl hy => ?_⟩
  · match i, hi with
    | 0, hi => cases hi; exact f
    | i + 1, hi => simp at hi
  match ys, hl with
  | [u], _ =>
    refine ⟨_, rfl, x, _, dx, _, _, rfl, h1x, T.cl_Unlike, T.nF_Unlike_parts, rfl, t, _, 0, u, rfl, rfl, .of hT, rfl, ?_⟩
    refine ⟨_, rfl, x, _, dx, _, rfl, h1x, T.cl_Unlike, T.nF_Unlike_part, Nat.le_of_ble_eq_true rfl, ?_⟩
    have tx : t ≠ x := fun q => by rw [q, h1x] at hT; cases hT
    exact k _ t u (e1.trans Ext.bag) upd_same n0 (by rw [upd_ne tx]; exact hT) (f.mono _ _ _ (.of (.put h1x)) (hy 0 u rfl))
/-- a paper without parts -/
def spNoP (C : Addr) (z : Str) : Sp := fun vs H Q _ => ∃ (x dx : Addr), vs = [.ref x] ∧ H x = some (.ins C dx []) ∧
  ∀ H' t, Ext x H H' → H' x = some (.ins C dx [("word", .str z), ("parts", .ref t)]) → H t = none → H' t = some (.tup []) → Q .non H'
theorem O_Alike___init__ (T : Tx K mg) (n : Nat) : FnOk P w K mg base CX0 (n + 6) T.a_Alike___init__ T.d_Alike___init__ ["self"] (spNoP T.c_Alike "alike") := by
  refine T.F_Alike___init__.ok sc_Alike___init__ (fun vs H Q E h => ?_) (fun cdv A outer s H vs Q E hr h => ?_)
  · obtain ⟨x, dx, rfl, _⟩ := h; rfl
  obtain ⟨x, dx, rfl, hx, k⟩ := h
  refine ⟨_, (pss_one (ps_expr (pe_cinit (by rfl) T.m_Paper T.fi_Paper (R_Paper___init__ T n) (hr.mono (by omega)) pass0 (pa_cons (pv 0) (pa_cons pe_str pa_nil))))), ?_⟩
  refine ⟨_, rfl, x, T.c_Alike, dx, "alike", [], fun _ _ _ => True, rfl, hx, ⟨T.cl_Alike, T.nF_Alike_word, T.nF_Alike_parts⟩, (by decide), (fun i u hi => by simp at hi), fun H1 t ys e1 h1x n0 hT hl hy => ?_⟩
  match ys, hl with
  | [], _ => exact k H1 t e1 h1x n0 hT
/-! ### truth -/
def spTrue (b : Bool) : Sp := fun vs H Q _ => ∃ v, vs = [v] ∧ Q (.bl b) H
theorem O_Paper___bool__ (T : Tx K mg) : FnOk P w K mg base CX0 1 T.a_Paper___bool__ T.d_Paper___bool__ ["self"] (spTrue true) := by
  refine T.F_Paper___bool__.ok sc_Paper___bool__ (fun vs H Q E h => ?_) (fun cdv A outer s H vs Q E hr h => ?_)
  · obtain ⟨v, rfl, _⟩ := h; rfl
  obtain ⟨v, rfl, k⟩ := h
  exact ⟨_, (pss_one (ps_ret pe_bl)), k⟩
theorem O_Denial___bool__ (T : Tx K mg) : FnOk P w K mg base CX0 1 T.a_Denial___bool__ T.d_Denial___bool__ ["self"] (spTrue false) := by
  refine T.F_Denial___bool__.ok sc_Denial___bool__ (fun vs H Q E h => ?_) (fun cdv A outer s H vs Q E hr h => ?_)
  · obtain ⟨v, rfl, _⟩ := h; rfl
  obtain ⟨v, rfl, k⟩ := h
  exact ⟨_, (pss_one (ps_ret pe_bl)), k⟩
end
end K02

set_option Elab.async false
set_option linter.all false
set_option maxRecDepth 100000
set_option maxHeartbeats 4000000
namespace K02
open PySem PySem.Spec PyProof.Rows L2 Gs
section
variable {P : Program} {w : World} {K : PySem.W.Frag} {mg : Str → Option Value} {base : Heap}
/-- a class of papers, its name -/
structure PCl (K : PySem.W.Frag) (cP C : Addr) (nm : Str) : Prop where
  cl : Cls K C
  nw : NoAttr K C "word"
  np : NoAttr K C "parts"
  cn : CName K C nm
  ty : TyC K C
  kp : PySem.W.kitOne K (.ref C) (.ref cP) = some true
theorem pc_Paper (T : Tx K mg) : PCl K T.c_Paper T.c_Paper "Paper" := ⟨T.cl_Paper, T.nF_Paper_word, T.nF_Paper_parts, T.cn_Paper, T.ty_Paper, T.kp_Paper⟩
theorem pc_Denial (T : Tx K mg) : PCl K T.c_Paper T.c_Denial "Denial" := ⟨T.cl_Denial, T.nF_Denial_word, T.nF_Denial_parts, T.cn_Denial, T.ty_Denial, T.kp_Denial⟩
theorem pc_Alike (T : Tx K mg) : PCl K T.c_Paper T.c_Alike "Alike" := ⟨T.cl_Alike, T.nF_Alike_word, T.nF_Alike_parts, T.cn_Alike, T.ty_Alike, T.kp_Alike⟩
theorem pc_Unlike (T : Tx K mg) : PCl K T.c_Paper T.c_Unlike "Unlike" := ⟨T.cl_Unlike, T.nF_Unlike_word, T.nF_Unlike_parts, T.cn_Unlike, T.ty_Unlike, T.kp_Unlike⟩
theorem pc_Won (T : Tx K mg) : PCl K T.c_Paper T.c_Won "Won" := ⟨T.cl_Won, T.nF_Won_word, T.nF_Won_parts, T.cn_Won, T.ty_Won, T.kp_Won⟩
theorem pc_Unwon (T : Tx K mg) : PCl K T.c_Paper T.c_Unwon "Unwon" := ⟨T.cl_Unwon, T.nF_Unwon_word, T.nF_Unwon_parts, T.cn_Unwon, T.ty_Unwon, T.kp_Unwon⟩
theorem pc_Family (T : Tx K mg) : PCl K T.c_Paper T.c_Family "Family" := ⟨T.cl_Family, T.nF_Family_word, T.nF_Family_parts, T.cn_Family, T.ty_Family, T.kp_Family⟩
/-- a paper: class, its name, its word, its parts (a tuple), what else it holds -/
def PaAt (K : PySem.W.Frag) (cP : Addr) (H : Hp) (a C : Addr) (nm z : Str) (t : Addr) (fs : List (Str × V)) : Prop := PCl K cP C nm ∧ ∃ dx, H a = some (.ins C dx (("word", .str z) :: ("parts", .ref t) :: fs))
theorem PaAt.same {cP a C t : Addr} {nm z : Str} {H H' : Hp} {fs : List (Str × V)} (s : Same H H') (h : PaAt K cP H a C nm z t fs) : PaAt K cP H' a C nm z t fs := ⟨h.1, h.2.choose, s _ _ h.2.choose_spec⟩
theorem ty_sqt {H : Hp} {a : Addr} {xs : List V} (h : SqT K H a xs) : TyX K H (.ref a) (.type "tuple") := by
  rcases h with (s | ⟨o, s⟩) | ⟨o, its, n, e, q, _⟩
  · exact .base (.tup s)
  · exact .fTuple s
  · exact .kTuple e q
def spSame (K : PySem.W.Frag) (cP : Addr) : Sp := fun vs H Q _ => ∃ (a C t : Addr) (nm z : Str) (fs : List (Str × V)) (y : V), vs = [.ref a, y] ∧ PaAt K cP H a C nm z t fs ∧
  ((∃ u xs, y = .ref u ∧ SqT K H u xs ∧ ∀ H', Same H H' → Q (.bl false) H') ∨
   (∃ (b D t2 : Addr) (nm2 z2 : Str) (gs : List (Str × V)) (e : Bool), y = .ref b ∧ PaAt K cP H b D nm2 z2 t2 gs ∧ (nm = nm2 → z = z2 → DTupW K (DMix K) (.ref t) (.ref t2) e H) ∧ ∀ H', Same H H' → Q (.bl (decide (nm = nm2) && decide (z = z2) && e)) H'))
theorem O_is_same_paper (T : Tx K mg) : FnOk P w K mg base CX0 72 T.a_is_same_paper T.d_is_same_paper ["paper", "other"] (spSame K T.c_Paper) := by
  refine T.F_is_same_paper.ok sc_is_same_paper (fun vs H Q E h => ?_) (fun cdv A outer s H vs Q E hr h => ?_)
  · obtain ⟨_, _, _, _, _, _, _, rfl, _⟩ := h; rfl
  obtain ⟨a, C, t, nm, z, fs, y, rfl, ⟨pc, dx, ha⟩, h⟩ := h
  refine ⟨_, (pss_cons (ps_if (pt_not (pt_val (pe_callB call_isi (by rfl) T.z_isinstance (by decide +kernel) (pa_cons (pv 1) (pa_cons (pe_glob (v := .ref T.c_Paper) (by rfl) T.m_Paper rfl) pa_nil))))) (pss_one (ps_ret pe_bl)) pss_nil)
      (pss_cons (ps_if (pt_cmpR op_ne (pe_clsName (pv 0)) (pe_clsName (pv 1)) (nomark _)) (pss_one (ps_ret pe_bl)) pss_nil)
      (pss_one (ps_ret (pe_and (pe_cmpR op_eq (pe_fldK (K := K) rfl (pv 0)) (pe_fldK (K := K) rfl (pv 1)) (nomark _)) (pe_one (pe_cmpR (op_eqW (rcW_tup mon_mix eqW_mix) (hr.mono (by decide))) (pe_fldK (K := K) rfl (pv 0)) (pe_fldK (K := K) rfl (pv 1)) (nomark _)))))))), ?_⟩
  rcases h with ⟨u, xs, rfl, hu, k⟩ | ⟨b, D, t2, nm2, z2, gs, e, rfl, ⟨pc2, dy, hb⟩, hd, k⟩
  · refine ⟨_, rfl, .ref u, .ref T.c_Paper, .type "tuple", .ref T.c_Paper, false, rfl, .own _, ty_sqt hu, T.kt_Paper, _, rfl, iteT (k _ (Same.refl _))⟩
  refine ⟨_, rfl, .ref b, .ref T.c_Paper, .ref D, .ref T.c_Paper, true, rfl, .own _, pc2.ty.ty hb, pc2.kp, _, rfl, iteF ?_⟩
  refine ⟨_, rfl, a, C, dx, _, nm, rfl, ha, pc.cn, _, rfl, b, D, dy, _, nm2, rfl, hb, pc2.cn, ?_⟩
  refine ⟨rfl, _, rfl, ?_⟩
  have e1 : decide (V.str nm = V.str nm2) = decide (nm = nm2) := decide_eq_decide.mpr ⟨V.str.inj, fun e => e ▸ rfl⟩
  have e2 : decide (V.str z = V.str z2) = decide (z = z2) := decide_eq_decide.mpr ⟨V.str.inj, fun e => e ▸ rfl⟩
  rw [e1]
  by_cases q : nm = nm2
  · rw [decide_eq_true q] at k ⊢
    refine iteF ?_
    refine ⟨_, rfl, a, C, dx, _, _, rfl, ha, pc.cl, pc.nw, rfl, _, rfl, b, D, dy, _, _, rfl, hb, pc2.cl, pc2.nw, rfl, rfl, ?_⟩
    rw [e2]
    refine ⟨_, rfl, ?_⟩
    by_cases q2 : z = z2
    · rw [decide_eq_true q2] at k ⊢
      refine iteT ?_
      refine ⟨_, rfl, a, C, dx, _, _, rfl, ha, pc.cl, pc.np, rfl, _, rfl, b, D, dy, _, _, rfl, hb, pc2.cl, pc2.np, rfl, e, hd q q2, k⟩
    · rw [decide_eq_false q2] at k ⊢
      exact iteF (k _ (Same.refl _))
  · rw [decide_eq_false q] at k ⊢
    exact iteT (k _ (Same.refl _))
theorem O_Paper___eq__ (T : Tx K mg) : FnOk P w K mg base CX0 73 T.a_Paper___eq__ T.d_Paper___eq__ ["self", "other"] (spSame K T.c_Paper) := by
  refine T.F_Paper___eq__.ok sc_Paper___eq__ (fun vs H Q E h => ?_) (fun cdv A outer s H vs Q E hr h => ?_)
  · obtain ⟨_, _, _, _, _, _, _, rfl, _⟩ := h; rfl
  refine ⟨_, (pss_one (ps_ret (pe_call (O_is_same_paper T) (hr.mono (by decide)) (by rfl) T.m_is_same_paper T.F_is_same_paper.kp T.b_is_same_paper .nil pass0 (pa_cons (pv 0) (pa_cons (pv 1) pa_nil))))), ?_⟩
  obtain ⟨a, C, t, nm, z, fs, y, rfl, h⟩ := h
  exact ⟨_, rfl, _, rfl, a, C, t, nm, z, fs, y, rfl, h⟩
theorem O_Denial___eq__ (T : Tx K mg) : FnOk P w K mg base CX0 73 T.a_Denial___eq__ T.d_Denial___eq__ ["self", "other"] (spSame K T.c_Paper) := by
  refine T.F_Denial___eq__.ok sc_Denial___eq__ (fun vs H Q E h => ?_) (fun cdv A outer s H vs Q E hr h => ?_)
  · obtain ⟨_, _, _, _, _, _, _, rfl, _⟩ := h; rfl
  refine ⟨_, (pss_one (ps_ret (pe_call (O_is_same_paper T) (hr.mono (by decide)) (by rfl) T.m_is_same_paper T.F_is_same_paper.kp T.b_is_same_paper .nil pass0 (pa_cons (pv 0) (pa_cons (pv 1) pa_nil))))), ?_⟩
  obtain ⟨a, C, t, nm, z, fs, y, rfl, h⟩ := h
  exact ⟨_, rfl, _, rfl, a, C, t, nm, z, fs, y, rfl, h⟩
end
end K02

set_option Elab.async false
set_option linter.all false
set_option maxRecDepth 100000
set_option maxHeartbeats 4000000
/-! Layer G43: data that is fixed: its size, its depth; data without dicts. -/
namespace Gs
open PySem PySem.Spec PyProof.Rows L2
mutual
theorem fix_same : ∀ d : PyData, (fixD d).showable = d.showable ∧ (fixD d).depth = d.depth ∧ (fixD d).leavesShort 1100 = d.leavesShort 1100 ∧ (fixD d).bulk = d.bulk ∧ (fixD d).canLay0 = d.canLay0
  | .none => ⟨rfl, rfl, rfl, rfl, rfl⟩
  | .bool _ => ⟨rfl, rfl, rfl, rfl, rfl⟩
  | .int _ => ⟨rfl, rfl, rfl, rfl, rfl⟩
  | .str _ => ⟨rfl, rfl, rfl, rfl, rfl⟩
  | .dict _ => ⟨rfl, rfl, rfl, rfl, rfl⟩
  | .list ds => by
    obtain ⟨a, b, c, d, e⟩ := fixs_same ds
    simp only [fixD, PyData.showable, PyData.depth, PyData.leavesShort, PyData.bulk, PyData.canLay0, a, b, c, d, e, and_self]
  | .tuple ds => by
    obtain ⟨a, b, c, d, e⟩ := fixs_same ds
    simp only [fixD, PyData.showable, PyData.depth, PyData.leavesShort, PyData.bulk, PyData.canLay0, a, b, c, d, e, and_self]
theorem fixs_same : ∀ ds : List PyData, PyData.showableAll (fixDs ds) = PyData.showableAll ds ∧ PyData.depthAll (fixDs ds) = PyData.depthAll ds ∧ PyData.leavesShortAll 1100 (fixDs ds) = PyData.leavesShortAll 1100 ds ∧ PyData.bulkAll (fixDs ds) = PyData.bulkAll ds ∧ PyData.canLayAll0 (fixDs ds) = PyData.canLayAll0 ds
  | [] => ⟨rfl, rfl, rfl, rfl, rfl⟩
  | d :: ds => by
    obtain ⟨a, b, c, f, e⟩ := fix_same d
    obtain ⟨a', b', c', f', e'⟩ := fixs_same ds
    simp only [fixDs, PyData.showableAll, PyData.depthAll, PyData.leavesShortAll, PyData.bulkAll, PyData.canLayAll0, a, b, c, f, e, a', b', c', f', e', and_self]
end
theorem Fine.fix {k n : Nat} {d : PyData} (h : Fine k n d) : Fine k n (fixD d) := by
  obtain ⟨a, b, c, e, _⟩ := fix_same d
  exact ⟨a.trans h.sh, Nat.le_trans (Nat.le_of_eq b) h.dp, c.trans h.lf, Nat.le_trans (Nat.le_of_eq e) h.bk⟩
section
variable {K : PySem.W.Frag} {c : Addr} {H : Hp}
mutual
theorem DV.dp : ∀ (d : PyData) (v : V), DV K c H v d → d.canLay0 = true → Dp K H v d
  | .none, _, h, _ => by cases h; exact .non
  | .bool _, _, h, _ => by cases h; exact .bl _
  | .int _, _, h, _ => by cases h; exact .int _
  | .str _, _, h, _ => by cases h; exact .str _
  | .list ds, _, h, k => by
    cases h with
    | lst n s r => exact .lst s (DVs.dp ds _ r k)
  | .tuple ds, _, h, k => by
    cases h with
    | tup n s r => exact .tup s (DVs.dp ds _ r k)
  | .dict _, _, _, k => by cases k
theorem DVs.dp : ∀ (ds : List PyData) (vs : List V), DVs K c H vs ds → PyData.canLayAll0 ds = true → DpAll K H vs ds
  | [], _, h, _ => by cases h; exact .nil
  | d :: ds, _, h, k => by
    cases h with
    | cons a b =>
      obtain ⟨k1, k2⟩ := Bool.and_eq_true_iff.mp (show (d.canLay0 && PyData.canLayAll0 ds) = true from k)
      exact .cons (DV.dp d _ a k1) (DVs.dp ds _ b k2)
end
end
end Gs
namespace Gs
open PySem PySem.Spec PyProof.Rows L2
theorem seq_cut {te : TE} {tg : TG} {r : TS} {D : Ends} {σ : L2.St} {H : Hp} (R : V → Hp → Prop) (h1 : ∀ Q : VK, (∀ v H', R v H' → Q v H') → te σ H Q) (h2 : ∀ v H', R v H' → tg v σ H' (r D)) : tSeq (tAsg te tg) r D σ H := h1 _ h2
theorem te_cut {te : TE} {σ : L2.St} {H : Hp} {Q : VK} (R : V → Hp → Prop) (h1 : ∀ Q' : VK, (∀ v H', R v H' → Q' v H') → te σ H Q') (h2 : ∀ v H', R v H' → Q v H') : te σ H Q := h1 _ h2
theorem nd_self (v : V) : (!decide (v = v)) = false := by simp
theorem d_self (v : V) : decide (v = v) = true := by simp
end Gs

set_option Elab.async false
set_option linter.all false
set_option maxRecDepth 100000
set_option maxHeartbeats 4000000
namespace K02
open PySem PySem.Spec PyProof.Rows L2 Gs
section
variable {P : Program} {w : World} {K : PySem.W.Frag} {mg : Str → Option Value} {base : Heap}
theorem law_own_step (T : Tx K mg) (n : Nat) (IH : FnOk P w K mg base CX0 (n + 2) T.a__law_own T.d__law_own ["value"] (spFixR K n)) : FnOk P w K mg base CX0 (n + 3) T.a__law_own T.d__law_own ["value"] (spFixed K n) := by
  refine T.F__law_own.ok sc__law_own (fun vs H Q E h => ?_) (fun cdv A outer s H vs Q E hr h => ?_)
  · obtain ⟨v, R, rfl, _⟩ := h; rfl
  obtain ⟨v, R, rfl, f, k⟩ := h
  refine ⟨_, (pss_cons (ps_if (pt_val (pe_callB call_isiT (by rfl) T.z_isinstance (by decide +kernel) (pa_cons (pv 0) (pa_cons (pe_tup (pa_cons (pe_bltn (v := .ty "list") (u := .type "list") (by rfl) T.z_list (by decide +kernel) rfl) (pa_cons (pe_bltn (v := .ty "tuple") (u := .type "tuple") (by rfl) T.z_tuple (by decide +kernel) rfl) pa_nil))) pa_nil)))) (pss_one (ps_ret (pe_callTy call_tuple_of (by rfl) T.z_tuple (by decide +kernel) (pa_cons (pe_lc (own := [("part", 1)]) (g := (gName 1)) rfl sc__law_own.nd (pi_or (pi_list (pv 0)) (pi_tup (pv 0))) (blkOk_by (N := n__law_own) (sc := defScope s__law_own) (by decide +kernel)) (fun _ _ _ _ _ => (pg_name (i := 1) sc__law_own.nd rfl (Or.inl rfl))) (fun _ _ _ _ _ => pts_nil) (fun _ _ _ _ _ => (pe_call IH (hr.mono (by omega)) (by rfl) T.m__law_own T.F__law_own.kp T.b__law_own .nil pass0 (pa_cons (pv 1) pa_nil)))) pa_nil)))) pss_nil)
      (pss_one (ps_ret (pv 0)))), ?_⟩
  refine ⟨_, rfl, szl rfl, fun p hp => ?_⟩
  have s1 : Same H (upd H p (.tup [.ty "list", .ty "tuple"])) := same_new hp
  have hP : upd H p (.tup [.ty "list", .ty "tuple"]) p = some (.tup [.ty "list", .ty "tuple"]) := upd_same
  generalize upd H p _ = H1 at s1 hP ⊢
  cases f with
  | leaf lf =>
    obtain ⟨t, ty, kt⟩ := (lf.up (.of s1)).not
    exact ⟨_, _, [.ty "list", .ty "tuple"], t, [.type "list", .type "tuple"], false, rfl, hP, .cons (.ty _) (.cons (.ty _) .nil), ty, kt, _, rfl, iteF ⟨_, rfl, k v H1 s1 rfl⟩⟩
  | @node m a xs R hq few hs =>
    have hq1 : SqA K H1 a xs := SqA.up (ExtX.of s1) hq
    obtain ⟨d, hsq, ty⟩ := ty_sqa hq1
    refine ⟨.ref a, _, [.ty "list", .ty "tuple"], .type (tyN d), [.type "list", .type "tuple"], isSeq d, rfl, hP, .cons (.ty _) (.cons (.ty _) .nil), ty, kit_seq _, ?_⟩
    rw [hsq]
    refine ⟨_, rfl, iteT ?_⟩
    have mono : ∀ i H' H'' u, i < xs.length → ExtZ H1 H' H'' → R i H' u → R i H'' u := fun i H' H'' u hi e => (hs i _ (List.getElem?_eq_getElem hi)).mono _ _ _ (e.less (ExtX.of s1))
    refine sqa_rd rfl hq1 fun J G hG wk D hD => ?_
    refine lc_mapR wk R hD few hG mono ?_ ?_
    · intro i x H' Kc Ke hi hx s2 kc
      obtain ⟨R1, f1, g1⟩ := (hs i x hx).up (ExtX.of (s1.trans s2))
      exact ⟨rfl, _, rfl, x, R1, rfl, f1, fun u H4 s4 r => kc u H4 s4 (g1 _ _ r)⟩
    · intro ys H' s2 hy hl hr
      refine ⟨D, ys, rfl, .inl ⟨.of hy, fun t ht => ?_⟩⟩
      have hi : ∀ i y, ys[i]? = some y → i < xs.length := fun i y h => by rw [← hl]; exact (List.getElem?_eq_some_iff.mp h).1
      exact k _ _ ((s1.trans s2).trans (same_new ht)) ⟨t, ys, rfl, (s1.trans s2).free ht, upd_same, hl, fun i y h => mono i _ _ _ (hi i y h) (.of (ExtX.of (same_new ht))) (hr i y h)⟩
theorem O__law_own_at (T : Tx K mg) : ∀ n, FnOk P w K mg base CX0 (n + 3) T.a__law_own T.d__law_own ["value"] (spFixed K n)
  | 0 => law_own_step T 0 ⟨fun _ _ _ _ h => h.elim, fun _ _ _ _ _ _ _ _ _ _ _ _ _ h => h.elim⟩
  | n + 1 => law_own_step T (n + 1) (O__law_own_at T n)
theorem O__law_own (T : Tx K mg) : FnOk P w K mg base CX0 43 T.a__law_own T.d__law_own ["value"] (spFixed K 40) := O__law_own_at T 40
/-! ### the papers by their number -/
def clsI (T : Tx K mg) : Nat → Addr
  | 0 => T.c_Alike
  | 1 => T.c_Unlike
  | 2 => T.c_Won
  | 3 => T.c_Unwon
  | _ => T.c_Family
def nmI : Nat → Str
  | 0 => "Alike"
  | 1 => "Unlike"
  | 2 => "Won"
  | 3 => "Unwon"
  | _ => "Family"
def wdI : Nat → Str
  | 0 => "alike"
  | 1 => "unlike"
  | 2 => "won"
  | 3 => "unwon"
  | _ => "family"
def fdI : Nat → Str
  | 0 => ""
  | 1 => "part"
  | 2 => "book"
  | 3 => "replies"
  | _ => "papers"
/-- at x the paper number i, made behind H0 of what R tells -/
def MdAt (T : Tx K mg) (H0 H : Hp) (R : RV) (i : Nat) (x : Addr) : Prop := ∃ (t : Addr) (us : List V), PaAt K T.c_Paper H x (clsI T i) (nmI i) (wdI i) t (us.map fun u => (fdI i, u)) ∧ H0 t = none ∧ H t = some (.tup us) ∧ us.length = (if i = 0 then 0 else 1) ∧ ∀ u ∈ us, R H u
theorem MdAt.same {T : Tx K mg} {H0 H H' : Hp} {R : RV} {i : Nat} {x : Addr} (s : Same H H') (hR : ∀ u, R H u → R H' u) (h : MdAt T H0 H R i x) : MdAt T H0 H' R i x := by
  obtain ⟨t, us, a, b, c, d, e⟩ := h
  exact ⟨t, us, a.same s, b, s _ _ c, d, fun u hu => hR u (e u hu)⟩
theorem MdAt.less {T : Tx K mg} {H0 H1 H : Hp} {R R1 : RV} {i : Nat} {x : Addr} (s : Same H0 H1) (hR : ∀ u, R1 H u → R H u) (h : MdAt T H1 H R1 i x) : MdAt T H0 H R i x := by
  obtain ⟨t, us, a, b, c, d, e⟩ := h
  exact ⟨t, us, a, s.free b, c, d, fun u hu => hR u (e u hu)⟩
theorem made_same {H : Hp} {x dx C : Addr} (hx : H x = none) (hd : H dx = none) (ne : dx ≠ x) : Same H (upd (upd H dx (.own x)) x (.ins C dx [])) := fun b o e => by
  rw [upd_ne (ne_of_none e hx), upd_ne (ne_of_none e hd)]; exact e
theorem made_ext {H H' : Hp} {x dx C : Addr} (hx : H x = none) (hd : H dx = none) (ne : dx ≠ x) (e : Ext x (upd (upd H dx (.own x)) x (.ins C dx [])) H') : Same H H' := fun b o h => e b o (ne_of_none h hx) (made_same hx hd ne b o h)
def spMade (T : Tx K mg) : Sp := fun vs H Q _ => ∃ (i : Nat) (v : V) (b : Bool) (R : RV), vs = [.int i, v, .bl b] ∧ i < 5 ∧ Fx K H 40 v R ∧ ∀ H' x, Same H H' → MdAt T H H' R i x → Q (.ref x) H'
theorem pcI (T : Tx K mg) : ∀ i, PCl K T.c_Paper (clsI T i) (nmI i)
  | 0 => pc_Alike T
  | 1 => pc_Unlike T
  | 2 => pc_Won T
  | 3 => pc_Unwon T
  | _ + 4 => pc_Family T
theorem md_one (T : Tx K mg) {H : Hp} {v : V} {R : RV} {i : Nat} {x dx : Addr} {W : Hp → Prop} {E : XK} (hi : i ≠ 0) (f : Fx K H 40 v R) (hx : H x = none) (hd : H dx = none) (ne : dx ≠ x) (k : ∀ H', Same H H' → MdAt T H H' R i x → W H') :
    spOneP K (clsI T i) (wdI i) (fdI i) 40 [.ref x, v] (upd (upd H dx (.own x)) x (.ins (clsI T i) dx [])) (fun v H2 => v = .non ∧ W H2) E := by
  obtain ⟨R1, f1, g1⟩ := f.up (ExtX.of (made_same (C := clsI T i) hx hd ne))
  refine ⟨x, dx, v, R1, rfl, upd_same, f1, fun H' t u e hx' n0 hT r => ⟨rfl, k H' (made_ext hx hd ne e) ⟨t, [u], ⟨pcI T i, dx, hx'⟩, (made_same hx hd ne).free n0, hT, by rw [if_neg hi]; rfl, fun u' hu => ?_⟩⟩⟩
  rw [List.mem_singleton.mp hu]
  exact g1 _ _ r
theorem md_zero (T : Tx K mg) {H : Hp} {R : RV} {x dx : Addr} {W : Hp → Prop} {E : XK} (hx : H x = none) (hd : H dx = none) (ne : dx ≠ x) (k : ∀ H', Same H H' → MdAt T H H' R 0 x → W H') :
    spNoP T.c_Alike "alike" [.ref x] (upd (upd H dx (.own x)) x (.ins T.c_Alike dx [])) (fun v H2 => v = .non ∧ W H2) E :=
  ⟨x, dx, rfl, upd_same, fun H' t e hx' n0 hT => ⟨rfl, k H' (made_ext hx hd ne e) ⟨t, [], ⟨pc_Alike T, dx, hx'⟩, (made_same hx hd ne).free n0, hT, rfl, fun u' hu => nomatch hu⟩⟩⟩
/-- the five, one behind the other -/
theorem five (T : Tx K mg) {H : Hp} {v : V} {R : RV} {i : Nat} {Q : VK} (hi : i < 5) (f : Fx K H 40 v R) (k : ∀ H' x, Same H H' → MdAt T H H' R i x → Q (.ref x) H') :
    ∀ H0 x0, Same H H0 → MdAt T H H0 R 0 x0 → ∃ R1, Fx K H0 40 v R1 ∧ ∀ H1 x1, Same H0 H1 → MdAt T H0 H1 R1 1 x1 → ∃ R2, Fx K H1 40 v R2 ∧ ∀ H2 x2, Same H1 H2 → MdAt T H1 H2 R2 2 x2 →
      ∃ R3, Fx K H2 40 v R3 ∧ ∀ H3 x3, Same H2 H3 → MdAt T H2 H3 R3 3 x3 → ∃ R4, Fx K H3 40 v R4 ∧ ∀ H4 x4, Same H3 H4 → MdAt T H3 H4 R4 4 x4 → ∀ p, H4 p = none →
        rIxL K (.ref p) (.int i) (upd H4 p (.lst [.ref x0, .ref x1, .ref x2, .ref x3, .ref x4])) Q := by
  intro H0 x0 s0 m0
  have mono : ∀ H' H'' u, Same H' H'' → R H' u → R H'' u := fun H' H'' u s => f.mono _ _ _ (.of (ExtX.of s))
  obtain ⟨R1, f1, g1⟩ := f.up (ExtX.of s0)
  refine ⟨R1, f1, fun H1 x1 s1 m1 => ?_⟩
  obtain ⟨R2, f2, g2⟩ := f.up (ExtX.of (s0.trans s1))
  refine ⟨R2, f2, fun H2 x2 s2 m2 => ?_⟩
  obtain ⟨R3, f3, g3⟩ := f.up (ExtX.of ((s0.trans s1).trans s2))
  refine ⟨R3, f3, fun H3 x3 s3 m3 => ?_⟩
  obtain ⟨R4, f4, g4⟩ := f.up (ExtX.of (((s0.trans s1).trans s2).trans s3))
  refine ⟨R4, f4, fun H4 x4 s4 m4 p hp => ?_⟩
  have sp : Same H4 (upd H4 p (.lst [.ref x0, .ref x1, .ref x2, .ref x3, .ref x4])) := same_new hp
  have mm : ∀ u Ha Hb, Same Ha Hb → R Ha u → R Hb u := fun u Ha Hb s => mono Ha Hb u s
  have t0 := m0.same (((s1.trans s2).trans (s3.trans s4)).trans sp) fun u => mm u _ _ (((s1.trans s2).trans (s3.trans s4)).trans sp)
  have t1 := (m1.less s0 (g1 _)).same ((s2.trans (s3.trans s4)).trans sp) fun u => mm u _ _ ((s2.trans (s3.trans s4)).trans sp)
  have t2 := (m2.less (s0.trans s1) (g2 _)).same ((s3.trans s4).trans sp) fun u => mm u _ _ ((s3.trans s4).trans sp)
  have t3 := (m3.less ((s0.trans s1).trans s2) (g3 _)).same (s4.trans sp) fun u => mm u _ _ (s4.trans sp)
  have t4 := (m4.less (((s0.trans s1).trans s2).trans s3) (g4 _)).same sp fun u => mm u _ _ sp
  have sa := ((s0.trans s1).trans (s2.trans s3)).trans (s4.trans sp)
  have pick : ∀ x, [V.ref x0, V.ref x1, V.ref x2, V.ref x3, V.ref x4][i]? = some (V.ref x) → MdAt T H (upd H4 p (.lst [.ref x0, .ref x1, .ref x2, .ref x3, .ref x4])) R i x → rIxL K (.ref p) (.int i) (upd H4 p (.lst [.ref x0, .ref x1, .ref x2, .ref x3, .ref x4])) Q :=
    fun x hx m => ⟨p, _, _, .ref x, rfl, rfl, .of upd_same, atI_nat hx, k _ _ sa m⟩
  match i, hi with
  | 0, _ => exact pick x0 rfl t0
  | 1, _ => exact pick x1 rfl t1
  | 2, _ => exact pick x2 rfl t2
  | 3, _ => exact pick x3 rfl t3
  | 4, _ => exact pick x4 rfl t4
theorem O__law_made (T : Tx K mg) : FnOk P w K mg base CX0 60 T.a__law_made T.d__law_made ["at", "one", "is_named"] (spMade T) := by
  refine T.F__law_made.ok sc__law_made (fun vs H Q E h => ?_) (fun cdv A outer s H vs Q E hr h => ?_)
  · obtain ⟨_, _, _, _, rfl, _⟩ := h; rfl
  obtain ⟨i, v, b, R, rfl, hi, f, k⟩ := h
  refine ⟨_, (pss_cons (ps_if (pt_truth (pv 2) (by intro _; rfl)) (pss_one (ps_ret (pe_ix ix_list (pe_lst (pa_cons (pe_make0 T.mk_Alike (O_Alike___init__ T 40) (hr.mono (by decide)) (by rfl) T.m_Alike T.b_Alike___init__ .nil pass0) (pa_cons (pe_makeK0 T.mk_Unlike (O_Unlike___init__ T 40) (hr.mono (by decide)) (by rfl) T.m_Unlike T.kb_Unlike pass0 (pk_cons (pv 1) pk_nil)) (pa_cons (pe_makeK0 T.mk_Won (O_Won___init__ T 40) (hr.mono (by decide)) (by rfl) T.m_Won T.kb_Won pass0 (pk_cons (pv 1) pk_nil)) (pa_cons (pe_makeK0 T.mk_Unwon (O_Unwon___init__ T 40) (hr.mono (by decide)) (by rfl) T.m_Unwon T.kb_Unwon pass0 (pk_cons (pv 1) pk_nil)) (pa_cons (pe_makeK0 T.mk_Family (O_Family___init__ T 40) (hr.mono (by decide)) (by rfl) T.m_Family T.kb_Family pass0 (pk_cons (pv 1) pk_nil)) pa_nil)))))) (pv 0) (fun _ _ => rfl)))) pss_nil)
      (pss_one (ps_ret (pe_ix ix_list (pe_lst (pa_cons (pe_make0 T.mk_Alike (O_Alike___init__ T 40) (hr.mono (by decide)) (by rfl) T.m_Alike T.b_Alike___init__ .nil pass0) (pa_cons (pe_make T.mk_Unlike (O_Unlike___init__ T 40) (hr.mono (by decide)) (by rfl) T.m_Unlike T.b_Unlike___init__ .nil pass0 (pa_cons (pv 1) pa_nil)) (pa_cons (pe_make T.mk_Won (O_Won___init__ T 40) (hr.mono (by decide)) (by rfl) T.m_Won T.b_Won___init__ .nil pass0 (pa_cons (pv 1) pa_nil)) (pa_cons (pe_make T.mk_Unwon (O_Unwon___init__ T 40) (hr.mono (by decide)) (by rfl) T.m_Unwon T.b_Unwon___init__ .nil pass0 (pa_cons (pv 1) pa_nil)) (pa_cons (pe_make T.mk_Family (O_Family___init__ T 40) (hr.mono (by decide)) (by rfl) T.m_Family T.b_Family___init__ .nil pass0 (pa_cons (pv 1) pa_nil)) pa_nil)))))) (pv 0) (fun _ _ => rfl))))), ?_⟩
  have five := five T hi f k
  cases b with
  | true =>
    refine ⟨_, rfl, true, rfl, iteT ?_⟩
    intro x0 dx0 a0 b0 c0
    refine md_zero T (R := R) a0 b0 c0 fun H0 s0 m0 => ?_
    obtain ⟨R1, f1, five⟩ := five H0 x0 s0 m0
    refine ⟨_, rfl, rfl, rfl, fun x1 dx1 a1 b1 c1 => ?_⟩
    refine md_one T (i := 1) (by decide) f1 a1 b1 c1 fun H1 s1 m1 => ?_
    obtain ⟨R2, f2, five⟩ := five H1 x1 s1 m1
    refine ⟨_, rfl, rfl, rfl, fun x2 dx2 a2 b2 c2 => ?_⟩
    refine md_one T (i := 2) (by decide) f2 a2 b2 c2 fun H2 s2 m2 => ?_
    obtain ⟨R3, f3, five⟩ := five H2 x2 s2 m2
    refine ⟨_, rfl, rfl, rfl, fun x3 dx3 a3 b3 c3 => ?_⟩
    refine md_one T (i := 3) (by decide) f3 a3 b3 c3 fun H3 s3 m3 => ?_
    obtain ⟨R4, f4, five⟩ := five H3 x3 s3 m3
    refine ⟨_, rfl, rfl, rfl, fun x4 dx4 a4 b4 c4 => ?_⟩
    refine md_one T (i := 4) (by decide) f4 a4 b4 c4 fun H4 s4 m4 => ?_
    exact ⟨szl rfl, fun p hp => ⟨_, rfl, five H4 x4 s4 m4 p hp⟩⟩
  | false =>
    refine ⟨_, rfl, false, rfl, iteF ?_⟩
    intro x0 dx0 a0 b0 c0
    refine md_zero T (R := R) a0 b0 c0 fun H0 s0 m0 => ?_
    obtain ⟨R1, f1, five⟩ := five H0 x0 s0 m0
    refine ⟨_, rfl, fun x1 dx1 a1 b1 c1 => ?_⟩
    refine md_one T (i := 1) (by decide) f1 a1 b1 c1 fun H1 s1 m1 => ?_
    obtain ⟨R2, f2, five⟩ := five H1 x1 s1 m1
    refine ⟨_, rfl, fun x2 dx2 a2 b2 c2 => ?_⟩
    refine md_one T (i := 2) (by decide) f2 a2 b2 c2 fun H2 s2 m2 => ?_
    obtain ⟨R3, f3, five⟩ := five H2 x2 s2 m2
    refine ⟨_, rfl, fun x3 dx3 a3 b3 c3 => ?_⟩
    refine md_one T (i := 3) (by decide) f3 a3 b3 c3 fun H3 s3 m3 => ?_
    obtain ⟨R4, f4, five⟩ := five H3 x3 s3 m3
    refine ⟨_, rfl, fun x4 dx4 a4 b4 c4 => ?_⟩
    refine md_one T (i := 4) (by decide) f4 a4 b4 c4 fun H4 s4 m4 => ?_
    exact ⟨szl rfl, fun p hp => ⟨_, rfl, five H4 x4 s4 m4 p hp⟩⟩
def spKept (T : Tx K mg) : Sp := fun vs H Q _ => ∃ (i : Nat) (x t : Addr) (us : List V), vs = [.int i, .ref x] ∧ i < 5 ∧ PaAt K T.c_Paper H x (clsI T i) (nmI i) (wdI i) t (us.map fun u => (fdI i, u)) ∧ us.length = (if i = 0 then 0 else 1) ∧
  ∀ H' p, Same H H' → H p = none → H' p = some (.lst us) → Q (.ref p) H'
theorem O__law_kept (T : Tx K mg) : FnOk P w K mg base CX0 1 T.a__law_kept T.d__law_kept ["at", "paper"] (spKept T) := by
  refine T.F__law_kept.ok sc__law_kept (fun vs H Q E h => ?_) (fun cdv A outer s H vs Q E hr h => ?_)
  · obtain ⟨_, _, _, _, rfl, _⟩ := h; rfl
  obtain ⟨i, x, t, us, rfl, hi, ⟨pc, dx, hx⟩, hl, k⟩ := h
  refine ⟨_, (pss_cons (ps_if (pt_cmpR op_eq (pv 0) pe_int (nomark _)) (pss_one (ps_ret (pe_lst pa_nil))) pss_nil)
      (pss_cons (ps_if (pt_cmpR op_eq (pv 0) pe_int (nomark _)) (pss_one (ps_ret (pe_lst (pa_cons (pe_fldK (K := K) rfl (pv 1)) pa_nil)))) pss_nil)
      (pss_one (ps_ret (pe_ifExp (pt_cmpR op_eq (pv 0) pe_int (nomark _)) (pe_lst (pa_cons (pe_fldK (K := K) rfl (pv 1)) pa_nil)) (pe_ifExp (pt_cmpR op_eq (pv 0) pe_int (nomark _)) (pe_lst (pa_cons (pe_fldK (K := K) rfl (pv 1)) pa_nil)) (pe_lst (pa_cons (pe_fldK (K := K) rfl (pv 1)) pa_nil)))))))), ?_⟩
  have ki : ∀ p, H p = none → Q (.ref p) (upd H p (.lst us)) := fun p hp => k _ p (same_new hp) hp upd_same
  match i, hi, us, hl with
  | 0, _, [], _ => 
    refine ⟨_, rfl, rfl, _, rfl, iteT ?_⟩
    exact ⟨szl rfl, ki⟩
  | 1, _, [u], _ =>
    refine ⟨_, rfl, rfl, _, rfl, iteF ?_⟩
    refine ⟨_, rfl, rfl, _, rfl, iteT ?_⟩
    exact ⟨_, rfl, x, _, dx, _, _, rfl, hx, T.cl_Unlike, T.nF_Unlike_part, rfl, szl rfl, ki⟩
  | 2, _, [u], _ =>
    refine ⟨_, rfl, rfl, _, rfl, iteF ?_⟩
    refine ⟨_, rfl, rfl, _, rfl, iteF ?_⟩
    refine ⟨_, rfl, rfl, _, rfl, iteT ?_⟩
    exact ⟨_, rfl, x, _, dx, _, _, rfl, hx, T.cl_Won, T.nF_Won_book, rfl, szl rfl, ki⟩
  | 3, _, [u], _ =>
    refine ⟨_, rfl, rfl, _, rfl, iteF ?_⟩
    refine ⟨_, rfl, rfl, _, rfl, iteF ?_⟩
    refine ⟨_, rfl, rfl, _, rfl, iteF ?_⟩
    refine ⟨_, rfl, rfl, _, rfl, iteT ?_⟩
    exact ⟨_, rfl, x, _, dx, _, _, rfl, hx, T.cl_Unwon, T.nF_Unwon_replies, rfl, szl rfl, ki⟩
  | 4, _, [u], _ =>
    refine ⟨_, rfl, rfl, _, rfl, iteF ?_⟩
    refine ⟨_, rfl, rfl, _, rfl, iteF ?_⟩
    refine ⟨_, rfl, rfl, _, rfl, iteF ?_⟩
    refine ⟨_, rfl, rfl, _, rfl, iteF ?_⟩
    exact ⟨_, rfl, x, _, dx, _, _, rfl, hx, T.cl_Family, T.nF_Family_papers, rfl, szl rfl, ki⟩
end
end K02

set_option Elab.async false
set_option linter.all false
set_option maxRecDepth 100000
set_option maxHeartbeats 4000000
namespace K02
open PySem PySem.Spec PyProof.Rows L2 Gs
theorem strOk_ofs (s : String) : PyData.strOk (Str.ofString s) = true := by
  unfold PyData.strOk
  rw [Array.all_eq_true']
  intro c hc
  have hc : c ∈ (Str.ofString s).cps.toList := Array.mem_toList_iff.mpr hc
  rw [PyProof.Rows.signs_ofString] at hc
  obtain ⟨ch, _, rfl⟩ := List.mem_map.mp hc
  have := ch.valid
  rw [decide_eq_true_eq]
  rcases this with h | ⟨_, h⟩
  · exact Nat.lt_of_lt_of_le h (by decide)
  · exact h
section
variable {P : Program} {w : World} {K : PySem.W.Frag} {mg : Str → Option Value} {base : Heap}
theorem val_facts {z : Int} {d : PyData} (hz : z.natAbs < 2 ^ 100) (h : d ∈ valDs z) : Fine 3 3000 d ∧ slimD d = true ∧ deepD d ≤ 20 ∧ (d.canLay0 = true ∧ PyData.eqv (fixD d) (.tuple [fixD d, .int 7]) = false ∨ ∃ ps, d = .dict ps ∧ PyData.showable (.dict ps) = true) := by
  have w1 : z.natAbs < 2 ^ 1000 := Nat.lt_of_lt_of_le hz (Nat.pow_le_pow_right (by decide) (by decide))
  have z0 : (0 : Int).natAbs < 2 ^ 1000 := by decide +kernel
  have z1 : (1 : Int).natAbs < 2 ^ 1000 := by decide +kernel
  have z2 : (2 : Int).natAbs < 2 ^ 1000 := by decide +kernel
  have g1 : Fine 1 1 (.list [.int z]) := .list (fine1 (n := 0) (.int w1))
  have g2 : Fine 2 4 (.tuple [.int 1, .list [.int 2]]) := .tuple ((FineS.cons (n := 0) (k := 1) (.int z1) (fine1 (n := 1) (.list (fine1 (n := 0) (.int z2))))).mono (Nat.le_refl _) (by decide))
  have st := strOk_ofs (toString z)
  simp only [valDs, List.mem_cons, List.not_mem_nil, or_false] at h
  rcases h with rfl | rfl | rfl | rfl | rfl | rfl | rfl | rfl | rfl | rfl | rfl | rfl | rfl | rfl
  · exact ⟨.int w1, rfl, Nat.zero_le _, .inl ⟨rfl, rfl⟩⟩
  · exact ⟨(fine_tos w1).mono (Nat.zero_le _) (by decide), rfl, Nat.zero_le _, .inl ⟨st, rfl⟩⟩
  · exact ⟨.non, rfl, Nat.zero_le _, .inl ⟨rfl, rfl⟩⟩
  · exact ⟨.bl, rfl, Nat.zero_le _, .inl ⟨rfl, rfl⟩⟩
  · exact ⟨.bl, rfl, Nat.zero_le _, .inl ⟨rfl, rfl⟩⟩
  · exact ⟨g1.mono (by decide) (by decide), rfl, by simp [deepD, deepDs], .inl ⟨rfl, by simp [fixD, fixDs, PyData.eqv, PyData.eqvAll]⟩⟩
  · exact ⟨(Fine.tuple (fine2 (n := 0) (k := 0) (.int w1) (.int z2))).mono (by decide) (by decide), rfl, by simp [deepD, deepDs], .inl ⟨rfl, by simp [fixD, fixDs, PyData.eqv, PyData.eqvAll]⟩⟩
  · have hf : Fine 2 4 (.dict [(.int z, .list [.int z])]) := (Fine.dict1 (k := 1) (n := 0) (.int w1) g1).mono (by decide) (by decide)
    exact ⟨hf.mono (by decide) (by decide), rfl, by simp [deepD, deepDs], .inr ⟨_, rfl, hf.sh⟩⟩
  · exact ⟨(fine_lit (k := 0) (by decide +kernel)).mono (by decide) (by decide), rfl, Nat.zero_le _, .inl ⟨by decide +kernel, rfl⟩⟩
  · exact ⟨(Fine.list (FineS.nil (k := 0) (n := 0))).mono (by decide) (by decide), rfl, by simp [deepD, deepDs], .inl ⟨rfl, by simp [fixD, fixDs, PyData.eqv, PyData.eqvAll]⟩⟩
  · exact ⟨(Fine.tuple (FineS.nil (k := 0) (n := 0))).mono (by decide) (by decide), rfl, by simp [deepD, deepDs], .inl ⟨rfl, by simp [fixD, fixDs, PyData.eqv, PyData.eqvAll]⟩⟩
  · exact ⟨(Fine.list (fine2 (n := 4) (k := 2) (g1.mono (by decide) (by decide)) g2)).mono (by decide) (by decide), rfl, by simp [deepD, deepDs], .inl ⟨rfl, by simp [fixD, fixDs, PyData.eqv, PyData.eqvAll]⟩⟩
  · exact ⟨(Fine.list (fine2 (n := 0) (k := 0) .bl (.int z0))).mono (by decide) (by decide), rfl, by simp [deepD, deepDs], .inl ⟨rfl, by simp [fixD, fixDs, PyData.eqv, PyData.eqvAll]⟩⟩
  · exact ⟨(fine_lit (k := 0) (by decide +kernel)).mono (by decide) (by decide), rfl, Nat.zero_le _, .inl ⟨by decide +kernel, rfl⟩⟩
/-- a drawn value, its data, what fixed makes of it (seen past e) -/
structure VD (K : PySem.W.Frag) (c : Addr) (H : Hp) (v : V) (d : PyData) (e : Addr) (R : RV) : Prop where
  hc : H e ≠ none
  fx : Fx K H 20 v R
  dv : ∀ H' u, ExtX H H' → R H' u → DV K e H' u (fixD d)
  dc : (d.canLay0 = true ∧ PyData.eqv (fixD d) (.tuple [fixD d, .int 7]) = false) ∨ ∃ a kvs, v = .ref a ∧ H a = some (.dK kvs) ∧ ∀ H' u, R H' u → u = v
  ls : (∃ xs, v = .ref e ∧ H e = some (.lst xs) ∧ xs.length ≤ 1000) ∨ ∃ t, (∀ H', Same H H' → TyX K H' v t) ∧ PySem.W.kitOne K t (.type "list") = some false
  fine : Fine 3 3000 d
  vc : DV K c H v d
theorem vd_of {c l : Addr} {n : Nat} {H H0 : Hp} {v : V} {d : PyData} {z : Int} (hb : Bag c l n H) (hd : DV K c H v d) (hz : z.natAbs < 2 ^ 100) (hm : d ∈ valDs z) (hl : ∀ ds, d = .list ds → ∃ a xs, v = .ref a ∧ a ≠ l ∧ H a = some (.lst xs) ∧ DVs K a H xs ds ∧ H0 a = none) :
    ∃ e R, VD K c H v d e R ∧ (v = .ref e → e ≠ c ∧ e ≠ l ∧ H0 e = none) := by
  obtain ⟨fine, slim, deep, can⟩ := val_facts hz hm
  have hc : H c ≠ none := by
    obtain ⟨ns, pt, rest, h, _⟩ := hb
    rw [h]; exact fun z => nomatch z
  cases d with
  | list ds =>
    obtain ⟨a, xs, rfl, ne, ha, hxs, n0⟩ := hl ds rfl
    obtain ⟨s1, s2⟩ := Bool.and_eq_true_iff.mp (show (decide (ds.length ≤ 1000) && slimDs ds) = true from slim)
    have d1 : deepDs ds + 1 ≤ 20 := deep
    have hae : H a ≠ none := by rw [ha]; exact fun z => nomatch z
    obtain ⟨R, fx, g⟩ := fx_node (c := a) (m := 19) hae (.inl (SqL.of ha)) (by rw [hxs.len]; exact of_decide_eq_true s1) hxs.len (DVs.fx hae ds xs 19 hxs s2 (by omega))
    refine ⟨a, R, ⟨hae, fx, g, ?_, .inl ⟨xs, rfl, ha, by rw [hxs.len]; exact of_decide_eq_true s1⟩, fine, hd⟩, fun _ => ⟨?_, ne, n0⟩⟩
    · rcases can with q | ⟨ps, q, _⟩
      · exact .inl q
      · cases q
    · cases hd; assumption
  | dict ps =>
    have hp : PyData.showable (.dict ps) = true := by
      rcases can with q | ⟨_, q, z⟩
      · cases q.1
      · cases q; exact z
    have hd0 := hd
    cases hd with
    | dic nc s r =>
      refine ⟨c, _, ⟨hc, .leaf (.dK s), fun _ _ e1 e => by subst e; exact hd0.extX e1 _ _, .inr ⟨_, _, rfl, s, fun _ _ e => e⟩, .inr ⟨_, fun H' s1 => .base (.dK (s1 _ _ s)), kit_ty (by decide +kernel)⟩, fine, hd0⟩, fun q => absurd (V.ref.inj q) nc⟩
    | dct nc s zz => rw [zz] at hp; cases hp
  | tuple ds =>
    obtain ⟨R, fx, g⟩ := DV.fx hc _ _ 20 hd slim deep
    refine ⟨c, R, ⟨hc, fx, g, ?_, ?_, fine, hd⟩, ?_⟩
    · rcases can with q | ⟨ps, q, _⟩
      · exact .inl q
      · cases q
    · cases hd with
      | tup nc s r => exact .inr ⟨_, fun H' s1 => ty_sqt (s1.seqT s), kit_ty (by decide +kernel)⟩
    · cases hd with
      | tup nc s r => exact fun q => absurd (V.ref.inj q) nc
  | _ =>
    obtain ⟨R, fx, g⟩ := DV.fx hc _ _ 20 hd slim deep
    refine ⟨c, R, ⟨hc, fx, g, ?_, ?_, fine, hd⟩, fun q => by subst q; cases hd⟩
    · rcases can with q | ⟨ps, q, _⟩
      · exact .inl q
      · cases q
    · cases hd
      first
      | exact .inr ⟨_, fun H' s1 => .base .non, kit_ty (by decide +kernel)⟩
      | exact .inr ⟨_, fun H' s1 => .base (.bl _), kit_ty (by decide +kernel)⟩
      | exact .inr ⟨_, fun H' s1 => .base (.int _), kit_ty (by decide +kernel)⟩
      | exact .inr ⟨_, fun H' s1 => .base (.str _), kit_ty (by decide +kernel)⟩
/-- two made of the same value are alike -/
theorem VD.eqT {c : Addr} {H H' : Hp} {v u1 u2 : V} {d : PyData} {e : Addr} {R : RV} (h : VD K c H v d e R) (x : ExtX H H') (r1 : R H' u1) (r2 : R H' u2) : DMix K u1 u2 true H' := by
  rcases h.dc with ⟨q, _⟩ | ⟨a, kvs, rfl, ha, q⟩
  · have q' : (fixD d).canLay0 = true := (fix_same d).2.2.2.2.trans q
    have sh : SeqAt.shaped (fixD d) = true := by
      unfold SeqAt.shaped
      rw [q', Bool.true_and, decide_eq_true_eq]
      exact Nat.le_trans h.fine.fix.dp (by decide)
    exact .inl ⟨_, _, (h.dv _ _ x r1).dp _ _ q', (h.dv _ _ x r2).dp _ _ q', sh, sh, (SeqAt.eqv_refl _ q').symm⟩
  · rw [q _ _ r1, q _ _ r2]
    exact .inr (.inl ⟨a, rfl, rfl, rfl⟩)
/-- .. what stands later -/
theorem VD.eqN {c : Addr} {H H' : Hp} {v u1 u2 : V} {d : PyData} {e : Addr} {R : RV} (h : VD K c H v d e R) (hq : d.canLay0 = true) (d1 : DV K e H' u1 (fixD d)) (d2 : DV K e H' u2 (fixD d)) : DMix K u1 u2 true H' := by
  have q' : (fixD d).canLay0 = true := (fix_same d).2.2.2.2.trans hq
  have sh : SeqAt.shaped (fixD d) = true := by
    unfold SeqAt.shaped
    rw [q', Bool.true_and, decide_eq_true_eq]
    exact Nat.le_trans h.fine.fix.dp (by decide)
  exact .inl ⟨_, _, d1.dp _ _ q', d2.dp _ _ q', sh, sh, (SeqAt.eqv_refl _ q').symm⟩
/-- a value, and the list of it and 7, fixed -/
theorem VD.eqF {c : Addr} {H H' : Hp} {v u1 : V} {d : PyData} {e t : Addr} {R : RV} {ys : List V} (h : VD K c H v d e R) (x : ExtX H H') (r1 : R H' u1) (ht : H' t = some (.tup ys)) (hl : ys.length = 2) (h0 : ∀ y, ys[0]? = some y → R H' y) (h1 : ∀ y, ys[1]? = some y → y = .int 7) : DMix K u1 (.ref t) false H' := by
  match ys, hl with
  | [y0, y1], _ =>
    have e1 := h1 y1 rfl
    subst e1
    have r0 := h0 y0 rfl
    rcases h.dc with ⟨q, qn⟩ | ⟨a, kvs, rfl, ha, q⟩
    · have q' : (fixD d).canLay0 = true := (fix_same d).2.2.2.2.trans q
      have dp := Nat.le_trans h.fine.fix.dp (show 3 ≤ 63 by decide)
      have sh : SeqAt.shaped (fixD d) = true := by
        unfold SeqAt.shaped
        rw [q', Bool.true_and, decide_eq_true_eq]
        exact Nat.le_trans dp (by decide)
      have sh2 : SeqAt.shaped (.tuple [fixD d, .int 7]) = true := by
        unfold SeqAt.shaped
        have : PyData.canLay0 (.tuple [fixD d, .int 7]) = true := by simp [PyData.canLay0, PyData.canLayAll0, q']
        rw [this, Bool.true_and, decide_eq_true_eq]
        simp only [PyData.depth, PyData.depthAll]; omega
      exact .inl ⟨_, _, (h.dv _ _ x r1).dp _ _ q', .tup (.of ht) (.cons ((h.dv _ _ x r0).dp _ _ q') (.cons (.int 7) .nil)), sh, sh2, qn.symm⟩
    · rw [q _ _ r1]
      exact .inr (.inr ⟨a, t, kvs, _, rfl, rfl, x.got (fun _ _ _ z => nomatch z) ha, .of ht, rfl⟩)
end
end K02

set_option Elab.async false
set_option linter.all false
set_option maxRecDepth 100000
set_option maxHeartbeats 4000000
namespace K02
open PySem PySem.Spec PyProof.Rows L2 Gs
section
variable {P : Program} {w : World} {K : PySem.W.Frag} {mg : Str → Option Value} {base : Heap}
theorem op_ex {ι : Type} {X : Cx} {f} {r : ι → R2} (h : ∀ i, OpR X f (r i)) : OpR X f (fun x y H Q => ∃ i, r i x y H Q) := fun pins s σ H x y v u Q I rx ry hh => by
  obtain ⟨i, q⟩ := hh
  exact h i pins s σ H x y v u Q I rx ry q
theorem cr_ex {ι : Type} {X : Cx} {f} {r : ι → List V → Hp → VK → Prop} (h : ∀ i, CallR X f (r i)) : CallR X f (fun xs H Q => ∃ i, r i xs H Q) := fun pins s σ H x v Q I rx hh => by
  obtain ⟨i, q⟩ := hh
  exact h i pins s σ H x v Q I rx q
/-- the class above -/
def parI (T : Tx K mg) : Nat → Addr
  | 0 => T.c_Paper
  | 1 => T.c_Denial
  | 2 => T.c_Paper
  | 3 => T.c_Denial
  | _ => T.c_Paper
def eqA (T : Tx K mg) : Nat → Addr
  | 0 => T.a_Paper___eq__
  | 1 => T.a_Denial___eq__
  | 2 => T.a_Paper___eq__
  | 3 => T.a_Denial___eq__
  | _ => T.a_Paper___eq__
def eqF (T : Tx K mg) : Nat → FuncData
  | 0 => T.d_Paper___eq__
  | 1 => T.d_Denial___eq__
  | 2 => T.d_Paper___eq__
  | 3 => T.d_Denial___eq__
  | _ => T.d_Paper___eq__
theorem ocI (T : Tx K mg) : ∀ i, OwnC K (clsI T i) (eqA T i)
  | 0 => T.oc_Alike
  | 1 => T.oc_Unlike
  | 2 => T.oc_Won
  | 3 => T.oc_Unwon
  | _ + 4 => T.oc_Family
theorem eqI (T : Tx K mg) : ∀ i, FnOk P w K mg base CX0 73 (eqA T i) (eqF T i) ["self", "other"] (spSame K T.c_Paper)
  | 0 => O_Paper___eq__ T
  | 1 => O_Denial___eq__ T
  | 2 => O_Paper___eq__ T
  | 3 => O_Denial___eq__ T
  | _ + 4 => O_Paper___eq__ T
theorem eqB (T : Tx K mg) : ∀ i, Binds K (eqF T i) ["self", "other"] []
  | 0 => T.b_Paper___eq__
  | 1 => T.b_Denial___eq__
  | 2 => T.b_Paper___eq__
  | 3 => T.b_Denial___eq__
  | _ + 4 => T.b_Paper___eq__
theorem subI (T : Tx K mg) : ∀ i, (Value.ref (parI T i) != Value.ref (clsI T i)) = true ∧ PySem.W.subIn K (.ref (clsI T i)) (.ref (parI T i)) = some true
  | 0 => T.su (T.c_Alike, T.c_Paper) (by simp)
  | 1 => T.su (T.c_Unlike, T.c_Denial) (by simp)
  | 2 => T.su (T.c_Won, T.c_Paper) (by simp)
  | 3 => T.su (T.c_Unwon, T.c_Denial) (by simp)
  | _ + 4 => T.su (T.c_Family, T.c_Paper) (by simp)
theorem opI_eq {X : Cx} (T : Tx X.K X.mg) (hr : Room 73 X.A) : OpR X (compareOp .Eq) (fun x y H Q => ∃ i, rOwn X.K (clsI T i) (spSame X.K T.c_Paper) E0 x y H Q) :=
  op_ex fun i => op_eqOwn (ocI T i) (eqI (P := X.prog) (w := X.w) (base := X.base) T i) hr (eqB T i) pass0
theorem opI_ne {X : Cx} (T : Tx X.K X.mg) (hr : Room 74 X.A) : OpR X (compareOp .NotEq) (fun x y H Q => ∃ i, rOwn X.K (clsI T i) (spSame X.K T.c_Paper) E0 x y H fun v H' => ∃ b, v = .bl b ∧ Q (.bl (!b)) H') :=
  op_ex fun i => op_neOwn (ocI T i) (eqI (P := X.prog) (w := X.w) (base := X.base) T i) hr (eqB T i) pass0
theorem opI_eqR {X : Cx} (T : Tx X.K X.mg) (hr : Room 73 X.A) : OpR X (compareOp .Eq) (fun x y H Q => ∃ i, rOwnR (parI T i) (clsI T i) (spSame X.K T.c_Paper) E0 x y H Q) :=
  op_ex fun i => op_eqOwnR (ocI T i) (subI T i).1 (subI T i).2 (eqI (P := X.prog) (w := X.w) (base := X.base) T i) hr (eqB T i) pass0
def isDen : Nat → Bool
  | 0 => false
  | 1 => true
  | 2 => false
  | 3 => true
  | _ => false
def boA (T : Tx K mg) : Nat → Addr
  | 0 => T.a_Paper___bool__
  | 1 => T.a_Denial___bool__
  | 2 => T.a_Paper___bool__
  | 3 => T.a_Denial___bool__
  | _ => T.a_Paper___bool__
def boF (T : Tx K mg) : Nat → FuncData
  | 0 => T.d_Paper___bool__
  | 1 => T.d_Denial___bool__
  | 2 => T.d_Paper___bool__
  | 3 => T.d_Denial___bool__
  | _ => T.d_Paper___bool__
theorem obI (T : Tx K mg) : ∀ i, OwnB K (clsI T i) (boA T i)
  | 0 => T.ob_Alike
  | 1 => T.ob_Unlike
  | 2 => T.ob_Won
  | 3 => T.ob_Unwon
  | _ + 4 => T.ob_Family
theorem boI (T : Tx K mg) : ∀ i, FnOk P w K mg base CX0 1 (boA T i) (boF T i) ["self"] (spTrue (!isDen i))
  | 0 => O_Paper___bool__ T
  | 1 => O_Denial___bool__ T
  | 2 => O_Paper___bool__ T
  | 3 => O_Denial___bool__ T
  | _ + 4 => O_Paper___bool__ T
theorem boB (T : Tx K mg) : ∀ i, Binds K (boF T i) ["self"] []
  | 0 => T.b_Paper___bool__
  | 1 => T.b_Denial___bool__
  | 2 => T.b_Paper___bool__
  | 3 => T.b_Denial___bool__
  | _ + 4 => T.b_Paper___bool__
theorem crI_bool {X : Cx} (T : Tx X.K X.mg) (hr : Room 3 X.A) : CallR X (.type "bool") (fun xs H Q => ∃ i, rBoolO (clsI T i) (spTrue (!isDen i)) E0 xs H Q) :=
  cr_ex fun i => call_boolO (obI T i) (boI (P := X.prog) (w := X.w) (base := X.base) T i) hr (boB T i) pass0
theorem kdI (T : Tx K mg) : ∀ i, PySem.W.kitOne K (.ref (clsI T i)) (.ref T.c_Denial) = some (isDen i)
  | 0 => T.kd_Alike
  | 1 => T.kd_Unlike
  | 2 => T.kd_Won
  | 3 => T.kd_Unwon
  | _ + 4 => T.kd_Family
def pnI : Nat → Str
  | 0 => "Paper"
  | 1 => "Denial"
  | 2 => "Paper"
  | 3 => "Denial"
  | _ => "Paper"
/-- the data of the parts -/
def dsI (i : Nat) (d : PyData) : List PyData := if i = 0 then [] else [fixD d]
theorem fine_ds {d : PyData} (h : Fine 3 3000 d) (i : Nat) : FineS 3 3001 (dsI i d) := by
  unfold dsI
  split
  · exact FineS.nil.mono (Nat.le_refl _) (Nat.zero_le _)
  · exact fine1 h.fix
theorem dv_us {c e : Addr} {H H' : Hp} {v : V} {d : PyData} {R : RV} {us : List V} {i : Nat} (h : VD K c H v d e R) (x : ExtX H H') (hl : us.length = if i = 0 then 0 else 1) (hu : ∀ u ∈ us, R H' u) : DVs K e H' us (dsI i d) := by
  unfold dsI
  by_cases q : i = 0
  · rw [if_pos q] at hl ⊢
    rw [List.length_eq_zero_iff.mp hl]; exact .nil
  · rw [if_neg q] at hl ⊢
    match us, hl with
    | [u], _ => exact .cons (h.dv _ _ x (hu u (List.mem_singleton.mpr rfl))) .nil
theorem VD.ne {c e : Addr} {H : Hp} {v : V} {d : PyData} {R : RV} (h : VD K c H v d e R) {t : Addr} (n : H t = none) : t ≠ e := fun z => h.hc (z ▸ n)
def RepOk (K : PySem.W.Frag) (e : Addr) (H : Hp) (t : Addr) (d : PyData) : Prop := DV K e H (.ref t) d ∧ d.showable = true ∧ d.depth ≤ 60 ∧ d.shown.length ≤ sizeLine
theorem repT {e t : Addr} {H : Hp} {us : List V} {i : Nat} {d : PyData} (f : Fine 3 3000 d) (hu : DVs K e H us (dsI i d)) (ht : H t = some (.tup us)) (ne : t ≠ e) : RepOk K e H t (.tuple (dsI i d)) := by
  have f1 := Fine.tuple (fine_ds f i)
  exact ⟨.tup ne (.of ht) hu, f1.sh, Nat.le_trans f1.dp (by decide), f1.fits (by decide)⟩
theorem repL {e t : Addr} {H : Hp} {us : List V} {i : Nat} {d : PyData} (f : Fine 3 3000 d) (hu : DVs K e H us (dsI i d)) (ht : H t = some (.lst us)) (ne : t ≠ e) : RepOk K e H t (.list (dsI i d)) := by
  have f1 := Fine.list (fine_ds f i)
  exact ⟨.lst ne (.of ht) hu, f1.sh, Nat.le_trans f1.dp (by decide), f1.fits (by decide)⟩
theorem wd_ix {i : Nat} (hi : i < 5) : [V.str "alike", V.str "unlike", V.str "won", V.str "unwon", V.str "family"][i]? = some (V.str (wdI i)) := by
  match i, hi with
  | 0, _ => rfl
  | 1, _ => rfl
  | 2, _ => rfl
  | 3, _ => rfl
  | 4, _ => rfl
theorem in13 {i : Nat} (hi : i < 5) : inV (.int i) [.int 1, .int 3] = isDen i := by
  match i, hi with
  | 0, _ => rfl
  | 1, _ => rfl
  | 2, _ => rfl
  | 3, _ => rfl
  | 4, _ => rfl
theorem pcP (T : Tx K mg) : ∀ i, PCl K T.c_Paper (parI T i) (pnI i)
  | 0 => pc_Paper T
  | 1 => pc_Denial T
  | 2 => pc_Paper T
  | 3 => pc_Denial T
  | _ + 4 => pc_Paper T
theorem nm_ne : ∀ i, nmI i ≠ pnI i
  | 0 => by decide +kernel
  | 1 => by decide +kernel
  | 2 => by decide +kernel
  | 3 => by decide +kernel
  | _ + 4 => by show ("Family" : Str) ≠ "Paper"; decide +kernel
theorem nfP (T : Tx K mg) : ∀ i, PySem.W.notFirst K (clsI T i) (.ref (parI T i)) = true
  | 0 => T.nf T.c_Paper (by simp) T.c_Alike (by simp)
  | 1 => T.nf T.c_Denial (by simp) T.c_Unlike (by simp)
  | 2 => T.nf T.c_Paper (by simp) T.c_Won (by simp)
  | 3 => T.nf T.c_Denial (by simp) T.c_Unwon (by simp)
  | _ + 4 => T.nf T.c_Paper (by simp) T.c_Family (by simp)
theorem clsI_mem (T : Tx K mg) : ∀ i, clsI T i ∈ ([T.c_Alike, T.c_Unlike, T.c_Won, T.c_Unwon, T.c_Family] : List Addr)
  | 0 => by simp [clsI]
  | 1 => by simp [clsI]
  | 2 => by simp [clsI]
  | 3 => by simp [clsI]
  | _ + 4 => by simp [clsI]
theorem nfI (T : Tx K mg) (i j : Nat) : PySem.W.notFirst K (clsI T i) (.ref (clsI T j)) = true := T.nf _ (List.mem_cons_of_mem _ (List.mem_cons_of_mem _ (clsI_mem T j))) _ (clsI_mem T i)
/-- == of papers, read -/
theorem same_ne {cP a C t b D t2 : Addr} {nm z nm2 z2 : Str} {H : Hp} {fs gs : List (Str × V)} {Q : VK} {E : XK} (pa : PaAt K cP H a C nm z t fs) (pb : PaAt K cP H b D nm2 z2 t2 gs) (ne : nm ≠ nm2 ∨ z ≠ z2) (k : ∀ H', Same H H' → Q (.bl false) H') : spSame K cP [.ref a, .ref b] H Q E := by
  refine ⟨a, C, t, nm, z, fs, _, rfl, pa, .inr ⟨b, D, t2, nm2, z2, gs, true, rfl, pb, fun e1 e2 => ?_, fun H' s => ?_⟩⟩
  · rcases ne with n | n
    · exact absurd e1 n
    · exact absurd e2 n
  · have e : (decide (nm = nm2) && decide (z = z2) && true) = false := by
      rcases ne with n | n
      · rw [decide_eq_false n]; rfl
      · rw [decide_eq_false n]; cases decide (nm = nm2) <;> rfl
    rw [e]
    exact k H' s
theorem same_eq {cP a C t b D t2 : Addr} {nm z : Str} {H : Hp} {fs gs : List (Str × V)} {r : Bool} {Q : VK} {E : XK} (pa : PaAt K cP H a C nm z t fs) (pb : PaAt K cP H b D nm z t2 gs) (hd : DTupW K (DMix K) (.ref t) (.ref t2) r H) (k : ∀ H', Same H H' → Q (.bl r) H') : spSame K cP [.ref a, .ref b] H Q E := by
  refine ⟨a, C, t, nm, z, fs, _, rfl, pa, .inr ⟨b, D, t2, nm, z, gs, r, rfl, pb, fun _ _ => hd, fun H' s => ?_⟩⟩
  have e : (decide (nm = nm) && decide (z = z) && r) = r := by
    rw [decide_eq_true rfl, decide_eq_true rfl]; rfl
  rw [e]
  exact k H' s
theorem same_tup {cP a C t q : Addr} {nm z : Str} {H : Hp} {fs : List (Str × V)} {us : List V} {Q : VK} {E : XK} (pa : PaAt K cP H a C nm z t fs) (hq : SqT K H q us) (k : ∀ H', Same H H' → Q (.bl false) H') : spSame K cP [.ref a, .ref q] H Q E :=
  ⟨a, C, t, nm, z, fs, _, rfl, pa, .inl ⟨q, us, rfl, hq, k⟩⟩
/-- a Paper or a Denial, made -/
theorem mk_pap {cP C : Addr} {nm : Str} (pc : PCl K cP C nm) {H : Hp} {rest : List V} {Rs : Nat → RV} {x dx : Addr} {z : Str} {W : Hp → Prop} {E : XK} (few : rest.length ≤ 1000) (f : ∀ (j : Nat) (y : V), rest[j]? = some y → Fx K H 40 y (Rs j)) (hx : H x = none) (hd : H dx = none) (ne : dx ≠ x)
    (k : ∀ H' t ys, Same H H' → H' x = some (.ins C dx [("word", .str z), ("parts", .ref t)]) → H t = none → H' t = some (.tup ys) → ys.length = rest.length → (∀ (j : Nat) (y : V), ys[j]? = some y → Rs j H' y) → W H') :
    spPap K 40 (.ref x :: .str z :: rest) (upd (upd H dx (.own x)) x (.ins C dx [])) (fun v H2 => v = .non ∧ W H2) E := by
  have st := made_same (C := C) hx hd ne
  obtain ⟨R1, h1⟩ : ∃ R1 : Nat → RV, ∀ (j : Nat) (y : V), rest[j]? = some y → Fx K (upd (upd H dx (.own x)) x (.ins C dx [])) 40 y (R1 j) ∧ ∀ H' u, R1 j H' u → Rs j H' u := pick_rv fun j y hy => (f j y hy).up (ExtX.of st)
  refine ⟨x, C, dx, z, rest, R1, rfl, upd_same, ⟨pc.cl, pc.nw, pc.np⟩, few, fun j y hy => (h1 j y hy).1, fun H' t ys e hx' n0 hT hl hy => ⟨rfl, k H' t ys (made_ext hx hd ne e) hx' (st.free n0) hT hl fun j y hj => ?_⟩⟩
  have hj2 : j < rest.length := by rw [← hl]; exact (List.getElem?_eq_some_iff.mp hj).1
  exact (h1 j _ (List.getElem?_eq_getElem hj2)).2 _ _ (hy j y hj)
theorem nm_inj {i j : Nat} (hi : i < 5) (hj : j < 5) (ne : i ≠ j) : nmI i ≠ nmI j := by
  have h : ∀ a : Fin 5, ∀ b : Fin 5, a ≠ b → nmI a ≠ nmI b := by decide +kernel
  exact h ⟨i, hi⟩ ⟨j, hj⟩ fun e => ne (Fin.mk.inj e)
theorem dtupI {i : Nat} {H : Hp} {t1 t2 : Addr} {us1 us2 : List V} {b : Bool} (h1 : H t1 = some (.tup us1)) (h2 : H t2 = some (.tup us2)) (l1 : us1.length = if i = 0 then 0 else 1) (l2 : us2.length = if i = 0 then 0 else 1) (h0 : i = 0 → b = true) (hd : ∀ u ∈ us1, ∀ w ∈ us2, DMix K u w b H) :
    DTupW K (DMix K) (.ref t1) (.ref t2) b H := by
  refine ⟨t1, t2, us1, us2, fun _ => b, rfl, rfl, .of h1, .of h2, fun j x y hx hy => hd x (List.mem_of_getElem? hx) y (List.mem_of_getElem? hy), ?_⟩
  rw [l1, l2]
  by_cases q : i = 0
  · rw [if_pos q, h0 q]; rfl
  · rw [if_neg q]; cases b <;> rfl
theorem tt_cut {t : TT} {σ : L2.St} {H : Hp} {Q : Bool → Hp → Prop} (R : Bool → Hp → Prop) (h1 : ∀ Q' : Bool → Hp → Prop, (∀ v H', R v H' → Q' v H') → t σ H Q') (h2 : ∀ v H', R v H' → Q v H') : t σ H Q := h1 _ h2
/-- behind the last: what is told of both and due -/
def AF (T : Tx K mg) (e : Addr) (d : PyData) (i : Nat) (x1 x2 q : Addr) (H : Hp) : Prop := ∃ (t1 t2 : Addr) (us1 us2 us : List V), PaAt K T.c_Paper H x1 (clsI T i) (nmI i) (wdI i) t1 (us1.map fun u => (fdI i, u)) ∧ PaAt K T.c_Paper H x2 (clsI T i) (nmI i) (wdI i) t2 (us2.map fun u => (fdI i, u)) ∧
  DTupW K (DMix K) (.ref t1) (.ref t2) true H ∧ RepOk K e H t1 (.tuple (dsI i d)) ∧ RepOk K e H q (.tuple (dsI i d)) ∧ H q = some (.tup us)
/-- both papers and due, as seen later -/
def PF (T : Tx K mg) (H3 : Hp) (R : RV) (i : Nat) (x1 x2 q : Addr) (us : List V) (H' : Hp) : Prop := Same H3 H' ∧ MdAt T H3 H' R i x1 ∧ MdAt T H3 H' R i x2 ∧ H3 q = none ∧ H' q = some (.tup us) ∧ us.length = (if i = 0 then 0 else 1) ∧ ∀ u ∈ us, R H' u
theorem PF.same {T : Tx K mg} {H3 H' H'' : Hp} {R : RV} {i : Nat} {x1 x2 q : Addr} {us : List V} {n : Nat} {v : V} (f : Fx K H3 n v R) (s : Same H' H'') (h : PF T H3 R i x1 x2 q us H') : PF T H3 R i x1 x2 q us H'' := by
  obtain ⟨a, b, c, d, e, g, k⟩ := h
  have mm : ∀ u, R H' u → R H'' u := fun u => f.mono _ _ _ (.of (ExtX.of s))
  exact ⟨a.trans s, b.same s mm, c.same s mm, d, s _ _ e, g, fun u hu => mm u (k u hu)⟩
def spRight (K : PySem.W.Frag) : Sp := fun vs H Q _ => ∃ (c l : Addr) (n i : Nat), vs = [.ref c, .int i] ∧ Bag c l n H ∧ n ≤ 999900 ∧ i < 5 ∧ ∀ H', Ext c H H' → Bag c l (n + 5) H' → Q (.bl true) H'
theorem G__law_paper_right (T : Tx K mg) : FnG P w K mg base CX0 80 T.a__law_paper_right T.d__law_paper_right ["tray", "at"] (spRight K) := by
  refine fun_okG T.F__law_paper_right sc__law_paper_right (fun vs H Q E h => ?_) (fun cdv A outer s H vs Q E hr hg h => ?_)
  · obtain ⟨_, _, _, _, rfl, _⟩ := h; rfl
  obtain ⟨c, l, n, i, rfl, hb, hN, hi, k⟩ := h
  refine ⟨_, (pss_cons (ps_par3 (i := 2) (j := 3) (l := 4) rfl sc__law_paper_right.nd rfl rfl rfl (by decide) (by decide) (by decide) rfl rfl rfl (pa_cons (pe_ix ix_list (pe_lst (pa_cons pe_str (pa_cons pe_str (pa_cons pe_str (pa_cons pe_str (pa_cons pe_str pa_nil)))))) (pv 1) (fun _ _ => rfl)) (pa_cons (pe_cmpR op_in_seq (pv 1) (pe_tup (pa_cons pe_int (pa_cons pe_int pa_nil))) (by rfl)) (pa_cons (pe_call (O__law_value T) (hr.mono (by decide)) (by rfl) T.m__law_value T.F__law_value.kp T.b__law_value .nil pass0 (pa_cons (pv 0) pa_nil)) pa_nil))) (by rfl))
      (pss_cons (ps_set (i := 5) sc__law_paper_right.nd rfl (Or.inl rfl) (pe_ifExp (pt_cmpR op_eq (pv 1) pe_int (nomark _)) (pe_tup pa_nil) (pe_tup (pa_cons (pe_call (O__law_own T) (hr.mono (by decide)) (by rfl) T.m__law_own T.F__law_own.kp T.b__law_own .nil pass0 (pa_cons (pv 4) pa_nil)) pa_nil))))
      (pss_cons (ps_par (i := 6) (j := 7) rfl sc__law_paper_right.nd rfl rfl (by decide) rfl rfl (pa_cons (pe_call (O__law_made T) (hr.mono (by decide)) (by rfl) T.m__law_made T.F__law_made.kp T.b__law_made .nil pass0 (pa_cons (pv 1) (pa_cons (pv 4) (pa_cons pe_bl pa_nil)))) (pa_cons (pe_call (O__law_made T) (hr.mono (by decide)) (by rfl) T.m__law_made T.F__law_made.kp T.b__law_made .nil pass0 (pa_cons (pv 1) (pa_cons (pv 4) (pa_cons pe_bl pa_nil)))) pa_nil)) (by rfl))
      (pss_cons (ps_for PassesOwn.never rfl (pi_tup (pe_tup (pa_cons (pv 6) (pa_cons (pv 7) pa_nil)))) (pg_name (i := 8) sc__law_paper_right.nd rfl (Or.inl rfl)) (pss_cons (ps_if (PW.pt (pw_or (pt_cmpR op_ne (pe_fldK (K := K) rfl (pv 8)) (pv 2) (nomark _)) (pw_or (pt_cmpR op_ne (pe_callB (call_repr hr hg) (by rfl) T.z_repr (by decide +kernel) (pa_cons (pe_fldK (K := K) rfl (pv 8)) pa_nil)) (pe_callB (call_repr hr hg) (by rfl) T.z_repr (by decide +kernel) (pa_cons (pv 5) pa_nil)) (nomark _)) (pw_or1 (pt_cmpR op_ne (pe_callB (call_repr hr hg) (by rfl) T.z_repr (by decide +kernel) (pa_cons (pe_call (O__law_kept T) (hr.mono (by decide)) (by rfl) T.m__law_kept T.F__law_kept.kp T.b__law_kept .nil pass0 (pa_cons (pv 1) (pa_cons (pv 8) pa_nil))) pa_nil)) (pe_callB (call_repr hr hg) (by rfl) T.z_repr (by decide +kernel) (pa_cons (pe_callTy call_list_of (by rfl) T.z_list (by decide +kernel) (pa_cons (pv 5) pa_nil)) pa_nil)) (nomark _)))))) (pss_one (ps_ret pe_bl)) pss_nil)
      (pss_one (ps_if (PW.pt (pw_or (pt_not (pt_val (pe_callB call_isi (by rfl) T.z_isinstance (by decide +kernel) (pa_cons (pv 8) (pa_cons (pe_glob (v := .ref T.c_Paper) (by rfl) T.m_Paper rfl) pa_nil))))) (pw_or (pt_cmpR op_ne (pe_callB call_isi (by rfl) T.z_isinstance (by decide +kernel) (pa_cons (pv 8) (pa_cons (pe_glob (v := .ref T.c_Denial) (by rfl) T.m_Denial rfl) pa_nil))) (pv 3) (nomark _)) (pw_or1 (pt_cmpR op_eq (pe_callTy (crI_bool T (hr.mono (by decide))) (by rfl) T.z_bool (by decide +kernel) (pa_cons (pv 8) pa_nil)) (pv 3) (nomark _)))))) (pss_one (ps_ret pe_bl)) pss_nil))))
      (pss_cons (ps_set (i := 9) sc__law_paper_right.nd rfl (Or.inl rfl) (pe_ifExp (pt_cmpR op_gt (pv 1) pe_int (nomark _)) (pe_ifExp (pt_val (pv 3)) (StX.pe_makeR T.mk_Denial (R_Denial___init__ T 40) (hr.mono (by decide)) (by rfl) T.m_Denial pass0 (pa_cons (pv 2) (pa_cons (pv 4) pa_nil))) (StX.pe_makeR T.mk_Paper (R_Paper___init__ T 40) (hr.mono (by decide)) (by rfl) T.m_Paper pass0 (pa_cons (pv 2) (pa_cons (pv 4) pa_nil)))) (StX.pe_makeR T.mk_Paper (R_Paper___init__ T 40) (hr.mono (by decide)) (by rfl) T.m_Paper pass0 (pa_cons (pv 2) pa_nil))))
      (pss_cons (ps_if (PW.pt (pw_or (pt_cmpR (opI_eq T (hr.mono (by decide))) (pv 6) (pv 9) (nomark _)) (pw_or (pt_cmpR (opI_eqR T (hr.mono (by decide))) (pv 9) (pv 6) (nomark _)) (pw_or (pt_cmpR op_ne (pe_callB (call_repr hr hg) (by rfl) T.z_repr (by decide +kernel) (pa_cons (pe_fldK (K := K) rfl (pv 9)) pa_nil)) (pe_callB (call_repr hr hg) (by rfl) T.z_repr (by decide +kernel) (pa_cons (pv 5) pa_nil)) (nomark _)) (pw_or1 (PW.pt (pw_and (pt_cmpR op_gt (pv 1) pe_int (nomark _)) (pw_and1 (pt_cmpR (opI_eq T (hr.mono (by decide))) (pv 6) (pe_call (O__law_made T) (hr.mono (by decide)) (by rfl) T.m__law_made T.F__law_made.kp T.b__law_made .nil pass0 (pa_cons (pv 1) (pa_cons (pe_lst (pa_cons (pv 4) (pa_cons pe_int pa_nil))) (pa_cons pe_bl pa_nil)))) (nomark _)))))))))) (pss_one (ps_ret pe_bl)) pss_nil)
      (pss_cons (ps_for PassesOwn.never rfl (pi_range1 (by rfl) T.z_range (pa_cons pe_int pa_nil)) (pg_name (i := 10) sc__law_paper_right.nd rfl (Or.inl rfl)) (pss_one (ps_if (pt_cmpR op_ne (pe_cmpR (opI_eq T (hr.mono (by decide))) (pv 6) (pe_call (O__law_made T) (hr.mono (by decide)) (by rfl) T.m__law_made T.F__law_made.kp T.b__law_made .nil pass0 (pa_cons (pv 10) (pa_cons (pv 4) (pa_cons pe_bl pa_nil)))) (nomark _)) (pe_cmpR op_eq (pv 10) (pv 1) (nomark _)) (nomark _)) (pss_one (ps_ret pe_bl)) pss_nil)))
      (pss_cons (ps_if (pt_val (pe_callB call_isi (by rfl) T.z_isinstance (by decide +kernel) (pa_cons (pv 4) (pa_cons (pe_bltn (v := .ty "list") (u := .type "list") (by rfl) T.z_list (by decide +kernel) rfl) pa_nil)))) (pss_one (ps_expr (pe_bm PySem.F.plainAttrs_list PySem.F.slot_list_append PySem.F.type_list_append mt_append (pv 4) (pa_cons pe_int pa_nil)))) pss_nil)
      (pss_one (ps_ret (pe_and (pe_cmpR (opI_eq T (hr.mono (by decide))) (pv 6) (pv 7) (nomark _)) (pe_and (pe_cmpR (opI_ne T (hr.mono (by decide))) (pv 6) (pv 5) (nomark _)) (pe_one (pe_cmpR op_eq (pe_callB (call_repr hr hg) (by rfl) T.z_repr (by decide +kernel) (pa_cons (pe_fldK (K := K) rfl (pv 6)) pa_nil)) (pe_callB (call_repr hr hg) (by rfl) T.z_repr (by decide +kernel) (pa_cons (pv 5) pa_nil)) (nomark _))))))))))))))), ?_⟩
  -- word, is_denial, one
  refine ⟨szl rfl, fun p1 hp1 => ?_⟩
  have b1 := hb.new hp1 (o := .lst [.str "alike", .str "unlike", .str "won", .str "unwon", .str "family"])
  have x1 : Ext c H (upd H p1 (.lst [.str "alike", .str "unlike", .str "won", .str "unwon", .str "family"])) := Ext.new hp1
  refine ⟨_, rfl, p1, _, _, _, rfl, rfl, .of upd_same, atI_nat (wd_ix hi), ?_⟩
  generalize upd H p1 _ = H1 at b1 x1 ⊢
  refine ⟨_, rfl, szl rfl, fun p2 hp2 => ?_⟩
  have b2 := b1.new hp2 (o := .tup [.int 1, .int 3])
  have x2 := x1.trans (Ext.new hp2 (o := .tup [.int 1, .int 3]))
  refine ⟨p2, _, rfl, .inr (.of upd_same), rfl, rfl, ?_⟩
  generalize upd H1 p2 _ = H2 at b2 x2 ⊢
  clear b1 x1 hp1 hp2
  refine ⟨_, rfl, c, l, n, rfl, b2, by omega, fun v d z H3 hd hz hm hls b3 x3 => ?_⟩
  have xA := x2.trans x3
  have x20 := x2
  obtain ⟨e, R, vd, nel⟩ := vd_of b3 hd hz hm hls
  have e13 : (if false = true then !inV (.int i) [.int 1, .int 3] else inV (.int i) [.int 1, .int 3]) = isDen i := in13 hi
  dsimp only
  rw [e13]
  refine ⟨_, _, _, rfl, ?_⟩
  clear e13 hls hm hz x2 x3 b2
  have mono : ∀ H' H'' u, Same H' H'' → R H' u → R H'' u := fun H' H'' u s => vd.fx.mono _ _ _ (.of (ExtX.of s))
  -- due
  refine seq_cut (fun y H' => ∃ q us, y = .ref q ∧ Same H3 H' ∧ H3 q = none ∧ H' q = some (.tup us) ∧ us.length = (if i = 0 then 0 else 1) ∧ ∀ u ∈ us, R H' u) (fun Q' kq => ?_) (fun y H4 hy => ?_)
  · refine ⟨_, rfl, rfl, _, rfl, ?_⟩
    by_cases q : i = 0
    · subst q
      exact iteT ⟨szl rfl, fun p hp => kq _ _ ⟨p, [], rfl, same_new hp, hp, upd_same, rfl, fun u hu => nomatch hu⟩⟩
    · rw [decide_eq_false (fun z => q (by have := V.int.inj z; omega))]
      refine iteF ⟨_, rfl, v, R, rfl, vd.fx.deeper (by decide), fun u H4 s4 r => ⟨szl rfl, fun p hp => kq _ _ ⟨p, [u], rfl, s4.trans (same_new hp), s4.free hp, upd_same, by rw [if_neg q]; rfl, fun u' hu => ?_⟩⟩⟩
      rw [List.mem_singleton.mp hu]
      exact mono _ _ _ (same_new hp) r
  obtain ⟨q, us, rfl, s4, nq, hq, lq, rq⟩ := hy
  dsimp only [gName]
  -- paper, again
  obtain ⟨R4, f4, g4⟩ := (vd.fx.deeper (show 20 ≤ 40 by decide)).up (ExtX.of s4)
  refine ⟨_, rfl, _, rfl, i, v, false, R4, rfl, hi, f4, fun H5 x1 s5 m1 => ?_⟩
  have s45 := s4.trans s5
  obtain ⟨R5, f5, g5⟩ := (vd.fx.deeper (show 20 ≤ 40 by decide)).up (ExtX.of s45)
  refine ⟨_, rfl, _, rfl, i, v, true, R5, rfl, hi, f5, fun H6 x2 s6 m2 => ?_⟩
  have pf : PF T H3 R i x1 x2 q us H6 := ⟨s45.trans s6, (m1.less s4 (fun u => g4 _ u)).same s6 (fun u => mono _ _ u s6), m2.less s45 (fun u => g5 _ u), nq, s6 _ _ (s5 _ _ hq), lq, fun u hu => mono _ _ _ (s5.trans s6) (rq u hu)⟩
  clear m1 m2 f4 g4 f5 g5 s6 s45 s5 s4 rq hq
  refine ⟨_, _, rfl, ?_⟩
  dsimp only
  -- each
  refine ⟨_, rfl, _, rfl, szl rfl, fun p hp => ⟨p, rfl, ⟨_, .of upd_same⟩, ?_⟩⟩
  have s7 : Same H6 (upd H6 p (.tup [.ref x1, .ref x2])) := same_new hp
  have hP : upd H6 p (.tup [.ref x1, .ref x2]) p = some (.tup [.ref x1, .ref x2]) := upd_same
  have pf7 := pf.same vd.fx s7
  generalize upd H6 p _ = H7 at s7 hP pf7 ⊢
  clear pf s7 hp
  refine for_it (walk_tup (K := K) (a := p) (xs := [.ref x1, .ref x2])) (fun j σ H' => (∃ t8 : Option V, σ = [some (.ref c), some (.int i), some (.str (wdI i)), some (.bl (isDen i)), some v, some (.ref q), some (.ref x1), some (.ref x2), t8, none, none]) ∧ PF T H3 R i x1 x2 q us H' ∧ SqT K H' p [.ref x1, .ref x2])
    ⟨⟨_, rfl⟩, pf7, .of hP⟩ (fun j σ H' _ h => h.2.2) ?_ ?_
  · rintro j x σ H8 H8' hj ⟨⟨t8, rfl⟩, pf8, hp8⟩ ⟨rfl, hx⟩
    obtain ⟨xa, rfl, m8⟩ : ∃ xa, x = .ref xa ∧ MdAt T H3 H8' R i xa := by
      match j, hx with
      | 0, hx => cases hx; exact ⟨x1, rfl, pf8.2.1⟩
      | 1, hx => cases hx; exact ⟨x2, rfl, pf8.2.2.1⟩
    dsimp only [gName]
    obtain ⟨t, u8, ⟨pc, dx, hx8⟩, nt, ht, hl8, ru⟩ := m8
    obtain ⟨s3, _, _, _, hq, lq, rq⟩ := id pf8
    have exx := ExtX.of s3
    have d1 := dv_us vd exx hl8 ru
    have d2 := dv_us vd exx lq rq
    refine ⟨_, rfl, xa, _, dx, _, _, rfl, hx8, pc.cl, pc.nw, rfl, _, rfl, rfl, _, rfl, ?_⟩
    rw [nd_self]
    refine iteF ?_
    obtain ⟨r1a, r1b, r1c, r1d⟩ := repT vd.fine d1 ht (vd.ne nt)
    refine ⟨_, rfl, xa, _, dx, _, _, rfl, hx8, pc.cl, pc.np, rfl, e, _, _, rfl, r1a, r1b, r1c, r1d, ?_⟩
    obtain ⟨r2a, r2b, r2c, r2d⟩ := repT vd.fine d2 hq (vd.ne nq)
    refine ⟨_, rfl, e, _, _, rfl, r2a, r2b, r2c, r2d, ?_⟩
    refine ⟨rfl, _, rfl, ?_⟩
    rw [nd_self]
    refine iteF ?_
    refine ⟨_, rfl, _, rfl, i, xa, t, u8, rfl, hi, ⟨pc, dx, hx8⟩, hl8, fun H9 pk s9 nk hk => ?_⟩
    have s39 := s3.trans s9
    have d3 := dv_us vd (ExtX.of s39) hl8 (fun u hu => mono _ _ _ s9 (ru u hu))
    obtain ⟨r3a, r3b, r3c, r3d⟩ := repL vd.fine d3 hk (vd.ne (s3.free nk))
    refine ⟨e, _, _, rfl, r3a, r3b, r3c, r3d, ?_⟩
    refine ⟨_, rfl, q, us, rfl, .inr (.of (s9 _ _ hq)), fun pl hpl => ?_⟩
    have s9l : Same H9 (upd H9 pl (.lst us)) := same_new hpl
    have d4 := dv_us vd (ExtX.of (s39.trans s9l)) lq (fun u hu => mono _ _ _ (s9.trans s9l) (rq u hu))
    obtain ⟨r4a, r4b, r4c, r4d⟩ := repL vd.fine d4 upd_same (vd.ne (s39.free hpl))
    refine ⟨e, _, _, rfl, r4a, r4b, r4c, r4d, ?_⟩
    refine ⟨rfl, _, rfl, ?_⟩
    rw [nd_self]
    refine iteF ?_
    have pfA := pf8.same vd.fx (s9.trans s9l)
    have hpA := (s9.trans s9l).seqT hp8
    have hxA := (s9.trans s9l) _ _ hx8
    generalize upd H9 pl _ = HA at pfA hpA hxA ⊢
    clear d1 d2 d3 d4 hk nk s39 s9 s9l hpl hq rq exx
    refine ⟨_, rfl, .ref xa, _, _, _, true, rfl, .own _, pc.ty.ty hxA, pc.kp, _, rfl, iteF ?_⟩
    refine ⟨_, rfl, .ref xa, _, _, _, isDen i, rfl, .own _, pc.ty.ty hxA, kdI T i, _, rfl, rfl, _, rfl, ?_⟩
    rw [nd_self]
    refine iteF ?_
    refine ⟨_, rfl, i, xa, dx, _, rfl, hxA, _, rfl, _, rfl, _, rfl, rfl, _, rfl, ?_⟩
    rw [show decide (V.bl (!isDen i) = V.bl (isDen i)) = false by cases isDen i <;> rfl]
    exact iteF ⟨⟨_, rfl⟩, pfA, hpA⟩
  rintro σ H8 ⟨⟨t8, rfl⟩, pf8, hp8⟩
  clear pf7 hP hp8
  dsimp only
  -- plain
  have s38 := pf8.1
  refine seq_cut (fun y H' => ∃ x3 t3 us3, y = .ref x3 ∧ Same H8 H' ∧ PaAt K T.c_Paper H' x3 (parI T i) (pnI i) (wdI i) t3 [] ∧ H8 t3 = none ∧ H' t3 = some (.tup us3) ∧ us3.length = (if i = 0 then 0 else 1) ∧ ∀ u ∈ us3, R H' u) (fun Q' kq => ?_) (fun y H9 hy => ?_)
  · obtain ⟨R8, f8, g8⟩ := (vd.fx.deeper (show 20 ≤ 40 by decide)).up (ExtX.of s38)
    have one : ∀ (xx : Addr) (H' : Hp) (t : Addr) (ys : List V) (dxx : Addr), i ≠ 0 → Same H8 H' → H' xx = some (.ins (parI T i) dxx [("word", .str (wdI i)), ("parts", .ref t)]) → H8 t = none → H' t = some (.tup ys) → ys.length = 1 → (∀ (j : Nat) (y : V), ys[j]? = some y → R8 H' y) → Q' (.ref xx) H' := fun xx H' t ys dxx q0 s hx n0 hT hl hy =>
      kq _ _ ⟨xx, t, ys, rfl, s, ⟨pcP T i, dxx, hx⟩, n0, hT, by rw [if_neg q0]; exact hl, fun u hu => by obtain ⟨j, hj⟩ := List.mem_iff_getElem?.mp hu; exact g8 _ _ (hy j u hj)⟩
    have mk : ∀ (xx dxx : Addr), i ≠ 0 → H8 xx = none → H8 dxx = none → dxx ≠ xx → spPap K 40 [.ref xx, .str (wdI i), v] (upd (upd H8 dxx (.own xx)) xx (.ins (parI T i) dxx [])) (fun v H2 => v = .non ∧ Q' (.ref xx) H2) E0 := fun xx dxx q0 a b c =>
      mk_pap (pcP T i) (rest := [v]) (Rs := fun _ => R8) (by show 1 ≤ 1000; decide) (fun j y hy => by match j, hy with | 0, hy => cases hy; exact f8) a b c fun H' t ys s hx n0 hT hl hy => one xx H' t ys dxx q0 s hx n0 hT hl fun j y hj => hy j y hj
    match i, hi, mk, kq with
    | 0, _, _, kq =>
      refine ⟨_, rfl, _, _, rfl, rfl, _, rfl, iteF ?_⟩
      refine ⟨_, rfl, fun xx dxx a b c => ?_⟩
      refine mk_pap (pc_Paper T) (rest := []) (Rs := fun _ _ _ => True) (by decide) (fun j y hy => by simp at hy) a b c fun H' t ys s hx n0 hT hl hy => ?_
      exact kq _ _ ⟨xx, t, ys, rfl, s, ⟨pc_Paper T, dxx, hx⟩, n0, hT, hl, fun u hu => by rw [List.length_eq_zero_iff.mp hl] at hu; cases hu⟩
    | 1, _, mk, _ =>
      refine ⟨_, rfl, _, _, rfl, rfl, _, rfl, iteT ?_⟩
      refine ⟨_, rfl, _, rfl, iteT ?_⟩
      exact ⟨_, rfl, _, rfl, fun xx dxx a b c => mk xx dxx (by decide) a b c⟩
    | 2, _, mk, _ =>
      refine ⟨_, rfl, _, _, rfl, rfl, _, rfl, iteT ?_⟩
      refine ⟨_, rfl, _, rfl, iteF ?_⟩
      exact ⟨_, rfl, _, rfl, fun xx dxx a b c => mk xx dxx (by decide) a b c⟩
    | 3, _, mk, _ =>
      refine ⟨_, rfl, _, _, rfl, rfl, _, rfl, iteT ?_⟩
      refine ⟨_, rfl, _, rfl, iteT ?_⟩
      exact ⟨_, rfl, _, rfl, fun xx dxx a b c => mk xx dxx (by decide) a b c⟩
    | 4, _, mk, _ =>
      refine ⟨_, rfl, _, _, rfl, rfl, _, rfl, iteT ?_⟩
      refine ⟨_, rfl, _, rfl, iteF ?_⟩
      exact ⟨_, rfl, _, rfl, fun xx dxx a b c => mk xx dxx (by decide) a b c⟩
  obtain ⟨x3, t3, us3, rfl, s89, pa3, n3, ht3, l3, r3⟩ := hy
  dsimp only [gName]
  have pf9 := pf8.same vd.fx s89
  obtain ⟨s39, m1, m2, _, hq, lq, rq⟩ := id pf9
  obtain ⟨t1, u1, pa1, nt1, ht1, l1, r1⟩ := m1
  have sq3 : H3 t3 = none := s38.free n3
  refine ⟨_, rfl, _, rfl, i, x1, _, _, .ref (parI T i), rfl, pa1.2.choose_spec, (pcP T i).ty.ty pa3.2.choose_spec, nfP T i, ?_⟩
  refine same_ne pa1 pa3 (.inl (nm_ne i)) fun HA sA => ⟨_, rfl, iteF ?_⟩
  have pa1A := pa1.same sA
  have pa3A := pa3.same sA
  refine ⟨_, rfl, _, rfl, i, x3, _, x1, _, _, _, rfl, pa3A.2.choose_spec, rfl, pa1A.2.choose_spec, ?_⟩
  refine same_ne pa1A pa3A (.inl (nm_ne i)) fun HB sB => ⟨_, rfl, _, rfl, iteF ?_⟩
  have sAB := sA.trans sB
  have pfB := pf9.same vd.fx sAB
  have d3 := dv_us vd (ExtX.of (s39.trans sAB)) l3 (fun u hu => mono _ _ _ sAB (r3 u hu))
  obtain ⟨r5a, r5b, r5c, r5d⟩ := repT vd.fine d3 (sAB _ _ ht3) (vd.ne sq3)
  have pa3B := pa3A.same sB
  refine ⟨_, rfl, x3, _, _, _, _, rfl, pa3B.2.choose_spec, pa3B.1.cl, pa3B.1.np, rfl, e, _, _, rfl, r5a, r5b, r5c, r5d, ?_⟩
  clear pa3A pa1A r5a r5b r5c r5d d3 pa3B pa3 n3 ht3 l3 r3 sq3 rq hq lq m2 pa1 ht1 nt1 l1 r1 t1 u1 sA sB
  obtain ⟨s3B, m1, m2, nqB, hq, lq, rq⟩ := id pfB
  obtain ⟨t1, u1, pa1, nt1, ht1, l1, r1⟩ := m1
  have d4 := dv_us vd (ExtX.of s3B) lq rq
  obtain ⟨r6a, r6b, r6c, r6d⟩ := repT vd.fine d4 hq (vd.ne nq)
  refine ⟨_, rfl, e, _, _, rfl, r6a, r6b, r6c, r6d, ?_⟩
  refine ⟨rfl, _, rfl, ?_⟩
  rw [nd_self]
  refine iteF ?_
  refine tt_cut (fun b H' => b = false ∧ Same HB H') (fun Q' kq => ?_) (fun b HC hb => ?_)
  · refine ⟨_, rfl, _, _, rfl, rfl, _, rfl, ?_⟩
    by_cases q0 : i = 0
    · subst q0
      exact iteF (kq _ _ ⟨rfl, Same.refl _⟩)
    · rw [decide_eq_true (show (0 : Int) < (i : Int) by omega)]
      refine iteT ?_
      refine ⟨_, rfl, _, rfl, _, rfl, szl rfl, fun pl hpl => ?_⟩
      have sl : Same HB (upd HB pl (.lst [v, .int 7])) := same_new hpl
      have hl : upd HB pl (.lst [v, .int 7]) pl = some (.lst [v, .int 7]) := upd_same
      generalize upd HB pl _ = HL at sl hl ⊢
      obtain ⟨Rv, fv, gv⟩ := (vd.fx.deeper (show 20 ≤ 39 by decide)).up (ExtX.of (s3B.trans sl))
      refine ⟨i, .ref pl, false, _, rfl, hi, .node (n := 39) (R := fun j => if j = 0 then Rv else fun _ u => u = .int 7) (.inl (.of hl)) (by show 2 ≤ 1000; decide) (fun j y hy => ?_), fun HC x5 sC m5 => ?_⟩
      · match j, hy with
        | 0, hy => cases hy; exact fv
        | 1, hy => cases hy; exact .leaf (.int 7)
        | j + 2, hy => simp at hy
      obtain ⟨t5, u5, pa5, n5, ht5, l5, r5⟩ := m5
      have sBC := sl.trans sC
      have pa1C := pa1.same sBC
      refine ⟨i, x1, _, _, .ref (clsI T i), rfl, pa1C.2.choose_spec, pa5.1.ty.ty pa5.2.choose_spec, nfI T i i, ?_⟩
      refine same_eq pa1C pa5 (dtupI (i := i) (b := false) (sBC _ _ ht1) ht5 l1 l5 (fun z => absurd z q0) fun u hu y hy => ?_) fun HD sD => ⟨_, rfl, kq _ _ ⟨rfl, sBC.trans sD⟩⟩
      obtain ⟨t6, ys, rfl, _, ht6, l6, r6⟩ := r5 y hy
      exact vd.eqF (ExtX.of (s3B.trans sBC)) (mono _ _ _ sBC (r1 u hu)) ht6 l6 (fun y0 h0 => gv _ _ (r6 0 y0 h0)) (fun y1 h1 => r6 1 y1 h1)
  obtain ⟨rfl, sBC⟩ := hb
  refine iteF ?_
  have pfC := pfB.same vd.fx sBC
  clear r6a r6b r6c r6d d4 rq hq lq m2 pa1 ht1 nt1 l1 r1 t1 u1 sBC pfB s3B nqB
  dsimp only [tNext]
  refine ⟨_, rfl, by decide, by decide, ?_⟩
  refine for_it (walk_range (lo := 0) (n := 5)) (fun j σ H' => (∃ t10 : Option V, σ = [some (.ref c), some (.int i), some (.str (wdI i)), some (.bl (isDen i)), some v, some (.ref q), some (.ref x1), some (.ref x2), t8, some (.ref x3), t10]) ∧ PF T H3 R i x1 x2 q us H')
    ⟨⟨_, rfl⟩, pfC⟩ (fun _ _ _ _ _ => trivial) ?_ ?_
  · rintro j x σ HD HD' hj ⟨⟨t10, rfl⟩, pfD⟩ ⟨rfl, rfl⟩
    dsimp only [gName]
    rw [Int.zero_add]
    obtain ⟨s3D, m1, m2, nqB, hq, lq, rq⟩ := id pfD
    obtain ⟨t1, u1, pa1, nt1, ht1, l1, r1⟩ := m1
    obtain ⟨Rv, fv, gv⟩ := (vd.fx.deeper (show 20 ≤ 40 by decide)).up (ExtX.of s3D)
    refine ⟨_, rfl, _, rfl, _, rfl, j, v, false, Rv, rfl, hj, fv, fun HE x5 sE m5 => ?_⟩
    obtain ⟨t5, u5, pa5, n5, ht5, l5, r5⟩ := m5
    have pa1E := pa1.same sE
    refine ⟨i, x1, _, _, .ref (clsI T j), rfl, pa1E.2.choose_spec, pa5.1.ty.ty pa5.2.choose_spec, nfI T i j, ?_⟩
    by_cases ij : j = i
    · subst ij
      refine same_eq pa1E pa5 (dtupI (i := j) (b := true) (sE _ _ ht1) ht5 l1 l5 (fun _ => rfl) fun u hu y hy => vd.eqT (ExtX.of (s3D.trans sE)) (mono _ _ _ sE (r1 u hu)) (gv _ _ (r5 y hy))) fun HF sF => ?_
      refine ⟨_, rfl, _, rfl, rfl, rfl, _, rfl, ?_⟩
      rw [d_self, nd_self]
      exact iteF ⟨⟨_, rfl⟩, pfD.same vd.fx (sE.trans sF)⟩
    · refine same_ne pa1E pa5 (.inl (nm_inj hi hj (fun z => ij z.symm))) fun HF sF => ?_
      refine ⟨_, rfl, _, rfl, rfl, rfl, _, rfl, ?_⟩
      rw [decide_eq_false (show ¬ V.int (j : Int) = V.int (i : Int) from fun z => ij (by have := V.int.inj z; omega)), nd_self]
      exact iteF ⟨⟨_, rfl⟩, pfD.same vd.fx (sE.trans sF)⟩
  rintro σ HD ⟨⟨t10, rfl⟩, pfD⟩
  dsimp only
  obtain ⟨s3D, m1, m2, nqD, hq, lq, rq⟩ := pfD
  obtain ⟨t1, u1, pa1, nt1, ht1, l1, r1⟩ := m1
  obtain ⟨t2, u2, pa2, nt2, ht2, l2, r2⟩ := m2
  have exD := ExtX.of s3D
  refine seq_join (fun σ' H' => σ' = [some (.ref c), some (.int i), some (.str (wdI i)), some (.bl (isDen i)), some v, some (.ref q), some (.ref x1), some (.ref x2), t8, some (.ref x3), t10] ∧ AF T e d i x1 x2 q H' ∧ Ext c H H' ∧ Bag c l (n + 5) H') (fun N kn => ?_) ?_
  · rcases vd.ls with ⟨xs, rfl, he, fewx⟩ | ⟨tv, tyv, kv⟩
    · obtain ⟨nec, nel, ne0⟩ := nel rfl
      have heD := s3D _ _ he
      refine ⟨_, rfl, .ref e, .ty "list", .type "list", .type "list", true, rfl, .ty _, .base (.lst heD), kit_ty (by decide +kernel), _, rfl, iteT ?_⟩
      refine ⟨_, rfl, .inl ⟨rfl, xs, .of heD⟩, e, xs, _, rfl, rfl, heD, Nat.lt_of_le_of_lt fewx (by decide), ?_⟩
      have can : d.canLay0 = true := by
        rcases vd.dc with ⟨z, _⟩ | ⟨a, kvs, z, ha, _⟩
        · exact z
        · cases z; rw [he] at ha; cases ha
      generalize ho : HO.lst (xs ++ [V.int 1]) = o
      have xe : Ext e HD (upd HD e o) := Ext.bag
      have tn : ∀ {t : Addr} {us : List V}, HD t = some (.tup us) → upd HD e o t = some (.tup us) := fun {t us} h => by
        rw [upd_ne (fun z => by rw [z, heD] at h; cases h)]; exact h
      have pn : ∀ {x t : Addr} {us : List V}, PaAt K T.c_Paper HD x (clsI T i) (nmI i) (wdI i) t (us.map fun u => (fdI i, u)) → PaAt K T.c_Paper (upd HD e o) x (clsI T i) (nmI i) (wdI i) t (us.map fun u => (fdI i, u)) := fun {x t us} h =>
        by
        obtain ⟨pc, dx, hx⟩ := h
        exact ⟨pc, dx, by rw [upd_ne (fun z => by rw [z, heD] at hx; cases hx)]; exact hx⟩
      have dn : ∀ u, R HD u → DV K e (upd HD e o) u (fixD d) := fun u hu => (vd.dv _ _ exD hu).up xe
      have dl : ∀ us : List V, us.length = (if i = 0 then 0 else 1) → (∀ u ∈ us, R HD u) → DVs K e (upd HD e o) us (dsI i d) := fun us hl hu => by
        have h := dv_us vd exD hl hu
        exact h.ext xe
      refine kn _ _ ⟨rfl, ⟨t1, t2, u1, u2, us, pn pa1, pn pa2, dtupI (i := i) (tn ht1) (tn ht2) l1 l2 (fun _ => rfl) fun u hu y hy => vd.eqN can (dn u (r1 u hu)) (dn y (r2 y hy)), repT vd.fine (dl u1 l1 r1) (tn ht1) (vd.ne nt1), repT vd.fine (dl us lq rq) (tn hq) (vd.ne nqD), tn hq⟩, fun b u nb hb => ?_, (b3.same s3D).put nec nel⟩
      have be : b ≠ e := fun z => by rw [z] at hb; rw [x20 e u nec hb] at ne0; cases ne0
      rw [upd_ne be]
      exact s3D _ _ (xA b u nb hb)
    · refine ⟨_, rfl, v, .ty "list", tv, .type "list", false, rfl, .ty _, tyv _ s3D, kv, _, rfl, iteF ?_⟩
      exact kn _ _ ⟨rfl, ⟨t1, t2, u1, u2, us, pa1, pa2, dtupI (i := i) ht1 ht2 l1 l2 (fun _ => rfl) fun u hu y hy => vd.eqT exD (r1 u hu) (r2 y hy), repT vd.fine (dv_us vd exD l1 r1) ht1 (vd.ne nt1), repT vd.fine (dv_us vd exD lq rq) hq (vd.ne nqD), hq⟩, xA.trans (.of s3D), b3.same s3D⟩
  rintro _ HE ⟨rfl, ⟨w1, w2, us1, us2, us', pe1, pe2, dt, ⟨ra, rb, rc, rd⟩, ⟨qa, qb, qc, qd⟩, hqE⟩, xE, bE⟩
  clear pa1 pa2 ht1 ht2 l1 l2 r1 r2 hq lq rq nt1 nt2 nqD s3D exD
  refine ⟨_, rfl, _, rfl, i, x1, _, _, .ref (clsI T i), rfl, pe1.2.choose_spec, pe2.1.ty.ty pe2.2.choose_spec, nfI T i i, ?_⟩
  refine same_eq pe1 pe2 dt fun HF sF => ⟨_, rfl, iteT ?_⟩
  have pe1F := pe1.same sF
  refine ⟨_, rfl, _, rfl, i, x1, _, _, .type "tuple", rfl, pe1F.2.choose_spec, ty_sqt (.of (sF _ _ hqE)), T.nt _ (clsI_mem T i), ?_⟩
  refine same_tup pe1F (.of (sF _ _ hqE)) fun HG sG => ⟨_, rfl, _, rfl, iteT ?_⟩
  have sFG := sF.trans sG
  have pe1G := pe1F.same sG
  refine ⟨_, rfl, x1, _, _, _, _, rfl, pe1G.2.choose_spec, pe1G.1.cl, pe1G.1.np, rfl, e, _, _, rfl, ra.up (.of sFG), rb, rc, rd, ?_⟩
  refine ⟨_, rfl, e, _, _, rfl, qa.up (.of sFG), qb, qc, qd, rfl, ?_⟩
  rw [d_self]
  exact k _ (xE.trans (.of sFG)) (bE.same sFG)
end
end K02

set_option Elab.async false
set_option linter.all false
set_option maxRecDepth 100000
set_option maxHeartbeats 4000000
namespace K02
open PySem PySem.Spec PyProof.Rows L2 Gs
section
variable {P : Program} {w : World} {K : PySem.W.Frag} {mg : Str → Option Value} {base : Heap}
/-- the value behind j turns -/
def DG (K : PySem.W.Frag) (c : Addr) (H : Hp) (v : V) (d : PyData) (j : Nat) : Prop := DV K c H v d ∧ Fine (3 + j) (3000 + 3 * j) d ∧ slimD d = true ∧ deepD d ≤ 20 + j ∧ (1 ≤ j → ∃ a ds, v = .ref a ∧ (d = .list ds ∨ d = .tuple ds))
theorem fine_turn (j : Nat) (h : j ≤ 40) : (j : Int).natAbs < 2 ^ 1000 := by
  rw [Int.natAbs_natCast]
  exact Nat.lt_of_le_of_lt h (by decide +kernel)
/-- what the deep value is made to, twice the same -/
theorem deep_rep {e t : Addr} {H : Hp} {d : PyData} {j : Nat} (hj : j ≤ 40) (f : Fine (3 + j) (3000 + 3 * j) d) (h : DV K e H (.ref t) (fixD d)) : RepOk K e H t (fixD d) := by
  have f1 := f.fix
  exact ⟨h, f1.sh, Nat.le_trans f1.dp (by omega), f1.fits (by omega)⟩
def spDeep : Sp := fun vs H Q _ => ∃ (c l : Addr) (n : Nat), vs = [.ref c] ∧ Bag c l n H ∧ n ≤ 999900 ∧ ∀ H', Ext c H H' → Bag c l (n + 30) H' → Q (.bl true) H'
theorem G__law_deep_right (T : Tx K mg) : FnG P w K mg base CX0 60 T.a__law_deep_right T.d__law_deep_right ["tray"] spDeep := by
  refine fun_okG T.F__law_deep_right sc__law_deep_right (fun vs H Q E h => ?_) (fun cdv A outer s H vs Q E hr hg h => ?_)
  · obtain ⟨_, _, _, rfl, _⟩ := h; rfl
  obtain ⟨c, l, n, rfl, hb, hN, k⟩ := h
  refine ⟨_, (pss_cons (ps_par (i := 1) (j := 2) rfl sc__law_deep_right.nd rfl rfl (by decide) rfl rfl (pa_cons (pe_call (O__law_value T) (hr.mono (by decide)) (by rfl) T.m__law_value T.F__law_value.kp T.b__law_value .nil pass0 (pa_cons (pv 0) pa_nil)) (pa_cons (pe_tup pa_nil) pa_nil)) (by rfl))
      (pss_cons (ps_set (i := 2) sc__law_deep_right.nd rfl (Or.inl rfl) (pe_call (O__law_own T) (hr.mono (by decide)) (by rfl) T.m__law_own T.F__law_own.kp T.b__law_own .nil pass0 (pa_cons (pv 1) pa_nil)))
      (pss_cons (ps_for PassesOwn.never rfl (pi_range1 (by rfl) T.z_range (pa_cons (pe_op op_add pe_int (pe_call (O__law_hold T) (hr.mono (by decide)) (by rfl) T.m__law_hold T.F__law_hold.kp T.b__law_hold .nil pass0 (pa_cons (pv 0) (pa_cons pe_int pa_nil)))) pa_nil)) (pg_name (i := 3) sc__law_deep_right.nd rfl (Or.inl rfl)) (pss_one (ps_par (i := 1) (j := 2) rfl sc__law_deep_right.nd rfl rfl (by decide) rfl rfl (pa_cons (pe_call (O__law_one T) (hr.mono (by decide)) (by rfl) T.m__law_one T.F__law_one.kp T.b__law_one .nil pass0 (pa_cons (pv 0) (pa_cons (pe_lst (pa_cons (pe_lst (pa_cons (pv 1) pa_nil)) (pa_cons (pe_tup (pa_cons (pv 1) (pa_cons (pv 3) pa_nil))) (pa_cons (pe_lst (pa_cons (pv 3) (pa_cons (pv 1) pa_nil))) pa_nil)))) pa_nil))) (pa_cons (pv 2) pa_nil)) (by rfl))))
      (pss_one (ps_ret (pe_and (pe_cmpR op_eq (pe_callB (call_repr hr hg) (by rfl) T.z_repr (by decide +kernel) (pa_cons (pg_callK0 (FnG.of (O_fixed T 40)) (hr.mono (by decide)) hg (by rfl) T.m_fixed T.F_fixed.kp T.kb_fixed pass0 (pk_cons (pv 1) pk_nil)) pa_nil)) (pe_callB (call_repr hr hg) (by rfl) T.z_repr (by decide +kernel) (pa_cons (pe_call (O__law_own T) (hr.mono (by decide)) (by rfl) T.m__law_own T.F__law_own.kp T.b__law_own .nil pass0 (pa_cons (pv 1) pa_nil)) pa_nil)) (nomark _)) (pe_one (pe_or (pe_not (pe_callB call_isi (by rfl) T.z_isinstance (by decide +kernel) (pa_cons (pv 1) (pa_cons (pe_bltn (v := .ty "list") (u := .type "list") (by rfl) T.z_list (by decide +kernel) rfl) pa_nil)))) (pe_one (pe_cmpR op_eq (pe_callB (call_repr hr hg) (by rfl) T.z_repr (by decide +kernel) (pa_cons (pe_ix ix_tup (pe_fldK (K := K) rfl (StX.pe_makeR T.mk_Paper (R_Paper___init__ T 40) (hr.mono (by decide)) (by rfl) T.m_Paper pass0 (pa_cons pe_str (pa_cons (pv 1) pa_nil)))) pe_int (fun _ _ => rfl)) pa_nil)) (pe_callB (call_repr hr hg) (by rfl) T.z_repr (by decide +kernel) (pa_cons (pe_call (O__law_own T) (hr.mono (by decide)) (by rfl) T.m__law_own T.F__law_own.kp T.b__law_own .nil pass0 (pa_cons (pv 1) pa_nil)) pa_nil)) (nomark _))))))))))), ?_⟩
  refine ⟨_, rfl, c, l, n, rfl, hb, by omega, fun v0 d0 z H1 hd hz hm _ b1 x1 => ?_⟩
  obtain ⟨f0, sl0, dp0, _⟩ := val_facts hz hm
  refine ⟨szl rfl, fun p0 hp0 => ?_⟩
  refine ⟨_, _, rfl, ?_⟩
  dsimp only
  have hd2 := hd.up (Ext.new hp0 (o := .tup []))
  have b2 := b1.new hp0 (o := .tup [])
  have x2 := x1.trans (Ext.new hp0 (o := .tup []))
  generalize upd H1 p0 _ = H2 at hd2 b2 x2 ⊢
  have hcc : ∀ {H' : Hp} {m : Nat}, Bag c l m H' → H' c ≠ none := fun b => by
    obtain ⟨ns, pt, rest, h, _⟩ := b
    rw [h]; exact fun z => nomatch z
  obtain ⟨R0, g0, q0⟩ := DV.fx (hcc b2) _ _ 40 hd2 sl0 (by omega)
  refine ⟨_, rfl, v0, R0, rfl, g0, fun u0 H3 s3 _ => ?_⟩
  dsimp only [gName]
  have hd3 := hd2.up (.of s3)
  have b3 := b2.same s3
  have x3 := x2.trans (.of s3)
  clear hd hd2 b2 x2 s3 q0 g0 b1 x1 hb
  refine ⟨_, rfl, c, l, n + 5, _, rfl, b3, by omega, by decide, by decide, fun m H4 a1 a2 b4 x4 => ?_⟩
  obtain ⟨mm, rfl⟩ := Int.eq_ofNat_of_zero_le a1
  have hmm : mm < 12 := by omega
  have hd4 := hd3.up x4
  have x4' := x3.trans x4
  refine ⟨_, _, rfl, rfl, _, rfl, by omega, by omega, ?_⟩
  rw [show ((9 : Int) + (mm : Int)).toNat = 9 + mm by omega]
  refine for_it (walk_range (lo := 0) (n := 9 + mm)) (fun j σ H' => ∃ (v : V) (d : PyData) (t2 t3 : Option V), σ = [some (.ref c), some v, t2, t3] ∧ t2 ≠ none ∧ DG K c H' v d j ∧ Ext c H H' ∧ Bag c l (n + 6 + j) H') ⟨v0, d0, _, _, rfl, (fun z => nomatch z), ⟨hd4, f0, sl0, dp0, fun z => absurd z (by decide)⟩, x4', b4⟩ (fun _ _ _ _ _ => trivial) ?_ ?_
  · rintro j x σ H5 H5' hj ⟨v, d, t2, t3, rfl, ht2, ⟨dv, fd, sd, dd, _⟩, x5, b5⟩ ⟨rfl, rfl⟩
    dsimp only [gName]
    obtain ⟨w2, rfl⟩ : ∃ w2, t2 = some w2 := by
      cases t2 with
      | none => exact absurd rfl ht2
      | some w2 => exact ⟨w2, rfl⟩
    rw [Int.zero_add]
    refine ⟨_, rfl, _, rfl, szl rfl, fun p1 hp1 => ?_⟩
    have f1 := new_lst hp1 (b5.ne hp1) (.cons dv .nil) (K := K)
    have b6 := b5.new hp1 (o := .lst [v])
    generalize upd H5' p1 _ = H6 at f1 b6 ⊢
    have dv6 := dv.up f1.2
    refine ⟨_, rfl, _, rfl, szl rfl, fun p2 hp2 => ?_⟩
    have f2 := new_tup hp2 (b6.ne hp2) (.cons dv6 (.cons (.int (j : Int)) .nil)) (K := K)
    have b7 := b6.new hp2 (o := .tup [v, .int (j : Int)])
    generalize upd H6 p2 _ = H7 at f2 b7 ⊢
    have dv7 := dv6.up f2.2
    refine ⟨_, rfl, _, rfl, szl rfl, fun p3 hp3 => ?_⟩
    have f3 := new_lst hp3 (b7.ne hp3) (.cons (.int (j : Int)) (.cons dv7 .nil)) (K := K)
    have b8 := b7.new hp3 (o := .lst [.int (j : Int), v])
    generalize upd H7 p3 _ = H8 at f3 b8 ⊢
    refine ⟨szl rfl, fun p4 hp4 => ?_⟩
    have b9 := b8.new hp4 (o := .lst [.ref p1, .ref p2, .ref p3])
    refine ⟨c, l, p4, n + 6 + j, _, rfl, b9, by omega, b8.ne hp4, .of upd_same, by simp, szl2 rfl, fun i w H9 hi b10 x10 => ?_⟩
    have xx : Ext c H8 H9 := (Ext.new hp4).trans x10
    refine ⟨_, rfl, _, _, rfl, ?_⟩
    have ft := fine_turn j (by omega)
    have x9 : Ext c H H9 := x5.trans ((f1.2.trans f2.2).trans (f3.2.trans xx))
    match i, hi with
    | 0, hi =>
      cases hi
      refine ⟨_, .list [d], _, _, rfl, (fun z => nomatch z), ⟨f1.1.up ((f2.2.trans f3.2).trans xx), (Fine.list (fine1 fd)).mono (by omega) (by omega), ?_, ?_, fun _ => ⟨p1, _, rfl, .inl rfl⟩⟩, x9, b10⟩
      · simp [slimD, slimDs, sd]
      · simp only [deepD, deepDs]; omega
    | 1, hi =>
      cases hi
      refine ⟨_, .tuple [d, .int (j : Int)], _, _, rfl, (fun z => nomatch z), ⟨f2.1.up (f3.2.trans xx), (Fine.tuple (FineS.cons fd (FineS.cons (n := 0) (m := 0) (.int ft) .nil))).mono (by omega) (by omega), ?_, ?_, fun _ => ⟨p2, _, rfl, .inr rfl⟩⟩, x9, b10⟩
      · simp [slimD, slimDs, sd]
      · simp only [deepD, deepDs]; omega
    | 2, hi =>
      cases hi
      refine ⟨_, .list [.int (j : Int), d], _, _, rfl, (fun z => nomatch z), ⟨f3.1.up xx, (Fine.list (FineS.cons (n := 0) (.int ft) (FineS.cons (m := 0) fd .nil))).mono (by omega) (by omega), ?_, ?_, fun _ => ⟨p3, _, rfl, .inl rfl⟩⟩, x9, b10⟩
      · simp [slimD, slimDs, sd]
      · simp only [deepD, deepDs]; omega
    | i + 3, hi => simp at hi
  rintro σ H5 ⟨v, d, t2, t3, rfl, _, ⟨dv, fd, sd, dd, sq⟩, x5, b5⟩
  obtain ⟨a, ds, rfl, hds⟩ := sq (by omega)
  dsimp only
  have hj40 : 9 + mm ≤ 40 := by omega
  have isRef : ∀ {H' : Hp} {u : V}, DV K c H' u (fixD d) → ∃ t, u = .ref t := fun {H' u} h => by
    rcases hds with e | e
    · rw [e] at h; cases h; exact ⟨_, rfl⟩
    · rw [e] at h; cases h; exact ⟨_, rfl⟩
  obtain ⟨R, fx, g⟩ := DV.fx (hcc b5) _ _ 40 dv sd (by omega)
  -- fixed(value=value)
  refine ⟨_, rfl, rfl, rfl, .ref a, R, rfl, fx, fun u1 H6 s6 r1 => ?_⟩
  have e1 := g _ _ (ExtX.of s6) r1
  obtain ⟨t1, rfl⟩ := isRef e1
  obtain ⟨q1a, q1b, q1c, q1d⟩ := deep_rep hj40 fd e1
  refine ⟨c, t1, _, rfl, q1a, q1b, q1c, q1d, ?_⟩
  obtain ⟨R6, fx6, g6⟩ := fx.up (ExtX.of s6)
  refine ⟨_, rfl, .ref a, R6, rfl, fx6, fun u2 H7 s7 r2 => ?_⟩
  have s67 := s6.trans s7
  have e2 := g _ _ (ExtX.of s67) (g6 _ _ r2)
  obtain ⟨t2', rfl⟩ := isRef e2
  obtain ⟨q2a, q2b, q2c, q2d⟩ := deep_rep hj40 fd e2
  refine ⟨c, t2', _, rfl, q2a, q2b, q2c, q2d, rfl, _, rfl, ?_⟩
  rw [d_self]
  refine iteT ?_
  have dv7 := dv.up (Ext.of s67)
  have x7 := x5.trans (.of s67)
  have b7 := (b5.same s67).mono (show n + 6 + (9 + mm) ≤ n + 30 by omega)
  have kf := fun H' (s : Same H7 H') => k H' (x7.trans (.of s)) (b7.same s)
  rcases hds with rfl | rfl
  · -- a list
    have ty : TyX K H7 (.ref a) (.type "list") := by
      cases dv7 with
      | lst n1 s r =>
        rcases s with (s | ⟨o, s⟩) | ⟨o, its, n, e, q, _⟩
        · exact .base (.lst s)
        · exact .base (.frz s)
        · exact .kList e q
    refine ⟨_, rfl, .ref a, .ty "list", .type "list", .type "list", true, rfl, .ty _, ty, kit_ty (by decide +kernel), _, rfl, _, rfl, iteF ?_⟩
    obtain ⟨R7, fx7, g7⟩ := fx.up (ExtX.of s67)
    refine ⟨_, rfl, fun xx dxx a' b' c' => ?_⟩
    refine mk_pap (pc_Paper T) (rest := [.ref a]) (Rs := fun _ => R7) (by show 1 ≤ 1000; decide) (fun j y hy => by match j, hy with | 0, hy => cases hy; exact fx7) a' b' c' fun H8 t ys s8 hx n0 ht hl hy => ?_
    match ys, hl, hy with
    | [u3], _, hy =>
      have s68 := s67.trans s8
      have e3 := g _ _ (ExtX.of s68) (g7 _ _ (hy 0 u3 rfl))
      obtain ⟨t3', rfl⟩ := isRef e3
      obtain ⟨q3a, q3b, q3c, q3d⟩ := deep_rep hj40 fd e3
      refine ⟨xx, _, dxx, _, _, rfl, hx, T.cl_Paper, T.nF_Paper_parts, rfl, t, _, 0, .ref t3', rfl, rfl, .of ht, rfl, c, t3', _, rfl, q3a, q3b, q3c, q3d, ?_⟩
      obtain ⟨R8, fx8, g8⟩ := fx.up (ExtX.of s68)
      refine ⟨_, rfl, .ref a, R8, rfl, fx8, fun u4 H9 s9 r4 => ?_⟩
      have e4 := g _ _ (ExtX.of (s68.trans s9)) (g8 _ _ r4)
      obtain ⟨t4', rfl⟩ := isRef e4
      obtain ⟨q4a, q4b, q4c, q4d⟩ := deep_rep hj40 fd e4
      refine ⟨c, t4', _, rfl, q4a, q4b, q4c, q4d, rfl, ?_⟩
      rw [d_self]
      exact kf H9 (s8.trans s9)
  · have ty : TyX K H7 (.ref a) (.type "tuple") := by
      cases dv7 with
      | tup n1 s r => exact ty_sqt s
    refine ⟨_, rfl, .ref a, .ty "list", .type "tuple", .type "list", false, rfl, .ty _, ty, kit_ty (by decide +kernel), _, rfl, _, rfl, iteT ?_⟩
    exact kf H7 (Same.refl _)
end
end K02

set_option Elab.async false
set_option linter.all false
set_option maxRecDepth 100000
set_option maxHeartbeats 4000000
/-! Layer G44: C(word = e) where __init__ is def (self, word, *parts). -/
namespace Gs
open PySem PySem.Spec PyProof.Rows L2 StX
/-- a def called with keywords that fill up: vs the positional values, zs the keywords' -/
def FnRK (P : Program) (w : World) (K : PySem.W.Frag) (mg : Str → Option Value) (base : Heap) (CX : CXT) (k : Nat) (f : Addr) (ks : List Str) (sp : List V → List V → Hp → VK → XK → Prop) : Prop :=
  ∀ (A : Around) (outer : List Env) (s : Shared) (H : Hp) (us ws : List Value) (vs zs : List V) (Q : VK) (E : XK), Room k A → Env0 P w K mg base A outer s H → Vals vs us → Vals zs ws → sp vs zs H Q E →
    codeAny (model P w) A (.call (.ref f) ⟨us, ks.zip ws⟩) (CR CX outer P w H s Q E) s
section
variable {CX : CXT} {P : Program} {w : World} {K : PySem.W.Frag} {mg : Str → Option Value} {base : Heap} {k : Nat} {f : Addr} {name qual : Str} {params : Arguments} {body : List Stmt} {scope : Scope} {dV kV doc pm cdv ct oc : Value} {an od : Option Addr}
  {osl : Array (Option Value)} {N : List Str} {sp : Sp}
theorem fn_starK {p1 p2 pv : Str} (lk : K.lookup f = some ⟨oc, od, .func (PySem.W.fnOf name qual params body scope dV kV doc pm an cdv ct), osl⟩) (hcd : PySem.W.codeIn K cdv qual = true) (S : FnScope N [p1, p2, pv] scope) (hCX : CXUp CX)
    (hb : ∀ a b : Value, bindArgs (PySem.W.fnOf name qual params body scope dV kV doc pm an cdv ct) ⟨[a], [(p2, b)]⟩ = (newTuple [] >>= fun t => pure [(p1, a), (p2, b), (pv, t)]))
    (hbody : ∀ (A : Around) (outer : List Env) (s : Shared) (H : Hp) (vs : List V) (Q : VK) (E : XK), Room k (A.deeper (envOfC qual scope s.heap.objs.size f cdv)) → sp vs H Q E →
      ∃ t, PSs (cxOf CX P w K mg base N qual scope f cdv A outer s H E) body t ∧ t { nx := fun _ H' => Q .non H', rt := Q } (start N vs) H) :
    FnRK P w K mg base CX (k + 1) f [p2] (fun vs zs H Q E => ∃ a b, vs = [a] ∧ zs = [b] ∧ ∀ p, H p = Option.none → sp [a, b, V.ref p] (upd H p (.tup [])) Q E) := by
  intro A outer s H us ws vs zs Q E hr e0 r rz hsp
  obtain ⟨a, b, rfl, rfl, hq⟩ := hsp
  match us, ws, r, rz with
  | [ua], [ub], .cons ra .nil, .cons rb .nil =>
  have hn : H s.heap.objs.size = Option.none := e0.hok.fresh (Nat.le_refl _)
  refine run_bnd lk hcd S hr e0 (G := fun xs H2 => ∃ p, H p = Option.none ∧ xs = [a, b, V.ref p] ∧ H2 = upd H p (.tup [])) (fun A' Ex Q' h => ?_) fun s2 H2 xs ⟨p, hp, ex, eH⟩ hr' => ?_
  · rw [show ([p2].zip [ub]) = [(p2, ub)] from rfl, hb ua ub]
    refine wpAny_bind (wpAny_newTuple (wpAny_pure ?_) (Nat.zero_le _))
    have new : ObjOk P w (upd H s.heap.objs.size (.tup [])) (s.heap.push ({ cls := .type "tuple", data := .seq #[] } : Obj)) s.heap.objs.size (.tup []) := ⟨Nat.zero_le _, [], .nil, ⟨_, Heap.get?_push_size _ rfl, rfl, _, rfl⟩⟩
    have un := un_laid (fs := frs outer) (s := s) (o := ({ cls := .type "tuple", data := .seq #[] } : Obj)) (u := .tup []) hn
    exact h _ _ [a, b, V.ref s.heap.objs.size] [ua, ub, Value.ref s.heap.objs.size] (env0_laid e0 new) un rfl (fun e s' => hCX outer s H _ _ E e s' un (fun b o q => Heap.get?_push_of_some _ q) rfl) (.cons ra (.cons rb (.cons rfl .nil))) rfl ⟨_, hn, rfl, rfl⟩
  · subst ex eH
    exact hbody A outer s2 _ _ Q E hr' (hq p hp)
end
section
variable {X : Cx} {CX : CXT} {k : Nat} {f C : Addr} {ks : List Str} {spk : List V → List V → Hp → VK → XK → Prop} {E : XK} {x : Str} {p pos : Pos} {kws : List Keyword} {tk : TA}
def tMakeRK (C : Addr) (spk : List V → List V → Hp → VK → XK → Prop) (E : XK) (tk : TA) : TE := fun σ H Q => tk σ H fun zs H2 => ∀ x dx, H2 x = Option.none → H2 dx = Option.none → dx ≠ x →
  spk [V.ref x] zs (upd (upd H2 dx (.own x)) x (.ins C dx [])) (fun v H3 => v = .non ∧ Q (.ref x) H3) E
theorem pe_makeRK0 (M : Mk X.K C f) (F : FnRK X.prog X.w X.K X.mg X.base CX k f ks spk) (hr : Room (k + 1) X.A) (hg : Gl X x) (hm : X.mg x = some (.ref C)) (hx : Passes CX X E) (hkw : PK X kws tk)
    (hall : (backToKw pos (keywordEach kws X.env)).all (·.1.isSome) = true := by rfl) (hks : (backToKw pos (keywordEach kws X.env)).filterMap (·.1) = ks := by rfl) (hdb : (x == ("__debug__" : Str)) = false := by decide)
    (hpl : ((backTo pos (starEach [] X.env)).any (·.1) || (backToKw pos (keywordEach kws X.env)).any (·.1.isNone)) = false := by rfl) :
    PE X (.Call (.Name x p) [] kws pos) (tMakeRK C spk E tk) := by
  refine ⟨fun pins s σ H Q I h => ?_⟩
  refine wpAny_Call_Name_kw (ld_glob I hg hm ?_ hdb)
  refine PySem.W.callWith_KW0 (h₀ := X.base) I.ok.mod.kin M.kp hall ?_ hpl
  refine thn (hkw.run pos pins s σ H _ I h) fun ws s2 ⟨zs, H2, I2, rz, hq0⟩ => ⟨I2.kIn, ?_⟩
  rw [hks]
  have hq := hq0 (s2.heap.objs.size + 1) s2.heap.objs.size (I2.hok.fresh (Nat.le_succ _)) (I2.hok.fresh (Nat.le_refl _)) (Nat.ne_of_lt (Nat.lt_succ_self _))
  have I3 := Inv.made (C := C) I2
  refine wpAny_call (make_map (f := f) I2.kIn M.makes M.init (beq_iff_eq.mp M.fn) (codeAny_mono (F _ X.stack _ _ [Value.ref (s2.heap.objs.size + 1)] ws [V.ref (s2.heap.objs.size + 1)] zs _ E (hr.make C [] (ks.zip ws)) (I3.env0.make C [] (ks.zip ws)) (.cons (rel_ref _) .nil) rz hq) fun r s' hq' => ?_))
  cases r with
  | error e => exact hx pins σ _ _ e s' I3 hq'
  | ok fl =>
    cases fl with
    | ret u =>
      obtain ⟨v, H', I4, rv, ev, q3⟩ := I3.after hq'
      subst ev
      exact ⟨rv, ⟨V.ref (s2.heap.objs.size + 1), H', I4, rfl, q3⟩⟩
    | next => exact False.elim hq'
    | brk => exact False.elim hq'
    | cont => exact False.elim hq'
end
end Gs

set_option Elab.async false
set_option linter.all false
set_option maxRecDepth 100000
set_option maxHeartbeats 4000000
namespace K02
open PySem PySem.Spec PyProof.Rows L2 Gs
section
variable {P : Program} {w : World} {K : PySem.W.Frag} {mg : Str → Option Value} {base : Heap}
/-- Paper(word = z) -/
def spPapW (K : PySem.W.Frag) : List V → List V → Hp → VK → XK → Prop := fun vs zs H Q E => ∃ a b, vs = [a] ∧ zs = [b] ∧ ∀ p, H p = Option.none → spPap0 K 40 [a, b, V.ref p] (upd H p (.tup [])) Q E
theorem RK_Paper_at (T : Tx K mg) (n : Nat) : FnRK P w K mg base CX0 (n + 5) T.a_Paper___init__ ["word"] (fun vs zs H Q E => ∃ a b, vs = [a] ∧ zs = [b] ∧ ∀ p, H p = Option.none → spPap0 K n [a, b, V.ref p] (upd H p (.tup [])) Q E) := by
  obtain ⟨oc, od, kV, doc, pm, an, cdv, ct, osl, ed, lk, hcd⟩ := T.F_Paper___init__.ex
  rw [ed] at lk
  refine fn_starK (p1 := "self") (p2 := "word") (pv := "parts") (sp := spPap0 K n) (k := n + 4) lk hcd sc_Paper___init__ StX.cxUp_none (fun a b => rfl) (fun A outer s H vs Q E hr h => ?_)
  obtain ⟨x, C, dx, p, z, rest, R, rfl, hx, pc, hp, few, f, k⟩ := h
  refine ⟨_, PSs.nox ((pss_cons (ps_fld (pv 0) (pe_call (O_fixed T (n + 1)) (hr.mono (by omega)) (by rfl) T.m_fixed T.F_fixed.kp T.b_fixed .nil pass0 (pa_cons (pv 1) pa_nil)) rfl)
      (pss_one (ps_fld (pv 0) (pe_call (O_fixed T (n + 1)) (hr.mono (by omega)) (by rfl) T.m_fixed T.F_fixed.kp T.b_fixed .nil pass0 (pa_cons (pv 2) pa_nil)) rfl)))), ?_⟩
  refine ⟨_, rfl, .str z, _, rfl, .leaf (.str z), fun u H1 s1 e => ?_⟩
  have e : u = .str z := e
  subst e
  have h1x := s1 _ _ hx
  refine ⟨_, rfl, x, C, dx, _, rfl, h1x, pc.cl, pc.nw, Nat.le_of_ble_eq_true rfl, ?_⟩
  generalize eH : upd H1 x _ = H2
  have x2 : ExtX H H2 := by rw [← eH]; exact (ExtX.of s1).trans (.put h1x)
  have e2 : Ext x H H2 := by rw [← eH]; exact (Ext.of s1).trans Ext.bag
  have h2x : H2 x = some (.ins C dx [("word", .str z)]) := by rw [← eH]; exact upd_same
  clear eH
  obtain ⟨R2, f2⟩ : ∃ R2 : Nat → RV, ∀ (i : Nat) (y : V), rest[i]? = some y → Fx K H2 n y (R2 i) ∧ ∀ H' u, R2 i H' u → R i H' u := pick_rv fun i y hy => (f i y hy).up x2
  refine ⟨_, rfl, .ref p, _, rfl, .node (.inr (x2.sqT hp)) few (fun i y hy => (f2 i y hy).1), fun u H3 s3 e => ?_⟩
  obtain ⟨t, ys, rfl, n0, hT, hl, hy⟩ := e
  have h3x := s3 _ _ h2x
  refine ⟨_, rfl, x, C, dx, _, rfl, h3x, pc.cl, pc.np, Nat.le_of_ble_eq_true rfl, ?_⟩
  have tx : t ≠ x := fun q => by rw [q, h3x] at hT; cases hT
  refine k _ t ys (e2.trans ((Ext.of s3).trans Ext.bag)) upd_same (x2.free n0) (by rw [upd_ne tx]; exact hT) hl fun i y hi => ?_
  have hi2 : i < rest.length := by rw [← hl]; exact (List.getElem?_eq_some_iff.mp hi).1
  have hr0 := List.getElem?_eq_getElem hi2
  exact (f2 i _ hr0).2 _ _ ((f2 i _ hr0).1.mono _ _ _ (.of (.put h3x)) (hy i y hi))
theorem RK_Paper___init__ (T : Tx K mg) : FnRK P w K mg base CX0 45 T.a_Paper___init__ ["word"] (spPapW K) := RK_Paper_at T 40
theorem dtupD {c : Addr} {H : Hp} {t1 t2 : Addr} {y1 y2 : List V} {ds1 ds2 : List PyData} {b : Bool} (h1 : H t1 = some (.tup y1)) (h2 : H t2 = some (.tup y2)) (d1 : DVs K c H y1 ds1) (d2 : DVs K c H y2 ds2) (c1 : PyData.canLayAll0 ds1 = true) (c2 : PyData.canLayAll0 ds2 = true) (p1 : PyData.depthAll ds1 ≤ 60) (p2 : PyData.depthAll ds2 ≤ 60)
    (hb : b = (allTo (fun i => match ds1[i]?, ds2[i]? with | some d, some e => PyData.eqv d e | _, _ => true) (min ds1.length ds2.length) && decide (ds1.length = ds2.length))) : DTupW K (DMix K) (.ref t1) (.ref t2) b H := by
  have at_ : ∀ (ds : List PyData) (ys : List V), DVs K c H ys ds → PyData.canLayAll0 ds = true → PyData.depthAll ds ≤ 60 → ∀ (i : Nat) (y : V), ys[i]? = some y → ∃ d, ds[i]? = some d ∧ Dp K H y d ∧ SeqAt.shaped d = true := by
    intro ds
    induction ds with
    | nil => intro ys h _ _ i y hy; cases h; simp at hy
    | cons d ds ih =>
      intro ys h hc hp i y hy
      cases h with
      | cons a b =>
        obtain ⟨k1, k2⟩ := Bool.and_eq_true_iff.mp (show (d.canLay0 && PyData.canLayAll0 ds) = true from hc)
        simp only [PyData.depthAll] at hp
        match i, hy with
        | 0, hy =>
          simp at hy; subst hy
          refine ⟨d, rfl, a.dp _ _ k1, ?_⟩
          unfold SeqAt.shaped
          rw [k1, Bool.true_and, decide_eq_true_eq]; omega
        | i + 1, hy => exact ih _ b k2 (by omega) i y (by simpa using hy)
  refine ⟨t1, t2, y1, y2, _, rfl, rfl, .of h1, .of h2, fun i x y hx hy => ?_, by rw [hb, d1.len, d2.len]⟩
  obtain ⟨d, e1, q1, s1⟩ := at_ _ _ d1 c1 p1 i x hx
  obtain ⟨e, e2, q2, s2⟩ := at_ _ _ d2 c2 p2 i y hy
  refine .inl ⟨d, e, q1, q2, s1, s2, ?_⟩
  simp only [e1, e2]
theorem mk_ds {cP C : Addr} {nm : Str} (pc : PCl K cP C nm) {c : Addr} {H : Hp} {rest : List V} {ds : List PyData} {x dx : Addr} {z : Str} {W : Hp → Prop} {E : XK} (hc : H c ≠ none) (hd : DVs K c H rest ds) (sl : slimDs ds = true) (dp : deepDs ds ≤ 40) (few : rest.length ≤ 1000) (hx : H x = none) (hdx : H dx = none) (ne : dx ≠ x)
    (k : ∀ H' t ys, Same H H' → PaAt K cP H' x C nm z t [] → H t = none → H' t = some (.tup ys) → DVs K c H' ys (fixDs ds) → W H') :
    spPap K 40 (.ref x :: .str z :: rest) (upd (upd H dx (.own x)) x (.ins C dx [])) (fun v H2 => v = .non ∧ W H2) E := by
  obtain ⟨Rs, hR⟩ : ∃ Rs : Nat → RV, ∀ (i : Nat) (y : V), rest[i]? = some y → Fx K H 40 y (Rs i) ∧ ∀ d, ds[i]? = some d → ∀ H' u, ExtX H H' → Rs i H' u → DV K c H' u (fixD d) := pick_rv (P := fun i y R => Fx K H 40 y R ∧ ∀ d, ds[i]? = some d → ∀ H' u, ExtX H H' → R H' u → DV K c H' u (fixD d)) fun i y hy => by
    obtain ⟨d, hdi, _⟩ := hd.at hy
    obtain ⟨R, f, g⟩ := DVs.fx hc ds rest 40 hd sl dp i y d hy hdi
    exact ⟨R, f, fun d' h => by rw [hdi] at h; cases h; exact g⟩
  refine mk_pap pc few (fun j y hy => (hR j y hy).1) hx hdx ne fun H' t ys s hx' n0 hT hl hy => k H' t ys s ⟨pc, dx, hx'⟩ n0 hT ?_
  rw [fixDs_map]
  refine DVs.of_at (by rw [hl, List.length_map, hd.len]) fun i y hi d hdi => ?_
  rw [List.getElem?_map] at hdi
  obtain ⟨d0, h0, rfl⟩ := Option.map_eq_some_iff.mp hdi
  have hi2 : i < rest.length := by rw [← hl]; exact (List.getElem?_eq_some_iff.mp hi).1
  exact (hR i _ (List.getElem?_eq_getElem hi2)).2 d0 h0 H' y (ExtX.of s) (hy i y hi)
theorem mk_kw (T : Tx K mg) {c : Addr} {H : Hp} {x dx : Addr} {z : Str} {W : Hp → Prop} {E : XK} (hc : H c ≠ none) (hx : H x = none) (hdx : H dx = none) (ne : dx ≠ x)
    (k : ∀ H' t ys, Same H H' → PaAt K T.c_Paper H' x T.c_Paper "Paper" z t [] → H t = none → H' t = some (.tup ys) → DVs K c H' ys (fixDs []) → W H') :
    spPapW K [.ref x] [.str z] (upd (upd H dx (.own x)) x (.ins T.c_Paper dx [])) (fun v H2 => v = .non ∧ W H2) E := by
  have st := made_same (C := T.c_Paper) hx hdx ne
  refine ⟨.ref x, .str z, rfl, rfl, fun p hp => ?_⟩
  have sp : Same (upd (upd H dx (.own x)) x (.ins T.c_Paper dx [])) (upd (upd (upd H dx (.own x)) x (.ins T.c_Paper dx [])) p (.tup [])) := same_new hp
  refine ⟨x, T.c_Paper, dx, p, z, [], fun _ _ _ => True, rfl, sp _ _ upd_same, ⟨T.cl_Paper, T.nF_Paper_word, T.nF_Paper_parts⟩, .of upd_same, by decide, fun j y hy => by simp at hy, fun H' t ys e hx' n0 hT hl hy => ⟨rfl, ?_⟩⟩
  have sH : Same H H' := fun b o h => e b o (ne_of_none h hx) (sp _ _ (st b o h))
  refine k H' t ys sH ⟨pc_Paper T, dx, hx'⟩ (st.free (sp.free n0)) hT ?_
  rw [List.length_eq_zero_iff.mp hl]; exact .nil
theorem mk_un (T : Tx K mg) {c : Addr} {H : Hp} {v : V} {d : PyData} {x dx : Addr} {W : Hp → Prop} {E : XK} (hc : H c ≠ none) (hd : DV K c H v d) (sl : slimD d = true) (dp : deepD d ≤ 40) (hx : H x = none) (hdx : H dx = none) (ne : dx ≠ x)
    (k : ∀ H' t ys, Same H H' → (∃ fs, PaAt K T.c_Paper H' x T.c_Unlike "Unlike" "unlike" t fs) → H t = none → H' t = some (.tup ys) → DVs K c H' ys (fixDs [d]) → W H') :
    spOneP K T.c_Unlike "unlike" "part" 40 [.ref x, v] (upd (upd H dx (.own x)) x (.ins T.c_Unlike dx [])) (fun v H2 => v = .non ∧ W H2) E := by
  obtain ⟨R, f, g⟩ := DV.fx hc d v 40 hd sl dp
  refine md_one T (i := 1) (by decide) f hx hdx ne fun H' s m => ?_
  obtain ⟨t, us, pa, nt, ht, hl, hu⟩ := m
  match us, hl, pa, ht, hu with
  | [u], _, pa, ht, hu => exact k H' t [u] s ⟨_, pa⟩ nt ht (.cons (g _ _ (ExtX.of s) (hu u (List.mem_singleton.mpr rfl))) .nil)
theorem mk_al (T : Tx K mg) {c : Addr} {H : Hp} {x dx : Addr} {W : Hp → Prop} {E : XK} (hx : H x = none) (hdx : H dx = none) (ne : dx ≠ x)
    (k : ∀ H' t ys, Same H H' → (∃ fs, PaAt K T.c_Paper H' x T.c_Alike "Alike" "alike" t fs) → H t = none → H' t = some (.tup ys) → DVs K c H' ys (fixDs []) → W H') :
    spNoP T.c_Alike "alike" [.ref x] (upd (upd H dx (.own x)) x (.ins T.c_Alike dx [])) (fun v H2 => v = .non ∧ W H2) E := by
  refine md_zero T (R := fun _ _ => True) hx hdx ne fun H' s m => ?_
  obtain ⟨t, us, pa, nt, ht, hl, hu⟩ := m
  match us, hl, pa, ht with
  | [], _, pa, ht => exact k H' t [] s ⟨_, pa⟩ nt ht .nil
def spLaw (K : PySem.W.Frag) : Sp := fun vs H Q _ => ∃ (a : Addr) (ns : List Int), vs = [.ref a] ∧ SqL K H a (ns.map V.int) ∧ ns.length ≤ 63 ∧ ∀ H', Q (.bl true) H'
theorem G_law (T : Tx K mg) : FnG P w K mg base CX0 90 T.a_law T.d_law ["script"] (spLaw K) := by
  refine fun_okG T.F_law sc_law (fun vs H Q E h => ?_) (fun cdv A outer s H vs Q E hr hg h => ?_)
  · obtain ⟨a, ns, rfl, _⟩ := h; rfl
  obtain ⟨a, ns, rfl, hS, hlen, k⟩ := h
  refine ⟨_, (pss_cons (ps_set (i := 1) sc_law.nd rfl (Or.inl rfl) (pe_call (O__law_tray T) (hr.mono (by decide)) (by rfl) T.m__law_tray T.F__law_tray.kp T.b__law_tray .nil pass0 (pa_cons (pv 0) pa_nil)))
      (pss_cons (ps_for PassesOwn.never rfl (pi_range1 (by rfl) T.z_range (pa_cons pe_int pa_nil)) (pg_name (i := 2) sc_law.nd rfl (Or.inl rfl)) (pss_one (ps_if (pt_not (pt_val (pg_call (G__law_paper_right T) (hr.mono (by decide)) hg (by rfl) T.m__law_paper_right T.F__law_paper_right.kp T.b__law_paper_right .nil pass0 (pa_cons (pv 1) (pa_cons (pv 2) pa_nil))))) (pss_one (ps_ret pe_bl)) pss_nil)))
      (pss_cons (ps_set (i := 3) sc_law.nd rfl (Or.inl rfl) (StX.pe_makeR T.mk_Paper (R_Paper___init__ T 40) (hr.mono (by decide)) (by rfl) T.m_Paper pass0 (pa_cons pe_str (pa_cons (pe_lst (pa_cons pe_int (pa_cons (pe_lst (pa_cons pe_int pa_nil)) pa_nil))) (pa_cons (pe_call (O__law_value T) (hr.mono (by decide)) (by rfl) T.m__law_value T.F__law_value.kp T.b__law_value .nil pass0 (pa_cons (pv 1) pa_nil)) pa_nil)))))
      (pss_cons (ps_if (PW.pt (pw_or (pt_cmpR (op_neOwn T.oc_Paper (O_Paper___eq__ T) (hr.mono (by decide)) T.b_Paper___eq__ pass0) (StX.pe_makeR T.mk_Paper (R_Paper___init__ T 40) (hr.mono (by decide)) (by rfl) T.m_Paper pass0 (pa_cons pe_str (pa_cons pe_int pa_nil))) (StX.pe_makeR T.mk_Paper (R_Paper___init__ T 40) (hr.mono (by decide)) (by rfl) T.m_Paper pass0 (pa_cons pe_str (pa_cons pe_int pa_nil))) (nomark _)) (pw_or (pt_cmpR (op_eqOwn T.oc_Paper (O_Paper___eq__ T) (hr.mono (by decide)) T.b_Paper___eq__ pass0) (StX.pe_makeR T.mk_Paper (R_Paper___init__ T 40) (hr.mono (by decide)) (by rfl) T.m_Paper pass0 (pa_cons pe_str (pa_cons pe_int pa_nil))) (StX.pe_makeR T.mk_Paper (R_Paper___init__ T 40) (hr.mono (by decide)) (by rfl) T.m_Paper pass0 (pa_cons pe_str (pa_cons pe_int pa_nil))) (nomark _)) (pw_or1 (pt_cmpR (op_neOwn T.oc_Denial (O_Denial___eq__ T) (hr.mono (by decide)) T.b_Denial___eq__ pass0) (StX.pe_makeR T.mk_Denial (R_Denial___init__ T 40) (hr.mono (by decide)) (by rfl) T.m_Denial pass0 (pa_cons pe_str (pa_cons (pe_lst (pa_cons pe_int pa_nil)) pa_nil))) (StX.pe_makeR T.mk_Denial (R_Denial___init__ T 40) (hr.mono (by decide)) (by rfl) T.m_Denial pass0 (pa_cons pe_str (pa_cons (pe_tup (pa_cons pe_int pa_nil)) pa_nil))) (nomark _)))))) (pss_one (ps_ret pe_bl)) pss_nil)
      (pss_cons (ps_if (PW.pt (pw_or (pt_cmpR (op_eqOwn T.oc_Denial (O_Denial___eq__ T) (hr.mono (by decide)) T.b_Denial___eq__ pass0) (StX.pe_makeR T.mk_Denial (R_Denial___init__ T 40) (hr.mono (by decide)) (by rfl) T.m_Denial pass0 (pa_cons pe_str (pa_cons pe_int pa_nil))) (StX.pe_makeR T.mk_Denial (R_Denial___init__ T 40) (hr.mono (by decide)) (by rfl) T.m_Denial pass0 (pa_cons pe_str (pa_cons pe_int pa_nil))) (nomark _)) (pw_or (pt_cmpR (op_eqOwnR T.oc_Denial (T.su (T.c_Denial, T.c_Paper) (by simp)).1 (T.su (T.c_Denial, T.c_Paper) (by simp)).2 (O_Denial___eq__ T) (hr.mono (by decide)) T.b_Denial___eq__ pass0) (StX.pe_makeR T.mk_Paper (R_Paper___init__ T 40) (hr.mono (by decide)) (by rfl) T.m_Paper pass0 (pa_cons pe_str (pa_cons pe_int pa_nil))) (StX.pe_makeR T.mk_Denial (R_Denial___init__ T 40) (hr.mono (by decide)) (by rfl) T.m_Denial pass0 (pa_cons pe_str (pa_cons pe_int pa_nil))) (nomark _)) (pw_or (pt_cmpR (op_neOwn T.oc_Unlike (O_Denial___eq__ T) (hr.mono (by decide)) T.b_Denial___eq__ pass0) (pe_make T.mk_Unlike (O_Unlike___init__ T 40) (hr.mono (by decide)) (by rfl) T.m_Unlike T.b_Unlike___init__ .nil pass0 (pa_cons (pe_lst (pa_cons pe_int pa_nil)) pa_nil)) (pe_make T.mk_Unlike (O_Unlike___init__ T 40) (hr.mono (by decide)) (by rfl) T.m_Unlike T.b_Unlike___init__ .nil pass0 (pa_cons (pe_tup (pa_cons pe_bl pa_nil)) pa_nil)) (nomark _)) (pw_or1 (pt_cmpR (op_neOwn T.oc_Alike (O_Paper___eq__ T) (hr.mono (by decide)) T.b_Paper___eq__ pass0) (pe_make0 T.mk_Alike (O_Alike___init__ T 40) (hr.mono (by decide)) (by rfl) T.m_Alike T.b_Alike___init__ .nil pass0) (pe_make0 T.mk_Alike (O_Alike___init__ T 40) (hr.mono (by decide)) (by rfl) T.m_Alike T.b_Alike___init__ .nil pass0) (nomark _))))))) (pss_one (ps_ret pe_bl)) pss_nil)
      (pss_cons (ps_if (PW.pt (pw_or (pt_not (pt_val (pg_call (G__law_deep_right T) (hr.mono (by decide)) hg (by rfl) T.m__law_deep_right T.F__law_deep_right.kp T.b__law_deep_right .nil pass0 (pa_cons (pv 1) pa_nil)))) (pw_or (pt_cmpR (op_eqOwn T.oc_Paper (O_Paper___eq__ T) (hr.mono (by decide)) T.b_Paper___eq__ pass0) (StX.pe_makeR T.mk_Paper (R_Paper___init__ T 40) (hr.mono (by decide)) (by rfl) T.m_Paper pass0 (pa_cons pe_str (pa_cons pe_int (pa_cons pe_int pa_nil)))) (StX.pe_makeR T.mk_Paper (R_Paper___init__ T 40) (hr.mono (by decide)) (by rfl) T.m_Paper pass0 (pa_cons pe_str (pa_cons pe_int pa_nil))) (nomark _)) (pw_or1 (pt_cmpR (op_neOwn T.oc_Paper (O_Paper___eq__ T) (hr.mono (by decide)) T.b_Paper___eq__ pass0) (pe_makeRK0 T.mk_Paper (RK_Paper___init__ T) (hr.mono (by decide)) (by rfl) T.m_Paper pass0 (pk_cons pe_str pk_nil)) (StX.pe_makeR T.mk_Paper (R_Paper___init__ T 40) (hr.mono (by decide)) (by rfl) T.m_Paper pass0 (pa_cons pe_str pa_nil)) (nomark _)))))) (pss_one (ps_ret pe_bl)) pss_nil)
      (pss_one (ps_ret (pe_and (pe_cmpR op_eq (pe_fldK (K := K) rfl (pv 3)) pe_str (nomark _)) (pe_and (pe_cmpR (op_eqD hr.units) (pe_ix ix_tup (pe_fldK (K := K) rfl (pv 3)) pe_int (fun _ _ => rfl)) (pe_tup (pa_cons pe_int (pa_cons (pe_tup (pa_cons pe_int pa_nil)) pa_nil))) (nomark _)) (pe_and (pe_callTy (call_boolO T.ob_Paper (O_Paper___bool__ T) (hr.mono (by decide)) T.b_Paper___bool__ pass0) (by rfl) T.z_bool (by decide +kernel) (pa_cons (pv 3) pa_nil)) (pe_and (pe_not (pe_callTy (call_boolO T.ob_Denial (O_Denial___bool__ T) (hr.mono (by decide)) T.b_Denial___bool__ pass0) (by rfl) T.z_bool (by decide +kernel) (pa_cons (StX.pe_makeR T.mk_Denial (R_Denial___init__ T 40) (hr.mono (by decide)) (by rfl) T.m_Denial pass0 (pa_cons pe_str pa_nil)) pa_nil))) (pe_one (pe_cmpR (op_eqD hr.units) (pe_fldK (K := K) rfl (StX.pe_makeR T.mk_Denial (R_Denial___init__ T 40) (hr.mono (by decide)) (by rfl) T.m_Denial pass0 (pa_cons pe_str pa_nil))) (pe_tup pa_nil) (nomark _))))))))))))))), ?_⟩
  refine ⟨_, rfl, a, ns, rfl, hS, hlen, fun c l H1 hc hl x1 b1 => ?_⟩
  dsimp only [gName]
  refine ⟨_, rfl, by decide, by decide, ?_⟩
  refine for_it (walk_range (lo := 0) (n := 5)) (fun j σ H' => (∃ t2 : Option V, σ = [some (.ref a), some (.ref c), t2, none]) ∧ Bag c l (5 * j) H') ⟨⟨_, rfl⟩, b1⟩ (fun _ _ _ _ _ => trivial) ?_ ?_
  · rintro j x σ H2 H2' hj ⟨⟨t2, rfl⟩, b2⟩ ⟨rfl, rfl⟩
    dsimp only [gName]
    rw [Int.zero_add]
    refine ⟨_, rfl, _, rfl, c, l, 5 * j, j, rfl, b2, by omega, hj, fun H3 x3 b3 => ⟨_, rfl, iteF ⟨⟨_, rfl⟩, b3.mono (by omega)⟩⟩⟩
  rintro σ H2 ⟨⟨t2, rfl⟩, b2⟩
  dsimp only
  clear b1 x1 hc hl hS
  have hcc : ∀ {H' : Hp} {m : Nat}, Bag c l m H' → H' c ≠ none := fun b => by
    obtain ⟨ns, pt, rest, h, _⟩ := b
    rw [h]; exact fun z => nomatch z
  -- note
  refine ⟨szl rfl, fun q1 hq1 => ?_⟩
  have e1 : upd H2 q1 (.lst [.int 2]) q1 = some (.lst [.int 2]) := upd_same
  have m1 := b2.ne hq1
  have b3 := b2.new hq1 (o := .lst [.int 2])
  generalize upd H2 q1 _ = H3 at e1 b3 ⊢
  refine ⟨szl rfl, fun q2 hq2 => ?_⟩
  have e2 : upd H3 q2 (.lst [.int 1, .ref q1]) q2 = some (.lst [.int 1, .ref q1]) := upd_same
  have m2 := b3.ne hq2
  have s3 : Same H3 (upd H3 q2 (.lst [.int 1, .ref q1])) := same_new hq2
  have b4 := b3.new hq2 (o := .lst [.int 1, .ref q1])
  generalize upd H3 q2 _ = H4 at e2 b4 s3 ⊢
  have e14 := s3 _ _ e1
  refine ⟨_, rfl, c, l, 5 * 5, rfl, b4, by decide, fun v d z H5 hd hz hm _ b5 x5 => ?_⟩
  obtain ⟨f0, sl0, dp0, _⟩ := val_facts hz hm
  have hd2 : DV K c H5 (.ref q2) (.list [.int 1, .list [.int 2]]) := .lst m2 (.of (x5 _ _ m2 e2)) (.cons (.int 1) (.cons (.lst m1 (.of (x5 _ _ m1 e14)) (.cons (.int 2) .nil)) .nil))
  intro xn dn an bn cn
  refine mk_ds (pc_Paper T) (hcc b5) (rest := [.ref q2, v]) (ds := [.list [.int 1, .list [.int 2]], d]) (.cons hd2 (.cons hd .nil)) (by simp [slimDs, slimD, sl0]) (by simp [deepDs, deepD]; omega) (by simp) an bn cn fun H0 tn yn sn pn nn hn dvn => ?_
  dsimp only [gName]
  have b0 := b5.same sn
  clear hd2 hd x5 b5 b4 b3 b2 e1 e2 e14 s3
  have hk : ∀ {H' : Hp}, Same H0 H' → H' c ≠ none := fun {H'} s z => by
    cases h : H0 c with
    | none => exact hcc b0 h
    | some o => rw [s _ _ h] at z; cases z
  intro x2 e2 a2 b2 c2
  refine mk_ds (pc_Paper T) (hk (Same.refl _)) (rest := [.int 1]) (ds := [.int 1]) (.cons (.int 1) .nil) (by simp [slimDs, slimD]) (by simp [deepDs, deepD]) (by simp) a2 b2 c2 fun H2 t2 y2 s2 p2 n2 h2 d2 => ?_
  intro x4 e4 a4 b4 c4
  refine mk_ds (pc_Paper T) (hk s2) (rest := [.int 1]) (ds := [.int 1]) (.cons (.int 1) .nil) (by simp [slimDs, slimD]) (by simp [deepDs, deepD]) (by simp) a4 b4 c4 fun H4 t4 y4 s4 p4 n4 h4 d4 => ?_
  refine ⟨x2, _, _, .ref T.c_Paper, rfl, (p2.same s4).2.choose_spec, p4.1.ty.ty p4.2.choose_spec, nf_own, ?_⟩
  refine same_eq (r := true) (p2.same s4) p4 (dtupD (s4 _ _ h2) h4 (d2.up (.of s4)) d4 (by simp [fixDs, fixD, PyData.canLay0, PyData.canLayAll0, PyData.strOk]) (by simp [fixDs, fixD, PyData.canLay0, PyData.canLayAll0, PyData.strOk]) (by simp [fixDs, fixD, PyData.depth, PyData.depthAll]) (by simp [fixDs, fixD, PyData.depth, PyData.depthAll]) (by decide)) fun H5 s5 => ?_
  refine ⟨_, rfl, _, rfl, iteF ?_⟩
  intro x7 e7 a7 b7 c7
  refine mk_ds (pc_Paper T) (hk ((s2.trans s4).trans s5)) (rest := [.int 1]) (ds := [.int 1]) (.cons (.int 1) .nil) (by simp [slimDs, slimD]) (by simp [deepDs, deepD]) (by simp) a7 b7 c7 fun H7 t7 y7 s7 p7 n7 h7 d7 => ?_
  intro x9 e9 a9 b9 c9
  refine mk_ds (pc_Paper T) (hk (((s2.trans s4).trans s5).trans s7)) (rest := [.int 1]) (ds := [.int 1]) (.cons (.int 1) .nil) (by simp [slimDs, slimD]) (by simp [deepDs, deepD]) (by simp) a9 b9 c9 fun H9 t9 y9 s9 p9 n9 h9 d9 => ?_
  refine ⟨x7, _, _, .ref T.c_Paper, rfl, (p7.same s9).2.choose_spec, p9.1.ty.ty p9.2.choose_spec, nf_own, ?_⟩
  refine same_ne (p7.same s9) p9 (.inr (by decide +kernel)) fun H10 s10 => ?_
  refine ⟨_, rfl, iteF ?_⟩
  refine ⟨szl rfl, fun q11 hq11 => ?_⟩
  have sq11 : Same H10 (upd H10 q11 (.lst [.int 1])) := same_new hq11
  have eq11 : upd H10 q11 (.lst [.int 1]) q11 = some (.lst [.int 1]) := upd_same
  have nq11 : q11 ≠ c := fun z => hk (((((s2.trans s4).trans s5).trans s7).trans s9).trans s10) (z ▸ hq11)
  generalize upd H10 q11 _ = J11 at sq11 eq11 ⊢
  intro x12 e12 a12 b12 c12
  refine mk_ds (pc_Denial T) (hk ((((((s2.trans s4).trans s5).trans s7).trans s9).trans s10).trans sq11)) (rest := [.ref q11]) (ds := [.list [.int 1]]) (.cons (.lst nq11 (.of eq11) (.cons (.int 1) .nil)) .nil) (by simp [slimDs, slimD]) (by simp [deepDs, deepD]) (by simp) a12 b12 c12 fun H12 t12 y12 s12 p12 n12 h12 d12 => ?_
  refine ⟨szl rfl, fun q13 hq13 => ?_⟩
  have sq13 : Same H12 (upd H12 q13 (.tup [.int 1])) := same_new hq13
  have eq13 : upd H12 q13 (.tup [.int 1]) q13 = some (.tup [.int 1]) := upd_same
  have nq13 : q13 ≠ c := fun z => hk (((((((s2.trans s4).trans s5).trans s7).trans s9).trans s10).trans sq11).trans s12) (z ▸ hq13)
  generalize upd H12 q13 _ = J13 at sq13 eq13 ⊢
  intro x14 e14 a14 b14 c14
  refine mk_ds (pc_Denial T) (hk ((((((((s2.trans s4).trans s5).trans s7).trans s9).trans s10).trans sq11).trans s12).trans sq13)) (rest := [.ref q13]) (ds := [.tuple [.int 1]]) (.cons (.tup nq13 (.of eq13) (.cons (.int 1) .nil)) .nil) (by simp [slimDs, slimD]) (by simp [deepDs, deepD]) (by simp) a14 b14 c14 fun H14 t14 y14 s14 p14 n14 h14 d14 => ?_
  refine ⟨x12, _, _, .ref T.c_Denial, rfl, (p12.same (sq13.trans s14)).2.choose_spec, p14.1.ty.ty p14.2.choose_spec, nf_own, ?_⟩
  refine same_eq (r := true) (p12.same (sq13.trans s14)) p14 (dtupD ((sq13.trans s14) _ _ h12) h14 (d12.up (.of (sq13.trans s14))) d14 (by simp [fixDs, fixD, PyData.canLay0, PyData.canLayAll0, PyData.strOk]) (by simp [fixDs, fixD, PyData.canLay0, PyData.canLayAll0, PyData.strOk]) (by simp [fixDs, fixD, PyData.depth, PyData.depthAll]) (by simp [fixDs, fixD, PyData.depth, PyData.depthAll]) (by decide)) fun H15 s15 => ?_
  refine ⟨_, rfl, _, rfl, iteF ?_⟩
  intro x17 e17 a17 b17 c17
  refine mk_ds (pc_Denial T) (hk ((((((((((s2.trans s4).trans s5).trans s7).trans s9).trans s10).trans sq11).trans s12).trans sq13).trans s14).trans s15)) (rest := [.int 1]) (ds := [.int 1]) (.cons (.int 1) .nil) (by simp [slimDs, slimD]) (by simp [deepDs, deepD]) (by simp) a17 b17 c17 fun H17 t17 y17 s17 p17 n17 h17 d17 => ?_
  intro x19 e19 a19 b19 c19
  refine mk_ds (pc_Denial T) (hk (((((((((((s2.trans s4).trans s5).trans s7).trans s9).trans s10).trans sq11).trans s12).trans sq13).trans s14).trans s15).trans s17)) (rest := [.int 1]) (ds := [.int 1]) (.cons (.int 1) .nil) (by simp [slimDs, slimD]) (by simp [deepDs, deepD]) (by simp) a19 b19 c19 fun H19 t19 y19 s19 p19 n19 h19 d19 => ?_
  refine ⟨x17, _, _, .ref T.c_Denial, rfl, (p17.same s19).2.choose_spec, p19.1.ty.ty p19.2.choose_spec, nf_own, ?_⟩
  refine same_ne (p17.same s19) p19 (.inr (by decide +kernel)) fun H20 s20 => ?_
  refine ⟨_, rfl, iteF ?_⟩
  intro x22 e22 a22 b22 c22
  refine mk_ds (pc_Paper T) (hk (((((((((((((s2.trans s4).trans s5).trans s7).trans s9).trans s10).trans sq11).trans s12).trans sq13).trans s14).trans s15).trans s17).trans s19).trans s20)) (rest := [.int 1]) (ds := [.int 1]) (.cons (.int 1) .nil) (by simp [slimDs, slimD]) (by simp [deepDs, deepD]) (by simp) a22 b22 c22 fun H22 t22 y22 s22 p22 n22 h22 d22 => ?_
  intro x24 e24 a24 b24 c24
  refine mk_ds (pc_Denial T) (hk ((((((((((((((s2.trans s4).trans s5).trans s7).trans s9).trans s10).trans sq11).trans s12).trans sq13).trans s14).trans s15).trans s17).trans s19).trans s20).trans s22)) (rest := [.int 1]) (ds := [.int 1]) (.cons (.int 1) .nil) (by simp [slimDs, slimD]) (by simp [deepDs, deepD]) (by simp) a24 b24 c24 fun H24 t24 y24 s24 p24 n24 h24 d24 => ?_
  refine ⟨x22, _, x24, _, _, _, rfl, (p22.same s24).2.choose_spec, rfl, p24.2.choose_spec, ?_⟩
  refine same_ne p24 (p22.same s24) (.inl (by decide +kernel)) fun H25 s25 => ?_
  refine ⟨_, rfl, _, rfl, iteF ?_⟩
  refine ⟨szl rfl, fun q26 hq26 => ?_⟩
  have sq26 : Same H25 (upd H25 q26 (.lst [.int 1])) := same_new hq26
  have eq26 : upd H25 q26 (.lst [.int 1]) q26 = some (.lst [.int 1]) := upd_same
  have nq26 : q26 ≠ c := fun z => hk ((((((((((((((((s2.trans s4).trans s5).trans s7).trans s9).trans s10).trans sq11).trans s12).trans sq13).trans s14).trans s15).trans s17).trans s19).trans s20).trans s22).trans s24).trans s25) (z ▸ hq26)
  generalize upd H25 q26 _ = J26 at sq26 eq26 ⊢
  intro x27 e27 a27 b27 c27
  refine mk_un T (hk (((((((((((((((((s2.trans s4).trans s5).trans s7).trans s9).trans s10).trans sq11).trans s12).trans sq13).trans s14).trans s15).trans s17).trans s19).trans s20).trans s22).trans s24).trans s25).trans sq26)) (v := .ref q26) (d := .list [.int 1]) (.lst nq26 (.of eq26) (.cons (.int 1) .nil)) (by simp [slimD, slimDs]) (by simp [deepDs, deepD]) a27 b27 c27 fun H27 t27 y27 s27 p27 n27 h27 d27 => ?_
  obtain ⟨_, p27⟩ := p27
  refine ⟨szl rfl, fun q28 hq28 => ?_⟩
  have sq28 : Same H27 (upd H27 q28 (.tup [.bl true])) := same_new hq28
  have eq28 : upd H27 q28 (.tup [.bl true]) q28 = some (.tup [.bl true]) := upd_same
  have nq28 : q28 ≠ c := fun z => hk ((((((((((((((((((s2.trans s4).trans s5).trans s7).trans s9).trans s10).trans sq11).trans s12).trans sq13).trans s14).trans s15).trans s17).trans s19).trans s20).trans s22).trans s24).trans s25).trans sq26).trans s27) (z ▸ hq28)
  generalize upd H27 q28 _ = J28 at sq28 eq28 ⊢
  intro x29 e29 a29 b29 c29
  refine mk_un T (hk (((((((((((((((((((s2.trans s4).trans s5).trans s7).trans s9).trans s10).trans sq11).trans s12).trans sq13).trans s14).trans s15).trans s17).trans s19).trans s20).trans s22).trans s24).trans s25).trans sq26).trans s27).trans sq28)) (v := .ref q28) (d := .tuple [.bool true]) (.tup nq28 (.of eq28) (.cons (.bl true) .nil)) (by simp [slimD, slimDs]) (by simp [deepDs, deepD]) a29 b29 c29 fun H29 t29 y29 s29 p29 n29 h29 d29 => ?_
  obtain ⟨_, p29⟩ := p29
  refine ⟨x27, _, _, .ref T.c_Unlike, rfl, (p27.same (sq28.trans s29)).2.choose_spec, p29.1.ty.ty p29.2.choose_spec, nf_own, ?_⟩
  refine same_eq (r := true) (p27.same (sq28.trans s29)) p29 (dtupD ((sq28.trans s29) _ _ h27) h29 (d27.up (.of (sq28.trans s29))) d29 (by simp [fixDs, fixD, PyData.canLay0, PyData.canLayAll0, PyData.strOk]) (by simp [fixDs, fixD, PyData.canLay0, PyData.canLayAll0, PyData.strOk]) (by simp [fixDs, fixD, PyData.depth, PyData.depthAll]) (by simp [fixDs, fixD, PyData.depth, PyData.depthAll]) (by decide)) fun H30 s30 => ?_
  refine ⟨_, rfl, _, rfl, iteF ?_⟩
  intro x31 e31 a31 b31 c31
  refine mk_al T (c := c) a31 b31 c31 fun H31 t31 y31 s31 p31 n31 h31 d31 => ?_
  obtain ⟨_, p31⟩ := p31
  intro x32 e32 a32 b32 c32
  refine mk_al T (c := c) a32 b32 c32 fun H32 t32 y32 s32 p32 n32 h32 d32 => ?_
  obtain ⟨_, p32⟩ := p32
  refine ⟨x31, _, _, .ref T.c_Alike, rfl, (p31.same s32).2.choose_spec, p32.1.ty.ty p32.2.choose_spec, nf_own, ?_⟩
  refine same_eq (r := true) (p31.same s32) p32 (dtupD (s32 _ _ h31) h32 (d31.up (.of s32)) d32 (by simp [fixDs, fixD, PyData.canLay0, PyData.canLayAll0, PyData.strOk]) (by simp [fixDs, fixD, PyData.canLay0, PyData.canLayAll0, PyData.strOk]) (by simp [fixDs, fixD, PyData.depth, PyData.depthAll]) (by simp [fixDs, fixD, PyData.depth, PyData.depthAll]) (by decide)) fun H33 s33 => ?_
  refine ⟨_, rfl, _, rfl, iteF ?_⟩
  have sZ : Same H0 H33 := ((((((((((((((((((((((((s2.trans s4).trans s5).trans s7).trans s9).trans s10).trans sq11).trans s12).trans sq13).trans s14).trans s15).trans s17).trans s19).trans s20).trans s22).trans s24).trans s25).trans sq26).trans s27).trans sq28).trans s29).trans s30).trans s31).trans s32).trans s33)
  -- deep
  refine ⟨_, rfl, c, l, 30, rfl, (b0.same sZ).mono (by decide), by decide, fun HD xD bD => ⟨_, rfl, iteF ?_⟩⟩
  have hk : ∀ {H' : Hp}, Same HD H' → H' c ≠ none := fun {H'} s z => by
    cases h : HD c with
    | none => exact hcc bD h
    | some o => rw [s _ _ h] at z; cases z
  intro x36 e36 a36 b36 c36
  refine mk_ds (pc_Paper T) (hk (Same.refl _)) (rest := [.int 1, .int 2]) (ds := [.int 1, .int 2]) (.cons (.int 1) (.cons (.int 2) .nil)) (by simp [slimDs, slimD]) (by simp [deepDs, deepD]) (by simp) a36 b36 c36 fun H36 t36 y36 s36 p36 n36 h36 d36 => ?_
  intro x38 e38 a38 b38 c38
  refine mk_ds (pc_Paper T) (hk s36) (rest := [.int 1]) (ds := [.int 1]) (.cons (.int 1) .nil) (by simp [slimDs, slimD]) (by simp [deepDs, deepD]) (by simp) a38 b38 c38 fun H38 t38 y38 s38 p38 n38 h38 d38 => ?_
  refine ⟨x36, _, _, .ref T.c_Paper, rfl, (p36.same s38).2.choose_spec, p38.1.ty.ty p38.2.choose_spec, nf_own, ?_⟩
  refine same_eq (r := false) (p36.same s38) p38 (dtupD (s38 _ _ h36) h38 (d36.up (.of s38)) d38 (by simp [fixDs, fixD, PyData.canLay0, PyData.canLayAll0, PyData.strOk]) (by simp [fixDs, fixD, PyData.canLay0, PyData.canLayAll0, PyData.strOk]) (by simp [fixDs, fixD, PyData.depth, PyData.depthAll]) (by simp [fixDs, fixD, PyData.depth, PyData.depthAll]) (by decide)) fun H39 s39 => ?_
  refine ⟨_, rfl, iteF ?_⟩
  intro x40 e40 a40 b40 c40
  refine mk_kw T (hk ((s36.trans s38).trans s39)) a40 b40 c40 fun H40 t40 y40 s40 p40 n40 h40 d40 => ?_
  intro x41 e41 a41 b41 c41
  refine mk_ds (pc_Paper T) (hk (((s36.trans s38).trans s39).trans s40)) (rest := []) (ds := []) .nil (by simp [slimDs, slimD]) (by simp [deepDs, deepD]) (by simp) a41 b41 c41 fun H41 t41 y41 s41 p41 n41 h41 d41 => ?_
  refine ⟨x40, _, _, .ref T.c_Paper, rfl, (p40.same s41).2.choose_spec, p41.1.ty.ty p41.2.choose_spec, nf_own, ?_⟩
  refine same_eq (r := true) (p40.same s41) p41 (dtupD (s41 _ _ h40) h41 (d40.up (.of s41)) d41 (by simp [fixDs, fixD, PyData.canLay0, PyData.canLayAll0, PyData.strOk]) (by simp [fixDs, fixD, PyData.canLay0, PyData.canLayAll0, PyData.strOk]) (by simp [fixDs, fixD, PyData.depth, PyData.depthAll]) (by simp [fixDs, fixD, PyData.depth, PyData.depthAll]) (by decide)) fun H42 s42 => ?_
  refine ⟨_, rfl, _, rfl, iteF ?_⟩
  have sY : Same HD H42 := (((((s36.trans s38).trans s39).trans s40).trans s41).trans s42)
  have cn0 : ∃ xs, H0 c = some (.lst xs) := by
    obtain ⟨ns', pt, rest, h, _⟩ := b0
    exact ⟨_, h⟩
  obtain ⟨xs0, hc0⟩ := cn0
  have xA : Ext c H0 H42 := (Ext.of sZ).trans (xD.trans (.of sY))
  obtain ⟨pcn, dxn, hxn⟩ := pn
  have hx1 := xA _ _ (fun z => by rw [z, hc0] at hxn; cases hxn) hxn
  have ht1 := xA _ _ (fun z => by rw [z, hc0] at hn; cases hn) hn
  have dv1 := dvn.up xA
  have bE : ∀ {H'}, Same H42 H' → H' c ≠ none := fun s => hk (sY.trans s)
  cases dv1 with
  | @cons u us _ _ du dus =>
  have du' := du.dp _ _ (by simp [fixD, fixDs, PyData.canLay0, PyData.canLayAll0])
  dsimp only [tNext]
  generalize H42 = HH at hx1 ht1 du' bE ⊢
  refine ⟨_, rfl, xn, _, dxn, _, _, rfl, hx1, pcn.cl, pcn.nw, rfl, rfl, _, rfl, ?_⟩
  rw [d_self]
  refine iteT ?_
  refine ⟨_, rfl, xn, _, dxn, _, _, rfl, hx1, pcn.cl, pcn.np, rfl, tn, _, 0, u, rfl, rfl, .of ht1, atI_nat (j := 0) rfl, ?_⟩
  refine ⟨szl rfl, fun r1 hr1 => ⟨szl rfl, fun r2 hr2 => ?_⟩⟩
  have s1 : Same HH (upd HH r1 (.tup [.int 2])) := same_new hr1
  have g1 : upd HH r1 (.tup [.int 2]) r1 = some (.tup [.int 2]) := upd_same
  generalize upd HH r1 _ = G1 at s1 g1 hr2 ⊢
  have s2 : Same G1 (upd G1 r2 (.tup [.int 1, .ref r1])) := same_new hr2
  have g2 : upd G1 r2 (.tup [.int 1, .ref r1]) r2 = some (.tup [.int 1, .ref r1]) := upd_same
  generalize upd G1 r2 _ = G2 at s2 g2 ⊢
  have s12 := s1.trans s2
  refine ⟨_, .tuple [.int 1, .tuple [.int 2]], dp_same s12 _ _ du', .tup (.of g2) (.cons (.int 1) (.cons (.tup (.of (s2 _ _ g1)) (.cons (.int 2) .nil)) .nil)), by decide +kernel, by decide +kernel, _, rfl, ?_⟩
  rw [show PyData.eqv (fixD (.list [.int 1, .list [.int 2]])) (.tuple [.int 1, .tuple [.int 2]]) = true by decide +kernel]
  refine iteT ?_
  refine ⟨_, rfl, xn, dxn, _, rfl, s12 _ _ hx1, _, rfl, _, rfl, _, rfl, iteT ?_⟩
  intro x1 e1 a1 b1 c1
  refine mk_ds (c := c) (pc_Denial T) (bE s12) (rest := []) (ds := []) .nil rfl (by decide) (by decide) a1 b1 c1 fun H1 t1 y1 s3 p1 n1 h1 d1 => ?_
  refine ⟨x1, _, _, rfl, p1.2.choose_spec, _, rfl, _, rfl, _, rfl, _, rfl, iteT ?_⟩
  intro x2 e2 a2 b2 c2
  refine mk_ds (c := c) (pc_Denial T) (bE (s12.trans s3)) (rest := []) (ds := []) .nil rfl (by decide) (by decide) a2 b2 c2 fun H2 t2 y2 s4 p2 n2 h2 d2 => ?_
  refine ⟨x2, _, _, _, _, rfl, p2.2.choose_spec, p2.1.cl, p2.1.np, rfl, szl rfl, fun r3 hr3 => ?_⟩
  have s5 : Same H2 (upd H2 r3 (.tup [])) := same_new hr3
  cases d2
  exact ⟨.tuple [], .tuple [], .tup (.of (s5 _ _ h2)) .nil, .tup (.of upd_same) .nil, by decide +kernel, by decide +kernel, k _⟩
end
end K02

set_option Elab.async false
set_option linter.all false
set_option maxRecDepth 100000
set_option maxHeartbeats 4000000
namespace K02
open PySem PySem.Spec PyProof.Rows L2 Gs
theorem all_mk {l : PySem.W.OpenLaw} {w : World} {K : PySem.W.Frag} {h : Heap} {mg : Str → Option Value} {fa : Addr} (X : K.In h) (G : h.Ns mainGlobals mg) (hfa : mg "law" = some (.ref fa))
    {cAPaper : Addr} {cADenial : Addr} {cAAlike : Addr} {cAUnlike : Addr} {cAWon : Addr} {cAUnwon : Addr} {cAFamily : Addr} {f0 : Addr} {od0 an0 : Option Addr} {sl0 : Array (Option Value)} {oc0 kV0 dc0 pm0 ct0 : Value} {cd0 : Value} {f1 : Addr} {od1 an1 : Option Addr} {sl1 : Array (Option Value)} {oc1 kV1 dc1 pm1 ct1 : Value} {cd1 : Value} {f2 : Addr} {od2 an2 : Option Addr} {sl2 : Array (Option Value)} {oc2 kV2 dc2 pm2 ct2 : Value} {cd2 : Value} {f3 : Addr} {od3 an3 : Option Addr} {sl3 : Array (Option Value)} {oc3 kV3 dc3 pm3 ct3 : Value} {cd3 : Value} {f4 : Addr} {od4 an4 : Option Addr} {sl4 : Array (Option Value)} {oc4 kV4 dc4 pm4 ct4 : Value} {cd4 : Value} {f5 : Addr} {od5 an5 : Option Addr} {sl5 : Array (Option Value)} {oc5 kV5 dc5 pm5 ct5 : Value} {cd5 : Value} {f6 : Addr} {od6 an6 : Option Addr} {sl6 : Array (Option Value)} {oc6 kV6 dc6 pm6 ct6 : Value} {cd6 : Value} {f7 : Addr} {od7 an7 : Option Addr} {sl7 : Array (Option Value)} {oc7 kV7 dc7 pm7 ct7 : Value} {cd7 : Value} {f8 : Addr} {od8 an8 : Option Addr} {sl8 : Array (Option Value)} {oc8 kV8 dc8 pm8 ct8 : Value} {cd8 : Value} {f9 : Addr} {od9 an9 : Option Addr} {sl9 : Array (Option Value)} {oc9 kV9 dc9 pm9 ct9 : Value} {cd9 : Value} {f10 : Addr} {od10 an10 : Option Addr} {sl10 : Array (Option Value)} {oc10 kV10 dc10 pm10 ct10 : Value} {cd10 : Value} {f11 : Addr} {od11 an11 : Option Addr} {sl11 : Array (Option Value)} {oc11 kV11 dc11 pm11 ct11 : Value} {cd11 : Value} {f12 : Addr} {od12 an12 : Option Addr} {sl12 : Array (Option Value)} {oc12 kV12 dc12 pm12 ct12 : Value} {cd12 : Value} {f13 : Addr} {od13 an13 : Option Addr} {sl13 : Array (Option Value)} {oc13 kV13 dc13 pm13 ct13 : Value} {cd13 : Value} {f14 : Addr} {od14 an14 : Option Addr} {sl14 : Array (Option Value)} {oc14 kV14 dc14 pm14 ct14 : Value} {cd14 : Value} {f15 : Addr} {od15 an15 : Option Addr} {sl15 : Array (Option Value)} {oc15 kV15 dc15 pm15 ct15 : Value} {cd15 : Value} {f16 : Addr} {od16 an16 : Option Addr} {sl16 : Array (Option Value)} {oc16 kV16 dc16 pm16 ct16 : Value} {cd16 : Value} {f17 : Addr} {od17 an17 : Option Addr} {sl17 : Array (Option Value)} {oc17 kV17 dc17 pm17 ct17 : Value} {cd17 : Value} {f18 : Addr} {od18 an18 : Option Addr} {sl18 : Array (Option Value)} {oc18 kV18 dc18 pm18 ct18 : Value} {cd18 : Value} {f19 : Addr} {od19 an19 : Option Addr} {sl19 : Array (Option Value)} {oc19 kV19 dc19 pm19 ct19 : Value} {cd19 : Value} {f20 : Addr} {od20 an20 : Option Addr} {sl20 : Array (Option Value)} {oc20 kV20 dc20 pm20 ct20 : Value} {cd20 : Value} {f21 : Addr} {od21 an21 : Option Addr} {sl21 : Array (Option Value)} {oc21 kV21 dc21 pm21 ct21 : Value} {cd21 : Value} {f22 : Addr} {od22 an22 : Option Addr} {sl22 : Array (Option Value)} {oc22 kV22 dc22 pm22 ct22 : Value} {cd22 : Value} {f23 : Addr} {od23 an23 : Option Addr} {sl23 : Array (Option Value)} {oc23 kV23 dc23 pm23 ct23 : Value} {cd23 : Value} 
    (aCPaper : PySem.W.nsIn K mainGlobals "Paper" = some (some (.ref cAPaper)))
    (pgPaper : PySem.W.plainGet K cAPaper Str.empty = true)
    (hdPaper : PySem.W.hasDictIn K cAPaper = true)
    (poPaper : PySem.W.plainOver K cAPaper = true)
    (saPaper : PySem.W.findIn K (.ref cAPaper) "__setattr__" = some (some (.builtin "object.__setattr__")))
    (mkPaper : PySem.W.makesIn K cAPaper = true)
    (kcPaper : PySem.W.keepIn K (.ref cAPaper) = true)
    (nFPaper_word : PySem.W.findIn K (.ref cAPaper) "word" = some none)
    (nFPaper_parts : PySem.W.findIn K (.ref cAPaper) "parts" = some none)
    (aCDenial : PySem.W.nsIn K mainGlobals "Denial" = some (some (.ref cADenial)))
    (pgDenial : PySem.W.plainGet K cADenial Str.empty = true)
    (hdDenial : PySem.W.hasDictIn K cADenial = true)
    (poDenial : PySem.W.plainOver K cADenial = true)
    (saDenial : PySem.W.findIn K (.ref cADenial) "__setattr__" = some (some (.builtin "object.__setattr__")))
    (mkDenial : PySem.W.makesIn K cADenial = true)
    (kcDenial : PySem.W.keepIn K (.ref cADenial) = true)
    (nFDenial_word : PySem.W.findIn K (.ref cADenial) "word" = some none)
    (nFDenial_parts : PySem.W.findIn K (.ref cADenial) "parts" = some none)
    (aCAlike : PySem.W.nsIn K mainGlobals "Alike" = some (some (.ref cAAlike)))
    (pgAlike : PySem.W.plainGet K cAAlike Str.empty = true)
    (hdAlike : PySem.W.hasDictIn K cAAlike = true)
    (poAlike : PySem.W.plainOver K cAAlike = true)
    (saAlike : PySem.W.findIn K (.ref cAAlike) "__setattr__" = some (some (.builtin "object.__setattr__")))
    (mkAlike : PySem.W.makesIn K cAAlike = true)
    (kcAlike : PySem.W.keepIn K (.ref cAAlike) = true)
    (nFAlike_word : PySem.W.findIn K (.ref cAAlike) "word" = some none)
    (nFAlike_parts : PySem.W.findIn K (.ref cAAlike) "parts" = some none)
    (aCUnlike : PySem.W.nsIn K mainGlobals "Unlike" = some (some (.ref cAUnlike)))
    (pgUnlike : PySem.W.plainGet K cAUnlike Str.empty = true)
    (hdUnlike : PySem.W.hasDictIn K cAUnlike = true)
    (poUnlike : PySem.W.plainOver K cAUnlike = true)
    (saUnlike : PySem.W.findIn K (.ref cAUnlike) "__setattr__" = some (some (.builtin "object.__setattr__")))
    (mkUnlike : PySem.W.makesIn K cAUnlike = true)
    (kcUnlike : PySem.W.keepIn K (.ref cAUnlike) = true)
    (nFUnlike_word : PySem.W.findIn K (.ref cAUnlike) "word" = some none)
    (nFUnlike_parts : PySem.W.findIn K (.ref cAUnlike) "parts" = some none)
    (nFUnlike_part : PySem.W.findIn K (.ref cAUnlike) "part" = some none)
    (aCWon : PySem.W.nsIn K mainGlobals "Won" = some (some (.ref cAWon)))
    (pgWon : PySem.W.plainGet K cAWon Str.empty = true)
    (hdWon : PySem.W.hasDictIn K cAWon = true)
    (poWon : PySem.W.plainOver K cAWon = true)
    (saWon : PySem.W.findIn K (.ref cAWon) "__setattr__" = some (some (.builtin "object.__setattr__")))
    (mkWon : PySem.W.makesIn K cAWon = true)
    (kcWon : PySem.W.keepIn K (.ref cAWon) = true)
    (nFWon_word : PySem.W.findIn K (.ref cAWon) "word" = some none)
    (nFWon_parts : PySem.W.findIn K (.ref cAWon) "parts" = some none)
    (nFWon_book : PySem.W.findIn K (.ref cAWon) "book" = some none)
    (aCUnwon : PySem.W.nsIn K mainGlobals "Unwon" = some (some (.ref cAUnwon)))
    (pgUnwon : PySem.W.plainGet K cAUnwon Str.empty = true)
    (hdUnwon : PySem.W.hasDictIn K cAUnwon = true)
    (poUnwon : PySem.W.plainOver K cAUnwon = true)
    (saUnwon : PySem.W.findIn K (.ref cAUnwon) "__setattr__" = some (some (.builtin "object.__setattr__")))
    (mkUnwon : PySem.W.makesIn K cAUnwon = true)
    (kcUnwon : PySem.W.keepIn K (.ref cAUnwon) = true)
    (nFUnwon_word : PySem.W.findIn K (.ref cAUnwon) "word" = some none)
    (nFUnwon_parts : PySem.W.findIn K (.ref cAUnwon) "parts" = some none)
    (nFUnwon_replies : PySem.W.findIn K (.ref cAUnwon) "replies" = some none)
    (aCFamily : PySem.W.nsIn K mainGlobals "Family" = some (some (.ref cAFamily)))
    (pgFamily : PySem.W.plainGet K cAFamily Str.empty = true)
    (hdFamily : PySem.W.hasDictIn K cAFamily = true)
    (poFamily : PySem.W.plainOver K cAFamily = true)
    (saFamily : PySem.W.findIn K (.ref cAFamily) "__setattr__" = some (some (.builtin "object.__setattr__")))
    (mkFamily : PySem.W.makesIn K cAFamily = true)
    (kcFamily : PySem.W.keepIn K (.ref cAFamily) = true)
    (nFFamily_word : PySem.W.findIn K (.ref cAFamily) "word" = some none)
    (nFFamily_parts : PySem.W.findIn K (.ref cAFamily) "parts" = some none)
    (nFFamily_papers : PySem.W.findIn K (.ref cAFamily) "papers" = some none)
    (a0 : PySem.W.nsIn K mainGlobals "is_list" = some (some (.ref f0)))
    (l0 : K.lookup f0 = some ⟨oc0, od0, .func (PySem.W.fnOf "is_list" "is_list" (defArgs s_is_list) (defBody s_is_list) (defScope s_is_list) .none kV0 dc0 pm0 an0 cd0 ct0), sl0⟩)
    (c0 : PySem.W.codeIn K cd0 "is_list" = true)
    (k0 : PySem.W.keepIn K (.ref f0) = true)
    (a1 : PySem.W.nsIn K mainGlobals "fixed" = some (some (.ref f1)))
    (l1 : K.lookup f1 = some ⟨oc1, od1, .func (PySem.W.fnOf "fixed" "fixed" (defArgs s_fixed) (defBody s_fixed) (defScope s_fixed) .none kV1 dc1 pm1 an1 cd1 ct1), sl1⟩)
    (c1 : PySem.W.codeIn K cd1 "fixed" = true)
    (k1 : PySem.W.keepIn K (.ref f1) = true)
    (a2 : PySem.W.findIn K (.ref cAPaper) "__init__" = some (some (.ref f2)))
    (t2 : PySem.W.typeIn K (.ref f2) = some (.type "function"))
    (l2 : K.lookup f2 = some ⟨oc2, od2, .func (PySem.W.fnOf "__init__" "Paper.__init__" (defArgs s_Paper___init__) (defBody s_Paper___init__) (defScope s_Paper___init__) .none kV2 dc2 pm2 an2 cd2 ct2), sl2⟩)
    (c2 : PySem.W.codeIn K cd2 "Paper.__init__" = true)
    (k2 : PySem.W.keepIn K (.ref f2) = true)
    (a3 : PySem.W.findIn K (.ref cAPaper) "__eq__" = some (some (.ref f3)))
    (t3 : PySem.W.typeIn K (.ref f3) = some (.type "function"))
    (l3 : K.lookup f3 = some ⟨oc3, od3, .func (PySem.W.fnOf "__eq__" "Paper.__eq__" (defArgs s_Paper___eq__) (defBody s_Paper___eq__) (defScope s_Paper___eq__) .none kV3 dc3 pm3 an3 cd3 ct3), sl3⟩)
    (c3 : PySem.W.codeIn K cd3 "Paper.__eq__" = true)
    (k3 : PySem.W.keepIn K (.ref f3) = true)
    (a4 : PySem.W.findIn K (.ref cAPaper) "__bool__" = some (some (.ref f4)))
    (t4 : PySem.W.typeIn K (.ref f4) = some (.type "function"))
    (l4 : K.lookup f4 = some ⟨oc4, od4, .func (PySem.W.fnOf "__bool__" "Paper.__bool__" (defArgs s_Paper___bool__) (defBody s_Paper___bool__) (defScope s_Paper___bool__) .none kV4 dc4 pm4 an4 cd4 ct4), sl4⟩)
    (c4 : PySem.W.codeIn K cd4 "Paper.__bool__" = true)
    (k4 : PySem.W.keepIn K (.ref f4) = true)
    (a5 : PySem.W.findIn K (.ref cADenial) "__init__" = some (some (.ref f5)))
    (t5 : PySem.W.typeIn K (.ref f5) = some (.type "function"))
    (l5 : K.lookup f5 = some ⟨oc5, od5, .func (PySem.W.fnOf "__init__" "Denial.__init__" (defArgs s_Denial___init__) (defBody s_Denial___init__) (defScope s_Denial___init__) .none kV5 dc5 pm5 an5 cd5 ct5), sl5⟩)
    (c5 : PySem.W.codeIn K cd5 "Denial.__init__" = true)
    (k5 : PySem.W.keepIn K (.ref f5) = true)
    (a6 : PySem.W.findIn K (.ref cADenial) "__eq__" = some (some (.ref f6)))
    (t6 : PySem.W.typeIn K (.ref f6) = some (.type "function"))
    (l6 : K.lookup f6 = some ⟨oc6, od6, .func (PySem.W.fnOf "__eq__" "Denial.__eq__" (defArgs s_Denial___eq__) (defBody s_Denial___eq__) (defScope s_Denial___eq__) .none kV6 dc6 pm6 an6 cd6 ct6), sl6⟩)
    (c6 : PySem.W.codeIn K cd6 "Denial.__eq__" = true)
    (k6 : PySem.W.keepIn K (.ref f6) = true)
    (a7 : PySem.W.findIn K (.ref cADenial) "__bool__" = some (some (.ref f7)))
    (t7 : PySem.W.typeIn K (.ref f7) = some (.type "function"))
    (l7 : K.lookup f7 = some ⟨oc7, od7, .func (PySem.W.fnOf "__bool__" "Denial.__bool__" (defArgs s_Denial___bool__) (defBody s_Denial___bool__) (defScope s_Denial___bool__) .none kV7 dc7 pm7 an7 cd7 ct7), sl7⟩)
    (c7 : PySem.W.codeIn K cd7 "Denial.__bool__" = true)
    (k7 : PySem.W.keepIn K (.ref f7) = true)
    (a8 : PySem.W.nsIn K mainGlobals "is_same_paper" = some (some (.ref f8)))
    (l8 : K.lookup f8 = some ⟨oc8, od8, .func (PySem.W.fnOf "is_same_paper" "is_same_paper" (defArgs s_is_same_paper) (defBody s_is_same_paper) (defScope s_is_same_paper) .none kV8 dc8 pm8 an8 cd8 ct8), sl8⟩)
    (c8 : PySem.W.codeIn K cd8 "is_same_paper" = true)
    (k8 : PySem.W.keepIn K (.ref f8) = true)
    (a9 : PySem.W.findIn K (.ref cAWon) "__init__" = some (some (.ref f9)))
    (t9 : PySem.W.typeIn K (.ref f9) = some (.type "function"))
    (l9 : K.lookup f9 = some ⟨oc9, od9, .func (PySem.W.fnOf "__init__" "Won.__init__" (defArgs s_Won___init__) (defBody s_Won___init__) (defScope s_Won___init__) .none kV9 dc9 pm9 an9 cd9 ct9), sl9⟩)
    (c9 : PySem.W.codeIn K cd9 "Won.__init__" = true)
    (k9 : PySem.W.keepIn K (.ref f9) = true)
    (a10 : PySem.W.findIn K (.ref cAUnwon) "__init__" = some (some (.ref f10)))
    (t10 : PySem.W.typeIn K (.ref f10) = some (.type "function"))
    (l10 : K.lookup f10 = some ⟨oc10, od10, .func (PySem.W.fnOf "__init__" "Unwon.__init__" (defArgs s_Unwon___init__) (defBody s_Unwon___init__) (defScope s_Unwon___init__) .none kV10 dc10 pm10 an10 cd10 ct10), sl10⟩)
    (c10 : PySem.W.codeIn K cd10 "Unwon.__init__" = true)
    (k10 : PySem.W.keepIn K (.ref f10) = true)
    (a11 : PySem.W.findIn K (.ref cAAlike) "__init__" = some (some (.ref f11)))
    (t11 : PySem.W.typeIn K (.ref f11) = some (.type "function"))
    (l11 : K.lookup f11 = some ⟨oc11, od11, .func (PySem.W.fnOf "__init__" "Alike.__init__" (defArgs s_Alike___init__) (defBody s_Alike___init__) (defScope s_Alike___init__) .none kV11 dc11 pm11 an11 cd11 ct11), sl11⟩)
    (c11 : PySem.W.codeIn K cd11 "Alike.__init__" = true)
    (k11 : PySem.W.keepIn K (.ref f11) = true)
    (a12 : PySem.W.findIn K (.ref cAUnlike) "__init__" = some (some (.ref f12)))
    (t12 : PySem.W.typeIn K (.ref f12) = some (.type "function"))
    (l12 : K.lookup f12 = some ⟨oc12, od12, .func (PySem.W.fnOf "__init__" "Unlike.__init__" (defArgs s_Unlike___init__) (defBody s_Unlike___init__) (defScope s_Unlike___init__) .none kV12 dc12 pm12 an12 cd12 ct12), sl12⟩)
    (c12 : PySem.W.codeIn K cd12 "Unlike.__init__" = true)
    (k12 : PySem.W.keepIn K (.ref f12) = true)
    (a13 : PySem.W.findIn K (.ref cAFamily) "__init__" = some (some (.ref f13)))
    (t13 : PySem.W.typeIn K (.ref f13) = some (.type "function"))
    (l13 : K.lookup f13 = some ⟨oc13, od13, .func (PySem.W.fnOf "__init__" "Family.__init__" (defArgs s_Family___init__) (defBody s_Family___init__) (defScope s_Family___init__) .none kV13 dc13 pm13 an13 cd13 ct13), sl13⟩)
    (c13 : PySem.W.codeIn K cd13 "Family.__init__" = true)
    (k13 : PySem.W.keepIn K (.ref f13) = true)
    (a14 : PySem.W.nsIn K mainGlobals "_law_tray" = some (some (.ref f14)))
    (l14 : K.lookup f14 = some ⟨oc14, od14, .func (PySem.W.fnOf "_law_tray" "_law_tray" (defArgs s__law_tray) (defBody s__law_tray) (defScope s__law_tray) .none kV14 dc14 pm14 an14 cd14 ct14), sl14⟩)
    (c14 : PySem.W.codeIn K cd14 "_law_tray" = true)
    (k14 : PySem.W.keepIn K (.ref f14) = true)
    (a15 : PySem.W.nsIn K mainGlobals "_law_hold" = some (some (.ref f15)))
    (l15 : K.lookup f15 = some ⟨oc15, od15, .func (PySem.W.fnOf "_law_hold" "_law_hold" (defArgs s__law_hold) (defBody s__law_hold) (defScope s__law_hold) .none kV15 dc15 pm15 an15 cd15 ct15), sl15⟩)
    (c15 : PySem.W.codeIn K cd15 "_law_hold" = true)
    (k15 : PySem.W.keepIn K (.ref f15) = true)
    (a16 : PySem.W.nsIn K mainGlobals "_law_one" = some (some (.ref f16)))
    (l16 : K.lookup f16 = some ⟨oc16, od16, .func (PySem.W.fnOf "_law_one" "_law_one" (defArgs s__law_one) (defBody s__law_one) (defScope s__law_one) .none kV16 dc16 pm16 an16 cd16 ct16), sl16⟩)
    (c16 : PySem.W.codeIn K cd16 "_law_one" = true)
    (k16 : PySem.W.keepIn K (.ref f16) = true)
    (a17 : PySem.W.nsIn K mainGlobals "_law_value" = some (some (.ref f17)))
    (l17 : K.lookup f17 = some ⟨oc17, od17, .func (PySem.W.fnOf "_law_value" "_law_value" (defArgs s__law_value) (defBody s__law_value) (defScope s__law_value) .none kV17 dc17 pm17 an17 cd17 ct17), sl17⟩)
    (c17 : PySem.W.codeIn K cd17 "_law_value" = true)
    (k17 : PySem.W.keepIn K (.ref f17) = true)
    (a18 : PySem.W.nsIn K mainGlobals "_law_own" = some (some (.ref f18)))
    (l18 : K.lookup f18 = some ⟨oc18, od18, .func (PySem.W.fnOf "_law_own" "_law_own" (defArgs s__law_own) (defBody s__law_own) (defScope s__law_own) .none kV18 dc18 pm18 an18 cd18 ct18), sl18⟩)
    (c18 : PySem.W.codeIn K cd18 "_law_own" = true)
    (k18 : PySem.W.keepIn K (.ref f18) = true)
    (a19 : PySem.W.nsIn K mainGlobals "_law_made" = some (some (.ref f19)))
    (l19 : K.lookup f19 = some ⟨oc19, od19, .func (PySem.W.fnOf "_law_made" "_law_made" (defArgs s__law_made) (defBody s__law_made) (defScope s__law_made) .none kV19 dc19 pm19 an19 cd19 ct19), sl19⟩)
    (c19 : PySem.W.codeIn K cd19 "_law_made" = true)
    (k19 : PySem.W.keepIn K (.ref f19) = true)
    (a20 : PySem.W.nsIn K mainGlobals "_law_kept" = some (some (.ref f20)))
    (l20 : K.lookup f20 = some ⟨oc20, od20, .func (PySem.W.fnOf "_law_kept" "_law_kept" (defArgs s__law_kept) (defBody s__law_kept) (defScope s__law_kept) .none kV20 dc20 pm20 an20 cd20 ct20), sl20⟩)
    (c20 : PySem.W.codeIn K cd20 "_law_kept" = true)
    (k20 : PySem.W.keepIn K (.ref f20) = true)
    (a21 : PySem.W.nsIn K mainGlobals "_law_paper_right" = some (some (.ref f21)))
    (l21 : K.lookup f21 = some ⟨oc21, od21, .func (PySem.W.fnOf "_law_paper_right" "_law_paper_right" (defArgs s__law_paper_right) (defBody s__law_paper_right) (defScope s__law_paper_right) .none kV21 dc21 pm21 an21 cd21 ct21), sl21⟩)
    (c21 : PySem.W.codeIn K cd21 "_law_paper_right" = true)
    (k21 : PySem.W.keepIn K (.ref f21) = true)
    (a22 : PySem.W.nsIn K mainGlobals "_law_deep_right" = some (some (.ref f22)))
    (l22 : K.lookup f22 = some ⟨oc22, od22, .func (PySem.W.fnOf "_law_deep_right" "_law_deep_right" (defArgs s__law_deep_right) (defBody s__law_deep_right) (defScope s__law_deep_right) .none kV22 dc22 pm22 an22 cd22 ct22), sl22⟩)
    (c22 : PySem.W.codeIn K cd22 "_law_deep_right" = true)
    (k22 : PySem.W.keepIn K (.ref f22) = true)
    (a23 : PySem.W.nsIn K mainGlobals "law" = some (some (.ref f23)))
    (l23 : K.lookup f23 = some ⟨oc23, od23, .func (PySem.W.fnOf "law" "law" (defArgs s_law) (defBody s_law) (defScope s_law) .none kV23 dc23 pm23 an23 cd23 ct23), sl23⟩)
    (c23 : PySem.W.codeIn K cd23 "law" = true)
    (k23 : PySem.W.keepIn K (.ref f23) = true)
    (z0 : PySem.W.nsIn K mainGlobals "isinstance" = some none)
    (z1 : PySem.W.nsIn K mainGlobals "int" = some none)
    (z2 : PySem.W.nsIn K mainGlobals "bool" = some none)
    (z3 : PySem.W.nsIn K mainGlobals "list" = some none)
    (z4 : PySem.W.nsIn K mainGlobals "tuple" = some none)
    (z5 : PySem.W.nsIn K mainGlobals "len" = some none)
    (z6 : PySem.W.nsIn K mainGlobals "abs" = some none)
    (z7 : PySem.W.nsIn K mainGlobals "range" = some none)
    (z8 : PySem.W.nsIn K mainGlobals "repr" = some none)
    (z9 : PySem.W.nsIn K mainGlobals "str" = some none)
    (hn1 : PySem.W.specialIn K (.builtin "object.__class__") "__get__" = some (some (.builtin "getset_descriptor.__get__")))
    (tk1 : PySem.W.takesIn K (.builtin "object.__class__") = some true)
    (haPaper : PySem.W.findIn K (.ref cAPaper) "__class__" = some (some (.builtin "object.__class__")))
    (moPaper : PySem.W.mroIn K cAPaper (.type "object") = some true)
    (tCPaper : PySem.W.typeIn K (.ref cAPaper) = some (.type "type"))
    (iCPaper : PySem.W.isClsIn K cAPaper = true)
    (rdPaper : PySem.W.readsIn K cAPaper (.type "type") = true)
    (cnPaper : PySem.W.nameIn K cAPaper "Paper" = true)
    (cpPaper : PySem.W.plainGet K cAPaper "__class__" = true)
    (fcPaper : PySem.W.findCls K (.ref cAPaper) (.type "type") "__name__" = some (.get (.builtin "getset_descriptor.__get__") (.builtin "type.__name__") (.ref cAPaper) (.type "type")))
    (boPaper : PySem.W.findIn K (.ref cAPaper) "__bool__" = some (some (.ref f4)))
    (eqPaper : PySem.W.findIn K (.ref cAPaper) "__eq__" = some (some (.ref f3)))
    (nePaper : PySem.W.findIn K (.ref cAPaper) "__ne__" = some (some (.builtin "object.__ne__")))
    (sdPaper : PySem.W.subIn K (.ref cAPaper) (.ref cADenial) = some false)
    (ndPaper : (Value.ref cAPaper == Value.ref cADenial) = false)
    (haDenial : PySem.W.findIn K (.ref cADenial) "__class__" = some (some (.builtin "object.__class__")))
    (moDenial : PySem.W.mroIn K cADenial (.type "object") = some true)
    (tCDenial : PySem.W.typeIn K (.ref cADenial) = some (.type "type"))
    (iCDenial : PySem.W.isClsIn K cADenial = true)
    (rdDenial : PySem.W.readsIn K cADenial (.type "type") = true)
    (cnDenial : PySem.W.nameIn K cADenial "Denial" = true)
    (cpDenial : PySem.W.plainGet K cADenial "__class__" = true)
    (fcDenial : PySem.W.findCls K (.ref cADenial) (.type "type") "__name__" = some (.get (.builtin "getset_descriptor.__get__") (.builtin "type.__name__") (.ref cADenial) (.type "type")))
    (boDenial : PySem.W.findIn K (.ref cADenial) "__bool__" = some (some (.ref f7)))
    (eqDenial : PySem.W.findIn K (.ref cADenial) "__eq__" = some (some (.ref f6)))
    (neDenial : PySem.W.findIn K (.ref cADenial) "__ne__" = some (some (.builtin "object.__ne__")))
    (spDenial : PySem.W.subIn K (.ref cADenial) (.ref cAPaper) = some true)
    (npDenial : (Value.ref cADenial == Value.ref cAPaper) = false)
    (haAlike : PySem.W.findIn K (.ref cAAlike) "__class__" = some (some (.builtin "object.__class__")))
    (moAlike : PySem.W.mroIn K cAAlike (.type "object") = some true)
    (tCAlike : PySem.W.typeIn K (.ref cAAlike) = some (.type "type"))
    (iCAlike : PySem.W.isClsIn K cAAlike = true)
    (rdAlike : PySem.W.readsIn K cAAlike (.type "type") = true)
    (cnAlike : PySem.W.nameIn K cAAlike "Alike" = true)
    (cpAlike : PySem.W.plainGet K cAAlike "__class__" = true)
    (fcAlike : PySem.W.findCls K (.ref cAAlike) (.type "type") "__name__" = some (.get (.builtin "getset_descriptor.__get__") (.builtin "type.__name__") (.ref cAAlike) (.type "type")))
    (boAlike : PySem.W.findIn K (.ref cAAlike) "__bool__" = some (some (.ref f4)))
    (eqAlike : PySem.W.findIn K (.ref cAAlike) "__eq__" = some (some (.ref f3)))
    (neAlike : PySem.W.findIn K (.ref cAAlike) "__ne__" = some (some (.builtin "object.__ne__")))
    (spAlike : PySem.W.subIn K (.ref cAAlike) (.ref cAPaper) = some true)
    (npAlike : (Value.ref cAAlike == Value.ref cAPaper) = false)
    (sdAlike : PySem.W.subIn K (.ref cAAlike) (.ref cADenial) = some false)
    (ndAlike : (Value.ref cAAlike == Value.ref cADenial) = false)
    (haUnlike : PySem.W.findIn K (.ref cAUnlike) "__class__" = some (some (.builtin "object.__class__")))
    (moUnlike : PySem.W.mroIn K cAUnlike (.type "object") = some true)
    (tCUnlike : PySem.W.typeIn K (.ref cAUnlike) = some (.type "type"))
    (iCUnlike : PySem.W.isClsIn K cAUnlike = true)
    (rdUnlike : PySem.W.readsIn K cAUnlike (.type "type") = true)
    (cnUnlike : PySem.W.nameIn K cAUnlike "Unlike" = true)
    (cpUnlike : PySem.W.plainGet K cAUnlike "__class__" = true)
    (fcUnlike : PySem.W.findCls K (.ref cAUnlike) (.type "type") "__name__" = some (.get (.builtin "getset_descriptor.__get__") (.builtin "type.__name__") (.ref cAUnlike) (.type "type")))
    (boUnlike : PySem.W.findIn K (.ref cAUnlike) "__bool__" = some (some (.ref f7)))
    (eqUnlike : PySem.W.findIn K (.ref cAUnlike) "__eq__" = some (some (.ref f6)))
    (neUnlike : PySem.W.findIn K (.ref cAUnlike) "__ne__" = some (some (.builtin "object.__ne__")))
    (spUnlike : PySem.W.subIn K (.ref cAUnlike) (.ref cAPaper) = some true)
    (npUnlike : (Value.ref cAUnlike == Value.ref cAPaper) = false)
    (sdUnlike : PySem.W.subIn K (.ref cAUnlike) (.ref cADenial) = some true)
    (ndUnlike : (Value.ref cAUnlike == Value.ref cADenial) = false)
    (haWon : PySem.W.findIn K (.ref cAWon) "__class__" = some (some (.builtin "object.__class__")))
    (moWon : PySem.W.mroIn K cAWon (.type "object") = some true)
    (tCWon : PySem.W.typeIn K (.ref cAWon) = some (.type "type"))
    (iCWon : PySem.W.isClsIn K cAWon = true)
    (rdWon : PySem.W.readsIn K cAWon (.type "type") = true)
    (cnWon : PySem.W.nameIn K cAWon "Won" = true)
    (cpWon : PySem.W.plainGet K cAWon "__class__" = true)
    (fcWon : PySem.W.findCls K (.ref cAWon) (.type "type") "__name__" = some (.get (.builtin "getset_descriptor.__get__") (.builtin "type.__name__") (.ref cAWon) (.type "type")))
    (boWon : PySem.W.findIn K (.ref cAWon) "__bool__" = some (some (.ref f4)))
    (eqWon : PySem.W.findIn K (.ref cAWon) "__eq__" = some (some (.ref f3)))
    (neWon : PySem.W.findIn K (.ref cAWon) "__ne__" = some (some (.builtin "object.__ne__")))
    (spWon : PySem.W.subIn K (.ref cAWon) (.ref cAPaper) = some true)
    (npWon : (Value.ref cAWon == Value.ref cAPaper) = false)
    (sdWon : PySem.W.subIn K (.ref cAWon) (.ref cADenial) = some false)
    (ndWon : (Value.ref cAWon == Value.ref cADenial) = false)
    (haUnwon : PySem.W.findIn K (.ref cAUnwon) "__class__" = some (some (.builtin "object.__class__")))
    (moUnwon : PySem.W.mroIn K cAUnwon (.type "object") = some true)
    (tCUnwon : PySem.W.typeIn K (.ref cAUnwon) = some (.type "type"))
    (iCUnwon : PySem.W.isClsIn K cAUnwon = true)
    (rdUnwon : PySem.W.readsIn K cAUnwon (.type "type") = true)
    (cnUnwon : PySem.W.nameIn K cAUnwon "Unwon" = true)
    (cpUnwon : PySem.W.plainGet K cAUnwon "__class__" = true)
    (fcUnwon : PySem.W.findCls K (.ref cAUnwon) (.type "type") "__name__" = some (.get (.builtin "getset_descriptor.__get__") (.builtin "type.__name__") (.ref cAUnwon) (.type "type")))
    (boUnwon : PySem.W.findIn K (.ref cAUnwon) "__bool__" = some (some (.ref f7)))
    (eqUnwon : PySem.W.findIn K (.ref cAUnwon) "__eq__" = some (some (.ref f6)))
    (neUnwon : PySem.W.findIn K (.ref cAUnwon) "__ne__" = some (some (.builtin "object.__ne__")))
    (spUnwon : PySem.W.subIn K (.ref cAUnwon) (.ref cAPaper) = some true)
    (npUnwon : (Value.ref cAUnwon == Value.ref cAPaper) = false)
    (sdUnwon : PySem.W.subIn K (.ref cAUnwon) (.ref cADenial) = some true)
    (ndUnwon : (Value.ref cAUnwon == Value.ref cADenial) = false)
    (haFamily : PySem.W.findIn K (.ref cAFamily) "__class__" = some (some (.builtin "object.__class__")))
    (moFamily : PySem.W.mroIn K cAFamily (.type "object") = some true)
    (tCFamily : PySem.W.typeIn K (.ref cAFamily) = some (.type "type"))
    (iCFamily : PySem.W.isClsIn K cAFamily = true)
    (rdFamily : PySem.W.readsIn K cAFamily (.type "type") = true)
    (cnFamily : PySem.W.nameIn K cAFamily "Family" = true)
    (cpFamily : PySem.W.plainGet K cAFamily "__class__" = true)
    (fcFamily : PySem.W.findCls K (.ref cAFamily) (.type "type") "__name__" = some (.get (.builtin "getset_descriptor.__get__") (.builtin "type.__name__") (.ref cAFamily) (.type "type")))
    (boFamily : PySem.W.findIn K (.ref cAFamily) "__bool__" = some (some (.ref f4)))
    (eqFamily : PySem.W.findIn K (.ref cAFamily) "__eq__" = some (some (.ref f3)))
    (neFamily : PySem.W.findIn K (.ref cAFamily) "__ne__" = some (some (.builtin "object.__ne__")))
    (spFamily : PySem.W.subIn K (.ref cAFamily) (.ref cAPaper) = some true)
    (npFamily : (Value.ref cAFamily == Value.ref cAPaper) = false)
    (sdFamily : PySem.W.subIn K (.ref cAFamily) (.ref cADenial) = some false)
    (ndFamily : (Value.ref cAFamily == Value.ref cADenial) = false)
    (sgPaper : PySem.W.specialIn K (.ref cAPaper) "__getattribute__" = some (some (.builtin "type.__getattribute__")))
    (fiPaper : PySem.W.findCls K (.ref cAPaper) (.type "type") "__init__" = some (.val (.ref f2)))
    (sgDenial : PySem.W.specialIn K (.ref cADenial) "__getattribute__" = some (some (.builtin "type.__getattribute__")))
    (fiDenial : PySem.W.findCls K (.ref cADenial) (.type "type") "__init__" = some (.val (.ref f5)))
    (ktP : PySem.W.subIn K (.type "tuple") (.ref cAPaper) = some false)
    (suB : suB K [(cADenial, cAPaper), (cAAlike, cAPaper), (cAWon, cAPaper), (cAFamily, cAPaper), (cAUnlike, cADenial), (cAUnwon, cADenial)] = true)
    (nfB : nfB K [cAPaper, cADenial, cAAlike, cAUnlike, cAWon, cAUnwon, cAFamily] [cAAlike, cAUnlike, cAWon, cAUnwon, cAFamily] = true)
    (ntB : ntB K [cAAlike, cAUnlike, cAWon, cAUnwon, cAFamily] = true) :
    ∃ fd : FuncData, (∀ (s : Shared) (v : Value), BindsTo s fd ⟨[v], []⟩ [("script", v)]) ∧ ∀ base : Heap, K.In base → base.Ns mainGlobals mg → FnG l.prog w K mg base CX0 90 fa fd ["script"] (spLaw K) := by
  let T : Tx K mg := {
      c_Paper := cAPaper,
      m_Paper := PySem.W.mg_of X G aCPaper,
      cl_Paper := ⟨pgPaper, hdPaper, poPaper, saPaper⟩,
      nF_Paper_word := nFPaper_word,
      nF_Paper_parts := nFPaper_parts,
      mk_Paper := ⟨mkPaper, a2, isFn_of t2, kcPaper⟩,
      c_Denial := cADenial,
      m_Denial := PySem.W.mg_of X G aCDenial,
      cl_Denial := ⟨pgDenial, hdDenial, poDenial, saDenial⟩,
      nF_Denial_word := nFDenial_word,
      nF_Denial_parts := nFDenial_parts,
      mk_Denial := ⟨mkDenial, a5, isFn_of t5, kcDenial⟩,
      c_Alike := cAAlike,
      m_Alike := PySem.W.mg_of X G aCAlike,
      cl_Alike := ⟨pgAlike, hdAlike, poAlike, saAlike⟩,
      nF_Alike_word := nFAlike_word,
      nF_Alike_parts := nFAlike_parts,
      mk_Alike := ⟨mkAlike, a11, isFn_of t11, kcAlike⟩,
      c_Unlike := cAUnlike,
      m_Unlike := PySem.W.mg_of X G aCUnlike,
      cl_Unlike := ⟨pgUnlike, hdUnlike, poUnlike, saUnlike⟩,
      nF_Unlike_word := nFUnlike_word,
      nF_Unlike_parts := nFUnlike_parts,
      nF_Unlike_part := nFUnlike_part,
      mk_Unlike := ⟨mkUnlike, a12, isFn_of t12, kcUnlike⟩,
      c_Won := cAWon,
      m_Won := PySem.W.mg_of X G aCWon,
      cl_Won := ⟨pgWon, hdWon, poWon, saWon⟩,
      nF_Won_word := nFWon_word,
      nF_Won_parts := nFWon_parts,
      nF_Won_book := nFWon_book,
      mk_Won := ⟨mkWon, a9, isFn_of t9, kcWon⟩,
      c_Unwon := cAUnwon,
      m_Unwon := PySem.W.mg_of X G aCUnwon,
      cl_Unwon := ⟨pgUnwon, hdUnwon, poUnwon, saUnwon⟩,
      nF_Unwon_word := nFUnwon_word,
      nF_Unwon_parts := nFUnwon_parts,
      nF_Unwon_replies := nFUnwon_replies,
      mk_Unwon := ⟨mkUnwon, a10, isFn_of t10, kcUnwon⟩,
      c_Family := cAFamily,
      m_Family := PySem.W.mg_of X G aCFamily,
      cl_Family := ⟨pgFamily, hdFamily, poFamily, saFamily⟩,
      nF_Family_word := nFFamily_word,
      nF_Family_parts := nFFamily_parts,
      nF_Family_papers := nFFamily_papers,
      mk_Family := ⟨mkFamily, a13, isFn_of t13, kcFamily⟩,
      a_is_list := f0,
      d_is_list := _,
      F_is_list := fun_mk (st := s_is_list) l0 c0 k0,
      m_is_list := PySem.W.mg_of X G a0,
      b_is_list := (fun_mk (st := s_is_list) l0 c0 k0).binds (ps := ["value"]) fun _ _ _ _ _ _ us hl => match us, hl with | [_], _ => rfl,
      a_fixed := f1,
      d_fixed := _,
      F_fixed := fun_mk (st := s_fixed) l1 c1 k1,
      m_fixed := PySem.W.mg_of X G a1,
      b_fixed := (fun_mk (st := s_fixed) l1 c1 k1).binds (ps := ["value"]) fun _ _ _ _ _ _ us hl => match us, hl with | [_], _ => rfl,
      a_Paper___init__ := f2,
      d_Paper___init__ := _,
      F_Paper___init__ := fun_mk (st := s_Paper___init__) l2 c2 k2,
      a_Paper___eq__ := f3,
      d_Paper___eq__ := _,
      F_Paper___eq__ := fun_mk (st := s_Paper___eq__) l3 c3 k3,
      b_Paper___eq__ := (fun_mk (st := s_Paper___eq__) l3 c3 k3).binds (ps := ["self", "other"]) fun _ _ _ _ _ _ us hl => match us, hl with | [_, _], _ => rfl,
      a_Paper___bool__ := f4,
      d_Paper___bool__ := _,
      F_Paper___bool__ := fun_mk (st := s_Paper___bool__) l4 c4 k4,
      b_Paper___bool__ := (fun_mk (st := s_Paper___bool__) l4 c4 k4).binds (ps := ["self"]) fun _ _ _ _ _ _ us hl => match us, hl with | [_], _ => rfl,
      a_Denial___init__ := f5,
      d_Denial___init__ := _,
      F_Denial___init__ := fun_mk (st := s_Denial___init__) l5 c5 k5,
      a_Denial___eq__ := f6,
      d_Denial___eq__ := _,
      F_Denial___eq__ := fun_mk (st := s_Denial___eq__) l6 c6 k6,
      b_Denial___eq__ := (fun_mk (st := s_Denial___eq__) l6 c6 k6).binds (ps := ["self", "other"]) fun _ _ _ _ _ _ us hl => match us, hl with | [_, _], _ => rfl,
      a_Denial___bool__ := f7,
      d_Denial___bool__ := _,
      F_Denial___bool__ := fun_mk (st := s_Denial___bool__) l7 c7 k7,
      b_Denial___bool__ := (fun_mk (st := s_Denial___bool__) l7 c7 k7).binds (ps := ["self"]) fun _ _ _ _ _ _ us hl => match us, hl with | [_], _ => rfl,
      a_is_same_paper := f8,
      d_is_same_paper := _,
      F_is_same_paper := fun_mk (st := s_is_same_paper) l8 c8 k8,
      m_is_same_paper := PySem.W.mg_of X G a8,
      b_is_same_paper := (fun_mk (st := s_is_same_paper) l8 c8 k8).binds (ps := ["paper", "other"]) fun _ _ _ _ _ _ us hl => match us, hl with | [_, _], _ => rfl,
      a_Won___init__ := f9,
      d_Won___init__ := _,
      F_Won___init__ := fun_mk (st := s_Won___init__) l9 c9 k9,
      b_Won___init__ := (fun_mk (st := s_Won___init__) l9 c9 k9).binds (ps := ["self", "book"]) fun _ _ _ _ _ _ us hl => match us, hl with | [_, _], _ => rfl,
      a_Unwon___init__ := f10,
      d_Unwon___init__ := _,
      F_Unwon___init__ := fun_mk (st := s_Unwon___init__) l10 c10 k10,
      b_Unwon___init__ := (fun_mk (st := s_Unwon___init__) l10 c10 k10).binds (ps := ["self", "replies"]) fun _ _ _ _ _ _ us hl => match us, hl with | [_, _], _ => rfl,
      a_Alike___init__ := f11,
      d_Alike___init__ := _,
      F_Alike___init__ := fun_mk (st := s_Alike___init__) l11 c11 k11,
      b_Alike___init__ := (fun_mk (st := s_Alike___init__) l11 c11 k11).binds (ps := ["self"]) fun _ _ _ _ _ _ us hl => match us, hl with | [_], _ => rfl,
      a_Unlike___init__ := f12,
      d_Unlike___init__ := _,
      F_Unlike___init__ := fun_mk (st := s_Unlike___init__) l12 c12 k12,
      b_Unlike___init__ := (fun_mk (st := s_Unlike___init__) l12 c12 k12).binds (ps := ["self", "part"]) fun _ _ _ _ _ _ us hl => match us, hl with | [_, _], _ => rfl,
      a_Family___init__ := f13,
      d_Family___init__ := _,
      F_Family___init__ := fun_mk (st := s_Family___init__) l13 c13 k13,
      b_Family___init__ := (fun_mk (st := s_Family___init__) l13 c13 k13).binds (ps := ["self", "papers"]) fun _ _ _ _ _ _ us hl => match us, hl with | [_, _], _ => rfl,
      a__law_tray := f14,
      d__law_tray := _,
      F__law_tray := fun_mk (st := s__law_tray) l14 c14 k14,
      m__law_tray := PySem.W.mg_of X G a14,
      b__law_tray := (fun_mk (st := s__law_tray) l14 c14 k14).binds (ps := ["script"]) fun _ _ _ _ _ _ us hl => match us, hl with | [_], _ => rfl,
      a__law_hold := f15,
      d__law_hold := _,
      F__law_hold := fun_mk (st := s__law_hold) l15 c15 k15,
      m__law_hold := PySem.W.mg_of X G a15,
      b__law_hold := (fun_mk (st := s__law_hold) l15 c15 k15).binds (ps := ["tray", "many"]) fun _ _ _ _ _ _ us hl => match us, hl with | [_, _], _ => rfl,
      a__law_one := f16,
      d__law_one := _,
      F__law_one := fun_mk (st := s__law_one) l16 c16 k16,
      m__law_one := PySem.W.mg_of X G a16,
      b__law_one := (fun_mk (st := s__law_one) l16 c16 k16).binds (ps := ["tray", "some"]) fun _ _ _ _ _ _ us hl => match us, hl with | [_, _], _ => rfl,
      a__law_value := f17,
      d__law_value := _,
      F__law_value := fun_mk (st := s__law_value) l17 c17 k17,
      m__law_value := PySem.W.mg_of X G a17,
      b__law_value := (fun_mk (st := s__law_value) l17 c17 k17).binds (ps := ["tray"]) fun _ _ _ _ _ _ us hl => match us, hl with | [_], _ => rfl,
      a__law_own := f18,
      d__law_own := _,
      F__law_own := fun_mk (st := s__law_own) l18 c18 k18,
      m__law_own := PySem.W.mg_of X G a18,
      b__law_own := (fun_mk (st := s__law_own) l18 c18 k18).binds (ps := ["value"]) fun _ _ _ _ _ _ us hl => match us, hl with | [_], _ => rfl,
      a__law_made := f19,
      d__law_made := _,
      F__law_made := fun_mk (st := s__law_made) l19 c19 k19,
      m__law_made := PySem.W.mg_of X G a19,
      b__law_made := (fun_mk (st := s__law_made) l19 c19 k19).binds (ps := ["at", "one", "is_named"]) fun _ _ _ _ _ _ us hl => match us, hl with | [_, _, _], _ => rfl,
      a__law_kept := f20,
      d__law_kept := _,
      F__law_kept := fun_mk (st := s__law_kept) l20 c20 k20,
      m__law_kept := PySem.W.mg_of X G a20,
      b__law_kept := (fun_mk (st := s__law_kept) l20 c20 k20).binds (ps := ["at", "paper"]) fun _ _ _ _ _ _ us hl => match us, hl with | [_, _], _ => rfl,
      a__law_paper_right := f21,
      d__law_paper_right := _,
      F__law_paper_right := fun_mk (st := s__law_paper_right) l21 c21 k21,
      m__law_paper_right := PySem.W.mg_of X G a21,
      b__law_paper_right := (fun_mk (st := s__law_paper_right) l21 c21 k21).binds (ps := ["tray", "at"]) fun _ _ _ _ _ _ us hl => match us, hl with | [_, _], _ => rfl,
      a__law_deep_right := f22,
      d__law_deep_right := _,
      F__law_deep_right := fun_mk (st := s__law_deep_right) l22 c22 k22,
      m__law_deep_right := PySem.W.mg_of X G a22,
      b__law_deep_right := (fun_mk (st := s__law_deep_right) l22 c22 k22).binds (ps := ["tray"]) fun _ _ _ _ _ _ us hl => match us, hl with | [_], _ => rfl,
      a_law := f23,
      d_law := _,
      F_law := fun_mk (st := s_law) l23 c23 k23,
      m_law := PySem.W.mg_of X G a23,
      b_law := (fun_mk (st := s_law) l23 c23 k23).binds (ps := ["script"]) fun _ _ _ _ _ _ us hl => match us, hl with | [_], _ => rfl,
      z_isinstance := PySem.W.mg_none_of X G z0,
      z_int := PySem.W.mg_none_of X G z1,
      z_bool := PySem.W.mg_none_of X G z2,
      z_list := PySem.W.mg_none_of X G z3,
      z_tuple := PySem.W.mg_none_of X G z4,
      z_len := PySem.W.mg_none_of X G z5,
      z_abs := PySem.W.mg_none_of X G z6,
      z_range := PySem.W.mg_none_of X G z7,
      z_repr := PySem.W.mg_none_of X G z8,
      z_str := PySem.W.mg_none_of X G z9,
      cn_Paper := ⟨cnPaper, cpPaper, hdPaper, haPaper, hn1, tk1, moPaper, rdPaper, fcPaper⟩,
      cn_Denial := ⟨cnDenial, cpDenial, hdDenial, haDenial, hn1, tk1, moDenial, rdDenial, fcDenial⟩,
      cn_Alike := ⟨cnAlike, cpAlike, hdAlike, haAlike, hn1, tk1, moAlike, rdAlike, fcAlike⟩,
      cn_Unlike := ⟨cnUnlike, cpUnlike, hdUnlike, haUnlike, hn1, tk1, moUnlike, rdUnlike, fcUnlike⟩,
      cn_Won := ⟨cnWon, cpWon, hdWon, haWon, hn1, tk1, moWon, rdWon, fcWon⟩,
      cn_Unwon := ⟨cnUnwon, cpUnwon, hdUnwon, haUnwon, hn1, tk1, moUnwon, rdUnwon, fcUnwon⟩,
      cn_Family := ⟨cnFamily, cpFamily, hdFamily, haFamily, hn1, tk1, moFamily, rdFamily, fcFamily⟩,
      ty_Paper := ⟨⟨pgPaper, hdPaper, poPaper, saPaper⟩, haPaper, hn1, tk1, moPaper⟩,
      ty_Denial := ⟨⟨pgDenial, hdDenial, poDenial, saDenial⟩, haDenial, hn1, tk1, moDenial⟩,
      ty_Alike := ⟨⟨pgAlike, hdAlike, poAlike, saAlike⟩, haAlike, hn1, tk1, moAlike⟩,
      ty_Unlike := ⟨⟨pgUnlike, hdUnlike, poUnlike, saUnlike⟩, haUnlike, hn1, tk1, moUnlike⟩,
      ty_Won := ⟨⟨pgWon, hdWon, poWon, saWon⟩, haWon, hn1, tk1, moWon⟩,
      ty_Unwon := ⟨⟨pgUnwon, hdUnwon, poUnwon, saUnwon⟩, haUnwon, hn1, tk1, moUnwon⟩,
      ty_Family := ⟨⟨pgFamily, hdFamily, poFamily, saFamily⟩, haFamily, hn1, tk1, moFamily⟩,
      kp_Paper := (by simp [PySem.W.kitOne]),
      kp_Denial := kit_rr iCPaper tCPaper spDenial npDenial,
      kp_Alike := kit_rr iCPaper tCPaper spAlike npAlike,
      kp_Unlike := kit_rr iCPaper tCPaper spUnlike npUnlike,
      kp_Won := kit_rr iCPaper tCPaper spWon npWon,
      kp_Unwon := kit_rr iCPaper tCPaper spUnwon npUnwon,
      kp_Family := kit_rr iCPaper tCPaper spFamily npFamily,
      kd_Paper := kit_rr iCDenial tCDenial sdPaper ndPaper,
      kd_Denial := (by simp [PySem.W.kitOne]),
      kd_Alike := kit_rr iCDenial tCDenial sdAlike ndAlike,
      kd_Unlike := kit_rr iCDenial tCDenial sdUnlike ndUnlike,
      kd_Won := kit_rr iCDenial tCDenial sdWon ndWon,
      kd_Unwon := kit_rr iCDenial tCDenial sdUnwon ndUnwon,
      kd_Family := kit_rr iCDenial tCDenial sdFamily ndFamily,
      fi_Paper := ⟨rdPaper, sgPaper, fiPaper, k2⟩,
      fi_Denial := ⟨rdDenial, sgDenial, fiDenial, k5⟩,
      ob_Paper := ⟨boPaper, isFn_of t4⟩,
      ob_Denial := ⟨boDenial, isFn_of t7⟩,
      ob_Alike := ⟨boAlike, isFn_of t4⟩,
      ob_Unlike := ⟨boUnlike, isFn_of t7⟩,
      ob_Won := ⟨boWon, isFn_of t4⟩,
      ob_Unwon := ⟨boUnwon, isFn_of t7⟩,
      ob_Family := ⟨boFamily, isFn_of t4⟩,
      oc_Paper := ⟨eqPaper, isFn_of t3, nePaper, moPaper⟩,
      oc_Denial := ⟨eqDenial, isFn_of t6, neDenial, moDenial⟩,
      oc_Alike := ⟨eqAlike, isFn_of t3, neAlike, moAlike⟩,
      oc_Unlike := ⟨eqUnlike, isFn_of t6, neUnlike, moUnlike⟩,
      oc_Won := ⟨eqWon, isFn_of t3, neWon, moWon⟩,
      oc_Unwon := ⟨eqUnwon, isFn_of t6, neUnwon, moUnwon⟩,
      oc_Family := ⟨eqFamily, isFn_of t3, neFamily, moFamily⟩,
      kt_Paper := kit_tr iCPaper tCPaper ktP,
      su := suB_of suB,
      nf := nfB_of nfB,
      nt := ntB_of ntB,
      kb_fixed := ⟨fun s us ws _ h1 h2 => match us, ws, h1, h2 with | [], [_], _, _ => .of_eq rfl, fun _ _ _ r => r⟩,
      kb_Unlike := ⟨fun s us ws _ h1 h2 => match us, ws, h1, h2 with | [_], [_], _, _ => .of_eq rfl, fun r1 r2 => r1.append r2⟩,
      kb_Won := ⟨fun s us ws _ h1 h2 => match us, ws, h1, h2 with | [_], [_], _, _ => .of_eq rfl, fun r1 r2 => r1.append r2⟩,
      kb_Unwon := ⟨fun s us ws _ h1 h2 => match us, ws, h1, h2 with | [_], [_], _, _ => .of_eq rfl, fun r1 r2 => r1.append r2⟩,
      kb_Family := ⟨fun s us ws _ h1 h2 => match us, ws, h1, h2 with | [_], [_], _, _ => .of_eq rfl, fun r1 r2 => r1.append r2⟩ }
  have e : T.a_law = fa := by
    have := T.m_law.symm.trans hfa
    exact Value.ref.inj (Option.some.inj this)
  refine ⟨T.d_law, fun s v => .of_eq rfl, fun base _ _ => ?_⟩
  rw [← e]
  exact G_law T
end K02
open PySem PySem.W PyProof.Rows
set_option maxHeartbeats 0 in
theorem PySem.Challenge.cw_gapsame_k02_papers_keep_what_they_tell_holds : PySem.Challenge.rw_gapsame_k02_papers_keep_what_they_tell.Holds := by
  w_on; o_law; k_head; (case hw => w_witness2)
  k_fill
  refine Gs.walkG (l := PySem.Challenge.rw_gapsame_k02_papers_keep_what_they_tell) (k := 90) (x := "script") (sp := K02.spLaw) rfl rfl ⟨rfl, by decide, by decide⟩ (fun w h Y => PySem.W.kIn_of Y) ?F (fun K H a ns hl hS => ⟨a, ns, rfl, hS, hl, fun _ => rfl⟩)
  case F =>
    intro w mg fa h KX G hmg
    refine' K02.all_mk KX G hmg ?aCPaper ?pgPaper ?hdPaper ?poPaper ?saPaper ?mkPaper ?kcPaper ?nFPaper_word ?nFPaper_parts ?aCDenial ?pgDenial ?hdDenial ?poDenial ?saDenial ?mkDenial ?kcDenial ?nFDenial_word ?nFDenial_parts ?aCAlike ?pgAlike ?hdAlike ?poAlike ?saAlike ?mkAlike ?kcAlike ?nFAlike_word ?nFAlike_parts ?aCUnlike ?pgUnlike ?hdUnlike ?poUnlike ?saUnlike ?mkUnlike ?kcUnlike ?nFUnlike_word ?nFUnlike_parts ?nFUnlike_part ?aCWon ?pgWon ?hdWon ?poWon ?saWon ?mkWon ?kcWon ?nFWon_word ?nFWon_parts ?nFWon_book ?aCUnwon ?pgUnwon ?hdUnwon ?poUnwon ?saUnwon ?mkUnwon ?kcUnwon ?nFUnwon_word ?nFUnwon_parts ?nFUnwon_replies ?aCFamily ?pgFamily ?hdFamily ?poFamily ?saFamily ?mkFamily ?kcFamily ?nFFamily_word ?nFFamily_parts ?nFFamily_papers ?a0 ?l0 ?c0 ?k0 ?a1 ?l1 ?c1 ?k1 ?a2 ?t2 ?l2 ?c2 ?k2 ?a3 ?t3 ?l3 ?c3 ?k3 ?a4 ?t4 ?l4 ?c4 ?k4 ?a5 ?t5 ?l5 ?c5 ?k5 ?a6 ?t6 ?l6 ?c6 ?k6 ?a7 ?t7 ?l7 ?c7 ?k7 ?a8 ?l8 ?c8 ?k8 ?a9 ?t9 ?l9 ?c9 ?k9 ?a10 ?t10 ?l10 ?c10 ?k10 ?a11 ?t11 ?l11 ?c11 ?k11 ?a12 ?t12 ?l12 ?c12 ?k12 ?a13 ?t13 ?l13 ?c13 ?k13 ?a14 ?l14 ?c14 ?k14 ?a15 ?l15 ?c15 ?k15 ?a16 ?l16 ?c16 ?k16 ?a17 ?l17 ?c17 ?k17 ?a18 ?l18 ?c18 ?k18 ?a19 ?l19 ?c19 ?k19 ?a20 ?l20 ?c20 ?k20 ?a21 ?l21 ?c21 ?k21 ?a22 ?l22 ?c22 ?k22 ?a23 ?l23 ?c23 ?k23 ?z0 ?z1 ?z2 ?z3 ?z4 ?z5 ?z6 ?z7 ?z8 ?z9 ?hn1 ?tk1 ?haPaper ?moPaper ?tCPaper ?iCPaper ?rdPaper ?cnPaper ?cpPaper ?fcPaper ?boPaper ?eqPaper ?nePaper ?sdPaper ?ndPaper ?haDenial ?moDenial ?tCDenial ?iCDenial ?rdDenial ?cnDenial ?cpDenial ?fcDenial ?boDenial ?eqDenial ?neDenial ?spDenial ?npDenial ?haAlike ?moAlike ?tCAlike ?iCAlike ?rdAlike ?cnAlike ?cpAlike ?fcAlike ?boAlike ?eqAlike ?neAlike ?spAlike ?npAlike ?sdAlike ?ndAlike ?haUnlike ?moUnlike ?tCUnlike ?iCUnlike ?rdUnlike ?cnUnlike ?cpUnlike ?fcUnlike ?boUnlike ?eqUnlike ?neUnlike ?spUnlike ?npUnlike ?sdUnlike ?ndUnlike ?haWon ?moWon ?tCWon ?iCWon ?rdWon ?cnWon ?cpWon ?fcWon ?boWon ?eqWon ?neWon ?spWon ?npWon ?sdWon ?ndWon ?haUnwon ?moUnwon ?tCUnwon ?iCUnwon ?rdUnwon ?cnUnwon ?cpUnwon ?fcUnwon ?boUnwon ?eqUnwon ?neUnwon ?spUnwon ?npUnwon ?sdUnwon ?ndUnwon ?haFamily ?moFamily ?tCFamily ?iCFamily ?rdFamily ?cnFamily ?cpFamily ?fcFamily ?boFamily ?eqFamily ?neFamily ?spFamily ?npFamily ?sdFamily ?ndFamily ?sgPaper ?fiPaper ?sgDenial ?fiDenial ?ktP ?suB ?nfB ?ntB
    (case aCPaper => k_is)
    (case pgPaper => k_is)
    (case hdPaper => k_is)
    (case poPaper => k_is)
    (case saPaper => k_is)
    (case mkPaper => k_is)
    (case kcPaper => k_is)
    (case nFPaper_word => k_is)
    (case nFPaper_parts => k_is)
    (case aCDenial => k_is)
    (case pgDenial => k_is)
    (case hdDenial => k_is)
    (case poDenial => k_is)
    (case saDenial => k_is)
    (case mkDenial => k_is)
    (case kcDenial => k_is)
    (case nFDenial_word => k_is)
    (case nFDenial_parts => k_is)
    (case aCAlike => k_is)
    (case pgAlike => k_is)
    (case hdAlike => k_is)
    (case poAlike => k_is)
    (case saAlike => k_is)
    (case mkAlike => k_is)
    (case kcAlike => k_is)
    (case nFAlike_word => k_is)
    (case nFAlike_parts => k_is)
    (case aCUnlike => k_is)
    (case pgUnlike => k_is)
    (case hdUnlike => k_is)
    (case poUnlike => k_is)
    (case saUnlike => k_is)
    (case mkUnlike => k_is)
    (case kcUnlike => k_is)
    (case nFUnlike_word => k_is)
    (case nFUnlike_parts => k_is)
    (case nFUnlike_part => k_is)
    (case aCWon => k_is)
    (case pgWon => k_is)
    (case hdWon => k_is)
    (case poWon => k_is)
    (case saWon => k_is)
    (case mkWon => k_is)
    (case kcWon => k_is)
    (case nFWon_word => k_is)
    (case nFWon_parts => k_is)
    (case nFWon_book => k_is)
    (case aCUnwon => k_is)
    (case pgUnwon => k_is)
    (case hdUnwon => k_is)
    (case poUnwon => k_is)
    (case saUnwon => k_is)
    (case mkUnwon => k_is)
    (case kcUnwon => k_is)
    (case nFUnwon_word => k_is)
    (case nFUnwon_parts => k_is)
    (case nFUnwon_replies => k_is)
    (case aCFamily => k_is)
    (case pgFamily => k_is)
    (case hdFamily => k_is)
    (case poFamily => k_is)
    (case saFamily => k_is)
    (case mkFamily => k_is)
    (case kcFamily => k_is)
    (case nFFamily_word => k_is)
    (case nFFamily_parts => k_is)
    (case nFFamily_papers => k_is)
    (case a0 => k_is)
    (case l0 => k_is)
    (case c0 => k_is)
    (case k0 => k_is)
    (case a1 => k_is)
    (case l1 => k_is)
    (case c1 => k_is)
    (case k1 => k_is)
    (case a2 => k_is)
    (case t2 => k_is)
    (case l2 => k_is)
    (case c2 => k_is)
    (case k2 => k_is)
    (case a3 => k_is)
    (case t3 => k_is)
    (case l3 => k_is)
    (case c3 => k_is)
    (case k3 => k_is)
    (case a4 => k_is)
    (case t4 => k_is)
    (case l4 => k_is)
    (case c4 => k_is)
    (case k4 => k_is)
    (case a5 => k_is)
    (case t5 => k_is)
    (case l5 => k_is)
    (case c5 => k_is)
    (case k5 => k_is)
    (case a6 => k_is)
    (case t6 => k_is)
    (case l6 => k_is)
    (case c6 => k_is)
    (case k6 => k_is)
    (case a7 => k_is)
    (case t7 => k_is)
    (case l7 => k_is)
    (case c7 => k_is)
    (case k7 => k_is)
    (case a8 => k_is)
    (case l8 => k_is)
    (case c8 => k_is)
    (case k8 => k_is)
    (case a9 => k_is)
    (case t9 => k_is)
    (case l9 => k_is)
    (case c9 => k_is)
    (case k9 => k_is)
    (case a10 => k_is)
    (case t10 => k_is)
    (case l10 => k_is)
    (case c10 => k_is)
    (case k10 => k_is)
    (case a11 => k_is)
    (case t11 => k_is)
    (case l11 => k_is)
    (case c11 => k_is)
    (case k11 => k_is)
    (case a12 => k_is)
    (case t12 => k_is)
    (case l12 => k_is)
    (case c12 => k_is)
    (case k12 => k_is)
    (case a13 => k_is)
    (case t13 => k_is)
    (case l13 => k_is)
    (case c13 => k_is)
    (case k13 => k_is)
    (case a14 => k_is)
    (case l14 => k_is)
    (case c14 => k_is)
    (case k14 => k_is)
    (case a15 => k_is)
    (case l15 => k_is)
    (case c15 => k_is)
    (case k15 => k_is)
    (case a16 => k_is)
    (case l16 => k_is)
    (case c16 => k_is)
    (case k16 => k_is)
    (case a17 => k_is)
    (case l17 => k_is)
    (case c17 => k_is)
    (case k17 => k_is)
    (case a18 => k_is)
    (case l18 => k_is)
    (case c18 => k_is)
    (case k18 => k_is)
    (case a19 => k_is)
    (case l19 => k_is)
    (case c19 => k_is)
    (case k19 => k_is)
    (case a20 => k_is)
    (case l20 => k_is)
    (case c20 => k_is)
    (case k20 => k_is)
    (case a21 => k_is)
    (case l21 => k_is)
    (case c21 => k_is)
    (case k21 => k_is)
    (case a22 => k_is)
    (case l22 => k_is)
    (case c22 => k_is)
    (case k22 => k_is)
    (case a23 => k_is)
    (case l23 => k_is)
    (case c23 => k_is)
    (case k23 => k_is)
    (case z0 => k_is)
    (case z1 => k_is)
    (case z2 => k_is)
    (case z3 => k_is)
    (case z4 => k_is)
    (case z5 => k_is)
    (case z6 => k_is)
    (case z7 => k_is)
    (case z8 => k_is)
    (case z9 => k_is)
    (case hn1 => k_is)
    (case tk1 => k_is)
    (case haPaper => k_is)
    (case moPaper => k_is)
    (case tCPaper => k_is)
    (case iCPaper => k_is)
    (case rdPaper => k_is)
    (case cnPaper => kernel_rfl)
    (case cpPaper => k_is)
    (case fcPaper => k_is)
    (case boPaper => k_is)
    (case eqPaper => k_is)
    (case nePaper => k_is)
    (case sdPaper => k_is)
    (case ndPaper => decide)
    (case haDenial => k_is)
    (case moDenial => k_is)
    (case tCDenial => k_is)
    (case iCDenial => k_is)
    (case rdDenial => k_is)
    (case cnDenial => kernel_rfl)
    (case cpDenial => k_is)
    (case fcDenial => k_is)
    (case boDenial => k_is)
    (case eqDenial => k_is)
    (case neDenial => k_is)
    (case spDenial => k_is)
    (case npDenial => decide)
    (case haAlike => k_is)
    (case moAlike => k_is)
    (case tCAlike => k_is)
    (case iCAlike => k_is)
    (case rdAlike => k_is)
    (case cnAlike => kernel_rfl)
    (case cpAlike => k_is)
    (case fcAlike => k_is)
    (case boAlike => k_is)
    (case eqAlike => k_is)
    (case neAlike => k_is)
    (case spAlike => k_is)
    (case npAlike => decide)
    (case sdAlike => k_is)
    (case ndAlike => decide)
    (case haUnlike => k_is)
    (case moUnlike => k_is)
    (case tCUnlike => k_is)
    (case iCUnlike => k_is)
    (case rdUnlike => k_is)
    (case cnUnlike => kernel_rfl)
    (case cpUnlike => k_is)
    (case fcUnlike => k_is)
    (case boUnlike => k_is)
    (case eqUnlike => k_is)
    (case neUnlike => k_is)
    (case spUnlike => k_is)
    (case npUnlike => decide)
    (case sdUnlike => k_is)
    (case ndUnlike => decide)
    (case haWon => k_is)
    (case moWon => k_is)
    (case tCWon => k_is)
    (case iCWon => k_is)
    (case rdWon => k_is)
    (case cnWon => kernel_rfl)
    (case cpWon => k_is)
    (case fcWon => k_is)
    (case boWon => k_is)
    (case eqWon => k_is)
    (case neWon => k_is)
    (case spWon => k_is)
    (case npWon => decide)
    (case sdWon => k_is)
    (case ndWon => decide)
    (case haUnwon => k_is)
    (case moUnwon => k_is)
    (case tCUnwon => k_is)
    (case iCUnwon => k_is)
    (case rdUnwon => k_is)
    (case cnUnwon => kernel_rfl)
    (case cpUnwon => k_is)
    (case fcUnwon => k_is)
    (case boUnwon => k_is)
    (case eqUnwon => k_is)
    (case neUnwon => k_is)
    (case spUnwon => k_is)
    (case npUnwon => decide)
    (case sdUnwon => k_is)
    (case ndUnwon => decide)
    (case haFamily => k_is)
    (case moFamily => k_is)
    (case tCFamily => k_is)
    (case iCFamily => k_is)
    (case rdFamily => k_is)
    (case cnFamily => kernel_rfl)
    (case cpFamily => k_is)
    (case fcFamily => k_is)
    (case boFamily => k_is)
    (case eqFamily => k_is)
    (case neFamily => k_is)
    (case spFamily => k_is)
    (case npFamily => decide)
    (case sdFamily => k_is)
    (case ndFamily => decide)
    (case sgPaper => k_is)
    (case fiPaper => k_is)
    (case sgDenial => k_is)
    (case fiDenial => k_is)
    (case ktP => k_is)
    (case suB => kernel_rfl)
    (case nfB => kernel_rfl)
    (case ntB => kernel_rfl)

