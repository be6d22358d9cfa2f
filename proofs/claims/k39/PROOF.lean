import PyProof.Rows.All
import Wide.All
import OpenK.AllK
import Wide.FinOn
import HandS.ForMost
import HandS.IsInst
import HandS.Defaults
import HandS.Flow
import HandS.MakeKwOnly
import PyProof.ReprRoads
import HandS.Wide
import HandS.Walk
import PyProof.ReprBulk
import PyProof.Rows.ReprOcc
import HandS.SetBool
import HandS.TupSets
import HandS.More
import HandS.Iter
import HandS.ClsMeth
import KE.KCallOwn
import HandS.EndTab
import HandS.Strs
import HandS.SortRule
import HandS.FStr
import KE.KFmtOwn
import KE.SortData
import HandS.DictComp
import HandS.NoneIn
import HandS.MakeKw
import HandS.RaiseMore
import HandS.Exc
import HandS.ExcField
import HandS.TryMany
import HandS.WordsExc
import KE.KDictDisplayH
import HandS.DictTup
import HandS.Lambda
import HandS.ExcInit
import HandS.ExcIs
import KE.KTypeName
import HandS.Star
import KE.KDictCopyH
import KE.KDictSum
import PyProof.LongRange
import HandS.Conv
import HandS.Text
import HandS.Codes
import HandS.OwnEq
import PyProof.EqKinds
import HandS.DictEq
import PyProof.P3Eq
import HandS.SetKeys
import KE.GoesEnum
import KE.GoesMore
import HandS.Zip
import HandS.Style
import HandS.Comp
import HandS.WideBits
import PySem.Challenge.RW_gapsame_k39_ways_on_of_books_and_refusal
import HandS.TupAny
set_option Elab.async false
set_option linter.all false
set_option maxRecDepth 100000
set_option maxHeartbeats 4000000
/-! Layer G: calls under which no guard stands, so that repr tells the whole; data with dicts; what a bag of draws is. -/
namespace Gs
open PySem PySem.Spec PyProof.Rows L2

theorem szl {n : Nat} (h : Nat.ble n 1000 = true) : n ≤ sizeLine := Nat.le_trans (Nat.le_of_ble_eq_true h) (by decide)
theorem szl2 {n : Nat} (h : Nat.ble n 1000 = true) : n ≤ 1000 := Nat.le_of_ble_eq_true h
theorem szm {n : Nat} (h : n ≤ 1000) : n ≤ sizeLine := Nat.le_trans h (by decide)
theorem szs {n : Nat} (h : n < 1000) : n < sizeLine := Nat.lt_of_lt_of_le h (by decide)
/-! ### promises of defs that are entered with no guard -/
structure FnG (P : Program) (w : World) (K : PySem.W.Frag) (mg : Str → Option Value) (base : Heap) (CX : CXT) (k : Nat) (f : Addr)
    (fd : FuncData) (ps : List Str) (sp : Sp) : Prop where
  len : ∀ vs H Q E, sp vs H Q E → vs.length = ps.length
  run : ∀ (A : Around) (outer : List Env) (s : Shared) (H : Hp) (args : Args) (us : List Value) (vs : List V) (Q : VK) (E : XK),
    Room k A → A.guards = some [] → Env0 P w K mg base A outer s H → BindsTo s fd args (ps.zip us) → Vals vs us → sp vs H Q E →
      codeAny (model P w) A (.call (.ref f) args) (CR CX outer P w H s Q E) s
section
variable {P : Program} {w : World} {K : PySem.W.Frag} {mg : Str → Option Value} {base : Heap} {CX : CXT} {j k : Nat} {f : Addr} {fd : FuncData} {ps : List Str} {sp sp' : Sp}
theorem FnG.of (F : FnOk P w K mg base CX k f fd ps sp) : FnG P w K mg base CX k f fd ps sp :=
  ⟨F.len, fun A o s H args us vs Q E hr _ => F.run A o s H args us vs Q E hr⟩
theorem FnG.mono (F : FnG P w K mg base CX j f fd ps sp) (h : j ≤ k) : FnG P w K mg base CX k f fd ps sp :=
  ⟨F.len, fun A o s H args us vs Q E hr => F.run A o s H args us vs Q E (hr.mono h)⟩

theorem fn_ofG {name qual : Str} {params : Arguments} {body : List Stmt} {scope : Scope} {dV kV doc pm cdv ct oc : Value} {an od : Option Addr}
    {osl : Array (Option Value)} {N : List Str}
    (lk : K.lookup f = some ⟨oc, od, .func (PySem.W.fnOf name qual params body scope dV kV doc pm an cdv ct), osl⟩)
    (hcd : PySem.W.codeIn K cdv qual = true) (S : FnScope N ps scope)
    (len : ∀ vs H Q E, sp vs H Q E → vs.length = ps.length)
    (hb : ∀ (A : Around) (outer : List Env) (s : Shared) (H : Hp) (vs : List V) (Q : VK) (E : XK),
      Room k (A.deeper (envOfC qual scope s.heap.objs.size f cdv)) → (A.deeper (envOfC qual scope s.heap.objs.size f cdv)).guards = some [] → sp vs H Q E →
      ∃ t, PSs (cxOf CX P w K mg base N qual scope f cdv A outer s H E) body t ∧ t { nx := fun _ H' => Q .non H', rt := Q } (start N vs) H) :
    FnG P w K mg base CX (k + 1) f (PySem.W.fnOf name qual params body scope dV kV doc pm an cdv ct) ps sp := by
  refine ⟨len, fun A outer s H args us vs Q E hr hgd e0 hbind rv hsp => ?_⟩
  have hl : vs.length = ps.length := len _ _ _ _ hsp
  have kin : K.In s.heap := e0.mod.kin.keeps (fun b o e => (e0.bs b o e).1)
  have noL : s.heap.NoLimit := e0.mod.nolimit.keeps (fun b o e => (e0.bs b o e).1)
  have kinds : ∀ y ∈ ps.zip us, scope.names.lookup y.1 = some .local ∨
      (scope.names.lookup y.1 = some .cell ∧ ((cellsFrom (s.heap.objs.size + 1) scope.names []).lookup y.1).isSome = true) := by
    rintro ⟨n, v⟩ hy
    have hn := (List.of_mem_zip hy).1
    cases S.par n hn with
    | inl q => exact Or.inl q
    | inr q => exact Or.inr ⟨q, PySem.W.cellsFrom_some _ _ _ (Or.inl q)⟩
  refine codeAny_call_function hr.depth (kin _ _ lk) rfl S.co S.gen rfl (PySem.W.codeRec_of kin hcd) (hbind _ _ _ _ ?_)
  refine wpAny_newFunctionEnv_cells S.kind kinds (fun env he s1 x => ?_)
  subst he
  refine ⟨noL.keeps x.toInCall.keep, codeAny_func ?_⟩
  obtain ⟨t, ht, hq⟩ := hb A outer s H vs Q E (hr.deeper _) hgd hsp
  have I := inv_start (CX := CX) (f := f) (cd := cdv) (qual := qual) (E := E) S hr.hd e0 hl rv x
  refine wpAny_mono (ht.run [] s1 (start N vs) H _ I hq) (fun fl s' hs => ?_) (fun e s' hs => hs)
  have done : ∀ {σ' : L2.St} {H' : Hp} {v : V} {u : Value}, Inv (cxOf CX P w K mg base N qual scope f cdv A outer s H E) [] σ' H' s' →
      RelV v u → Q v H' → CE outer P w H s Q u s' := by
    intro σ' H' v u J r2 q2
    exact ⟨v, H', J.os, J.bare, J.base, J.hok, r2, q2⟩
  cases fl with
  | ret u => obtain ⟨v, σ', H', J, r2, q2⟩ := hs; exact done J r2 q2
  | next => obtain ⟨σ', H', J, q2⟩ := hs; exact done (v := V.non) (u := Value.none) J rfl q2
  | brk => obtain ⟨_, _, _, q2⟩ := hs; exact q2.elim
  | cont => obtain ⟨_, _, _, q2⟩ := hs; exact q2.elim

/-- a def of the text without defaults; it may let out what CX tells -/
theorem fun_okX {x qual : Str} {st : Stmt} {N : List Str} (F : Fun K x qual st f fd) (S : FnScope N ps (defScope st))
    (len : ∀ vs H Q E, sp vs H Q E → vs.length = ps.length)
    (hb : ∀ (cdv : Value) (A : Around) (outer : List Env) (s : Shared) (H : Hp) (vs : List V) (Q : VK) (E : XK),
      Room k (A.deeper (envOfC qual (defScope st) s.heap.objs.size f cdv)) → (A.deeper (envOfC qual (defScope st) s.heap.objs.size f cdv)).guards = some [] → sp vs H Q E →
      ∃ t, PSs (cxOf CX P w K mg base N qual (defScope st) f cdv A outer s H E) (defBody st) t ∧
        t { nx := fun _ H' => Q .non H', rt := Q } (start N vs) H) : FnG P w K mg base CX (k + 1) f fd ps sp := by
  obtain ⟨oc, od, kV, doc, pm, an, cdv, ct, osl, rfl, lk, hcd⟩ := F.ex
  exact fn_ofG lk hcd S len (fun A outer s H vs Q E hr hg hsp => hb cdv A outer s H vs Q E hr hg hsp)
/-- a def of the text without defaults; nothing is raised out of it -/
theorem fun_okG {x qual : Str} {st : Stmt} {N : List Str} (F : Fun K x qual st f fd) (S : FnScope N ps (defScope st))
    (len : ∀ vs H Q E, sp vs H Q E → vs.length = ps.length)
    (hb : ∀ (cdv : Value) (A : Around) (outer : List Env) (s : Shared) (H : Hp) (vs : List V) (Q : VK) (E : XK),
      Room k (A.deeper (envOfC qual (defScope st) s.heap.objs.size f cdv)) → (A.deeper (envOfC qual (defScope st) s.heap.objs.size f cdv)).guards = some [] → sp vs H Q E →
      ∃ t, PSs (cxOf CX0 P w K mg base N qual (defScope st) f cdv A outer s H E).nox (defBody st) t ∧
        t { nx := fun _ H' => Q .non H', rt := Q } (start N vs) H) : FnG P w K mg base CX0 (k + 1) f fd ps sp := by
  refine fun_okX F S len (fun cdv A outer s H vs Q E hr hg hsp => ?_)
  obtain ⟨t, h, q⟩ := hb cdv A outer s H vs Q E hr hg hsp
  exact ⟨t, h.nox, q⟩
end

section
variable {X : Cx} {CX : CXT} {k n : Nat} {f C : Addr} {fd : FuncData} {ps ks : List Str} {sp : Sp} {dvs : List V} {ds : List Value} {E : XK}
  {x : Str} {p pos : Pos} {e : Expr} {es : List Expr} {kws : List Keyword} {t tk : TA} {g : List Value → List Value → List Value} {gV : List V → List V → List V}
/-- how the parameters are bound by positional values and keywords (names ks) -/
structure KB (K : PySem.W.Frag) (fd : FuncData) (ps ks : List Str) (n : Nat) (g : List Value → List Value → List Value) (gV : List V → List V → List V) : Prop where
  to : ∀ (s : Shared) (us ws : List Value), K.In s.heap → us.length = n → ws.length = ks.length → BindsTo s fd ⟨us, ks.zip ws⟩ (ps.zip (g us ws))
  rel : ∀ {vs : List V} {us : List Value} {zs : List V} {ws : List Value}, vs.length = n → zs.length = ks.length → Vals vs us → Vals zs ws → Vals (gV vs zs) (g us ws)

theorem run_any {pins : List (Addr × Obj)} {σ : L2.St} {H : Hp} {s : Shared} {Q : VK} {us : List Value} {vs : List V} {vals : List Value} {kw : List (Str × Value)}
    (F : FnG X.prog X.w X.K X.mg X.base CX k f fd ps sp) (hr : Room k X.A) (hg : X.A.guards = some []) (hx : Passes CX X E)
    (I : Inv X pins σ H s) (b : BindsTo s fd ⟨vals, kw⟩ (ps.zip us)) (r : Vals vs us) (h : sp vs H Q E) :
    wpAny (model X.prog X.w) X.A (call (.ref f) vals kw) (EP X pins σ Q) X.xe s := by
  refine wpAny_call (codeAny_mono (F.run X.A X.stack s H ⟨vals, kw⟩ us vs Q E hr hg I.env0 b r h) (fun r' s' hq => ?_))
  match r', hq with
  | .error e, hq => exact hx pins σ H s e s' I hq
  | .ok (.ret u), hq => exact I.after hq
  | .ok .next, hq => exact hq.elim
  | .ok .brk, hq => exact hq.elim
  | .ok .cont, hq => exact hq.elim

/-- f(e, ..) -/
theorem pg_call (F : FnG X.prog X.w X.K X.mg X.base CX k f fd ps sp) (hr : Room k X.A) (hgd : X.A.guards = some []) (hg : Gl X x) (hm : X.mg x = some (.ref f))
    (hk : PySem.W.keepIn X.K (.ref f) = true) (hb : Binds X.K fd ps ds) (hd : Vals dvs ds) (hx : Passes CX X E)
    (ha : PA X (e :: es) t) (hdb : (x == ("__debug__" : Str)) = false := by decide) (he : starEach (e :: es) X.env = (false, eval e X.env) :: starEach es X.env := by rfl)
    (hpl : (backTo pos (starEach es X.env)).any (·.1) = false := by rfl) :
    PE X (.Call (.Name x p) (e :: es) [] pos) (tCall sp dvs E t) := by
  constructor
  intro pins s σ H Q I h
  refine wpAny_Call_Name_kw (ld_glob I hg hm ?_ hdb)
  refine PySem.W.callWith_K (h₀ := X.base) I.ok.mod.kin hk (thn (ha.run pos pins s σ H _ I h) fun us s1 ⟨vs, H1, I1, r, q⟩ => ⟨I1.kIn, ?_⟩) he hpl
  have r2 := r.append hd
  exact run_any (vals := us) (kw := []) F hr hgd hx I1 (hb s1 us I1.kIn (by rw [← r2.length]; exact F.len _ _ _ _ q)) r2 q
/-- f() -/
theorem pg_call0 (F : FnG X.prog X.w X.K X.mg X.base CX k f fd ps sp) (hr : Room k X.A) (hgd : X.A.guards = some []) (hg : Gl X x) (hm : X.mg x = some (.ref f))
    (hk : PySem.W.keepIn X.K (.ref f) = true) (hb : Binds X.K fd ps ds) (hd : Vals dvs ds) (hx : Passes CX X E)
    (hdb : (x == ("__debug__" : Str)) = false := by decide) : PE X (.Call (.Name x p) [] [] pos) (tCall sp dvs E tNil) := by
  constructor
  intro pins s σ H Q I h
  refine wpAny_Call_Name_kw (ld_glob I hg hm ?_ hdb)
  have h : sp ([] ++ dvs) H Q E := h
  have r2 : Vals ([] ++ dvs) ([] ++ ds) := Vals.append .nil hd
  exact PySem.W.callWith_K0 I.kIn hk (run_any (vals := []) (kw := []) F hr hgd hx I (hb s [] I.kIn (by rw [← r2.length]; exact F.len _ _ _ _ h)) r2 h)
def tCallG (n m : Nat) (sp : Sp) (gV : List V → List V → List V) (E : XK) (t tk : TA) : TE := fun σ H Q => t σ H fun vs H1 => tk σ H1 fun zs H2 =>
  vs.length = n ∧ zs.length = m ∧ sp (gV vs zs) H2 Q E
/-- f(e, .., k = v, ..) -/
theorem pg_callK (F : FnG X.prog X.w X.K X.mg X.base CX k f fd ps sp) (hr : Room k X.A) (hgd : X.A.guards = some []) (hg : Gl X x) (hm : X.mg x = some (.ref f))
    (hk : PySem.W.keepIn X.K (.ref f) = true) (hb : KB X.K fd ps ks n g gV) (hx : Passes CX X E)
    (ha : PA X (e :: es) t) (hkw : PK X kws tk) (hall : (backToKw pos (keywordEach kws X.env)).all (·.1.isSome) = true := by rfl)
    (hks : (backToKw pos (keywordEach kws X.env)).filterMap (·.1) = ks := by rfl)
    (hdb : (x == ("__debug__" : Str)) = false := by decide) (he : starEach (e :: es) X.env = (false, eval e X.env) :: starEach es X.env := by rfl)
    (hpl : ((backTo pos (starEach (e :: es) X.env)).any (·.1) || (backToKw pos (keywordEach kws X.env)).any (·.1.isNone)) = false := by rfl) :
    PE X (.Call (.Name x p) (e :: es) kws pos) (tCallG n ks.length sp gV E t tk) := by
  constructor
  intro pins s σ H Q I h
  refine wpAny_Call_Name_kw (ld_glob I hg hm ?_ hdb)
  refine PySem.W.callWith_KW (h₀ := X.base) I.ok.mod.kin hk hall (thn (ha.run pos pins s σ H _ I h) fun us s1 ⟨vs, H1, I1, r, q⟩ => ?_) hpl he
  refine thn (hkw.run pos pins s1 σ H1 _ I1 q) fun ws s2 ⟨zs, H2, I2, rz, l1, l2, q2⟩ => ⟨I2.kIn, ?_⟩
  rw [hks]
  exact run_any (vals := us) (kw := ks.zip ws) F hr hgd hx I2 (hb.to s2 us ws I2.kIn (r.length.symm.trans l1) (rz.length.symm.trans l2)) (hb.rel l1 l2 r rz) q2
end

/-- f(k = v, ..) -/
theorem pg_callK0 {X : Cx} {CX : CXT} {k : Nat} {f : Addr} {fd : FuncData} {ps ks : List Str} {sp : Sp} {E : XK} {x : Str} {p pos : Pos} {kws : List Keyword} {tk : TA}
    {g : List Value → List Value → List Value} {gV : List V → List V → List V}
    (F : FnG X.prog X.w X.K X.mg X.base CX k f fd ps sp) (hr : Room k X.A) (hgd : X.A.guards = some []) (hg : Gl X x) (hm : X.mg x = some (.ref f))
    (hk : PySem.W.keepIn X.K (.ref f) = true) (hb : KB X.K fd ps ks 0 g gV) (hx : Passes CX X E) (hkw : PK X kws tk)
    (hall : (backToKw pos (keywordEach kws X.env)).all (·.1.isSome) = true := by rfl)
    (hks : (backToKw pos (keywordEach kws X.env)).filterMap (·.1) = ks := by rfl)
    (hdb : (x == ("__debug__" : Str)) = false := by decide)
    (hpl : ((backTo pos (starEach [] X.env)).any (·.1) || (backToKw pos (keywordEach kws X.env)).any (·.1.isNone)) = false := by rfl) :
    PE X (.Call (.Name x p) [] kws pos) (tCallG 0 ks.length sp gV E tNil tk) := by
  constructor
  intro pins s σ H Q I h
  refine wpAny_Call_Name_kw (ld_glob I hg hm ?_ hdb)
  refine PySem.W.callWith_KW0 (h₀ := X.base) I.ok.mod.kin hk hall ?_ hpl
  refine thn (hkw.run pos pins s σ H _ I h) fun ws s2 ⟨zs, H2, I2, rz, l1, l2, q2⟩ => ⟨I2.kIn, ?_⟩
  rw [hks]
  exact run_any (vals := []) (kw := ks.zip ws) F hr hgd hx I2 (hb.to s2 [] ws I2.kIn rfl (rz.length.symm.trans l2)) (hb.rel l1 l2 .nil rz) q2

/-! ### data, dicts among it; c: one address that is no part of it (the bag of draws) -/
def Ext (c : Addr) (H H' : Hp) : Prop := ∀ b o, b ≠ c → H b = some o → H' b = some o
theorem Ext.refl {c : Addr} {H : Hp} : Ext c H H := fun _ _ _ h => h
theorem Ext.trans {c : Addr} {H H1 H2 : Hp} (a : Ext c H H1) (b : Ext c H1 H2) : Ext c H H2 := fun x o n h => b x o n (a x o n h)
theorem Ext.new {c p : Addr} {H : Hp} {o : HO} (h : H p = none) : Ext c H (upd H p o) := fun b u _ e => by
  rw [upd_ne (ne_of_none e h)]; exact e
theorem Ext.bag {c : Addr} {H : Hp} {o : HO} : Ext c H (upd H c o) := fun b u n e => by
  rw [upd_ne n]; exact e
/-- a thing that the first heap did not know may change -/
theorem Ext.own {c p : Addr} {H H' : Hp} {o : HO} (e : Ext c H H') (h : H p = none) : Ext c H (upd H' p o) := fun b u n x => by
  rw [upd_ne (ne_of_none x h)]; exact e b u n x
theorem Ext.rd {c a : Addr} {H H' : Hp} {u : HO} (e : Ext c H H') (n : a ≠ c) (h : Rd H a u) : Rd H' a u := by
  rcases h with h | ⟨o, h⟩
  · exact .inl (e _ _ n h)
  · exact .inr ⟨o, e _ _ n h⟩
theorem Ext.sqL {K : PySem.W.Frag} {c a : Addr} {H H' : Hp} {xs : List V} (e : Ext c H H') (n : a ≠ c) (h : SqL K H a xs) : SqL K H' a xs := by
  rcases h with h | h
  · exact .inl (e.rd n h)
  · exact .inr h
theorem Ext.sqT {K : PySem.W.Frag} {c a : Addr} {H H' : Hp} {xs : List V} (e : Ext c H H') (n : a ≠ c) (h : SqT K H a xs) : SqT K H' a xs := by
  rcases h with h | h
  · exact .inl (e.rd n h)
  · exact .inr h
mutual
inductive DV (K : PySem.W.Frag) (c : Addr) (H : Hp) : V → PyData → Prop
  | non : DV K c H .non .none
  | bl (b : Bool) : DV K c H (.bl b) (.bool b)
  | int (i : Int) : DV K c H (.int i) (.int i)
  | str (x : Str) : DV K c H (.str x) (.str x)
  | lst {a : Addr} {xs : List V} {ds : List PyData} : a ≠ c → SqL K H a xs → DVs K c H xs ds → DV K c H (.ref a) (.list ds)
  | tup {a : Addr} {xs : List V} {ds : List PyData} : a ≠ c → SqT K H a xs → DVs K c H xs ds → DV K c H (.ref a) (.tuple ds)
  | dic {a : Addr} {kvs : List (Key × V)} {ps : List (PyData × PyData)} : a ≠ c → H a = some (.dK kvs) → DKs K c H kvs ps → DV K c H (.ref a) (.dict ps)
  | dct {a : Addr} {kvs : List (List Key × V)} {ps : List (PyData × PyData)} : a ≠ c → H a = some (.dT kvs) → PyData.showable (.dict ps) = false → DV K c H (.ref a) (.dict ps)
inductive DVs (K : PySem.W.Frag) (c : Addr) (H : Hp) : List V → List PyData → Prop
  | nil : DVs K c H [] []
  | cons {v : V} {vs : List V} {d : PyData} {ds : List PyData} : DV K c H v d → DVs K c H vs ds → DVs K c H (v :: vs) (d :: ds)
inductive DKs (K : PySem.W.Frag) (c : Addr) (H : Hp) : List (Key × V) → List (PyData × PyData) → Prop
  | nil : DKs K c H [] []
  | cons {k : Key} {v : V} {r : List (Key × V)} {d e : PyData} {ps : List (PyData × PyData)} : DV K c H (kV k) d → DV K c H v e → DKs K c H r ps → DKs K c H ((k, v) :: r) ((d, e) :: ps)
end
section
variable {K : PySem.W.Frag} {c : Addr} {H H' : Hp}
mutual
theorem DV.ext (e : Ext c H H') : ∀ (d : PyData) (v : V), DV K c H v d → DV K c H' v d
  | .none, _, h => by cases h; exact .non
  | .bool _, _, h => by cases h; exact .bl _
  | .int _, _, h => by cases h; exact .int _
  | .str _, _, h => by cases h; exact .str _
  | .list ds, _, h => by
    cases h with
    | lst n s r => exact .lst n (e.sqL n s) (DVs.ext e ds _ r)
  | .tuple ds, _, h => by
    cases h with
    | tup n s r => exact .tup n (e.sqT n s) (DVs.ext e ds _ r)
  | .dict ps, _, h => by
    cases h with
    | dic n s r => exact .dic n (e _ _ n s) (DKs.ext e ps _ r)
    | dct n s z => exact .dct n (e _ _ n s) z
theorem DVs.ext (e : Ext c H H') : ∀ (ds : List PyData) (vs : List V), DVs K c H vs ds → DVs K c H' vs ds
  | [], _, h => by cases h; exact .nil
  | d :: ds, _, h => by
    cases h with
    | cons a b => exact .cons (DV.ext e d _ a) (DVs.ext e ds _ b)
theorem DKs.ext (e : Ext c H H') : ∀ (ps : List (PyData × PyData)) (vs : List (Key × V)), DKs K c H vs ps → DKs K c H' vs ps
  | [], _, h => by cases h; exact .nil
  | (d, f) :: ps, _, h => by
    cases h with
    | cons a b r => exact .cons (DV.ext e d _ a) (DV.ext e f _ b) (DKs.ext e ps _ r)
end
theorem DVs.len : ∀ {vs : List V} {ds : List PyData}, DVs K c H vs ds → vs.length = ds.length
  | _, _, .nil => rfl
  | _, _, .cons _ b => congrArg Nat.succ (DVs.len b)
theorem DVs.at : ∀ {vs : List V} {ds : List PyData} {i : Nat} {v : V}, DVs K c H vs ds → vs[i]? = some v → ∃ d, ds[i]? = some d ∧ DV K c H v d
  | _, _, i, _, .nil, h => by simp at h
  | _, _, 0, _, .cons a _, h => by simp at h; subst h; exact ⟨_, rfl, a⟩
  | _, _, i + 1, _, .cons _ b, h => by simpa using DVs.at b (by simpa using h)
theorem DVs.append : ∀ {vs ws : List V} {ds es : List PyData}, DVs K c H vs ds → DVs K c H ws es → DVs K c H (vs ++ ws) (ds ++ es)
  | _, _, _, _, .nil, h => h
  | _, _, _, _, .cons a b, h => .cons a (DVs.append b h)
end
section
variable {X : Cx} {pins : List (Addr × Obj)} {σ : L2.St} {H : Hp} {s : Shared} {c : Addr}
/-- what is known of a value that bears d, for its text -/
def Shows (X : Cx) (h : Heap) (u : Value) (d : PyData) : Prop := (∃ as, Reads h u d as) ∧ ∃ bs, ReadAtMost h d.depth bs ∧ ReprK X.prog X.w bs h d.depth u d.shown
def ShowsS (X : Cx) (h : Heap) (us : List Value) (ds : List PyData) : Prop := (∃ as, ReadsAll h us ds as) ∧
  ∃ bs, ReadAtMost h (PyData.depthAll ds) bs ∧ ReprAllK X.prog X.w bs h (PyData.depthAll ds) us (PyData.shownAll ds)
theorem ShowsS.nil {h : Heap} : ShowsS X h [] [] := ⟨⟨_, .nil⟩, [], (fun _ z => nomatch z), .nil⟩
theorem ShowsS.cons {h : Heap} {u : Value} {us : List Value} {d : PyData} {ds : List PyData} (a : Shows X h u d) (b : ShowsS X h us ds) : ShowsS X h (u :: us) (d :: ds) := by
  obtain ⟨⟨as, r⟩, bs, m, k⟩ := a
  obtain ⟨⟨as', r'⟩, bs', m', k'⟩ := b
  have l1 : d.depth ≤ PyData.depthAll (d :: ds) := by simp only [PyData.depthAll]; exact Nat.le_max_left _ _
  have l2 : PyData.depthAll ds ≤ PyData.depthAll (d :: ds) := by simp only [PyData.depthAll]; exact Nat.le_max_right _ _
  exact ⟨⟨_, .cons r r'⟩, bs ++ bs', (m.mono l1).append (m'.mono l2), .cons ((k.more fun _ z => List.mem_append_left _ z).level_le l1) (k'.more_le (fun _ z => List.mem_append_right _ z) l2)⟩
theorem dict_len {ps : List (PyData × PyData)} (h : (PyData.shown (.dict ps)).length ≤ sizeLine) : (∀ t ∈ PyData.shownAll (ps.map (·.1)), t.length ≤ sizeLine) ∧ ∀ t ∈ PyData.shownAll (ps.map (·.2)), t.length ≤ sizeLine := by
  have h' : (dictText (PyData.shownKv ps)).length ≤ sizeLine := by simpa only [PyData.shown] using h
  constructor
  · intro t ht
    obtain ⟨p, hp, hl⟩ := PyData.shownKv_key_le ps t ht
    exact Nat.le_trans hl (Nat.le_trans (dictText_mem_le hp) h')
  · intro t ht
    obtain ⟨p, hp, hl⟩ := PyData.shownKv_val_le ps t ht
    exact Nat.le_trans hl (Nat.le_trans (dictText_mem_le hp) h')
mutual
theorem DV.shows (I : Inv X pins σ H s) : ∀ (d : PyData) (v : V) (u : Value), DV X.K c H v d → L2.RelV v u → d.showable = true → d.shown.length ≤ sizeLine → Shows X s.heap u d
  | .none, _, _, h, r, _, _ => by
    cases h; cases r
    exact ⟨⟨_, .none⟩, [], (fun _ z => nomatch z), .of_is ReprIs.none _ _ _⟩
  | .bool b, _, _, h, r, _, _ => by
    cases h; cases r
    exact ⟨⟨_, .bool b⟩, [], (fun _ z => nomatch z), .of_is (ReprIs.bool b) _ _ _⟩
  | .int i, _, _, h, r, hs, _ => by
    cases h; obtain ⟨t, rfl⟩ := r
    exact ⟨⟨_, .int i t⟩, [], (fun _ z => nomatch z), .of_is (ReprIs.int t (by simpa [PyData.showable] using hs)) _ _ _⟩
  | .str x, _, _, h, r, _, hz => by
    cases h; obtain ⟨t, rfl⟩ := r
    exact ⟨⟨_, .str x t⟩, [], (fun _ z => nomatch z), .of_is (ReprIs.str x t (by simpa only [PyData.shown] using hz)) _ _ _⟩
  | .list ds, _, _, h, r, hs, hz => by
    cases h with
    | lst n hq ha =>
      cases r
      obtain ⟨its, rv, ⟨o, m, ho, hc, _, hd⟩, _⟩ := I.list hq
      have hz' : (listText (PyData.shownAll ds)).length ≤ sizeLine := by simpa only [PyData.shown] using hz
      obtain ⟨⟨as, rs⟩, bs, mb, kb⟩ := DVs.shows I ds _ its ha rv (by simpa [PyData.showable] using hs) (fun t ht => Nat.le_trans (listText_mem_le ht) hz')
      have rd : Reads s.heap (.ref _) (.list ds) _ := .list ho hc hd rs
      have lt : PyData.depthAll ds < (PyData.list ds).depth := by simp only [PyData.depth]; omega
      have out := not_mem_of_deeper rd lt mb
      refine ⟨⟨_, rd⟩, _, ReadAtMost.cons rd (Nat.le_of_lt lt) mb, ?_⟩
      simp only [PyData.depth, PyData.shown]
      match its, rs, kb, hd with
      | [], rs, _, hd =>
        cases rs
        simp only [PyData.shownAll, listText_nil]
        exact ReprK.listEmpty ho hc hd
      | x :: l, _, kb, hd => exact ReprK.list ho hc hd out (by simpa using kb.length_eq) (fun i y e => kb.item i y (by simpa using e))
  | .tuple ds, _, _, h, r, hs, hz => by
    cases h with
    | tup n hq ha =>
      cases r
      obtain ⟨its, rv, ⟨o, ho, hc, m, hd⟩, _⟩ := I.tuple hq
      have hz' : (tupleText (PyData.shownAll ds)).length ≤ sizeLine := by simpa only [PyData.shown] using hz
      obtain ⟨⟨as, rs⟩, bs, mb, kb⟩ := DVs.shows I ds _ its ha rv (by simpa [PyData.showable] using hs) (fun t ht => Nat.le_trans (tupleText_mem_le ht) hz')
      have rd : Reads s.heap (.ref _) (.tuple ds) _ := .tuple ho hc hd rs
      have lt : PyData.depthAll ds < (PyData.tuple ds).depth := by simp only [PyData.depth]; omega
      have out := not_mem_of_deeper rd lt mb
      refine ⟨⟨_, rd⟩, _, ReadAtMost.cons rd (Nat.le_of_lt lt) mb, ?_⟩
      simp only [PyData.depth, PyData.shown]
      exact ReprK.tuple ho hc hd out kb
  | .dict ps, _, _, h, r, hs, hz => by
    cases h with
    | dic n hq ha =>
      cases r
      obtain ⟨_, hsm, vs, kv, o, es, ep, ho, hx, hd, _, pr, _⟩ := I.hok _ _ hq
      obtain ⟨hs1, hs2⟩ := PyData.showableKv_split ps (by simpa [PyData.showable] using hs)
      obtain ⟨hz1, hz2⟩ := dict_len hz
      obtain ⟨⟨⟨as, r1⟩, b1, m1, k1⟩, ⟨as', r2⟩, b2, m2, k2⟩ := DKs.shows I ps _ es.toList vs ha kv pr hs1 hs2 hz1 hz2
      have rd : Reads s.heap (.ref _) (.dict ps) _ := .dict ho hx.1 hd r1 r2
      have lt : PyData.depthKv ps < (PyData.dict ps).depth := by simp only [PyData.depth]; omega
      have mb := (m1.mono (PyData.depthAll_keys_le ps)).append (m2.mono (PyData.depthAll_vals_le ps))
      have out := not_mem_of_deeper rd lt mb
      refine ⟨⟨_, rd⟩, _, ReadAtMost.cons rd (Nat.le_of_lt lt) mb, ?_⟩
      simp only [PyData.depth, PyData.shown, PyData.shownKv_eq]
      exact ReprK.dict ho hx.1 hd hsm out (.of_two es.toList _ _ (k1.more_le (fun _ z => List.mem_append_left _ z) (PyData.depthAll_keys_le ps))
        (k2.more_le (fun _ z => List.mem_append_right _ z) (PyData.depthAll_vals_le ps)))
    | dct n q z => rw [z] at hs; cases hs
theorem DVs.shows (I : Inv X pins σ H s) : ∀ (ds : List PyData) (vs : List V) (us : List Value), DVs X.K c H vs ds → L2.Vals vs us → PyData.showableAll ds = true → (∀ t ∈ PyData.shownAll ds, t.length ≤ sizeLine) → ShowsS X s.heap us ds
  | [], _, _, h, r, _, _ => by
    cases h; cases r
    exact .nil
  | d :: ds, _, _, h, r, hs, hz => by
    cases h with
    | cons h1 h2 =>
      cases r with
      | cons r1 r2 =>
        have hs' : d.showable = true ∧ PyData.showableAll ds = true := by simpa [PyData.showableAll] using hs
        simp only [PyData.shownAll] at hz
        exact .cons (DV.shows I d _ _ h1 r1 hs'.1 (hz _ List.mem_cons_self)) (DVs.shows I ds _ _ h2 r2 hs'.2 fun t ht => hz t (List.mem_cons_of_mem _ ht))
theorem DKs.shows (I : Inv X pins σ H s) : ∀ (ps : List (PyData × PyData)) (kvs : List (Key × V)) (es : List DictEntry) (vs : List (Key × Value)), DKs X.K c H kvs ps → KV kvs vs →
    Pairs (mixKind X.prog X.w) es vs → PyData.showableAll (ps.map (·.1)) = true → PyData.showableAll (ps.map (·.2)) = true →
    (∀ t ∈ PyData.shownAll (ps.map (·.1)), t.length ≤ sizeLine) → (∀ t ∈ PyData.shownAll (ps.map (·.2)), t.length ≤ sizeLine) →
    ShowsS X s.heap (es.map (·.key)) (ps.map (·.1)) ∧ ShowsS X s.heap (es.map (·.val)) (ps.map (·.2))
  | [], _, _, _, h, r, p, _, _, _, _ => by
    cases h; cases r; cases p
    exact ⟨.nil, .nil⟩
  | (d, f) :: ps, (k, v) :: kvs, e :: es', kv :: vs', h, r, p, hs1, hs2, hz1, hz2 => by
    cases h with
    | cons h1 h2 h3 =>
      cases r with
      | cons r1 r2 =>
        cases p with
        | cons p1 p2 p3 =>
          obtain ⟨e1, r1⟩ := r1
          have rk : L2.RelV (kV k) e.key := by
            have p1 : keyIs kv.1 e.key = true := p1
            rw [← e1] at p1
            rcases keyIs_shape p1 with ⟨i, t, q1, q2⟩ | ⟨z, t, q1, q2⟩
            · rw [q2]; simp only at q1; rw [q1]; exact ⟨t, rfl⟩
            · rw [q2]; simp only at q1; rw [q1]; exact ⟨t, rfl⟩
          have a1 : d.showable = true ∧ PyData.showableAll (ps.map (·.1)) = true := by simpa [PyData.showableAll] using hs1
          have a2 : f.showable = true ∧ PyData.showableAll (ps.map (·.2)) = true := by simpa [PyData.showableAll] using hs2
          simp only [List.map_cons, PyData.shownAll] at hz1 hz2
          obtain ⟨q3, q4⟩ := DKs.shows I ps _ es' vs' h3 r2 p3 a1.2 a2.2 (fun t ht => hz1 t (List.mem_cons_of_mem _ ht)) fun t ht => hz2 t (List.mem_cons_of_mem _ ht)
          exact ⟨.cons (DV.shows I d _ _ h1 rk a1.1 (hz1 _ List.mem_cons_self)) q3, .cons (DV.shows I f _ e.val h2 (by rw [p2]; exact r1) a2.1 (hz2 _ List.mem_cons_self)) q4⟩
  | (d, f) :: ps, [], _, _, h, r, p, _, _, _, _ => by cases h
  | (d, f) :: ps, _ :: _, [], _, h, r, p, _, _, _, _ => by cases p; cases r
  | (d, f) :: ps, _ :: _, _, [], h, r, p, _, _, _, _ => by cases r
end
/-- repr of data -/
def rRepr (K : PySem.W.Frag) : List V → Hp → VK → Prop := fun xs H Q => ∃ (c a : Addr) (d : PyData), xs = [.ref a] ∧ DV K c H (.ref a) d ∧ d.showable = true ∧ d.depth ≤ 60 ∧ d.shown.length ≤ sizeLine ∧ Q (.str d.shown) H
theorem call_repr {k : Nat} (hr : Room k X.A) (hg : X.A.guards = some []) : CallR X (.builtin "repr") (rRepr X.K) := by
  intro pins s σ H xs us Q I r h
  obtain ⟨c, a, d, rfl, hd, hs, hdp, hz, q⟩ := h
  match us, r with
  | [u], .cons r1 .nil =>
    cases (show u = Value.ref a from r1)
    have un := hr.units
    have un1 : X.A.units + 1 < cLine := by omega
    cases hd with
    | lst n hq ha =>
      rename_i vs ds
      obtain ⟨its, rv, ⟨o, m, ho, hc, _, hdt⟩, _⟩ := I.list hq
      have hz' : (listText (PyData.shownAll ds)).length ≤ sizeLine := by simpa only [PyData.shown] using hz
      obtain ⟨⟨as, rs⟩, bs, mb, kb⟩ := DVs.shows I ds _ its ha rv (by simpa [PyData.showable] using hs) (fun t ht => Nat.le_trans (listText_mem_le ht) hz')
      have rd : Reads s.heap (.ref a) (.list ds) _ := .list ho hc hdt rs
      have lt : PyData.depthAll ds < (PyData.list ds).depth := by simp only [PyData.depth]; omega
      have out := not_mem_of_deeper rd lt mb
      simp only [PyData.depth] at hdp
      simp only [PyData.shown] at q
      refine call_repr_slot un1 ⟨o, ho, hc⟩ F.slot_list_repr.toG ?_
      match its, rs, kb, hdt with
      | [], rs, _, hdt =>
        cases rs
        simp only [PyData.shownAll, listText_nil] at q
        exact call_list_repr_empty ⟨o, ho, hc⟩ ho hdt ⟨_, _, rfl, .str _, H, I.kept fun _ _ e => e, ⟨_, rfl⟩, q⟩
      | x :: l, _, kb, hdt =>
        exact call_list_reprK ho hc hdt out (by simpa using kb.length_eq) (fun i y e => kb.item i y (by simpa using e)) (A := X.A.in1) hg (fun b _ => Clear.nil b)
          (by show X.A.units + 1 + _ < cLine; omega) (fun _ _ e => e) (fun h' u tk hk => ⟨_, _, rfl, .str _, H, I.kept hk, ⟨u, rfl⟩, q⟩) hz'
    | tup n hq ha =>
      rename_i vs ds
      obtain ⟨its, rv, ⟨o, ho, hc, m, hdt⟩, _⟩ := I.tuple hq
      have hz' : (tupleText (PyData.shownAll ds)).length ≤ sizeLine := by simpa only [PyData.shown] using hz
      obtain ⟨⟨as, rs⟩, bs, mb, kb⟩ := DVs.shows I ds _ its ha rv (by simpa [PyData.showable] using hs) (fun t ht => Nat.le_trans (tupleText_mem_le ht) hz')
      have rd : Reads s.heap (.ref a) (.tuple ds) _ := .tuple ho hc hdt rs
      have lt : PyData.depthAll ds < (PyData.tuple ds).depth := by simp only [PyData.depth]; omega
      have out := not_mem_of_deeper rd lt mb
      simp only [PyData.depth] at hdp
      simp only [PyData.shown] at q
      exact call_repr_slot un1 ⟨o, ho, hc⟩ F.slot_tuple_repr (call_tuple_reprK ho hc hdt out kb (A := X.A.in1) hg (fun b _ => Clear.nil b)
          (by show X.A.units + 1 + _ < cLine; omega) (fun _ _ e => e) (fun h' u tk hk => ⟨_, _, rfl, .str _, H, I.kept hk, ⟨u, rfl⟩, q⟩) hz')
    | dic n hq ha =>
      rename_i kvs ps
      obtain ⟨_, hsm, vs, kv, o, es, ep, ho, hx, hdt, _, pr, _⟩ := I.hok _ _ hq
      obtain ⟨hs1, hs2⟩ := PyData.showableKv_split ps (by simpa [PyData.showable] using hs)
      obtain ⟨hz1, hz2⟩ := dict_len hz
      obtain ⟨⟨⟨as, r1⟩, b1, m1, k1⟩, ⟨as', r2⟩, b2, m2, k2⟩ := DKs.shows I ps _ es.toList vs ha kv pr hs1 hs2 hz1 hz2
      have rd : Reads s.heap (.ref a) (.dict ps) _ := .dict ho hx.1 hdt r1 r2
      have lt : PyData.depthKv ps < (PyData.dict ps).depth := by simp only [PyData.depth]; omega
      have mb := (m1.mono (PyData.depthAll_keys_le ps)).append (m2.mono (PyData.depthAll_vals_le ps))
      have out := not_mem_of_deeper rd lt mb
      simp only [PyData.depth] at hdp
      simp only [PyData.shown, PyData.shownKv_eq] at q hz
      exact call_repr_slot un1 ⟨o, ho, hx.1⟩ F.slot_dict_repr (call_dict_reprK ho hx.1 hdt hsm out (.of_two es.toList _ _ (k1.more_le (fun _ z => List.mem_append_left _ z) (PyData.depthAll_keys_le ps))
        (k2.more_le (fun _ z => List.mem_append_right _ z) (PyData.depthAll_vals_le ps))) (A := X.A.in1) hg (fun b _ => Clear.nil b)
          (by show X.A.units + 1 + _ < cLine; omega) (fun _ _ e => e) (fun h' u tk hk => ⟨_, _, rfl, .str _, H, I.kept hk, ⟨u, rfl⟩, q⟩) hz)
    | dct n hq z => rw [z] at hs; cases hs
end

/-! ### small facts of data -/
theorem dp_ints {K : PySem.W.Frag} {H : Hp} : ∀ ns : List Int, DpAll K H (ns.map V.int) (ns.map PyData.int)
  | [] => .nil
  | n :: ns => .cons (.int n) (dp_ints ns)
theorem dv_ints {K : PySem.W.Frag} {H : Hp} {c : Addr} : ∀ ns : List Int, DVs K c H (ns.map V.int) (ns.map PyData.int)
  | [] => .nil
  | n :: ns => .cons (.int n) (dv_ints ns)
theorem can_ints : ∀ ns : List Int, PyData.canLayAll0 (ns.map PyData.int) = true
  | [] => rfl
  | n :: ns => by
    show (PyData.canLay0 (.int n) && PyData.canLayAll0 (ns.map PyData.int)) = true
    rw [can_ints ns]; rfl
theorem depth_ints : ∀ ns : List Int, PyData.depthAll (ns.map PyData.int) ≤ 1
  | [] => by decide
  | n :: ns => by
    have := depth_ints ns
    simp only [List.map_cons, PyData.depthAll, PyData.depth]
    omega
theorem shaped_ints (ns : List Int) : SeqAt.shaped (.list (ns.map PyData.int)) = true := by
  unfold SeqAt.shaped
  have h := depth_ints ns
  have e : PyData.canLay0 (.list (ns.map PyData.int)) = true := by
    simp only [PyData.canLay0]; exact can_ints ns
  rw [e, Bool.true_and, decide_eq_true_eq]
  simp only [PyData.depth]
  omega
theorem eqv_nil (ds : List PyData) : PyData.eqv (.list ds) (.list []) = ds.isEmpty := by
  cases ds with
  | nil => simp [PyData.eqv, PyData.eqvAll]
  | cons d ds => simp [PyData.eqv, PyData.eqvAll]

theorem mix_bound {v pt A B C : Int} (v0 : 0 ≤ v) (v1 : v < 2147483648) (p0 : 0 ≤ pt) (p1 : pt ≤ 1000000) (a0 : 0 ≤ A) (a1 : A ≤ 1000000) (b0 : 0 ≤ B) (b1 : B ≤ 1000000) (c0 : 0 ≤ C) (c1 : C ≤ 1000000) :
    (v * (2 * pt + A) + B * pt * pt + C).natAbs < 2 ^ 64 := by
  have e1 : v * (2 * pt + A) ≤ 2147483648 * 3000000 := Int.mul_le_mul (by omega) (by omega) (by omega) (by omega)
  have e2 : 0 ≤ v * (2 * pt + A) := Int.mul_nonneg v0 (by omega)
  have e3 : B * pt ≤ 1000000 * 1000000 := Int.mul_le_mul b1 p1 p0 (by omega)
  have e4 : 0 ≤ B * pt := Int.mul_nonneg b0 p0
  have e5 : B * pt * pt ≤ 1000000 * 1000000 * 1000000 := Int.mul_le_mul e3 p1 p0 (by omega)
  have e6 : 0 ≤ B * pt * pt := Int.mul_nonneg e4 p0
  omega
theorem mul_pt {B pt : Int} (p0 : 0 ≤ pt) (p1 : pt ≤ 1000000) (b0 : 0 ≤ B) (b1 : B ≤ 1000000) : CMul (B * pt) pt := by
  have e3 : B * pt ≤ 1000000 * 1000000 := Int.mul_le_mul b1 p1 p0 (by omega)
  have e4 : 0 ≤ B * pt := Int.mul_nonneg b0 p0
  exact .inl ⟨by omega, by omega⟩
theorem at_mod {ns : List Int} {pt : Int} (h : ns ≠ []) (p0 : 0 ≤ pt) : ∃ v, atI (ns.map V.int) (pt % ((ns.map V.int).length : Int)) = some (.int v) := by
  have hl : 0 < (ns.map V.int).length := by
    rw [List.length_map]; exact List.length_pos_iff.mpr h
  have h1 := Int.emod_nonneg pt (show ((ns.map V.int).length : Int) ≠ 0 by omega)
  have h2 := Int.emod_lt_of_pos pt (show (0 : Int) < ((ns.map V.int).length : Int) by omega)
  obtain ⟨j, hj⟩ := Int.eq_ofNat_of_zero_le h1
  rw [hj] at h2 ⊢
  have hjl : j < ns.length := by rw [List.length_map] at h2; omega
  refine ⟨ns[j], atI_nat ?_⟩
  rw [List.getElem?_map, List.getElem?_eq_getElem hjl]; rfl
theorem emod_w {x M : Int} (h : 0 < M) (h2 : M ≤ 2147483648) : -(2 ^ 64) < x % M ∧ x % M < 2 ^ 64 := by
  have a := Int.emod_nonneg x (show M ≠ 0 by omega)
  have b := Int.emod_lt_of_pos x h
  omega
theorem emod_b {x M : Int} (h : 0 < M) (h2 : M ≤ 2147483648) : 0 ≤ x % M ∧ x % M < 2147483648 := by
  have a := Int.emod_nonneg x (show M ≠ 0 by omega)
  have b := Int.emod_lt_of_pos x h
  omega
/-- forget what a heap is, but for F -/
theorem gcut {Qd : Hp → Prop} {H : Hp} (F : Hp → Prop) (hF : F H) (h : ∀ H', F H' → Qd H') : Qd H := h H hF
theorem pos_lit {j : Int} (h : 0 < j) : 0 < j := h

section
variable {K : PySem.W.Frag} {c p : Addr} {H H' : Hp} {v : V} {d : PyData} {vs xs : List V} {ds : List PyData}
theorem DV.up (h : DV K c H v d) (e : Ext c H H') : DV K c H' v d := DV.ext e d v h
theorem DVs.up (h : DVs K c H vs ds) (e : Ext c H H') : DVs K c H' vs ds := DVs.ext e ds vs h
/-- a new list, a new tuple, a new dict -/
theorem new_lst (hp : H p = none) (n : p ≠ c) (h : DVs K c H xs ds) : DV K c (upd H p (.lst xs)) (.ref p) (.list ds) ∧ Ext c H (upd H p (.lst xs)) :=
  ⟨.lst n (.of upd_same) (h.up (Ext.new hp)), Ext.new hp⟩
theorem new_tup (hp : H p = none) (n : p ≠ c) (h : DVs K c H xs ds) : DV K c (upd H p (.tup xs)) (.ref p) (.tuple ds) ∧ Ext c H (upd H p (.tup xs)) :=
  ⟨.tup n (.of upd_same) (h.up (Ext.new hp)), Ext.new hp⟩
/-- [x if one of them] -/
theorem one_of {i : Nat} {v : V} {xs : List V} (h : xs[i]? = some v) : v ∈ xs := List.mem_of_getElem? h
end

theorem pi_or {X : Cx} {tg e : Expr} {w1 w2 : TI} (h1 : PI X tg e w1) (h2 : PI X tg e w2) : PI X tg e (fun σ H R => w1 σ H R ∨ w2 σ H R) :=
  ⟨fun pins s σ H R I h => h.elim (h1.run pins s σ H R I) (h2.run pins s σ H R I)⟩
theorem Ext.of {c : Addr} {H H' : Hp} (h : Same H H') : Ext c H H' := fun b o _ e => h b o e
theorem same_new {p : Addr} {H : Hp} {o : HO} (h : H p = none) : Same H (upd H p o) := fun b u e => by
  rw [upd_ne (ne_of_none e h)]; exact e
theorem same_own {p : Addr} {H H' : Hp} {o : HO} (e : Same H H') (h : H p = none) : Same H (upd H' p o) := fun b u x => by
  rw [upd_ne (ne_of_none x h)]; exact e b u x
/-! ### types of data -/
def tyN : PyData → String
  | .none => "NoneType" | .bool _ => "bool" | .int _ => "int" | .str _ => "str" | .list _ => "list" | .tuple _ => "tuple" | .dict _ => "dict"
theorem ty_of {K : PySem.W.Frag} {c : Addr} {H : Hp} {v : V} {d : PyData} (h : DV K c H v d) : TyX K H v (.type (tyN d)) := by
  cases h with
  | non => exact .base .non
  | bl b => exact .base (.bl b)
  | int i => exact .base (.int i)
  | str x => exact .base (.str x)
  | lst _ s _ =>
    rcases s with (s | ⟨o, s⟩) | ⟨o, its, n, e, q, _⟩
    · exact .base (.lst s)
    · exact .base (.frz s)
    · exact .kList e q
  | tup _ s _ =>
    rcases s with (s | ⟨o, s⟩) | ⟨o, its, n, e, q, _⟩
    · exact .base (.tup s)
    · exact .fTuple s
    · exact .kTuple e q
  | dic _ s _ => exact .base (.dK s)
  | dct _ s _ => exact .base (.dT s)
def isInt : PyData → Bool | .int _ => true | _ => false
def isSeq : PyData → Bool | .list _ => true | .tuple _ => true | _ => false
def isStr : PyData → Bool | .str _ => true | _ => false
theorem iteB {b : Bool} {A B : Prop} (h1 : b = true → A) (h2 : b = false → B) : if b = true then A else B := by
  cases b with
  | true => exact iteT (h1 rfl)
  | false => exact iteF (h2 rfl)
/-- a pair of two such things -/
def pairP (f : PyData → Bool) : PyData → Bool
  | .list [a, b] => f a && f b
  | .tuple [a, b] => f a && f b
  | _ => false
abbrev isSq : PyData → Bool := pairP isInt
abbrev isMv : PyData → Bool := pairP isSq
theorem pair_no {f : PyData → Bool} {ds : List PyData} (h : ds.length ≠ 2) : pairP f (.list ds) = false ∧ pairP f (.tuple ds) = false := by
  match ds, h with
  | [], _ => exact ⟨rfl, rfl⟩
  | [_], _ => exact ⟨rfl, rfl⟩
  | [_, _], h => exact absurd rfl h
  | _ :: _ :: _ :: _, _ => exact ⟨rfl, rfl⟩
theorem two_of {α : Type} {ds : List α} (h : ds.length = 2) : ∃ a b, ds = [a, b] := by
  match ds, h with
  | [a, b], _ => exact ⟨a, b, rfl⟩
theorem kI : ∀ d : PyData, kitB (tyN d) "int" = some (match d with | .int _ => true | .bool _ => true | _ => false)
  | .none => (by decide +kernel : kitB "NoneType" "int" = some false)
  | .bool _ => (by decide +kernel : kitB "bool" "int" = some true)
  | .int _ => (by decide +kernel : kitB "int" "int" = some true)
  | .str _ => (by decide +kernel : kitB "str" "int" = some false)
  | .list _ => (by decide +kernel : kitB "list" "int" = some false)
  | .tuple _ => (by decide +kernel : kitB "tuple" "int" = some false)
  | .dict _ => (by decide +kernel : kitB "dict" "int" = some false)
theorem kB : ∀ d : PyData, kitB (tyN d) "bool" = some (match d with | .bool _ => true | _ => false)
  | .none => (by decide +kernel : kitB "NoneType" "bool" = some false)
  | .bool _ => (by decide +kernel : kitB "bool" "bool" = some true)
  | .int _ => (by decide +kernel : kitB "int" "bool" = some false)
  | .str _ => (by decide +kernel : kitB "str" "bool" = some false)
  | .list _ => (by decide +kernel : kitB "list" "bool" = some false)
  | .tuple _ => (by decide +kernel : kitB "tuple" "bool" = some false)
  | .dict _ => (by decide +kernel : kitB "dict" "bool" = some false)
theorem kS : ∀ d : PyData, kitB (tyN d) "str" = some (isStr d)
  | .none => (by decide +kernel : kitB "NoneType" "str" = some false)
  | .bool _ => (by decide +kernel : kitB "bool" "str" = some false)
  | .int _ => (by decide +kernel : kitB "int" "str" = some false)
  | .str _ => (by decide +kernel : kitB "str" "str" = some true)
  | .list _ => (by decide +kernel : kitB "list" "str" = some false)
  | .tuple _ => (by decide +kernel : kitB "tuple" "str" = some false)
  | .dict _ => (by decide +kernel : kitB "dict" "str" = some false)
theorem kL : ∀ d : PyData, kitB (tyN d) "list" = some (match d with | .list _ => true | _ => false)
  | .none => (by decide +kernel : kitB "NoneType" "list" = some false)
  | .bool _ => (by decide +kernel : kitB "bool" "list" = some false)
  | .int _ => (by decide +kernel : kitB "int" "list" = some false)
  | .str _ => (by decide +kernel : kitB "str" "list" = some false)
  | .list _ => (by decide +kernel : kitB "list" "list" = some true)
  | .tuple _ => (by decide +kernel : kitB "tuple" "list" = some false)
  | .dict _ => (by decide +kernel : kitB "dict" "list" = some false)
theorem kT : ∀ d : PyData, kitB (tyN d) "tuple" = some (match d with | .tuple _ => true | _ => false)
  | .none => (by decide +kernel : kitB "NoneType" "tuple" = some false)
  | .bool _ => (by decide +kernel : kitB "bool" "tuple" = some false)
  | .int _ => (by decide +kernel : kitB "int" "tuple" = some false)
  | .str _ => (by decide +kernel : kitB "str" "tuple" = some false)
  | .list _ => (by decide +kernel : kitB "list" "tuple" = some false)
  | .tuple _ => (by decide +kernel : kitB "tuple" "tuple" = some true)
  | .dict _ => (by decide +kernel : kitB "dict" "tuple" = some false)
theorem kit_seq {K : PySem.W.Frag} (d : PyData) : PySem.W.kitAny K (.type (tyN d)) [.type "list", .type "tuple"] = some (isSeq d) := by
  have kl := kL d
  have kt := kT d
  cases d with
  | list _ => exact kitAny_cons (kit_ty kl) (fun h => nomatch h) (fun _ => rfl)
  | tuple _ => exact kitAny_cons (kit_ty kl) (fun _ => kitAny_cons (kit_ty kt) (fun h => nomatch h) (fun _ => rfl)) (fun h => nomatch h)
  | _ => exact kitAny_cons (kit_ty kl) (fun _ => kitAny_cons (kit_ty kt) (fun _ => rfl) (fun h => nomatch h)) (fun h => nomatch h)
/-- a def that tells yes or no of one thing, and changes nothing -/
def spB (K : PySem.W.Frag) (f : PyData → Bool) : Sp := fun vs H Q _ => ∃ (c : Addr) (v : V) (d : PyData), vs = [v] ∧ DV K c H v d ∧ ∀ H', Same H H' → Q (.bl (f d)) H'

/-! ### the bag of draws: at c a list of the list l of ints, the place, what is left of a great number -/
def Bag (c l : Addr) (n : Nat) (H : Hp) : Prop := ∃ (ns : List Int) (pt rest : Int), H c = some (.lst [.ref l, .int pt, .int rest]) ∧
  H l = some (.lst (ns.map V.int)) ∧ l ≠ c ∧ ns.length ≤ 63 ∧ 0 ≤ pt ∧ pt ≤ n ∧ 0 ≤ rest
theorem Bag.mono {c l : Addr} {n m : Nat} {H : Hp} (b : Bag c l n H) (h : n ≤ m) : Bag c l m H := by
  obtain ⟨ns, pt, rest, h1, h2, h3, h4, h5, h6, h7⟩ := b
  exact ⟨ns, pt, rest, h1, h2, h3, h4, h5, by omega, h7⟩
theorem Bag.new {c l p : Addr} {n : Nat} {H : Hp} {o : HO} (b : Bag c l n H) (h : H p = none) : Bag c l n (upd H p o) := by
  obtain ⟨ns, pt, rest, h1, h2, h3, h4, h5, h6, h7⟩ := b
  exact ⟨ns, pt, rest, by rw [upd_ne (ne_of_none h1 h)]; exact h1, by rw [upd_ne (ne_of_none h2 h)]; exact h2, h3, h4, h5, h6, h7⟩
/-- a thing that is neither of the two is written -/
theorem Bag.put {c l p : Addr} {n : Nat} {H : Hp} {o : HO} (b : Bag c l n H) (h : p ≠ c) (h' : p ≠ l) : Bag c l n (upd H p o) := by
  obtain ⟨ns, pt, rest, h1, h2, h3, h4, h5, h6, h7⟩ := b
  exact ⟨ns, pt, rest, by rw [upd_ne h.symm]; exact h1, by rw [upd_ne h'.symm]; exact h2, h3, h4, h5, h6, h7⟩
theorem Bag.ne {c l p : Addr} {n : Nat} {H : Hp} (b : Bag c l n H) (h : H p = none) : p ≠ c := by
  obtain ⟨ns, pt, rest, h1, _⟩ := b
  exact fun e => by rw [e, h1] at h; cases h
theorem Bag.ne2 {c l p : Addr} {n : Nat} {H : Hp} (b : Bag c l n H) (h : H p = none) : p ≠ l := by
  obtain ⟨ns, pt, rest, _, h1, _⟩ := b
  exact fun e => by rw [e, h1] at h; cases h
theorem Bag.same {c l : Addr} {n : Nat} {H H' : Hp} (b : Bag c l n H) (h : Same H H') : Bag c l n H' := by
  obtain ⟨ns, pt, rest, h1, h2, r⟩ := b
  exact ⟨ns, pt, rest, h _ _ h1, h _ _ h2, r⟩
end Gs

set_option Elab.async false
set_option linter.all false
set_option maxRecDepth 100000
set_option maxHeartbeats 4000000
namespace Gs
open PySem PySem.Spec PyProof.Rows L2
/-! ### data of known size: depth at most k, bulk at most n -/
structure Fine (k n : Nat) (d : PyData) : Prop where
  sh : d.showable = true
  dp : d.depth ≤ k
  lf : d.leavesShort 1100 = true
  bk : d.bulk ≤ n
structure FineS (k n : Nat) (ds : List PyData) : Prop where
  sh : PyData.showableAll ds = true
  dp : PyData.depthAll ds ≤ k
  lf : PyData.leavesShortAll 1100 ds = true
  bk : PyData.bulkAll ds ≤ n
section
variable {k k' n n' m : Nat} {d e : PyData} {ds es : List PyData}
theorem Fine.mono (h : Fine k n d) (a : k ≤ k') (b : n ≤ n') : Fine k' n' d := ⟨h.sh, Nat.le_trans h.dp a, h.lf, Nat.le_trans h.bk b⟩
theorem FineS.mono (h : FineS k n ds) (a : k ≤ k') (b : n ≤ n') : FineS k' n' ds := ⟨h.sh, Nat.le_trans h.dp a, h.lf, Nat.le_trans h.bk b⟩
theorem int_len {i : Int} (h : i.natAbs < 2 ^ 1000) : (PyData.shown (.int i)).length ≤ 1100 ∧ i.natAbs.log2 < 1920 := by
  have e : i.natAbs.log2 < 1000 := by
    by_cases z : i.natAbs = 0
    · rw [z]; decide
    · exact (Nat.log2_lt z).mpr h
  refine ⟨?_, by omega⟩
  have := int_text_length_le (a := i) (k := 1000) (by decide) e
  show (Str.ofString (toString i)).length ≤ 1100
  rw [PySem.ofString_length]; omega
theorem Fine.int {i : Int} (h : i.natAbs < 2 ^ 1000) : Fine k n (.int i) := by
  obtain ⟨a, b⟩ := int_len h
  refine ⟨?_, Nat.zero_le _, ?_, Nat.zero_le _⟩
  · simp only [PyData.showable, decide_eq_true_eq]; exact b
  · simp only [PyData.leavesShort, decide_eq_true_eq]; exact a
theorem Fine.non : Fine k n .none := ⟨rfl, Nat.zero_le _, rfl, Nat.zero_le _⟩
theorem Fine.bl {b : Bool} : Fine k n (.bool b) := ⟨rfl, Nat.zero_le _, rfl, Nat.zero_le _⟩
theorem Fine.str {x : Str} (h : ∀ c ∈ x.cps.toList, c < 16 ^ 8) (hn : x.length ≤ n) : Fine k n (.str x) := by
  refine ⟨rfl, Nat.zero_le _, ?_, hn⟩
  simp only [PyData.leavesShort, List.all_eq_true, decide_eq_true_eq]; exact h
theorem FineS.nil : FineS k n [] := ⟨rfl, Nat.zero_le _, rfl, Nat.zero_le _⟩
theorem FineS.cons (h : Fine k n d) (r : FineS k m ds) : FineS k (n + 1 + m) (d :: ds) := by
  refine ⟨?_, ?_, ?_, ?_⟩
  · simp only [PyData.showableAll, h.sh, r.sh, Bool.and_self]
  · have a := h.dp; have b := r.dp
    simp only [PyData.depthAll]; omega
  · simp only [PyData.leavesShortAll, h.lf, r.lf, Bool.and_self]
  · have a := h.bk; have b := r.bk
    simp only [PyData.bulkAll]; omega
theorem Fine.list (r : FineS k n ds) : Fine (k + 1) n (.list ds) := by
  refine ⟨?_, ?_, ?_, ?_⟩
  · simp only [PyData.showable]; exact r.sh
  · have b := r.dp; simp only [PyData.depth]; omega
  · simp only [PyData.leavesShort]; exact r.lf
  · simp only [PyData.bulk]; exact r.bk
theorem Fine.tuple (r : FineS k n ds) : Fine (k + 1) n (.tuple ds) := by
  refine ⟨?_, ?_, ?_, ?_⟩
  · simp only [PyData.showable]; exact r.sh
  · have b := r.dp; simp only [PyData.depth]; omega
  · simp only [PyData.leavesShort]; exact r.lf
  · simp only [PyData.bulk]; exact r.bk
theorem Fine.to_tuple (h : Fine k n (.list ds)) : Fine k n (.tuple ds) := by
  obtain ⟨a, b, c, d⟩ := h
  simp only [PyData.showable, PyData.depth, PyData.leavesShort, PyData.bulk] at a b c d
  refine ⟨?_, ?_, ?_, ?_⟩
  · simp only [PyData.showable]; exact a
  · simp only [PyData.depth]; exact b
  · simp only [PyData.leavesShort]; exact c
  · simp only [PyData.bulk]; exact d
theorem Fine.dict1 {a b : PyData} (h : Fine k n a) (g : Fine k m b) : Fine (k + 1) (n + m + 2) (.dict [(a, b)]) := by
  refine ⟨?_, ?_, ?_, ?_⟩
  · simp only [PyData.showable, PyData.showableKv, h.sh, g.sh, Bool.and_self]
  · have x := h.dp; have y := g.dp
    simp only [PyData.depth, PyData.depthKv]; omega
  · simp only [PyData.leavesShort, PyData.leavesShortKv, h.lf, g.lf, Bool.and_self]
  · have x := h.bk; have y := g.bk
    simp only [PyData.bulk, PyData.bulkKv]; omega
theorem Fine.dict2 {a b a' b' : PyData} (h : Fine k n a) (g : Fine k n b) (h' : Fine k n a') (g' : Fine k n b') : Fine (k + 1) (4 * n + 4) (.dict [(a, b), (a', b')]) := by
  refine ⟨?_, ?_, ?_, ?_⟩
  · simp only [PyData.showable, PyData.showableKv, h.sh, g.sh, h'.sh, g'.sh, Bool.and_self]
  · have x := h.dp; have y := g.dp; have x' := h'.dp; have y' := g'.dp
    simp only [PyData.depth, PyData.depthKv]; omega
  · simp only [PyData.leavesShort, PyData.leavesShortKv, h.lf, g.lf, h'.lf, g'.lf, Bool.and_self]
  · have x := h.bk; have y := g.bk; have x' := h'.bk; have y' := g'.bk
    simp only [PyData.bulk, PyData.bulkKv]; omega
theorem Fine.fits (h : Fine k n d) (hn : n ≤ 15000) : d.shown.length ≤ sizeLine := by
  have a := PyData.shown_le_bulk 1100 (by decide) d h.lf
  have b := h.bk
  have c : sizeLine = 16777216 := by decide
  have e : (1100 + 2) * d.bulk ≤ (1100 + 2) * 15000 := Nat.mul_le_mul_left _ (by omega)
  omega
/-- what a list of bools shows -/
theorem fine_bools : ∀ bs : List Bool, FineS 0 bs.length (bs.map PyData.bool)
  | [] => .nil
  | b :: bs => by
    have := FineS.cons (k := 0) (n := 0) (Fine.bl (b := b)) (fine_bools bs)
    exact this.mono (Nat.le_refl _) (by rw [List.length_cons]; omega)
theorem fine_ints : ∀ zs : List Int, (∀ z ∈ zs, z.natAbs < 2 ^ 1000) → FineS 0 zs.length (zs.map PyData.int)
  | [], _ => .nil
  | z :: zs, h => by
    have := FineS.cons (k := 0) (n := 0) (Fine.int (h z List.mem_cons_self)) (fine_ints zs fun y hy => h y (List.mem_cons_of_mem _ hy))
    exact this.mono (Nat.le_refl _) (by rw [List.length_cons]; omega)
end
section
variable {K : PySem.W.Frag} {c : Addr} {H : Hp}
theorem dv_bools : ∀ bs : List Bool, DVs K c H (bs.map V.bl) (bs.map PyData.bool)
  | [] => .nil
  | b :: bs => .cons (.bl b) (dv_bools bs)
end
/-- a text that Lean wrote has signs below 16 ^ 8 -/
theorem ofs_signs (s : String) : ∀ c ∈ (Str.ofString s).cps.toList, c < 16 ^ 8 := by
  rw [PyProof.Rows.signs_ofString]
  intro c hc
  obtain ⟨ch, _, rfl⟩ := List.mem_map.mp hc
  exact ch.val.toNat_lt
theorem fa_nil {k n : Nat} : ∀ d ∈ ([] : List PyData), Fine k n d := fun _ h => nomatch h
theorem fa_cons {k n : Nat} {d : PyData} {ds : List PyData} (h : Fine k n d) (r : ∀ e ∈ ds, Fine k n e) : ∀ e ∈ d :: ds, Fine k n e := fun e m => by
  rcases List.mem_cons.mp m with rfl | m
  · exact h
  · exact r e m
/-- a list of two, of three -/
theorem fine1 {k n : Nat} {a : PyData} (h : Fine k n a) : FineS k (n + 1) [a] := (FineS.cons h FineS.nil (m := 0)).mono (Nat.le_refl _) (by omega)
theorem fine2 {k n : Nat} {a b : PyData} (h : Fine k n a) (g : Fine k n b) : FineS k (2 * n + 2) [a, b] := (FineS.cons h (fine1 g)).mono (Nat.le_refl _) (by omega)
theorem fine3 {k n : Nat} {a b e : PyData} (h : Fine k n a) (g : Fine k n b) (f : Fine k n e) : FineS k (3 * n + 3) [a, b, e] := (FineS.cons h (fine2 g f)).mono (Nat.le_refl _) (by omega)
theorem fine_tos {k : Nat} {i : Int} (h : i.natAbs < 2 ^ 1000) : Fine k 1100 (.str (toString i)) := by
  refine .str (ofs_signs _) ?_
  exact (int_len h).1
theorem fine_lit {k : Nat} {x : String} (h : (Str.ofString x).length ≤ 100) : Fine k 100 (.str (Str.ofString x)) := .str (ofs_signs _) h
/-- x = e where e has one value whatever way it goes, and changes nothing that is known -/
theorem asg_val {te : TE} {tg : TG} {D : Ends} {σ : L2.St} {H : Hp} (v : V) (h1 : ∀ Q : VK, (∀ H', Same H H' → Q v H') → te σ H Q) (h2 : ∀ H', Same H H' → tg v σ H' D.nx) : tAsg te tg D σ H := h1 _ h2
theorem seq_asg {te : TE} {tg : TG} {r : TS} {D : Ends} {σ : L2.St} {H : Hp} (v : V) (h1 : ∀ Q : VK, (∀ H', Same H H' → Q v H') → te σ H Q) (h2 : ∀ H', Same H H' → tg v σ H' (r D)) : tSeq (tAsg te tg) r D σ H := h1 _ h2
end Gs

set_option Elab.async false
set_option linter.all false
set_option maxRecDepth 100000
set_option maxHeartbeats 4000000
namespace Gs
open PySem PySem.Spec PyProof.Rows L2
section
variable {P : Program} {w : World} {K : PySem.W.Frag} {mg mb : Str → Option Value} {CX : CXT} {k : Nat} {fa a : Addr} {fd : FuncData} {x : Str} {sp : Sp}
  {s₁ : Shared} {vs : List Value} {ns : List Int}
/-- the law's call, from what its def promises where no guard stands -/
theorem law_callG (KX : K.In s₁.heap) (hns : s₁.heap.Ns mainGlobals mg) (hb : s₁.heap.Ns builtinsNs mb) (hbb : ∀ x : Str, x ≠ "__name__" → mb x = bootBuiltins x)
    (hlim : s₁.heap.NoLimit) (hg : s₁.gens = #[]) (ha : s₁.heap.get? a = some { cls := .type "list", data := .seq vs.toArray }) (hi : IntsAre vs ns) (hl : ns.length ≤ sizeLine)
    (hr : Room k callerA) (F : ∀ base : Heap, K.In base → base.Ns mainGlobals mg → FnG P w K mg base CX k fa fd [x] sp)
    (hbind : ∀ (s : Shared) (u : Value), BindsTo s fd ⟨[u], []⟩ [(x, u)])
    (hsp : ∀ H : Hp, SqL K H a (ns.map V.int) → sp [.ref a] H (fun v _ => v = .bl true) fun _ _ _ => False)
    (hCX : ∀ H e s', CX [] H s₁ (fun _ _ _ => False) e s' → False) :
    codeAny (model P w) callerA (.call (.ref fa) ⟨[.ref a], []⟩)
      (fun r s' => r = .ok (.ret (.bool true)) ∧ OldK s₁.heap s'.heap ∧ s'.os = s₁.os ∧ AllBare s'.gens) s₁ := by
  have rv := vals_ints hi
  have nV := hi.length
  -- H knows nothing, or just the script, which is frozen
  have go : ∀ H : Hp, (∀ b, H b = none ∨ (b = a ∧ K.lookup b = none ∧ ∃ o ys, H b = some (.frz o (.lst ys)))) → SqL K H a (ns.map V.int) → HOk P w H s₁.heap →
      codeAny (model P w) callerA (.call (.ref fa) ⟨[.ref a], []⟩)
        (fun r s' => r = .ok (.ret (.bool true)) ∧ OldK s₁.heap s'.heap ∧ s'.os = s₁.os ∧ AllBare s'.gens) s₁ := by
    intro H hO hS hok
    have unk : ∀ {b : Addr} {o : Obj}, s₁.heap.get? b = some o → o.data ≠ .seq vs.toArray → H b = none := by
      intro b o e nd
      rcases hO b with q | ⟨q, _, _⟩
      · exact q
      · rw [q, ha] at e; cases e; exact absurd rfl nd
    have nsH : ∀ {b : Addr} {m : Str → Option Value}, s₁.heap.Ns b m → (hidT s₁.heap H).Ns b m := by
      rintro b m ⟨o, es, ep, e, d, r⟩
      exact ⟨o, es, ep, hidT_get e (unk e (by rw [d]; exact fun z => nomatch z)), d, r⟩
    have kH : K.In (hidT s₁.heap H) := by
      intro b o e
      refine hidT_get (KX b o e) ?_
      rcases hO b with q | ⟨_, q, _⟩
      · exact q
      · rw [q] at e; cases e
    have md : Mod K mg (hidT s₁.heap H) := by
      refine ⟨kH, nsH hns, ⟨mb, nsH hb, hbb⟩, ?_⟩
      obtain ⟨mc, h1, h2⟩ := hlim
      exact ⟨mc, nsH h1, h2⟩
    have e0 : Env0 P w K mg (hidT s₁.heap H) callerA [] s₁ H := by
      refine ⟨rfl, md, fun b o e => of_hidT e, Nat.le_of_eq (hidT_size _ _), trivial, ?_, hok, .of_eq hg⟩
      intro b hb
      exact absurd (show b ∈ ([] : List Addr) from hb) (List.not_mem_nil)
    have run := (F _ kH (nsH hns)).run callerA [] s₁ H ⟨[.ref a], []⟩ [.ref a] [.ref a] _ _ hr rfl e0 (hbind s₁ (.ref a)) (.cons rfl .nil) (hsp H hS)
    refine codeAny_mono run (fun r s' h => ?_)
    match r, h with
    | .error e, h => exact (hCX H e s' h).elim
    | .ok .next, h => exact h.elim
    | .ok .brk, h => exact h.elim
    | .ok .cont, h => exact h.elim
    | .ok (.ret u), h =>
      obtain ⟨v, H', os, bare, un, hok', r', q⟩ := h
      cases (show v = .bl true from q)
      cases (show u = Value.bool true from r')
      refine ⟨rfl, OldK.of_keep (fun b o e => ?_), os, bare⟩
      rcases hO b with q | ⟨_, _, ob, ys, q⟩
      · exact un.keep b o e q (fun z => absurd (show b ∈ ([] : List Addr) from z) List.not_mem_nil) List.not_mem_nil
      · obtain ⟨e1, _⟩ := hok b _ q
        obtain ⟨e2, _⟩ := hok' b _ (un.frzs b ob _ q)
        rw [e] at e1; cases e1; exact e2
  by_cases hk : K.lookup a = none
  · have at_a : (fun b => if b = a then some (HO.frz { cls := .type "list", data := .seq vs.toArray } (.lst (ns.map V.int))) else none : Hp) a = some (.frz { cls := .type "list", data := .seq vs.toArray } (.lst (ns.map V.int))) := if_pos rfl
    refine go (fun b => if b = a then some (.frz { cls := .type "list", data := .seq vs.toArray } (.lst (ns.map V.int))) else none) (fun b => ?_) (.inl (.inr ⟨_, at_a⟩)) (fun b u z => ?_)
    · by_cases e : b = a
      · exact .inr ⟨e, by rw [e]; exact hk, _, _, if_pos e⟩
      · exact .inl (if_neg e)
    · dsimp only at z
      by_cases e : b = a
      · rw [if_pos e] at z; cases z; subst e
        exact ⟨ha, by rw [List.length_map]; exact hl, vs, _, rv, ha⟩
      · rw [if_neg e] at z; cases z
  · obtain ⟨o, ho⟩ := Option.ne_none_iff_exists'.mp hk
    have e := KX a o ho
    rw [ha] at e; cases e
    refine go (fun _ => none) (fun _ => .inl rfl) (.inr ⟨_, vs.toArray, _, ho, rfl, rfl, rfl, ?_, by simpa using rv⟩) (fun b u z => nomatch z)
    rw [List.size_toArray, nV]; exact hl
end
/-- what the head leaves, from the law's promise -/
theorem walkG {l : PySem.W.OpenLaw} {k : Nat} {q : Program} {loose : List Str} {XP : (Str → Option Value) → Heap → Prop} {YP : World → Heap → Prop} {d : DefRec}
    {K : Params → PySem.W.Frag} {sp : PySem.W.Frag → Sp} {x : Str} (hn : l.most = some 63) (hdf : d.params.defaults = []) (hr : Room k callerA)
    (hY : ∀ (w : World) (h : Heap), YP w h → (K w.params).In h)
    (F : ∀ (w : World) (mg : Str → Option Value) (fa : Addr) (h : Heap), (K w.params).In h → h.Ns mainGlobals mg → mg d.name = some (.ref fa) →
      ∃ fd : FuncData, (∀ (s : Shared) (u : Value), BindsTo s fd ⟨[u], []⟩ [(x, u)]) ∧
        ∀ base : Heap, (K w.params).In base → base.Ns mainGlobals mg → FnG l.prog w (K w.params) mg base CX0 k fa fd [x] (sp (K w.params)))
    (hsp : ∀ (K : PySem.W.Frag) (H : Hp) (a : Addr) (ns : List Int), ns.length ≤ 63 → SqL K H a (ns.map V.int) → sp K [.ref a] H (fun v _ => v = .bl true) fun _ _ _ => False) :
    PySem.W.WalkO q loose XP YP l.row.toRowW d [] (fun f vs => PySem.call f vs) := by
  refine Att.attach_call hn hdf (fun w s₀ s₁ mg mb fa o pm cd doc a vs ns G Y ho hd hcd hmg hobj hints hlen hg => ?_)
  have KX := hY w _ Y
  obtain ⟨fd, hb, hF⟩ := F w mg fa _ KX G.T.g hmg
  exact law_callG KX G.T.g G.T.b G.T.builtins G.T.nolimit hg hobj hints (Nat.le_trans hlen (by decide)) hr hF hb (fun H hS => hsp _ H a ns hlen hS) (fun _ _ _ h => h)
end Gs

set_option Elab.async false
set_option linter.all false
set_option maxRecDepth 100000
set_option maxHeartbeats 4000000
/-! Layer G3: {elt for x in ..} whose elt is a tuple of ints. -/
namespace Gs
open PySem PySem.Spec PyProof.Rows L2
section
variable {X : Cx} {pins : List (Addr × Obj)} {σ : L2.St} {H : Hp} {s : Shared}
abbrev Tps := List (Addr × List Int)
/-- D.add(x), x a tuple of ints -/
theorem addT_ok {E : Value → Shared → Prop} {D x : Addr} {L : Tps} {k : List Int} {Q : Value → Shared → Prop} (I : Inv X pins σ H s) (hD : H D = some (SetTO X.prog X.w D L))
    (hL : ∀ p ∈ L, SqT X.K H p.1 (p.2.map V.int)) (hx : SqT X.K H x (k.map V.int)) (hu : X.A.units + 1 < cLine) (room : L.length + 1 < 64)
    (h : ∀ (L' : Tps) s', (k ∈ L.map (·.2) → L' = L) → (k ∉ L.map (·.2) → L'.Perm ((x, k) :: L)) → Inv X pins σ (upd H D (SetTO X.prog X.w D L')) s' → Q .none s') :
    wpAny (model X.prog X.w) X.A (call (.builtin "set.add") [.ref D, .ref x]) Q E s := by
  have R0 : SetT0 X.prog X.w s.heap D L := (I.hok D _ hD).1
  obtain ⟨es, ep, t, R⟩ := R0.full fun p hp => I.isT (hL p hp)
  obtain ⟨o, ho, hex, hd⟩ := R.ob
  have ty : s.TypeIs (.ref D) "set" := ⟨o, ho, hex.1⟩
  refine wpAny_call_entry F.slot_set_add ty F.entry_set_add ?_ (F.args_set_add_2 _ _)
  unfold Builtin.«set.add» Builtin.Frozenset.oneOther
  simp only [List.isEmpty_nil, bind_assoc]
  unfold Builtin.Frozenset.addrOf setAdd
  refine wpAny_bind (wpAny_pure ?_)
  try dsimp only
  refine wpAny_bind (wpAny_pure ?_)
  try dsimp only
  refine wpAny_bind ?_
  refine wpAny_holding ?_
  refine wpAny_bind (wpAny_pyHash_tuple (by show X.A.units + 1 < cLine; exact hu) (I.isT hx) ?_)
  refine add_at (s := { s with toks := s.toks + (k.length + 1) }) R (I.isT hx) (by show X.A.units + 1 < cLine; exact hu) room fun b h' L' es' ep' t' sb R' c1 c2 => ?_
  show wpAny _ _ (ret Value.none) _ _ _
  have there : ∃ u, h'.get? D = some u := by
    obtain ⟨o', ho', _⟩ := R'.ob
    exact ⟨o', ho'⟩
  have J := I.write (e := D) (t' := s.toks + (k.length + 1)) (x := D) (o := SetTO X.prog X.w D L') (by rw [hD]; trivial) (.inl rfl) (fun c u hc hu => (sb.2 c hc).trans hu) there (setTO_new R'.t0)
  exact wpAny_pure ⟨_, rfl, h L' _ c1 c2 J⟩
end
end Gs

set_option Elab.async false
set_option linter.all false
set_option maxRecDepth 100000
set_option maxHeartbeats 4000000
/-! Layer G4: a set comprehension over any kind of set object that adds by a rule of its own; its instance for tuples of ints; len of such a set. -/
namespace Gs
open PySem PySem.Spec PyProof.Rows L2 PpSet
/-- a kind of set objects: what stands at D, the fresh one, what adding a value asks and gives -/
structure SetKd (P : Program) (w : World) (K : PySem.W.Frag) (α : Type) where
  ob : Addr → α → HO
  zero : α
  fresh : ∀ (H : Hp) (h : Heap), ObjOk P w H (h.push { cls := .type "set", dict := none, data := .set #[] 0 (.fresh 0 0 (!w.params.followText "set-order")) }) h.objs.size (ob h.objs.size zero)
  adds : Addr → V → Hp → (Hp → Prop) → Prop
  rule : ∀ (Y : Cx), Y.prog = P → Y.w = w → Y.K = K → Y.A.units + 2 < cLine → ∀ (pins : List (Addr × Obj)) (σ : L2.St) (H : Hp) (s : Shared) (E : Value → Shared → Prop) (D : Addr) (y : V) (u : Value) (F : Hp → Prop), Inv Y pins σ H s → RelV y u → adds D y H F →
    wpAny (model P w) Y.A (call (.builtin "set.add") [.ref D, u]) (fun _ s' => ∃ H', Inv Y pins σ H' s' ∧ F H') E s
def tSetC {P : Program} {w : World} {K : PySem.W.Frag} {α : Type} (Z : SetKd P w K α) (wi : TI) (g : TG) (tt : TT) (te : TE) (vs : List Nat) : TE := fun σ H Q => wi σ H fun J H1 => ∀ D, H1 D = none →
  ∃ W : Nat → Nat → Hp → Prop, (∃ m, W 0 m (upd H1 D (Z.ob D Z.zero))) ∧ ∀ i m H, W i m H → (J.stop i H ∧ Q (.ref D) H) ∨
    (J.go i H ∧ ∃ Nx : Hp → Prop, (∀ H', Nx H' → ∃ m', m' < m ∧ W (i + 1) m' H') ∧ ∀ x H', J.yld i H x H' → g x (wipe σ vs) H' fun σ2 H2 => wipe σ2 vs = wipe σ vs ∧ tt σ2 H2 fun b H3 => if b = true then te σ2 H3 fun y H4 => Z.adds D y H4 Nx else Nx H3)
section
variable {X : Cx}
theorem setc_run {α : Type} {pins : List (Addr × Obj)} {s : Shared} {σ : L2.St} {H : Hp} {Q : VK} {elt tg iter : Expr} {ifs : List Expr} {scope : Scope} {own : List (PySem.Str × Nat)} {pos pos' : Pos} {wi : TI} {g : TG} {tt : TT} {te : TE} {use : Option (Value → Sem Unit)}
    {Qf : Value → Shared → Prop} (Z : SetKd X.prog X.w X.K α) (hu : X.A.units + 2 < cLine) (calm : X.calm = true) (nod : X.N.Nodup) (I : Inv X pins σ H s) (pi : PI X tg iter wi) (bok : BlkOk X.N X.env.scope scope own)
    (pg : ∀ (s : Shared) (H : Hp) (C : Addr) (cl : List (PySem.Str × Addr)) (fp : List Addr), PG (X.blk s H scope (compEnvC scope cl C X.env) fp) tg g)
    (pt : ∀ (s : Shared) (H : Hp) (C : Addr) (cl : List (PySem.Str × Addr)) (fp : List Addr), PTs (X.blk s H scope (compEnvC scope cl C X.env) fp) ifs tt)
    (pe : ∀ (s : Shared) (H : Hp) (C : Addr) (cl : List (PySem.Str × Addr)) (fp : List Addr), PE (X.blk s H scope (compEnvC scope cl C X.env) fp) elt te)
    (plain : ∀ x, foldedSetIterable iter X.env x = pure x) (h : tSetC Z wi g tt te (own.map (·.2)) σ H Q)
    (back : ∀ D C s' m H', Inv X pins σ H' s' → Q (.ref D) H' → s'.heap.Ns C m → FpOk X pins H' C → compPost (model X.prog X.w) X.A X.xe use Qf (.ref D) C (.ok .next) s') :
    wpAny (model X.prog X.w) X.A (comprehension (.SetComp elt [⟨tg, iter, ifs, 0⟩] scope pos) scope X.env pos' (newSet (.type "set")) false (eval iter X.env) use) Qf X.xe s := by
  have cells : ∀ q ∈ scope.names, q.2 = .free → ∃ c, X.env.cells.lookup q.1 = some c := by
    intro q hq e
    cases bok.free q hq e with
    | inl k => exact I.ok.has _ (Or.inl k)
    | inr k => exact I.ok.has _ (Or.inr k)
  refine wpAny_comprehension_free (use := use) rfl plain (closure_ok cells) bok.kind (fun q hq e => (bok.uniq q hq).trans (congrArg some e)) (thn (pi.run pins s σ H _ I h) fun _ s1 hx => thn hx fun _ s2 got => ?_)
  obtain ⟨it, fp, tn, J, H2, rfl, I2, T, st2, f2, q⟩ := got
  refine newSet_ok (newEnv_comp ?_)
  obtain ⟨D, hD⟩ : ∃ D, D = s2.heap.objs.size := ⟨_, rfl⟩
  have free : H2 D = none := I2.hok.fresh (by rw [hD]; exact Nat.le_refl _)
  obtain ⟨W, ⟨m0, w0⟩, turn⟩ := q D free
  obtain ⟨s3, hs3⟩ : ∃ s3 : Shared, s3 = { s2 with heap := s2.heap.push { cls := .type "set", dict := none, data := .set #[] 0 (.fresh 0 0 (!X.w.params.followText "set-order")) } } := ⟨_, rfl⟩
  have hp3 : ∀ b o, s2.heap.get? b = some o → s3.heap.get? b = some o := fun b o e => by rw [hs3]; exact Heap.get?_push_of_some _ e
  have sz3 : s3.heap.objs.size = s2.heap.objs.size + 1 := by rw [hs3]; exact Heap.size_push _ _
  have I3 : Inv X pins σ (upd H2 D (Z.ob D Z.zero)) s3 := by
    rw [hs3]
    refine I2.laid (t' := s2.toks) (fun b o e => Heap.get?_push_of_some _ e) (by rw [hD]; exact Nat.le_refl _) ?_
    rw [hD]
    exact Z.fresh _ _
  have below : ∀ b ∈ fp, b < s2.heap.objs.size := by
    intro b hb
    obtain ⟨o, e, _⟩ := T.obj _ _ st2 b hb
    exact Heap.lt_size e
  have fps : ∀ b ∈ fp, FpOk X pins (upd H2 D (Z.ob D Z.zero)) b ∧ b < s3.heap.objs.size := by
    intro b hb
    have lt := below b hb
    refine ⟨⟨(upd_ne (by rw [hD]; exact Nat.ne_of_lt lt)).trans (f2 b hb).1, (f2 b hb).2⟩, by rw [sz3]; exact Nat.lt_succ_of_lt lt⟩
  have st3 : tn 0 s3.heap := T.keep _ _ _ st2 fun b _ o e => hp3 b o e
  have I4 := block_start I3 bok nod fps
  have pg := pg s3 (upd H2 D (Z.ob D Z.zero)) s3.heap.objs.size (cellsFrom (s3.heap.objs.size + 1) scope.names (cloFrom X.env.cells scope.names [])) fp
  have pt := pt s3 (upd H2 D (Z.ob D Z.zero)) s3.heap.objs.size (cellsFrom (s3.heap.objs.size + 1) scope.names (cloFrom X.env.cells scope.names [])) fp
  have pe := pe s3 (upd H2 D (Z.ob D Z.zero)) s3.heap.objs.size (cellsFrom (s3.heap.objs.size + 1) scope.names (cloFrom X.env.cells scope.names [])) fp
  have fresh : ∀ b ∈ fp, (upd H2 D (Z.ob D Z.zero)) b = none := fun b hb => (fps b hb).1.1
  rw [← hD, ← hs3]
  show codeAny _ _ (.compStart (.SetComp elt [⟨tg, iter, ifs, 0⟩] scope pos) 0 (.ref it) (.ref D) (compEnvC scope (cellsFrom (s3.heap.objs.size + 1) scope.names (cloFrom X.env.cells scope.names [])) s3.heap.objs.size X.env)) (compPost (model X.prog X.w) X.A X.xe use Qf (.ref D) s3.heap.objs.size) _
  revert I4 pg pt pe
  generalize hce : compEnvC scope (cellsFrom (s3.heap.objs.size + 1) scope.names (cloFrom X.env.cells scope.names [])) s3.heap.objs.size X.env = ce
  intro I4 pg pt pe
  have loc : ce.locals = s3.heap.objs.size := by rw [← hce]; rfl
  generalize upd H2 D (Z.ob D Z.zero) = H3 at I3 I4 pg pt pe w0 fresh fps
  obtain ⟨s4, hs4⟩ : ∃ s4 : Shared, s4 = { s3 with heap := pushCells (s3.heap.push { cls := .type "dict", data := .dict #[] }) scope.names } := ⟨_, rfl⟩
  rw [← hs4] at I4 ⊢
  have st4 : tn 0 s4.heap := T.keep _ _ _ st3 fun b _ o e => by rw [hs4]; exact pushCells_keeps _ _ _ _ (Heap.get?_push_of_some _ e)
  have hold : ∀ {σ' : L2.St} {H' : Hp} {s' : Shared}, Inv (X.blk s3 H3 scope ce fp) [] σ' H' s' → (∀ b ∈ fp, H' b = none) → ∀ b ∈ fp, FpOk (X.blk s3 H3 scope ce fp) [] H' b := by
    intro σ' H' s' I' hn b hb
    exact ⟨hn b hb, (I'.ok.exf b hb).1, I'.ok.exfs b hb, .inl hb, fun x c e => (I'.ok.exf b hb).2 x c e, fun p hp => absurd (show p ∈ ([] : List (Addr × Obj)) ++ [] from hp) (by simp)⟩
  have loop : codeAny (model X.prog X.w) X.A (.compLoop (.SetComp elt [⟨tg, iter, ifs, 0⟩] scope pos) 0 (.ref it) (.ref D) ce) (compPost (model X.prog X.w) X.A X.xe use Qf (.ref D) s3.heap.objs.size) s4 := by
    refine compLoopS_any (fun n s' => ∃ i H', Inv (X.blk s3 H3 scope ce fp) [] (wipe σ (own.map (·.2))) H' s' ∧ tn i s'.heap ∧ (∀ b ∈ fp, H' b = none) ∧ W i n H') ?_ m0 ⟨0, H3, I4, st4, fresh, w0⟩
    rintro n s5 ⟨i, H5, I5, st5, n5, w5⟩
    cases turn i n H5 w5 with
    | inl fin =>
      obtain ⟨stop, qq⟩ := fin
      refine thnF (T.done (X.blk s3 H3 scope ce fp) rfl rfl rfl calm i [] s5 _ H5 (fun _ _ => False) I5 (hold I5 n5) st5 stop) fun r s6 ⟨hr, I6⟩ => ?_
      subst hr
      have I7 : Inv X pins σ H5 s6 := I3.call' (ch := fp) I6.os I6.base I6.hok I6.bare fun b hb => ⟨(fps b hb).1.2.2.2.1, (fps b hb).1.2.1, (fps b hb).1.2.2.2.2.1, (fps b hb).1.2.2.2.2.2⟩
      have gone : H5 s3.heap.objs.size = none := by
        have z : H5 ce.locals = none := I6.free
        rwa [loc] at z
      obtain ⟨m, hn, _⟩ := I6.loc
      have hn : s6.heap.Ns ce.locals m := hn
      rw [loc] at hn
      exact back D s3.heap.objs.size s6 m H5 I7 qq hn (I3.fpOk (Nat.le_refl _) gone)
    | inr more =>
      obtain ⟨go, Nx, hNx, step⟩ := more
      refine thnF (T.item (X.blk s3 H3 scope ce fp) rfl rfl rfl calm i [] s5 _ H5 (fun _ _ => False) I5 (hold I5 n5) st5 go) fun r s6 ⟨u, hr, h6⟩ => ?_
      subst hr
      refine thnF h6 fun _ s7 ⟨x, H7, I7, r7, y7, st7, n7⟩ => ?_
      have I7p := I7.pinned (hold I7 n7) (T.obj _ _ st7)
      refine thnF (pg.run _ s7 _ H7 x u _ I7p r7 (step x H7 y7)) fun _ s8 ⟨σ8, H8, I8, hw8, q8⟩ => ?_
      refine thnF (pt.run _ s8 σ8 H8 _ I8 q8) fun b s9 ⟨H9, I9, q9⟩ => ?_
      have again : ∀ {s' : Shared} {H' : Hp}, Inv (X.blk s3 H3 scope ce fp) ([] ++ pinsAt fp s7.heap) σ8 H' s' → Nx H' →
          ∃ m, m < n ∧ ∃ i H', Inv (X.blk s3 H3 scope ce fp) [] (wipe σ (own.map (·.2))) H' s' ∧ tn i s'.heap ∧ (∀ b ∈ fp, H' b = none) ∧ W i m H' := by
        intro s' H' I' nx
        obtain ⟨m', hm, w'⟩ := hNx H' nx
        have pinned : ∀ b ∈ fp, ∀ o, s7.heap.get? b = some o → s'.heap.get? b = some o ∧ H' b = none := by
          intro b hb o e
          have z := I'.pin (b, o) (List.mem_append_right _ (List.mem_append_right _ (mem_pinsAt hb e)))
          exact ⟨z.1, z.2.1⟩
        refine ⟨m', hm, i + 1, H', (I'.unpinned (pins := [])).weak (by rw [← hw8, wipe_length]) (fun j v e => ?_), T.keep _ _ _ st7 (fun b hb o e => (pinned b hb o e).1), (fun b hb => ?_), w'⟩
        · rw [← hw8] at e
          exact (wipe_some e).1
        · obtain ⟨o, e, _⟩ := T.obj _ _ st7 b hb
          exact (pinned b hb o e).2
      cases b with
      | false =>
        rw [if_neg Bool.false_ne_true] at q9 ⊢
        exact again I9 q9
      | true =>
        rw [if_pos rfl] at q9 ⊢
        refine thnF (pe.run _ s9 σ8 H9 _ I9 q9) fun z s10 ⟨yv, H10, I10, r10, ad⟩ => ?_
        refine wpAny_mono (Z.rule (X.blk s3 H3 scope ce fp) rfl rfl rfl hu _ σ8 H10 s10 _ D yv z Nx I10 r10 ad) (fun _ s11 ⟨H11, I11, nx⟩ => again I11 nx) fun _ _ e => e
  exact codeAny_compStart_set loop (T.self X.A 0 _ _ _ st4 loop)
/-- {elt for tg in iter ..} -/
theorem pe_setc {α : Type} {elt tg iter : Expr} {ifs : List Expr} {scope : Scope} {own : List (PySem.Str × Nat)} {pos : Pos} {wi : TI} {g : TG} {tt : TT} {te : TE} (Z : SetKd X.prog X.w X.K α) (hu : X.A.units + 2 < cLine) (calm : X.calm = true) (nod : X.N.Nodup)
    (pi : PI X tg iter wi) (bok : BlkOk X.N X.env.scope scope own) (pg : ∀ (s : Shared) (H : Hp) (C : Addr) (cl : List (PySem.Str × Addr)) (fp : List Addr), PG (X.blk s H scope (compEnvC scope cl C X.env) fp) tg g)
    (pt : ∀ (s : Shared) (H : Hp) (C : Addr) (cl : List (PySem.Str × Addr)) (fp : List Addr), PTs (X.blk s H scope (compEnvC scope cl C X.env) fp) ifs tt)
    (pe : ∀ (s : Shared) (H : Hp) (C : Addr) (cl : List (PySem.Str × Addr)) (fp : List Addr), PE (X.blk s H scope (compEnvC scope cl C X.env) fp) elt te) (plain : ∀ x, foldedSetIterable iter X.env x = pure x := by intro _; rfl) :
    PE X (.SetComp elt [⟨tg, iter, ifs, 0⟩] scope pos) (tSetC Z wi g tt te (own.map (·.2))) := by
  constructor
  intro pins s σ H Q I h
  rw [eval_SetComp]
  refine setc_run Z hu calm nod I pi bok pg pt pe plain h fun D C s' m H' I' q hn f => ⟨m, hn, fun h2 sb => ?_⟩
  obtain ⟨f0, f1, f2, f3, f4, f5⟩ := f
  exact ⟨.ref D, H', I'.turned (t' := s'.toks) (fun b o hb e => (sb.2 b hb).trans e) f0 f1 f3 f4 f5, rfl, q⟩
end
end Gs
namespace Gs
open PySem PySem.Spec PyProof.Rows L2 PpSet
/-- sets of tuples of ints -/
def tupKd (P : Program) (w : World) (K : PySem.W.Frag) : SetKd P w K Tps where
  ob := fun D L => SetTO P w D L
  zero := []
  fresh := fun H h => setTO_new (setTR_fresh (Heap.get?_push_size _ rfl)).t0
  adds := fun D y H F => ∃ (x : Addr) (k : List Int) (L : Tps), y = .ref x ∧ H D = some (SetTO P w D L) ∧ (∀ p ∈ L, SqT K H p.1 (p.2.map V.int)) ∧ SqT K H x (k.map V.int) ∧ L.length + 1 < 64 ∧
    ∀ L' : Tps, (k ∈ L.map (·.2) → L' = L) → (k ∉ L.map (·.2) → L'.Perm ((x, k) :: L)) → F (upd H D (SetTO P w D L'))
  rule := by
    rintro Y rfl rfl rfl hu pins σ H s E D y u F I r ⟨x, k, L, rfl, hD, hL, hx, room, q⟩
    cases (show u = Value.ref x from r)
    exact addT_ok I hD hL hx (by omega) room fun L' s' c1 c2 J => ⟨_, J, q L' c1 c2⟩
def rLenT (K : PySem.W.Frag) (P : Program) (w : World) : List V → Hp → VK → Prop := fun xs H Q => ∃ (a : Addr) (L : Tps), xs = [.ref a] ∧ H a = some (SetTO P w a L) ∧ (∀ p ∈ L, SqT K H p.1 (p.2.map V.int)) ∧ Q (.int L.length) H
theorem call_lenT {X : Cx} : CallR X (.builtin "len") (rLenT X.K X.prog X.w) := by
  intro pins s σ H xs us Q I r h
  obtain ⟨a, L, rfl, ha, hL, q⟩ := h
  rw [Vals.ref1 r]
  have R0 : SetT0 X.prog X.w s.heap a L := (I.hok a _ ha).1
  obtain ⟨es, ep, t, R⟩ := R0.full fun p hp => I.isT (hL p hp)
  obtain ⟨o, ho, hex, hd⟩ := R.ob
  have hn := R.size
  have few := R.few
  exact call_len_set ho hex hd R.fits (by rw [hn]; omega) ⟨.int L.length, H, I.tok _, ⟨_, by rw [hn]⟩, q⟩
end Gs

set_option Elab.async false
set_option linter.all false
set_option maxRecDepth 100000
set_option maxHeartbeats 4000000
/-! Layer G5: a written dict with text keys, walked. -/
namespace Gs
open PySem PySem.Spec PyProof.Rows L2
/-- at d: a written dict that holds kvs, in this order -/
structure WD (K : PySem.W.Frag) (w : World) (d : Addr) (kvs : List (Str × V)) : Prop where
  ex : ∃ (es : Array DictEntry) (n : Nat), KDict K w d es n ∧ es.size = kvs.length ∧ ∀ (i : Nat) k v, kvs[i]? = some (k, v) → ∃ en t, es[i]? = some en ∧ en.key = .str k t ∧ RelV v en.val
def Itw (ks : List Str) : It := ⟨fun i _ => i < ks.length, fun i H x H' => H' = H ∧ ∃ k, ks[i]? = some k ∧ x = .str k, fun i _ => ks.length ≤ i⟩
section
variable {P : Program} {w : World} {K : PySem.W.Frag} {tg : Expr} {d : Addr} {es : Array DictEntry} {n : Nat} {ks : List Str}
theorem turn_wkeys (it : Addr) (D : KDict K w d es n) (hz : es.size = ks.length) (hk : ∀ (i : Nat) k, ks[i]? = some k → ∃ en t, es[i]? = some en ∧ en.key = .str k t) :
    Turn P w K tg (Itw ks) [it] it (fun i h => h.IsKeyIter it d i ks.length n) where
  mem := List.mem_cons_self
  obj := by
    intro i h st b hb
    obtain rfl : b = it := List.mem_singleton.mp hb
    obtain ⟨oi, e, c, dd⟩ := st
    exact ⟨oi, e, fun v z => by rw [dd] at z; cases z⟩
  keep := fun i h h' st k => st.at fun oi e => k it List.mem_cons_self oi e
  item := by
    rintro X rfl rfl rfl hc i pins s σ H E I hf st hi
    obtain ⟨f0, f1, f2, f3, f4, f5⟩ := hf it List.mem_cons_self
    have hi : i < ks.length := hi
    obtain ⟨en, t, hen, hkey⟩ := hk i _ (List.getElem?_eq_getElem hi)
    refine next_key_item st (I.kIn _ _ D.at_) rfl hz hen fun h' st' sb => ?_
    have I1 : Inv X pins σ H { s with heap := h' } := I.turned (t' := s.toks) (fun b ob hb e => (sb.2 b hb).trans e) f0 f1 f3 f4 f5
    obtain ⟨oi, e, c, dd⟩ := id st'
    exact ⟨en.key, rfl, go_of (s := { s with heap := h' }) e c dd (by decide) ⟨.str ks[i], H, I1, ⟨t, hkey⟩, ⟨rfl, _, List.getElem?_eq_getElem hi, rfl⟩, st', fun b hb => (hf b hb).1⟩⟩
  done := by
    rintro X rfl rfl rfl hc i pins s σ H E I hf st hi
    obtain ⟨f0, f1, f2, f3, f4, f5⟩ := hf it List.mem_cons_self
    exact next_key_end (I.ok.hd hc) st (I.kIn _ _ D.at_) rfl hz hi fun h' eb => ⟨rfl, I.turned (t' := s.toks) (fun b ob hb e => eb b ob hb e) f0 f1 f3 f4 f5⟩
  self := fun A i s Q E st h => wpAny_pyIter_keyiter st h
def iWKeys (K : PySem.W.Frag) (w : World) (td : TE) : TI := fun σ H R => td σ H fun x H1 => ∃ d kvs, x = .ref d ∧ WD K w d kvs ∧ R (Itw (kvs.map (·.1))) H1
/-- for k in D, D a written dict -/
theorem pi_wkeys {X : Cx} {e : Expr} {td : TE} (he : PE X e td) : PI X tg e (iWKeys X.K X.w td) := by
  constructor
  intro pins s σ H R I h
  refine thn (he.run pins s σ H _ I h) fun u s1 ⟨x, H1, I1, rx, d, kvs, ex, ⟨es, n, D, hz, hk⟩, q⟩ => ?_
  subst ex
  obtain rfl : u = Value.ref d := rx
  have hz : es.size = (kvs.map (·.1)).length := by rw [hz, List.length_map]
  have hk : ∀ (i : Nat) k, (kvs.map (·.1))[i]? = some k → ∃ en t, es[i]? = some en ∧ en.key = .str k t := by
    intro i k e
    rw [List.getElem?_map] at e
    cases z : kvs[i]? with
    | none => rw [z] at e; cases e
    | some q =>
      rw [z] at e
      obtain ⟨en, t, h1, h2, _⟩ := hk i q.1 q.2 z
      cases e
      exact ⟨en, t, h1, h2⟩
  refine iter_keys D.low (I1.kIn _ _ D.at_) ⟨rfl, rfl, rfl⟩ rfl (pi_one (tk := s1.toks) I1 _ (turn_wkeys _ D hz hk) ⟨_, Heap.get?_push_size _ rfl, rfl, ?_⟩ q)
  rw [hz] <;> rfl
theorem walk_wkeys {ks : List Str} : Walk (Itw ks) ks.length (fun _ => True) (fun i H x H' => H' = H ∧ ∃ k, ks[i]? = some k ∧ x = .str k) :=
  ⟨fun i H hi _ => hi, fun H _ => Nat.le_refl _, fun i H x H' _ _ y => y⟩
theorem isStr_str {k z : Str} {t : Tok} : (Value.str k t).isStr z = decide (k = z) := by
  show (k == z) = _
  by_cases h : k = z
  · subst h; simp
  · rw [decide_eq_false h]; simpa using h
/-- what it tells of a key -/
theorem WD.tells {kvs : List (Str × V)} (D : WD K w d kvs) (z : Str) : (∃ (i : Nat) (v : V) (u : Value), kvs[i]? = some (z, v) ∧ PySem.W.nsIn K d z = some (some u) ∧ RelV v u) ∨ ((∀ v, (z, v) ∉ kvs) ∧ PySem.W.nsIn K d z = some none) := by
  obtain ⟨es, n, ⟨at_, lit, low⟩, hz, hk⟩ := D.ex
  have e0 : PySem.W.nsIn K d z = (match es.toList.find? (·.key.isStr z) with
      | some e => some (some e.val)
      | none => if es.toList.any (·.refKey) then none else some none) := by
    unfold PySem.W.nsIn
    rw [at_] <;> rfl
  cases hf : es.toList.find? (·.key.isStr z) with
  | some e =>
    left
    have hm := List.mem_of_find?_eq_some hf
    have hq := List.find?_some hf
    obtain ⟨i, hi⟩ := List.getElem?_of_mem hm
    rw [Array.getElem?_toList] at hi
    have hl : i < kvs.length := by
      have : i < es.size := (Array.getElem?_eq_some_iff.mp hi).1
      omega
    obtain ⟨en, t, h1, h2, h3⟩ := hk i kvs[i].1 kvs[i].2 (List.getElem?_eq_getElem hl)
    rw [hi] at h1
    cases h1
    have hq : e.key.isStr z = true := hq
    rw [h2, isStr_str] at hq
    have ez : kvs[i].1 = z := of_decide_eq_true hq
    refine ⟨i, kvs[i].2, e.val, by rw [List.getElem?_eq_getElem hl, ← ez], ?_, h3⟩
    rw [e0, hf]
  | none =>
    right
    refine ⟨fun v hm => ?_, ?_⟩
    · obtain ⟨i, hi⟩ := List.getElem?_of_mem hm
      obtain ⟨en, t, h1, h2, h3⟩ := hk i z v hi
      have := List.find?_eq_none.mp hf en (by
        rw [← Array.getElem?_toList] at h1
        exact List.mem_of_getElem? h1)
      rw [h2, isStr_str] at this
      exact this (decide_eq_true rfl)
    · rw [e0, hf]
      have : es.toList.any (·.refKey) = false := by
        rw [List.any_eq_false]
        intro e he
        obtain ⟨x, t, h1, _⟩ := lit.all e he
        unfold DictEntry.refKey
        rw [h1]
        exact Bool.false_ne_true
      rw [this] <;> rfl
end
end Gs
namespace Gs
open PySem PySem.Spec PyProof.Rows L2
theorem pg_or {X : Cx} {e : Expr} {t u : TG} (h1 : PG X e t) (h2 : PG X e u) : PG X e (fun v σ H Q => t v σ H Q ∨ u v σ H Q) :=
  ⟨fun pins s σ H v w Q I r h => h.elim (fun h => h1.run pins s σ H v w Q I r h) fun h => h2.run pins s σ H v w Q I r h⟩
end Gs

set_option Elab.async false
set_option linter.all false
set_option maxRecDepth 100000
set_option maxHeartbeats 4000000
/-! Layer G12: == and != by an own __eq__ whatever it answers; str by an own __str__; a staticmethod off its class. -/
namespace Gs
open PySem PySem.Spec PyProof.Rows L2
theorem rel_ref (a : Addr) : L2.RelV (.ref a) (.ref a) := rfl
theorem rel_bl (b : Bool) : L2.RelV (.bl b) (.bool b) := rfl
theorem rel_str (z : Str) (t : Tok) : L2.RelV (.str z) (.str z t) := ⟨t, rfl⟩
theorem rel_ni {v : V} : ¬ L2.RelV v Value.notImplemented := by
  cases v <;> intro h
  · cases h
  · cases h
  · obtain ⟨_, h⟩ := h; cases h
  · obtain ⟨_, h⟩ := h; cases h
  · obtain ⟨_, h⟩ := h; cases h
  · obtain ⟨_, h⟩ := h; cases h
  · cases h
  · cases h
section
variable {X : Cx} {CX : CXT} {k : Nat} {C f : Addr} {fd : FuncData} {ps : List Str} {sp : Sp} {E : XK}
/-- a def that is called below the running body, its promise told there -/
theorem run_sub {A : Around} {pins : List (Addr × Obj)} {σ : L2.St} {H : Hp} {s : Shared} {Q : VK} {us : List Value} {vs : List V} (F : FnOk X.prog X.w X.K X.mg X.base CX k f fd ps sp)
    (hr : Room k A) (hA : A.frames = X.A.frames) (hb : Binds X.K fd ps []) (hx : Passes CX X E) (I : Inv X pins σ H s) (r : Vals vs us) (h : sp vs H Q E) :
    wpAny (model X.prog X.w) A (call (.ref f) us) (EP X pins σ Q) X.xe s := by
  have n : us.length = ps.length := r.length.symm.trans (F.len _ _ _ _ h)
  have b := hb s us I.kIn (by rw [List.append_nil]; exact n)
  rw [List.append_nil] at b
  have z := I.env0
  have z' : Env0 X.prog X.w X.K X.mg X.base A X.stack s H := ⟨by rw [hA]; exact z.frames, z.mod, z.bs, z.bsz, z.funs, z.frf, z.hok, z.bare⟩
  refine wpAny_call (codeAny_mono (F.run A X.stack s H ⟨us, []⟩ us vs Q E hr z' b r h) (fun q s' hq => ?_))
  match q, hq with
  | .error e, hq => exact hx pins σ H s e s' I hq
  | .ok (.ret u), hq => exact I.after hq
  | .ok .next, hq => exact hq.elim
  | .ok .brk, hq => exact hq.elim
  | .ok .cont, hq => exact hq.elim
/-- what an own class needs that == goes by its own def -/
structure OwnC (K : PySem.W.Frag) (C e : Addr) : Prop where
  eq : PySem.W.findIn K (.ref C) "__eq__" = some (some (.ref e))
  fe : PySem.W.isFn K (.ref e) = true
  ne : PySem.W.findIn K (.ref C) "__ne__" = some (some (.builtin "object.__ne__"))
  mo : PySem.W.mroIn K C (.type "object") = some true
/-- what an own class needs that str goes by its own def -/
structure OwnS (K : PySem.W.Frag) (C g : Addr) : Prop where
  st : PySem.W.findIn K (.ref C) "__str__" = some (some (.ref g))
  fs : PySem.W.isFn K (.ref g) = true
/-- what an own class needs that its instances are looked at by isinstance -/
structure TyC (K : PySem.W.Frag) (C : Addr) : Prop where
  cl : Cls K C
  ha : PySem.W.findIn K (.ref C) "__class__" = some (some (.builtin "object.__class__"))
  hn : PySem.W.specialIn K (.builtin "object.__class__") "__get__" = some (some (.builtin "getset_descriptor.__get__"))
  tk : PySem.W.takesIn K (.builtin "object.__class__") = some true
  mo : PySem.W.mroIn K C (.type "object") = some true
theorem TyC.ty {K : PySem.W.Frag} {C a dx : Addr} {fs : List (Str × V)} {H : Hp} (h : TyC K C) (e : H a = some (.ins C dx fs)) : TyX K H (.ref a) (.ref C) := .base (.ins e h.cl h.ha h.hn h.tk h.mo)
theorem nf_own {K : PySem.W.Frag} {C : Addr} : PySem.W.notFirst K C (.ref C) = true := by simp [PySem.W.notFirst]
def rOwn (K : PySem.W.Frag) (C : Addr) (sp : Sp) (E : XK) : R2 := fun x y H Q => ∃ (a dx : Addr) (fs : List (Str × V)) (t : Value), x = .ref a ∧ H a = some (.ins C dx fs) ∧ TyX K H y t ∧
  PySem.W.notFirst K C t = true ∧ sp [.ref a, y] H Q E
theorem op_eqOwn (O : OwnC X.K C f) (F : FnOk X.prog X.w X.K X.mg X.base CX k f fd ps sp) (hr : Room k X.A) (hb : Binds X.K fd ps []) (hx : Passes CX X E) : OpR X (compareOp .Eq) (rOwn X.K C sp E) := by
  intro pins s σ H x y v u Q I rx ry h
  obtain ⟨a, dx, fs, t, rfl, ha, ty, nf, q⟩ := h
  cases (show v = Value.ref a from rx)
  obtain ⟨_, J0, _⟩ := ins_get I.hok ha
  obtain ⟨_, J, _⟩ := J0.look
  obtain ⟨_, hF⟩ := I.fr
  obtain ⟨_, kx, hp, _⟩ := kit_of I ry ty
  refine PySem.W.cmp_K (op := .Eq) (tb := t) hr.units0 hF I.ok.mod.kin J (kx.ty _ _ I.kIn hp) nf O.eq O.fe ?_
  refine wpAny_mono (run_sub F hr rfl hb hx I (.cons (rel_ref a) (.cons ry .nil)) q) (fun z s' hz => ?_) fun _ _ e => e
  obtain ⟨v', H', I', rv, qq⟩ := hz
  cases z with
  | notImplemented => exact (rel_ni rv).elim
  | _ => exact ⟨v', H', I', rv, qq⟩
/-! the slot object.__ne__, off an own class -/
section
variable {prog : Program} {w : World} {M : Model} {A : Around} {EE : Value → Shared → Prop} {s : Shared} {K : PySem.W.Frag} {x e : Addr} {b tb : Value} {ox : Obj} {od : Option Obj}
theorem ne_entry (hu : A.units < cLine) (X : K.In s.heap) (I : PySem.W.InstAt s.heap x ox C od) (O : OwnC K C e) {Q : Fin → Shared → Prop}
    (h : wpAny (model prog w) A (call (.ref e) [.ref x, b]) (fun v s' => ∃ r, v = .bool r ∧ Q (.done (.ret (.bool (!r)))) s') EE s) :
    wpAny (model prog w) A (Builtin.«object.__ne__» ⟨[.ref x, b], []⟩) Q EE s := by
  have step : wpAny (model prog w) A (callSpecialIfBound? (.ref x) (Str.ofString "__eq__") [b]) (fun r s' => ∃ t, r = some (.bool t) ∧ Q (.done (.ret (.bool (!t)))) s') EE s :=
    PySem.W.ifBound_K X I O.eq O.fe (wpAny_mono h (fun v s' ⟨r, ev, q⟩ => ⟨r, by rw [ev], q⟩) fun _ _ z => z)
  unfold Builtin.«object.__ne__»
  repeat (first
    | with_reducible refine wpAny_cRoomFor hu ?_
    | (refine wpAny_bind (m := callSpecialIfBound? (.ref x) (Str.ofString "__eq__") [b]) (wpAny_mono step (fun r s' hr => by
        obtain ⟨t, rfl, q⟩ := hr
        repeat (first | exact q | exact wpAny_pure q | exact wpAny_truthy_bool q | (refine wpAny_bind (m := truthy (.bool _)) (wpAny_truthy_bool ?_)) | wp_step)) fun _ _ z => z))
    | wp_step)
theorem ne_bound {args : List Value} {Q : Option Value → Shared → Prop} (X : K.In s.heap) (I : PySem.W.InstAt s.heap x ox C od) (O : OwnC K C e)
    (h : wpAny M A (call (.builtin "object.__ne__") (.ref x :: args)) (fun v => Q (some v)) EE s) : wpAny M A (callSpecialIfBound? (.ref x) "__ne__" args) Q EE s := by
  have rest : wpAny M A (call (.builtin "object.__ne__") ([.ref x] ++ args) >>= fun v => pure (some v)) Q EE s := wpAny_bind (wpAny_mono h (fun _ _ z => wpAny_pure z) fun _ _ z => z)
  simp only [callSpecialIfBound?, bindSpecialIfBound?]
  refine wpAny_holding (wpAny_bind (wpAny_bind (wpAny_bind (I.type.here ((PySem.W.looks_findIn X O.ne).here ?_)))))
  refine wpAny_bind (wpAny_askSetting (wpAny_ite ?_))
  split
  · exact wpAny_bind (wpAny_of_eq (F.cmp_object.ne.bind _) (wpAny_pure (by exact rest)))
  · exact wpAny_tryCatch (wpAny_bind (wpAny_of_eq (F.cmp_object.ne.bind _) (wpAny_pure (by exact rest))))
theorem ne_rich {L : Addr} {h₀ : Heap} {m : Str → Option Value} (hu : A.units + 1 < cLine) (X : K.In s.heap) (I : PySem.W.InstAt s.heap x ox C od) (O : OwnC K C e)
    (hb : PySem.W.Looks (model prog w) s.heap (typeOf b) tb) (hn : PySem.W.notFirst K C tb = true) {Q : Value → Shared → Prop}
    (h : wpAny (model prog w) A.in1 (call (.ref e) [.ref x, b]) (fun v s' => ∃ r, v = .bool r ∧ Q (.bool (!r)) s') EE s) :
    wpAny (model prog w) A (richCompare .NotEq (.ref x) b) Q EE s := by
  have one : wpAny (model prog w) A (tryCompare (.ref x) "__ne__" b) (fun r s' => ∃ v, r = some v ∧ Q v s') EE s := by
    unfold tryCompare
    refine wpAny_bind (ne_bound X I O ?_)
    refine wpAny_call (codeAny_call_builtin F.cmp_object.ne.plain F.cmpEntry_ne (PySem.W.check_slot F.cmpKind_ne F.cmpSplit_ne (I.type.andThen (PySem.W.looks_mroIn X O.mo)) (F.cmpArgs_ne _ _) ?_))
    refine ne_entry (A := A.in1) hu X I O (wpAny_mono h (fun v s' hv => ?_) fun _ _ z => z)
    obtain ⟨r, rfl, q⟩ := hv
    exact ⟨r, rfl, wpAny_pure ⟨_, rfl, q⟩⟩
  unfold richCompare
  simp only [oneThing_ref]
  refine wpAny_holding (wpAny_bind (wpAny_cRoomFor (Nat.lt_of_succ_lt hu) ?_))
  refine wpAny_bind (I.type.here (wpAny_bind (hb.here ?_)))
  split
  · rename_i q
    have no : PySem.W.subIn K tb (.ref C) = some false := (Bool.or_eq_true_iff.mp hn).elim (fun z => absurd q (by rw [beq_iff_eq.mp z]; simp)) beq_iff_eq.mp
    refine wpAny_bind ((PySem.W.looks_subIn X no).here ?_)
    rw [if_neg Bool.false_ne_true]
    exact wpAny_bind (wpAny_mono one (fun r s' ⟨v, er, hv⟩ => by subst er; exact wpAny_pure hv) fun _ _ z => z)
  · refine wpAny_bind (wpAny_pure ?_)
    rw [if_neg Bool.false_ne_true]
    exact wpAny_bind (wpAny_mono one (fun r s' ⟨v, er, hv⟩ => by subst er; exact wpAny_pure hv) fun _ _ z => z)
end
theorem op_neOwn (O : OwnC X.K C f) (F : FnOk X.prog X.w X.K X.mg X.base CX k f fd ps sp) (hr : Room (k + 1) X.A) (hb : Binds X.K fd ps []) (hx : Passes CX X E) :
    OpR X (compareOp .NotEq) fun x y H Q => rOwn X.K C sp E x y H fun v H' => ∃ b, v = .bl b ∧ Q (.bl (!b)) H' := by
  intro pins s σ H x y v u Q I rx ry h
  obtain ⟨a, dx, fs, t, rfl, ha, ty, nf, q⟩ := h
  cases (show v = Value.ref a from rx)
  obtain ⟨_, J0, _⟩ := ins_get I.hok ha
  obtain ⟨_, J, _⟩ := J0.look
  obtain ⟨_, kx, hp, _⟩ := kit_of I ry ty
  refine ne_rich (h₀ := X.base) (L := 0) (m := X.mg) (by have := hr.units; omega) I.kIn J O (kx.ty _ _ I.kIn hp) nf ?_
  refine wpAny_mono (run_sub (A := X.A.in1) F hr.in1 rfl hb hx I (.cons (rel_ref a) (.cons ry .nil)) q) (fun z s' hz => ?_) fun _ _ e => e
  obtain ⟨v', H', I', rv, b, rfl, qq⟩ := hz
  exact ⟨b, rv, .bl (!b), H', I', rel_bl _, qq⟩
/-- str(o) -/
def rStrO (C : Addr) (sp : Sp) (E : XK) : List V → Hp → VK → Prop := fun xs H Q => ∃ (a dx : Addr) (fs : List (Str × V)), xs = [.ref a] ∧ H a = some (.ins C dx fs) ∧ sp [.ref a] H (fun v H' => ∃ z, v = .str z ∧ Q v H') E
theorem call_strO (O : OwnS X.K C f) (F : FnOk X.prog X.w X.K X.mg X.base CX k f fd ps sp) (hr : Room (k + 2) X.A) (hb : Binds X.K fd ps []) (hx : Passes CX X E) : CallR X (.type "str") (rStrO C sp E) := by
  intro pins s σ H xs us Q I r h
  obtain ⟨a, dx, fs, rfl, ha, q⟩ := h
  obtain ⟨u, rfl, ru⟩ := r.one
  cases (show u = Value.ref a from ru)
  obtain ⟨_, J0, _⟩ := ins_get I.hok ha
  obtain ⟨_, J, _⟩ := J0.look
  refine PySem.W.kso_call hr.in1.in1.units0 I.kIn J O.st O.fs ?_
  refine wpAny_mono (run_sub (A := X.A.in1.in1) F hr.in1.in1 rfl hb hx I (.cons (rel_ref a) .nil) q) (fun z s' hz => ?_) fun _ _ e => e
  obtain ⟨v', H', I', rv, y, rfl, qq⟩ := hz
  obtain ⟨t, rfl⟩ := rv
  exact ⟨.str y, H', I', rel_str y t, qq⟩
/-- what a class needs that C.m is a staticmethod around the def at g -/
structure StaC (K : PySem.W.Frag) (C : Addr) (m : Str) (g : Addr) : Prop where
  ex : ∃ (mc : Value) (p : Addr) (rest : List Value), PySem.W.readsIn K C mc = true ∧ PySem.W.specialIn K (.ref C) "__getattribute__" = some (some (.builtin "type.__getattribute__")) ∧ PySem.W.typeIn K (.ref C) = some mc ∧
    PySem.W.findCls K (.ref C) mc m = some (.get (.builtin "staticmethod.__get__") (.ref p) .none (.ref C)) ∧ PySem.W.recIn K p "staticmethod" = some (.ref g :: rest)
  kp : PySem.W.keepIn K (.ref g) = true
section
variable {pins : List (Addr × Obj)} {σ : L2.St} {H : Hp} {s : Shared} {g : Addr} {m x : Str} {p pos apos : Pos} {e : Expr} {es : List Expr} {kws : List Keyword} {t tk : TA} {pl : Sem Bool} {ks : List Str}
  {gg : List Value → List Value → List Value} {gV : List V → List V → List V}
theorem get_sta {A : Around} {EE : Value → Shared → Prop} {Q : Value × List Value → Shared → Prop} (I : Inv X pins σ H s) (Z : StaC X.K C m g) (h : ∀ s', Inv X pins σ H s' → Q (.ref g, []) s') :
    wpAny (model X.prog X.w) A (getMethod (.ref C) m pl) Q EE s := by
  obtain ⟨mc, p, rest, r1, r2, r3, r4, r5⟩ := Z.ex
  obtain ⟨_, hF⟩ := I.fr
  exact PySem.W.method_of_cls hF I.ok.mod.kin r2 (PySem.W.cls_sm hF I.ok.mod.kin r3 r1 r4 r5 rfl (h _ (I.tok _)))
/-- C.m(e, ..) -/
theorem pe_sta (Z : StaC X.K C m f) (F : FnOk X.prog X.w X.K X.mg X.base CX k f fd ps sp) (hr : Room k X.A) (hg : Gl X x) (hm : X.mg x = some (.ref C)) (hb : Binds X.K fd ps []) (hx : Passes CX X E) (ha : PA X (e :: es) t)
    (hdb : (x == ("__debug__" : Str)) = false := by decide) (he : starEach (e :: es) X.env = (false, eval e X.env) :: starEach es X.env := by rfl)
    (hpl : ((backTo pos (starEach (e :: es) X.env)).any (·.1) || (backToKw pos (keywordEach [] X.env)).any (·.1.isNone)) = false := by rfl)
    (hpl2 : (backTo pos (starEach es X.env)).any (·.1) = false := by rfl)
    (ht : eval (.Call (.Attribute (.Name x p) m apos) (e :: es) [] pos) X.env = (do
      let ov ← eval (.Name x p) X.env
      standAt apos.atName
      let (f, first) ← holding [ov] (getMethod ov m pl)
      callWith pos f first (backTo pos (starEach (e :: es) X.env)) (backToKw pos (keywordEach [] X.env))) := by rfl) :
    PE X (.Call (.Attribute (.Name x p) m apos) (e :: es) [] pos) (tCall sp [] E t) := by
  refine ⟨fun pins s σ H Q I h => ?_⟩
  refine PySem.W.methodCall_KW (pl := pl) (ld_glob I hg hm ?_ hdb) ht
  refine get_sta I Z fun s0 I0 => ?_
  refine PySem.W.callWith_K (h₀ := X.base) I.ok.mod.kin Z.kp (thn (ha.run pos pins s0 σ H _ I0 h) fun us s1 ⟨vs, H1, I1, r, q⟩ => ⟨I1.kIn, ?_⟩) he hpl2
  exact run_fn F hr hb .nil hx I1 r q
/-- C.m(k = v, ..) -/
theorem pe_staK (Z : StaC X.K C m f) (F : FnOk X.prog X.w X.K X.mg X.base CX k f fd ps sp) (hr : Room k X.A) (hg : Gl X x) (hm : X.mg x = some (.ref C)) (hb : KBn X.K fd ps 0 ks gg gV) (hx : Passes CX X E) (hkw : PK X kws tk)
    (hall : (backToKw pos (keywordEach kws X.env)).all (·.1.isSome) = true := by rfl) (hks : (backToKw pos (keywordEach kws X.env)).filterMap (·.1) = ks := by rfl) (hdb : (x == ("__debug__" : Str)) = false := by decide)
    (hpl : ((backTo pos (starEach [] X.env)).any (·.1) || (backToKw pos (keywordEach kws X.env)).any (·.1.isNone)) = false := by rfl)
    (ht : eval (.Call (.Attribute (.Name x p) m apos) [] kws pos) X.env = (do
      let ov ← eval (.Name x p) X.env
      standAt apos.atName
      let (f, first) ← holding [ov] (getMethod ov m pl)
      callWith pos f first (backTo pos (starEach [] X.env)) (backToKw pos (keywordEach kws X.env))) := by rfl) :
    PE X (.Call (.Attribute (.Name x p) m apos) [] kws pos) (tCallN 0 ks.length sp gV E tNil tk) := by
  refine ⟨fun pins s σ H Q I h => ?_⟩
  refine PySem.W.methodCall_KW (pl := pl) (ld_glob I hg hm ?_ hdb) ht
  refine get_sta I Z fun s0 I0 => ?_
  refine PySem.W.callWith_KW0 (h₀ := X.base) I.ok.mod.kin Z.kp hall ?_ hpl
  refine thn (hkw.run pos pins s0 σ H _ I0 h) fun ws s2 ⟨zs, H2, I2, rz, l1, l2, q2⟩ => ⟨I2.kIn, ?_⟩
  rw [hks]
  exact run_fnN (us := []) (vs := []) F hr hb hx I2 .nil rz rfl l2 q2
end
end
end Gs

set_option Elab.async false
set_option linter.all false
set_option maxRecDepth 100000
set_option maxHeartbeats 4000000
namespace Gs
open PySem PySem.Spec PyProof.Rows L2
theorem tabs_none {P : Addr} {q : Str} {H : Hp} (h : H P = some (.tbl #[])) : LamX.Tabs [(P, q)] H := fun p hp => by
  rw [List.mem_singleton.mp hp]
  exact LamX.TabS.nil h
section
variable {P : Program} {w : World} {K : PySem.W.Frag} {mg mb : Str → Option Value} {CX : CXT} {k : Nat} {fa a cc T : Addr} {fd : FuncData} {x : Str} {sp : Sp}
  {s₁ : Shared} {vs : List Value} {ns : List Int}
/-- the law's call where one code object has an empty table -/
theorem law_callGT (KX : K.In s₁.heap) (hns : s₁.heap.Ns mainGlobals mg) (hb : s₁.heap.Ns builtinsNs mb) (hbb : ∀ x : Str, x ≠ "__name__" → mb x = bootBuiltins x)
    (hlim : s₁.heap.NoLimit) (hg : s₁.gens = #[]) (hT : s₁.heap.get? T = some { cls := .none, data := .fields #[] }) (nT : K.lookup T = none) (C : PySem.W.CodeHd s₁.heap cc T)
    (hbm : ∃ (bm : Addr) (ob : Obj), mg "__builtins__" = some (.ref bm) ∧ bm ≠ builtinsNs ∧ s₁.heap.get? bm = some ob ∧ ob.cls = .type "module" ∧ ob.dict = some builtinsNs ∧ ob.data = .plain)
    (ha : s₁.heap.get? a = some { cls := .type "list", data := .seq vs.toArray }) (hi : IntsAre vs ns) (hl : ns.length ≤ sizeLine)
    (hr : Room k callerA) (F : ∀ base : Heap, K.In base → base.Ns mainGlobals mg → LamX.TabB base mg cc T → FnG P w K mg base CX k fa fd [x] sp)
    (hbind : ∀ (s : Shared) (u : Value), BindsTo s fd ⟨[u], []⟩ [(x, u)])
    (hsp : ∀ H : Hp, H T = some (.tbl #[]) → SqL K H a (ns.map V.int) → sp [.ref a] H (fun v _ => v = .bl true) fun _ _ _ => False)
    (hCX : ∀ H e s', CX [] H s₁ (fun _ _ _ => False) e s' → False) :
    codeAny (model P w) callerA (.call (.ref fa) ⟨[.ref a], []⟩)
      (fun r s' => r = .ok (.ret (.bool true)) ∧ OldK s₁.heap s'.heap ∧ s'.os = s₁.os ∧ AllBare s'.gens) s₁ := by
  have rv := vals_ints hi
  have nV := hi.length
  have aT : a ≠ T := fun z => by rw [z, hT] at ha; cases ha
  -- H knows the table, and perhaps the script, which is frozen
  have go : ∀ H : Hp, (∀ b, H b = none ∨ (b = a ∧ K.lookup b = none ∧ ∃ o ys, H b = some (.frz o (.lst ys))) ∨ b = T) → H T = some (.tbl #[]) → SqL K H a (ns.map V.int) → HOk P w H s₁.heap →
      codeAny (model P w) callerA (.call (.ref fa) ⟨[.ref a], []⟩)
        (fun r s' => r = .ok (.ret (.bool true)) ∧ OldK s₁.heap s'.heap ∧ s'.os = s₁.os ∧ AllBare s'.gens) s₁ := by
    intro H hO hHT hS hok
    have unk : ∀ {b : Addr} {o : Obj}, s₁.heap.get? b = some o → o.data ≠ .seq vs.toArray → o.data ≠ .fields #[] → H b = none := by
      intro b o e nd nf
      rcases hO b with q | ⟨q, _, _⟩ | q
      · exact q
      · rw [q, ha] at e; cases e; exact absurd rfl nd
      · rw [q, hT] at e; cases e; exact absurd rfl nf
    have hid : ∀ {b : Addr} {o : Obj}, s₁.heap.get? b = some o → o.data ≠ .seq vs.toArray → o.data ≠ .fields #[] → (hidT s₁.heap H).get? b = some o := fun e n1 n2 => hidT_get e (unk e n1 n2)
    have nsH : ∀ {b : Addr} {m : Str → Option Value}, s₁.heap.Ns b m → (hidT s₁.heap H).Ns b m := by
      rintro b m ⟨o, es, ep, e, d, r⟩
      exact ⟨o, es, ep, hid e (by rw [d]; exact fun z => nomatch z) (by rw [d]; exact fun z => nomatch z), d, r⟩
    have kH : K.In (hidT s₁.heap H) := by
      intro b o e
      refine hidT_get (KX b o e) ?_
      rcases hO b with q | ⟨_, q, _⟩ | q
      · exact q
      · rw [q] at e; cases e
      · rw [q, nT] at e; cases e
    have md : Mod K mg (hidT s₁.heap H) := by
      refine ⟨kH, nsH hns, ⟨mb, nsH hb, hbb⟩, ?_⟩
      obtain ⟨mc, h1, h2⟩ := hlim
      exact ⟨mc, nsH h1, h2⟩
    have e0 : Env0 P w K mg (hidT s₁.heap H) callerA [] s₁ H := by
      refine ⟨rfl, md, fun b o e => of_hidT e, Nat.le_of_eq (hidT_size _ _), trivial, ?_, hok, .of_eq hg⟩
      intro b hb
      exact absurd (show b ∈ ([] : List Addr) from hb) (List.not_mem_nil)
    have ngT : mainGlobals ≠ T := fun z => by
      obtain ⟨o, es, ep, e, d, _⟩ := hns
      rw [z, hT] at e; cases e; cases d
    have TB : LamX.TabB (hidT s₁.heap H) mg cc T := by
      refine ⟨?_, ?_, ngT⟩
      · obtain ⟨o, us, file, tf, flags, tg, inF, text, tt, e1, r1, r2, r3, rest⟩ := C
        refine ⟨o, us, file, tf, flags, tg, inF, text, tt, hid e1 (by rw [r2]; exact fun z => nomatch z) (fun z => ?_), r1, r2, r3, rest⟩
        rw [r2] at z; cases z; simp at r3
      · obtain ⟨bm, ob, b1, b2, b3, b4, b5, b6⟩ := hbm
        refine ⟨bm, ob, b1, b2, fun z => ?_, fun z => ?_, hid b3 (by rw [b6]; exact fun z => nomatch z) (by rw [b6]; exact fun z => nomatch z), b4, b5, b6⟩
        · obtain ⟨o, es, ep, e, d, _⟩ := hns
          rw [z, e] at b3; cases b3
          rw [d] at b6; cases b6
        · rw [z, hT] at b3; cases b3; cases b6
    have run := (F _ kH (nsH hns) TB).run callerA [] s₁ H ⟨[.ref a], []⟩ [.ref a] [.ref a] _ _ hr rfl e0 (hbind s₁ (.ref a)) (.cons rfl .nil) (hsp H hHT hS)
    refine codeAny_mono run (fun r s' h => ?_)
    match r, h with
    | .error e, h => exact (hCX H e s' h).elim
    | .ok .next, h => exact h.elim
    | .ok .brk, h => exact h.elim
    | .ok .cont, h => exact h.elim
    | .ok (.ret u), h =>
      obtain ⟨v, H', os, bare, un, hok', r', q⟩ := h
      cases (show v = .bl true from q)
      cases (show u = Value.bool true from r')
      obtain ⟨more, hm⟩ := un.tbls T #[] hHT
      have gT : s'.heap.get? T = some { cls := .none, data := .fields (#[] ++ more) } := hok' T _ hm
      have keep : ∀ b o, b ≠ T → s₁.heap.get? b = some o → s'.heap.get? b = some o := fun b o nb e => by
        rcases hO b with q | ⟨_, _, ob, ys, q⟩ | q
        · exact un.keep b o e q (fun z => absurd (show b ∈ ([] : List Addr) from z) List.not_mem_nil) List.not_mem_nil
        · obtain ⟨e1, _⟩ := hok b _ q
          obtain ⟨e2, _⟩ := hok' b _ (un.frzs b ob _ q)
          rw [e] at e1; cases e1; exact e2
        · exact absurd q nb
      refine ⟨rfl, ⟨fun b o e => ?_, fun b o e => ?_⟩, os, bare⟩
      · by_cases nb : b = T
        · subst nb
          rw [hT] at e; cases e
          exact .inr (.inl ⟨(C.tab hT).isCodeTable, rfl, #[], more, rfl, gT⟩)
        · exact .inl (keep b o nb e)
      · by_cases nb : b = T
        · rw [nb]; exact ⟨_, gT⟩
        · exact ⟨o, keep b o nb e⟩
  by_cases hk : K.lookup a = none
  · have at_T : (fun b => if b = T then some (HO.tbl #[]) else if b = a then some (HO.frz { cls := .type "list", data := .seq vs.toArray } (.lst (ns.map V.int))) else none : Hp) T = some (.tbl #[]) := if_pos rfl
    have at_a : (fun b => if b = T then some (HO.tbl #[]) else if b = a then some (HO.frz { cls := .type "list", data := .seq vs.toArray } (.lst (ns.map V.int))) else none : Hp) a = some (.frz { cls := .type "list", data := .seq vs.toArray } (.lst (ns.map V.int))) := (if_neg aT).trans (if_pos rfl)
    refine go (fun b => if b = T then some (HO.tbl #[]) else if b = a then some (HO.frz { cls := .type "list", data := .seq vs.toArray } (.lst (ns.map V.int))) else none) (fun b => ?_) at_T (.inl (.inr ⟨_, at_a⟩)) (fun b u z => ?_)
    · by_cases e : b = T
      · exact .inr (.inr e)
      · by_cases e2 : b = a
        · refine .inr (.inl ⟨e2, by rw [e2]; exact hk, _, _, (if_neg e).trans (if_pos e2)⟩)
        · exact .inl ((if_neg e).trans (if_neg e2))
    · dsimp only at z
      by_cases e : b = T
      · rw [if_pos e] at z; cases z; rw [e]; exact hT
      · rw [if_neg e] at z
        by_cases e2 : b = a
        · rw [if_pos e2] at z; cases z; rw [e2]
          exact ⟨ha, by rw [List.length_map]; exact hl, vs, _, rv, ha⟩
        · rw [if_neg e2] at z; cases z
  · obtain ⟨o, ho⟩ := Option.ne_none_iff_exists'.mp hk
    have e := KX a o ho
    rw [ha] at e; cases e
    refine go (fun b => if b = T then some (.tbl #[]) else none) (fun b => ?_) (if_pos rfl) (.inr ⟨_, vs.toArray, _, ho, rfl, rfl, rfl, ?_, by simpa using rv⟩) (fun b u z => ?_)
    · by_cases e : b = T
      · exact .inr (.inr e)
      · exact .inl (if_neg e)
    · rw [List.size_toArray, nV]; exact hl
    · dsimp only at z
      by_cases e : b = T
      · rw [if_pos e] at z; cases z; rw [e]; exact hT
      · rw [if_neg e] at z; cases z
end
/-- what the head leaves, from the law's promise; one code object has a table -/
theorem walkGT {l : PySem.W.OpenLaw} {k : Nat} {q : Program} {loose : List Str} {XP : (Str → Option Value) → Heap → Prop} {YP : World → Heap → Prop} {d : DefRec}
    {K : Params → PySem.W.Frag} {sp : PySem.W.Frag → Sp} {x : Str} {T : Addr} (hn : l.most = some 63) (hdf : d.params.defaults = []) (hr : Room k callerA)
    (hY : ∀ (w : World) (h : Heap), YP w h → (K w.params).In h) (hT : ∀ (w : World) (h : Heap), YP w h → h.get? T = some { cls := .none, data := .fields #[] })
    (F : ∀ (w : World) (mg : Str → Option Value) (fa : Addr) (h : Heap), (K w.params).In h → h.Ns mainGlobals mg → mg d.name = some (.ref fa) →
      ∃ (fd : FuncData) (cc : Addr), (∀ (s : Shared) (u : Value), BindsTo s fd ⟨[u], []⟩ [(x, u)]) ∧ (K w.params).lookup T = none ∧ PySem.W.codeHdIn (K w.params) cc T = true ∧
        ∀ base : Heap, (K w.params).In base → base.Ns mainGlobals mg → LamX.TabB base mg cc T → FnG l.prog w (K w.params) mg base CX0 k fa fd [x] (sp (K w.params)))
    (hsp : ∀ (K : PySem.W.Frag) (H : Hp) (a : Addr) (ns : List Int), ns.length ≤ 63 → H T = some (.tbl #[]) → SqL K H a (ns.map V.int) → sp K [.ref a] H (fun v _ => v = .bl true) fun _ _ _ => False) :
    PySem.W.WalkO q loose XP YP l.row.toRowW d [] (fun f vs => PySem.call f vs) := by
  refine Att.attach_call hn hdf (fun w s₀ s₁ mg mb fa o pm cd doc a vs ns G Y ho hd hcd hmg hobj hints hlen hg => ?_)
  have KX := hY w _ Y
  obtain ⟨fd, cc, hb, nT, hc, hF⟩ := F w mg fa _ KX G.T.g hmg
  exact law_callGT KX G.T.g G.T.b G.T.builtins G.T.nolimit hg (hT w _ Y) nT (PySem.W.codeHd_of_K KX hc) G.T.bmain hobj hints (Nat.le_trans hlen (by decide)) hr hF hb (fun H hHT hS => hsp _ H a ns hlen hHT hS) (fun _ _ _ h => h)
end Gs

set_option Elab.async false
set_option linter.all false
set_option maxRecDepth 100000
set_option maxHeartbeats 4000000
namespace Gs
open PySem PySem.Spec PyProof.Rows L2
theorem tabs_none2 {P Q : Addr} {p q : Str} {H : Hp} (h : H P = some (.tbl #[])) (h2 : H Q = some (.tbl #[])) : LamX.Tabs [(P, p), (Q, q)] H := fun r hr => by
  simp only [List.mem_cons, List.not_mem_nil, or_false] at hr
  rcases hr with rfl | rfl
  · exact LamX.TabS.nil h
  · exact LamX.TabS.nil h2
section
variable {P : Program} {w : World} {K : PySem.W.Frag} {mg mb : Str → Option Value} {CX : CXT} {k : Nat} {fa a cc T cc2 T2 : Addr} {fd : FuncData} {x : Str} {sp : Sp}
  {s₁ : Shared} {vs : List Value} {ns : List Int}
/-- the law's call where two code objects have empty tables -/
theorem law_callGT2 (KX : K.In s₁.heap) (hns : s₁.heap.Ns mainGlobals mg) (hb : s₁.heap.Ns builtinsNs mb) (hbb : ∀ x : Str, x ≠ "__name__" → mb x = bootBuiltins x)
    (hlim : s₁.heap.NoLimit) (hg : s₁.gens = #[]) (hT : s₁.heap.get? T = some { cls := .none, data := .fields #[] }) (nT : K.lookup T = none) (C : PySem.W.CodeHd s₁.heap cc T)
    (hT2 : s₁.heap.get? T2 = some { cls := .none, data := .fields #[] }) (nT2 : K.lookup T2 = none) (C2 : PySem.W.CodeHd s₁.heap cc2 T2)
    (hbm : ∃ (bm : Addr) (ob : Obj), mg "__builtins__" = some (.ref bm) ∧ bm ≠ builtinsNs ∧ s₁.heap.get? bm = some ob ∧ ob.cls = .type "module" ∧ ob.dict = some builtinsNs ∧ ob.data = .plain)
    (ha : s₁.heap.get? a = some { cls := .type "list", data := .seq vs.toArray }) (hi : IntsAre vs ns) (hl : ns.length ≤ sizeLine)
    (hr : Room k callerA) (F : ∀ base : Heap, K.In base → base.Ns mainGlobals mg → LamX.TabB base mg cc T → LamX.TabB base mg cc2 T2 → FnG P w K mg base CX k fa fd [x] sp)
    (hbind : ∀ (s : Shared) (u : Value), BindsTo s fd ⟨[u], []⟩ [(x, u)])
    (hsp : ∀ H : Hp, H T = some (.tbl #[]) → H T2 = some (.tbl #[]) → SqL K H a (ns.map V.int) → sp [.ref a] H (fun v _ => v = .bl true) fun _ _ _ => False)
    (hCX : ∀ H e s', CX [] H s₁ (fun _ _ _ => False) e s' → False) :
    codeAny (model P w) callerA (.call (.ref fa) ⟨[.ref a], []⟩)
      (fun r s' => r = .ok (.ret (.bool true)) ∧ OldK s₁.heap s'.heap ∧ s'.os = s₁.os ∧ AllBare s'.gens) s₁ := by
  have rv := vals_ints hi
  have nV := hi.length
  have aT : a ≠ T := fun z => by rw [z, hT] at ha; cases ha
  have aT2 : a ≠ T2 := fun z => by rw [z, hT2] at ha; cases ha
  -- H knows the table, and perhaps the script, which is frozen
  have go : ∀ H : Hp, (∀ b, H b = none ∨ (b = a ∧ K.lookup b = none ∧ ∃ o ys, H b = some (.frz o (.lst ys))) ∨ b = T ∨ b = T2) → H T = some (.tbl #[]) → H T2 = some (.tbl #[]) → SqL K H a (ns.map V.int) → HOk P w H s₁.heap →
      codeAny (model P w) callerA (.call (.ref fa) ⟨[.ref a], []⟩)
        (fun r s' => r = .ok (.ret (.bool true)) ∧ OldK s₁.heap s'.heap ∧ s'.os = s₁.os ∧ AllBare s'.gens) s₁ := by
    intro H hO hHT hHT2 hS hok
    have unk : ∀ {b : Addr} {o : Obj}, s₁.heap.get? b = some o → o.data ≠ .seq vs.toArray → o.data ≠ .fields #[] → H b = none := by
      intro b o e nd nf
      rcases hO b with q | ⟨q, _, _⟩ | q | q
      · exact q
      · rw [q, ha] at e; cases e; exact absurd rfl nd
      · rw [q, hT] at e; cases e; exact absurd rfl nf
      · rw [q, hT2] at e; cases e; exact absurd rfl nf
    have hid : ∀ {b : Addr} {o : Obj}, s₁.heap.get? b = some o → o.data ≠ .seq vs.toArray → o.data ≠ .fields #[] → (hidT s₁.heap H).get? b = some o := fun e n1 n2 => hidT_get e (unk e n1 n2)
    have nsH : ∀ {b : Addr} {m : Str → Option Value}, s₁.heap.Ns b m → (hidT s₁.heap H).Ns b m := by
      rintro b m ⟨o, es, ep, e, d, r⟩
      exact ⟨o, es, ep, hid e (by rw [d]; exact fun z => nomatch z) (by rw [d]; exact fun z => nomatch z), d, r⟩
    have kH : K.In (hidT s₁.heap H) := by
      intro b o e
      refine hidT_get (KX b o e) ?_
      rcases hO b with q | ⟨_, q, _⟩ | q | q
      · exact q
      · rw [q] at e; cases e
      · rw [q, nT] at e; cases e
      · rw [q, nT2] at e; cases e
    have md : Mod K mg (hidT s₁.heap H) := by
      refine ⟨kH, nsH hns, ⟨mb, nsH hb, hbb⟩, ?_⟩
      obtain ⟨mc, h1, h2⟩ := hlim
      exact ⟨mc, nsH h1, h2⟩
    have e0 : Env0 P w K mg (hidT s₁.heap H) callerA [] s₁ H := by
      refine ⟨rfl, md, fun b o e => of_hidT e, Nat.le_of_eq (hidT_size _ _), trivial, ?_, hok, .of_eq hg⟩
      intro b hb
      exact absurd (show b ∈ ([] : List Addr) from hb) (List.not_mem_nil)
    have tbOf : ∀ (c0 t0 : Addr), s₁.heap.get? t0 = some { cls := .none, data := .fields #[] } → PySem.W.CodeHd s₁.heap c0 t0 → LamX.TabB (hidT s₁.heap H) mg c0 t0 := fun c0 t0 h0 C0 => by
      have ng0 : mainGlobals ≠ t0 := fun z => by
        obtain ⟨o, es, ep, e, d, _⟩ := hns
        rw [z, h0] at e; cases e; cases d
      refine ⟨?_, ?_, ng0⟩
      · obtain ⟨o, us, file, tf, flags, tg, inF, text, tt, e1, r1, r2, r3, rest⟩ := C0
        refine ⟨o, us, file, tf, flags, tg, inF, text, tt, hid e1 (by rw [r2]; exact fun z => nomatch z) (fun z => ?_), r1, r2, r3, rest⟩
        rw [r2] at z; cases z; simp at r3
      · obtain ⟨bm, ob, b1, b2, b3, b4, b5, b6⟩ := hbm
        refine ⟨bm, ob, b1, b2, fun z => ?_, fun z => ?_, hid b3 (by rw [b6]; exact fun z => nomatch z) (by rw [b6]; exact fun z => nomatch z), b4, b5, b6⟩
        · obtain ⟨o, es, ep, e, d, _⟩ := hns
          rw [z, e] at b3; cases b3
          rw [d] at b6; cases b6
        · rw [z, h0] at b3; cases b3; cases b6
    have run := (F _ kH (nsH hns) (tbOf _ _ hT C) (tbOf _ _ hT2 C2)).run callerA [] s₁ H ⟨[.ref a], []⟩ [.ref a] [.ref a] _ _ hr rfl e0 (hbind s₁ (.ref a)) (.cons rfl .nil) (hsp H hHT hHT2 hS)
    refine codeAny_mono run (fun r s' h => ?_)
    match r, h with
    | .error e, h => exact (hCX H e s' h).elim
    | .ok .next, h => exact h.elim
    | .ok .brk, h => exact h.elim
    | .ok .cont, h => exact h.elim
    | .ok (.ret u), h =>
      obtain ⟨v, H', os, bare, un, hok', r', q⟩ := h
      cases (show v = .bl true from q)
      cases (show u = Value.bool true from r')
      obtain ⟨more, hm⟩ := un.tbls T #[] hHT
      obtain ⟨more2, hm2⟩ := un.tbls T2 #[] hHT2
      have gT : s'.heap.get? T = some { cls := .none, data := .fields (#[] ++ more) } := hok' T _ hm
      have gT2 : s'.heap.get? T2 = some { cls := .none, data := .fields (#[] ++ more2) } := hok' T2 _ hm2
      have keep : ∀ b o, b ≠ T → b ≠ T2 → s₁.heap.get? b = some o → s'.heap.get? b = some o := fun b o nb nb2 e => by
        rcases hO b with q | ⟨_, _, ob, ys, q⟩ | q | q
        · exact un.keep b o e q (fun z => absurd (show b ∈ ([] : List Addr) from z) List.not_mem_nil) List.not_mem_nil
        · obtain ⟨e1, _⟩ := hok b _ q
          obtain ⟨e2, _⟩ := hok' b _ (un.frzs b ob _ q)
          rw [e] at e1; cases e1; exact e2
        · exact absurd q nb
        · exact absurd q nb2
      refine ⟨rfl, ⟨fun b o e => ?_, fun b o e => ?_⟩, os, bare⟩
      · by_cases nb : b = T
        · subst nb
          rw [hT] at e; cases e
          exact .inr (.inl ⟨(C.tab hT).isCodeTable, rfl, #[], more, rfl, gT⟩)
        · by_cases nb2 : b = T2
          · subst nb2
            rw [hT2] at e; cases e
            exact .inr (.inl ⟨(C2.tab hT2).isCodeTable, rfl, #[], more2, rfl, gT2⟩)
          · exact .inl (keep b o nb nb2 e)
      · by_cases nb : b = T
        · rw [nb]; exact ⟨_, gT⟩
        · by_cases nb2 : b = T2
          · rw [nb2]; exact ⟨_, gT2⟩
          · exact ⟨o, keep b o nb nb2 e⟩
  by_cases hk : K.lookup a = none
  · obtain ⟨F0, hF0⟩ : ∃ F0 : Hp, F0 = fun b => if b = T then some (HO.tbl #[]) else if b = T2 then some (HO.tbl #[]) else if b = a then some (HO.frz { cls := .type "list", data := .seq vs.toArray } (.lst (ns.map V.int))) else none := ⟨_, rfl⟩
    have at_T : F0 T = some (.tbl #[]) := by rw [hF0]; exact if_pos rfl
    have at_T2 : F0 T2 = some (.tbl #[]) := by
      rw [hF0]
      by_cases e : T2 = T
      · exact if_pos e
      · exact (if_neg e).trans (if_pos rfl)
    have at_a : F0 a = some (.frz { cls := .type "list", data := .seq vs.toArray } (.lst (ns.map V.int))) := by
      rw [hF0]; exact (if_neg aT).trans ((if_neg aT2).trans (if_pos rfl))
    refine go F0 (fun b => ?_) at_T at_T2 (.inl (.inr ⟨_, at_a⟩)) (fun b u z => ?_)
    · by_cases e : b = T
      · exact .inr (.inr (.inl e))
      · by_cases e3 : b = T2
        · exact .inr (.inr (.inr e3))
        · by_cases e2 : b = a
          · exact .inr (.inl ⟨e2, by rw [e2]; exact hk, _, _, by rw [e2]; exact at_a⟩)
          · exact .inl (by rw [hF0]; exact (if_neg e).trans ((if_neg e3).trans (if_neg e2)))
    · by_cases e : b = T
      · rw [e, at_T] at z; cases z; rw [e]; exact hT
      · by_cases e3 : b = T2
        · rw [e3, at_T2] at z; cases z; rw [e3]; exact hT2
        · by_cases e2 : b = a
          · rw [e2, at_a] at z; cases z; rw [e2]
            exact ⟨ha, by rw [List.length_map]; exact hl, vs, _, rv, ha⟩
          · rw [hF0] at z
            have z : (if b = T then some (HO.tbl #[]) else if b = T2 then some (HO.tbl #[]) else if b = a then some (HO.frz { cls := .type "list", data := .seq vs.toArray } (.lst (ns.map V.int))) else none) = some u := z
            rw [if_neg e, if_neg e3, if_neg e2] at z; cases z
  · obtain ⟨o, ho⟩ := Option.ne_none_iff_exists'.mp hk
    have e := KX a o ho
    rw [ha] at e; cases e
    obtain ⟨F0, hF0⟩ : ∃ F0 : Hp, F0 = fun b => if b = T then some (HO.tbl #[]) else if b = T2 then some (HO.tbl #[]) else none := ⟨_, rfl⟩
    have at_T : F0 T = some (.tbl #[]) := by rw [hF0]; exact if_pos rfl
    have at_T2 : F0 T2 = some (.tbl #[]) := by
      rw [hF0]
      by_cases e : T2 = T
      · exact if_pos e
      · exact (if_neg e).trans (if_pos rfl)
    refine go F0 (fun b => ?_) at_T at_T2 (.inr ⟨_, vs.toArray, _, ho, rfl, rfl, rfl, ?_, by simpa using rv⟩) (fun b u z => ?_)
    · by_cases e : b = T
      · exact .inr (.inr (.inl e))
      · by_cases e3 : b = T2
        · exact .inr (.inr (.inr e3))
        · exact .inl (by rw [hF0]; exact (if_neg e).trans (if_neg e3))
    · rw [List.size_toArray, nV]; exact hl
    · by_cases e : b = T
      · rw [e, at_T] at z; cases z; rw [e]; exact hT
      · by_cases e3 : b = T2
        · rw [e3, at_T2] at z; cases z; rw [e3]; exact hT2
        · rw [hF0] at z
          have z : (if b = T then some (HO.tbl #[]) else if b = T2 then some (HO.tbl #[]) else none) = some u := z
          rw [if_neg e, if_neg e3] at z; cases z
end
/-- what the head leaves, from the law's promise; two code objects have tables -/
theorem walkGT2 {l : PySem.W.OpenLaw} {k : Nat} {q : Program} {loose : List Str} {XP : (Str → Option Value) → Heap → Prop} {YP : World → Heap → Prop} {d : DefRec}
    {K : Params → PySem.W.Frag} {sp : PySem.W.Frag → Sp} {x : Str} {T T2 : Addr} (hn : l.most = some 63) (hdf : d.params.defaults = []) (hr : Room k callerA)
    (hY : ∀ (w : World) (h : Heap), YP w h → (K w.params).In h) (hT : ∀ (w : World) (h : Heap), YP w h → h.get? T = some { cls := .none, data := .fields #[] }) (hT2 : ∀ (w : World) (h : Heap), YP w h → h.get? T2 = some { cls := .none, data := .fields #[] })
    (F : ∀ (w : World) (mg : Str → Option Value) (fa : Addr) (h : Heap), (K w.params).In h → h.Ns mainGlobals mg → mg d.name = some (.ref fa) →
      ∃ (fd : FuncData) (cc cc2 : Addr), (∀ (s : Shared) (u : Value), BindsTo s fd ⟨[u], []⟩ [(x, u)]) ∧ (K w.params).lookup T = none ∧ PySem.W.codeHdIn (K w.params) cc T = true ∧ (K w.params).lookup T2 = none ∧ PySem.W.codeHdIn (K w.params) cc2 T2 = true ∧
        ∀ base : Heap, (K w.params).In base → base.Ns mainGlobals mg → LamX.TabB base mg cc T → LamX.TabB base mg cc2 T2 → FnG l.prog w (K w.params) mg base CX0 k fa fd [x] (sp (K w.params)))
    (hsp : ∀ (K : PySem.W.Frag) (H : Hp) (a : Addr) (ns : List Int), ns.length ≤ 63 → H T = some (.tbl #[]) → H T2 = some (.tbl #[]) → SqL K H a (ns.map V.int) → sp K [.ref a] H (fun v _ => v = .bl true) fun _ _ _ => False) :
    PySem.W.WalkO q loose XP YP l.row.toRowW d [] (fun f vs => PySem.call f vs) := by
  refine Att.attach_call hn hdf (fun w s₀ s₁ mg mb fa o pm cd doc a vs ns G Y ho hd hcd hmg hobj hints hlen hg => ?_)
  have KX := hY w _ Y
  obtain ⟨fd, cc, cc2, hb, nT, hc, nT2, hc2, hF⟩ := F w mg fa _ KX G.T.g hmg
  exact law_callGT2 KX G.T.g G.T.b G.T.builtins G.T.nolimit hg (hT w _ Y) nT (PySem.W.codeHd_of_K KX hc) (hT2 w _ Y) nT2 (PySem.W.codeHd_of_K KX hc2) G.T.bmain hobj hints (Nat.le_trans hlen (by decide)) hr hF hb (fun H hHT hHT2 hS => hsp _ H a ns hlen hHT hHT2 hS) (fun _ _ _ h => h)
end Gs

set_option Elab.async false
set_option linter.all false
set_option maxRecDepth 100000
set_option maxHeartbeats 4000000
/-! Layer G6: walks of set comprehensions; what the size of a set tells. -/
namespace Gs
open PySem PySem.Spec PyProof.Rows L2
theorem sc_it {P : Program} {w : World} {K : PySem.W.Frag} {α : Type} {Z : SetKd P w K α} {J : It} {n : Nat} {G : Hp → Prop} {Y : Nat → Hp → V → Hp → Prop} (wk : Walk J n G Y) {g : TG} {tt : TT} {te : TE} {vs : List Nat} {σ : L2.St} {H1 : Hp} {D : Addr} {Qd : Hp → Prop}
    (Pv : Nat → Hp → Prop) (h0 : Pv 0 (upd H1 D (Z.ob D Z.zero))) (hG : ∀ i H, i ≤ n → Pv i H → G H)
    (hs : ∀ i x H H', i < n → Pv i H → Y i H x H' → g x (wipe σ vs) H' fun σ2 H2 => wipe σ2 vs = wipe σ vs ∧ tt σ2 H2 fun b H3 => if b = true then te σ2 H3 fun y H4 => Z.adds D y H4 (Pv (i + 1)) else Pv (i + 1) H3)
    (hd : ∀ H, Pv n H → Qd H) :
    ∃ W : Nat → Nat → Hp → Prop, (∃ m, W 0 m (upd H1 D (Z.ob D Z.zero))) ∧ ∀ i m H, W i m H → (J.stop i H ∧ Qd H) ∨
      (J.go i H ∧ ∃ Nx : Hp → Prop, (∀ H', Nx H' → ∃ m', m' < m ∧ W (i + 1) m' H') ∧ ∀ x H', J.yld i H x H' → g x (wipe σ vs) H' fun σ2 H2 => wipe σ2 vs = wipe σ vs ∧ tt σ2 H2 fun b H3 => if b = true then te σ2 H3 fun y H4 => Z.adds D y H4 Nx else Nx H3) := by
  refine ⟨fun i m H => m = n - i ∧ i ≤ n ∧ Pv i H, ⟨n, (Nat.sub_zero n).symm, Nat.zero_le _, h0⟩, ?_⟩
  rintro i m H ⟨rfl, hi, p⟩
  have q := hG i H hi p
  rcases Nat.lt_or_ge i n with lt | ge
  · exact .inr ⟨wk.goes i H lt q, Pv (i + 1), fun H' p' => ⟨n - (i + 1), by omega, rfl, lt, p'⟩, fun x H' y => hs i x H H' lt p (wk.yields i H x H' lt q y)⟩
  · obtain rfl : i = n := Nat.le_antisymm hi ge
    exact .inl ⟨wk.stops H q, hd H p⟩
section
variable {α : Type} [DecidableEq α]
theorem nodup_le : ∀ (l D : List α), l.Nodup → (∀ x ∈ l, x ∈ D) → l.length ≤ D.length
  | [], _, _, _ => Nat.zero_le _
  | x :: l, D, hn, hs => by
    have hx : x ∈ D := hs x List.mem_cons_self
    have hn' := List.nodup_cons.mp hn
    have := nodup_le l (D.erase x) hn'.2 fun y hy => (List.mem_erase_of_ne (fun e : y = x => hn'.1 (e ▸ hy))).mpr (hs y (List.mem_cons_of_mem _ hy))
    have e := List.length_erase_of_mem hx
    have : 0 < D.length := List.length_pos_of_mem hx
    simp only [List.length_cons]
    omega
theorem dup_lt : ∀ (D : List α), ¬ D.Nodup → ∃ D' : List α, D'.length < D.length ∧ ∀ x ∈ D, x ∈ D'
  | [], h => absurd List.nodup_nil h
  | x :: D, h => by
    by_cases hx : x ∈ D
    · refine ⟨D, Nat.lt_succ_self _, fun y hy => ?_⟩
      rcases List.mem_cons.mp hy with e | hy
      · rw [e]; exact hx
      · exact hy
    · obtain ⟨D', h1, h2⟩ := dup_lt D fun hn => h (List.nodup_cons.mpr ⟨hx, hn⟩)
      refine ⟨x :: D', Nat.succ_lt_succ h1, fun y hy => ?_⟩
      rcases List.mem_cons.mp hy with e | hy
      · rw [e]; exact List.mem_cons_self
      · exact List.mem_cons_of_mem _ (h2 y hy)
/-- the members of D once each are as many as D if none stands twice in D -/
theorem size_tells {l D : List α} (hn : l.Nodup) (hm : ∀ x, x ∈ l ↔ x ∈ D) : decide ((l.length : Int) = (D.length : Int)) = decide D.Nodup := by
  refine decide_eq_decide.mpr ⟨fun e => ?_, fun e => ?_⟩
  · refine Decidable.byContradiction fun h => ?_
    obtain ⟨D', h1, h2⟩ := dup_lt D h
    have := nodup_le l D' hn fun x hx => h2 x ((hm x).mp hx)
    omega
  · have a := nodup_le l D hn fun x hx => (hm x).mp hx
    have b := nodup_le D l e fun x hx => (hm x).mpr hx
    omega
end
end Gs
theorem L2.Same.seqT {K : PySem.W.Frag} {H H' : L2.Hp} {a : PySem.Addr} {xs : List L2.V} (e : L2.Same H H') (h : L2.SqT K H a xs) : L2.SqT K H' a xs := by
  rcases h with (h | ⟨o, h⟩) | h
  · exact .inl (.inl (e _ _ h))
  · exact .inl (.inr ⟨o, e _ _ h⟩)
  · exact .inr h
namespace Gs
open PySem PySem.Spec PyProof.Rows L2
/-- a tuple stands while a set is changed -/
theorem seqT_set {P : Program} {w : World} {K : PySem.W.Frag} {H : Hp} {S b : Addr} {L : Tps} {o : HO} {zs : List V} (hS : H S = some (SetTO P w S L)) (h : SqT K H b zs) : SqT K (upd H S o) b zs := by
  rcases h with (h | ⟨q, h⟩) | h
  · refine .inl (.inl ?_)
    rw [upd_ne (fun e => by rw [e, hS] at h; cases h)]; exact h
  · refine .inl (.inr ⟨q, ?_⟩)
    rw [upd_ne (fun e => by rw [e, hS] at h; cases h)]; exact h
  · exact .inr h
end Gs

set_option Elab.async false
set_option linter.all false
set_option maxRecDepth 100000
set_option maxHeartbeats 4000000
/-! Layer G7: len(set(xs)), xs a list or a tuple of texts, any of them more than once. -/
namespace Gs
open PySem PySem.Spec PyProof.Rows
section
variable {prog : Program} {w : World} {A : Around} {R : Result → Shared → Prop} {I : Addr} {fp wr : List Addr} {G : Array GenState → Array GenState → Prop} {n : Nat} {P : Nat → Value → Prop} {St : Nat → Shared → Prop}
/-- the set at S holds the texts L -/
def TxS (prog : Program) (w : World) (h : Heap) (S : Addr) (xs L : List Str) : Prop := h.SetOf (PySem.strKind prog w) S (fun z => decide (z ∈ L)) L.length ∧ L.Nodup ∧ L.length ≤ xs.length ∧ ∀ z, z ∈ L ↔ z ∈ xs
theorem TxS.keeps {h h' : Heap} {S : Addr} {xs L : List Str} (t : TxS prog w h S xs L) (k : ∀ o, h.get? S = some o → h'.get? S = some o) : TxS prog w h' S xs L := by
  obtain ⟨⟨o, es, ep, tb, ho, rest⟩, q⟩ := t
  exact ⟨⟨o, es, ep, tb, k o ho, rest⟩, q⟩
theorem loop_tx (W : WalksS prog w A.in1 I fp wr G n P St) (S : Addr) (nS : S ∉ fp) (xs : List Str) (hx : xs.length = n) (val : ∀ i v, P i v → ∃ t, v = .str (xs.getD i Str.empty) t) (few : n + 1 < scanBound) :
    ∀ (k i : Nat) (s : Shared), n - i = k → i ≤ n → St i s → (∃ L, TxS prog w s.heap S (xs.take i) L) → (∀ s' L, Moved (S :: wr) G s s' → TxS prog w s'.heap S xs L → R (.ok (.ret .none)) s') →
      codeAny (model prog w) A (.builtin "set.update.loop" ⟨[.ref S, .ref I], []⟩) R s := by
  have nW : S ∉ wr := fun h => nS (W.sub _ h)
  have more : ∀ b ∈ wr, b ∈ S :: wr := fun b hb => .tail _ hb
  intro k
  induction k with
  | zero =>
    rintro i s hk hi st ⟨L, hL⟩ hR
    obtain rfl : i = n := by omega
    refine codeAny_builtin PyProof.Rows.F.entry_set_update_loop ?_
    rw [Around.under_plainId PyProof.Rows.F.plain_set_update_loop _]
    show wpAny _ A.in1 (pyNext (.ref I) >>= _) _ _ s
    refine wpAny_bind (W.done s _ _ st fun s' mv => ?_)
    show wpAny _ A.in1 (ret Value.none) _ _ s'
    rw [← hx, List.take_length] at hL
    exact wpAny_pure (hR s' L (mv.mono more) (hL.keeps fun o e => mv.heap S o nW e))
  | succ k ih =>
    rintro i s hk hi st ⟨L, hL⟩ hR
    have lt : i < n := by omega
    refine codeAny_builtin PyProof.Rows.F.entry_set_update_loop ?_
    rw [Around.under_plainId PyProof.Rows.F.plain_set_update_loop _]
    show wpAny _ A.in1 (pyNext (.ref I) >>= _) _ _ s
    refine wpAny_bind (W.item i s _ _ lt st fun v s' hP st' mv => ?_)
    obtain ⟨t, rfl⟩ := val i v hP
    obtain ⟨hS, nd, hl, hm⟩ := hL.keeps (h' := s'.heap) fun o e => mv.heap S o nW e
    generalize hz : xs.getD i Str.empty = z
    have hzi : xs[i]? = some z := by
      have e : xs[i]? = some xs[i] := List.getElem?_eq_getElem (by omega)
      rw [e, ← hz, List.getD_eq_getElem?_getD, e]; rfl
    have hli : L.length ≤ i := Nat.le_trans hl (List.length_take_le _ _)
    show wpAny _ A.in1 (holding [Value.str z t] (setAdd S (.str z t)) >>= _) _ _ s'
    refine wpAny_bind (wpAny_holding ?_)
    unfold setAdd
    refine wpAny_holding ?_
    refine wpAny_bind ((PySem.strKind prog w).pyHash (k := z) (strKind_is _ _ _ _) ?_)
    refine wpAny_setAddHashed_of (knd := PySem.strKind prog w) (s := { s' with toks := s'.toks + 1 }) (strKind_is _ _ _ _) rfl hS (by omega) fun h' same hS2 => ?_
    have next : ∃ L', TxS prog w h' S (xs.take (i + 1)) L' := by
      have mem : ∀ y, y ∈ xs.take (i + 1) ↔ y ∈ L ∨ y = z := fun y => by
        rw [List.take_add_one, hzi, List.mem_append, hm y]
        show _ ∨ y ∈ [z] ↔ _
        rw [List.mem_singleton]
      have len : (xs.take (i + 1)).length = i + 1 := by rw [List.length_take]; omega
      by_cases hin : z ∈ L
      · refine ⟨L, SetOf_congr hS2 (fun y => ?_) (by rw [if_pos (decide_eq_true hin)]), nd, by omega, fun y => ?_⟩
        · by_cases e : y = z
          · subst e; simp [hin]
          · simp [e]
        · rw [mem y]; exact ⟨.inl, fun h => h.elim id fun e => by rw [e]; exact hin⟩
      · refine ⟨L ++ [z], SetOf_congr hS2 (fun y => ?_) ?_, ?_, ?_, fun y => ?_⟩
        · by_cases e : y = z
          · subst e; simp
          · simp [e]
        · rw [if_neg (by simpa using hin), List.length_append]; rfl
        · rw [List.nodup_append]
          exact ⟨nd, by simp, fun a ha b hb e => hin (by rw [← List.mem_singleton.mp hb, ← e]; exact ha)⟩
        · rw [List.length_append, len]; exact Nat.succ_le_succ hli
        · rw [mem y, List.mem_append, List.mem_singleton]
    refine wpAny_pure ⟨plainId_quiet PyProof.Rows.F.plain_set_update_loop _, ih (i + 1) _ (by omega) lt (W.frame _ s' _ _ st' (Nat.le_succ _) fun b hb o e => ?_) next fun s2 L2 mv2 hL2 => ?_⟩
    · exact (same.2 b fun h : b = S => nS (by rw [← h]; exact hb)).trans e
    · exact hR s2 L2 (Moved.trans W.gtrans ((mv.mono more).then_heap (Nat.le_succ _) fun b o hb e => (same.2 b fun h : b = S => hb (by rw [h]; exact .head _)).trans e) mv2) hL2
end
/-- a new empty set -/
abbrev set0 (led : Bool) : Obj := { cls := .type "set", dict := none, data := .set #[] 0 (.fresh 0 0 led) }
section
variable {prog : Program} {w : World} {A : Around} {E : Value → Shared → Prop} {s : Shared}
set_option maxHeartbeats 4000000 in
theorem set_tx_list {l : Addr} {items : Array Value} {xs : List Str} {Q : Value → Shared → Prop} (hh : A.handled = none) (hl : s.heap.IsList l items) (hi : StrsAre items.toList xs) (few : xs.length + 1 < scanBound)
    (h : ∀ (h' : Heap) (tk : Nat) L, TxS prog w h' s.heap.objs.size xs L → (∀ b o, b < s.heap.objs.size → s.heap.get? b = some o → h'.get? b = some o) → Q (.ref s.heap.objs.size) { s with heap := h', toks := tk }) :
    wpAny (model prog w) A (call (.type "set") [.ref l]) Q E s := by
  obtain ⟨c, tl, hmro⟩ := PySem.F.called_set.mro
  have made := PySem.F.called_set.made
  have sub := PySem.F.called_set.sub
  have nt := PySem.F.called_set.notType
  have cc := PySem.F.called_set.canCreate
  have tc := PySem.F.typeCall_set_1 (.ref l)
  refine wpAny_call (codeAny_of_tree ?_)
  show wpAny _ _ (callAny (.type "set") _) _ _ _
  refine wpAny_pure ⟨Code.quiet_builtin _ (by decide +kernel), codeAny_builtin PySem.F.entry_type_call ?_⟩
  rw [Around.under_plain (weight_type_call_type "set" [.ref l] []) rfl]
  repeat (any_goals (first | assumption | wp_step))
  refine codeAny_mono (code_set_new_1 (.ref l) (E := E) (Q₁ := fun obj s₁ => ∃ led : Bool, obj = .ref s.heap.objs.size ∧ s₁ = { s with heap := s.heap.push (set0 led) }) fun led => ⟨led, rfl, rfl⟩) fun r s₁ hr => ?_
  cases r with
  | error e => exact hr
  | ok fl =>
    cases fl with
    | next => exact hr.elim
    | brk => exact hr.elim
    | cont => exact hr.elim
    | ret obj =>
      obtain ⟨led, rfl, rfl⟩ := hr
      have hS : (s.heap.push (set0 led)).get? s.heap.objs.size = some (set0 led) := Heap.get?_push_size _ rfl
      have hT : Shared.TypeIs { s with heap := s.heap.push (set0 led) } (.ref s.heap.objs.size) "set" := ⟨_, hS, rfl⟩
      have li := PySem.F.called_set.init.lookup
      have bi := PySem.F.called_set.init.bind (.ref s.heap.objs.size)
      repeat (any_goals (first | assumption | wp_step))
      refine codeAny_mono (codeAny_call_builtin (R := wants (fun r s₂ => r = .none ∧ ∃ h' tk L, s₂ = { s with heap := h', toks := tk } ∧ TxS prog w h' s.heap.objs.size xs L ∧ ∀ b o, b < s.heap.objs.size → s.heap.get? b = some o → h'.get? b = some o) E)
        PySem.F.called_set.init.plain PySem.F.entry_set_init (check_set_init_1 hT ?_)) fun r₂ s₂ hr₂ => ?_
      · obtain ⟨⟨ocls, odict, odata, oslots⟩, hol, hcl, nl, hdl⟩ := hl
        dsimp only at hcl hdl
        subst hcl hdl
        have hol' : (s.heap.push (set0 led)).get? l = some { cls := .type "list", dict := odict, data := .seq items nl, slots := oslots } := Heap.get?_push_of_some _ hol
        have s1 := PySem.F.sub_list_set
        have s2 := PySem.F.sub_list_frozenset
        have s3 : (Value.type "list" == Value.type "dict") = false := by decide
        have hl1 : (s.heap.push (set0 led)).IsList l items := ⟨_, hol', rfl, nl, rfl⟩
        unfold Builtin.«set.__init__» noKeywords Builtin.Frozenset.updateFrom
        generalize hPI : pyIter = PI
        wp_walk
        subst hPI
        refine wpAny_pyIter_list hl1 ?_
        refine wpAny_bind (wpAny_runValue ?_)
        have lS : l < s.heap.objs.size := Heap.lt_size hol
        have nI : l ≠ (s.heap.push (set0 led)).objs.size := by
          rw [Heap.size_push]
          exact Nat.ne_of_lt (Nat.lt_succ_of_lt lS)
        have nF : s.heap.objs.size ∉ [(s.heap.push (set0 led)).objs.size, l] := by
          rw [Heap.size_push, List.mem_cons, List.mem_singleton]
          rintro (e | e)
          · exact Nat.ne_of_lt (Nat.lt_succ_self _) e
          · exact Nat.ne_of_gt lS e
        have hx : xs.length = items.size := (Array.length_toList ▸ StrsAre.len_eq hi).symm
        refine loop_tx ((Walks.list (by simp [hh]) _ l nI items).toS) s.heap.objs.size nF xs hx (fun i v hv => SS.strs_at hi i v ((Array.getElem?_toList ..).trans hv)) (by omega) (items.size - 0) 0 _ (by omega) (Nat.zero_le _)
          ⟨⟨_, Heap.get?_push_size _ rfl, rfl, rfl⟩, hl1.push _⟩ ⟨[], ?_, List.nodup_nil, Nat.zero_le _, fun z => Iff.rfl⟩ fun s' L mv hL => ?_
        · refine SetOf_congr ((setObjOf_fresh (knd := PySem.strKind prog w) led).setOf (Heap.get?_push_of_some _ hS) (by unfold scanBound; omega)) (fun z => ?_) rfl
          simp
        · obtain ⟨h', g', d', tk', os'⟩ := s'
          have e1 : g' = s.gens := mv.gens
          have e2 : d' = s.drawn := mv.drawn
          have e3 : os' = s.os := mv.os
          subst e1 e2 e3
          show wpAny _ _ _ _ _ _
          refine wpAny_pure ?_
          show wpAny _ _ (ret Value.none) _ _ _
          refine wpAny_pure ⟨rfl, h', tk', L, rfl, hL, fun b o hb e => mv.heap b o ?_ (Heap.get?_push_of_some _ (Heap.get?_push_of_some _ e))⟩
          rw [Heap.size_push, List.mem_cons, List.mem_singleton]
          rintro (z | z)
          · exact Nat.ne_of_lt hb z
          · exact Nat.ne_of_lt (Nat.lt_succ_of_lt hb) z
      · cases r₂ with
        | error e => exact hr₂
        | ok fl₂ =>
          cases fl₂ with
          | next => exact hr₂.elim
          | brk => exact hr₂.elim
          | cont => exact hr₂.elim
          | ret r =>
            obtain ⟨rfl, h', tk, L, rfl, hL, keep⟩ := hr₂
            repeat (any_goals (first | assumption | wp_step))
            exact h _ _ L hL keep
set_option maxHeartbeats 4000000 in
theorem set_tx_tuple {l : Addr} {items : Array Value} {xs : List Str} {Q : Value → Shared → Prop} (hh : A.handled = none) (hl : s.heap.IsTuple l items) (hi : StrsAre items.toList xs) (few : xs.length + 1 < scanBound)
    (h : ∀ (h' : Heap) (tk : Nat) L, TxS prog w h' s.heap.objs.size xs L → (∀ b o, b < s.heap.objs.size → s.heap.get? b = some o → h'.get? b = some o) → Q (.ref s.heap.objs.size) { s with heap := h', toks := tk }) :
    wpAny (model prog w) A (call (.type "set") [.ref l]) Q E s := by
  obtain ⟨c, tl, hmro⟩ := PySem.F.called_set.mro
  have made := PySem.F.called_set.made
  have sub := PySem.F.called_set.sub
  have nt := PySem.F.called_set.notType
  have cc := PySem.F.called_set.canCreate
  have tc := PySem.F.typeCall_set_1 (.ref l)
  refine wpAny_call (codeAny_of_tree ?_)
  show wpAny _ _ (callAny (.type "set") _) _ _ _
  refine wpAny_pure ⟨Code.quiet_builtin _ (by decide +kernel), codeAny_builtin PySem.F.entry_type_call ?_⟩
  rw [Around.under_plain (weight_type_call_type "set" [.ref l] []) rfl]
  repeat (any_goals (first | assumption | wp_step))
  refine codeAny_mono (code_set_new_1 (.ref l) (E := E) (Q₁ := fun obj s₁ => ∃ led : Bool, obj = .ref s.heap.objs.size ∧ s₁ = { s with heap := s.heap.push (set0 led) }) fun led => ⟨led, rfl, rfl⟩) fun r s₁ hr => ?_
  cases r with
  | error e => exact hr
  | ok fl =>
    cases fl with
    | next => exact hr.elim
    | brk => exact hr.elim
    | cont => exact hr.elim
    | ret obj =>
      obtain ⟨led, rfl, rfl⟩ := hr
      have hS : (s.heap.push (set0 led)).get? s.heap.objs.size = some (set0 led) := Heap.get?_push_size _ rfl
      have hT : Shared.TypeIs { s with heap := s.heap.push (set0 led) } (.ref s.heap.objs.size) "set" := ⟨_, hS, rfl⟩
      have li := PySem.F.called_set.init.lookup
      have bi := PySem.F.called_set.init.bind (.ref s.heap.objs.size)
      repeat (any_goals (first | assumption | wp_step))
      refine codeAny_mono (codeAny_call_builtin (R := wants (fun r s₂ => r = .none ∧ ∃ h' tk L, s₂ = { s with heap := h', toks := tk } ∧ TxS prog w h' s.heap.objs.size xs L ∧ ∀ b o, b < s.heap.objs.size → s.heap.get? b = some o → h'.get? b = some o) E)
        PySem.F.called_set.init.plain PySem.F.entry_set_init (check_set_init_1 hT ?_)) fun r₂ s₂ hr₂ => ?_
      · obtain ⟨⟨ocls, odict, odata, oslots⟩, hol, hcl, nl, hdl⟩ := hl
        dsimp only at hcl hdl
        subst hcl hdl
        have hol' : (s.heap.push (set0 led)).get? l = some { cls := .type "tuple", dict := odict, data := .seq items nl, slots := oslots } := Heap.get?_push_of_some _ hol
        have s1 := PySem.F.sub_tuple_set
        have s2 := PySem.F.sub_tuple_frozenset
        have s3 : (Value.type "tuple" == Value.type "dict") = false := by decide
        have hl1 : (s.heap.push (set0 led)).IsTuple l items := ⟨_, hol', rfl, nl, rfl⟩
        unfold Builtin.«set.__init__» noKeywords Builtin.Frozenset.updateFrom
        generalize hPI : pyIter = PI
        wp_walk
        subst hPI
        refine wpAny_pyIter_tuple hl1 ?_
        refine wpAny_bind (wpAny_runValue ?_)
        have lS : l < s.heap.objs.size := Heap.lt_size hol
        have nI : l ≠ (s.heap.push (set0 led)).objs.size := by
          rw [Heap.size_push]
          exact Nat.ne_of_lt (Nat.lt_succ_of_lt lS)
        have nF : s.heap.objs.size ∉ [(s.heap.push (set0 led)).objs.size, l] := by
          rw [Heap.size_push, List.mem_cons, List.mem_singleton]
          rintro (e | e)
          · exact Nat.ne_of_lt (Nat.lt_succ_self _) e
          · exact Nat.ne_of_gt lS e
        have hx : xs.length = items.size := (Array.length_toList ▸ StrsAre.len_eq hi).symm
        refine loop_tx ((Walks.tuple (by simp [hh]) _ l nI items).toS) s.heap.objs.size nF xs hx (fun i v hv => SS.strs_at hi i v ((Array.getElem?_toList ..).trans hv)) (by omega) (items.size - 0) 0 _ (by omega) (Nat.zero_le _)
          ⟨⟨_, Heap.get?_push_size _ rfl, rfl, rfl⟩, hl1.push _⟩ ⟨[], ?_, List.nodup_nil, Nat.zero_le _, fun z => Iff.rfl⟩ fun s' L mv hL => ?_
        · refine SetOf_congr ((setObjOf_fresh (knd := PySem.strKind prog w) led).setOf (Heap.get?_push_of_some _ hS) (by unfold scanBound; omega)) (fun z => ?_) rfl
          simp
        · obtain ⟨h', g', d', tk', os'⟩ := s'
          have e1 : g' = s.gens := mv.gens
          have e2 : d' = s.drawn := mv.drawn
          have e3 : os' = s.os := mv.os
          subst e1 e2 e3
          show wpAny _ _ _ _ _ _
          refine wpAny_pure ?_
          show wpAny _ _ (ret Value.none) _ _ _
          refine wpAny_pure ⟨rfl, h', tk', L, rfl, hL, fun b o hb e => mv.heap b o ?_ (Heap.get?_push_of_some _ (Heap.get?_push_of_some _ e))⟩
          rw [Heap.size_push, List.mem_cons, List.mem_singleton]
          rintro (z | z)
          · exact Nat.ne_of_lt hb z
          · exact Nat.ne_of_lt (Nat.lt_succ_of_lt hb) z
      · cases r₂ with
        | error e => exact hr₂
        | ok fl₂ =>
          cases fl₂ with
          | next => exact hr₂.elim
          | brk => exact hr₂.elim
          | cont => exact hr₂.elim
          | ret r =>
            obtain ⟨rfl, h', tk, L, rfl, hL, keep⟩ := hr₂
            repeat (any_goals (first | assumption | wp_step))
            exact h _ _ L hL keep
end
end Gs
namespace Gs
open PySem PySem.Spec PyProof.Rows L2
section
variable {X : Cx}
def tLenTx (K : PySem.W.Frag) (ta : TE) : TE := fun σ H Q => ta σ H fun x H1 => ∃ (l : Addr) (xs : List Str), x = .ref l ∧ (SqL K H1 l (xs.map V.str) ∨ SqT K H1 l (xs.map V.str)) ∧ xs.length ≤ 1000 ∧
  ∀ L : List Str, L.Nodup → (∀ z, z ∈ L ↔ z ∈ xs) → Q (.int L.length) H1
theorem pe_lenTx {a : Expr} {ta : TE} {p p2 q pos : Pos} (hc : X.calm = true) (hg : Gl X "len") (hm : X.mg "len" = none) (hg2 : Gl X "set") (hm2 : X.mg "set" = none) (ha : PE X a ta)
    (na : starEach [a] X.env = (false, eval a X.env) :: starEach [] X.env := by rfl) : PE X (.Call (.Name "len" p) [.Call (.Name "set" p2) [a] [] q] [] pos) (tLenTx X.K ta) := by
  constructor
  intro pins s σ H Q I h
  refine Call_ (ld_blt I hg hm boot_len ?_)
  refine callWith_builtin1 (args_cons ?_ rfl) rfl rfl
  refine Call_ (ld_blt I hg2 hm2 boot_set ?_)
  refine callWith_type1 (args_cons (thn (ha.run pins s σ H _ I h) fun v s1 ⟨x, H1, I1, r1, l, xs, ex, hq, hz, k⟩ => args_nil ?_) na) na rfl
  subst ex
  cases r1
  have fin : ∀ (h' : Heap) (tk : Nat) (L : List Str), TxS X.prog X.w h' s1.heap.objs.size xs L → (∀ b o, b < s1.heap.objs.size → s1.heap.get? b = some o → h'.get? b = some o) →
      wpAny (model X.prog X.w) X.A (spliced (backTo pos (starEach [] X.env))) (fun vs s₂ => wpAny (model X.prog X.w) X.A (call (.builtin "len") (Value.ref s1.heap.objs.size :: vs)) (EP X pins σ Q) X.xe s₂) X.xe { s1 with heap := h', toks := tk } := by
    rintro h' tk L ⟨⟨o, es, ep, t, ho, hex, hd, _, _, _, hf, hn⟩, nd, hl, hm⟩ keep
    refine args_nil ?_
    have I2 : Inv X pins σ H1 { s1 with heap := h', toks := tk } := I1.kept fun b o e => keep b o (Heap.lt_size e) e
    exact call_len_set ho hex hd hf (by rw [hn]; omega) ⟨.int L.length, H1, I2.tok _, ⟨_, by rw [hn]⟩, k L nd hm⟩
  rcases hq with hq | hq
  · obtain ⟨its, r, pl, _⟩ := I1.list hq
    exact set_tx_list (I1.ok.hd hc) pl.isList (by simpa using strsAre_of r) (by unfold scanBound; omega) fin
  · obtain ⟨its, r, pl, _⟩ := I1.tuple hq
    exact set_tx_tuple (I1.ok.hd hc) (by obtain ⟨o, e1, e2, m, e3⟩ := pl; exact ⟨o, e1, e2, m, e3⟩) (by simpa using strsAre_of r) (by unfold scanBound; omega) fin
end
end Gs

set_option Elab.async false
set_option linter.all false
set_option maxRecDepth 100000
set_option maxHeartbeats 4000000
/-! Layer G8: sorted(xs), xs a list of pairs of ints that stand anywhere (tracked, locked or written). -/
namespace Gs
open PySem PySem.Spec PyProof.Rows L2
theorem perm_pre {α β : Type} {f : α → β} {m out : List β} (h : m.Perm out) : ∀ ks : List α, m = ks.map f → ∃ ls : List α, ls.Perm ks ∧ out = ls.map f := by
  induction h with
  | nil =>
    intro ks e
    exact ⟨[], by rw [List.map_eq_nil_iff.mp e.symm], rfl⟩
  | cons x _ ih =>
    intro ks e
    cases ks with
    | nil => cases e
    | cons k ks =>
      obtain ⟨e1, e2⟩ := List.cons.inj e
      obtain ⟨ls, h1, h2⟩ := ih ks e2
      exact ⟨k :: ls, h1.cons k, by rw [h2, e1]; rfl⟩
  | swap x y l =>
    intro ks e
    match ks, e with
    | k1 :: k2 :: ks, e =>
      obtain ⟨e1, e2⟩ := List.cons.inj e
      obtain ⟨e3, e4⟩ := List.cons.inj e2
      exact ⟨k2 :: k1 :: ks, List.Perm.swap k1 k2 ks, by rw [e1, e3, e4]; rfl⟩
  | trans _ _ ih1 ih2 =>
    intro ks e
    obtain ⟨ls, h1, h2⟩ := ih1 ks e
    obtain ⟨ms, h3, h4⟩ := ih2 ls h2
    exact ⟨ms, h3.trans h1, h4⟩
def rSortT (K : PySem.W.Frag) : List V → Hp → VK → Prop := fun vs H Q => ∃ (a : Addr) (ks : List (Addr × Int × Int)), vs = [V.ref a] ∧ SqL K H a (ks.map fun p => V.ref p.1) ∧ (∀ p ∈ ks, SqT K H p.1 [.int p.2.1, .int p.2.2]) ∧
  ∀ (ls : List (Addr × Int × Int)) p, ls.Perm ks → ls.Pairwise (fun x y => SrtO.lexB y.2 x.2 = false) → H p = none → Q (.ref p) (upd H p (.lst (ls.map fun p => V.ref p.1)))
section
variable {X : Cx}
theorem cr_sortT : CallR X (.builtin "sorted") (rSortT X.K) := by
  intro pins s σ H vs us Q I r h
  obtain ⟨a, ks, rfl, hs, hx, q⟩ := h
  have inj : ∀ p ∈ ks, ∀ q ∈ ks, p.1 = q.1 → p.2 = q.2 := by
    intro p hp q hq e
    obtain ⟨its1, r1, ⟨o1, ho1, _, n1, hd1⟩, _⟩ := I.tuple (hx p hp)
    obtain ⟨its2, r2, ⟨o2, ho2, _, n2, hd2⟩, _⟩ := I.tuple (hx q hq)
    rw [e, ho2] at ho1
    cases ho1
    rw [hd1] at hd2
    have e2 : its1 = its2 := by
      have := (Data.seq.inj hd2).1
      simpa using this
    subst e2
    obtain ⟨u1, u2, e3, ⟨t1, h1⟩, ⟨t2, h2⟩⟩ := vals2 r1
    obtain ⟨v1, v2, e4, ⟨t3, h3⟩, ⟨t4, h4⟩⟩ := vals2 r2
    subst e3 h1 h2
    have e5 := (List.cons.inj e4).1.trans h3
    have e6 := (List.cons.inj (List.cons.inj e4).2).1.trans h4
    exact Prod.ext (Value.int.inj e5).1 (Value.int.inj e6).1
  obtain ⟨its, rv, hl, hz⟩ := I.list hs
  obtain ⟨u, rfl, ru⟩ := vals1 r
  obtain rfl : u = Value.ref a := ru
  have eits : its = ks.map fun p => Value.ref p.1 := by
    clear hs hx inj q hz hl
    induction ks generalizing its with
    | nil => cases rv; rfl
    | cons p ks ih =>
      cases rv with
      | cons r1 r2 =>
        cases r1
        rw [ih _ r2]; rfl
  -- the pair that an address tells
  obtain ⟨k, hk⟩ : ∃ k : Value → Int × Int, ∀ p ∈ ks, k (.ref p.1) = p.2 := by
    refine ⟨fun v => match ks.find? (fun p => Value.ref p.1 == v) with | some p => p.2 | none => (0, 0), fun p hp => ?_⟩
    show (match ks.find? (fun q => Value.ref q.1 == Value.ref p.1) with | some q => q.2 | none => (0, 0)) = p.2
    cases e : ks.find? (fun q => Value.ref q.1 == Value.ref p.1) with
    | none => exact absurd (List.find?_eq_none.mp e p hp) (by simp)
    | some q =>
      have hq := List.find?_some e
      have e1 : q.1 = p.1 := Value.ref.inj (eq_of_beq hq)
      exact inj q (List.mem_of_find?_eq_some e) p hp e1
  refine SrtO.sorted_pairsO (k := k) hl.isList (by rw [← rv.length]; exact hz) (fun v hv => ?_) fun h' d out h1 h2 kp hd hn => ?_
  · rw [eits] at hv
    obtain ⟨p, hp, rfl⟩ := List.mem_map.mp hv
    obtain ⟨its2, r2, ⟨o, ho, hc, n, hdt⟩, _⟩ := I.tuple (hx p hp)
    obtain ⟨u1, u2, e3, ri, rj⟩ := vals2 r2
    obtain ⟨t1, rfl⟩ := ri
    obtain ⟨t2, rfl⟩ := rj
    subst e3
    rw [hk p hp]
    exact ⟨p.1, o, t1, t2, n, rfl, ho, hc, hdt⟩
  · rw [eits] at h2
    obtain ⟨n, hn⟩ := hn
    obtain ⟨ls, hls, rfl⟩ : ∃ ls : List (Addr × Int × Int), ls.Perm ks ∧ out = ls.map fun p => Value.ref p.1 := by
      exact perm_pre h2.perm.symm ks rfl
    have hv : Vals (ls.map fun p => V.ref p.1) (ls.map fun p => Value.ref p.1) := by
      clear h1 h2 kp hn hls
      induction ls with
      | nil => exact .nil
      | cons p ls ih => exact .cons rfl ih
    refine ⟨.ref d, upd H d (.lst (ls.map fun p => V.ref p.1)), I.laid (t' := s.toks) kp hd ⟨?_, _, n, hv, hn⟩, rfl, q ls d hls ?_ (I.hok.fresh hd)⟩
    · rw [List.length_map, hls.length_eq, ← List.length_map (f := fun p => V.ref p.1) (as := ks)]
      exact hz
    · have h1 := List.pairwise_map.mp h1
      refine h1.imp_of_mem fun {x y} hx hy e => ?_
      have e : SrtO.lexB (k (.ref y.1)) (k (.ref x.1)) = false := e
      rw [hk x (hls.mem_iff.mp hx), hk y (hls.mem_iff.mp hy)] at e
      exact e
end
end Gs

set_option Elab.async false
set_option linter.all false
set_option maxRecDepth 100000
set_option maxHeartbeats 4000000
/-! Layer G23: what is never reached; {x} of an instance with an own text; sorted of tuples of ints and texts; set(list of tuples of ints), no tuple twice. -/
namespace Gs
open PySem PySem.Spec PyProof.Rows L2
/-- what is never reached -/
theorem ps_dead {X : Cx} {st : Stmt} : PS X st (fun _ _ _ => False) := ⟨fun _ _ _ _ _ _ h => h.elim⟩
theorem pss_dead {X : Cx} {st : List Stmt} : PSs X st (fun _ _ _ => False) := ⟨fun _ _ _ _ _ _ h => h.elim⟩
theorem pe_dead {X : Cx} {e : Expr} : PE X e (fun _ _ _ => False) := ⟨fun _ _ _ _ _ _ h => h.elim⟩
section
variable {X : Cx} {CX : CXT} {k : Nat} {f C : Addr} {fd : FuncData} {ps : List Str} {sp : Sp} {E : XK}
/-- what an own class needs that {x} of its instances is their own text -/
structure OwnF (K : PySem.W.Frag) (C g : Addr) : Prop where
  st : PySem.W.findIn K (.ref C) "__str__" = some (some (.ref g))
  fs : PySem.W.isFn K (.ref g) = true
  fm : PySem.W.findIn K (.ref C) "__format__" = some (some (.builtin "object.__format__"))
  mo : PySem.W.mroIn K C (.type "object") = some true
/-- {x}, x an instance -/
def tFmtO (C : Addr) (sp : Sp) (E : XK) (te : TE) : TE := fun σ H Q => te σ H fun x H1 => ∃ (a dx : Addr) (fs : List (Str × V)), x = .ref a ∧ H1 a = some (.ins C dx fs) ∧ sp [.ref a] H1 (fun v H' => ∃ z, v = .str z ∧ Q v H') E
theorem pe_fmtO {e : Expr} {te : TE} {pos : Pos} (O : OwnF X.K C f) (F : FnOk X.prog X.w X.K X.mg X.base CX k f fd ps sp) (hr : Room (k + 2) X.A) (hb : Binds X.K fd ps []) (hx : Passes CX X E) (he : PE X e te) : PE X (.FormattedValue e (-1) none pos) (tFmtO C sp E te) := by
  refine ⟨fun pins s σ H Q I h => ?_⟩
  refine wpAny_FormattedValue_plain (thn (he.run pins s σ H _ I h) fun v s1 hv => ?_)
  obtain ⟨x, H1, I1, r1, a, dx, fs, rfl, ha, q⟩ := hv
  cases (show v = Value.ref a from r1)
  obtain ⟨_, J0, _⟩ := ins_get I1.hok ha
  obtain ⟨_, J, _⟩ := J0.look
  have I2 : Inv X pins σ H1 { s1 with toks := s1.toks + 1 } := I1.tok _
  refine PySem.W.kfo_fieldS hr.in1.units0 I1.kIn J O.fm O.mo O.st O.fs ?_
  refine wpAny_mono (run_sub (A := X.A.in1) (F.mono (Nat.le_succ k)) hr.in1 rfl hb hx I2 (.cons (rel_ref a) .nil) q) (fun z s' hz => ?_) fun _ _ e => e
  obtain ⟨v', H', I', rv, y, rfl, qq⟩ := hz
  obtain ⟨t, rfl⟩ := rv
  exact ⟨.str y, H', I', rel_str y t, qq⟩
end
/-! ### sorted, the items tuples of ints and texts -/
def kD : Key → PyData
  | .inl i => .int i
  | .inr x => .str x
abbrev TK := Addr × List Key
def encT (p : TK) : PyData := .tuple (p.2.map kD)
def sortK (ks : List TK) : List TK := ks.mergeSort (PySem.W.dataLe false encT)
theorem sortK_perm (ks : List TK) : (sortK ks).Perm ks := List.mergeSort_perm _ _
theorem reads_keys {h : Heap} : ∀ {us : List Value} {ks : List Key}, Vals (ks.map kV) us → ∃ as, ReadsAll h us (ks.map kD) as
  | _, [], r => by cases r; exact ⟨_, .nil⟩
  | _, .inl i :: ks, r => by
    cases r with
    | cons r1 r2 =>
      obtain ⟨t, rfl⟩ := r1
      obtain ⟨as, h2⟩ := reads_keys r2
      exact ⟨_, .cons (.int i t) h2⟩
  | _, .inr x :: ks, r => by
    cases r with
    | cons r1 r2 =>
      obtain ⟨t, rfl⟩ := r1
      obtain ⟨as, h2⟩ := reads_keys r2
      exact ⟨_, .cons (.str x t) h2⟩
theorem depth_keys : ∀ ks : List Key, PyData.depthAll (ks.map kD) = 0
  | [] => by simp [PyData.depthAll]
  | .inl i :: ks => by simp only [List.map_cons, kD, PyData.depthAll, depth_keys ks, PyData.depth]; rfl
  | .inr i :: ks => by simp only [List.map_cons, kD, PyData.depthAll, depth_keys ks, PyData.depth]; rfl
/-- of one sort, item by item -/
def sameSort : List Key → List Key → Bool
  | .inl _ :: a, .inl _ :: b => sameSort a b
  | .inr _ :: a, .inr _ :: b => sameSort a b
  | [], [] => true
  | _, _ => false
theorem alike_keys : ∀ a b : List Key, sameSort a b = true → PySem.W.alikeAll (a.map kD) (b.map kD) = true
  | [], [], _ => by simp [PySem.W.alikeAll]
  | .inl i :: a, .inl j :: b, h => by
    have := alike_keys a b h
    simp only [List.map_cons, kD, PySem.W.alikeAll, PySem.W.alike, this, Bool.and_self]
  | .inr i :: a, .inr j :: b, h => by
    have := alike_keys a b h
    simp only [List.map_cons, kD, PySem.W.alikeAll, PySem.W.alike, this, Bool.and_self]
  | .inl _ :: _, .inr _ :: _, h => by cases h
  | .inr _ :: _, .inl _ :: _, h => by cases h
  | [], _ :: _, h => by cases h
  | .inl _ :: _, [], h => by cases h
  | .inr _ :: _, [], h => by cases h
theorem each_tks : ∀ {bs : List TK} {us : List Value}, Vals (bs.map fun b => V.ref b.1) us → PySem.W.EachIs (fun (v : Value) (b : TK) => v = .ref b.1) us bs
  | [], _, h => by cases h; exact .nil
  | b :: bs, _, h => by
    cases h with
    | cons r t => exact .cons r (each_tks t)
theorem vals_tks : ∀ {bs : List TK} {us : List Value}, PySem.W.EachIs (fun (v : Value) (b : TK) => v = .ref b.1) us bs → Vals (bs.map fun b => V.ref b.1) us
  | [], _, h => by cases h; exact .nil
  | b :: bs, _, h => by
    cases h with
    | cons r t => exact .cons r (vals_tks t)
theorem each_enc {h : Heap} : ∀ {bs : List TK} {us : List Value}, PySem.W.EachIs (fun (v : Value) (b : TK) => v = .ref b.1) us bs → (∀ b ∈ bs, ∃ as, Reads h (.ref b.1) (encT b) as) → PySem.W.EachIs (fun (v : Value) (b : TK) => ∃ as, Reads h v (encT b) as) us bs
  | _, _, .nil, _ => .nil
  | _, _, .cons r t, h => by
    subst r
    exact .cons (h _ List.mem_cons_self) (each_enc t fun b hb => h b (List.mem_cons_of_mem _ hb))
def rSortK (K : PySem.W.Frag) : List V → Hp → VK → Prop := fun vs H Q => ∃ (a : Addr) (ks : List TK), vs = [V.ref a] ∧ SqL K H a (ks.map fun p => V.ref p.1) ∧ (∀ p ∈ ks, SqT K H p.1 (p.2.map kV)) ∧ (∀ p ∈ ks, p.2 ≠ []) ∧
  (∀ p ∈ ks, ∀ q ∈ ks, sameSort p.2 q.2 = true) ∧ ∀ p, H p = none → Q (.ref p) (upd H p (.lst ((sortK ks).map fun b => V.ref b.1)))
section
variable {X : Cx}
theorem cr_sortK (hu : X.A.units + 64 < cLine) : CallR X (.builtin "sorted") (rSortK X.K) := by
  intro pins s σ H vs us Q I r h
  obtain ⟨a, ks, rfl, hs, hx, hne, hss, q⟩ := h
  obtain ⟨u, rfl, ru⟩ := vals1 r
  obtain rfl : u = Value.ref a := ru
  obtain ⟨its, rv, hl, hz⟩ := I.list hs
  have lb : its.length = ks.length := by rw [← rv.length, List.length_map]
  have er := each_enc (h := s.heap) (each_tks rv) fun b hb => by
    obtain ⟨us, r2, ⟨o, ho, hc, n, hd⟩, _⟩ := I.tuple (hx b hb)
    obtain ⟨as, ra⟩ := reads_keys (h := s.heap) r2
    exact ⟨as, .tuple ho hc hd (by simpa using ra)⟩
  refine PySem.W.sorted_data (β := TK) (enc := encT) hl.isList (each_tks rv) er (fun d hd d' hd' => ?_) (.inl fun d hd => ?_) (by rw [← lb, ← rv.length]; exact hz) (fun b hb => ?_) fun out ho eo => ?_
  · obtain ⟨x, hx1, rfl⟩ := List.mem_map.mp hd
    obtain ⟨y, hy1, rfl⟩ := List.mem_map.mp hd'
    show PySem.W.alike (.tuple _) (.tuple _) = true
    simp only [PySem.W.alike]
    exact alike_keys _ _ (hss x hx1 y hy1)
  · obtain ⟨x, hx1, rfl⟩ := List.mem_map.mp hd
    have := hne x hx1
    unfold encT
    match x.2, this with
    | [], z => exact absurd rfl z
    | y :: l, _ => exact ⟨_, _, rfl⟩
  · have : (encT b).depth = 1 := by
      unfold encT
      simp only [PyData.depth, depth_keys]
    rw [this]; omega
  · obtain ⟨c, hc⟩ := sortedAll_at s.heap its out.toArray
    have hlen2 : (sortK ks).length = ks.length := (sortK_perm ks).length_eq
    refine ⟨.ref _, upd H (s.heap.objs.size + 1) (.lst ((sortK ks).map fun b => V.ref b.1)), I.laid (t' := s.toks) (fun _ _ => sortedAll_old) (Nat.le_succ _) ⟨?_, out, c, vals_tks eo, hc⟩, rfl, q _ (I.hok.fresh (Nat.le_succ _))⟩
    rw [List.length_map, hlen2, ← lb, ← rv.length]; exact hz
/-- set(xs), xs a list of tuples of ints; in the set no tuple stands twice -/
def rSetOfN (K : PySem.W.Frag) (P : Program) (w : World) : List V → Hp → VK → Prop := fun xs H Q => ∃ (l : Addr) (ks : List (Addr × List Int)), xs = [V.ref l] ∧ SqL K H l (ks.map fun p => V.ref p.1) ∧ (∀ p ∈ ks, SqT K H p.1 (p.2.map V.int)) ∧ ks.length < 64 ∧
  ∀ a L, H a = none → (L.map (·.2)).Nodup → (∀ p ∈ L, p ∈ ks) → (∀ p ∈ ks, p.2 ∈ L.map (·.2)) → Q (.ref a) (upd H a (SetTO P w a L))
theorem cr_setOfN (hc : X.calm = true) (hu : X.A.units + 64 < cLine) : CallR X (.type "set") (rSetOfN X.K X.prog X.w) := by
  intro pins s σ H xs us Q I r h
  obtain ⟨l, ks, rfl, hl, hk, hf, q⟩ := h
  cases (Vals.ref1 r)
  obtain ⟨its, rv, pl, hz⟩ := I.list hl
  have free : H s.heap.objs.size = none := I.hok.fresh (Nat.le_refl _)
  have fresh := refs_of_vals rv
  refine call_set_tups (P := X.prog) (w := X.w) ks (I.ok.hd hc) pl.isList (by simpa using fresh) (fun p hp => I.isT (hk p hp)) hf (by omega) ?_
  intro h' tk L es ep t R g kp
  have J : Inv X pins σ (upd H s.heap.objs.size (SetTO X.prog X.w s.heap.objs.size L)) { s with heap := h', toks := tk } := I.laid (t' := tk) kp (Nat.le_refl s.heap.objs.size) (setTO_new R.t0)
  exact ⟨.ref s.heap.objs.size, _, J, rfl, q _ L free R.nd (fun p hp => List.mem_of_mem_take (g.sub p hp)) fun p hp => g.all p (by rw [List.take_length]; exact hp)⟩
end
/-- the members of L once each, all those of ks: as many as ks where no key stands twice in it -/
theorem set_size {L ks : List (Addr × List Int)} (hn : (L.map (·.2)).Nodup) (h1 : ∀ p ∈ L, p ∈ ks) (h2 : ∀ p ∈ ks, p.2 ∈ L.map (·.2)) : decide ((L.length : Int) = (ks.length : Int)) = decide (ks.map (·.2)).Nodup := by
  have h := size_tells (l := L.map (·.2)) (D := ks.map (·.2)) hn (fun x => ⟨fun hx => ?_, fun hx => ?_⟩)
  · rw [List.length_map, List.length_map] at h; exact h
  · obtain ⟨p, hp, rfl⟩ := List.mem_map.mp hx
    exact List.mem_map_of_mem (h1 p hp)
  · obtain ⟨p, hp, rfl⟩ := List.mem_map.mp hx
    exact h2 p hp
end Gs

set_option Elab.async false
set_option linter.all false
set_option maxRecDepth 100000
set_option maxHeartbeats 4000000
/-! Layer G24: {(a, ..): v for .. in ..}: the keys tuples of ints and texts. -/
namespace Gs
open PySem PySem.Spec PyProof.Rows L2 PpSet
def tDcT (wi : TI) (g : TG) (tt : TT) (tk tv : TE) (vs : List Nat) : TE := fun σ H Q => wi σ H fun J H1 => ∀ D, H1 D = none →
  ∃ W : Nat → Nat → Hp → Prop, (∃ m, W 0 m (upd H1 D (.dT []))) ∧ ∀ i m H, W i m H → (J.stop i H ∧ Q (.ref D) H) ∨
    (J.go i H ∧ ∃ Nx : Hp → Prop, (∀ H', Nx H' → ∃ m', m' < m ∧ W (i + 1) m' H') ∧ ∀ x H', J.yld i H x H' → g x (wipe σ vs) H' fun σ2 H2 => wipe σ2 vs = wipe σ vs ∧ tt σ2 H2 fun b H3 =>
      if b = true then tk σ2 H3 fun y H4 => tv σ2 H4 fun z H5 => ∃ (kvs : List (List Key × V)) (k : List Key) (b : Addr), y = .ref b ∧ H5 b = some (.tup (k.map kV)) ∧ H5 D = some (.dT kvs) ∧ kvs.length < sizeLine ∧ Nx (upd H5 D (.dT (putK kvs k z))) else Nx H3)
section
variable {X : Cx}
/-- d[k] = v by a comprehension, k a tuple -/
theorem dctT_put {pins : List (Addr × Obj)} {σ : L2.St} {H : Hp} {s : Shared} {E : Value → Shared → Prop} {D b : Addr} {kvs : List (List Key × V)} {k : List Key} {v : V} {r : Value} {Q : Unit → Shared → Prop} (hu : X.A.units + 1 < cLine) (I : Inv X pins σ H s) (hD : H D = some (.dT kvs))
    (hz : kvs.length < sizeLine) (hb : H b = some (.tup (k.map kV))) (rv : RelV v r) (h : ∀ s', Inv X pins σ (upd H D (.dT (putK kvs k v))) s' → Q () s') : wpAny (model X.prog X.w) X.A (dictSet D (.ref b) r) Q E s := by
  obtain ⟨lz, hd, xs, rel, dd⟩ := dt_of I.hok hD
  have few : xs.length ≤ sizeLine := Paired.length rel ▸ lz
  have room : (putK kvs k v).length ≤ sizeLine := Nat.le_trans (length_putK kvs k v) hz
  have un : (tupleKind (mixKind X.prog X.w)).room X.A := by
    show X.A.units < cLine
    omega
  refine wpAny_dictSet_heap (hsz := few) un (key_of I.hok hb) dd ?_
  intro h' dd' same
  refine h _ ?_
  obtain ⟨q, es, ep, hq, h2, h3, h4, _, h5⟩ := dd'
  refine d_write I (by rw [hD]; exact True.intro) same ⟨q, hq⟩ ⟨room, hd, _, (rel.put k hb rv).keeps ?_, q, es, ep, hq, h2, h3, h4, h5⟩
  intro c ys ec
  rw [upd_ne (ne_of ec hD (fun z => nomatch z))]
  exact ec
theorem dct_run {pins : List (Addr × Obj)} {s : Shared} {σ : L2.St} {H : Hp} {Q : VK} {kx vx tg iter : Expr} {ifs : List Expr} {scope : Scope} {own : List (PySem.Str × Nat)} {pos pos' : Pos} {wi : TI} {g : TG} {tt : TT} {tk tv : TE} {use : Option (Value → Sem Unit)}
    {Qf : Value → Shared → Prop} (hu : X.A.units + 2 < cLine) (calm : X.calm = true) (nod : X.N.Nodup) (I : Inv X pins σ H s) (pi : PI X tg iter wi) (bok : BlkOk X.N X.env.scope scope own)
    (pg : ∀ (s : Shared) (H : Hp) (C : Addr) (cl : List (PySem.Str × Addr)) (fp : List Addr), PG (X.blk s H scope (compEnvC scope cl C X.env) fp) tg g)
    (pt : ∀ (s : Shared) (H : Hp) (C : Addr) (cl : List (PySem.Str × Addr)) (fp : List Addr), PTs (X.blk s H scope (compEnvC scope cl C X.env) fp) ifs tt)
    (pk : ∀ (s : Shared) (H : Hp) (C : Addr) (cl : List (PySem.Str × Addr)) (fp : List Addr), PE (X.blk s H scope (compEnvC scope cl C X.env) fp) kx tk)
    (pe : ∀ (s : Shared) (H : Hp) (C : Addr) (cl : List (PySem.Str × Addr)) (fp : List Addr), PE (X.blk s H scope (compEnvC scope cl C X.env) fp) vx tv)
    (plain : ∀ x, foldedSetIterable iter X.env x = pure x) (h : tDcT wi g tt tk tv (own.map (·.2)) σ H Q)
    (back : ∀ D C s' m H', Inv X pins σ H' s' → Q (.ref D) H' → s'.heap.Ns C m → FpOk X pins H' C → compPost (model X.prog X.w) X.A X.xe use Qf (.ref D) C (.ok .next) s') :
    wpAny (model X.prog X.w) X.A (comprehension (.DictComp kx vx [⟨tg, iter, ifs, 0⟩] scope pos) scope X.env pos' newDict false (eval iter X.env) use) Qf X.xe s := by
  have cells : ∀ q ∈ scope.names, q.2 = .free → ∃ c, X.env.cells.lookup q.1 = some c := by
    intro q hq e
    cases bok.free q hq e with
    | inl k => exact I.ok.has _ (Or.inl k)
    | inr k => exact I.ok.has _ (Or.inr k)
  refine wpAny_comprehension_free (use := use) rfl plain (closure_ok cells) bok.kind (fun q hq e => (bok.uniq q hq).trans (congrArg some e)) (thn (pi.run pins s σ H _ I h) fun _ s1 hx => thn hx fun _ s2 got => ?_)
  obtain ⟨it, fp, tn, J, H2, rfl, I2, T, st2, f2, q⟩ := got
  refine wpAny_newObj_type (newEnv_comp ?_)
  obtain ⟨D, hD⟩ : ∃ D, D = s2.heap.objs.size := ⟨_, rfl⟩
  have free : H2 D = none := I2.hok.fresh (by rw [hD]; exact Nat.le_refl _)
  obtain ⟨W, ⟨m0, w0⟩, turn⟩ := q D free
  obtain ⟨s3, hs3⟩ : ∃ s3 : Shared, s3 = { s2 with heap := s2.heap.push { cls := .type "dict", data := .dict #[] } } := ⟨_, rfl⟩
  have hp3 : ∀ b o, s2.heap.get? b = some o → s3.heap.get? b = some o := fun b o e => by rw [hs3]; exact Heap.get?_push_of_some _ e
  have sz3 : s3.heap.objs.size = s2.heap.objs.size + 1 := by rw [hs3]; exact Heap.size_push _ _
  have I3 : Inv X pins σ (upd H2 D (.dT [])) s3 := by
    rw [hs3]
    refine I2.laid (t' := s2.toks) (fun b o e => Heap.get?_push_of_some _ e) (by rw [hD]; exact Nat.le_refl _) ?_
    rw [hD]
    exact dt_empty s2.heap I2.big
  have below : ∀ b ∈ fp, b < s2.heap.objs.size := by
    intro b hb
    obtain ⟨o, e, _⟩ := T.obj _ _ st2 b hb
    exact Heap.lt_size e
  have fps : ∀ b ∈ fp, FpOk X pins (upd H2 D (.dT [])) b ∧ b < s3.heap.objs.size := by
    intro b hb
    have lt := below b hb
    refine ⟨⟨(upd_ne (by rw [hD]; exact Nat.ne_of_lt lt)).trans (f2 b hb).1, (f2 b hb).2⟩, by rw [sz3]; exact Nat.lt_succ_of_lt lt⟩
  have st3 : tn 0 s3.heap := T.keep _ _ _ st2 fun b _ o e => hp3 b o e
  have I4 := block_start I3 bok nod fps
  have pg := pg s3 (upd H2 D (.dT [])) s3.heap.objs.size (cellsFrom (s3.heap.objs.size + 1) scope.names (cloFrom X.env.cells scope.names [])) fp
  have pt := pt s3 (upd H2 D (.dT [])) s3.heap.objs.size (cellsFrom (s3.heap.objs.size + 1) scope.names (cloFrom X.env.cells scope.names [])) fp
  have pk := pk s3 (upd H2 D (.dT [])) s3.heap.objs.size (cellsFrom (s3.heap.objs.size + 1) scope.names (cloFrom X.env.cells scope.names [])) fp
  have pe := pe s3 (upd H2 D (.dT [])) s3.heap.objs.size (cellsFrom (s3.heap.objs.size + 1) scope.names (cloFrom X.env.cells scope.names [])) fp
  have fresh : ∀ b ∈ fp, (upd H2 D (.dT [])) b = none := fun b hb => (fps b hb).1.1
  rw [← hD, ← hs3]
  show codeAny _ _ (.compStart (.DictComp kx vx [⟨tg, iter, ifs, 0⟩] scope pos) 0 (.ref it) (.ref D) (compEnvC scope (cellsFrom (s3.heap.objs.size + 1) scope.names (cloFrom X.env.cells scope.names [])) s3.heap.objs.size X.env)) (compPost (model X.prog X.w) X.A X.xe use Qf (.ref D) s3.heap.objs.size) _
  revert I4 pg pt pk pe
  generalize hce : compEnvC scope (cellsFrom (s3.heap.objs.size + 1) scope.names (cloFrom X.env.cells scope.names [])) s3.heap.objs.size X.env = ce
  intro I4 pg pt pk pe
  have loc : ce.locals = s3.heap.objs.size := by rw [← hce]; rfl
  generalize upd H2 D (.dT []) = H3 at I3 I4 pg pt pk pe w0 fresh fps
  obtain ⟨s4, hs4⟩ : ∃ s4 : Shared, s4 = { s3 with heap := pushCells (s3.heap.push { cls := .type "dict", data := .dict #[] }) scope.names } := ⟨_, rfl⟩
  rw [← hs4] at I4 ⊢
  have st4 : tn 0 s4.heap := T.keep _ _ _ st3 fun b _ o e => by rw [hs4]; exact pushCells_keeps _ _ _ _ (Heap.get?_push_of_some _ e)
  have hold : ∀ {σ' : L2.St} {H' : Hp} {s' : Shared}, Inv (X.blk s3 H3 scope ce fp) [] σ' H' s' → (∀ b ∈ fp, H' b = none) → ∀ b ∈ fp, FpOk (X.blk s3 H3 scope ce fp) [] H' b := by
    intro σ' H' s' I' hn b hb
    exact ⟨hn b hb, (I'.ok.exf b hb).1, I'.ok.exfs b hb, .inl hb, fun x c e => (I'.ok.exf b hb).2 x c e, fun p hp => absurd (show p ∈ ([] : List (Addr × Obj)) ++ [] from hp) (by simp)⟩
  have loop : codeAny (model X.prog X.w) X.A (.compLoop (.DictComp kx vx [⟨tg, iter, ifs, 0⟩] scope pos) 0 (.ref it) (.ref D) ce) (compPost (model X.prog X.w) X.A X.xe use Qf (.ref D) s3.heap.objs.size) s4 := by
    refine compLoop_anyD (fun n s' => ∃ i H', Inv (X.blk s3 H3 scope ce fp) [] (wipe σ (own.map (·.2))) H' s' ∧ tn i s'.heap ∧ (∀ b ∈ fp, H' b = none) ∧ W i n H') ?_ m0 ⟨0, H3, I4, st4, fresh, w0⟩
    rintro n s5 ⟨i, H5, I5, st5, n5, w5⟩
    cases turn i n H5 w5 with
    | inl fin =>
      obtain ⟨stop, qq⟩ := fin
      refine thnF (T.done (X.blk s3 H3 scope ce fp) rfl rfl rfl calm i [] s5 _ H5 (fun _ _ => False) I5 (hold I5 n5) st5 stop) fun r s6 ⟨hr, I6⟩ => ?_
      subst hr
      have I7 : Inv X pins σ H5 s6 := I3.call' (ch := fp) I6.os I6.base I6.hok I6.bare fun b hb => ⟨(fps b hb).1.2.2.2.1, (fps b hb).1.2.1, (fps b hb).1.2.2.2.2.1, (fps b hb).1.2.2.2.2.2⟩
      have gone : H5 s3.heap.objs.size = none := by
        have z : H5 ce.locals = none := I6.free
        rwa [loc] at z
      obtain ⟨m, hn, _⟩ := I6.loc
      have hn : s6.heap.Ns ce.locals m := hn
      rw [loc] at hn
      exact back D s3.heap.objs.size s6 m H5 I7 qq hn (I3.fpOk (Nat.le_refl _) gone)
    | inr more =>
      obtain ⟨go, Nx, hNx, step⟩ := more
      refine thnF (T.item (X.blk s3 H3 scope ce fp) rfl rfl rfl calm i [] s5 _ H5 (fun _ _ => False) I5 (hold I5 n5) st5 go) fun r s6 ⟨u, hr, h6⟩ => ?_
      subst hr
      refine thnF h6 fun _ s7 ⟨x, H7, I7, r7, y7, st7, n7⟩ => ?_
      have I7p := I7.pinned (hold I7 n7) (T.obj _ _ st7)
      refine thnF (pg.run _ s7 _ H7 x u _ I7p r7 (step x H7 y7)) fun _ s8 ⟨σ8, H8, I8, hw8, q8⟩ => ?_
      refine thnF (pt.run _ s8 σ8 H8 _ I8 q8) fun b s9 ⟨H9, I9, q9⟩ => ?_
      have again : ∀ {s' : Shared} {H' : Hp}, Inv (X.blk s3 H3 scope ce fp) ([] ++ pinsAt fp s7.heap) σ8 H' s' → Nx H' →
          ∃ m, m < n ∧ ∃ i H', Inv (X.blk s3 H3 scope ce fp) [] (wipe σ (own.map (·.2))) H' s' ∧ tn i s'.heap ∧ (∀ b ∈ fp, H' b = none) ∧ W i m H' := by
        intro s' H' I' nx
        obtain ⟨m', hm, w'⟩ := hNx H' nx
        have pinned : ∀ b ∈ fp, ∀ o, s7.heap.get? b = some o → s'.heap.get? b = some o ∧ H' b = none := by
          intro b hb o e
          have z := I'.pin (b, o) (List.mem_append_right _ (List.mem_append_right _ (mem_pinsAt hb e)))
          exact ⟨z.1, z.2.1⟩
        refine ⟨m', hm, i + 1, H', (I'.unpinned (pins := [])).weak (by rw [← hw8, wipe_length]) (fun j v e => ?_), T.keep _ _ _ st7 (fun b hb o e => (pinned b hb o e).1), (fun b hb => ?_), w'⟩
        · rw [← hw8] at e
          exact (wipe_some e).1
        · obtain ⟨o, e, _⟩ := T.obj _ _ st7 b hb
          exact (pinned b hb o e).2
      cases b with
      | false =>
        rw [if_neg Bool.false_ne_true] at q9 ⊢
        exact again I9 q9
      | true =>
        rw [if_pos rfl] at q9 ⊢
        refine thnF (pk.run _ s9 σ8 H9 _ I9 q9) fun y0 s10 hy => ?_
        obtain ⟨yv, H10, I10, r10, q10⟩ := hy
        refine thnF (pe.run _ s10 σ8 H10 _ I10 q10) fun z0 s11 hz => ?_
        obtain ⟨zv, H11, I11, r11, kvs, k, b0, rfl, hb0, hD11, few11, nx⟩ := hz
        cases (show y0 = Value.ref b0 from r10)
        exact dctT_put (X := X.blk s3 H3 scope ce fp) (by show X.A.units + 1 < cLine; omega) I11 hD11 few11 hb0 r11 fun s12 I12 => again I12 nx
  exact codeAny_compStart_dict loop (T.self X.A 0 _ _ _ st4 loop)
/-- {(a, ..): v for tg in iter ..} -/
theorem pe_dct {kx vx tg iter : Expr} {ifs : List Expr} {scope : Scope} {own : List (PySem.Str × Nat)} {pos : Pos} {wi : TI} {g : TG} {tt : TT} {tk tv : TE} (hu : X.A.units + 2 < cLine) (calm : X.calm = true) (nod : X.N.Nodup)
    (pi : PI X tg iter wi) (bok : BlkOk X.N X.env.scope scope own) (pg : ∀ (s : Shared) (H : Hp) (C : Addr) (cl : List (PySem.Str × Addr)) (fp : List Addr), PG (X.blk s H scope (compEnvC scope cl C X.env) fp) tg g)
    (pt : ∀ (s : Shared) (H : Hp) (C : Addr) (cl : List (PySem.Str × Addr)) (fp : List Addr), PTs (X.blk s H scope (compEnvC scope cl C X.env) fp) ifs tt)
    (pk : ∀ (s : Shared) (H : Hp) (C : Addr) (cl : List (PySem.Str × Addr)) (fp : List Addr), PE (X.blk s H scope (compEnvC scope cl C X.env) fp) kx tk)
    (pe : ∀ (s : Shared) (H : Hp) (C : Addr) (cl : List (PySem.Str × Addr)) (fp : List Addr), PE (X.blk s H scope (compEnvC scope cl C X.env) fp) vx tv) (plain : ∀ x, foldedSetIterable iter X.env x = pure x := by intro _; rfl) :
    PE X (.DictComp kx vx [⟨tg, iter, ifs, 0⟩] scope pos) (tDcT wi g tt tk tv (own.map (·.2))) := by
  constructor
  intro pins s σ H Q I h
  rw [arm_eval_DictComp]
  refine dct_run hu calm nod I pi bok pg pt pk pe plain h fun D C s' m H' I' q hn f => ⟨m, hn, fun h2 sb => ?_⟩
  obtain ⟨f0, f1, f2, f3, f4, f5⟩ := f
  exact ⟨.ref D, H', I'.turned (t' := s'.toks) (fun b o hb e => (sb.2 b hb).trans e) f0 f1 f3 f4 f5, rfl, q⟩
/-- over what stands and is walked -/
theorem dct_it {J : It} {n : Nat} {G : Hp → Prop} {Y : Nat → Hp → V → Hp → Prop} (wk : Walk J n G Y) {g : TG} {tt : TT} {tk tv : TE} {vs : List Nat} {σ : L2.St} {H1 : Hp} {D : Addr} {Qd : Hp → Prop}
    (Pv : Nat → Hp → Prop) (h0 : Pv 0 (upd H1 D (.dT []))) (hG : ∀ i H, i ≤ n → Pv i H → G H)
    (hs : ∀ i x H H', i < n → Pv i H → Y i H x H' → g x (wipe σ vs) H' fun σ2 H2 => wipe σ2 vs = wipe σ vs ∧ tt σ2 H2 fun b H3 =>
      if b = true then tk σ2 H3 fun y H4 => tv σ2 H4 fun z H5 => ∃ (kvs : List (List Key × V)) (k : List Key) (b : Addr), y = .ref b ∧ H5 b = some (.tup (k.map kV)) ∧ H5 D = some (.dT kvs) ∧ kvs.length < sizeLine ∧ Pv (i + 1) (upd H5 D (.dT (putK kvs k z))) else Pv (i + 1) H3)
    (hd : ∀ H, Pv n H → Qd H) :
    ∃ W : Nat → Nat → Hp → Prop, (∃ m, W 0 m (upd H1 D (.dT []))) ∧ ∀ i m H, W i m H → (J.stop i H ∧ Qd H) ∨
      (J.go i H ∧ ∃ Nx : Hp → Prop, (∀ H', Nx H' → ∃ m', m' < m ∧ W (i + 1) m' H') ∧ ∀ x H', J.yld i H x H' → g x (wipe σ vs) H' fun σ2 H2 => wipe σ2 vs = wipe σ vs ∧ tt σ2 H2 fun b H3 =>
        if b = true then tk σ2 H3 fun y H4 => tv σ2 H4 fun z H5 => ∃ (kvs : List (List Key × V)) (k : List Key) (b : Addr), y = .ref b ∧ H5 b = some (.tup (k.map kV)) ∧ H5 D = some (.dT kvs) ∧ kvs.length < sizeLine ∧ Nx (upd H5 D (.dT (putK kvs k z))) else Nx H3) := by
  refine ⟨fun i m H => m = n - i ∧ i ≤ n ∧ Pv i H, ⟨n, by simp, Nat.zero_le _, h0⟩, ?_⟩
  rintro i m H ⟨rfl, hi, p⟩
  have st := hG i H hi p
  rcases Nat.lt_or_ge i n with lt | ge
  · exact .inr ⟨wk.goes i H lt st, Pv (i + 1), fun H' p' => ⟨n - (i + 1), by omega, rfl, lt, p'⟩, fun x H' y => hs i x H H' lt p (wk.yields i H x H' lt st y)⟩
  · have e : i = n := Nat.le_antisymm hi ge
    subst e
    exact .inl ⟨wk.stops H st, hd H p⟩
end
end Gs

set_option Elab.async false
set_option linter.all false
set_option maxRecDepth 100000
set_option maxHeartbeats 4000000
/-! Layer G25: lists or tuples unpacked; two rules of a call; keywords where a def has defaults. -/
namespace Gs
open PySem PySem.Spec PyProof.Rows L2
def gSeq (K : PySem.W.Frag) (n : Nat) (t : TGs) : TG := fun v σ H Q => gUnl K n t v σ H Q ∨ gTup K n t v σ H Q
theorem pg_seq {X : Cx} {pos : Pos} {es : List Expr} {k : Nat} {t : TGs} {n : Nat} (hc : X.calm = true) (h : PGs X es t) (hn : (assignEach es X.env).length = n := by rfl) (hst : (assignEach es X.env).findIdx? (·.1) = none := by rfl) : PG X (.Tuple es k pos) (gSeq X.K n t) :=
  pg_or (pg_unl hc h hn hst) (pg_tup hc h hn hst)
theorem gSeq.of {K : PySem.W.Frag} {n : Nat} {t : TGs} {a : Addr} {xs : List V} {σ : L2.St} {H : Hp} {Q : L2.St → Hp → Prop} (h : SqL K H a xs ∨ SqT K H a xs) (hl : xs.length = n) (q : t xs σ H Q) : gSeq K n t (.ref a) σ H Q :=
  h.elim (fun h => .inl ⟨a, xs, rfl, h, hl, q⟩) fun h => .inr ⟨a, xs, rfl, h, hl, q⟩
theorem cr_or {X : Cx} {f : Value} {r1 r2 : List V → Hp → VK → Prop} (h1 : CallR X f r1) (h2 : CallR X f r2) : CallR X f (fun xs H Q => r1 xs H Q ∨ r2 xs H Q) :=
  fun pins s σ H xs us Q I r h => h.elim (h1 pins s σ H xs us Q I r) (h2 pins s σ H xs us Q I r)
section
variable {K : PySem.W.Frag} {x qual : Str} {params : Arguments} {body : List Stmt} {scope : Scope} {dvs : List V} {f : Addr} {fd : FuncData} {ps : List Str}
/-- f(e, .., k = v, ..), some of the defaults filling up; g puts the positional values, all defaults and the keywords' values in the parameters' order -/
theorem kbn_dfl (F : FunD K x qual params body scope dvs [] f fd) (n : Nat) (ks : List Str) (g : {α : Type} → List α → List α → List α → List α) (hd : dvs ≠ [])
    (hrel : ∀ {vs ds zs : List V} {us its ws : List Value}, Vals vs us → Vals ds its → Vals zs ws → Vals (g vs ds zs) (g us its ws))
    (h : ∀ (T : Addr) (kV doc pm : Value) (an : Option Addr) (cdv ct : Value) (us its ws : List Value), us.length = n → its.length = dvs.length → ws.length = ks.length →
      ∃ k, bindArgs (PySem.W.fnOf x qual params body scope (.ref T) kV doc pm an cdv ct) ⟨us, ks.zip ws⟩ = seqItems? (.ref T) >>= k ∧ k (some its.toArray) = pure (ps.zip (g us its ws))) :
    ∃ its : List Value, KBn K fd ps n ks (fun us ws => g us its ws) (fun vs zs => g vs dvs zs) := by
  obtain ⟨oc, od, dV, kV, doc, pm, an, cdv, ct, osl, rfl, lk, hcd, hD, hK⟩ := F.ex
  rcases hD with ⟨e, _⟩ | ⟨_, T, o, its, m, rfl, lT, oT, rT⟩
  · exact absurd e hd
  · refine ⟨its, ⟨fun s us ws X l1 l2 => ?_, fun rv rz => hrel rv rT rz⟩⟩
    obtain ⟨k, e1, e2⟩ := h T kV doc pm an cdv ct us its ws l1 rT.length.symm l2
    refine BindsTo.of_looks fun M => ?_
    rw [e1]
    exact looks_items X lT oT (.of_pure e2)
end
end Gs

set_option Elab.async false
set_option linter.all false
set_option maxRecDepth 100000
set_option maxHeartbeats 4000000
/-! repr of None, of a text. -/
namespace Gs
open PySem PySem.Spec PyProof.Rows L2
section
variable {X : Cx}
def rReprS : List V → Hp → VK → Prop := fun xs H Q => (xs = [.non] ∧ Q (.str "None") H) ∨ ∃ z : Str, xs = [.str z] ∧ (reprText z).length ≤ sizeLine ∧ Q (.str (reprText z)) H
theorem call_reprS : CallR X (.builtin "repr") rReprS := by
  intro pins s σ H xs us Q I r h
  rcases h with ⟨rfl, q⟩ | ⟨z, rfl, hz, q⟩
  · obtain ⟨u, rfl, ru⟩ := vals1 r
    obtain rfl : u = Value.none := by cases u <;> first | rfl | cases ru
    exact PySem.P.repr_of_none ⟨.str _, H, I.tok _, ⟨_, rfl⟩, q⟩
  · obtain ⟨u, rfl, ru⟩ := vals1 r
    obtain ⟨t, rfl⟩ : ∃ t, u = Value.str z t := ru
    exact PySem.P.repr_of_str ⟨.str _, H, I.tok _, ⟨_, rfl⟩, q⟩ hz
end
end Gs

set_option Elab.async false
set_option linter.all false
set_option maxRecDepth 100000
set_option maxHeartbeats 4000000
/-! Layer G13: several except clauses, some with a name; a written dict with one tuple as its key. -/
namespace Gs
open PySem PySem.Spec PyProof.Rows L2
/-- a way of catching: from what is wished behind, what is wished of an exception -/
abbrev Catch := Ends → WX → WX
/-- what one clause wishes: nm: the slot of its name, if it has one -/
def oneC (n : Nat) (K : PySem.W.Frag) (c : Value) (nm : Option Nat) (ts : Addr → Value → Option Addr → TS) (rest : Catch) : Catch := fun D W cls d σ H => ∃ b, PySem.W.exmOne K cls c = some b ∧
  (b = true → σ.length = n → ∀ a, H a = none → match nm with
    | none => ts a cls d D σ H
    | some i => ts a cls d { nx := fun σ' H' => D.nx (σ'.set i none) H', rt := D.rt, bk := fun σ' H' => D.bk (σ'.set i none) H', ct := fun σ' H' => D.ct (σ'.set i none) H' } (σ.set i (some (.ref a))) H) ∧
  (b = false → rest D W cls d σ H)
/-- the clauses and what they wish -/
inductive Cls5 (X : Cx) : List ExceptHandler → Catch → Prop
  | done : Cls5 X [] (fun _ W => W)
  | bare {x : Str} {c : Value} {ts : Addr → Value → Option Addr → TS} {b₀ : Stmt} {su : List Stmt} {q q' : Pos} {more : List ExceptHandler} {rest : Catch} (nc : Names X x c)
      (body : ∀ (a : Addr) (ob : Obj) (cls : Value) (d : Option Addr) (pn : List (Addr × Obj)), Zc cls d ob → (∃ vs, ob.data = .fields vs) → PSs (X.suite a ((a, ob) :: pn)) (b₀ :: su) (ts a cls d)) (r : Cls5 X more rest) :
      Cls5 X (.ExceptHandler (some (.Name x q)) none (b₀ :: su) q' :: more) (oneC X.N.length X.K c none ts rest)
  | as {x n : Str} {i : Nat} {c : Value} {ts : Addr → Value → Option Addr → TS} {b₀ : Stmt} {su : List Stmt} {q q' : Pos} {more : List ExceptHandler} {rest : Catch} (nc : Names X x c) (hN : X.N.Nodup) (hi : X.N[i]? = some n) (ln : X.env.kindOf n = some .local)
      (body : ∀ (a : Addr) (ob : Obj) (cls : Value) (d : Option Addr) (pn : List (Addr × Obj)), Zc cls d ob → (∃ vs, ob.data = .fields vs) → PSs (X.suite a ((a, ob) :: pn)) (b₀ :: su) (ts a cls d)) (r : Cls5 X more rest) :
      Cls5 X (.ExceptHandler (some (.Name x q)) (some n) (b₀ :: su) q' :: more) (oneC X.N.length X.K c (some i) ts rest)
section
variable {X : Cx} {pins : List (Addr × Obj)} {σ : L2.St} {H : Hp} {D : Ends}
/-- the end of a suite: back in the def's own context -/
theorem suite_back {a : Addr} {q : Addr × Obj} {f : Flow} {s : Shared} (ok : X.Ok) (h : SP (X.suite a (q :: (X.pn ++ pins))) [] D f s) : SP X pins D f s := by
  cases f with
  | next => obtain ⟨σ', H', S, z⟩ := h; exact ⟨σ', H', S.unsuite ok, z⟩
  | brk => obtain ⟨σ', H', S, z⟩ := h; exact ⟨σ', H', S.unsuite ok, z⟩
  | cont => obtain ⟨σ', H', S, z⟩ := h; exact ⟨σ', H', S.unsuite ok, z⟩
  | ret u => obtain ⟨v, σ', H', S, rv, z⟩ := h; exact ⟨v, σ', H', S.unsuite ok, rv, z⟩
/-- try: body, except .. as ..: .., several -/
theorem ps_try5 {body : List Stmt} {h₀ : ExceptHandler} {hds : List ExceptHandler} {pos : Pos} {tb : WX → TS} {W₀ : WX} {C : Catch} (hs : X.stack = X.env :: X.outer) (hf : X.env.frame = some X.env.locals) (tk : Takes X W₀)
    (hb : ∀ (W : WX) (pn : List (Addr × Obj)) (xe : Value → Shared → Prop), Takes (X.tr pn xe) W → PassesOwn (model X.prog X.w) X.A X.env xe → PSs (X.tr pn xe) body (tb W))
    (hc : Cls5 X (h₀ :: hds) C) : PS X (.Try body (h₀ :: hds) [] [] pos) (fun D σ H => tb (C D W₀) D σ H) := by
  refine ⟨fun pins s σ H D I h => ?_⟩
  have ok := I.ok
  have frm : X.A.frames = some (X.env :: X.outer) := by rw [ok.frames, hs]
  refine wpAny_Try_except (wpAny_mono ((hb (C D W₀) (X.pn ++ pins) (fun e s₁ => wpAny (model X.prog X.w) X.A (noteFrame e X.env) (fun _ s₂ => wpAny (model X.prog X.w) X.A (setFlight e none)
    (fun _ s₃ => wpAny (model X.prog X.w) X.A (handleBy e X.env (h₀ :: hds)) (SP X pins D) X.xe s₃) X.xe s₂) X.xe s₁) (fun u s₁ caught => ?_) PassesOwn.looking).run [] s σ H D (I.toTry _) h) (fun f s₁ hsp => ?_) (fun _ _ z => z))
  rotate_left
  · cases f with
    | next => obtain ⟨σ', H', J, z⟩ := hsp; exact wpAny_execs_nil ⟨σ', H', J.ofTry ok, z⟩
    | brk => obtain ⟨σ', H', J, z⟩ := hsp; exact ⟨σ', H', J.ofTry ok, z⟩
    | cont => obtain ⟨σ', H', J, z⟩ := hsp; exact ⟨σ', H', J.ofTry ok, z⟩
    | ret u => obtain ⟨v, σ', H', J, rv, z⟩ := hsp; exact ⟨v, σ', H', J.ofTry ok, rv, z⟩
  obtain ⟨a, B, sI, pins', σ', H', cls, d, rfl, J', nb, up, sky, na, os, ag, wish⟩ := caught
  have J : Inv X pins σ' H' sI := J'.ofTry ok
  have sky : Sky B (X.env :: X.outer) a (Zc cls d) X.env.locals s₁.heap := by rw [← hs]; exact sky
  show wpAny (model X.prog X.w) X.A (noteFrame (.ref a) X.env) _ _ _
  refine Sky.land Zc.steady frm hf sky fun h₃ fl up₃ => ?_
  have up₃ := up.trans up₃
  obtain ⟨ob, vs, hob, hz, hd⟩ := fl.there
  have apart : ∀ {g : Heap} {o : Obj} {us : Array Value}, g.FunFrames B (X.env :: X.outer) → g.get? a = some o → o.data = .fields us → a ∉ frs (X.env :: X.outer) := by
    intro g o us ff e de hm
    obtain ⟨_, o', e', no⟩ := ff.mem hm
    rw [e] at e'
    cases e'
    exact no _ de
  have nfr := apart fl.2.2.1 hob hd
  have nL : a ≠ X.env.locals := fun z => nfr (List.mem_filterMap.mpr ⟨X.env, List.mem_cons_self, by rw [hf, z]⟩)
  have nF : a ∉ X.fs := fun hm => by
    obtain ⟨e, he, z⟩ := List.mem_filterMap.mp hm
    exact nfr (List.mem_filterMap.mpr ⟨e, List.mem_cons_of_mem _ he, z⟩)
  have J₃ : Inv X pins σ' H' { s₁ with heap := h₃ } := J.landed nb fl.1 up₃ os ag
  have S₃ := J₃.suite hob hd na nL nF
  have looks : PySem.W.Looks (model X.prog X.w) h₃ (typeOf (.ref a)) cls := fun A Q E s k z => wpAny_typeOf_ref (k _ _ hob) (by rw [hz.1]; exact z)
  -- the class that a clause names
  have named : ∀ {x : Str} {c : Value} {q : Pos} {Q : Value → Shared → Prop} {E : Value → Shared → Prop}, Names X x c → Q c { s₁ with heap := h₃ } →
      wpAny (model X.prog X.w) (X.A.mark (some (.ref a))) (eval (.Name x q) X.env) Q E { s₁ with heap := h₃ } := by
    intro x c q Q E nc hq
    obtain ⟨hg, dbg, m | ⟨m, boot, nn⟩⟩ := nc
    · exact ld_glob (X := X.suite a ((a, ob) :: (X.pn ++ pins))) S₃ hg m hq dbg
    · exact ld_blt (X := X.suite a ((a, ob) :: (X.pn ++ pins))) S₃ hg m boot hq nn dbg
  have all : ∀ {hds' : List ExceptHandler} {C' : Catch}, Cls5 X hds' C' → C' D W₀ cls d σ' H' →
      wpAny (model X.prog X.w) X.A (handleBy (.ref a) X.env hds') (SP X pins D) X.xe { s₁ with heap := h₃ } := by
    intro hds' C' hc'
    induction hc' with
    | done =>
      intro wish
      refine wpAny_handleBy_nil ?_
      obtain ⟨_, _, _, oe, us, T, oT, ts', he, _, hde, h1, _⟩ := id fl
      unfold PySem.passOn
      refine wpAny_bind (wpAny_field he hde h1 ?_)
      rw [if_neg (by simp)]
      have fin : wpAny (model X.prog X.w) X.A (setFlight (.ref a) X.env.frame) (fun _ s₄ => wpAny (model X.prog X.w) X.A (throw (.ref a) : Sem Flow) (SP X pins D) X.xe s₄) X.xe { s₁ with heap := h₃ } := by
        rw [hf]
        refine HandSPX.setFlight_upZ fl fun h₄ sk up₄ => wpAny_throw (tk _ _ ?_)
        exact ⟨a, B, sI, pins, σ', H', cls, d, rfl, J, nb, up₃.trans up₄, .inr (.inr (by rw [hs]; exact sk)), na, os, ag, wish⟩
      first
        | exact wpAny_bind (wpAny_pure (wpAny_bind fin))
        | exact wpAny_bind fin
    | bare nc body r ih =>
      intro wish
      obtain ⟨b, hb1, yes, no⟩ := wish
      refine wpAny_handleBy_cons (codeAny_handlers_test ?_) (by intro z; cases z)
      refine named nc ((PySem.W.exm_one (M := model X.prog X.w) J₃.kIn looks hb1).here ?_)
      cases b with
      | false => exact ih (no rfl)
      | true =>
        refine codeAny_handlers_suite ?_
        refine HandSPX.lands_againZ fl fun h₄ fl₄ up₄ => ?_
        obtain ⟨ob4, us4, e4, z4, d4⟩ := fl₄.there
        have J₄ : Inv X pins σ' H' { s₁ with heap := h₄ } := J.landed nb fl₄.1 (up₃.trans up₄) os ag
        have S₄ := J₄.suite e4 d4 na nL nF
        exact wpAny_mono ((body a ob4 cls d (X.pn ++ pins) z4 ⟨_, d4⟩).run [] _ _ H' _ S₄ (yes rfl J.len a na)) (fun f s6 hsp => suite_back ok hsp) (fun _ _ z => z.elim)
    | as nc hN hi ln body r ih =>
      rename_i x n i c ts b₀ su q q' more rest
      intro wish
      obtain ⟨b, hb1, yes, no⟩ := wish
      refine wpAny_handleBy_cons (codeAny_handlers_test ?_) (by intro z; cases z)
      refine named nc ((PySem.W.exm_one (M := model X.prog X.w) J₃.kIn looks hb1).here ?_)
      cases b with
      | false => exact ih (no rfl)
      | true =>
        refine codeAny_handlers_suite_as ?_
        refine HandSPX.lands_againZ fl fun h₄ fl₄ up₄ => ?_
        obtain ⟨ob4, us4, e4, z4, d4⟩ := fl₄.there
        have J₄ : Inv X pins σ' H' { s₁ with heap := h₄ } := J.landed nb fl₄.1 (up₃.trans up₄) os ag
        have S₄ := J₄.suite e4 d4 na nL nF
        have gone : ∀ {σ6 : L2.St} {H6 : Hp} {s6 : Shared} {Q : Shared → Prop}, Inv X pins σ6 H6 s6 → (∀ s7, Inv X pins (σ6.set i none) H6 s7 → Q s7) →
            wpAny (model X.prog X.w) X.A (do bindName X.env n .none; unbindBehindTheSuite X.env n q') (fun _ s7 => Q s7) X.xe s6 := fun S6 hq => gone_ok S6 hN hi ln hq
        refine store_ok (X := X.suite a ((a, ob4) :: (X.pn ++ pins))) (v := .ref a) S₄ hN hi (.inl ln) rfl (fun s5 S5 => ?_) (.inr ln)
        refine wpAny_mono ((body a ob4 cls d (X.pn ++ pins) z4 ⟨_, d4⟩).run [] s5 _ H' _ S5 (yes rfl J.len a na)) (fun f s6 hsp => ?_) (fun _ _ z => z.elim)
        cases f with
        | next => obtain ⟨σ6, H6, S6, z⟩ := hsp; exact gone (S6.unsuite ok) fun s7 J7 => ⟨_, _, J7, z⟩
        | brk => obtain ⟨σ6, H6, S6, z⟩ := hsp; exact gone (S6.unsuite ok) fun s7 J7 => ⟨_, _, J7, z⟩
        | cont => obtain ⟨σ6, H6, S6, z⟩ := hsp; exact gone (S6.unsuite ok) fun s7 J7 => ⟨_, _, J7, z⟩
        | ret u => obtain ⟨v, σ6, H6, S6, rv, z⟩ := hsp; exact gone (S6.unsuite ok) fun s7 J7 => ⟨_, _, _, J7, rv, z⟩
  exact all hc wish
end
/-! ### {(a, b): v} -/
def tDispT (tk tv : TE) : TE := fun σ H Q => ∀ p, H p = none → tk σ (upd H p (.dT [])) fun x H1 => tv σ H1 fun y H2 => ∃ (b : Addr) (k : List Key), x = .ref b ∧ H2 b = some (.tup (k.map kV)) ∧ H2 p = some (.dT []) ∧ Q (.ref p) (upd H2 p (.dT [(k, y)]))
theorem pe_dispT {X : Cx} {pos : Pos} {k v : Expr} {tk tv : TE} (hu : X.A.units + 1 < cLine) (hk : PE X k tk) (hv : PE X v tv) : PE X (.Dict [some k] [v] pos) (tDispT tk tv) := by
  refine ⟨fun pins s σ H Q I h => ?_⟩
  have free := I.hok.fresh (Nat.le_refl s.heap.objs.size)
  have I1 := I.laid (a := s.heap.objs.size) (o := .dT []) (h' := s.heap.push { cls := .type "dict", data := .dict #[] }) (t' := s.toks) (fun _ _ z => Heap.get?_push_of_some _ z) (Nat.le_refl _) (dt_empty s.heap I.big)
  have n1 := pairTrees_length [some k] [v] X.env pos rfl rfl
  have n1 : (pairTrees [some k] [v] X.env pos).length = 1 := n1
  rw [arm_eval_Dict, zip_pairTrees [some k] [v] X.env pos rfl rfl, dictDisplay_pairs _ (fun z => by rw [z] at n1; cases n1) (by rw [n1]; decide)]
  refine wpAny_bind (wpAny_standAt (wpAny_bind (wpAny_subDictH (knd := tupleKind (mixKind X.prog X.w)) (Q := fun d s' => wpAny (model X.prog X.w) X.A (pure (Value.ref d)) (EP X pins σ Q) X.xe s') (Nat.lt_of_succ_lt hu) (by rw [n1]; decide) ?_)))
  refine pairTrees_cons_walk (thn (hk.run pins _ σ _ _ I1 (h _ free)) fun u s1 ⟨x, H1, J1, rx, q1⟩ => thn (hv.run pins s1 σ H1 _ J1 q1) fun r s2 ⟨y, H2, J2, ry, b, ks, ex, hb, hp, q⟩ => pairTrees_nil_walk ?_)
  subst ex
  cases (show u = Value.ref b from rx)
  obtain ⟨_, hd, xs, rel, dd⟩ := dt_of J2.hok hp
  cases rel
  have is := key_of J2.hok hb
  refine ⟨[(ks, b, r)], ⟨rfl, rfl, is, True.intro⟩, dd, fun h' tk' ⟨ob, es, ep, g1, g2, g3, g4, g5, g6⟩ sb => wpAny_pure ⟨.ref s.heap.objs.size, _, ?_, rel_ref _, q⟩⟩
  have nb : b ≠ s.heap.objs.size := ne_of hb hp (fun z => nomatch z)
  refine d_write J2 (by rw [hp]; exact True.intro) sb ⟨ob, g1⟩ ⟨Nat.le_trans (show 1 ≤ 1000 by decide) (by decide), hd, [(ks, b, r)], .cons ⟨rfl, ?_, ry⟩ .nil, ob, es, ep, g1, g2, g3, g4, g6⟩
  rw [upd_ne nb]
  exact hb
end Gs

set_option Elab.async false
set_option linter.all false
set_option maxRecDepth 100000
set_option maxHeartbeats 4000000
/-! Layer G15: exceptions as values: made by place and by keywords, caught and kept; their fields, isinstance of them. -/
namespace PySem
namespace HandSPK
open HandSPX
open Builtin Builtin.ObjectAttr
section
variable {M : Model} {A : Around} {E : Value → Shared → Prop} {h : Heap} {g : Array GenState} {d : Drawn} {t : Nat} {os : OsState}
variable {nm q : Str} {C N : Addr} {bs bm bmB : List Value} {hdct : Bool} {sn : List Str} {sub : List Value} {ab : Bool} {col : Option Bool} {dd : Option Addr} {k0 k1 k2 k3 k5 : Option Value} {B newId initId : String}
theorem check_new_ownK (F : ExcBaseFacts B newId initId bmB) (hT : ∀ X : String, bm.contains (.type X) = bmB.contains (.type X)) {rest : List Value} {kw : List (Str × Value)} {Q : Unit → Shared → Prop}
    (hC : h.get? C = some (excClassObj nm q C N bs bm hdct sn sub ab col dd k0 k1 k2 k3 k5 newId)) (hq : Q () ⟨h, g, d, t, os⟩) : wpAny M A (checkBuiltinCall newId ⟨.ref C :: rest, kw⟩) Q E ⟨h, g, d, t, os⟩ := by
  have hcont : (Value.ref C :: bm).contains (.type B) = true := by rw [List.contains_cons, hT, F.hasB, Bool.or_true]
  have hstar := F.noStar
  simp only [checkBuiltinCall, F.newKind, F.newSplit, F.newRow]
  repeat (first | refine wpAny_loadPart_at hC ?_ | (refine wpAny_isSubtype_exc hC ?_; rw [hcont]) | refine wpAny_staticBase_exc hC ?_ | refine wpAny_madeBy_exc hC ?_ | simp only [bne_self_eq_false, Bool.false_eq_true, if_false] | wp_step)
  exact hq
theorem check_callK {kw : List (Str × Value)} {rest : List Value} {Q : Unit → Shared → Prop} {newId : String} (hC : h.get? C = some (excClassObj nm q C N bs bm hdct sn sub ab col dd k0 k1 k2 k3 k5 newId))
    (hq : Q () ⟨h, g, d, t, os⟩) : wpAny M A (checkBuiltinCall "type.__call__" ⟨.ref C :: rest, kw⟩) Q E ⟨h, g, d, t, os⟩ := by
  have f3 := tc_sub
  have hT : (⟨h, g, d, t, os⟩ : Shared).TypeIs (.ref C) "type" := ⟨_, hC, rfl⟩
  simp only [checkBuiltinCall, tc_kind, tc_split]
  repeat (any_goals (first | assumption | with_reducible refine wpAny_loadPart_at hC ?_ | with_reducible refine wpAny_onRaise ?_ | with_reducible refine wpAny_map ?_ | wp_step))
end
section
variable {prog : Program} {w : World} {A : Around} {E : Value → Shared → Prop} {R : Result → Shared → Prop} {h : Heap} {g : Array GenState} {d : Drawn} {t : Nat} {os : OsState}
variable {nm q : Str} {C N : Addr} {bs bm bmB : List Value} {hdct : Bool} {sn : List Str} {sub : List Value} {ab : Bool} {col : Option Bool} {dd : Option Addr} {k0 k1 k2 k3 k5 : Option Value} {B newId initId : String}
theorem new_ownK (F : ExcBaseFacts B newId initId bmB) (hT : ∀ X : String, bm.contains (.type X) = bmB.contains (.type X)) {rest : List Value} {kw : List (Str × Value)}
    (hC : h.get? C = some (excClassObj nm q C N bs bm hdct sn sub ab col dd k0 k1 k2 k3 k5 newId))
    (hq : R (.ok (.ret (.ref (h.objs.size + 1)))) ⟨(h.push { cls := .type "tuple", data := .seq rest.toArray }).push
      { cls := .ref C, data := .fields #[.ref h.objs.size, .none, .none, .none, .bool false, .none] }, g, d, t, os⟩) (hrest : rest.length ≤ sizeLine) :
    codeAny (model prog w) A (.builtin newId ⟨.ref C :: rest, kw⟩) R ⟨h, g, d, t, os⟩ := by
  have hends := F.ends
  have hcB : (Value.ref C :: bm).contains (.type B) = true := by rw [List.contains_cons, hT, F.hasB, Bool.or_true]
  have hcA : (Value.ref C :: bm).contains (.type "AttributeError") = false := by rw [List.contains_cons, hT, F.noAttr]; rfl
  have hcN : (Value.ref C :: bm).contains (.type "NameError") = false := by rw [List.contains_cons, hT, F.noName]; rfl
  refine codeAny_builtinAt F.entry ?_
  unfold Builtin.«BaseException.__new__»
  refine wpAt_bind ?_
  show wpAt _ _ _ (stack >>= _) _ _ _
  refine wpAt_bind (wpAt_stack fun p below => wpAt_of_wpAny ?_)
  wp_walk
  refine wpAt_of_wpAny ?_
  rw [F.owner]
  repeat (first | with_reducible refine wpAny_madeHere_exc F.canon hC ?_ | with_reducible refine wpAny_loadPart_at hC ?_ | (with_reducible refine wpAny_isSubtype_exc hC ?_; first | rw [hcB] | rw [hcA] | rw [hcN]) | wp_step)
  show R _ _
  rw [Heap.size_push]
  exact hq
theorem type_call_ownK (F : ExcBaseFacts B newId initId bmB) (hT : ∀ X : String, bm.contains (.type X) = bmB.contains (.type X)) {rest : List Value} {kw : List (Str × Value)} {fI : Addr} {Q : Fin → Shared → Prop}
    (hC : h.get? C = some (excClassObj nm q C N bs bm hdct sn sub ab col dd k0 k1 k2 k3 k5 newId))
    (hi : W.Looks (model prog w) h (typeLookup (.ref C) "__init__") (some (.ref fI))) (hb : ∀ self, W.Looks (model prog w) h (bindSpecial (.ref fI) self) (.ref fI, [self])) (hrest : rest.length ≤ sizeLine)
    (hq : codeAny (model prog w) A (.call (.ref fI) ⟨.ref (h.objs.size + 1) :: rest, kw⟩)
      (fun r s' => match r with | .ok (.ret v) => v = .none ∧ Q (.done (.ret (.ref (h.objs.size + 1)))) s' | .ok _ => False | .error e => E e s')
      ⟨(h.push (W.kdv_tup rest)).push (excO C h.objs.size), g, d, t, os⟩) :
    wpAny (model prog w) A (Builtin.«type.__call__» ⟨.ref C :: rest, kw⟩) Q E ⟨h, g, d, t, os⟩ := by
  repeat (first | with_reducible refine wpAny_loadPart_at hC ?_ | with_reducible refine wpAny_madeBy_exc hC ?_ | wp_step)
  refine codeAny_call_builtin_code (Code.quiet_builtin _ F.quiet) (check_new_ownK F hT hC ?_)
  refine new_ownK F hT hC ?_ hrest
  show wpAny _ _ _ _ _ _
  have k : ∀ b o, h.get? b = some o → ((h.push (W.kdv_tup rest)).push (excO C h.objs.size)).get? b = some o := fun b o e => Heap.get?_push_of_some _ (Heap.get?_push_of_some _ e)
  have hC₁ := k _ _ hC
  have hget : ((h.push (W.kdv_tup rest)).push (excO C h.objs.size)).get? (h.objs.size + 1) = some (excO C h.objs.size) := by heap_get
  have hcC : (Value.ref C :: bm).contains (.ref C) = true := by simp
  have i1 := hi.keeps k
  have b1 := (hb (.ref (h.objs.size + 1))).keeps k
  unfold isInstance
  repeat (first | with_reducible refine wpAny_loadPart_at hget ?_ | (with_reducible refine wpAny_isSubtype_exc hC₁ ?_; rw [hcC]) | wp_step)
  show wpAny _ _ (typeLookup (.ref C) _) _ _ _
  refine i1.at ?_
  refine wpAny_holding (wpAny_bind (b1.at ?_))
  refine wpAny_bind (wpAny_call (codeAny_mono hq fun r s' z => ?_))
  rcases r with e | (v | _ | _ | _) <;> first | exact z | exact z.elim | skip
  obtain ⟨rfl, z⟩ := z
  first
    | exact wpAny_pure (wpAny_pure z)
    | (wp_walk; exact z)
theorem call_ownK (F : ExcBaseFacts B newId initId bmB) (hT : ∀ X : String, bm.contains (.type X) = bmB.contains (.type X)) {rest : List Value} {kw : List (Str × Value)} {fI : Addr}
    (hC : h.get? C = some (excClassObj nm q C N bs bm hdct sn sub ab col dd k0 k1 k2 k3 k5 newId))
    (hi : W.Looks (model prog w) h (typeLookup (.ref C) "__init__") (some (.ref fI))) (hb : ∀ self, W.Looks (model prog w) h (bindSpecial (.ref fI) self) (.ref fI, [self])) (hrest : rest.length ≤ sizeLine)
    (hq : codeAny (model prog w) (A.under (.builtin "type.__call__" ⟨.ref C :: rest, kw⟩)) (.call (.ref fI) ⟨.ref (h.objs.size + 1) :: rest, kw⟩) (W.InitBack (h.objs.size + 1) R)
      ⟨(h.push (W.kdv_tup rest)).push (excO C h.objs.size), g, d, t, os⟩) :
    codeAny (model prog w) A (.call (.ref C) ⟨rest, kw⟩) R ⟨h, g, d, t, os⟩ := by
  have f1 := tc_lookup
  have f2 := tc_bind (.ref C)
  have hTy : (⟨h, g, d, t, os⟩ : Shared).TypeIs (.ref C) "type" := ⟨_, hC, rfl⟩
  refine codeAny_of_tree ?_
  show wpAny _ _ (callAny (.ref C) _) _ _ _
  repeat (any_goals (first | assumption | with_reducible refine wpAny_loadPart_at hC ?_ | wp_step))
  refine ⟨rfl, ?_⟩
  refine codeAny_call_builtin_at (Code.quiet_builtin _ (by decide +kernel)) entry_typeCall (check_callK hC (type_call_ownK F hT hC hi hb hrest ?_))
  refine codeAny_mono hq fun r s' z => ?_
  rcases r with e | (v | _ | _ | _) <;> exact z
end
end HandSPK
end PySem

set_option Elab.async false
set_option linter.all false
set_option maxRecDepth 100000
set_option maxHeartbeats 4000000
/-! Layer G16: exceptions as values, told over the abstract heap. -/
namespace PySem.W
open PySem PySem.Spec PySem.Calls PyProof.Rows
section
variable {prog : Program} {w : World} {A : Around} {E : Value → Shared → Prop} {s : Shared} {K : Frag} {x D : Addr} {ox : Obj} {od : Option Obj}
theorem findObj_dataV {C : Addr} {name : Str} {a g : Value} (hc : (clsIn K C).isSome = true) (ha : findIn K (.ref C) name = some (some a)) (hg : specialIn K a "__get__" = some (some g)) (ht : takesIn K a = some true) : findObj K C od name = some (.bind g a) := by
  obtain ⟨cd, hc⟩ := Option.isSome_iff_exists.mp hc
  unfold findObj
  rw [hc, Option.bind_some, ha, Option.bind_some]
  simp [hg, ht]
theorem kin_classV {Q : Option Value → Shared → Prop} (hga : findIn K (.ref D) "__getattribute__" = some (some (.builtin "BaseException.__getattribute__"))) (hgt : findIn K (.ref D) "__getattr__" = some none) (hsub : subIn K (.ref D) (.type "BaseException") = some true)
    (hdct : hasDictIn K D = true) (ha : findIn K (.ref D) "__class__" = some (some (.builtin "object.__class__")))
    (hn : specialIn K (.builtin "object.__class__") "__get__" = some (some (.builtin "getset_descriptor.__get__"))) (htk : takesIn K (.builtin "object.__class__") = some true) (hm : mroIn K D (.type "object") = some true)
    (X : K.In s.heap) (I : InstAt s.heap x ox D od) (h : Q (some (.ref D)) { s with toks := s.toks + 1 }) : wpAny (model prog w) A (getAttr? (.ref x) "__class__") Q E s := by
  have hf : findObj K D od "__class__" = some (.bind (.builtin "getset_descriptor.__get__") (.builtin "object.__class__")) := findObj_dataV (by obtain ⟨cd, hc, _⟩ := any_some hdct; rw [hc]; rfl) ha hn htk
  obtain ⟨hp, g, d, t, os⟩ := s
  have L0 := I.type (M := model prog w)
  have L1 := looks_findIn (M := model prog w) X hga
  have L2 := looks_findIn (M := model prog w) X hgt
  have L3 := looks_find (M := model prog w) X I hf
  have sub : Looks (model prog w) hp (isInstance (.ref x) (.type "BaseException")) true := L0.andThen (looks_subIn X hsub)
  have hx0 : (false && onTheHeap (Value.builtin "BaseException.__getattribute__")) = false := rfl
  have hx2 : (Value.builtin "BaseException.__getattribute__" == Value.builtin "object.__getattribute__") = false := by decide +kernel
  have hx1 : (onTheHeap (Value.ref D) && Value.builtin "BaseException.__getattribute__" == Value.builtin "object.__getattribute__") = false := by rw [hx2]; rfl
  unfold getAttr? getAttrBy? getAttrBy
  refine wpAny_bind (wpAny_mkText (wpAny_bind (wpAny_attempt (wpAny_holding (wpAny_bind (L0.at (wpAny_bind (L1.at ?_))))))))
  show wpAny _ _ (if (onTheHeap (Value.ref D) && Value.builtin "BaseException.__getattribute__" == Value.builtin "object.__getattribute__") = true then _ else _) _ _ _
  rw [hx1, if_neg Bool.false_ne_true]
  unfold getAttrByItsOwn hookBefore
  refine wpAny_bind ?_
  rw [if_pos (show onTheHeap (Value.ref D) = true from rfl)]
  refine L2.at ?_
  refine wpAny_bind (wpAny_attempt (wpAny_holding ?_))
  unfold callGetattribute
  rw [hx0, if_neg Bool.false_ne_true]
  unfold boundAndCalled
  rw [PySem.F.excAttr_ValueError.ga.bind (.ref x)]
  refine wpAny_bind (wpAny_pure ?_)
  show wpAny _ _ (call (.builtin "BaseException.__getattribute__") [.ref x, .str "__class__" t]) _ _ _
  refine wpAny_call (codeAny_call_builtin PySem.F.excAttr_ValueError.ga.plain PySem.F.entry_bexc_ga ?_)
  refine @check_slot (model prog w) _ _ ⟨hp, g, d, t + 1, os⟩ "BaseException.__getattribute__" "BaseException" "__getattribute__" (.ref x) [.str "__class__" t] [] _ (by decide +kernel) (by decide +kernel) sub (PySem.F.args_bexc_ga (.ref x) (.str "__class__" t)) ?_
  unfold Builtin.«object.__getattribute__»
  refine wpAny_bind (wpAny_of_eq (a := ((Value.ref x : Value), [Value.str "__class__" t])) (by first | rfl | (simp only [slotArgs]; rfl)) ?_)
  refine wpAny_bind (wpAny_pure (wpAny_bind (L0.at (wpAny_bind (L3.at ?_)))))
  show wpAny _ _ (holding [Value.builtin "object.__class__"] (call (.builtin "getset_descriptor.__get__") [.builtin "object.__class__", .ref x, .ref D]) >>= ret) _ _ _
  refine wpAny_bind (wpAny_holding (wpAny_call (class_get (s := ⟨hp, g, d, t + 1, os⟩) (ox := ox) (od := od) X I hm ?_)))
  refine wpAny_pure ?_
  show wpAny _ _ (handedOut (.ref D)) _ _ _
  rw [handedOut_of (v := .ref D) rfl]
  first
    | exact wpAny_pure (wpAny_pure h)
    | exact wpAny_pure h
    | exact wpAny_pure (wpAny_bind (wpAny_pure (wpAny_pure h)))
theorem kitx_excV (hga : findIn K (.ref D) "__getattribute__" = some (some (.builtin "BaseException.__getattribute__"))) (hgt : findIn K (.ref D) "__getattr__" = some none) (hsub : subIn K (.ref D) (.type "BaseException") = some true) (hdct : hasDictIn K D = true) (ha : findIn K (.ref D) "__class__" = some (some (.builtin "object.__class__")))
    (hn : specialIn K (.builtin "object.__class__") "__get__" = some (some (.builtin "getset_descriptor.__get__"))) (htk : takesIn K (.builtin "object.__class__") = some true) (hm : mroIn K D (.type "object") = some true) :
    KitX K (.ref x) (.ref D) (fun h => InstAt h x ox D od) where
  ty := fun _ _ _ I => I.type
  it := fun _ _ X _ => by
    obtain ⟨cdD, hcD, _⟩ := any_some hdct
    unfold clsIn at hcD
    split at hcD
    · rename_i c' d' cd' sl' ho
      intro A' Q' E' s' k q
      unfold isType loadHead
      exact wpAny_bind (wpAny_loadPart (k _ _ (X _ _ ho)) (wpAny_pure q))
    · cases hcD
  ne := fun h tp dd its n sl X htp => by
    obtain ⟨cdD, hcD, _⟩ := any_some hdct
    refine Bool.eq_false_iff.mpr fun q => ?_
    have e : D = tp := Value.ref.inj (beq_iff_eq.mp q)
    subst e
    unfold clsIn at hcD
    split at hcD
    · rename_i c' d' cd' sl' ho
      have z := (X _ _ ho).symm.trans htp
      cases z
    · cases hcD
  ca := fun X I k => kin_classV hga hgt hsub hdct ha hn htk hm X I k
end
end PySem.W
namespace Gs
open PySem PySem.Spec PyProof.Rows L2
/-- at a: an exception of the class cls that was caught, its dict d -/
def exv (a : Addr) (cls : Value) (d : Option Addr) : HO := .ext fun h => ∃ ob, h.get? a = some ob ∧ Zc cls d ob ∧ ∃ vs, ob.data = .fields vs
theorem exv_ok {P : Program} {w : World} {H : Hp} {h : Heap} {a : Addr} {cls : Value} {d : Option Addr} {ob : Obj} (e : h.get? a = some ob) (z : Zc cls d ob) (f : ∃ vs, ob.data = .fields vs) : ObjOk P w H h a (exv a cls d) :=
  ⟨⟨ob, e, z, f⟩, ⟨_, e⟩, fun h1 h2 y k => by obtain ⟨o, q, r⟩ := y; exact ⟨o, k _ q, r⟩⟩
/-- an exception of the class at C, its dict: made or caught -/
def ExA (H : Hp) (a C : Addr) (d : Option Addr) : Prop := H a = some (exv a (.ref C) d) ∨ H a = some (exo a C d)
def ExD (H : Hp) (dd : Addr) (fs : List (Str × V)) : Prop := H dd = some (.xd fs) ∨ H dd = some (exd dd fs)
/-- an exception with its fields, or without any -/
def ExI (H : Hp) (a C : Addr) (fs : Option (List (Str × V))) : Prop := match fs with
  | none => ExA H a C none
  | some l => ∃ dd, ExA H a C (some dd) ∧ ExD H dd l
theorem ExA.same {H H' : Hp} {a C : Addr} {d : Option Addr} (h : ExA H a C d) (e : Same H H') : ExA H' a C d := h.elim (fun z => .inl (e _ _ z)) fun z => .inr (e _ _ z)
theorem ExD.same {H H' : Hp} {a : Addr} {d : List (Str × V)} (h : ExD H a d) (e : Same H H') : ExD H' a d := h.elim (fun z => .inl (e _ _ z)) fun z => .inr (e _ _ z)
theorem ExI.same {H H' : Hp} {a C : Addr} {fs : Option (List (Str × V))} (h : ExI H a C fs) (e : Same H H') : ExI H' a C fs := by
  cases fs with
  | none => exact ExA.same h e
  | some l => obtain ⟨dd, x, y⟩ := h; exact ⟨dd, x.same e, y.same e⟩
/-- two heaps that agree on what is no list, no tuple, no dict, no instance: exceptions stay -/
def SameX (H H' : Hp) : Prop := ∀ b (φ : Heap → Prop), H b = some (.ext φ) → H' b = some (.ext φ)
def SameD (H H' : Hp) : Prop := ∀ b fs, H b = some (.xd fs) → H' b = some (.xd fs)
theorem ExI.ext {H H' : Hp} {a C : Addr} {fs : Option (List (Str × V))} (h : ExI H a C fs) (e : SameX H H') (e2 : SameD H H') : ExI H' a C fs := by
  have x : ∀ {d}, ExA H a C d → ExA H' a C d := fun z => z.elim (fun z => .inl (e _ _ z)) fun z => .inr (e _ _ z)
  cases fs with
  | none => exact x h
  | some l =>
    obtain ⟨dd, y, z⟩ := h
    exact ⟨dd, x y, z.elim (fun z => .inl (e2 _ _ z)) fun z => .inr (e _ _ z)⟩
section
variable {X : Cx} {pins : List (Addr × Obj)} {σ : L2.St} {H : Hp} {s : Shared}
theorem ExA.at_ {a C : Addr} {d : Option Addr} (I : Inv X pins σ H s) (h : ExA H a C d) : ∃ ob, s.heap.get? a = some ob ∧ Zc (.ref C) d ob ∧ ∃ vs, ob.data = .fields vs := by
  rcases h with h | h
  · have x : ObjOk X.prog X.w H s.heap a (exv a (.ref C) d) := I.hok _ _ h
    exact x.1
  · obtain ⟨t1, e⟩ := exo_at I.hok h
    exact ⟨_, e, ⟨rfl, rfl⟩, _, rfl⟩
theorem ExD.at_ {dd : Addr} {fs : List (Str × V)} (I : Inv X pins σ H s) (h : ExD H dd fs) : ∃ mA, s.heap.Ns1 dd mA ∧ ∀ f, RelO (fs.lookup f) (mA f) := by
  rcases h with h | h
  · have x : ObjOk X.prog X.w H s.heap dd (.xd fs) := I.hok _ _ h
    exact x
  · exact exd_at I.hok h
theorem ExI.inst {a C : Addr} {fs : Option (List (Str × V))} (I : Inv X pins σ H s) (h : ExI H a C fs) : ∃ ob od, PySem.W.InstAt s.heap a ob C od := by
  cases fs with
  | none =>
    obtain ⟨ob, e, ⟨z1, z2⟩, vs, hd⟩ := ExA.at_ I h
    exact ⟨ob, none, e, z1, by unfold PySem.W.notCls; rw [hd] <;> rfl, by rw [z2] <;> trivial⟩
  | some l =>
    obtain ⟨dd, h1, h2⟩ := h
    obtain ⟨ob, e, ⟨z1, z2⟩, vs, hd⟩ := h1.at_ I
    obtain ⟨mA, hns, _⟩ := h2.at_ I
    obtain ⟨od, ho, _⟩ := lookIn_ns hns
    exact ⟨ob, some od, e, z1, by unfold PySem.W.notCls; rw [hd] <;> rfl, by rw [z2]; exact ho⟩
/-- e.f -/
def tFv (K : PySem.W.Frag) (f : Str) (te : TE) : TE := fun σ H Q => te σ H fun x H1 => ∃ (a C : Addr) (fs : List (Str × V)) (v : V), x = .ref a ∧ XfC K C ∧ PySem.W.findIn K (.ref C) f = some none ∧ ExI H1 a C (some fs) ∧ fs.lookup f = some v ∧ Q v H1
theorem pe_fv {e : Expr} {te : TE} {pos : Pos} {n : Str} (he : PE X e te) (hb : attributeBase e n X.env (eval e X.env) = eval e X.env := by rfl) : PE X (.Attribute e n pos) (tFv X.K n te) := by
  refine ⟨fun pins s σ H Q I h => ?_⟩
  refine attr_of hb (thn (he.run pins s σ H _ I h) fun u s1 hh => ?_)
  obtain ⟨x, H1, I1, rx, a, C, fs, v, ex, T, hno, ⟨dd, h1, h2⟩, l, q⟩ := hh
  subst ex
  obtain rfl : u = Value.ref a := rx
  obtain ⟨ob, e, ⟨z1, z2⟩, vs, hd⟩ := h1.at_ I1
  obtain ⟨mA, hns, hr⟩ := h2.at_ I1
  obtain ⟨od, ho, hl⟩ := lookIn_ns hns
  obtain ⟨u, hu, ru⟩ := RelO.some_of (v := v) (o := mA n) (by rw [← l]; exact hr n)
  have J : PySem.W.InstAt s1.heap a ob C (some od) := ⟨e, z1, by unfold PySem.W.notCls; rw [hd] <;> rfl, by rw [z2]; exact ho⟩
  exact HandSPX.exc_get I1.kIn J T.ga T.gg T.exC (PySem.W.findObj_own T.hdC hno rfl (by rw [hl, hu])) (handed_of ru) ⟨v, H1, I1.tok _, ru, q⟩
/-- isinstance(e, c) -/
def rIsV (K : PySem.W.Frag) : List V → Hp → VK → Prop := fun xs H Q => ∃ (a C : Addr) (fs : Option (List (Str × V))) (c : V) (u : Value) (b : Bool), xs = [.ref a, c] ∧ ExI H a C fs ∧ ExcC K C ∧ ClsV c u ∧ PySem.W.kitOne K (.ref C) u = some b ∧ Q (.bl b) H
theorem call_isV : CallR X (.builtin "isinstance") (rIsV X.K) := by
  intro pins s σ H xs us Q I r h
  obtain ⟨a, C, fs, c, u, b, rfl, hi, Z, k, e, q⟩ := h
  obtain ⟨u1, u2, rfl, r1, r2⟩ := vals2 r
  cases (show u1 = Value.ref a from r1)
  have e2 := k.eq r2
  subst e2
  obtain ⟨ob, od, J⟩ := hi.inst I
  exact PySem.W.kia_one (PySem.W.kitx_excV Z.hg Z.hk Z.hs Z.hd Z.ha Z.hn Z.ht Z.hm) I.kIn J e (fun z => nomatch z) fun tk => ⟨.bl b, H, I.tok tk, rfl, q⟩
/-- isinstance(e, (c, ..)) -/
def rIsVT (K : PySem.W.Frag) : List V → Hp → VK → Prop := fun xs H Q => ∃ (a C : Addr) (fs : Option (List (Str × V))) (tp : Addr) (cs : List V) (us : List Value) (b : Bool), xs = [.ref a, .ref tp] ∧ ExI H a C fs ∧ ExcC K C ∧ H tp = some (.tup cs) ∧ Paired ClsV cs us ∧
  PySem.W.kitAny K (.ref C) us = some b ∧ Q (.bl b) H
theorem call_isVT : CallR X (.builtin "isinstance") (rIsVT X.K) := by
  intro pins s σ H xs us Q I r h
  obtain ⟨a, C, fs, tp, cs, ws, b, rfl, hi, Z, hT, k, e, q⟩ := h
  obtain ⟨u1, u2, rfl, r1, r2⟩ := vals2 r
  cases (show u1 = Value.ref a from r1)
  cases (show u2 = Value.ref tp from r2)
  obtain ⟨ob, od, J⟩ := hi.inst I
  obtain ⟨_, its, rv, o, h1, h2, n, h3⟩ := (show ObjOk X.prog X.w H s.heap tp (.tup cs) from I.hok tp _ hT)
  have e3 := ClsV.all k rv
  subst e3
  obtain ⟨oc, od', dt, sl⟩ := o
  simp only at h2 h3
  subst h2 h3
  exact PySem.W.kia_tup (PySem.W.kitx_excV Z.hg Z.hk Z.hs Z.hd Z.ha Z.hn Z.ht Z.hm) I.kIn J h1 e (fun z => nomatch z) fun tk => ⟨.bl b, H, I.tok tk, rfl, q⟩
end
/-! ### C(e, ..), C(k = v, ..) as a value -/
def tMkV (C : Addr) (sp : Sp) (ta : TA) : TE := fun σ H Q => ta σ H fun vs H1 => vs.length ≤ 1000 ∧ ∀ a, H1 a = none → sp (.ref a :: vs) (upd H1 a (exo a C none)) (fun v H2 => v = .non ∧ Q (.ref a) H2) (fun _ _ _ => False)
def tMkVK (C : Addr) (sp : Sp) (gV : List V → List V → List V) (m : Nat) (tk : TA) : TE := fun σ H Q => tk σ H fun zs H1 => zs.length = m ∧ ∀ a, H1 a = none → sp (gV [.ref a] zs) (upd H1 a (exo a C none)) (fun v H2 => v = .non ∧ Q (.ref a) H2) (fun _ _ _ => False)
section
variable {X : Cx} {CX : CXT} {x : Str} {C fI : Addr} {k : Nat} {fd : FuncData} {ps ks : List Str} {sp : Sp} {p pos : Pos} {e : Expr} {es : List Expr} {kws : List Keyword} {t tk : TA} {g : List Value → List Value → List Value} {gV : List V → List V → List V}
theorem run_exv {pins : List (Addr × Obj)} {σ : L2.St} {H : Hp} {s : Shared} {Q : VK} {us : List Value} {kw : List (Str × Value)} {all : Addr → List V} {alls : Value → List Value} (T : OexC X.K C) (iC : PySem.W.findIn X.K (.ref C) "__init__" = some (some (.ref fI))) (tI : PySem.W.typeIn X.K (.ref fI) = some (.type "function"))
    (F1 : FnOk X.prog X.w X.K X.mg X.base CX k fI fd ps sp) (hr : Room (k + 1) X.A) (hx : Passes CX X (fun _ _ _ => False)) (I : Inv X pins σ H s) (hus : us.length ≤ sizeLine)
    (hb : ∀ (s : Shared) (a : Addr), X.K.In s.heap → BindsTo s fd ⟨.ref a :: us, kw⟩ (ps.zip (alls (.ref a)))) (hv : ∀ a, Vals (all a) (alls (.ref a)))
    (h : ∀ a, H a = none → sp (all a) (upd H a (exo a C none)) (fun v H2 => v = .non ∧ Q (.ref a) H2) (fun _ _ _ => False)) :
    wpAny (model X.prog X.w) X.A (call (.ref C) us kw) (EP X pins σ Q) X.xe s := by
  obtain ⟨nm, q, N, bs, bm, sn, sub, ab, col, dd, k0, k1, k2, k3, k5, hC, hbm⟩ := T.cls
  obtain ⟨hp, gg, dr, tk, os⟩ := s
  have hsz : hp.objs.size ≤ hp.objs.size + 1 := Nat.le_succ _
  have hn : H (hp.objs.size + 1) = none := I.hok.fresh hsz
  have hq := h (hp.objs.size + 1) hn
  have kk : ∀ b o, hp.get? b = some o → ((hp.push (PySem.W.kdv_tup us)).push (PySem.HandSPX.excO C hp.objs.size)).get? b = some o := fun b o e => Heap.get?_push_of_some _ (Heap.get?_push_of_some _ e)
  have hget : ((hp.push (PySem.W.kdv_tup us)).push (PySem.HandSPX.excO C hp.objs.size)).get? (hp.objs.size + 1) = some (PySem.HandSPX.excO C hp.objs.size) := by heap_get
  have I2 : Inv X pins σ (upd H (hp.objs.size + 1) (exo (hp.objs.size + 1) C none)) ⟨(hp.push (PySem.W.kdv_tup us)).push (PySem.HandSPX.excO C hp.objs.size), gg, dr, tk, os⟩ :=
    I.laid (t' := tk) (a := hp.objs.size + 1) (o := exo (hp.objs.size + 1) C none) (h' := (hp.push (PySem.W.kdv_tup us)).push (PySem.HandSPX.excO C hp.objs.size)) kk hsz (exo_ok hget)
  refine wpAny_call (PySem.HandSPK.call_ownK F.excBase_ValueError (fun Y => PySem.HandSPX.refsVE_contains Y bm hbm) (I.kIn _ _ hC) (PySem.W.looks_findIn I.kIn iC) (fun self => PySem.W.bind_fn I.kIn self tI) hus
    (codeAny_mono (F1.run _ X.stack _ _ ⟨Value.ref (hp.objs.size + 1) :: us, kw⟩ (alls (.ref (hp.objs.size + 1))) _ _ (fun _ _ _ => False) (hr.make C us kw) (I2.env0.make C us kw) (hb _ _ I2.kIn) (hv _) hq) fun r s' hq' => ?_))
  cases r with
  | error er => exact hx pins σ _ _ er s' I2 hq'
  | ok fl =>
    cases fl with
    | ret u =>
      obtain ⟨v, H', I3, rv, ev, q3⟩ := I2.after hq'
      subst ev
      exact ⟨rv, ⟨V.ref (hp.objs.size + 1), H', I3, rfl, q3⟩⟩
    | next => exact False.elim hq'
    | brk => exact False.elim hq'
    | cont => exact False.elim hq'
theorem pe_exv (T : OexC X.K C) (iC : PySem.W.findIn X.K (.ref C) "__init__" = some (some (.ref fI))) (tI : PySem.W.typeIn X.K (.ref fI) = some (.type "function"))
    (F1 : FnOk X.prog X.w X.K X.mg X.base CX k fI fd ps sp) (hr : Room (k + 1) X.A) (hb : Binds X.K fd ps []) (hx : Passes CX X (fun _ _ _ => False)) (hg : Gl X x) (hm : X.mg x = some (.ref C)) (ha : PA X (e :: es) t)
    (hdb : (x == ("__debug__" : Str)) = false := by decide) (he : starEach (e :: es) X.env = (false, eval e X.env) :: starEach es X.env := by rfl) (hpl : (backTo pos (starEach es X.env)).any (·.1) = false := by rfl) :
    PE X (.Call (.Name x p) (e :: es) [] pos) (tMkV C sp t) := by
  refine ⟨fun pins s σ H Q I h => ?_⟩
  refine wpAny_Call_Name_kw (ld_glob I hg hm ?_ hdb)
  refine PySem.W.callWith_K (h₀ := X.base) I.ok.mod.kin T.kC (thn (ha.run pos pins s σ H _ I h) fun us s1 ⟨vs, H1, I1, r1, hz, q1⟩ => ⟨I1.kIn, ?_⟩) he hpl
  have hus : us.length ≤ sizeLine := by
    rw [← Paired.length r1, sizeLine_eq]
    omega
  have hl : (us.length + 1) = ps.length := by
    have z := F1.len _ _ _ _ (q1 _ (I1.hok.fresh (Nat.le_refl s1.heap.objs.size)))
    rw [← z, List.length_cons, r1.length]
  refine run_exv (kw := []) (all := fun a => .ref a :: vs) (alls := fun a => a :: us) T iC tI F1 hr hx I1 hus (fun s a kin => ?_) (fun a => .cons rfl r1) q1
  have b := hb s (.ref a :: us) kin (by rw [List.append_nil]; exact hl)
  rw [List.append_nil] at b
  exact b
theorem pe_exv0 (T : OexC X.K C) (iC : PySem.W.findIn X.K (.ref C) "__init__" = some (some (.ref fI))) (tI : PySem.W.typeIn X.K (.ref fI) = some (.type "function"))
    (F1 : FnOk X.prog X.w X.K X.mg X.base CX k fI fd ps sp) (hr : Room (k + 1) X.A) (hb : Binds X.K fd ps []) (hx : Passes CX X (fun _ _ _ => False)) (hg : Gl X x) (hm : X.mg x = some (.ref C))
    (hdb : (x == ("__debug__" : Str)) = false := by decide) : PE X (.Call (.Name x p) [] [] pos) (tMkV C sp tNil) := by
  refine ⟨fun pins s σ H Q I h => ?_⟩
  refine wpAny_Call_Name_kw (ld_glob I hg hm ?_ hdb)
  have h : ([] : List V).length ≤ 1000 ∧ ∀ a, H a = none → sp (.ref a :: []) (upd H a (exo a C none)) (fun v H2 => v = .non ∧ Q (.ref a) H2) (fun _ _ _ => False) := h
  refine PySem.W.callWith_K0 I.kIn T.kC ?_
  have hl : 1 = ps.length := (F1.len _ _ _ _ (h.2 _ (I.hok.fresh (Nat.le_refl s.heap.objs.size)))).symm ▸ rfl
  refine run_exv (kw := []) (us := []) (all := fun a => [.ref a]) (alls := fun a => [a]) T iC tI F1 hr hx I (Nat.zero_le _) (fun s a kin => ?_) (fun a => .cons rfl .nil) h.2
  have b := hb s [.ref a] kin (by rw [List.append_nil]; exact hl)
  rw [List.append_nil] at b
  exact b
theorem pe_exvK (T : OexC X.K C) (iC : PySem.W.findIn X.K (.ref C) "__init__" = some (some (.ref fI))) (tI : PySem.W.typeIn X.K (.ref fI) = some (.type "function"))
    (F1 : FnOk X.prog X.w X.K X.mg X.base CX k fI fd ps sp) (hr : Room (k + 1) X.A) (hb : KB X.K fd ps ks 1 g gV) (hx : Passes CX X (fun _ _ _ => False)) (hg : Gl X x) (hm : X.mg x = some (.ref C)) (hkw : PK X kws tk)
    (hall : (backToKw pos (keywordEach kws X.env)).all (·.1.isSome) = true := by rfl)
    (hks : (backToKw pos (keywordEach kws X.env)).filterMap (·.1) = ks := by rfl) (hdb : (x == ("__debug__" : Str)) = false := by decide)
    (hpl : ((backTo pos (starEach [] X.env)).any (·.1) || (backToKw pos (keywordEach kws X.env)).any (·.1.isNone)) = false := by rfl) :
    PE X (.Call (.Name x p) [] kws pos) (tMkVK C sp gV ks.length tk) := by
  refine ⟨fun pins s σ H Q I h => ?_⟩
  refine wpAny_Call_Name_kw (ld_glob I hg hm ?_ hdb)
  refine PySem.W.callWith_KW0 (h₀ := X.base) I.ok.mod.kin T.kC hall ?_ hpl
  refine thn (hkw.run pos pins s σ H _ I h) fun ws s2 ⟨zs, H2, I2, rz, l1, l2⟩ => ⟨I2.kIn, ?_⟩
  rw [hks]
  exact run_exv (us := []) (kw := ks.zip ws) (all := fun a => gV [.ref a] zs) (alls := fun a => g [a] ws) T iC tI F1 hr hx I2 (Nat.zero_le _) (fun s a kin => hb.to s [.ref a] ws kin rfl (rz.length.symm.trans l1)) (fun a => hb.rel (vs := [.ref a]) rfl l1 (.cons rfl .nil) rz) l2
end
end Gs

set_option Elab.async false
set_option linter.all false
set_option maxRecDepth 100000
set_option maxHeartbeats 4000000
/-! Layer G17: an exception that is caught and kept; an own class's __init__ that is ValueError's. -/
namespace Gs
open PySem PySem.Spec PyProof.Rows L2
section
variable {X : Cx} {pins : List (Addr × Obj)} {σ : L2.St} {H : Hp} {s : Shared} {D : Ends}
theorem ext_own {φ : Heap → Prop} {x : Addr} : HO.ext φ ≠ .own x := fun z => nomatch z
/-- what was pinned is tracked from now on -/
theorem inv_track {a : Addr} {ob : Obj} {u : HO} (I : Inv X ((a, ob) :: pins) σ H s) (hx : X.ex = []) (hn : X.s_0.heap.get? a = none) (hp : ∀ p ∈ X.pn ++ pins, p.1 ≠ a) (ok : ObjOk X.prog X.w (upd H a u) s.heap a u) : Inv X pins σ (upd H a u) s := by
  obtain ⟨q1, q2, q3, q4, q5⟩ := I.pin (a, ob) (List.mem_append_right _ List.mem_cons_self)
  have q1 : s.heap.get? a = some ob := q1
  have q2 : H a = none := q2
  have q3 : a ≠ X.env.locals := q3
  have q5 : ∀ v, ob.data ≠ .cell v := q5
  refine ⟨I.ok, I.os, I.bare, ?_, I.loc, I.cell, ?_, fun x c e => ?_, fun p hm => ?_, fun b o e => ?_, I.len⟩
  · refine ⟨I.base.keep, I.base.slot, fun b o e n hb => ?_, I.base.there, fun b xs e => ?_, fun b o v e => ?_, fun b ps e => ?_⟩
    · have nb : b ≠ a := fun z => by rw [z, hn] at e; cases e
      rw [upd_ne nb]; exact I.base.free b o e n hb
    · have z := I.base.tups b xs e
      rw [upd_ne (ne_of_none z q2)]; exact z
    · have z := I.base.frzs b o v e
      rw [upd_ne (ne_of_none z q2)]; exact z
    · obtain ⟨m, z⟩ := I.base.tbls b ps e
      exact ⟨m, by rw [upd_ne (ne_of_none z q2)]; exact z⟩
  · rw [upd_ne (Ne.symm q3)]; exact I.free
  · have nc : c ≠ a := fun z => by
      obtain ⟨v, hv⟩ := I.cell x c e
      obtain ⟨o, e1, e2⟩ := hv
      rw [z, q1] at e1; cases e1
      exact q5 _ e2
    rw [upd_ne nc]; exact I.freeC x c e
  · have hm' : p ∈ X.pn ++ (a, ob) :: pins := (List.mem_append.mp hm).elim (fun z => List.mem_append_left _ z) fun z => List.mem_append_right _ (List.mem_cons_of_mem _ z)
    obtain ⟨r1, r2, r3, r4, r5⟩ := I.pin p hm'
    exact ⟨r1, by rw [upd_ne (hp p hm)]; exact r2, r3, r4, r5⟩
  · by_cases hb : b = a
    · subst hb
      rw [upd_same] at e; cases e
      exact ok
    · rw [upd_ne hb] at e
      exact (I.hok b o e).stay (fun c v _ r => r) (fun c r => by rw [upd_ne (ne_of_none r q2)]; exact r) fun c xs r => by rw [upd_ne (ne_of_none r q2)]; exact r
/-- what the clause wishes: n slots, i that of the name -/
def oneK (n : Nat) (K : PySem.W.Frag) (c : Value) (i : Nat) (ts : Addr → Value → Option Addr → TS) : Catch := fun D W cls d σ H => ∃ b, PySem.W.exmOne K cls c = some b ∧
  (b = true → σ.length = n → ∀ a, H a = none → ts a cls d { nx := fun σ' H' => D.nx (σ'.set i none) (upd H' a (exv a cls d)), rt := fun v H' => D.rt v (upd H' a (exv a cls d)), bk := fun σ' H' => D.bk (σ'.set i none) (upd H' a (exv a cls d)), ct := fun σ' H' => D.ct (σ'.set i none) (upd H' a (exv a cls d)) } (σ.set i (some (.ref a))) H) ∧ (b = false → W cls d σ H)
/-- try: body, except .. as ..: .., the exception kept -/
theorem ps_tryK {body : List Stmt} {pos : Pos} {tb : WX → TS} {W₀ : WX} {x n : Str} {i : Nat} {c : Value} {ts : Addr → Value → Option Addr → TS} {b₀ : Stmt} {su : List Stmt} {q q' : Pos} (hs : X.stack = X.env :: X.outer) (hf : X.env.frame = some X.env.locals) (hex : X.ex = []) (tk : Takes X W₀)
    (hb : ∀ (W : WX) (pn : List (Addr × Obj)) (xe : Value → Shared → Prop), Takes (X.tr pn xe) W → PassesOwn (model X.prog X.w) X.A X.env xe → PSs (X.tr pn xe) body (tb W))
    (nc : Names X x c) (hN : X.N.Nodup) (hi : X.N[i]? = some n) (ln : X.env.kindOf n = some .local)
    (hsu : ∀ (a : Addr) (ob : Obj) (cls : Value) (d : Option Addr) (pn : List (Addr × Obj)), Zc cls d ob → (∃ vs, ob.data = .fields vs) → PSs (X.suite a ((a, ob) :: pn)) (b₀ :: su) (ts a cls d)) :
    PS X (.Try body [.ExceptHandler (some (.Name x q)) (some n) (b₀ :: su) q'] [] [] pos) (fun D σ H => tb (oneK X.N.length X.K c i ts D W₀) D σ H) := by
  refine ⟨fun pins s σ H D I h => ?_⟩
  have ok := I.ok
  have frm : X.A.frames = some (X.env :: X.outer) := by rw [ok.frames, hs]
  refine wpAny_Try_except (wpAny_mono ((hb (oneK X.N.length X.K c i ts D W₀) (X.pn ++ pins) (fun e s₁ => wpAny (model X.prog X.w) X.A (noteFrame e X.env) (fun _ s₂ => wpAny (model X.prog X.w) X.A (setFlight e none)
    (fun _ s₃ => wpAny (model X.prog X.w) X.A (handleBy e X.env [.ExceptHandler (some (.Name x q)) (some n) (b₀ :: su) q']) (SP X pins D) X.xe s₃) X.xe s₂) X.xe s₁) (fun u s₁ caught => ?_) PassesOwn.looking).run [] s σ H D (I.toTry _) h) (fun f s₁ hsp => ?_) (fun _ _ z => z))
  rotate_left
  · cases f with
    | next => obtain ⟨σ', H', J, z⟩ := hsp; exact wpAny_execs_nil ⟨σ', H', J.ofTry ok, z⟩
    | brk => obtain ⟨σ', H', J, z⟩ := hsp; exact ⟨σ', H', J.ofTry ok, z⟩
    | cont => obtain ⟨σ', H', J, z⟩ := hsp; exact ⟨σ', H', J.ofTry ok, z⟩
    | ret u => obtain ⟨v, σ', H', J, rv, z⟩ := hsp; exact ⟨v, σ', H', J.ofTry ok, rv, z⟩
  obtain ⟨a, B, sI, pins', σ', H', cls, d, rfl, J', nb, up, sky, na, os, ag, wish⟩ := caught
  have J : Inv X pins σ' H' sI := J'.ofTry ok
  have sky : Sky B (X.env :: X.outer) a (Zc cls d) X.env.locals s₁.heap := by rw [← hs]; exact sky
  show wpAny (model X.prog X.w) X.A (noteFrame (.ref a) X.env) _ _ _
  refine Sky.land Zc.steady frm hf sky fun h₃ fl up₃ => ?_
  have up₃ := up.trans up₃
  obtain ⟨ob, vs, hob, hz, hd⟩ := fl.there
  have apart : ∀ {g : Heap} {o : Obj} {us : Array Value}, g.FunFrames B (X.env :: X.outer) → g.get? a = some o → o.data = .fields us → a ∉ frs (X.env :: X.outer) := by
    intro g o us ff e de hm
    obtain ⟨_, o', e', no⟩ := ff.mem hm
    rw [e] at e'
    cases e'
    exact no _ de
  have nfr := apart fl.2.2.1 hob hd
  have nL : a ≠ X.env.locals := fun z => nfr (List.mem_filterMap.mpr ⟨X.env, List.mem_cons_self, by rw [hf, z]⟩)
  have nF : a ∉ X.fs := fun hm => by
    obtain ⟨e, he, z⟩ := List.mem_filterMap.mp hm
    exact nfr (List.mem_filterMap.mpr ⟨e, List.mem_cons_of_mem _ he, z⟩)
  -- the exception is new
  have nI : sI.heap.get? a = none := by
    cases e : sI.heap.get? a with
    | none => rfl
    | some o =>
      have z := nb a o e (by rw [hs]; exact nfr)
      rw [fl.2.1] at z; cases z
  have n0 : X.s_0.heap.get? a = none := by
    cases e : X.s_0.heap.get? a with
    | none => rfl
    | some o =>
      obtain ⟨o', z⟩ := J.base.there a o e (by rw [hex]; exact List.not_mem_nil)
      rw [nI] at z; cases z
  have np : ∀ p ∈ X.pn ++ pins, p.1 ≠ a := fun p hp z => by
    have y := (J.pin p hp).1
    rw [z, nI] at y; cases y
  have J₃ : Inv X pins σ' H' { s₁ with heap := h₃ } := J.landed nb fl.1 up₃ os ag
  have S₃ := J₃.suite hob hd na nL nF
  have looks : PySem.W.Looks (model X.prog X.w) h₃ (typeOf (.ref a)) cls := fun A Q E s k z => wpAny_typeOf_ref (k _ _ hob) (by rw [hz.1]; exact z)
  -- the class that a clause names
  have named : ∀ {x : Str} {c : Value} {q : Pos} {Q : Value → Shared → Prop} {E : Value → Shared → Prop}, Names X x c → Q c { s₁ with heap := h₃ } →
      wpAny (model X.prog X.w) (X.A.mark (some (.ref a))) (eval (.Name x q) X.env) Q E { s₁ with heap := h₃ } := by
    intro x c q Q E nc hq
    obtain ⟨hg, dbg, m | ⟨m, boot, nn⟩⟩ := nc
    · exact ld_glob (X := X.suite a ((a, ob) :: (X.pn ++ pins))) S₃ hg m hq dbg
    · exact ld_blt (X := X.suite a ((a, ob) :: (X.pn ++ pins))) S₃ hg m boot hq nn dbg
  obtain ⟨b, hb1, yes, no⟩ := wish
  refine wpAny_handleBy_cons (codeAny_handlers_test ?_) (by intro z; cases z)
  refine named nc ((PySem.W.exm_one (M := model X.prog X.w) J₃.kIn looks hb1).here ?_)
  cases b with
  | false =>
    have wish := no rfl
    refine wpAny_handleBy_nil ?_
    obtain ⟨_, _, _, oe, us, T, oT, ts', he, _, hde, h1, _⟩ := id fl
    unfold PySem.passOn
    refine wpAny_bind (wpAny_field he hde h1 ?_)
    rw [if_neg (by simp)]
    have fin : wpAny (model X.prog X.w) X.A (setFlight (.ref a) X.env.frame) (fun _ s₄ => wpAny (model X.prog X.w) X.A (throw (.ref a) : Sem Flow) (SP X pins D) X.xe s₄) X.xe { s₁ with heap := h₃ } := by
      rw [hf]
      refine HandSPX.setFlight_upZ fl fun h₄ sk up₄ => wpAny_throw (tk _ _ ?_)
      exact ⟨a, B, sI, pins, σ', H', cls, d, rfl, J, nb, up₃.trans up₄, .inr (.inr (by rw [hs]; exact sk)), na, os, ag, wish⟩
    first
      | exact wpAny_bind (wpAny_pure (wpAny_bind fin))
      | exact wpAny_bind fin
  | true =>
    refine codeAny_handlers_suite_as ?_
    refine HandSPX.lands_againZ fl fun h₄ fl₄ up₄ => ?_
    obtain ⟨ob4, us4, e4, z4, d4⟩ := fl₄.there
    have J₄ : Inv X pins σ' H' { s₁ with heap := h₄ } := J.landed nb fl₄.1 (up₃.trans up₄) os ag
    have S₄ := J₄.suite e4 d4 na nL nF
    -- behind the suite: pinned, the name gone, then tracked
    have gone : ∀ {σ6 : L2.St} {H6 : Hp} {s6 : Shared} {Q : Shared → Prop}, Inv (X.suite a ((a, ob4) :: (X.pn ++ pins))) [] σ6 H6 s6 → (∀ s7, Inv X pins (σ6.set i none) (upd H6 a (exv a cls d)) s7 → Q s7) →
        wpAny (model X.prog X.w) X.A (do bindName X.env n .none; unbindBehindTheSuite X.env n q') (fun _ s7 => Q s7) X.xe s6 := by
      intro σ6 H6 s6 Q S6 hq
      have P6 : Inv X ((a, ob4) :: pins) σ6 H6 s6 := (S6.unsuite ok).pins_of fun p hp => by
        rcases List.mem_cons.mp hp with e | e
        · subst e
          exact S6.pin (a, ob4) (List.mem_append_left _ List.mem_cons_self)
        · exact (S6.unsuite ok).pin p (List.mem_append_right _ e)
      refine gone_ok P6 hN hi ln fun s7 J7 => hq s7 (inv_track J7 hex n0 np ?_)
      have e7 := (J7.pin (a, ob4) (List.mem_append_right _ List.mem_cons_self)).1
      exact exv_ok e7 z4 ⟨_, d4⟩
    refine store_ok (X := X.suite a ((a, ob4) :: (X.pn ++ pins))) (v := .ref a) S₄ hN hi (.inl ln) rfl (fun s5 S5 => ?_) (.inr ln)
    refine wpAny_mono ((hsu a ob4 cls d (X.pn ++ pins) z4 ⟨_, d4⟩).run [] s5 _ H' _ S5 (yes rfl J.len a na)) (fun f s6 hsp => ?_) (fun _ _ z => z.elim)
    cases f with
    | next => obtain ⟨σ6, H6, S6, z⟩ := hsp; exact gone S6 fun s7 J7 => ⟨_, _, J7, z⟩
    | brk => obtain ⟨σ6, H6, S6, z⟩ := hsp; exact gone S6 fun s7 J7 => ⟨_, _, J7, z⟩
    | cont => obtain ⟨σ6, H6, S6, z⟩ := hsp; exact gone S6 fun s7 J7 => ⟨_, _, J7, z⟩
    | ret u => obtain ⟨v, σ6, H6, S6, rv, z⟩ := hsp; exact gone S6 fun s7 J7 => ⟨_, _, _, J7, rv, z⟩
end
/-! ### B.__init__(self, ..), B an own class whose __init__ is ValueError's -/
structure BInit (K : PySem.W.Frag) (C : Addr) : Prop where
  rd : PySem.W.readsIn K C (.type "type") = true
  ga : PySem.W.specialIn K (.ref C) "__getattribute__" = some (some (.builtin "type.__getattribute__"))
  at_ : PySem.W.findCls K (.ref C) (.type "type") "__init__" = some (.val (.builtin "ValueError.__init__"))
theorem pe_finit {X : Cx} {x : Str} {C : Addr} {e : Expr} {es : List Expr} {ta : TA} {p1 p2 pos : Pos} {pl : Sem Bool} (hg : Gl X x) (hm : X.mg x = some (.ref C)) (Z : BInit X.K C) (ha : PA X (e :: es) ta) (hdb : (x == ("__debug__" : Str)) = false := by decide)
    (hc : eval (.Call (.Attribute (.Name x p1) "__init__" p2) (e :: es) [] pos) X.env = (do
      let ov ← eval (.Name x p1) X.env
      standAt p2.atName
      let (f, first) ← holding [ov] (getMethod ov "__init__" pl)
      callWith pos f first (backTo pos (starEach (e :: es) X.env)) (backToKw pos (keywordEach [] X.env))) := by rfl)
    (he : starEach (e :: es) X.env = (false, eval e X.env) :: starEach es X.env := by rfl) (hpl : (backTo pos (starEach es X.env)).any (·.1) = false := by rfl) :
    PE X (.Call (.Attribute (.Name x p1) "__init__" p2) (e :: es) [] pos) (tVeI X.K ta) := by
  refine ⟨fun pins s σ H Q I h => ?_⟩
  refine PySem.W.methodCall_KW (ld_glob I hg hm ?_ hdb) hc
  refine PySem.W.method_cls I.kIn Z.ga (PySem.W.cls_value I.kIn Z.rd Z.at_ rfl ?_)
  show wpAny _ _ (callWith pos (Value.builtin "ValueError.__init__") [] (backTo pos (starEach (e :: es) X.env)) []) _ _ _
  refine PyProof.Rows.callWith_method1 (thn (ha.run pos pins _ σ H _ (I.tok _) h) fun us s1 ⟨vs, H1, I1, r1, a, C, ws, ev, hl, T, ea, q⟩ => ?_) he hpl
  subst ev
  cases r1 with
  | @cons _ u0 _ ur ra rw' =>
    obtain rfl : u0 = Value.ref a := ra
    have hlen : ur.length ≤ sizeLine := by
      rw [← Paired.length rw', sizeLine_eq]
      omega
    exact oinit_ok T I1 ea hlen fun s' J => ⟨.non, H1, J, rfl, q⟩
end Gs

set_option Elab.async false
set_option linter.all false
set_option maxRecDepth 100000
set_option maxHeartbeats 4000000
/-! Layer G38: o.__class__.__name__ of an own instance; C.__init__(self, .., *rest) of an own class. -/
namespace PySem.W
open Lean Elab Tactic Meta PySem PySem.Calls PyProof.Rows Builtin Builtin.ObjectAttr Builtin.Getset_descriptor
section
variable {prog : Program} {w : World} {A : Around} {E : Value → Shared → Prop} {s : Shared} {K : Frag} {R : Result → Shared → Prop} {C : Addr}
/-- the name of the class at C stands in its third slot -/
def nameIn (K : Frag) (C : Addr) (nm : Str) : Bool := match K.lookup C with
  | some ⟨.type "type", _, .cls _, sl⟩ => (match sl.toList with
    | _ :: _ :: some (.str x _) :: _ => x == nm
    | _ => false)
  | _ => false
theorem nameIn_of {nm : Str} (e : nameIn K C nm = true) : ∃ d cd sl t, K.lookup C = some ⟨.type "type", d, .cls cd, sl⟩ ∧ sl[2]? = some (some (.str nm t)) := by
  unfold nameIn at e
  split at e
  · rename_i d cd sl hl
    split at e
    · rename_i o1 o2 x t rest hs
      obtain rfl : x = nm := beq_iff_eq.mp e
      exact ⟨d, cd, sl, t, hl, by rw [← Array.getElem?_toList, hs]; rfl⟩
    · cases e
  · cases e
theorem kcn_get {tp : Value} {nm : Str} {t : Tok} {d : Option Addr} {cd : ClassData} {sl : Array (Option Value)} (X : K.In s.heap) (hC : K.lookup C = some ⟨.type "type", d, .cls cd, sl⟩) (hs : sl[2]? = some (some (.str nm t)))
    (h : R (.ok (.ret (.str nm t))) s) : codeAny (model prog w) A (.call (.builtin "getset_descriptor.__get__") ⟨[.builtin "type.__name__", .ref C, tp], []⟩) R s := by
  have ho := X _ _ hC
  obtain ⟨hh, g, dr, tk, os⟩ := s
  have L0 : Looks (model prog w) hh (typeOf (.ref C)) (.type "type") := looks_typeIn X (by show (K.lookup C).map (·.cls) = _; rw [hC]; rfl)
  have L1 : Looks (model prog w) hh (isSubtype (.type "type") (.type "type")) true := Looks.of_pure (by rw [isSubtype_type]; kernel_rfl)
  refine codeAny_call_builtin KF.slot_gs.plain KF.entry_gs (KF.slot_gs.check _ _ _ _ _ _ _ _ ktyn_type (KF.args_gs _ _ _) ?_)
  unfold Builtin.«getset_descriptor.__get__» descrGet
  rw [dga_obj]
  refine wpAny_bind (wpAny_pure ?_)
  unfold descrGetter descrCheckInstance descrNameAndClass isInstance
  simp only [ktyn_owner]
  repeat lk
  refine ⟨Code.quiet_builtin _ (by decide +kernel), codeAny_builtin ktyn_entry ?_⟩
  unfold Builtin.«type.__name__»
  dsimp only
  unfold keptObject slotAt
  dsimp only
  refine wpAny_bind (wpAny_bind (wpAny_loadPart ho (wpAny_pure ?_)))
  dsimp only
  rw [hs]
  exact wpAny_pure h
theorem kbo_call {x : Addr} {Q : Value → Shared → Prop} (h : wpAny (model prog w) A.in1.in1 (truthy (.ref x)) (fun b s' => Q (.bool b) s') E s) : wpAny (model prog w) A (call (.type "bool") [.ref x]) Q E s := by
  refine callType_codes (T := "bool") (Bi := Builtin.«object.__init__») (Q₁ := fun r s₁ => ∃ b, r = .bool b ∧ Q r s₁) PySem.F.called_bool (PySem.F.typeCall_bool_1 _) PySem.F.entry_object_init ?_ ?_
  · refine codeAny_of_tree ?_
    show wpAny _ A.in1.in1 (do checkBuiltinCall "bool.__new__" ⟨[.type "bool", .ref x], []⟩; again (.builtin "bool.__new__" ⟨[.type "bool", .ref x], []⟩)) _ _ s
    refine wpAny_bind (wpAny_of_eq (PySem.F.newCall_bool_1 _) (wpAny_pure ⟨plainId_quiet (by decide +kernel) _, codeAny_builtin PySem.F.entry_bool_new ?_⟩))
    rw [Around.under_plainId (by decide +kernel) _]
    have f1 := PySem.F.conv_sub_bool
    unfold Builtin.«bool.__new__»
    refine wpAny_bind (m := truthy (.ref x)) (wpAny_mono h (fun b s₁ hq => wpAny_pure ?_) fun _ _ y => y)
    exact ⟨_, rfl, hq⟩
  · rintro obj s₁ ⟨b, rfl, hq⟩
    have hT : s₁.TypeIs (.bool b) "bool" := rfl
    exact ⟨hT, PySem.F.args_object_init_2 _ _, object_init_meets PySem.F.called_bool.init.lookup PySem.F.called_bool.made PySem.F.newNe_bool prog w A.in1 _ s₁ ⟨hT, rfl, hq⟩⟩
end
end PySem.W
namespace Gs
open PySem PySem.Spec PyProof.Rows L2
/-- what a class must have that o.__class__.__name__ of its instances is nm -/
structure CName (K : PySem.W.Frag) (C : Addr) (nm : Str) : Prop where
  nm : PySem.W.nameIn K C nm = true
  pg : PySem.W.plainGet K C "__class__" = true
  hd : PySem.W.hasDictIn K C = true
  at_ : PySem.W.findIn K (.ref C) "__class__" = some (some (.builtin "object.__class__"))
  sp : PySem.W.specialIn K (.builtin "object.__class__") "__get__" = some (some (.builtin "getset_descriptor.__get__"))
  tk : PySem.W.takesIn K (.builtin "object.__class__") = some true
  mo : PySem.W.mroIn K C (.type "object") = some true
  rd : PySem.W.readsIn K C (.type "type") = true
  fc : PySem.W.findCls K (.ref C) (.type "type") "__name__" = some (.get (.builtin "getset_descriptor.__get__") (.builtin "type.__name__") (.ref C) (.type "type"))
/-- o.__class__.__name__ -/
def tClsName (K : PySem.W.Frag) (ta : TE) : TE := fun σ H Q => ta σ H fun v H1 => ∃ (a C dx : Addr) (fs : List (Str × V)) (nm : Str), v = .ref a ∧ H1 a = some (.ins C dx fs) ∧ CName K C nm ∧ Q (.str nm) H1
theorem pe_clsName {X : Cx} {e : Expr} {te : TE} {p1 p2 : Pos} (he : PE X e te) (hb1 : attributeBase e "__class__" X.env (eval e X.env) = eval e X.env := by rfl)
    (hb2 : attributeBase (.Attribute e "__class__" p1) "__name__" X.env (eval (.Attribute e "__class__" p1) X.env) = eval (.Attribute e "__class__" p1) X.env := by rfl) :
    PE X (.Attribute (.Attribute e "__class__" p1) "__name__" p2) (tClsName X.K te) := by
  refine ⟨fun pins s σ H Q I h => ?_⟩
  refine attr_of hb2 (attr_of hb1 (thn (he.run pins s σ H _ I h) fun u s1 ⟨x, H1, I1, rx, a, C, dx, fs, nm, ex, ea, N, q⟩ => ?_))
  subst ex
  obtain rfl : u = Value.ref a := rx
  obtain ⟨_, J0, _⟩ := ins_get I1.hok ea
  obtain ⟨od, J, _⟩ := J0.look
  obtain ⟨_, hF⟩ := I1.fr
  obtain ⟨d, cd, sl, t, hC, hs⟩ := PySem.W.nameIn_of N.nm
  refine PySem.W.get_class hF I1.ok.mod.kin J N.pg N.hd N.at_ N.sp N.tk N.mo ?_
  refine PySem.W.cls_bind (s := { s1 with toks := s1.toks + 1 }) I1.kIn N.rd N.fc ?_
  refine wpAny_call (PySem.W.kcn_get (s := { s1 with toks := s1.toks + 1 + 1 }) I1.kIn hC hs (PySem.W.handed_on rfl ?_))
  exact ⟨.str nm, H1, (I1.tok _), ⟨_, rfl⟩, q⟩

/-- C.__init__ is the def at f -/
structure FInit (K : PySem.W.Frag) (C f : Addr) : Prop where
  rd : PySem.W.readsIn K C (.type "type") = true
  ga : PySem.W.specialIn K (.ref C) "__getattribute__" = some (some (.builtin "type.__getattribute__"))
  at_ : PySem.W.findCls K (.ref C) (.type "type") "__init__" = some (.val (.ref f))
  kp : PySem.W.keepIn K (.ref f) = true
section
variable {X : Cx} {CX : CXT} {x : Str} {C f : Addr} {k : Nat} {sp : Sp} {E : XK} {e : Expr} {es : List Expr} {ta : TA} {p1 p2 pos : Pos} {pl : Sem Bool}
/-- C.__init__(e, ..) -/
theorem pe_cinit (hg : Gl X x) (hm : X.mg x = some (.ref C)) (Z : FInit X.K C f) (F : FnR X.prog X.w X.K X.mg X.base CX k f sp) (hr : Room k X.A) (hx : Passes CX X E) (ha : PA X (e :: es) ta) (hdb : (x == ("__debug__" : Str)) = false := by decide)
    (hc : eval (.Call (.Attribute (.Name x p1) "__init__" p2) (e :: es) [] pos) X.env = (do
      let ov ← eval (.Name x p1) X.env
      standAt p2.atName
      let (f, first) ← holding [ov] (getMethod ov "__init__" pl)
      callWith pos f first (backTo pos (starEach (e :: es) X.env)) (backToKw pos (keywordEach [] X.env))) := by rfl)
    (he : starEach (e :: es) X.env = (false, eval e X.env) :: starEach es X.env := by rfl) (hpl : (backTo pos (starEach es X.env)).any (·.1) = false := by rfl) :
    PE X (.Call (.Attribute (.Name x p1) "__init__" p2) (e :: es) [] pos) (fun σ H Q => ta σ H fun vs H1 => sp vs H1 Q E) := by
  refine ⟨fun pins s σ H Q I h => ?_⟩
  refine PySem.W.methodCall_KW (ld_glob I hg hm ?_ hdb) hc
  refine PySem.W.method_cls I.kIn Z.ga (PySem.W.cls_value I.kIn Z.rd Z.at_ rfl ?_)
  refine PySem.W.callWith_K (h₀ := X.base) I.ok.mod.kin Z.kp (thn (ha.run pos pins _ σ H _ (I.tok _) h) fun us s1 ⟨vs, H1, I1, r1, q⟩ => ⟨I1.kIn, ?_⟩) he hpl
  exact wpAny_call (run_fnR F hr hx I1 r1 q)
theorem starcall_of {M : Model} {A : Around} {E : Value → Shared → Prop} {s : Shared} {env : Env} {o : Expr} {es : List Expr} {m : Str} {apos pos : Pos} {Q : Value → Shared → Prop} (hbase : attributeBase o m env (eval o env) = eval o env)
    (hform : methodCallForm (es.length + ([] : List Keyword).length) (backTo pos (starEach es env)) [] = false)
    (h : wpAny M A (eval o env) (fun ov s₁ => wpAny M A (getAttr ov m true) (fun f s₂ => wpAny M A (callWith pos f [] (backTo pos (starEach es env)) []) Q E s₂) E s₁) E s) :
    wpAny M A (eval (.Call (.Attribute o m apos) es [] pos) env) Q E s := by
  have hke : backToKw pos (keywordEach [] env) = [] := rfl
  have hpos : methodCallPos false o env apos pos = pure pos := rfl
  have hcal : ∀ ov, calleeOf false o env ov m = (getAttr ov m true >>= fun v => pure (v, [])) := fun _ => rfl
  rw [arm_eval_Call, hbase, hke]
  refine wpAny_bind (wpAny_mono h (fun ov s₁ h₁ => ?_) fun _ _ x => x)
  refine wpAny_bind (wpAny_standAt ?_)
  unfold methodCall
  rw [hform, hpos, hcal]
  refine wpAny_bind (wpAny_holding (wpAny_bind (wpAny_mono h₁ (fun f s₂ h₂ => wpAny_pure ?_) fun _ _ x => x)))
  exact wpAny_bind (wpAny_pure h₂)
/-- C.__init__(e, .., *y) -/
theorem pe_cinitS (hg : Gl X x) (hm : X.mg x = some (.ref C)) (Z : FInit X.K C f) (F : FnR X.prog X.w X.K X.mg X.base CX k f sp) (hr : Room k X.A) (hx : Passes CX X E) (ha : PA X (e :: es) ta) (hdb : (x == ("__debug__" : Str)) = false := by decide)
    (hb : attributeBase (.Name x p1) "__init__" X.env (eval (.Name x p1) X.env) = eval (.Name x p1) X.env := by rfl)
    (hform : methodCallForm ((e :: es).length + ([] : List Keyword).length) (backTo pos (starEach (e :: es) X.env)) [] = false := by rfl)
    (he : starEach (e :: es) X.env = (false, eval e X.env) :: starEach es X.env := by rfl) (hst : (backTo pos (starEach es X.env)).any (·.1) = true := by rfl) :
    PE X (.Call (.Attribute (.Name x p1) "__init__" p2) (e :: es) [] pos) (fun σ H Q => ta σ H fun vs H1 => sp vs H1 Q E) := by
  refine ⟨fun pins s σ H Q I h => ?_⟩
  refine starcall_of hb hform (ld_glob I hg hm ?_ hdb)
  refine PySem.W.cls_value I.kIn Z.rd Z.at_ rfl ?_
  refine PySem.W.callWith_S2 (h₀ := X.base) I.ok.mod.kin Z.kp (thn (ha.run pos pins _ σ H _ (I.tok _) h) fun us s1 ⟨vs, H1, I1, r1, q⟩ => ⟨I1.kIn, ?_⟩) he hst
  exact wpAny_call (run_fnR F hr hx I1 r1 q)
end

/-! ### truth by an own __bool__ -/
structure OwnB (K : PySem.W.Frag) (C f : Addr) : Prop where
  at_ : PySem.W.findIn K (.ref C) "__bool__" = some (some (.ref f))
  fn : PySem.W.isFn K (.ref f) = true
section
variable {X : Cx} {CX : CXT} {k : Nat} {f C : Addr} {fd : FuncData} {ps : List Str} {sp : Sp} {E : XK}
theorem truthy_own {A : Around} {pins : List (Addr × Obj)} {σ : L2.St} {H : Hp} {s : Shared} {a dx : Addr} {fs : List (Str × V)} {Q : Bool → Hp → Prop} (O : OwnB X.K C f) (F : FnOk X.prog X.w X.K X.mg X.base CX k f fd ps sp) (hr : Room k A) (hA : A.frames = X.A.frames)
    (hb : Binds X.K fd ps []) (hx : Passes CX X E) (I : Inv X pins σ H s) (ha : H a = some (.ins C dx fs))
    (h : sp [.ref a] H (fun v H' => ∃ b, v = .bl b ∧ Q b H') E) : wpAny (model X.prog X.w) A (truthy (.ref a)) (TP X pins σ Q) X.xe s := by
  obtain ⟨_, J0, _⟩ := ins_get I.hok ha
  obtain ⟨_, J, _⟩ := J0.look
  obtain ⟨_, hF⟩ := I.fr
  refine PySem.W.truthy_K hF I.ok.mod.kin J O.at_ O.fn ?_
  refine wpAny_mono (run_sub (A := A) F hr hA hb hx I (.cons (rel_ref a) .nil) h) (fun z s' hz => ?_) fun _ _ e => e
  obtain ⟨v', H', I', rv, b, rfl, qq⟩ := hz
  cases rv
  exact ⟨H', I', qq⟩
/-- an own instance's truth, the class and its def told -/
def rTruO (C : Addr) (sp : Sp) (E : XK) : V → Hp → (Bool → Hp → Prop) → Prop := fun x H Q => ∃ (a dx : Addr) (fs : List (Str × V)), x = .ref a ∧ H a = some (.ins C dx fs) ∧ sp [.ref a] H (fun v H' => ∃ b, v = .bl b ∧ Q b H') E
theorem tru_own (O : OwnB X.K C f) (F : FnOk X.prog X.w X.K X.mg X.base CX k f fd ps sp) (hr : Room k X.A) (hb : Binds X.K fd ps []) (hx : Passes CX X E) : TruR X (rTruO C sp E) := by
  intro pins s σ H x v Q I rx h
  obtain ⟨a, dx, fs, rfl, ha, q⟩ := h
  cases rx
  exact truthy_own O F hr rfl hb hx I ha q
/-- bool(o) -/
def rBoolO (C : Addr) (sp : Sp) (E : XK) : List V → Hp → VK → Prop := fun xs H Q => ∃ (a dx : Addr) (fs : List (Str × V)), xs = [.ref a] ∧ H a = some (.ins C dx fs) ∧ sp [.ref a] H (fun v H' => ∃ b, v = .bl b ∧ Q (.bl b) H') E
theorem call_boolO (O : OwnB X.K C f) (F : FnOk X.prog X.w X.K X.mg X.base CX k f fd ps sp) (hr : Room (k + 2) X.A) (hb : Binds X.K fd ps []) (hx : Passes CX X E) : CallR X (.type "bool") (rBoolO C sp E) := by
  intro pins s σ H xs us Q I r h
  obtain ⟨a, dx, fs, rfl, ha, q⟩ := h
  obtain ⟨u, rfl, ru⟩ := r.one
  cases (show u = Value.ref a from ru)
  refine PySem.W.kbo_call ?_
  refine wpAny_mono (truthy_own (Q := fun b H' => Q (.bl b) H') O F hr.in1.in1 rfl hb hx I ha q) (fun b s' hz => ?_) fun _ _ e => e
  obtain ⟨H', I', qq⟩ := hz
  exact ⟨.bl b, H', I', rfl, qq⟩
theorem TruR.or {X : Cx} {r1 r2 : V → Hp → (Bool → Hp → Prop) → Prop} (h1 : TruR X r1) (h2 : TruR X r2) : TruR X (fun x H Q => r1 x H Q ∨ r2 x H Q) := fun pins s σ H x v Q I rx h => h.elim (h1 pins s σ H x v Q I rx) (h2 pins s σ H x v Q I rx)
end
end Gs

set_option Elab.async false
set_option linter.all false
set_option maxRecDepth 100000
set_option maxHeartbeats 4000000
/-! Layer G39: repr of an int, of a truth. What is no list and no tuple; what becomes of it (fixed). -/
namespace Gs
open PySem PySem.Spec PyProof.Rows L2
section
variable {X : Cx}
def rReprI : List V → Hp → VK → Prop := fun xs H Q => (∃ i : Int, xs = [.int i] ∧ i.natAbs.log2 < 1920 ∧ Q (.str (toString i)) H) ∨ ∃ b : Bool, xs = [.bl b] ∧ Q (.str (if b then "True" else "False")) H
theorem call_reprI : CallR X (.builtin "repr") rReprI := by
  intro pins s σ H xs us Q I r h
  rcases h with ⟨i, rfl, hz, q⟩ | ⟨b, rfl, q⟩
  · obtain ⟨u, rfl, t, rfl⟩ := vals1 r
    exact PySem.P.repr_of_int hz ⟨.str _, H, I.tok _, ⟨_, rfl⟩, q⟩
  · obtain ⟨u, rfl, r1⟩ := vals1 r
    cases r1
    exact PySem.P.repr_of_bool ⟨.str _, H, I.tok _, ⟨_, rfl⟩, q⟩
end
/-- instances may be changed, all else stays -/
def ExtX (H H' : Hp) : Prop := ∀ b o, H b = some o → H' b = some o ∨ ∃ C dx fs fs', o = .ins C dx fs ∧ H' b = some (.ins C dx fs')
theorem ExtX.of {H H' : Hp} (s : Same H H') : ExtX H H' := fun b o h => .inl (s b o h)
theorem ExtX.refl {H : Hp} : ExtX H H := .of (Same.refl H)
theorem ExtX.trans {H H1 H2 : Hp} (a : ExtX H H1) (b : ExtX H1 H2) : ExtX H H2 := fun c o h => by
  rcases a c o h with h1 | ⟨C, dx, fs, fs', rfl, h1⟩
  · exact b c o h1
  · rcases b c _ h1 with h2 | ⟨C', dx', fs2, fs3, e, h2⟩
    · exact .inr ⟨C, dx, fs, fs', rfl, h2⟩
    · cases e; exact .inr ⟨C, dx, fs, fs3, rfl, h2⟩
theorem ExtX.put {H : Hp} {x C dx : Addr} {fs fs' : List (Str × V)} (hx : H x = some (.ins C dx fs)) : ExtX H (upd H x (.ins C dx fs')) := fun b o h => by
  by_cases e : b = x
  · subst e; rw [hx] at h; cases h; exact .inr ⟨C, dx, fs, fs', rfl, upd_same⟩
  · exact .inl (by rw [upd_ne e]; exact h)
theorem ExtX.rd {H H' : Hp} {a : Addr} {u : HO} (e : ExtX H H') (hu : ∀ C dx fs, u ≠ .ins C dx fs) (h : Rd H a u) : Rd H' a u := by
  rcases h with h | ⟨o, h⟩
  · rcases e _ _ h with h1 | ⟨C, dx, fs, _, e1, _⟩
    · exact .inl h1
    · exact absurd e1 (hu _ _ _)
  · rcases e _ _ h with h1 | ⟨C, dx, fs, _, e1, _⟩
    · exact .inr ⟨o, h1⟩
    · cases e1
theorem ExtX.sqL {K : PySem.W.Frag} {H H' : Hp} {a : Addr} {xs : List V} (e : ExtX H H') (h : SqL K H a xs) : SqL K H' a xs := h.imp (e.rd fun _ _ _ z => nomatch z) id
theorem ExtX.sqT {K : PySem.W.Frag} {H H' : Hp} {a : Addr} {xs : List V} (e : ExtX H H') (h : SqT K H a xs) : SqT K H' a xs := h.imp (e.rd fun _ _ _ z => nomatch z) id
theorem ExtX.got {H H' : Hp} {a : Addr} {o : HO} (e : ExtX H H') (hu : ∀ C dx fs, o ≠ .ins C dx fs) (h : H a = some o) : H' a = some o := by
  rcases e _ _ h with h1 | ⟨C, dx, fs, _, e1, _⟩
  · exact h1
  · exact absurd e1 (hu _ _ _)
theorem ExtX.free {H H' : Hp} {a : Addr} (e : ExtX H H') (h : H' a = none) : H a = none := by
  cases q : H a with
  | none => rfl
  | some o =>
    rcases e _ _ q with h1 | ⟨C, dx, fs, _, _, h1⟩ <;> (rw [h] at h1; cases h1)
theorem ExtX.ext {c : Addr} {H H' : Hp} {x : HO} (e : Ext c H H') (n : H c = none) : ExtX H H' := fun b o h => .inl (e b o (fun z => by rw [z, n] at h; cases h) h)
mutual
theorem DV.extX {K : PySem.W.Frag} {c : Addr} {H H' : Hp} (e : ExtX H H') : ∀ (d : PyData) (v : V), DV K c H v d → DV K c H' v d
  | .none, _, h => by cases h; exact .non
  | .bool _, _, h => by cases h; exact .bl _
  | .int _, _, h => by cases h; exact .int _
  | .str _, _, h => by cases h; exact .str _
  | .list ds, _, h => by
    cases h with
    | lst n s r => exact .lst n (e.sqL s) (DVs.extX e ds _ r)
  | .tuple ds, _, h => by
    cases h with
    | tup n s r => exact .tup n (e.sqT s) (DVs.extX e ds _ r)
  | .dict ps, _, h => by
    cases h with
    | dic n s r => exact .dic n (e.got (fun _ _ _ z => nomatch z) s) (DKs.extX e ps _ r)
    | dct n s z => exact .dct n (e.got (fun _ _ _ z => nomatch z) s) z
theorem DVs.extX {K : PySem.W.Frag} {c : Addr} {H H' : Hp} (e : ExtX H H') : ∀ (ds : List PyData) (vs : List V), DVs K c H vs ds → DVs K c H' vs ds
  | [], _, h => by cases h; exact .nil
  | d :: ds, _, h => by
    cases h with
    | cons a b => exact .cons (DV.extX e d _ a) (DVs.extX e ds _ b)
theorem DKs.extX {K : PySem.W.Frag} {c : Addr} {H H' : Hp} (e : ExtX H H') : ∀ (ps : List (PyData × PyData)) (vs : List (Key × V)), DKs K c H vs ps → DKs K c H' vs ps
  | [], _, h => by cases h; exact .nil
  | (d, f) :: ps, _, h => by
    cases h with
    | cons a b r => exact .cons (DV.extX e d _ a) (DV.extX e f _ b) (DKs.extX e ps _ r)
end

/-! ### fixed: what it makes -/
/-- what a class needs that its instances are no lists, no tuples -/
structure NSq (K : PySem.W.Frag) (C : Addr) : Prop where
  ty : TyC K C
  no : ∀ t ∈ (["list", "tuple"] : List String), PySem.W.kitOne K (.ref C) (.type t) = some false
/-- no list, no tuple -/
inductive Leaf (K : PySem.W.Frag) (H : Hp) : V → Prop
  | non : Leaf K H .non
  | bl (b : Bool) : Leaf K H (.bl b)
  | int (i : Int) : Leaf K H (.int i)
  | str (x : Str) : Leaf K H (.str x)
  | dK {a : Addr} {kvs : List (Key × V)} (h : H a = some (.dK kvs)) : Leaf K H (.ref a)
  | dT {a : Addr} {kvs : List (List Key × V)} (h : H a = some (.dT kvs)) : Leaf K H (.ref a)
  | ins {a C dx : Addr} {fs : List (Str × V)} (h : H a = some (.ins C dx fs)) (n : NSq K C) : Leaf K H (.ref a)
theorem Leaf.up {K : PySem.W.Frag} {H H' : Hp} {v : V} (e : ExtX H H') (h : Leaf K H v) : Leaf K H' v := by
  cases h with
  | non => exact .non
  | bl b => exact .bl b
  | int i => exact .int i
  | str x => exact .str x
  | dK h => exact .dK (e.got (fun _ _ _ z => nomatch z) h)
  | dT h => exact .dT (e.got (fun _ _ _ z => nomatch z) h)
  | ins h n =>
    rcases e _ _ h with h1 | ⟨C, dx, fs, fs', e1, h1⟩
    · exact .ins h1 n
    · cases e1; exact .ins h1 n
theorem Leaf.not {K : PySem.W.Frag} {H : Hp} {v : V} (h : Leaf K H v) : ∃ t, TyX K H v t ∧ PySem.W.kitAny K t [.type "list", .type "tuple"] = some false := by
  have two : ∀ T : String, kitB T "list" = some false → kitB T "tuple" = some false → PySem.W.kitAny K (.type T) [.type "list", .type "tuple"] = some false := fun T h1 h2 =>
    kitAny_cons (kit_ty h1) (fun _ => kitAny_cons (kit_ty h2) (fun _ => kitAny_nil) fun z => nomatch z) fun z => nomatch z
  cases h with
  | non => exact ⟨_, .base .non, two _ (by decide +kernel) (by decide +kernel)⟩
  | bl b => exact ⟨_, .base (.bl b), two _ (by decide +kernel) (by decide +kernel)⟩
  | int i => exact ⟨_, .base (.int i), two _ (by decide +kernel) (by decide +kernel)⟩
  | str x => exact ⟨_, .base (.str x), two _ (by decide +kernel) (by decide +kernel)⟩
  | dK h => exact ⟨_, .base (.dK h), two _ (by decide +kernel) (by decide +kernel)⟩
  | dT h => exact ⟨_, .base (.dT h), two _ (by decide +kernel) (by decide +kernel)⟩
  | ins h n => exact ⟨_, n.ty.ty h, kitAny_cons (n.no _ (by simp)) (fun _ => kitAny_cons (n.no _ (by simp)) (fun _ => kitAny_nil) fun z => nomatch z) fun z => nomatch z⟩
abbrev RV := Hp → V → Prop
/-- between two later heaps: what the first heap knew, and tuples, stay (instances may be changed) -/
def ExtZ (H0 H' H'' : Hp) : Prop := ∀ b o, H' b = some o → (H0 b ≠ none ∨ ∃ xs, o = .tup xs) → H'' b = some o ∨ ∃ C dx fs fs', o = .ins C dx fs ∧ H'' b = some (.ins C dx fs')
theorem ExtZ.of {H0 H' H'' : Hp} (e : ExtX H' H'') : ExtZ H0 H' H'' := fun b o h _ => e b o h
theorem ExtZ.put {H0 H' : Hp} {D : Addr} {xs : List V} {o : HO} (hD : H0 D = none) (h : H' D = some (.lst xs)) : ExtZ H0 H' (upd H' D o) := fun b u e k => by
  by_cases q : b = D
  · subst q
    rcases k with k | ⟨ys, rfl⟩
    · exact absurd hD k
    · rw [h] at e; cases e
  · exact .inl (by rw [upd_ne q]; exact e)
theorem ExtZ.less {H0 H1 H' H'' : Hp} (e : ExtX H0 H1) (z : ExtZ H1 H' H'') : ExtZ H0 H' H'' := fun b o h k => z b o h (k.imp (fun n m => n (e.free m)) id)
/-- v, as deep as n at most, is fixed to what R tells -/
inductive Fx (K : PySem.W.Frag) (H : Hp) : Nat → V → RV → Prop
  | leaf {n : Nat} {v : V} (h : Leaf K H v) : Fx K H n v (fun _ u => u = v)
  | node {n : Nat} {a : Addr} {xs : List V} {R : Nat → RV} (h : SqL K H a xs ∨ SqT K H a xs) (few : xs.length ≤ 1000) (hs : ∀ (i : Nat) (x : V), xs[i]? = some x → Fx K H n x (R i)) :
    Fx K H (n + 1) (.ref a) (fun H' u => ∃ (t : Addr) (ys : List V), u = .ref t ∧ H t = none ∧ H' t = some (.tup ys) ∧ ys.length = xs.length ∧ ∀ (i : Nat) (y : V), ys[i]? = some y → R i H' y)
theorem Fx.mono {K : PySem.W.Frag} {H : Hp} {n : Nat} {v : V} {R : RV} (h : Fx K H n v R) : ∀ H' H'' u, ExtZ H H' H'' → R H' u → R H'' u := by
  induction h with
  | leaf h => exact fun _ _ _ _ e => e
  | node h few hs ih =>
    rintro H' H'' u e ⟨t, ys, rfl, n0, hT, hl, hy⟩
    refine ⟨t, ys, rfl, n0, ?_, hl, fun i y hi => ?_⟩
    · rcases e _ _ hT (.inr ⟨ys, rfl⟩) with z | ⟨_, _, _, _, z, _⟩
      · exact z
      · cases z
    have hi2 : i < _ := (List.getElem?_eq_some_iff.mp hi).1
    rw [hl] at hi2
    exact ih i _ (List.getElem?_eq_getElem hi2) H' H'' y e (hy i y hi)
theorem pick_rv {xs : List V} {P : Nat → V → RV → Prop} (h : ∀ (i : Nat) (x : V), xs[i]? = some x → ∃ R, P i x R) : ∃ R1 : Nat → RV, ∀ (i : Nat) (x : V), xs[i]? = some x → P i x (R1 i) := by
  have z : ∀ i : Nat, ∃ R : RV, ∀ x, xs[i]? = some x → P i x R := fun i => by
    cases e : xs[i]? with
    | none => exact ⟨fun _ _ => True, fun x hx => nomatch hx⟩
    | some y =>
      obtain ⟨R, hR⟩ := h i y e
      exact ⟨R, fun x hx => by cases hx; exact hR⟩
  exact ⟨fun i => Classical.choose (z i), fun i x hx => Classical.choose_spec (z i) x hx⟩
/-- .. seen from a later heap -/
theorem Fx.up {K : PySem.W.Frag} {H H1 : Hp} {n : Nat} {v : V} {R : RV} (e : ExtX H H1) (h : Fx K H n v R) : ∃ R1, Fx K H1 n v R1 ∧ ∀ H' u, R1 H' u → R H' u := by
  induction h with
  | leaf h => exact ⟨_, .leaf (h.up e), fun _ _ z => z⟩
  | @node n a xs R h few hs ih =>
    have hR : ∃ R1 : Nat → RV, ∀ (i : Nat) (x : V), xs[i]? = some x → Fx K H1 n x (R1 i) ∧ ∀ H' u, R1 i H' u → R i H' u := by
      exact pick_rv ih
    obtain ⟨R1, h1⟩ := hR
    refine ⟨_, .node (R := R1) (h.imp e.sqL e.sqT) few fun i x hx => (h1 i x hx).1, ?_⟩
    rintro H' u ⟨t, ys, e1, e2, e3, hl, hy⟩
    refine ⟨t, ys, e1, e.free e2, e3, hl, fun i y hi => ?_⟩
    have hi2 : i < _ := (List.getElem?_eq_some_iff.mp hi).1
    rw [hl] at hi2
    exact (h1 i _ (List.getElem?_eq_getElem hi2)).2 _ _ (hy i y hi)
theorem Fx.deeper {K : PySem.W.Frag} {H : Hp} {m n : Nat} {v : V} {R : RV} (h : Fx K H m v R) (hm : m ≤ n) : Fx K H n v R := by
  induction h generalizing n with
  | leaf h => exact .leaf h
  | node h few hs ih =>
    obtain ⟨k, rfl⟩ : ∃ k, n = k + 1 := ⟨n - 1, by omega⟩
    exact .node h few fun i x hx => ih i x hx (by omega)
/-! what fixed does to data -/
mutual
def fixD : PyData → PyData
  | .list ds => .tuple (fixDs ds)
  | .tuple ds => .tuple (fixDs ds)
  | d => d
def fixDs : List PyData → List PyData
  | [] => []
  | d :: ds => fixD d :: fixDs ds
end
theorem fixDs_map : ∀ ds : List PyData, fixDs ds = ds.map fixD
  | [] => rfl
  | d :: ds => by rw [fixDs, fixDs_map ds]; rfl
theorem DVs.of_at {K : PySem.W.Frag} {c : Addr} {H : Hp} : ∀ {vs : List V} {ds : List PyData}, vs.length = ds.length → (∀ (i : Nat) (v : V), vs[i]? = some v → ∀ d, ds[i]? = some d → DV K c H v d) → DVs K c H vs ds
  | [], [], _, _ => .nil
  | v :: vs, d :: ds, hl, h => .cons (h 0 v rfl d rfl) (DVs.of_at (by simpa using hl) fun i x hx y hy => h (i + 1) x hx y hy)
mutual
def slimD : PyData → Bool
  | .list ds => decide (ds.length ≤ 1000) && slimDs ds
  | .tuple ds => decide (ds.length ≤ 1000) && slimDs ds
  | _ => true
def slimDs : List PyData → Bool
  | [] => true
  | d :: ds => slimD d && slimDs ds
end
mutual
def deepD : PyData → Nat
  | .list ds => deepDs ds + 1
  | .tuple ds => deepDs ds + 1
  | _ => 0
def deepDs : List PyData → Nat
  | [] => 0
  | d :: ds => max (deepD d) (deepDs ds)
end
section
variable {K : PySem.W.Frag} {c : Addr} {H : Hp}
theorem slim_at : ∀ {ds : List PyData} {i : Nat} {d : PyData}, slimDs ds = true → ds[i]? = some d → slimD d = true
  | e :: ds, 0, d, h, hi => by
    simp at hi; subst hi
    exact (Bool.and_eq_true_iff.mp (show (slimD e && slimDs ds) = true from h)).1
  | e :: ds, i + 1, d, h, hi => slim_at (Bool.and_eq_true_iff.mp (show (slimD e && slimDs ds) = true from h)).2 (by simpa using hi)
theorem deep_at : ∀ {ds : List PyData} {i : Nat} {d : PyData}, ds[i]? = some d → deepD d ≤ deepDs ds
  | e :: ds, 0, d, hi => by
    simp at hi; subst hi
    exact Nat.le_max_left _ _
  | e :: ds, i + 1, d, hi => Nat.le_trans (deep_at (ds := ds) (by simpa using hi)) (Nat.le_max_right _ _)
/-- what R tells is the data d, fixed -/
def FxD (K : PySem.W.Frag) (c : Addr) (H : Hp) (n : Nat) (v : V) (d : PyData) : Prop := ∃ R, Fx K H n v R ∧ ∀ H' u, ExtX H H' → R H' u → DV K c H' u (fixD d)
theorem fx_node {a : Addr} {vs : List V} {ds : List PyData} {m : Nat} (hc : H c ≠ none) (hq : SqL K H a vs ∨ SqT K H a vs) (few : vs.length ≤ 1000) (hl : vs.length = ds.length)
    (hs : ∀ (i : Nat) (x : V) (d : PyData), vs[i]? = some x → ds[i]? = some d → FxD K c H m x d) : ∃ R, Fx K H (m + 1) (.ref a) R ∧ ∀ H' u, ExtX H H' → R H' u → DV K c H' u (.tuple (fixDs ds)) := by
  have hR : ∃ R1 : Nat → RV, ∀ (i : Nat) (x : V), vs[i]? = some x → Fx K H m x (R1 i) ∧ ∀ d, ds[i]? = some d → ∀ H' u, ExtX H H' → R1 i H' u → DV K c H' u (fixD d) := by
    have all : ∀ (i : Nat) (x : V), vs[i]? = some x → ∃ R, Fx K H m x R ∧ ∀ d, ds[i]? = some d → ∀ H' u, ExtX H H' → R H' u → DV K c H' u (fixD d) := fun i x hx => by
      have hi := (List.getElem?_eq_some_iff.mp hx).1
      have hd : ds[i]? = some ds[i] := List.getElem?_eq_getElem (by omega)
      obtain ⟨R, f, g⟩ := hs i x _ hx hd
      exact ⟨R, f, fun d h => by rw [hd] at h; cases h; exact g⟩
    exact pick_rv all
  obtain ⟨R1, h1⟩ := hR
  refine ⟨_, .node (R := R1) hq few fun i x hx => (h1 i x hx).1, ?_⟩
  rintro H' u e ⟨t, ys, rfl, n0, hT, hl2, hy⟩
  refine .tup (fun z => hc (by rw [← z]; exact n0)) (.of hT) ?_
  rw [fixDs_map]
  refine DVs.of_at (by rw [hl2, List.length_map, hl]) fun i y hi d hdi => ?_
  rw [List.getElem?_map] at hdi
  obtain ⟨d0, h0, rfl⟩ := Option.map_eq_some_iff.mp hdi
  have hi2 := (List.getElem?_eq_some_iff.mp hi).1
  have hx : vs[i]? = some vs[i] := List.getElem?_eq_getElem (by omega)
  exact (h1 i _ hx).2 d0 h0 H' y e (hy i y hi)
mutual
theorem DV.fx (hc : H c ≠ none) : ∀ (d : PyData) (v : V) (n : Nat), DV K c H v d → slimD d = true → deepD d ≤ n → FxD K c H n v d
  | .none, _, n, h, _, _ => by cases h; exact ⟨_, .leaf .non, fun _ _ _ e => by subst e; exact .non⟩
  | .bool b, _, n, h, _, _ => by cases h; exact ⟨_, .leaf (.bl _), fun _ _ _ e => by subst e; exact .bl _⟩
  | .int i, _, n, h, _, _ => by cases h; exact ⟨_, .leaf (.int _), fun _ _ _ e => by subst e; exact .int _⟩
  | .str x, _, n, h, _, _ => by cases h; exact ⟨_, .leaf (.str _), fun _ _ _ e => by subst e; exact .str _⟩
  | .dict ps, v, n, h, _, _ => by
    have h' := h
    cases h with
    | dic nc s r => exact ⟨_, .leaf (.dK s), fun _ _ e1 e => by subst e; exact h'.extX e1 _ _⟩
    | dct nc s z => exact ⟨_, .leaf (.dT s), fun _ _ e1 e => by subst e; exact h'.extX e1 _ _⟩
  | .list ds, _, n, h, hs, hd => by
    cases h with
    | lst nc s r =>
      obtain ⟨hs1, hs2⟩ := Bool.and_eq_true_iff.mp (show (decide (ds.length ≤ 1000) && slimDs ds) = true from hs)
      have hd : deepDs ds + 1 ≤ n := hd
      obtain ⟨m, rfl⟩ : ∃ m, n = m + 1 := ⟨n - 1, by omega⟩
      exact fx_node hc (.inl s) (by rw [r.len]; exact of_decide_eq_true hs1) r.len (DVs.fx hc ds _ m r hs2 (by omega))
  | .tuple ds, _, n, h, hs, hd => by
    cases h with
    | tup nc s r =>
      obtain ⟨hs1, hs2⟩ := Bool.and_eq_true_iff.mp (show (decide (ds.length ≤ 1000) && slimDs ds) = true from hs)
      have hd : deepDs ds + 1 ≤ n := hd
      obtain ⟨m, rfl⟩ : ∃ m, n = m + 1 := ⟨n - 1, by omega⟩
      exact fx_node hc (.inr s) (by rw [r.len]; exact of_decide_eq_true hs1) r.len (DVs.fx hc ds _ m r hs2 (by omega))
theorem DVs.fx (hc : H c ≠ none) : ∀ (ds : List PyData) (vs : List V) (n : Nat), DVs K c H vs ds → slimDs ds = true → deepDs ds ≤ n →
    ∀ (i : Nat) (x : V) (d : PyData), vs[i]? = some x → ds[i]? = some d → FxD K c H n x d
  | [], _, n, h, _, _, i, x, d, hi, _ => by cases h; simp at hi
  | e :: ds, _, n, h, hs, hd, i, x, d, hi, hdi => by
    cases h with
    | cons a b =>
      obtain ⟨hs1, hs2⟩ := Bool.and_eq_true_iff.mp (show (slimD e && slimDs ds) = true from hs)
      have hd : max (deepD e) (deepDs ds) ≤ n := hd
      match i with
      | 0 =>
        simp at hi hdi; subst hi hdi
        exact DV.fx hc e _ n a hs1 (by omega)
      | i + 1 => exact DVs.fx hc ds _ n b hs2 (by omega) i x d (by simpa using hi) (by simpa using hdi)
end
end
/-! ### classes -/
theorem kit_rr {K : PySem.W.Frag} {C D : Addr} {b : Bool} (i : PySem.W.isClsIn K D = true) (t : PySem.W.typeIn K (.ref D) = some (.type "type")) (s : PySem.W.subIn K (.ref C) (.ref D) = some b) (n : (Value.ref C == Value.ref D) = false) :
    PySem.W.kitOne K (.ref C) (.ref D) = some b := by
  unfold PySem.W.kitOne
  rw [if_neg (by rw [n]; decide)]
  unfold PySem.W.kitCls
  have i' : (PySem.W.clsIn K D).isSome = true := i
  simp only [i', t, beq_self_eq_true, Bool.and_self, if_true]
  exact s
theorem kit_rt {K : PySem.W.Frag} {C : Addr} {t : String} {b : Bool} (km : PySem.W.kitMeta t = true) (s : PySem.W.subIn K (.ref C) (.type t) = some b) : PySem.W.kitOne K (.ref C) (.type t) = some b := by
  unfold PySem.W.kitOne
  rw [if_neg (by simp)]
  show (if PySem.W.kitMeta t = true then PySem.W.subIn K (.ref C) (.type t) else none) = some b
  rw [if_pos km]
  exact s
theorem nsq_of {K : PySem.W.Frag} {C : Addr} (ty : TyC K C) (l : PySem.W.subIn K (.ref C) (.type "list") = some false) (t : PySem.W.subIn K (.ref C) (.type "tuple") = some false) : NSq K C :=
  ⟨ty, fun z hz => by
    simp only [List.mem_cons, List.not_mem_nil, or_false] at hz
    rcases hz with rfl | rfl
    · exact kit_rt (by decide +kernel) l
    · exact kit_rt (by decide +kernel) t⟩
/-! ### comprehensions that keep every item -/
section
variable {J : It} {G : Hp → Prop} {xs : List V}
theorem lc_mapR (wk : Walk J xs.length G (YAt xs)) {g : TG} {tt : TT} {te : TE} {vs : List Nat} {σ : L2.St} {H1 : Hp} {D : Addr} {Qd : Hp → Prop} (R : Nat → RV) (hD : H1 D = none) (few : xs.length ≤ 1000) (hG : ∀ H', Same H1 H' → G H')
    (mono : ∀ i H' H'' u, i < xs.length → ExtZ H1 H' H'' → R i H' u → R i H'' u)
    (hs : ∀ i x H' (Kc : VK) (Ke : Hp → Prop), i < xs.length → xs[i]? = some x → Same H1 H' → (∀ y H4, Same H' H4 → R i H4 y → Kc y H4) → g x (wipe σ vs) H' fun σ2 H2 => wipe σ2 vs = wipe σ vs ∧ tt σ2 H2 fun b H3 => if b = true then te σ2 H3 Kc else Ke H3)
    (hd : ∀ ys H', Same H1 H' → H' D = some (.lst ys) → ys.length = xs.length → (∀ i y, ys[i]? = some y → R i H' y) → Qd H') :
    ∃ W : Nat → Nat → Hp → Prop, (∃ m, W 0 m (upd H1 D (.lst []))) ∧ ∀ i m H, W i m H →
      (J.stop i H ∧ Qd H) ∨ (J.go i H ∧ ∃ Nx : Hp → Prop, (∀ H', Nx H' → ∃ m', m' < m ∧ W (i + 1) m' H') ∧ ∀ x H', J.yld i H x H' → g x (wipe σ vs) H' fun σ2 H2 => wipe σ2 vs = wipe σ vs ∧ tt σ2 H2 fun b H3 =>
        if b = true then te σ2 H3 fun y H4 => ∃ acc, H4 D = some (.lst acc) ∧ acc.length < sizeLine ∧ Nx (upd H4 D (.lst (acc ++ [y]))) else Nx H3) := by
  refine lc_it wk (fun i H' => Same H1 H' ∧ ∃ ys, H' D = some (.lst ys) ∧ ys.length = i ∧ ∀ j y, ys[j]? = some y → R j H' y) ⟨same_new hD, [], upd_same, rfl, fun j y h => by simp at h⟩ (fun i H' _ h => hG H' h.1) ?_ ?_
  · rintro i x H H' hi ⟨s1, ys, hy, hl, hr⟩ ⟨rfl, hx⟩
    refine hs i x _ _ _ hi hx s1 fun y H4 s4 r4 => ?_
    refine ⟨ys, s4 _ _ hy, by rw [hl]; exact Nat.lt_of_lt_of_le (Nat.lt_of_lt_of_le hi few) (by decide), same_own (s1.trans s4) hD, _, upd_same, by rw [List.length_append, hl]; rfl, fun j z hj => ?_⟩
    have hD4 := s4 _ _ hy
    by_cases e : j < ys.length
    · rw [List.getElem?_append_left e] at hj
      exact mono j _ _ _ (by omega) (.put hD hD4) (mono j _ _ _ (by omega) (.of (ExtX.of s4)) (hr j z hj))
    · rw [List.getElem?_append_right (by omega)] at hj
      have e2 : j = i := by
        have := (List.getElem?_eq_some_iff.mp hj).1
        simp at this; omega
      subst e2
      rw [hl, Nat.sub_self] at hj
      simp at hj
      subst hj
      exact mono j _ _ _ hi (.put hD hD4) r4
  · rintro H ⟨s1, ys, hy, hl, hr⟩
    exact hd ys H s1 hy hl hr
end
end Gs

set_option Elab.async false
set_option linter.all false
set_option maxRecDepth 100000
set_option maxHeartbeats 4000000
/-! Layer G40: the ways of a statement joined behind it. -/
namespace Gs
open PySem PySem.Spec PyProof.Rows L2
theorem seq_join {s r : TS} {D : Ends} {σ : L2.St} {H : Hp} (J : L2.St → Hp → Prop) (h1 : ∀ N : L2.St → Hp → Prop, (∀ σ' H', J σ' H' → N σ' H') → s { D with nx := N } σ H) (hr : ∀ σ' H', J σ' H' → r D σ' H') : tSeq s r D σ H := h1 _ hr
theorem flat_rep {α : Type} (n : Nat) (x : α) : (List.replicate n [x]).flatten = List.replicate n x := by
  induction n with
  | zero => rfl
  | succ n ih => rw [List.replicate_succ, List.flatten_cons, ih]; rfl
theorem isFn_of {K : PySem.W.Frag} {f : Addr} (h : PySem.W.typeIn K (.ref f) = some (.type "function")) : PySem.W.isFn K (.ref f) = true := by
  unfold PySem.W.isFn; rw [h]; rfl
theorem kit_tr {K : PySem.W.Frag} {D : Addr} {t : String} {b : Bool} (i : PySem.W.isClsIn K D = true) (h : PySem.W.typeIn K (.ref D) = some (.type "type")) (s : PySem.W.subIn K (.type t) (.ref D) = some b) : PySem.W.kitOne K (.type t) (.ref D) = some b := by
  unfold PySem.W.kitOne
  rw [if_neg (by simp)]
  unfold PySem.W.kitCls
  have i' : (PySem.W.clsIn K D).isSome = true := i
  simp only [i', h, beq_self_eq_true, Bool.and_self, if_true]
  exact s
end Gs

set_option Elab.async false
set_option linter.all false
set_option maxRecDepth 100000
set_option maxHeartbeats 4000000
/-! sorted(d), d a dict whose keys are tuples of ints and texts. -/
namespace Gs
open PySem PySem.Spec PyProof.Rows L2
theorem kt_keys {H : Hp} {kvs : List (List Key × V)} {xs : List (List Key × Addr × Value)} (r : KT H kvs xs) : kvs.map (·.1) = xs.map (·.1) := by
  induction r with
  | nil => rfl
  | cons h t ih => rw [List.map_cons, List.map_cons, ih, h.1]
theorem kt_tup {H : Hp} {kvs : List (List Key × V)} {xs : List (List Key × Addr × Value)} (r : KT H kvs xs) : ∀ x ∈ xs, H x.2.1 = some (.tup (x.1.map kV)) := by
  induction r with
  | nil => intro x hx; cases hx
  | @cons p q ps qs h t ih =>
    intro x hx
    rcases List.mem_cons.mp hx with e | hx
    · rw [e, ← h.1]; exact h.2.1
    · exact ih x hx
theorem vals_tkR : ∀ ks : List TK, Vals (ks.map fun b => V.ref b.1) (ks.map fun b => Value.ref b.1)
  | [] => .nil
  | _ :: ks => .cons rfl (vals_tkR ks)
theorem reads_flat {h : Heap} : ∀ {us : List Value} {ks : List Key}, Vals (ks.map kV) us → ReadsAll h us (ks.map kD) []
  | _, [], r => by cases r; exact .nil
  | _, .inl i :: ks, r => by
    cases r with
    | cons r1 r2 =>
      obtain ⟨t, rfl⟩ := r1
      exact .cons (as := []) (.int i t) (reads_flat r2)
  | _, .inr i :: ks, r => by
    cases r with
    | cons r1 r2 =>
      obtain ⟨t, rfl⟩ := r1
      exact .cons (as := []) (.str i t) (reads_flat r2)
theorem each_any {R : Value → TK → Prop} : ∀ {bs : List TK} {us : List Value}, PySem.W.EachIs (fun (v : Value) (b : TK) => v = .ref b.1) us bs → (∀ b ∈ bs, R (.ref b.1) b) → PySem.W.EachIs R us bs
  | _, _, .nil, _ => .nil
  | _, _, .cons r t, h => by
    subst r
    exact .cons (h _ List.mem_cons_self) (each_any t fun b hb => h b (List.mem_cons_of_mem _ hb))
/-- sorted(d): the keys' own tuples in their order -/
def rSortDT : List V → Hp → VK → Prop := fun vs H Q => ∃ (a : Addr) (kvs : List (List Key × V)), vs = [V.ref a] ∧ H a = some (.dT kvs) ∧ (∀ p ∈ kvs, p.1 ≠ []) ∧ (∀ p ∈ kvs, ∀ q ∈ kvs, sameSort p.1 q.1 = true) ∧
  ∀ (ks : List TK) (p : Addr), ks.map (·.2) = kvs.map (·.1) → (∀ b ∈ ks, H b.1 = some (.tup (b.2.map kV))) → H p = none → Q (.ref p) (upd H p (.lst ((sortK ks).map fun b => V.ref b.1)))
section
variable {X : Cx}
theorem cr_sortDT (hcalm : X.calm = true) (hu : X.A.units + 64 < cLine) : CallR X (.builtin "sorted") rSortDT := by
  intro pins s σ H vs us Q I r q
  obtain ⟨a, kvs, rfl, hd, hne, hss, q⟩ := q
  obtain ⟨u, rfl, ru⟩ := vals1 r
  obtain rfl : u = Value.ref a := ru
  obtain ⟨z, lo, xs, kt, o, es, ep, ho, hc, hdat, hes, _, _⟩ := dt_of I.hok hd
  have raw : s.heap.DictRaw a es ep := ⟨o, ho, hc, hdat⟩
  obtain ⟨ks, eks⟩ : ∃ ks : List TK, ks = xs.map fun x => (x.2.1, x.1) := ⟨_, rfl⟩
  have hks : ks.map (·.2) = kvs.map (·.1) := by rw [eks, List.map_map, kt_keys kt]; rfl
  have htup : ∀ b ∈ ks, H b.1 = some (.tup (b.2.map kV)) := fun b hb => by
    rw [eks] at hb
    obtain ⟨x, hx, rfl⟩ := List.mem_map.mp hb
    exact kt_tup kt x hx
  have hlen : es.size = ks.length := by rw [eks, List.length_map, ← List.length_map (as := xs) (entryOfKey (tupleKind (mixKind X.prog X.w))), ← hes]; simp
  have hkl : ks.length = kvs.length := by have := congrArg List.length hks; simpa using this
  have hmem : ∀ b ∈ ks, ∃ p ∈ kvs, p.1 = b.2 := fun b hb => by
    have : b.2 ∈ kvs.map (·.1) := by rw [← hks]; exact List.mem_map_of_mem (f := fun x : TK => x.2) hb
    exact List.mem_map.mp this
  refine Calls.call_function_entry PyProof.Rows.kind_sorted PyProof.Rows.plain_sorted PyProof.Rows.entry_sorted (PyProof.Rows.args_sorted1 _) ?_
  unfold Builtin.«sorted»
  refine wpAny_bind (m := checkCount "sorted" 1 1 _) (wpAny_pure ?_)
  refine wpAny_bind (PySem.W.kdu_collect (A := X.A.in1) (PySem.KdlSrc.rawDict (es := es) (ep := ep) lo) (I.ok.hd hcalm) raw (by rw [hlen, hkl]; exact z) fun h' tk acc hk hacc => ?_)
  have eacc : acc.toList = ks.map fun b => Value.ref b.1 := by
    refine List.ext_getElem? fun i => ?_
    rw [eks, List.map_map, List.getElem?_map]
    cases e : acc.toList[i]? with
    | none =>
      have h1 := List.getElem?_eq_none_iff.mp e
      rw [Array.length_toList, hacc.1, hlen, eks, List.length_map] at h1
      rw [List.getElem?_eq_none_iff.mpr h1]; rfl
    | some v =>
      obtain ⟨hi, ev⟩ := hacc.2 i v (by rw [← Array.getElem?_toList]; exact e)
      have h2 : es.toList[i]? = some es[i] := by simp [hi]
      rw [hes, List.getElem?_map] at h2
      cases ex : xs[i]? with
      | none => rw [ex] at h2; cases h2
      | some x =>
        rw [ex] at h2
        have h3 : entryOfKey (tupleKind (mixKind X.prog X.w)) x = es[i] := Option.some.inj h2
        rw [ev, ← h3]; rfl
  have I1 : Inv X pins σ H { s with heap := h', toks := tk } := I.kept hk
  have hlz : acc.toList.length ≤ sizeLine := by rw [eacc, List.length_map, hkl]; exact z
  have hv : Vals (ks.map fun b => V.ref b.1) acc.toList := by rw [eacc]; exact vals_tkR ks
  refine wpAny_bind (wpAny_newList ?_ hlz)
  have hoL : (h'.push (seqObj "list" acc.toList.toArray 0)).get? h'.objs.size = some (seqObj "list" acc.toList.toArray 0) := Heap.get?_push_size _ rfl
  show wpAny _ _ _ _ _ { s with heap := h'.push (seqObj "list" acc.toList.toArray 0), toks := tk }
  have er : PySem.W.EachIs (fun (v : Value) (b : TK) => ∃ as, Reads (h'.push (seqObj "list" acc.toList.toArray 0)) v (encT b) as ∧ h'.objs.size ∉ as) acc.toList ks := each_any (each_tks hv) fun b hb => by
    obtain ⟨us, r2, ⟨o, ho, hc, n, hd⟩, _⟩ := I1.tuple (.of (htup b hb))
    exact ⟨[], .tuple (Heap.get?_push_of_some _ ho) hc hd (by simpa using reads_flat r2), by simp⟩
  refine wpAny_bind (wpAny_holding (PySem.W.list_sort_data (β := TK) (enc := encT) (s := { s with heap := h'.push (seqObj "list" acc.toList.toArray 0), toks := tk }) hoL (each_tks hv) er (fun d hd d' hd' => ?_) (.inl fun d hd => ?_) (by rw [hkl]; exact z) (fun b hb => ?_) fun out ho eo => ?_))
  · obtain ⟨x, hx1, rfl⟩ := List.mem_map.mp hd
    obtain ⟨y, hy1, rfl⟩ := List.mem_map.mp hd'
    obtain ⟨p, hp, ep⟩ := hmem x hx1
    obtain ⟨p', hp', ep'⟩ := hmem y hy1
    show PySem.W.alike (.tuple _) (.tuple _) = true
    simp only [PySem.W.alike]
    exact alike_keys _ _ (by rw [← ep, ← ep']; exact hss p hp p' hp')
  · obtain ⟨x, hx1, rfl⟩ := List.mem_map.mp hd
    obtain ⟨p, hp, ep⟩ := hmem x hx1
    have n1 : x.2 ≠ [] := by rw [← ep]; exact hne p hp
    unfold encT
    match x.2, n1 with
    | [], z => exact absurd rfl z
    | y :: l, _ => exact ⟨_, _, rfl⟩
  · have : (encT b).depth = 1 := by
      unfold encT
      simp only [PyData.depth, depth_keys]
    rw [this]
    show X.A.units + 1 + 1 + 1 < cLine
    omega
  obtain ⟨e', he'⟩ := PyProof.Rows.sortedHeap_at (vs := acc.toList) (out := out.toArray) hoL
  have hz2 : ((sortK ks).map fun b => V.ref b.1).length ≤ sizeLine := by rw [List.length_map, (sortK_perm ks).length_eq, hkl]; exact z
  refine wpAny_pure ⟨_, rfl, .ref h'.objs.size, upd H h'.objs.size (.lst ((sortK ks).map fun b => V.ref b.1)), I1.laid (t' := tk) (fun b u e => ?_) (Nat.le_refl _)
    (show ObjOk X.prog X.w _ _ _ (.lst _) from ⟨hz2, out, e', vals_tks eo, he'⟩), rfl, q ks _ hks htup (I1.hok.fresh (Nat.le_refl _))⟩
  have hb : b < h'.objs.size := Heap.lt_size e
  rw [PyProof.Rows.sortedHeap_old (Nat.ne_of_lt hb) (by rw [size_push']; exact Nat.lt_succ_of_lt hb)]
  exact Heap.get?_push_of_some _ e
end
end Gs

set_option Elab.async false
set_option linter.all false
set_option maxRecDepth 100000
set_option maxHeartbeats 4000000
/-! list(range(a, b)) where a, b are ints of any size. -/
namespace Gs
open PySem PySem.Spec PyProof.Rows L2
section
variable {prog : Program} {w : World} {A : Around} {E : Value → Shared → Prop} {s : Shared} {src L : Addr} {lo hi : Int} {t u v : Tok} {m cap : Nat}
abbrev lstO (acc : Array Value) (c : Nat) : Obj := { cls := .type "list", dict := none, data := .seq acc c, slots := #[] }
abbrev itO (lo hi : Int) : Obj := { cls := .type "longrange_iterator", data := .fields #[rawInt lo, rawInt (Builtin.Range.rangeSize lo hi 1), rawInt 1] }
theorem ext_long {R : Result → Shared → Prop} {res : Value} (calm : A.handled = none) (isr : IsRange s.heap src lo hi 1 t u v) (big : Builtin.Range.small lo hi 1 = false) (size : Builtin.Range.rangeSize lo hi 1 = m) (fit : m ≤ 2 ^ 24)
    (isl : s.heap.get? L = some (lstO #[] cap))
    (fin : ∀ h' tk acc c', (∀ b o, b ≠ L → s.heap.get? b = some o → h'.get? b = some o) → h'.get? L = some (lstO acc c') → ItemsOf (fun i v => ∃ t, v = .int (lo + i * 1) t) acc m → R (.ok (.ret res)) { s with heap := h', toks := tk }) :
    wpAny (model prog w) A.in1 (Builtin.List.listExtendWith (.ref L) (.ref src) res)
      (fun f s' => match f with
        | .done r => R (.ok r) s'
        | .again c => c.quiet = true ∧ codeAny (model prog w) A c R s') (fun e s' => R (.error e) s') s := by
  have ne : L ≠ src := fun z => by rw [z, isr] at isl; simp at isl
  have ltL : L < s.heap.objs.size := Heap.lt_size isl
  have neI : L ≠ s.heap.objs.size := Nat.ne_of_lt ltL
  have noI : L ∉ [s.heap.objs.size] := fun z => neI (List.mem_singleton.mp z)
  have walk := (Walks.longrange (prog := prog) (w := w) (A := A.in1) calm s.heap.objs.size lo 1 m).toS
  have loop : ∀ (g : Heap) (c tk : Nat), IsLongIter g s.heap.objs.size (lo + ((0 : Nat) : Int) * 1) ((m : Int) - ((0 : Nat) : Int)) 1 → (∀ b o, b ≠ L → s.heap.get? b = some o → g.get? b = some o) → g.get? L = some (lstO #[] c) →
      codeAny (model prog w) A (.builtin "list.extend.loop" ⟨[.ref L, .ref s.heap.objs.size, res], []⟩) R { s with heap := g, toks := tk } := fun g c tk isI old isL => by
    refine codeAny_extend_loopS walk (by rw [sizeLine_eq]; omega) L noI res m 0 _ #[] c rfl (Nat.zero_le _) isI isL (ItemsOf.nil _) fun s' acc c' mv isL' its => ?_
    rw [Moved.eq_with mv]
    refine fin s'.heap s'.toks acc c' (fun b o nb e => mv.heap b o (fun z => ?_) (old b o nb e)) isL' its
    rcases List.mem_cons.mp z with z | z
    · exact nb z
    · have := Heap.lt_size e
      rw [List.mem_singleton.mp z] at this
      exact Nat.lt_irrefl _ this
  unfold Builtin.List.listExtendWith
  refine wpAny_bind (wpAny_typeOf (T := "range") ⟨_, isr, rfl⟩ ?_)
  rw [show Builtin.List.listSameRef (.ref L) (.ref src) = false by simp [Builtin.List.listSameRef, ne], show (Value.type "range" == Value.type "list") = false by decide, show (Value.type "range" == Value.type "tuple") = false by decide]
  simp only [Bool.or_false, Bool.false_eq_true, if_false]
  have old1 : ∀ {b o}, s.heap.get? b = some o → (s.heap.push (itO lo hi)).get? b = some o := fun e => Heap.get?_push_of_some _ e
  refine wpAny_bind (wpAny_pyIter_longrange isr big ?_)
  refine wpAny_bind (wpAny_holding (wpAny_hint_range (n := m) (old1 isr) size fit ?_))
  have isI : IsLongIter (s.heap.push (itO lo hi)) s.heap.objs.size (lo + ((0 : Nat) : Int) * 1) ((m : Int) - ((0 : Nat) : Int)) 1 := by
    show (s.heap.push (itO lo hi)).get? _ = _
    rw [Heap.get?_push_size _ rfl, ← size]; simp
  refine wpAny_ite_split (fun _ => ?_) (fun _ => wpAny_pure ⟨plainId_quiet F.plain_extend_loop _, loop _ cap _ isI (fun b o _ e => old1 e) (old1 isl)⟩)
  refine wpAny_bind (wpAny_rule (wpAny_bind ?_))
  show wpAny _ _ (updateSeq L (·.push .none) >>= fun _ => updateSeq L (·.pop)) _ _ _
  refine wpAny_bind (wpAny_updateSeq (old1 isl) rfl ?_)
  have isL2 := Heap.get?_update_self (Obj.mapSeq (·.push Value.none)) (old1 isl) rfl
  refine wpAny_updateSeq (hz := by seq_fits) isL2 rfl ?_
  have isL3 := Heap.get?_update_self (Obj.mapSeq (·.pop)) isL2 rfl
  have oth : ∀ {b : Addr} {o : Obj}, b ≠ L → (s.heap.push (itO lo hi)).get? b = some o → (((s.heap.push (itO lo hi)).update L (Obj.mapSeq (·.push Value.none))).update L (Obj.mapSeq (·.pop))).get? b = some o := fun nb e =>
    (Heap.get?_update_other _ _ nb.symm).trans ((Heap.get?_update_other _ _ nb.symm).trans e)
  exact wpAny_pure ⟨plainId_quiet F.plain_extend_loop _, loop _ _ _ (oth neI.symm isI) (fun b o nb e => oth nb (old1 e)) isL3⟩
theorem call_list_long {Q : Value → Shared → Prop} (calm : A.handled = none) (isr : IsRange s.heap src lo hi 1 t u v) (big : Builtin.Range.small lo hi 1 = false) (size : Builtin.Range.rangeSize lo hi 1 = m) (fit : m ≤ 2 ^ 24)
    (fin : ∀ h' tk acc c', (∀ b o, s.heap.get? b = some o → h'.get? b = some o) → h'.get? s.heap.objs.size = some (lstO acc c') → ItemsOf (fun i v => ∃ t, v = .int (lo + i * 1) t) acc m → Q (.ref s.heap.objs.size) { s with heap := h', toks := tk }) :
    wpAny (model prog w) A (call (.type "list") [.ref src]) Q E s := by
  refine callType_codes (Q₁ := fun x s1 => x = .ref s.heap.objs.size ∧ s1 = { s with heap := s.heap.push (lstO #[] 0) }) F.called_list (F.typeCall_list_1 _) F.entry_list_init (code_list_new _ ⟨rfl, rfl⟩) fun x s1 hx => ?_
  obtain ⟨rfl, rfl⟩ := hx
  have isL : (s.heap.push (lstO #[] 0)).get? s.heap.objs.size = some (lstO #[] 0) := Heap.get?_push_size _ rfl
  have isr1 : IsRange (s.heap.push (lstO #[] 0)) src lo hi 1 t u v := Heap.get?_push_of_some _ isr
  have ne : s.heap.objs.size ≠ src := fun z => Nat.lt_irrefl _ (by
    have := Heap.lt_size isr
    rwa [← z] at this)
  refine ⟨⟨_, isL, rfl⟩, F.args_list_init_2 _ _, ?_⟩
  show wpAny _ _ (do let old ← Builtin.List.listItems (.ref s.heap.objs.size); Builtin.List.listUpdate (.ref s.heap.objs.size) (fun _ => #[]); letGo old.toList.reverse; Builtin.List.listExtendWith (.ref s.heap.objs.size) (.ref src) .none) _ _ _
  unfold Builtin.List.listItems
  refine wpAny_bind (wpAny_bind (wpAny_seqItems isL rfl (wpAny_pure ?_)))
  show wpAny _ _ (updateSeq s.heap.objs.size (fun _ => #[]) >>= fun _ => letGo (#[] : Array Value).toList.reverse >>= fun _ => Builtin.List.listExtendWith (.ref s.heap.objs.size) (.ref src) .none) _ _ _
  refine wpAny_bind (wpAny_updateSeq isL rfl (wpAny_bind (wpAny_letGo ?_)))
  have isL2 := Heap.get?_update_self (Obj.mapSeq (fun _ => (#[] : Array Value))) isL rfl
  have oth : ∀ {b : Addr} {o : Obj}, b ≠ s.heap.objs.size → (s.heap.push (lstO #[] 0)).get? b = some o → ((s.heap.push (lstO #[] 0)).update s.heap.objs.size (Obj.mapSeq (fun _ => (#[] : Array Value)))).get? b = some o := fun nb e => (Heap.get?_update_other _ _ nb.symm).trans e
  refine ext_long (A := A.in1) calm (oth ne.symm isr1) big size fit isL2 fun h' tk acc c' old isL' its => ?_
  exact ⟨rfl, fin h' tk acc c' (fun b o e => old b o (Nat.ne_of_lt (Heap.lt_size e)) (oth (Nat.ne_of_lt (Heap.lt_size e)) (Heap.get?_push_of_some _ e))) isL' its⟩
end
section
variable {X : Cx} {e : Expr} {te : L2.St → Hp → (Int → Int → Hp → Prop) → Prop}
/-- list(range(a, b)): not too many -/
def tLstRa (te : L2.St → Hp → (Int → Int → Hp → Prop) → Prop) : TE := fun σ H Q => te σ H fun a b H1 => (b - a).toNat ≤ 2 ^ 24 ∧ ∀ q, H1 q = none → Q (.ref q) (upd H1 q (.lst (rgV a b)))
theorem pe_listRa {p pos : Pos} (hc : X.calm = true) (hg : Gl X "list") (hm : X.mg "list" = none) (he : PRg X e te) (na : starEach [e] X.env = (false, eval e X.env) :: starEach [] X.env := by rfl) :
    PE X (.Call (.Name "list" p) [e] [] pos) (tLstRa te) := by
  refine ⟨fun pins s σ H Q I h => ?_⟩
  have go := thn (he pins s σ H _ I h) (Q' := fun x s1 => wpAny (model X.prog X.w) X.A (call (.type "list") [x]) (EP X pins σ Q) X.xe s1) fun x s1 hx => ?_
  · refine Call_ (ld_blt I hg hm boot_list (PyProof.Rows.callWith_type1 (args_cons (thn go fun x s1 hx => args_nil hx) na) na))
  obtain ⟨r, a, b, t, u, v, H1, rfl, isr, I1, few, q⟩ := hx
  have end_ : ∀ h' tk (acc : Array Value) c', (∀ b o, s1.heap.get? b = some o → h'.get? b = some o) → h'.get? s1.heap.objs.size = some (lstO acc c') → ItemsOf (fun i v => ∃ t, v = .int (a + i * 1) t) acc (b - a).toNat → EP X pins σ Q (.ref s1.heap.objs.size) { s1 with heap := h', toks := tk } := fun h' tk acc c' old isL its => by
    refine ⟨.ref s1.heap.objs.size, upd H1 s1.heap.objs.size (.lst (rgV a b)), I1.laid old (Nat.le_refl _) (show ObjOk X.prog X.w _ _ _ (.lst (rgV a b)) from ⟨?_, acc.toList, c', vals_rg its, ?_⟩), rfl, q _ (I1.hok.fresh (Nat.le_refl _))⟩
    · rw [rgV_length, sizeLine_eq]; omega
    · rw [Array.toArray_toList]; exact isL
  cases sm : Builtin.Range.small a b 1 with
  | true => exact call_list_range (n := (b - a).toNat) (I1.ok.hd hc) isr sm (rangeSize_nat a b) few end_
  | false => exact call_list_long (m := (b - a).toNat) (I1.ok.hd hc) isr sm (rangeSize_nat a b) few end_
end
end Gs

set_option Elab.async false
set_option linter.all false
set_option maxRecDepth 100000
set_option maxHeartbeats 4000000
/-! rules whose reading names K, for a comprehension in a comprehension. -/
namespace Gs
open PySem PySem.Spec PyProof.Rows L2
section
variable {X : Cx} {K : PySem.W.Frag} {l o e tg : Expr} {tl to te : TE}
theorem pi_listK (hK : X.K = K) (hl : PE X l tl) : PI X tg l (iList K tl) := by
  subst hK; exact pi_list hl
def rJoin (K : PySem.W.Frag) : V → List V → Hp → VK → Prop := fun x xs H Q => ∃ a p, ∃ ys : List Str, x = .str a ∧ xs = [.ref p] ∧ (SqL K H p (ys.map V.str) ∨ SqT K H p (ys.map V.str)) ∧
  (ys.map (·.length)).sum + ys.length * a.length ≤ 16777216 ∧ Q (.str (Txt.join a ys)) H
theorem pe_joinK {apos pos : Pos} (hK : X.K = K) (ho : PE X o to) (he : PE X e te) (hs : starEach [e] X.env = [(false, eval e X.env)] := by rfl) (hbase : attributeBase o "join" X.env (eval o X.env) = eval o X.env := by rfl) (hline : (apos.endLine == pos.line) = true := by rfl) :
    PE X (.Call (.Attribute o "join" apos) [e] [] pos) (tM1 (rJoin K) to te) := by
  subst hK; exact pe_join ho he hs hbase hline
end
def hd0 (z : Str) : Str := ⟨#[z.cps.toList.headD 0]⟩
theorem at0 {z : Str} (h : 1 ≤ z.length) : atI z.cps.toList 0 = some (z.cps.toList.headD 0) := by
  have h : 1 ≤ z.cps.toList.length := by rw [Array.length_toList]; exact h
  match e : z.cps.toList, h with
  | c :: r, _ => exact (atI_nat (xs := c :: r) (j := 0) (v := c) (by simp))
theorem slice1 {z : Str} (h : 1 ≤ z.length) : Txt.slice z none (some 1) = hd0 z := by
  rw [← C8.cutS_slice]
  obtain ⟨⟨l⟩⟩ := z
  match l, h with
  | c :: r, h =>
    unfold cutS hd0
    have e : HT.sIx (Str.mk ⟨c :: r⟩).length (Str.mk ⟨c :: r⟩).length (some (1 : Int)) = 1 := by
      have := HT.sIx_nat (Str.mk ⟨c :: r⟩).length (Str.mk ⟨c :: r⟩).length 1
      rw [show (some (1 : Int)) = some ((1 : Nat) : Int) from rfl, this]
      exact Nat.min_eq_left h
    rw [HT.sIx_none, e]
    simp
theorem hd0_len (z : Str) : (hd0 z).length = 1 := rfl
theorem up_len (z : Str) : (Txt.upper (hd0 z)).length ≤ 3 := PyProof.Rows.len_upper (hd0 z)
end Gs

set_option Elab.async false
set_option linter.all false
set_option maxRecDepth 100000
set_option maxHeartbeats 4000000
/-! == of tuples of own instances, alike or not. -/
namespace Gs
open PySem PySem.Spec PyProof.Rows L2
open PySem.SeqAt
open AutoSeq1 (wpAny_loadPart')
open MeetsSeq MeetsSeq2 MeetsSeq3 SeqRoads2
def allTo (e : Nat → Bool) (n : Nat) : Bool := (List.range n).all e
theorem allTo_iff {e : Nat → Bool} {n : Nat} : allTo e n = true ↔ ∀ j, j < n → e j = true := by
  unfold allTo
  rw [List.all_eq_true]
  exact ⟨fun h j hj => h j (List.mem_range.mpr hj), fun h j hj => h j (List.mem_range.mp hj)⟩
theorem allTo_false {e : Nat → Bool} {n i : Nat} (hi : i < n) (h : e i = false) : allTo e n = false := by
  cases c : allTo e n with
  | false => rfl
  | true => rw [allTo_iff.mp c i hi] at h; cases h
section
variable {prog : Program} {w : World} {A : Around} {R : Result → Shared → Prop}
theorem tup_eqB (l m : Addr) (xs ys : Array Value) (n n2 : Nat) (d1 d2 : Option Addr) (s1 s2 : Array (Option Value)) (e : Nat → Bool) (I : Nat → Shared → Prop)
    (turn : ∀ i (h1 : i < xs.size) (h2 : i < ys.size) s, I i s → wpAny (model prog w) A.in1 (eqBool xs[i] ys[i]) (fun r s' => r = e i ∧ I (i + 1) s') (fun e s' => R (.error e) s') s)
    (fin : ∀ i s, I i s → R (.ok (.ret (.bool (allTo e (min xs.size ys.size) && decide (xs.size = ys.size))))) s) {s : Shared} (hl : s.heap.get? l = some { cls := .type "tuple", dict := d1, data := .seq xs n, slots := s1 })
    (hm : s.heap.get? m = some { cls := .type "tuple", dict := d2, data := .seq ys n2, slots := s2 }) (h : I 0 s) :
    wpAny (model prog w) A.in1 (Builtin.«tuple.__eq__» ⟨[.ref l, .ref m], []⟩) (GQ.FinOf prog w A R) (fun e s' => R (.error e) s') s := by
  have sub := AutoSeq1.sub_tuple_tuple
  have len : (xs.toList.zip ys.toList).length = min xs.size ys.size := by simp
  have h0 := h
  obtain ⟨hp, g, d, tk, os⟩ := s
  wp_walk using wpAny_loadPart' hl, wpAny_loadPart' hm, wpAny_forIn_list _ (fun rest b s' => b.1 = none ∧ ∃ i, rest = (xs.toList.zip ys.toList).drop i ∧ i ≤ min xs.size ys.size ∧ (∀ j, j < i → e j = true) ∧ I i s') _
  case turn =>
    rintro ⟨y, x⟩ rest b s' ⟨hb, i, hz, hi, hj, hI⟩
    have lt : i < (xs.toList.zip ys.toList).length := by
      rcases Nat.lt_or_ge i (xs.toList.zip ys.toList).length with c | c
      · exact c
      · rw [List.drop_of_length_le c] at hz; cases hz
    have ltm := len ▸ lt
    have h1 : i < xs.size := by omega
    have h2 : i < ys.size := by omega
    rw [List.drop_eq_getElem_cons lt] at hz
    obtain ⟨hp1, hrest⟩ := List.cons.inj hz
    have hy : y = xs[i] := by simpa using congrArg Prod.fst hp1
    have hx : x = ys[i] := by simpa using congrArg Prod.snd hp1
    subst hy hx
    refine wpAny_bind (wpAny_mono (turn i h1 h2 s' hI) (fun r s2 q => ?_) fun _ _ x => x)
    obtain ⟨hr, q⟩ := q
    cases he : e i with
    | true =>
      rw [he] at hr
      subst hr
      wp_walk
      refine ⟨rfl, i + 1, hrest, by omega, fun j jl => ?_, q⟩
      rcases Nat.lt_succ_iff_lt_or_eq.mp jl with c | c
      · exact hj j c
      · rw [c]; exact he
    | false =>
      rw [he] at hr
      subst hr
      have k := fin (i + 1) s2 q
      rw [allTo_false ltm he] at k
      wp_walk
      exact k
  case fin =>
    rintro ⟨b1, b2⟩ s' ⟨hb, i, hz, hi, hj, hI⟩
    simp only at hb
    subst hb
    have ge : min xs.size ys.size ≤ i := by
      rcases Nat.lt_or_ge i (xs.toList.zip ys.toList).length with c | c
      · rw [List.drop_eq_getElem_cons c] at hz; cases hz
      · rw [← len]; exact c
    have k := fin i s' hI
    rw [allTo_iff.mpr fun j jl => hj j (by omega), Bool.true_and] at k
    wp_walk
    have e2 : Builtin.Tuple.tupleCompareSizes CmpOp.Eq xs.size ys.size = .bool (decide (xs.size = ys.size)) := rfl
    first
      | exact k
      | (rw [e2]; exact k)
  case h =>
    exact ⟨rfl, 0, rfl, Nat.zero_le _, fun _ z => absurd z (Nat.not_lt_zero _), h0⟩
end
end Gs

set_option Elab.async false
set_option linter.all false
set_option maxRecDepth 100000
set_option maxHeartbeats 4000000
/-! == with both outcomes: instances with an own ==, tuples of such. -/
namespace Gs
open PySem PySem.Spec PyProof.Rows L2
abbrev EqvB := V → V → Bool → Hp → Prop
def MonB (D : EqvB) : Prop := ∀ x y b H H', Same H H' → D x y b H → D x y b H'
/-- == inside a list or tuple tells b, and only makes objects -/
def EqW (X : Cx) (n : Nat) (D : EqvB) : Prop :=
  ∀ (A : Around) (pins : List (Addr × Obj)) (s : Shared) (σ : L2.St) (H : Hp) (x y : V) (u v : Value) (b : Bool), Sub X n A → L2.Inv X pins σ H s → L2.RelV x u → L2.RelV y v → D x y b H →
    wpAny (model X.prog X.w) A (eqBool u v) (fun r s' => r = b ∧ ∃ H', L2.Inv X pins σ H' s' ∧ Same H H') X.xe s
/-- the same of the rich comparison -/
def RcW (X : Cx) (n : Nat) (D : EqvB) : Prop :=
  ∀ (A : Around) (pins : List (Addr × Obj)) (s : Shared) (σ : L2.St) (H : Hp) (x y : V) (u v : Value) (b : Bool), Sub X n A → L2.Inv X pins σ H s → L2.RelV x u → L2.RelV y v → D x y b H →
    wpAny (model X.prog X.w) A (richCompare .Eq u v) (fun r s' => r = .bool b ∧ ∃ H', L2.Inv X pins σ H' s' ∧ Same H H') X.xe s
section
variable {X : Cx} {n m : Nat} {D : EqvB}
theorem RcW.eqW (h : RcW X n D) (hr : ∀ x y b H, D x y b H → (∃ a c, x = .ref a ∧ y = .ref c) ∧ (x = y → b = true)) : EqW X n D := by
  intro A pins s σ H x y u v b sb I rx ry d
  obtain ⟨⟨a, c, rfl, rfl⟩, same⟩ := hr _ _ _ _ d
  cases rx
  cases ry
  by_cases hac : a = c
  · subst hac
    rw [same rfl]
    exact SeqAt.EqAt.same (A := A) (s := s) (.ref a) X.prog X.w X.xe _ ⟨rfl, H, I, fun _ _ h => h⟩
  · refine GQ.eqBool_refG hac (wpAny_mono (h A pins s σ H (.ref a) (.ref c) _ _ b sb I rfl rfl d) (fun r s' q => ?_) fun _ _ x => x)
    obtain ⟨e, q⟩ := q
    exact ⟨b, e, rfl, q⟩
/-- .. what stands on the heap may tell that one is like itself -/
theorem RcW.eqWI (h : RcW X n D) (hr : ∀ pins s σ x y b H, L2.Inv X pins σ H s → D x y b H → (∃ a c, x = .ref a ∧ y = .ref c) ∧ (x = y → b = true)) : EqW X n D := by
  intro A pins s σ H x y u v b sb I rx ry d
  obtain ⟨⟨a, c, rfl, rfl⟩, same⟩ := hr _ _ _ _ _ _ _ I d
  cases rx
  cases ry
  by_cases hac : a = c
  · subst hac
    rw [same rfl]
    exact SeqAt.EqAt.same (A := A) (s := s) (.ref a) X.prog X.w X.xe _ ⟨rfl, H, I, fun _ _ h => h⟩
  · refine GQ.eqBool_refG hac (wpAny_mono (h A pins s σ H (.ref a) (.ref c) _ _ b sb I rfl rfl d) (fun r s' q => ?_) fun _ _ x => x)
    obtain ⟨e, q⟩ := q
    exact ⟨b, e, rfl, q⟩
/-- an instance's own ==: what it promises -/
def spEqW (R : Addr → Addr → Bool → Hp → Prop) : Sp := fun vs H Q _ => ∃ a c b, vs = [.ref a, .ref c] ∧ R a c b H ∧ ∀ H', Same H H' → Q (.bl b) H'
def DInsW (C : Addr) (R : Addr → Addr → Bool → Hp → Prop) : EqvB := fun x y b H => ∃ a c dx dy fs gs, x = .ref a ∧ y = .ref c ∧ H a = some (.ins C dx fs) ∧ H c = some (.ins C dy gs) ∧ R a c b H
theorem rcW_ins {CX : CXT} {C f : Addr} {fd : FuncData} {ps : List Str} {R : Addr → Addr → Bool → Hp → Prop} {E : XK} (F : FnOk X.prog X.w X.K X.mg X.base CX n f fd ps (spEqW R))
    (hs : PySem.W.findIn X.K (.ref C) "__eq__" = some (some (.ref f))) (hf : PySem.W.isFn X.K (.ref f) = true) (hb : Binds X.K fd ps []) (hx : Passes CX X E) : RcW X n (DInsW C R) := by
  intro A pins s σ H x y u v b sb I rx ry d
  obtain ⟨a, c, dx, dy, fs, gs, rfl, rfl, ha, hc, hr⟩ := d
  cases rx
  cases ry
  obtain ⟨_, La, _⟩ := ins_get I.hok ha
  obtain ⟨_, Lc, _⟩ := ins_get I.hok hc
  obtain ⟨_, La, _⟩ := La.look
  obtain ⟨_, Lc, _⟩ := Lc.look
  obtain ⟨_, fr⟩ := I.fr
  refine PySem.W.cmp_K (tb := .ref C) (op := .Eq) sb.room.units0 fr I.ok.mod.kin La Lc.type (by simp [PySem.W.notFirst]) hs hf ?_
  have hsp : spEqW R [.ref a, .ref c] H (fun v H' => v = .bl b ∧ Same H H') E := ⟨a, c, b, rfl, hr, fun H' e => ⟨rfl, e⟩⟩
  have env := I.env0
  have e0 : Env0 X.prog X.w X.K X.mg X.base A X.stack s H := ⟨by rw [sb.fr]; exact env.frames, env.mod, env.bs, env.bsz, env.funs, env.frf, env.hok, env.bare⟩
  have hl := F.len _ _ _ _ hsp
  have r2 : Vals [V.ref a, V.ref c] [Value.ref a, Value.ref c] := .cons rfl (.cons rfl .nil)
  have bind := hb s [.ref a, .ref c] I.kIn (by simpa using hl)
  refine wpAny_call (codeAny_mono (F.run A X.stack s H ⟨[.ref a, .ref c], []⟩ [.ref a, .ref c] [.ref a, .ref c] _ E sb.room e0 (by simpa using bind) r2 hsp) fun r s' hq => ?_)
  match r, hq with
  | .error e, hq => exact hx pins σ H s e s' I hq
  | .ok (.ret w), hq =>
    obtain ⟨z, H', I', rz, ez, ex⟩ := I.after hq
    subst ez
    cases rz
    exact ⟨rfl, H', I', ex⟩
  | .ok .next, hq => exact False.elim hq
  | .ok .brk, hq => exact False.elim hq
  | .ok .cont, hq => exact False.elim hq
/-- item by item -/
def DTupW (K : PySem.W.Frag) (D : EqvB) : EqvB := fun x y b H => ∃ a c xs ys e, x = .ref a ∧ y = .ref c ∧ SqT K H a xs ∧ SqT K H c ys ∧ (∀ (i : Nat) x y, xs[i]? = some x → ys[i]? = some y → D x y (e i) H) ∧ b = (allTo e (min xs.length ys.length) && decide (xs.length = ys.length))
theorem sqT_same {K : PySem.W.Frag} {H H' : Hp} {a : Addr} {xs : List V} (h : SqT K H a xs) (e : Same H H') : SqT K H' a xs := e.seqT h
theorem rcW_tup (hD : MonB D) (h : EqW X n D) : RcW X (n + 1) (DTupW X.K D) := by
  intro A pins s σ H x y u v b sb I rx ry d
  obtain ⟨a, c, xs, ys, e, rfl, rfl, ha, hc, p, eb⟩ := d
  cases rx
  cases ry
  obtain ⟨its, r, ht, z⟩ := I.tuple ha
  obtain ⟨its2, r2, ht2, z2⟩ := I.tuple hc
  obtain ⟨⟨cls, dd, data, sl⟩, ho, hcl, k, hd⟩ := id ht
  obtain ⟨⟨cls2, dd2, data2, sl2⟩, ho2, hcl2, k2, hd2⟩ := id ht2
  simp only at hcl hd hcl2 hd2
  subst hcl hd hcl2 hd2
  refine wpAny_richCompare_same_room (op := .Eq) ⟨_, ho, rfl⟩ ⟨_, ho2, rfl⟩ F.slot_tuple_eq (GQ.call_here F.slot_tuple_eq ⟨_, ho, rfl⟩ F.entry_tuple_eq (F.args_tuple_eq_2 _ _) ?_) sb.room.units0
  have l1 : its.toArray.size = xs.length := by rw [List.size_toArray, ← r.length]
  have l2 : its2.toArray.size = ys.length := by rw [List.size_toArray, ← r2.length]
  refine tup_eqB (R := wants (fun v s' => v ≠ .notImplemented ∧ v = .bool b ∧ ∃ H', L2.Inv X pins σ H' s' ∧ Same H H') X.xe) a c its.toArray its2.toArray k k2 dd dd2 sl sl2 e (fun _ s' => ∃ H', L2.Inv X pins σ H' s' ∧ Same H H') (fun i h1 h2 s' q => ?_) (fun i s' q => ?_) ho ho2 ⟨H, I, fun _ _ h => h⟩
  · obtain ⟨H1, I1, e1⟩ := q
    have k1 : i < xs.length := by omega
    have k2 : i < ys.length := by omega
    obtain ⟨u, eu, ru⟩ := r.get (List.getElem?_eq_getElem k1)
    obtain ⟨v, ev, rv⟩ := r2.get (List.getElem?_eq_getElem k2)
    have g1 : its[i]? = some its.toArray[i] := by
      rw [List.getElem?_eq_getElem (by simpa using h1)] <;> simp
    have g2 : its2[i]? = some its2.toArray[i] := by
      rw [List.getElem?_eq_getElem (by simpa using h2)] <;> simp
    have eu := g1.symm.trans eu
    have ev := g2.symm.trans ev
    rw [Option.some.inj eu, Option.some.inj ev]
    refine wpAny_mono (h A.in1 pins s' σ H1 _ _ u v (e i) sb.in1 I1 ru rv (hD _ _ _ _ _ e1 (p i _ _ (List.getElem?_eq_getElem k1) (List.getElem?_eq_getElem k2)))) (fun r s2 q => ?_) fun _ _ x => x
    exact ⟨q.1, q.2.choose, q.2.choose_spec.1, e1.trans q.2.choose_spec.2⟩
  · rw [l1, l2, ← eb]
    exact ⟨(fun z => nomatch z), rfl, q⟩
/-- x == y, x != y as expressions -/
def rEqW (D : EqvB) : R2 := fun x y H Q => ∃ b, D x y b H ∧ ∀ H', Same H H' → Q (.bl b) H'
theorem op_eqW (h : RcW X n D) (hr : Room n X.A) : OpR X (compareOp .Eq) (rEqW D) := by
  intro pins s σ H x y v u Q I rx ry ⟨b, d, q⟩
  change wpAny _ X.A (richCompare .Eq v u) _ _ s
  refine wpAny_mono (h X.A pins s σ H x y v u b ⟨hr, rfl⟩ I rx ry d) (fun r s' z => ?_) fun _ _ x => x
  obtain ⟨e, H', I', g⟩ := z
  subst e
  exact ⟨.bl b, H', I', rfl, q H' g⟩
end
end Gs

set_option Elab.async false
set_option linter.all false
set_option maxRecDepth 100000
set_option maxHeartbeats 4000000
/-! Layer G41: a dict is like no tuple. -/
namespace PySem.SeqAt
open AutoSeq1 (wpAny_loadPart')
open MeetsSeq
theorem sub_tuple_dict : isSubtype (.type "tuple") (.type "dict") = pure false := by rw [isSubtype_type]; kernel_rfl
theorem sub_dict_tuple : isSubtype (.type "dict") (.type "tuple") = pure false := by rw [isSubtype_type]; kernel_rfl
theorem tuple_eq_declines_dict (l b : Addr) (items : Array Value) (n : Nat) (dd dd2 : Option Addr) (sl sl2 : Array (Option Value)) (dt : Data) :
    Meets (Builtin.«tuple.__eq__» ⟨[.ref l, .ref b], []⟩) (fun _ R s => s.heap.get? l = some { cls := .type "tuple", dict := dd, data := .seq items n, slots := sl } ∧ s.heap.get? b = some { cls := .type "dict", dict := dd2, data := dt, slots := sl2 } ∧ R (.ok (.ret .notImplemented)) s) :=
  .of_wp fun prog w A R s h => by obtain ⟨hp, g, d, tk, os⟩ := s; obtain ⟨hl, hb, h⟩ := h; have f1 := sub_dict_tuple; wp_walk using wpAny_loadPart' hl, wpAny_loadPart' hb; exact ⟨_, rfl, h⟩
section
variable {prog : Program} {w : World} {A : Around} {E : Value → Shared → Prop} {s : Shared}
theorem rc_dict_tuple {l b : Addr} {o : Obj} {items : Array Value} {Q : Value → Shared → Prop} (ho : s.heap.get? l = some o) (hc : o.cls = .type "dict") (hb : s.heap.IsTuple b items) (hu : A.units < cLine) (h : Q (.bool false) s) :
    wpAny (model prog w) A (richCompare .Eq (.ref l) (.ref b)) Q E s := by
  obtain ⟨⟨cls2, dd2, data2, sl2⟩, ho2, hc2, n2, hd2⟩ := id hb
  obtain ⟨cls, dd, dt, sl⟩ := o
  simp only at hc hc2 hd2
  subst hc hc2 hd2
  have hne : l ≠ b := fun e => by
    subst e
    rw [ho] at ho2
    exact absurd (congrArg Obj.cls (Option.some.inj ho2)) (by simp)
  have dl : s.TypeIs (.ref l) "dict" := ⟨_, ho, rfl⟩
  have db : s.TypeIs (.ref b) "tuple" := ⟨_, ho2, rfl⟩
  refine rc_eq_decline_or (k := false) dl db (by decide) sub_tuple_dict F.slot_dict_eq F.slot_tuple_eq_refl (fun Q' hq => ?_)
    (fun _ hq => call_meets F.slot_tuple_eq_refl db F.entry_tuple_eq (F.args_tuple_eq_2 _ _) (tuple_eq_declines_dict b l items n2 dd2 dd sl2 sl dt) ⟨ho2, ho, hq⟩)
    (fun _ hq => wpAny_isSame_ref_other hne ho ho2 (by simp) hq) (.inr hu) h
  refine wpAny_call_entry F.slot_dict_eq dl F.entry_dict_eq ?_ (F.args_dict_eq_2 _ _)
  show wpAny _ _ (Builtin.Dict.dictSlotArgs "__eq__" ⟨[.ref l, .ref b], []⟩ >>= _) _ _ s
  refine wpAny_bind ?_
  unfold Builtin.Dict.dictSlotArgs
  refine wpAny_bind (PySem.wpAny_notOrdered_dict dl ?_)
  show wpAny _ _ (pure (Value.ref l, Value.ref b)) _ _ s
  refine wpAny_pure ?_
  refine wpAny_bind (wpAny_isInstance db sub_tuple_dict ?_)
  simp only [Bool.not_false, if_true]
  exact wpAny_bind (wpAny_rule (wpAny_pure ⟨_, rfl, hq⟩))
end
end PySem.SeqAt
namespace Gs
open PySem PySem.Spec PyProof.Rows L2
open MeetsSeq
/-- data; the same thing; a dict and a tuple -/
def DMix (K : PySem.W.Frag) : EqvB := fun x y b H => (∃ d e, Dp K H x d ∧ Dp K H y e ∧ SeqAt.shaped d = true ∧ SeqAt.shaped e = true ∧ b = PyData.eqv d e) ∨ (∃ a, x = .ref a ∧ y = .ref a ∧ b = true) ∨
  ∃ a c kvs xs, x = .ref a ∧ y = .ref c ∧ H a = some (.dK kvs) ∧ SqT K H c xs ∧ b = false
section
variable {K : PySem.W.Frag} {H H' : Hp}
mutual
theorem dp_same (e : Same H H') : ∀ (d : PyData) (v : V), Dp K H v d → Dp K H' v d
  | .none, _, h => by cases h; exact .non
  | .bool _, _, h => by cases h; exact .bl _
  | .int _, _, h => by cases h; exact .int _
  | .str _, _, h => by cases h; exact .str _
  | .list ds, _, h => by
    cases h with
    | lst s r => exact .lst (e.seq s) (dps_same e ds _ r)
  | .tuple ds, _, h => by
    cases h with
    | tup s r => exact .tup (e.seqT s) (dps_same e ds _ r)
  | .dict ps, _, h => by cases h
theorem dps_same (e : Same H H') : ∀ (ds : List PyData) (vs : List V), DpAll K H vs ds → DpAll K H' vs ds
  | [], _, h => by cases h; exact .nil
  | d :: ds, _, h => by
    cases h with
    | cons a b => exact .cons (dp_same e d _ a) (dps_same e ds _ b)
end
end
theorem mon_mix {K : PySem.W.Frag} : MonB (DMix K) := fun x y b H H' s h => by
  rcases h with ⟨d, e, h1, h2, r⟩ | h | ⟨a, c, kvs, xs, r1, r2, h1, h2, r3⟩
  · exact .inl ⟨d, e, dp_same s d x h1, dp_same s e y h2, r⟩
  · exact .inr (.inl h)
  · exact .inr (.inr ⟨a, c, kvs, xs, r1, r2, s _ _ h1, s.seqT h2, r3⟩)
theorem eqW_mix {X : Cx} : EqW X 70 (DMix X.K) := by
  intro A pins s σ H x y u v b sb I rx ry h
  have hu := sb.room.units
  rcases h with ⟨d, e, h1, h2, s1, s2, rfl⟩ | ⟨a, rfl, rfl, rfl⟩ | ⟨a, c, kvs, xs, rfl, rfl, h1, h2, rfl⟩
  · obtain ⟨as, r1⟩ := Dp.reads I d x u h1 rx
    obtain ⟨bs, r2⟩ := Dp.reads I e y v h2 ry
    exact SeqAt.eqAt_reads d e A s u v as bs r1 r2 (SeqAt.canLay_of_shaped s1) (SeqAt.canLay_of_shaped s2) (SeqAt.room_of_shaped s1 (by omega)) X.prog X.w X.xe _ ⟨rfl, H, I, Same.refl H⟩
  · cases rx
    cases ry
    exact SeqAt.EqAt.same (A := A) (s := s) (.ref a) X.prog X.w X.xe _ ⟨rfl, H, I, Same.refl H⟩
  · cases rx
    cases ry
    obtain ⟨_, _, vs, _, o, es, ep, ho, hx, _⟩ := I.hok _ _ h1
    obtain ⟨its, rv, ht, _⟩ := I.tuple h2
    have hne : a ≠ c := fun e => by
      subst e
      obtain ⟨o2, ho2, hc2, _⟩ := id ht
      rw [ho] at ho2
      have e3 := Option.some.inj ho2
      rw [← e3, hx.1] at hc2
      exact absurd hc2 (by simp)
    refine GQ.eqBool_refG hne (SeqAt.rc_dict_tuple ho hx.1 ht (by omega) ⟨false, rfl, rfl, H, I, Same.refl H⟩)
end Gs

set_option Elab.async false
set_option linter.all false
set_option maxRecDepth 100000
set_option maxHeartbeats 4000000
/-! Layer G42: x == y where y's class is below x's: y's own __eq__ is asked first. -/
namespace PySem.W
open PySem PySem.Spec PySem.Calls PyProof.Rows
section
variable {prog : Program} {w : World} {A : Around} {E : Value → Shared → Prop} {s : Shared} {K : Frag} {x C y D f : Addr} {ox oy : Obj} {od oe : Option Obj}
theorem cmp_Kr {Q : Value → Shared → Prop} (hu : A.units < cLine) (X : K.In s.heap) (I : InstAt s.heap x ox C od) (J : InstAt s.heap y oy D oe) (hne : (Value.ref C != Value.ref D) = true) (hsub : subIn K (.ref D) (.ref C) = some true)
    (hs : findIn K (.ref D) "__eq__" = some (some (.ref f))) (hf : isFn K (.ref f) = true) (h : wpAny (model prog w) A (call (.ref f) [.ref y, .ref x]) (CmpBack Q) E s) : wpAny (model prog w) A (richCompare .Eq (.ref x) (.ref y)) Q E s := by
  have one : wpAny (model prog w) A (tryCompare (.ref y) "__eq__" (.ref x)) (fun r s' => ∃ v, r = some v ∧ Q v s') E s := by
    unfold tryCompare
    refine wpAny_bind (ifBound_K X J hs hf (wpAny_mono h (fun v s' hv => ?_) fun _ _ e => e))
    cases v <;> first | exact hv.elim | exact wpAny_pure ⟨_, rfl, hv⟩
  unfold richCompare
  simp only [oneThing_ref]
  refine wpAny_holding (wpAny_bind (wpAny_cRoomFor hu ?_))
  refine wpAny_bind (I.type.here (wpAny_bind (J.type.here ?_)))
  rw [if_pos hne]
  refine wpAny_bind ((looks_subIn X hsub).here ?_)
  rw [if_pos rfl]
  refine wpAny_bind (wpAny_mono one (fun r s' z => ?_) fun _ _ e => e)
  obtain ⟨v, rfl, hq⟩ := z
  exact wpAny_bind (wpAny_rule (wpAny_pure hq))
end
end PySem.W
namespace Gs
open PySem PySem.Spec PyProof.Rows L2
section
variable {X : Cx} {CX : CXT} {k : Nat} {f C D : Addr} {fd : FuncData} {ps : List Str} {sp : Sp} {E : XK}
def rOwnR (C D : Addr) (sp : Sp) (E : XK) : R2 := fun x y H Q => ∃ (a dx b dy : Addr) (fs gs : List (Str × V)), x = .ref a ∧ H a = some (.ins C dx fs) ∧ y = .ref b ∧ H b = some (.ins D dy gs) ∧ sp [.ref b, .ref a] H (fun v H' => ∃ r, v = .bl r ∧ Q (.bl r) H') E
theorem op_eqOwnR (O : OwnC X.K D f) (hne : (Value.ref C != Value.ref D) = true) (hsub : PySem.W.subIn X.K (.ref D) (.ref C) = some true) (F : FnOk X.prog X.w X.K X.mg X.base CX k f fd ps sp) (hr : Room k X.A) (hb : Binds X.K fd ps []) (hx : Passes CX X E) :
    OpR X (compareOp .Eq) (rOwnR C D sp E) := by
  intro pins s σ H x y v u Q I rx ry h
  obtain ⟨a, dx, b, dy, fs, gs, rfl, ha, rfl, hb2, q⟩ := h
  cases (show v = Value.ref a from rx)
  cases (show u = Value.ref b from ry)
  obtain ⟨_, J0, _⟩ := ins_get I.hok ha
  obtain ⟨_, J, _⟩ := J0.look
  obtain ⟨_, J1, _⟩ := ins_get I.hok hb2
  obtain ⟨_, J2, _⟩ := J1.look
  change wpAny _ X.A (richCompare .Eq (.ref a) (.ref b)) _ _ s
  refine PySem.W.cmp_Kr (by have := hr.units; omega) I.kIn J J2 hne hsub O.eq O.fe ?_
  refine wpAny_mono (run_sub (A := X.A) F hr rfl hb hx I (.cons (rel_ref b) (.cons (rel_ref a) .nil)) q) (fun z s' hz => ?_) fun _ _ e => e
  obtain ⟨v', H', I', rv, r, rfl, qq⟩ := hz
  cases rv
  exact ⟨.bl r, H', I', rfl, qq⟩
end
end Gs

set_option Elab.async false
set_option linter.all false
set_option maxRecDepth 100000
set_option maxHeartbeats 4000000
/-! Layer G43: data that is fixed: its size, its depth; data without dicts. -/
namespace Gs
open PySem PySem.Spec PyProof.Rows L2
mutual
theorem fix_same : ∀ d : PyData, (fixD d).showable = d.showable ∧ (fixD d).depth = d.depth ∧ (fixD d).leavesShort 1100 = d.leavesShort 1100 ∧ (fixD d).bulk = d.bulk ∧ (fixD d).canLay0 = d.canLay0
  | .none => ⟨rfl, rfl, rfl, rfl, rfl⟩
  | .bool _ => ⟨rfl, rfl, rfl, rfl, rfl⟩
  | .int _ => ⟨rfl, rfl, rfl, rfl, rfl⟩
  | .str _ => ⟨rfl, rfl, rfl, rfl, rfl⟩
  | .dict _ => ⟨rfl, rfl, rfl, rfl, rfl⟩
  | .list ds => by
    obtain ⟨a, b, c, d, e⟩ := fixs_same ds
    simp only [fixD, PyData.showable, PyData.depth, PyData.leavesShort, PyData.bulk, PyData.canLay0, a, b, c, d, e, and_self]
  | .tuple ds => by
    obtain ⟨a, b, c, d, e⟩ := fixs_same ds
    simp only [fixD, PyData.showable, PyData.depth, PyData.leavesShort, PyData.bulk, PyData.canLay0, a, b, c, d, e, and_self]
theorem fixs_same : ∀ ds : List PyData, PyData.showableAll (fixDs ds) = PyData.showableAll ds ∧ PyData.depthAll (fixDs ds) = PyData.depthAll ds ∧ PyData.leavesShortAll 1100 (fixDs ds) = PyData.leavesShortAll 1100 ds ∧ PyData.bulkAll (fixDs ds) = PyData.bulkAll ds ∧ PyData.canLayAll0 (fixDs ds) = PyData.canLayAll0 ds
  | [] => ⟨rfl, rfl, rfl, rfl, rfl⟩
  | d :: ds => by
    obtain ⟨a, b, c, f, e⟩ := fix_same d
    obtain ⟨a', b', c', f', e'⟩ := fixs_same ds
    simp only [fixDs, PyData.showableAll, PyData.depthAll, PyData.leavesShortAll, PyData.bulkAll, PyData.canLayAll0, a, b, c, f, e, a', b', c', f', e', and_self]
end
theorem Fine.fix {k n : Nat} {d : PyData} (h : Fine k n d) : Fine k n (fixD d) := by
  obtain ⟨a, b, c, e, _⟩ := fix_same d
  exact ⟨a.trans h.sh, Nat.le_trans (Nat.le_of_eq b) h.dp, c.trans h.lf, Nat.le_trans (Nat.le_of_eq e) h.bk⟩
section
variable {K : PySem.W.Frag} {c : Addr} {H : Hp}
mutual
theorem DV.dp : ∀ (d : PyData) (v : V), DV K c H v d → d.canLay0 = true → Dp K H v d
  | .none, _, h, _ => by cases h; exact .non
  | .bool _, _, h, _ => by cases h; exact .bl _
  | .int _, _, h, _ => by cases h; exact .int _
  | .str _, _, h, _ => by cases h; exact .str _
  | .list ds, _, h, k => by
    cases h with
    | lst n s r => exact .lst s (DVs.dp ds _ r k)
  | .tuple ds, _, h, k => by
    cases h with
    | tup n s r => exact .tup s (DVs.dp ds _ r k)
  | .dict _, _, _, k => by cases k
theorem DVs.dp : ∀ (ds : List PyData) (vs : List V), DVs K c H vs ds → PyData.canLayAll0 ds = true → DpAll K H vs ds
  | [], _, h, _ => by cases h; exact .nil
  | d :: ds, _, h, k => by
    cases h with
    | cons a b =>
      obtain ⟨k1, k2⟩ := Bool.and_eq_true_iff.mp (show (d.canLay0 && PyData.canLayAll0 ds) = true from k)
      exact .cons (DV.dp d _ a k1) (DVs.dp ds _ b k2)
end
end
end Gs
namespace Gs
open PySem PySem.Spec PyProof.Rows L2
theorem seq_cut {te : TE} {tg : TG} {r : TS} {D : Ends} {σ : L2.St} {H : Hp} (R : V → Hp → Prop) (h1 : ∀ Q : VK, (∀ v H', R v H' → Q v H') → te σ H Q) (h2 : ∀ v H', R v H' → tg v σ H' (r D)) : tSeq (tAsg te tg) r D σ H := h1 _ h2
theorem te_cut {te : TE} {σ : L2.St} {H : Hp} {Q : VK} (R : V → Hp → Prop) (h1 : ∀ Q' : VK, (∀ v H', R v H' → Q' v H') → te σ H Q') (h2 : ∀ v H', R v H' → Q v H') : te σ H Q := h1 _ h2
theorem nd_self (v : V) : (!decide (v = v)) = false := by simp
theorem d_self (v : V) : decide (v = v) = true := by simp
end Gs

set_option Elab.async false
set_option linter.all false
set_option maxRecDepth 100000
set_option maxHeartbeats 4000000
/-! Layer G45: data that may be a list or a tuple: read, walked, indexed, told by a Bool. -/
namespace Gs
open PySem PySem.Spec PyProof.Rows L2
section
variable {K : PySem.W.Frag} {H H' : Hp} {a c : Addr} {xs : List V}
def SqA (K : PySem.W.Frag) (H : Hp) (a : Addr) (xs : List V) : Prop := SqL K H a xs ∨ SqT K H a xs
theorem SqA.up (e : ExtX H H') (h : SqA K H a xs) : SqA K H' a xs := h.imp e.sqL e.sqT
theorem SqA.same (e : Same H H') (h : SqA K H a xs) : SqA K H' a xs := h.up (.of e)
theorem SqA.ext (e : Ext c H H') (n : a ≠ c) (h : SqA K H a xs) : SqA K H' a xs := h.imp (e.sqL n) (e.sqT n)
theorem ty_sql (h : SqL K H a xs) : TyX K H (.ref a) (.type "list") := by
  rcases h with (s | ⟨o, s⟩) | ⟨o, its, n, e, q, _⟩
  · exact .base (.lst s)
  · exact .base (.frz s)
  · exact .kList e q
theorem ty_sqt (h : SqT K H a xs) : TyX K H (.ref a) (.type "tuple") := by
  rcases h with (s | ⟨o, s⟩) | ⟨o, its, n, e, q, _⟩
  · exact .base (.tup s)
  · exact .fTuple s
  · exact .kTuple e q
theorem ty_sqa (h : SqA K H a xs) : ∃ d : PyData, isSeq d = true ∧ TyX K H (.ref a) (.type (tyN d)) := by
  rcases h with s | s
  · exact ⟨.list [], rfl, ty_sql s⟩
  · exact ⟨.tuple [], rfl, ty_sqt s⟩
/-- a list or a tuple is walked -/
theorem sqa_rd {σ : L2.St} {R : It → Hp → Prop} {i : Nat} (hv : σ[i]? = some (some (.ref a))) (hs : SqA K H a xs)
    (h : ∀ (J : It) (G : Hp → Prop), (∀ H', Same H H' → G H') → Walk J xs.length G (YAt xs) → R J H) : iList K (tVar i) σ H R ∨ iTup K (tVar i) σ H R := by
  rcases hs with hs | hs
  · exact .inl ⟨_, hv, a, rfl, ⟨xs, hs⟩, h _ _ (fun H' e => e.seq hs) walk_list⟩
  · exact .inr ⟨_, hv, a, rfl, ⟨xs, hs⟩, h _ _ (fun H' e => e.seqT hs) walk_tup⟩
theorem ixA {i : Int} {v : V} {Q : VK} (h : SqA K H a xs) (hi : atI xs i = some v) (q : Q v H) : rIx K (.ref a) (.int i) H Q := by
  rcases h with h | h
  · exact .inl ⟨a, xs, i, v, rfl, rfl, h, hi, q⟩
  · exact .inr (.inl ⟨a, xs, i, v, rfl, rfl, h, hi, q⟩)
theorem lenA (h : SqA K H a xs) : LenV K (.ref a) H xs.length := by
  rcases h with h | h
  · exact .inl ⟨xs, h, rfl⟩
  · exact .inr ⟨xs, h, rfl⟩
def itemsD : PyData → Option (List PyData)
  | .list ds => some ds
  | .tuple ds => some ds
  | _ => none
theorem seqCase {v : V} {d : PyData} (h : DV K c H v d) : (itemsD d = none ∧ isSeq d = false ∧ Leaf K H v) ∨ ∃ a xs ds, v = .ref a ∧ a ≠ c ∧ SqA K H a xs ∧ DVs K c H xs ds ∧ itemsD d = some ds ∧ isSeq d = true := by
  cases h with
  | non => exact .inl ⟨rfl, rfl, .non⟩
  | bl b => exact .inl ⟨rfl, rfl, .bl b⟩
  | int i => exact .inl ⟨rfl, rfl, .int i⟩
  | str x => exact .inl ⟨rfl, rfl, .str x⟩
  | lst n s r => exact .inr ⟨_, _, _, rfl, n, .inl s, r, rfl, rfl⟩
  | tup n s r => exact .inr ⟨_, _, _, rfl, n, .inr s, r, rfl, rfl⟩
  | dic n s r => exact .inl ⟨rfl, rfl, .dK s⟩
  | dct n s z => exact .inl ⟨rfl, rfl, .dT s⟩
/-- what a list of Bools is, item by item -/
theorem bl_of {ys : List V} {ds : List PyData} {f : PyData → Bool} (hl : ys.length = ds.length) (h : ∀ (i : Nat) (y : V), ys[i]? = some y → ∀ d, ds[i]? = some d → y = .bl (f d)) : ys = (ds.map f).map V.bl := by
  refine List.ext_getElem? fun j => ?_
  rw [List.getElem?_map, List.getElem?_map]
  by_cases hj : j < ys.length
  · have e1 := List.getElem?_eq_getElem hj
    have e2 : ds[j]? = some ds[j] := List.getElem?_eq_getElem (by omega)
    rw [e1, e2, h j _ e1 _ e2]; rfl
  · rw [List.getElem?_eq_none (by omega), List.getElem?_eq_none (by omega)]; rfl
end
section
variable {K : PySem.W.Frag} {J : It} {G : Hp → Prop} {xs : List V}
/-- [test of x for x in data] -/
theorem lc_bools (wk : Walk J xs.length G (YAt xs)) {g : TG} {tt : TT} {te : TE} {vs : List Nat} {σ : L2.St} {H1 : Hp} {D : Addr} {Qd : Hp → Prop} {ds : List PyData} (f : PyData → Bool) (hl : xs.length = ds.length) (hD : H1 D = none) (few : xs.length ≤ 1000) (hG : ∀ H', Same H1 H' → G H')
    (hs : ∀ (i : Nat) x d H' (Kc : VK) (Ke : Hp → Prop), xs[i]? = some x → ds[i]? = some d → Same H1 H' → (∀ H4, Same H' H4 → Kc (.bl (f d)) H4) → g x (wipe σ vs) H' fun σ2 H2 => wipe σ2 vs = wipe σ vs ∧ tt σ2 H2 fun b H3 => if b = true then te σ2 H3 Kc else Ke H3)
    (hd : ∀ H', Same H1 H' → H' D = some (.lst ((ds.map f).map V.bl)) → Qd H') :
    ∃ W : Nat → Nat → Hp → Prop, (∃ m, W 0 m (upd H1 D (.lst []))) ∧ ∀ i m H, W i m H →
      (J.stop i H ∧ Qd H) ∨ (J.go i H ∧ ∃ Nx : Hp → Prop, (∀ H', Nx H' → ∃ m', m' < m ∧ W (i + 1) m' H') ∧ ∀ x H', J.yld i H x H' → g x (wipe σ vs) H' fun σ2 H2 => wipe σ2 vs = wipe σ vs ∧ tt σ2 H2 fun b H3 =>
        if b = true then te σ2 H3 fun y H4 => ∃ acc, H4 D = some (.lst acc) ∧ acc.length < sizeLine ∧ Nx (upd H4 D (.lst (acc ++ [y]))) else Nx H3) := by
  refine lc_mapR wk (fun i _ u => ∀ d, ds[i]? = some d → u = .bl (f d)) hD few hG (fun _ _ _ _ _ _ e => e) ?_ ?_
  · intro i x H' Kc Ke hi hx s kc
    have e2 : ds[i]? = some ds[i] := List.getElem?_eq_getElem (by omega)
    exact hs i x _ H' Kc Ke hx e2 s fun H4 s4 => kc _ _ s4 fun d hd => by rw [e2] at hd; cases hd; rfl
  · intro ys H' s hy hl2 hr
    exact hd H' s (by rw [hy, bl_of (by omega) hr])
end
end Gs

set_option Elab.async false
set_option linter.all false
set_option maxRecDepth 100000
set_option maxHeartbeats 4000000
/-! Layer G20: set comprehensions of ints and texts; len of such a set. -/
namespace Gs
open PySem PySem.Spec PyProof.Rows L2
abbrev SK := (Key → Bool) × Nat
def keyKd (P : Program) (w : World) (K : PySem.W.Frag) : SetKd P w K SK where
  ob := fun D z => SetK P w D z.1 z.2
  zero := (fun _ => false, 0)
  fresh := fun H h => setK_new ⟨_, #[], 0, _, Heap.get?_push_size _ rfl, ⟨rfl, rfl, rfl⟩, rfl, (fun e he => by simp at he), (fun k => by simp), (by decide), (by rfl), rfl⟩
  adds := fun D y H F => ∃ (k : Key) (S : Key → Bool) (n : Nat), y = kV k ∧ H D = some (SetK P w D S n) ∧ n + 1 < scanBound ∧ F (upd H D (SetK P w D (fun j => S j || decide (j = k)) (if S k = true then n else n + 1)))
  rule := by
    rintro Y rfl rfl rfl hu pins σ H s E D y u F I r ⟨k, S, n, rfl, hD, room, q⟩
    refine call_set_add (kV_is r) (key_scan r) (setK_get I hD) room fun h' sb new => ?_
    have he : ∃ u, h'.get? D = some u := by
      have ⟨o, _, _, _, ho, _⟩ := new
      exact ⟨o, ho⟩
    exact ⟨_, I.write (e := D) (t' := s.toks + 1) (by rw [hD]; trivial) (.inl rfl) (fun b u hb hu => (sb.2 b hb).trans hu) he (setK_new new), q⟩
def rLenK (P : Program) (w : World) : List V → Hp → VK → Prop := fun xs H Q => ∃ (a : Addr) (S : Key → Bool) (n : Nat), xs = [.ref a] ∧ H a = some (SetK P w a S n) ∧ n < 1000000 ∧ Q (.int n) H
theorem call_lenK {X : Cx} : CallR X (.builtin "len") (rLenK X.prog X.w) := by
  intro pins s σ H xs us Q I r h
  obtain ⟨a, S, n, rfl, ha, hz, q⟩ := h
  rw [Vals.ref1 r]
  obtain ⟨o, es, ep, t, ho, hex, hd, h1, h2, h3, h4, h5⟩ := setK_get I ha
  exact call_len_set ho hex hd h4 (by omega) ⟨.int n, H, I.tok _, ⟨_, by rw [h5]⟩, q⟩
end Gs

set_option Elab.async false
set_option linter.all false
set_option maxRecDepth 100000
set_option maxHeartbeats 4000000
/-! Layer G21: zip of a list or a tuple with a list or a tuple. -/
namespace Gs
open PySem PySem.Spec PyProof.Rows L2
/-- a list (false) or a tuple (true) -/
def SqB (K : PySem.W.Frag) : Bool → Hp → Addr → List V → Prop
  | false, H, a, xs => SqL K H a xs
  | true, H, a, xs => SqT K H a xs
def ObB (h : Heap) : Bool → Addr → Array Value → Prop
  | false, l, xs => h.IsList l xs
  | true, l, xs => h.IsTuple l xs
def ItB (h : Heap) : Bool → Addr → Addr → Nat → Prop
  | false, it, l, i => h.IsListIter it l i
  | true, it, l, i => h.IsTupleIter it l i
theorem drawsB {prog : Program} {w : World} {A : Around} (hh : A.handled = none) (t : Bool) (it l : Addr) (hne : l ≠ it) (items : Array Value) :
    Draws prog w A it [it, l] items.size (fun i v => items[i]? = some v) (fun i h => ItB h t it l i ∧ ObB h t l items) := by
  cases t with
  | false => exact Draws.list hh it l hne items
  | true => exact Draws.tuple hh it l hne items
theorem ItB.at {h h' : Heap} {t : Bool} {it l : Addr} {i : Nat} (x : ItB h t it l i) (k : ∀ o, h.get? it = some o → h'.get? it = some o) : ItB h' t it l i := by
  cases t with
  | false => exact Heap.IsListIter.at x k
  | true => exact Heap.IsTupleIter.at x k
theorem ItB.ob {h : Heap} {t : Bool} {it l : Addr} {i : Nat} (x : ItB h t it l i) : ∃ o, h.get? it = some o ∧ ∀ v, o.data ≠ .cell v := by
  cases t with
  | false => obtain ⟨o, e, _, d⟩ := x; exact ⟨o, e, fun v q => by rw [d] at q; cases q⟩
  | true => obtain ⟨o, e, _, d⟩ := x; exact ⟨o, e, fun v q => by rw [d] at q; cases q⟩
def obB (t : Bool) (l : Addr) : Obj := if t = true then { cls := .type "tuple_iterator", data := .fields #[.ref l, .int 0 0] } else { cls := .type "list_iterator", data := .fields #[.ref l, .int 0 0] }
theorem beginsB (t : Bool) (l : Addr) (items : Array Value) : Begins (.ref l) (obB t l) fun h => ObB h t l items := by
  cases t with
  | false => exact begins_list l items
  | true => exact begins_tuple l items
theorem itB_new {h : Heap} {t : Bool} {it l : Addr} (e : h.get? it = some (obB t l)) : ItB h t it l 0 := by
  cases t with
  | false => exact ⟨_, e, rfl, rfl⟩
  | true => exact ⟨_, e, rfl, rfl⟩
section
variable {X : Cx} {pins : List (Addr × Obj)} {σ : L2.St} {H : Hp} {s : Shared}
theorem Inv.sqB {t : Bool} {a : Addr} {xs : List V} (I : Inv X pins σ H s) (h : SqB X.K t H a xs) : ∃ its : List Value, Vals xs its ∧ ObB s.heap t a its.toArray ∧ a < s.heap.objs.size := by
  cases t with
  | false =>
    obtain ⟨its, rv, p, _⟩ := I.list h
    exact ⟨its, rv, p.isList, p.lt⟩
  | true =>
    obtain ⟨its, rv, p, _⟩ := I.tuple h
    obtain ⟨o, ho, _⟩ := id p
    exact ⟨its, rv, p, Heap.lt_size ho⟩
theorem Inv.sqB_inj {t : Bool} {a : Addr} {xs ys : List V} (I : Inv X pins σ H s) (h : SqB X.K t H a xs) (h2 : SqB X.K t H a ys) : xs = ys := by
  cases t with
  | false => exact I.list_inj h h2
  | true => exact I.tuple_inj h h2
end
/-- the sequences at a and b as they stand at each turn, the items in new pairs -/
def ItzM (K : PySem.W.Frag) (t u : Bool) (a b : Addr) : It :=
  ⟨fun i H => ∃ (xs ys : List V) (x y : V), SqB K t H a xs ∧ SqB K u H b ys ∧ xs[i]? = some x ∧ ys[i]? = some y,
    fun i H v H' => ∃ T x y, v = .ref T ∧ H T = none ∧ H' = upd H T (.tup [x, y]) ∧ (∀ xs, SqB K t H a xs → xs[i]? = some x) ∧ ∀ ys, SqB K u H b ys → ys[i]? = some y,
    fun i H => ∃ xs ys : List V, SqB K t H a xs ∧ SqB K u H b ys ∧ i ≤ xs.length ∧ i ≤ ys.length ∧ (i = xs.length ∨ i = ys.length)⟩
theorem turn_zipM {P : Program} {w : World} {K : PySem.W.Frag} {elts : List Expr} {kk : Nat} {tpos : Pos} {t u : Bool} {a b z TI TO i1 i2 : Addr} (D : ZipSep2 z TI TO i1 i2 [i1, a] [i2, b]) (n1 : a ≠ i1) (n2 : b ≠ i2) :
    Turn P w K (.Tuple elts kk tpos) (ItzM K t u a b) [z, TI, TO, i1, i2] z (fun i h => IsZip h z TI TO .none ∧ IsTupOf2 h TI (.ref i1) (.ref i2) ∧ (∃ x y, IsTupOf2 h TO x y) ∧ ItB h t i1 a i ∧ ItB h u i2 b i) where
  mem := by simp
  obj := fun i h st c hc => by
    obtain ⟨hz, hTI, ⟨x, y, hTO⟩, h1, h2⟩ := st
    have e' : c = z ∨ c = TI ∨ c = TO ∨ c = i1 ∨ c = i2 := by simpa using hc
    rcases e' with q | q | q | q | q
    · rw [q]; exact ⟨_, hz, fun v q => nomatch q⟩
    · rw [q]; exact ⟨_, hTI, fun v q => nomatch q⟩
    · rw [q]; exact ⟨_, hTO, fun v q => nomatch q⟩
    · rw [q]; exact h1.ob
    · rw [q]; exact h2.ob
  keep := fun i h h' st k => by
    obtain ⟨hz, hTI, ⟨x, y, hTO⟩, h1, h2⟩ := st
    exact ⟨k z (by simp) _ hz, k TI (by simp) _ hTI, ⟨x, y, k TO (by simp) _ hTO⟩, h1.at fun o q => k i1 (by simp) o q, h2.at fun o q => k i2 (by simp) o q⟩
  item := by
    rintro X rfl rfl rfl hc i pins s σ H E I hf ⟨hz, hTI, ⟨x0, y0, hTO⟩, h1, h2⟩ ⟨xs, ys, x, y, hqx, hqy, hx, hy⟩
    obtain ⟨its, rv, p, _⟩ := Inv.sqB I hqx
    obtain ⟨its2, rv2, p2, _⟩ := Inv.sqB I hqy
    have l1 : its.length = xs.length := rv.length.symm
    have l2 : its2.length = ys.length := rv2.length.symm
    obtain ⟨v1, hu, ru⟩ := rv.get hx
    obtain ⟨v2, hu2, ru2⟩ := rv2.get hy
    have hzl : z < s.heap.objs.size := Heap.lt_size hz
    have g1 := (List.getElem?_eq_some_iff.mp hx).1
    have g2 := (List.getElem?_eq_some_iff.mp hy).1
    refine wpAny_pyNext_zipD2_item D (drawsB (A := X.A.in1) (show X.A.in1.handled = none from I.ok.hd hc) t i1 a n1 its.toArray) (drawsB (A := X.A.in1) (show X.A.in1.handled = none from I.ok.hd hc) u i2 b n2 its2.toArray) hz hTI hTO ⟨h1, p⟩ ⟨h2, p2⟩ (by simp; omega) (by simp; omega) fun x1 x2 h' tk e1 e2 z' TO' st1 st2 hT hsz hk => ?_
    have e1 : its.toArray[i]? = some x1 := e1
    have e2 : its2.toArray[i]? = some x2 := e2
    have e1 : v1 = x1 := by
      have q : its[i]? = some x1 := by simpa using e1
      rw [hu] at q; exact Option.some.inj q
    have e2 : v2 = x2 := by
      have q : its2[i]? = some x2 := by simpa using e2
      rw [hu2] at q; exact Option.some.inj q
    subst e1 e2
    refine ⟨_, rfl, wpAny_letOwnedTupleGo_zip (s := { s with heap := h', toks := tk }) z' fun h'' z'' sb => ?_⟩
    have hT2 : h''.get? s.heap.objs.size = some { cls := .type "tuple", data := .seq #[v1, v2] } := (sb.2 _ (Nat.ne_of_gt hzl)).trans hT
    have new : ObjOk X.prog X.w (upd H s.heap.objs.size (.tup [x, y])) h'' s.heap.objs.size (.tup [x, y]) :=
      ⟨by show 2 ≤ sizeLine; decide, [v1, v2], .cons ru (.cons ru2 .nil), ⟨_, hT2, rfl, _, rfl⟩⟩
    have I1 : Inv X pins σ (upd H s.heap.objs.size (.tup [x, y])) { s with heap := h'', toks := tk } :=
      I.turnedNew (t' := tk) (ch := [z, TI, TO, i1, i2]) (fun c o hb q => (sb.2 c (fun q' => hb (by simp [q']))).trans (hk c o (fun q' => hb (by simp [q'])) (fun q' => hb (by simp [q'])) (fun q' => hb (by simp [q'])) (fun q' => hb (by simp [q'])) q)) hf (Nat.le_refl _) new
    have ni1 : i1 ≠ z := fun q => D.zf1 (by rw [← q]; simp)
    have ni2 : i2 ≠ z := fun q => D.zf2 (by rw [← q]; simp)
    refine ⟨.ref s.heap.objs.size, _, I1, rfl, ⟨_, x, y, rfl, I.hok.fresh (Nat.le_refl _), rfl, fun l hl => by rw [Inv.sqB_inj I hl hqx]; exact hx, fun l hl => by rw [Inv.sqB_inj I hl hqy]; exact hy⟩, ⟨z'', ?_, ⟨v1, v2, ?_⟩, ?_, ?_⟩, fun c hcm => ?_⟩
    · exact (sb.2 _ D.TIz).trans (hk _ _ D.TIz D.TITO D.TIi1 D.TIi2 hTI)
    · exact (sb.2 _ D.TOz).trans TO'
    · exact st1.1.at fun o q => (sb.2 _ ni1).trans q
    · exact st2.1.at fun o q => (sb.2 _ ni2).trans q
    · have hlt : c < s.heap.objs.size := by
        have e' : c = z ∨ c = TI ∨ c = TO ∨ c = i1 ∨ c = i2 := by simpa using hcm
        rcases e' with q | q | q | q | q
        · rw [q]; exact hzl
        · rw [q]; exact Heap.lt_size hTI
        · rw [q]; exact Heap.lt_size hTO
        · rw [q]; obtain ⟨_, e1, _⟩ := h1.ob; exact Heap.lt_size e1
        · rw [q]; obtain ⟨_, e2, _⟩ := h2.ob; exact Heap.lt_size e2
      rw [upd_ne (Nat.ne_of_lt hlt)]
      exact (hf c hcm).1
  done := by
    rintro X rfl rfl rfl hc i pins s σ H E I hf ⟨hz, hTI, ⟨x0, y0, hTO⟩, h1, h2⟩ ⟨xs, ys, hqx, hqy, m1, m2, hend⟩
    obtain ⟨its, rv, p, _⟩ := Inv.sqB I hqx
    obtain ⟨its2, rv2, p2, _⟩ := Inv.sqB I hqy
    have l1 : its.length = xs.length := rv.length.symm
    have l2 : its2.length = ys.length := rv2.length.symm
    exact wpAny_pyNext_zipD2_end D (drawsB (A := X.A.in1) (show X.A.in1.handled = none from I.ok.hd hc) t i1 a n1 its.toArray) (drawsB (A := X.A.in1) (show X.A.in1.handled = none from I.ok.hd hc) u i2 b n2 its2.toArray) hz hTI hTO ⟨h1, p⟩ ⟨h2, p2⟩ (by simp; omega) (by simp; omega) (by simp; omega) fun h' tk hk =>
      ⟨rfl, I.turnedL (t' := tk) (ch := [z, TI, TO, i1, i2]) (fun c o hb q => hk c o (fun q' => hb (by simp [q'])) (fun q' => hb (by simp [q'])) (fun q' => hb (by simp [q'])) (fun q' => hb (by simp [q'])) q) hf⟩
  self := fun A i s Q E st h => wpAny_pyIter_zip st.1 h
def iZipM (K : PySem.W.Frag) (ta : TA) : TI := fun σ H R => ta σ H fun vs H1 => ∃ a b t u xs ys, vs = [.ref a, .ref b] ∧ SqB K t H1 a xs ∧ SqB K u H1 b ys ∧ R (ItzM K t u a b) H1
theorem pi_zipM {X : Cx} {e e2 : Expr} {ta : TA} {p pos tpos : Pos} {elts : List Expr} {kk : Nat} (hg : Gl X "zip") (hm : X.mg "zip" = none) (ha : PA X [e, e2] ta)
    (hs : starEach [e, e2] X.env = (false, eval e X.env) :: starEach [e2] X.env := by rfl) (hpl : (backTo pos (starEach [e2] X.env)).any (·.1) = false := by rfl) :
    PI X (.Tuple elts kk tpos) (.Call (.Name "zip" p) [e, e2] [] pos) (iZipM X.K ta) := by
  refine ⟨fun pins s σ H R I h => ?_⟩
  refine Call_ (ld_blt I hg hm PyProof.Rows.boot_zip (PyProof.Rows.callWith_type1 (thn (ha.run pos pins s σ H _ I h) fun us s1 ⟨vs, H1, I1, r1, q1⟩ => ?_) hs hpl))
  obtain ⟨a, b, t, u, xs, ys, ex, hqx, hqy, q⟩ := q1
  subst ex
  cases r1 with
  | cons r rr =>
    cases rr with
    | cons r' rr =>
      cases rr
      cases r
      cases r'
      obtain ⟨its, rv, p1, a1⟩ := Inv.sqB I1 hqx
      obtain ⟨its2, rv2, p2, a2⟩ := Inv.sqB I1 hqy
      refine zip_begins2 (beginsB t a its.toArray) (beginsB u b its2.toArray) p1 p2 fun h' hz hTI hTO h1 h2 hsz hk => wpAny_pyIter_zip hz ?_
      have fresh5 : ∀ c, c ∈ [s1.heap.objs.size + 4, s1.heap.objs.size + 2, s1.heap.objs.size + 3, s1.heap.objs.size, s1.heap.objs.size + 1] → FpOk X pins H1 c := fun c hcm => by
        have hle : s1.heap.objs.size ≤ c := by
          simp only [List.mem_cons, List.not_mem_nil, or_false] at hcm
          rcases hcm with z | z | z | z | z
          · rw [z]; exact Nat.le_add_right _ _
          · rw [z]; exact Nat.le_add_right _ _
          · rw [z]; exact Nat.le_add_right _ _
          · rw [z]; exact Nat.le_refl _
          · rw [z]; exact Nat.le_add_right _ _
        exact I1.fpOk hle (I1.hok.fresh hle)
      have I2 : Inv X pins σ H1 { s1 with heap := h' } := I1.kept (t' := s1.toks) hk
      exact ⟨s1.heap.objs.size + 4, [s1.heap.objs.size + 4, s1.heap.objs.size + 2, s1.heap.objs.size + 3, s1.heap.objs.size, s1.heap.objs.size + 1], _, _, H1, rfl, I2,
        turn_zipM (zip_sep2 (fp1 := [a]) (fp2 := [b]) (fun c hc => by rw [List.mem_singleton.mp hc]; exact a1) (fun c hc => by rw [List.mem_singleton.mp hc]; exact a2)) (Nat.ne_of_lt a1) (Nat.ne_of_lt (Nat.lt_succ_of_lt a2)), ⟨hz, hTI, ⟨_, _, hTO⟩, itB_new h1, itB_new h2⟩, fresh5, q⟩
/-- two sequences of one length that stand -/
theorem walk_zipM {K : PySem.W.Frag} {t u : Bool} {a b : Addr} {xs ys : List V} (hl : xs.length = ys.length) : Walk (ItzM K t u a b) xs.length (fun H => SqB K t H a xs ∧ SqB K u H b ys) (fun i H v H' => ∃ T x y, v = .ref T ∧ H T = none ∧ H' = upd H T (.tup [x, y]) ∧ xs[i]? = some x ∧ ys[i]? = some y) where
  goes := fun i H hi g => ⟨xs, ys, xs[i], ys[i]'(by omega), g.1, g.2, by simp [hi], by simp⟩
  stops := fun H g => ⟨xs, ys, g.1, g.2, Nat.le_refl _, by omega, .inl rfl⟩
  yields := fun i H x H' hi g h => by
    obtain ⟨T, x, y, h1, h2, h3, h4, h5⟩ := h
    exact ⟨T, x, y, h1, h2, h3, h4 _ g.1, h5 _ g.2⟩
theorem pe_fldK {X : Cx} {K : PySem.W.Frag} {e : Expr} {te : TE} {pos : Pos} {n : Str} (eK : X.K = K) (he : PE X e te) (hb : attributeBase e n X.env (eval e X.env) = eval e X.env := by rfl) : PE X (.Attribute e n pos) (tFld K te n) := by
  subst eK; exact pe_fld he hb
end Gs

set_option Elab.async false
set_option linter.all false
set_option maxRecDepth 100000
set_option maxHeartbeats 4000000
namespace K39
open PySem PySem.Spec PyProof.Rows L2 Gs
theorem szM {n : Nat} (h : n ≤ 1000000) : n ≤ sizeLine := Nat.le_trans h (by decide)
theorem szK {n : Nat} (h : n < 1000001) : n < sizeLine := Nat.lt_of_lt_of_le h (by decide)
def top (i : Nat) : Stmt := PySem.Challenge.pw_gapsame_k39_ways_on_of_books_and_refusal.main.body.getD i (.Pass ⟨0, 0, 0, 0⟩)
abbrev s_is_integer : Stmt := top 1
abbrev n_is_integer : List Str := ["value"]
theorem sc_is_integer : FnScope n_is_integer ["value"] (defScope s_is_integer) := ⟨rfl, rfl, rfl, by decide +kernel, rfl, by decide +kernel, by decide +kernel⟩
abbrev s_is_list : Stmt := top 2
abbrev n_is_list : List Str := ["value"]
theorem sc_is_list : FnScope n_is_list ["value"] (defScope s_is_list) := ⟨rfl, rfl, rfl, by decide +kernel, rfl, by decide +kernel, by decide +kernel⟩
abbrev s_is_square : Stmt := top 3
abbrev n_is_square : List Str := ["value"]
theorem sc_is_square : FnScope n_is_square ["value"] (defScope s_is_square) := ⟨rfl, rfl, rfl, by decide +kernel, rfl, by decide +kernel, by decide +kernel⟩
abbrev s_is_move : Stmt := top 4
abbrev n_is_move : List Str := ["value"]
theorem sc_is_move : FnScope n_is_move ["value"] (defScope s_is_move) := ⟨rfl, rfl, rfl, by decide +kernel, rfl, by decide +kernel, by decide +kernel⟩
abbrev s_BadPaper___init__ : Stmt := inClass (top 7) 0
abbrev n_BadPaper___init__ : List Str := ["self", "part"]
theorem sc_BadPaper___init__ : FnScope n_BadPaper___init__ ["self", "part"] (defScope s_BadPaper___init__) := ⟨rfl, rfl, rfl, by decide +kernel, rfl, by decide +kernel, by decide +kernel⟩
abbrev s_fixed : Stmt := top 9
abbrev n_fixed : List Str := ["value", "item"]
theorem sc_fixed : FnScope n_fixed ["value"] (defScope s_fixed) := ⟨rfl, rfl, rfl, by decide +kernel, rfl, by decide +kernel, by decide +kernel⟩
abbrev s_Paper___init__ : Stmt := inClass (top 10) 0
abbrev n_Paper___init__ : List Str := ["self", "word", "parts"]
theorem sc_Paper___init__ : FnScope n_Paper___init__ ["self", "word", "parts"] (defScope s_Paper___init__) := ⟨rfl, rfl, rfl, by decide +kernel, rfl, by decide +kernel, by decide +kernel⟩
abbrev s_Paper___eq__ : Stmt := inClass (top 10) 1
abbrev n_Paper___eq__ : List Str := ["self", "other"]
theorem sc_Paper___eq__ : FnScope n_Paper___eq__ ["self", "other"] (defScope s_Paper___eq__) := ⟨rfl, rfl, rfl, by decide +kernel, rfl, by decide +kernel, by decide +kernel⟩
abbrev s_Paper___bool__ : Stmt := inClass (top 10) 2
abbrev n_Paper___bool__ : List Str := ["self"]
theorem sc_Paper___bool__ : FnScope n_Paper___bool__ ["self"] (defScope s_Paper___bool__) := ⟨rfl, rfl, rfl, by decide +kernel, rfl, by decide +kernel, by decide +kernel⟩
abbrev s_Denial___init__ : Stmt := inClass (top 11) 0
abbrev n_Denial___init__ : List Str := ["self", "word", "parts"]
theorem sc_Denial___init__ : FnScope n_Denial___init__ ["self", "word", "parts"] (defScope s_Denial___init__) := ⟨rfl, rfl, rfl, by decide +kernel, rfl, by decide +kernel, by decide +kernel⟩
abbrev s_Denial___eq__ : Stmt := inClass (top 11) 1
abbrev n_Denial___eq__ : List Str := ["self", "other"]
theorem sc_Denial___eq__ : FnScope n_Denial___eq__ ["self", "other"] (defScope s_Denial___eq__) := ⟨rfl, rfl, rfl, by decide +kernel, rfl, by decide +kernel, by decide +kernel⟩
abbrev s_Denial___bool__ : Stmt := inClass (top 11) 2
abbrev n_Denial___bool__ : List Str := ["self"]
theorem sc_Denial___bool__ : FnScope n_Denial___bool__ ["self"] (defScope s_Denial___bool__) := ⟨rfl, rfl, rfl, by decide +kernel, rfl, by decide +kernel, by decide +kernel⟩
abbrev s_is_same_paper : Stmt := top 12
abbrev n_is_same_paper : List Str := ["paper", "other"]
theorem sc_is_same_paper : FnScope n_is_same_paper ["paper", "other"] (defScope s_is_same_paper) := ⟨rfl, rfl, rfl, by decide +kernel, rfl, by decide +kernel, by decide +kernel⟩
abbrev s_Won___init__ : Stmt := inClass (top 14) 0
abbrev n_Won___init__ : List Str := ["self", "book"]
theorem sc_Won___init__ : FnScope n_Won___init__ ["self", "book"] (defScope s_Won___init__) := ⟨rfl, rfl, rfl, by decide +kernel, rfl, by decide +kernel, by decide +kernel⟩
abbrev s_Unwon___init__ : Stmt := inClass (top 15) 0
abbrev n_Unwon___init__ : List Str := ["self", "replies"]
theorem sc_Unwon___init__ : FnScope n_Unwon___init__ ["self", "replies"] (defScope s_Unwon___init__) := ⟨rfl, rfl, rfl, by decide +kernel, rfl, by decide +kernel, by decide +kernel⟩
abbrev s_is_book : Stmt := top 16
abbrev n_is_book : List Str := ["value", "pair"]
theorem sc_is_book : FnScope n_is_book ["value"] (defScope s_is_book) := ⟨rfl, rfl, rfl, by decide +kernel, rfl, by decide +kernel, by decide +kernel⟩
abbrev s_is_refusal : Stmt := top 17
abbrev n_is_refusal : List Str := ["value", "pair"]
theorem sc_is_refusal : FnScope n_is_refusal ["value"] (defScope s_is_refusal) := ⟨rfl, rfl, rfl, by decide +kernel, rfl, by decide +kernel, by decide +kernel⟩
abbrev s_courses : Stmt := top 18
abbrev n_courses : List Str := ["paper"]
theorem sc_courses : FnScope n_courses ["paper"] (defScope s_courses) := ⟨rfl, rfl, rfl, by decide +kernel, rfl, by decide +kernel, by decide +kernel⟩
abbrev s_is_branch : Stmt := top 19
abbrev n_is_branch : List Str := ["value"]
theorem sc_is_branch : FnScope n_is_branch ["value"] (defScope s_is_branch) := ⟨rfl, rfl, rfl, by decide +kernel, rfl, by decide +kernel, by decide +kernel⟩
abbrev s_is_empty : Stmt := top 20
abbrev n_is_empty : List Str := ["value"]
theorem sc_is_empty : FnScope n_is_empty ["value"] (defScope s_is_empty) := ⟨rfl, rfl, rfl, by decide +kernel, rfl, by decide +kernel, by decide +kernel⟩
abbrev s_is_last_book : Stmt := top 21
abbrev n_is_last_book : List Str := ["value"]
theorem sc_is_last_book : FnScope n_is_last_book ["value"] (defScope s_is_last_book) := ⟨rfl, rfl, rfl, by decide +kernel, rfl, by decide +kernel, by decide +kernel⟩
abbrev s_is_last_refusal : Stmt := top 22
abbrev n_is_last_refusal : List Str := ["value", "pair"]
theorem sc_is_last_refusal : FnScope n_is_last_refusal ["value"] (defScope s_is_last_refusal) := ⟨rfl, rfl, rfl, by decide +kernel, rfl, by decide +kernel, by decide +kernel⟩
abbrev s_is_reply : Stmt := top 23
abbrev n_is_reply : List Str := ["value"]
theorem sc_is_reply : FnScope n_is_reply ["value"] (defScope s_is_reply) := ⟨rfl, rfl, rfl, by decide +kernel, rfl, by decide +kernel, by decide +kernel⟩
abbrev s_is_won_paper : Stmt := top 24
abbrev n_is_won_paper : List Str := ["value"]
theorem sc_is_won_paper : FnScope n_is_won_paper ["value"] (defScope s_is_won_paper) := ⟨rfl, rfl, rfl, by decide +kernel, rfl, by decide +kernel, by decide +kernel⟩
abbrev s_is_unwon_paper : Stmt := top 25
abbrev n_is_unwon_paper : List Str := ["value"]
theorem sc_is_unwon_paper : FnScope n_is_unwon_paper ["value"] (defScope s_is_unwon_paper) := ⟨rfl, rfl, rfl, by decide +kernel, rfl, by decide +kernel, by decide +kernel⟩
abbrev s_has_book : Stmt := top 26
abbrev n_has_book : List Str := ["value"]
theorem sc_has_book : FnScope n_has_book ["value"] (defScope s_has_book) := ⟨rfl, rfl, rfl, by decide +kernel, rfl, by decide +kernel, by decide +kernel⟩
abbrev s_has_refusal : Stmt := top 27
abbrev n_has_refusal : List Str := ["value"]
theorem sc_has_refusal : FnScope n_has_refusal ["value"] (defScope s_has_refusal) := ⟨rfl, rfl, rfl, by decide +kernel, rfl, by decide +kernel, by decide +kernel⟩
abbrev s_courses_of_book : Stmt := top 28
abbrev n_courses_of_book : List Str := ["book", "move", "answers", "answer", "last", "course"]
theorem sc_courses_of_book : FnScope n_courses_of_book ["book"] (defScope s_courses_of_book) := ⟨rfl, rfl, rfl, by decide +kernel, rfl, by decide +kernel, by decide +kernel⟩
abbrev s_courses_of_refusal : Stmt := top 29
abbrev n_courses_of_refusal : List Str := ["replies", "found", "move", "reply", "answer", "rest", "courses_on", "course"]
theorem sc_courses_of_refusal : FnScope n_courses_of_refusal ["replies"] (defScope s_courses_of_refusal) := ⟨rfl, rfl, rfl, by decide +kernel, rfl, by decide +kernel, by decide +kernel⟩
abbrev s__law_satchel : Stmt := top 31
abbrev n__law_satchel : List Str := ["script", "cell"]
theorem sc__law_satchel : FnScope n__law_satchel ["script"] (defScope s__law_satchel) := ⟨rfl, rfl, rfl, by decide +kernel, rfl, by decide +kernel, by decide +kernel⟩
abbrev s__law_fetch : Stmt := top 32
abbrev n__law_fetch : List Str := ["satchel", "many", "rest", "turn", "cell", "mixed"]
theorem sc__law_fetch : FnScope n__law_fetch ["satchel", "many"] (defScope s__law_fetch) := ⟨rfl, rfl, rfl, by decide +kernel, rfl, by decide +kernel, by decide +kernel⟩
abbrev s__law_one : Stmt := top 33
abbrev n__law_one : List Str := ["satchel", "some"]
theorem sc__law_one : FnScope n__law_one ["satchel", "some"] (defScope s__law_one) := ⟨rfl, rfl, rfl, by decide +kernel, rfl, by decide +kernel, by decide +kernel⟩
abbrev s__law_square : Stmt := top 34
abbrev n__law_square : List Str := ["satchel"]
theorem sc__law_square : FnScope n__law_square ["satchel"] (defScope s__law_square) := ⟨rfl, rfl, rfl, by decide +kernel, rfl, by decide +kernel, by decide +kernel⟩
abbrev s__law_move : Stmt := top 35
abbrev n__law_move : List Str := ["satchel"]
theorem sc__law_move : FnScope n__law_move ["satchel"] (defScope s__law_move) := ⟨rfl, rfl, rfl, by decide +kernel, rfl, by decide +kernel, by decide +kernel⟩
abbrev s__law_book : Stmt := top 36
abbrev n__law_book : List Str := ["satchel", "answers", "turn"]
theorem sc__law_book : FnScope n__law_book ["satchel"] (defScope s__law_book) := ⟨rfl, rfl, rfl, by decide +kernel, rfl, by decide +kernel, by decide +kernel⟩
abbrev s__law_refusal : Stmt := top 37
abbrev n__law_refusal : List Str := ["satchel", "many", "way", "turn", "rows", "bare", "each"]
theorem sc__law_refusal : FnScope n__law_refusal ["satchel"] (defScope s__law_refusal) := ⟨rfl, rfl, rfl, by decide +kernel, rfl, by decide +kernel, by decide +kernel⟩
abbrev s__law_listed : Stmt := top 38
abbrev n__law_listed : List Str := ["satchel", "value", "parts", "part"]
theorem sc__law_listed : FnScope n__law_listed ["satchel", "value"] (defScope s__law_listed) := ⟨rfl, rfl, rfl, by decide +kernel, rfl, by decide +kernel, by decide +kernel⟩
abbrev s__law_bent : Stmt := top 39
abbrev n__law_bent : List Str := ["satchel", "value", "deep", "odd", "at", "way"]
theorem sc__law_bent : FnScope n__law_bent ["satchel", "value", "deep"] (defScope s__law_bent) := ⟨rfl, rfl, rfl, by decide +kernel, rfl, by decide +kernel, by decide +kernel⟩
abbrev s__law_is_integer : Stmt := top 40
abbrev n__law_is_integer : List Str := ["value"]
theorem sc__law_is_integer : FnScope n__law_is_integer ["value"] (defScope s__law_is_integer) := ⟨rfl, rfl, rfl, by decide +kernel, rfl, by decide +kernel, by decide +kernel⟩
abbrev s__law_is_move : Stmt := top 41
abbrev n__law_is_move : List Str := ["value", "pairs", "part"]
theorem sc__law_is_move : FnScope n__law_is_move ["value"] (defScope s__law_is_move) := ⟨rfl, rfl, rfl, by decide +kernel, rfl, by decide +kernel, by decide +kernel⟩
abbrev s__law_form : Stmt := top 42
abbrev n__law_form : List Str := ["value", "word", "deep", "rest", "pairs", "each"]
theorem sc__law_form : FnScope n__law_form ["value", "word", "deep"] (defScope s__law_form) := ⟨rfl, rfl, rfl, by decide +kernel, rfl, by decide +kernel, by decide +kernel⟩
abbrev s__law_are_forms : Stmt := top 43
abbrev n__law_are_forms : List Str := ["value", "word", "deep", "each"]
theorem sc__law_are_forms : FnScope n__law_are_forms ["value", "word", "deep"] (defScope s__law_are_forms) := ⟨rfl, rfl, rfl, by decide +kernel, rfl, by decide +kernel, by decide +kernel⟩
abbrev s__law_ways : Stmt := top 44
abbrev n__law_ways : List Str := ["paper", "found", "move", "answers", "answer", "later", "reply", "nothing"]
theorem sc__law_ways : FnScope n__law_ways ["paper"] (defScope s__law_ways) := ⟨rfl, rfl, rfl, by decide +kernel, rfl, by decide +kernel, by decide +kernel⟩
abbrev s__law_heard : Stmt := top 45
abbrev n__law_heard : List Str := ["value", "found", "caught", "error"]
theorem sc__law_heard : FnScope n__law_heard ["value"] (defScope s__law_heard) := ⟨rfl, rfl, rfl, by decide +kernel, rfl, by decide +kernel, by decide +kernel⟩
abbrev s__law_papers_right : Stmt := top 46
abbrev n__law_papers_right : List Str := ["book", "refusal", "one", "other"]
theorem sc__law_papers_right : FnScope n__law_papers_right ["book", "refusal"] (defScope s__law_papers_right) := ⟨rfl, rfl, rfl, by decide +kernel, rfl, by decide +kernel, by decide +kernel⟩
abbrev s_law : Stmt := top 47
abbrev n_law : List Str := ["script", "satchel", "turn", "book", "refusal", "value", "due", "listed", "kept", "told", "paper", "is_so", "odd"]
theorem sc_law : FnScope n_law ["script"] (defScope s_law) := ⟨rfl, rfl, rfl, by decide +kernel, rfl, by decide +kernel, by decide +kernel⟩
structure Tx (K : PySem.W.Frag) (mg : Str → Option Value) where
  c_Paper : Addr
  c_Denial : Addr
  c_Won : Addr
  c_Unwon : Addr
  c_FieldError : Addr
  c_BadPaper : Addr
  a_is_integer : Addr
  d_is_integer : FuncData
  F_is_integer : Fun K "is_integer" "is_integer" s_is_integer a_is_integer d_is_integer
  m_is_integer : mg "is_integer" = some (.ref a_is_integer)
  b_is_integer : Binds K d_is_integer ["value"] []
  a_is_list : Addr
  d_is_list : FuncData
  F_is_list : Fun K "is_list" "is_list" s_is_list a_is_list d_is_list
  m_is_list : mg "is_list" = some (.ref a_is_list)
  b_is_list : Binds K d_is_list ["value"] []
  a_is_square : Addr
  d_is_square : FuncData
  F_is_square : Fun K "is_square" "is_square" s_is_square a_is_square d_is_square
  m_is_square : mg "is_square" = some (.ref a_is_square)
  b_is_square : Binds K d_is_square ["value"] []
  a_is_move : Addr
  d_is_move : FuncData
  F_is_move : Fun K "is_move" "is_move" s_is_move a_is_move d_is_move
  m_is_move : mg "is_move" = some (.ref a_is_move)
  b_is_move : Binds K d_is_move ["value"] []
  a_BadPaper___init__ : Addr
  d_BadPaper___init__ : FuncData
  F_BadPaper___init__ : Fun K "__init__" "BadPaper.__init__" s_BadPaper___init__ a_BadPaper___init__ d_BadPaper___init__
  b_BadPaper___init__ : Binds K d_BadPaper___init__ ["self", "part"] []
  a_fixed : Addr
  d_fixed : FuncData
  F_fixed : Fun K "fixed" "fixed" s_fixed a_fixed d_fixed
  m_fixed : mg "fixed" = some (.ref a_fixed)
  b_fixed : Binds K d_fixed ["value"] []
  a_Paper___init__ : Addr
  d_Paper___init__ : FuncData
  F_Paper___init__ : Fun K "__init__" "Paper.__init__" s_Paper___init__ a_Paper___init__ d_Paper___init__
  a_Paper___eq__ : Addr
  d_Paper___eq__ : FuncData
  F_Paper___eq__ : Fun K "__eq__" "Paper.__eq__" s_Paper___eq__ a_Paper___eq__ d_Paper___eq__
  b_Paper___eq__ : Binds K d_Paper___eq__ ["self", "other"] []
  a_Paper___bool__ : Addr
  d_Paper___bool__ : FuncData
  F_Paper___bool__ : Fun K "__bool__" "Paper.__bool__" s_Paper___bool__ a_Paper___bool__ d_Paper___bool__
  b_Paper___bool__ : Binds K d_Paper___bool__ ["self"] []
  a_Denial___init__ : Addr
  d_Denial___init__ : FuncData
  F_Denial___init__ : Fun K "__init__" "Denial.__init__" s_Denial___init__ a_Denial___init__ d_Denial___init__
  a_Denial___eq__ : Addr
  d_Denial___eq__ : FuncData
  F_Denial___eq__ : Fun K "__eq__" "Denial.__eq__" s_Denial___eq__ a_Denial___eq__ d_Denial___eq__
  b_Denial___eq__ : Binds K d_Denial___eq__ ["self", "other"] []
  a_Denial___bool__ : Addr
  d_Denial___bool__ : FuncData
  F_Denial___bool__ : Fun K "__bool__" "Denial.__bool__" s_Denial___bool__ a_Denial___bool__ d_Denial___bool__
  b_Denial___bool__ : Binds K d_Denial___bool__ ["self"] []
  a_is_same_paper : Addr
  d_is_same_paper : FuncData
  F_is_same_paper : Fun K "is_same_paper" "is_same_paper" s_is_same_paper a_is_same_paper d_is_same_paper
  m_is_same_paper : mg "is_same_paper" = some (.ref a_is_same_paper)
  b_is_same_paper : Binds K d_is_same_paper ["paper", "other"] []
  a_Won___init__ : Addr
  d_Won___init__ : FuncData
  F_Won___init__ : Fun K "__init__" "Won.__init__" s_Won___init__ a_Won___init__ d_Won___init__
  b_Won___init__ : Binds K d_Won___init__ ["self", "book"] []
  a_Unwon___init__ : Addr
  d_Unwon___init__ : FuncData
  F_Unwon___init__ : Fun K "__init__" "Unwon.__init__" s_Unwon___init__ a_Unwon___init__ d_Unwon___init__
  b_Unwon___init__ : Binds K d_Unwon___init__ ["self", "replies"] []
  a_is_book : Addr
  d_is_book : FuncData
  F_is_book : Fun K "is_book" "is_book" s_is_book a_is_book d_is_book
  m_is_book : mg "is_book" = some (.ref a_is_book)
  b_is_book : Binds K d_is_book ["value"] []
  a_is_refusal : Addr
  d_is_refusal : FuncData
  F_is_refusal : Fun K "is_refusal" "is_refusal" s_is_refusal a_is_refusal d_is_refusal
  m_is_refusal : mg "is_refusal" = some (.ref a_is_refusal)
  b_is_refusal : Binds K d_is_refusal ["value"] []
  a_courses : Addr
  d_courses : FuncData
  F_courses : Fun K "courses" "courses" s_courses a_courses d_courses
  m_courses : mg "courses" = some (.ref a_courses)
  b_courses : Binds K d_courses ["paper"] []
  a_is_branch : Addr
  d_is_branch : FuncData
  F_is_branch : Fun K "is_branch" "is_branch" s_is_branch a_is_branch d_is_branch
  m_is_branch : mg "is_branch" = some (.ref a_is_branch)
  b_is_branch : Binds K d_is_branch ["value"] []
  a_is_empty : Addr
  d_is_empty : FuncData
  F_is_empty : Fun K "is_empty" "is_empty" s_is_empty a_is_empty d_is_empty
  m_is_empty : mg "is_empty" = some (.ref a_is_empty)
  b_is_empty : Binds K d_is_empty ["value"] []
  a_is_last_book : Addr
  d_is_last_book : FuncData
  F_is_last_book : Fun K "is_last_book" "is_last_book" s_is_last_book a_is_last_book d_is_last_book
  m_is_last_book : mg "is_last_book" = some (.ref a_is_last_book)
  b_is_last_book : Binds K d_is_last_book ["value"] []
  a_is_last_refusal : Addr
  d_is_last_refusal : FuncData
  F_is_last_refusal : Fun K "is_last_refusal" "is_last_refusal" s_is_last_refusal a_is_last_refusal d_is_last_refusal
  m_is_last_refusal : mg "is_last_refusal" = some (.ref a_is_last_refusal)
  b_is_last_refusal : Binds K d_is_last_refusal ["value"] []
  a_is_reply : Addr
  d_is_reply : FuncData
  F_is_reply : Fun K "is_reply" "is_reply" s_is_reply a_is_reply d_is_reply
  m_is_reply : mg "is_reply" = some (.ref a_is_reply)
  b_is_reply : Binds K d_is_reply ["value"] []
  a_is_won_paper : Addr
  d_is_won_paper : FuncData
  F_is_won_paper : Fun K "is_won_paper" "is_won_paper" s_is_won_paper a_is_won_paper d_is_won_paper
  m_is_won_paper : mg "is_won_paper" = some (.ref a_is_won_paper)
  b_is_won_paper : Binds K d_is_won_paper ["value"] []
  a_is_unwon_paper : Addr
  d_is_unwon_paper : FuncData
  F_is_unwon_paper : Fun K "is_unwon_paper" "is_unwon_paper" s_is_unwon_paper a_is_unwon_paper d_is_unwon_paper
  m_is_unwon_paper : mg "is_unwon_paper" = some (.ref a_is_unwon_paper)
  b_is_unwon_paper : Binds K d_is_unwon_paper ["value"] []
  a_has_book : Addr
  d_has_book : FuncData
  F_has_book : Fun K "has_book" "has_book" s_has_book a_has_book d_has_book
  m_has_book : mg "has_book" = some (.ref a_has_book)
  b_has_book : Binds K d_has_book ["value"] []
  a_has_refusal : Addr
  d_has_refusal : FuncData
  F_has_refusal : Fun K "has_refusal" "has_refusal" s_has_refusal a_has_refusal d_has_refusal
  m_has_refusal : mg "has_refusal" = some (.ref a_has_refusal)
  b_has_refusal : Binds K d_has_refusal ["value"] []
  a_courses_of_book : Addr
  d_courses_of_book : FuncData
  F_courses_of_book : Fun K "courses_of_book" "courses_of_book" s_courses_of_book a_courses_of_book d_courses_of_book
  m_courses_of_book : mg "courses_of_book" = some (.ref a_courses_of_book)
  b_courses_of_book : Binds K d_courses_of_book ["book"] []
  a_courses_of_refusal : Addr
  d_courses_of_refusal : FuncData
  F_courses_of_refusal : Fun K "courses_of_refusal" "courses_of_refusal" s_courses_of_refusal a_courses_of_refusal d_courses_of_refusal
  m_courses_of_refusal : mg "courses_of_refusal" = some (.ref a_courses_of_refusal)
  b_courses_of_refusal : Binds K d_courses_of_refusal ["replies"] []
  a__law_satchel : Addr
  d__law_satchel : FuncData
  F__law_satchel : Fun K "_law_satchel" "_law_satchel" s__law_satchel a__law_satchel d__law_satchel
  m__law_satchel : mg "_law_satchel" = some (.ref a__law_satchel)
  b__law_satchel : Binds K d__law_satchel ["script"] []
  a__law_fetch : Addr
  d__law_fetch : FuncData
  F__law_fetch : Fun K "_law_fetch" "_law_fetch" s__law_fetch a__law_fetch d__law_fetch
  m__law_fetch : mg "_law_fetch" = some (.ref a__law_fetch)
  b__law_fetch : Binds K d__law_fetch ["satchel", "many"] []
  a__law_one : Addr
  d__law_one : FuncData
  F__law_one : Fun K "_law_one" "_law_one" s__law_one a__law_one d__law_one
  m__law_one : mg "_law_one" = some (.ref a__law_one)
  b__law_one : Binds K d__law_one ["satchel", "some"] []
  a__law_square : Addr
  d__law_square : FuncData
  F__law_square : Fun K "_law_square" "_law_square" s__law_square a__law_square d__law_square
  m__law_square : mg "_law_square" = some (.ref a__law_square)
  b__law_square : Binds K d__law_square ["satchel"] []
  a__law_move : Addr
  d__law_move : FuncData
  F__law_move : Fun K "_law_move" "_law_move" s__law_move a__law_move d__law_move
  m__law_move : mg "_law_move" = some (.ref a__law_move)
  b__law_move : Binds K d__law_move ["satchel"] []
  a__law_book : Addr
  d__law_book : FuncData
  F__law_book : Fun K "_law_book" "_law_book" s__law_book a__law_book d__law_book
  m__law_book : mg "_law_book" = some (.ref a__law_book)
  b__law_book : Binds K d__law_book ["satchel"] []
  a__law_refusal : Addr
  d__law_refusal : FuncData
  F__law_refusal : Fun K "_law_refusal" "_law_refusal" s__law_refusal a__law_refusal d__law_refusal
  m__law_refusal : mg "_law_refusal" = some (.ref a__law_refusal)
  b__law_refusal : Binds K d__law_refusal ["satchel"] []
  a__law_listed : Addr
  d__law_listed : FuncData
  F__law_listed : Fun K "_law_listed" "_law_listed" s__law_listed a__law_listed d__law_listed
  m__law_listed : mg "_law_listed" = some (.ref a__law_listed)
  b__law_listed : Binds K d__law_listed ["satchel", "value"] []
  a__law_bent : Addr
  d__law_bent : FuncData
  F__law_bent : Fun K "_law_bent" "_law_bent" s__law_bent a__law_bent d__law_bent
  m__law_bent : mg "_law_bent" = some (.ref a__law_bent)
  b__law_bent : Binds K d__law_bent ["satchel", "value", "deep"] []
  a__law_is_integer : Addr
  d__law_is_integer : FuncData
  F__law_is_integer : Fun K "_law_is_integer" "_law_is_integer" s__law_is_integer a__law_is_integer d__law_is_integer
  m__law_is_integer : mg "_law_is_integer" = some (.ref a__law_is_integer)
  b__law_is_integer : Binds K d__law_is_integer ["value"] []
  a__law_is_move : Addr
  d__law_is_move : FuncData
  F__law_is_move : Fun K "_law_is_move" "_law_is_move" s__law_is_move a__law_is_move d__law_is_move
  m__law_is_move : mg "_law_is_move" = some (.ref a__law_is_move)
  b__law_is_move : Binds K d__law_is_move ["value"] []
  a__law_form : Addr
  d__law_form : FuncData
  F__law_form : Fun K "_law_form" "_law_form" s__law_form a__law_form d__law_form
  m__law_form : mg "_law_form" = some (.ref a__law_form)
  b__law_form : Binds K d__law_form ["value", "word", "deep"] []
  a__law_are_forms : Addr
  d__law_are_forms : FuncData
  F__law_are_forms : Fun K "_law_are_forms" "_law_are_forms" s__law_are_forms a__law_are_forms d__law_are_forms
  m__law_are_forms : mg "_law_are_forms" = some (.ref a__law_are_forms)
  b__law_are_forms : Binds K d__law_are_forms ["value", "word", "deep"] []
  a__law_ways : Addr
  d__law_ways : FuncData
  F__law_ways : Fun K "_law_ways" "_law_ways" s__law_ways a__law_ways d__law_ways
  m__law_ways : mg "_law_ways" = some (.ref a__law_ways)
  b__law_ways : Binds K d__law_ways ["paper"] []
  a__law_heard : Addr
  d__law_heard : FuncData
  F__law_heard : Fun K "_law_heard" "_law_heard" s__law_heard a__law_heard d__law_heard
  m__law_heard : mg "_law_heard" = some (.ref a__law_heard)
  b__law_heard : Binds K d__law_heard ["value"] []
  a__law_papers_right : Addr
  d__law_papers_right : FuncData
  F__law_papers_right : Fun K "_law_papers_right" "_law_papers_right" s__law_papers_right a__law_papers_right d__law_papers_right
  m__law_papers_right : mg "_law_papers_right" = some (.ref a__law_papers_right)
  b__law_papers_right : Binds K d__law_papers_right ["book", "refusal"] []
  a_law : Addr
  d_law : FuncData
  F_law : Fun K "law" "law" s_law a_law d_law
  m_law : mg "law" = some (.ref a_law)
  b_law : Binds K d_law ["script"] []
  m_Paper : mg "Paper" = some (.ref c_Paper)
  cl_Paper : Cls K c_Paper
  nF_Paper_word : NoAttr K c_Paper "word"
  nF_Paper_parts : NoAttr K c_Paper "parts"
  mk_Paper : Mk K c_Paper a_Paper___init__
  m_Denial : mg "Denial" = some (.ref c_Denial)
  cl_Denial : Cls K c_Denial
  nF_Denial_word : NoAttr K c_Denial "word"
  nF_Denial_parts : NoAttr K c_Denial "parts"
  mk_Denial : Mk K c_Denial a_Denial___init__
  m_Won : mg "Won" = some (.ref c_Won)
  cl_Won : Cls K c_Won
  nF_Won_word : NoAttr K c_Won "word"
  nF_Won_parts : NoAttr K c_Won "parts"
  nF_Won_book : NoAttr K c_Won "book"
  mk_Won : Mk K c_Won a_Won___init__
  m_Unwon : mg "Unwon" = some (.ref c_Unwon)
  cl_Unwon : Cls K c_Unwon
  nF_Unwon_word : NoAttr K c_Unwon "word"
  nF_Unwon_parts : NoAttr K c_Unwon "parts"
  nF_Unwon_replies : NoAttr K c_Unwon "replies"
  mk_Unwon : Mk K c_Unwon a_Unwon___init__
  m_FieldError : mg "FieldError" = some (.ref c_FieldError)
  ox_FieldError : OexC K c_FieldError
  xf_FieldError : XfC K c_FieldError
  m_BadPaper : mg "BadPaper" = some (.ref c_BadPaper)
  ox_BadPaper : OexC K c_BadPaper
  ic_BadPaper : PySem.W.findIn K (.ref c_BadPaper) "__init__" = some (some (.ref a_BadPaper___init__))
  ti_BadPaper : PySem.W.typeIn K (.ref a_BadPaper___init__) = some (.type "function")
  xf_BadPaper : XfC K c_BadPaper
  no_BadPaper_part : PySem.W.findIn K (.ref c_BadPaper) "part" = some none
  xm_BadPaper_BadPaper : PySem.W.exmOne K (.ref c_BadPaper) (.ref c_BadPaper) = some true
  z_isinstance : mg "isinstance" = none
  z_int : mg "int" = none
  z_bool : mg "bool" = none
  z_list : mg "list" = none
  z_tuple : mg "tuple" = none
  z_len : mg "len" = none
  z_abs : mg "abs" = none
  z_range : mg "range" = none
  z_repr : mg "repr" = none
  z_all : mg "all" = none
  z_ValueError : mg "ValueError" = none
  kb_is_book : KB K d_is_book ["value"] ["value"] 0 (fun _ ws => ws) (fun _ zs => zs)
  kb_is_refusal : KB K d_is_refusal ["value"] ["value"] 0 (fun _ ws => ws) (fun _ zs => zs)
  kb_courses : KB K d_courses ["paper"] ["paper"] 0 (fun _ ws => ws) (fun _ zs => zs)
  kb_Won : KBn K d_Won___init__ ["self", "book"] 1 ["book"] (fun us ws => us ++ ws) (fun us ws => us ++ ws)
  kb_Unwon : KBn K d_Unwon___init__ ["self", "replies"] 1 ["replies"] (fun us ws => us ++ ws) (fun us ws => us ++ ws)
  cn_Paper : Gs.CName K c_Paper "Paper"
  ty_Paper : Gs.TyC K c_Paper
  kp_Paper : PySem.W.kitOne K (.ref c_Paper) (.ref c_Paper) = some true
  kd_Paper : PySem.W.kitOne K (.ref c_Paper) (.ref c_Denial) = some false
  ob_Paper : Gs.OwnB K c_Paper a_Paper___bool__
  oc_Paper : Gs.OwnC K c_Paper a_Paper___eq__
  cn_Denial : Gs.CName K c_Denial "Denial"
  ty_Denial : Gs.TyC K c_Denial
  kp_Denial : PySem.W.kitOne K (.ref c_Denial) (.ref c_Paper) = some true
  kd_Denial : PySem.W.kitOne K (.ref c_Denial) (.ref c_Denial) = some true
  ob_Denial : Gs.OwnB K c_Denial a_Denial___bool__
  oc_Denial : Gs.OwnC K c_Denial a_Denial___eq__
  cn_Won : Gs.CName K c_Won "Won"
  ty_Won : Gs.TyC K c_Won
  kp_Won : PySem.W.kitOne K (.ref c_Won) (.ref c_Paper) = some true
  kd_Won : PySem.W.kitOne K (.ref c_Won) (.ref c_Denial) = some false
  ob_Won : Gs.OwnB K c_Won a_Paper___bool__
  oc_Won : Gs.OwnC K c_Won a_Paper___eq__
  cn_Unwon : Gs.CName K c_Unwon "Unwon"
  ty_Unwon : Gs.TyC K c_Unwon
  kp_Unwon : PySem.W.kitOne K (.ref c_Unwon) (.ref c_Paper) = some true
  kd_Unwon : PySem.W.kitOne K (.ref c_Unwon) (.ref c_Denial) = some true
  ob_Unwon : Gs.OwnB K c_Unwon a_Denial___bool__
  oc_Unwon : Gs.OwnC K c_Unwon a_Denial___eq__
  kw_Paper : PySem.W.kitOne K (.ref c_Paper) (.ref c_Won) = some false
  ku_Paper : PySem.W.kitOne K (.ref c_Paper) (.ref c_Unwon) = some false
  kw_Denial : PySem.W.kitOne K (.ref c_Denial) (.ref c_Won) = some false
  ku_Denial : PySem.W.kitOne K (.ref c_Denial) (.ref c_Unwon) = some false
  kw_Won : PySem.W.kitOne K (.ref c_Won) (.ref c_Won) = some true
  ku_Won : PySem.W.kitOne K (.ref c_Won) (.ref c_Unwon) = some false
  kw_Unwon : PySem.W.kitOne K (.ref c_Unwon) (.ref c_Won) = some false
  ku_Unwon : PySem.W.kitOne K (.ref c_Unwon) (.ref c_Unwon) = some true
  fi_Paper : Gs.FInit K c_Paper a_Paper___init__
  fi_Denial : Gs.FInit K c_Denial a_Denial___init__
  kt : ∀ C ∈ ([c_Won, c_Unwon, c_Paper] : List Addr), ∀ t ∈ (["NoneType", "bool", "int", "str", "list", "tuple", "dict"] : List String), PySem.W.kitOne K (.type t) (.ref C) = some false
  nf : ∀ a ∈ ([c_Paper, c_Denial, c_Won, c_Unwon] : List Addr), ∀ b ∈ ([c_Won, c_Unwon] : List Addr), PySem.W.notFirst K b (.ref a) = true
end K39

set_option Elab.async false
set_option linter.all false
set_option maxRecDepth 100000
set_option maxHeartbeats 4000000
namespace K39
open PySem PySem.Spec PyProof.Rows L2 Gs
section
variable {P : Program} {w : World} {K : PySem.W.Frag} {mg : Str → Option Value} {base : Heap}
def spCrate (K : PySem.W.Frag) : Sp := fun vs H Q _ => ∃ (a : Addr) (ns : List Int), vs = [.ref a] ∧ SqL K H a (ns.map V.int) ∧ ns.length ≤ 63 ∧
  ∀ c l H', H c = none → H l = none → Ext c H H' → Bag c l 0 H' → Q (.ref c) H'
theorem cut60 (ns : List Int) : cutV (ns.map V.int) none (some 60) = (ns.take 60).map V.int := by
  unfold cutV
  rw [HT.sIx_none, show (some (60 : Int)) = some ((60 : Nat) : Int) from rfl, HT.sIx_nat, List.drop_zero, Nat.sub_zero, List.map_take, ← List.take_take, List.take_length]
theorem O__law_satchel (T : Tx K mg) : FnOk P w K mg base CX0 1 T.a__law_satchel T.d__law_satchel ["script"] (spCrate K) := by
  refine T.F__law_satchel.ok sc__law_satchel (fun vs H Q E h => ?_) (fun cdv A outer s H vs Q E hr h => ?_)
  · obtain ⟨a, ns, rfl, _⟩ := h; rfl
  · obtain ⟨a, ns, rfl, hS, hl, k⟩ := h
    refine ⟨_, (pss_one (ps_ret (pe_lst (pa_cons (pe_lc (own := [("cell", 1)]) (g := (gName 1)) rfl sc__law_satchel.nd (pi_list (pe_slice sl_list (pv 0) po_none (po_some pe_int))) (blkOk_by (N := n__law_satchel) (sc := defScope s__law_satchel) (by decide +kernel)) (fun _ _ _ _ _ => (pg_name (i := 1) sc__law_satchel.nd rfl (Or.inl rfl))) (fun _ _ _ _ _ => pts_nil) (fun _ _ _ _ _ => (pe_callTy call_int1 (by rfl) T.z_int (by decide +kernel) (pa_cons (pv 1) pa_nil)))) (pa_cons pe_int (pa_cons pe_int pa_nil)))))), ?_⟩
    refine ⟨_, rfl, _, rfl, a, _, rfl, hS, fun p hp => ?_⟩
    rw [cut60]
    have h60 : (ns.take 60).length ≤ 60 := List.length_take_le ..
    revert h60
    generalize ns.take 60 = ks
    intro h60
    refine ⟨p, rfl, ⟨_, .of upd_same⟩, fun D hD => ?_⟩
    have np : p ≠ D := fun e => by rw [← e, upd_same] at hD; cases hD
    have hD0 : H D = none := by rwa [upd_ne np.symm] at hD
    refine lc_list (K := K) (a := p) (xs := ks.map V.int) (fun i H' => H' p = some (.lst (ks.map V.int)) ∧ H' D = some (.lst ((ks.take i).map V.int)) ∧ ∀ b o, H b = some o → H' b = some o) ?_ ?_ ?_ ?_
    · refine ⟨by rw [upd_ne np, upd_same], upd_same, fun b o e => ?_⟩
      rw [upd_ne (ne_of_none e hD0), upd_ne (ne_of_none e hp)]; exact e
    · intro i H' _ h; exact .of h.1
    · rintro i x H' hx ⟨h1, h2, h3⟩
      obtain ⟨v, hv, rfl⟩ : ∃ v, ks[i]? = some v ∧ V.int v = x := by
        rw [List.getElem?_map] at hx
        cases e : ks[i]? with
        | none => rw [e] at hx; cases hx
        | some v => rw [e] at hx; exact ⟨v, rfl, Option.some.inj hx⟩
      refine ⟨rfl, ?_⟩
      refine ⟨_, rfl, .inl ⟨v, rfl, _, h2, ?_, ?_, ?_, ?_⟩⟩
      · rw [List.length_map]; exact szs (Nat.lt_of_le_of_lt (List.length_take_le' ..) (by omega))
      · rw [upd_ne np]; exact h1
      · rw [upd_same, List.take_add_one, hv, List.map_append]; rfl
      · intro b o e; rw [upd_ne (ne_of_none e hD0)]; exact h3 _ _ e
    · rintro H' ⟨h1, h2, h3⟩
      rw [List.length_map, List.take_length] at h2
      refine ⟨szl rfl, fun c hc => ?_⟩
      have nc : D ≠ c := ne_of_none h2 hc
      have hc0 : H c = none := by
        cases e : H c with
        | none => rfl
        | some o => rw [h3 _ _ e] at hc; cases hc
      refine k c D _ hc0 hD0 (fun b o _ e => ?_) ⟨ks, 0, 0, upd_same, by rw [upd_ne nc]; exact h2, nc, Nat.le_trans h60 (by decide), by decide, by decide, by decide⟩
      rw [upd_ne (ne_of_none e hc0)]; exact h3 _ _ e
def spLift : Sp := fun vs H Q _ => ∃ (c l : Addr) (n : Nat) (m : Int), vs = [.ref c, .int m] ∧ Bag c l n H ∧ n ≤ 1000000 ∧ 0 < m ∧ m < 1073741824 ∧
  ∀ v H', 0 ≤ v → v < m → Bag c l (n + 1) H' → Ext c H H' → Q (.int v) H'
theorem O__law_fetch (T : Tx K mg) : FnOk P w K mg base CX0 1 T.a__law_fetch T.d__law_fetch ["satchel", "many"] spLift := by
  refine T.F__law_fetch.ok sc__law_fetch (fun vs H Q E h => ?_) (fun cdv A outer s H vs Q E hr h => ?_)
  · obtain ⟨c, l, n, m, rfl, _⟩ := h; rfl
  · obtain ⟨c, l, n, m, rfl, ⟨ns, pt, rest, hc, hl, nlc, hn, h0, h1, h2⟩, hN, hm0, hm1, k⟩ := h
    refine ⟨_, (pss_cons (ps_if (pt_cmpR (op_eqD hr.units) (pe_ix ix_list (pv 0) pe_int (fun _ _ => rfl)) (pe_lst pa_nil) (nomark _)) (pss_one (ps_ret pe_int)) pss_nil)
      (pss_cons (ps_if (pt_cmpR op_gt (pe_ix ix_list (pv 0) pe_int (fun _ _ => rfl)) pe_int (nomark _)) (pss_cons (ps_set (i := 2) sc__law_fetch.nd rfl (Or.inl rfl) (pe_callTy call_int1 (by rfl) T.z_int (by decide +kernel) (pa_cons (pe_ix ix_list (pv 0) pe_int (fun _ _ => rfl)) pa_nil)))
      (pss_cons (ps_asg (pe_op op_fdiv (pv 2) (pv 1)) (pg_sub (pv 0) pe_int set_list))
      (pss_one (ps_ret (pe_op op_mod (pe_callTy call_int1 (by rfl) T.z_int (by decide +kernel) (pa_cons (pv 2) pa_nil)) (pv 1)))))) pss_nil)
      (pss_cons (ps_set (i := 3) sc__law_fetch.nd rfl (Or.inl rfl) (pe_ix ix_list (pv 0) pe_int (fun _ _ => rfl)))
      (pss_cons (ps_asg (pe_op op_add (pv 3) pe_int) (pg_sub (pv 0) pe_int set_list))
      (pss_cons (ps_set (i := 4) sc__law_fetch.nd rfl (Or.inl rfl) (pe_ix ix_list (pe_ix ix_list (pv 0) pe_int (fun _ _ => rfl)) (pe_op op_mod (pe_callTy call_int1 (by rfl) T.z_int (by decide +kernel) (pa_cons (pv 3) pa_nil)) (pe_callB call_len_seq (by rfl) T.z_len (by decide +kernel) (pa_cons (pe_ix ix_list (pv 0) pe_int (fun _ _ => rfl)) pa_nil))) (fun _ _ => rfl)))
      (pss_cons (ps_if (PW.pt (pw_and (pt_cmpR op_lt (pv 3) (pe_callB call_len_seq (by rfl) T.z_len (by decide +kernel) (pa_cons (pe_ix ix_list (pv 0) pe_int (fun _ _ => rfl)) pa_nil)) (nomark _)) (pw_and1 (pt_cmpR op_ge (pe_callB call_abs (by rfl) T.z_abs (by decide +kernel) (pa_cons (pv 4) pa_nil)) (pe_op op_pow pe_int pe_int) (nomark _))))) (pss_cons (ps_set (i := 2) sc__law_fetch.nd rfl (Or.inl rfl) (pe_op op_add (pe_op op_mul pe_int (pe_op op_sub (pe_callB call_abs (by rfl) T.z_abs (by decide +kernel) (pa_cons (pv 4) pa_nil)) (pe_op op_pow pe_int pe_int))) (pe_callTy call_int1 (by rfl) T.z_int (by decide +kernel) (pa_cons (pe_cmpR op_lt (pv 4) pe_int (nomark _)) pa_nil))))
      (pss_cons (ps_asg (pe_op op_fdiv (pe_callTy call_int1 (by rfl) T.z_int (by decide +kernel) (pa_cons (pv 2) pa_nil)) (pv 1)) (pg_sub (pv 0) pe_int set_list))
      (pss_one (ps_ret (pe_op op_mod (pe_callTy call_int1 (by rfl) T.z_int (by decide +kernel) (pa_cons (pv 2) pa_nil)) (pv 1)))))) pss_nil)
      (pss_cons (ps_set (i := 5) sc__law_fetch.nd rfl (Or.inl rfl) (pe_op op_mod (pe_callTy call_int1 (by rfl) T.z_int (by decide +kernel) (pa_cons (pe_op op_pow (pe_op op_add (pe_op op_add (pe_op op_mod (pe_callTy call_int1 (by rfl) T.z_int (by decide +kernel) (pa_cons (pv 4) pa_nil)) pe_int) (pe_op op_mul pe_int (pv 3))) pe_int) pe_int) pa_nil)) pe_int))
      (pss_cons (ps_set (i := 5) sc__law_fetch.nd rfl (Or.inl rfl) (pe_op op_mod (pe_callTy call_int1 (by rfl) T.z_int (by decide +kernel) (pa_cons (pe_op op_pow (pe_op op_add (pe_op op_add (pe_op op_mul (pv 5) (pe_op op_add (pe_op op_mul pe_int (pv 3)) pe_int)) (pe_op op_mul (pe_op op_mul pe_int (pv 3)) (pv 3))) pe_int) pe_int) pa_nil)) pe_int))
      (pss_one (ps_ret (pe_op op_mod (pe_callTy call_int1 (by rfl) T.z_int (by decide +kernel) (pa_cons (pe_op op_fdiv (pv 5) pe_int) pa_nil)) (pv 1)))))))))))), ?_⟩
    have hb : Bag c l n H := ⟨ns, pt, rest, hc, hl, nlc, hn, h0, h1, h2⟩
    -- the bag's list, is it empty
    refine ⟨_, rfl, c, _, 0, _, rfl, rfl, .of hc, rfl, szl rfl, fun e he => ?_⟩
    have nle : l ≠ e := ne_of_none hl he
    have nce : c ≠ e := ne_of_none hc he
    have hc1 : upd H e (.lst []) c = some (.lst [.ref l, .int pt, .int rest]) := by rw [upd_ne nce]; exact hc
    have hl1 : upd H e (.lst []) l = some (.lst (ns.map V.int)) := by rw [upd_ne nle]; exact hl
    have x1 : Ext c H (upd H e (.lst [])) := Ext.new he
    refine ⟨.list (ns.map .int), .list [], .lst (.of hl1) (dp_ints ns), .lst (.of upd_same) .nil, shaped_ints ns, by decide, _, rfl, ?_⟩
    refine ite2 (fun e0 => ?_) (fun e0 => ?_)
    · exact k 0 _ (by decide) hm0 (hb.mono (Nat.le_succ n) |>.new he) x1
    have hne : ns ≠ [] := fun z => by
      apply e0; rw [eqv_nil, z]; rfl
    generalize upd H e (.lst []) = H1 at hc1 hl1 x1
    -- what is left of a great number
    refine ⟨_, rfl, c, _, 2, _, rfl, rfl, .of hc1, rfl, _, _, rfl, rfl, _, rfl, ?_⟩
    refine ite2 (fun e2 => ?_) (fun e2 => ?_)
    · refine ⟨_, rfl, c, _, 2, _, rfl, rfl, .of hc1, rfl, .inl ⟨_, rfl, ?_⟩⟩
      refine ⟨_, rfl, _, rfl, _, _, rfl, rfl, ⟨hm0, hm1⟩, _, rfl, c, _, 2, 2, rfl, rfl, hc1, rfl, ?_⟩
      refine ⟨_, rfl, .inl ⟨_, rfl, _, rfl, _, _, rfl, rfl, hm0, ?_⟩⟩
      exact k (rest % m) _ (Int.emod_nonneg _ (by omega)) (Int.emod_lt_of_pos _ hm0) ⟨ns, pt, rest / m, upd_same, by rw [upd_ne nlc]; exact hl1, nlc, hn, h0, by omega, Int.ediv_nonneg h2 (by omega)⟩ (x1.trans Ext.bag)
    -- the next cell
    refine ⟨_, rfl, c, _, 1, _, rfl, rfl, .of hc1, rfl, ?_⟩
    refine ⟨_, rfl, _, _, rfl, rfl, _, rfl, c, _, 1, 1, rfl, rfl, hc1, rfl, ?_⟩
    refine gcut (fun H2 => H2 c = some (.lst [.ref l, .int (pt + 1), .int rest]) ∧ H2 l = some (.lst (ns.map V.int)) ∧ Ext c H H2) ⟨upd_same, by rw [upd_ne nlc]; exact hl1, x1.trans Ext.bag⟩ ?_
    rintro H2 ⟨hc2, hl2, x2⟩
    have x3 : ∀ r : Int, Ext c H (upd H2 c (.lst [.ref l, .int (pt + 1), .int r])) := fun r => x2.trans Ext.bag
    have hpt : pt ≤ 1000000 := by omega
    obtain ⟨v, hv⟩ := at_mod (pt := pt) hne h0
    have hlen : 0 < ((ns.map V.int).length : Int) := by
      have := List.length_pos_iff.mpr hne
      rw [List.length_map]; omega
    refine ⟨_, rfl, c, _, 0, _, rfl, rfl, .of hc2, rfl, _, rfl, .inl ⟨_, rfl, _, rfl, c, _, 0, _, rfl, rfl, .of hc2, rfl, l, _, rfl, .inl (.of hl2), _, _, rfl, rfl, hlen, l, _, _, .int v, rfl, rfl, .of hl2, hv, ?_⟩⟩
    -- at < len(bag[0]) and abs(cell) >= 10 ** 18
    refine ⟨_, rfl, _, rfl, c, _, 0, _, rfl, rfl, .of hc2, rfl, l, _, rfl, .inl (.of hl2), _, _, rfl, rfl, _, rfl, ?_⟩
    have fin : ∀ r : Int, 0 ≤ r → Bag c l (n + 1) (upd H2 c (.lst [.ref l, .int (pt + 1), .int r])) := fun r hr0 =>
      ⟨ns, pt + 1, r, upd_same, by rw [upd_ne nlc]; exact hl2, nlc, hn, by omega, by omega, hr0⟩
    have fin0 : Bag c l (n + 1) H2 := ⟨ns, pt + 1, rest, hc2, hl2, nlc, hn, by omega, by omega, h2⟩
    refine ite2 (fun e3 => ?_) (fun e3 => ?_)
    · refine ⟨_, rfl, _, rfl, _, _, rfl, rfl, ⟨by decide, by decide, by decide⟩, _, _, rfl, rfl, _, rfl, ?_⟩
      refine ite2 (fun e4 => ?_) (fun e4 => ?_)
      · -- a great number: what it tells is handed out bit by bit
        refine ⟨_, rfl, _, rfl, _, _, rfl, rfl, ⟨by decide, by decide, by decide⟩, _, _, rfl, rfl, _, _, rfl, rfl, .inl ⟨by decide, by decide⟩, _, rfl, _, _, rfl, rfl, .inr ⟨_, rfl, _, _, rfl, rfl, ?_⟩⟩
        have hbig : (0 : Int) ≤ 2 * ((if v < 0 then -v else v) - 10 ^ (18 : Int).toNat) + (if decide (v < 0) = true then 1 else 0) := by
          have := of_decide_eq_true e4
          split <;> omega
        refine ⟨_, rfl, .inl ⟨_, rfl, _, rfl, _, _, rfl, rfl, ⟨hm0, hm1⟩, _, rfl, c, _, 2, 2, rfl, rfl, hc2, rfl, ?_⟩⟩
        refine ⟨_, rfl, .inl ⟨_, rfl, _, rfl, _, _, rfl, rfl, hm0, ?_⟩⟩
        exact k _ _ (Int.emod_nonneg _ (by omega)) (Int.emod_lt_of_pos _ hm0) (fin _ (Int.ediv_nonneg hbig (Int.le_of_lt hm0))) (x3 _)
      · refine ⟨_, rfl, .inl ⟨_, rfl, _, _, rfl, rfl, pos_lit (by decide), _, rfl, _, _, rfl, rfl, .inl ⟨by decide, by decide⟩, _, _, rfl, rfl, _, _, rfl, rfl, _, _, rfl, rfl, ⟨by decide, by decide, by omega⟩, .inl ⟨_, rfl, _, _, rfl, rfl, pos_lit (by decide), ?_⟩⟩⟩
        refine ⟨_, rfl, _, rfl, _, _, rfl, rfl, .inl ⟨by decide, by decide⟩, _, _, rfl, rfl, _, _, rfl, rfl, .inl (emod_w (by decide) (by decide)), _, rfl, _, _, rfl, rfl, .inl ⟨by decide, by decide⟩, _, rfl, _, _, rfl, rfl, mul_pt h0 hpt (by decide) (by decide), _, _, rfl, rfl, _, _, rfl, rfl, _, _, rfl, rfl, ⟨by decide, by decide, mix_bound (emod_b (by decide) (by decide)).1 (emod_b (by decide) (by decide)).2 h0 hpt (by decide) (by decide) (by decide) (by decide) (by decide) (by decide)⟩, .inl ⟨_, rfl, _, _, rfl, rfl, pos_lit (by decide), ?_⟩⟩
        refine ⟨_, rfl, _, _, rfl, rfl, ⟨by decide, by decide⟩, .inl ⟨_, rfl, _, rfl, _, _, rfl, rfl, hm0, ?_⟩⟩
        exact k _ H2 (Int.emod_nonneg _ (by omega)) (Int.emod_lt_of_pos _ hm0) fin0 x2
    · refine ⟨_, rfl, .inl ⟨_, rfl, _, _, rfl, rfl, pos_lit (by decide), _, rfl, _, _, rfl, rfl, .inl ⟨by decide, by decide⟩, _, _, rfl, rfl, _, _, rfl, rfl, _, _, rfl, rfl, ⟨by decide, by decide, by omega⟩, .inl ⟨_, rfl, _, _, rfl, rfl, pos_lit (by decide), ?_⟩⟩⟩
      refine ⟨_, rfl, _, rfl, _, _, rfl, rfl, .inl ⟨by decide, by decide⟩, _, _, rfl, rfl, _, _, rfl, rfl, .inl (emod_w (by decide) (by decide)), _, rfl, _, _, rfl, rfl, .inl ⟨by decide, by decide⟩, _, rfl, _, _, rfl, rfl, mul_pt h0 hpt (by decide) (by decide), _, _, rfl, rfl, _, _, rfl, rfl, _, _, rfl, rfl, ⟨by decide, by decide, mix_bound (emod_b (by decide) (by decide)).1 (emod_b (by decide) (by decide)).2 h0 hpt (by decide) (by decide) (by decide) (by decide) (by decide) (by decide)⟩, .inl ⟨_, rfl, _, _, rfl, rfl, pos_lit (by decide), ?_⟩⟩
      refine ⟨_, rfl, _, _, rfl, rfl, ⟨by decide, by decide⟩, .inl ⟨_, rfl, _, rfl, _, _, rfl, rfl, hm0, ?_⟩⟩
      exact k _ H2 (Int.emod_nonneg _ (by omega)) (Int.emod_lt_of_pos _ hm0) fin0 x2
def spOne (K : PySem.W.Frag) : Sp := fun vs H Q _ => ∃ (c l s : Addr) (n : Nat) (xs : List V), vs = [.ref c, .ref s] ∧ Bag c l n H ∧ n ≤ 1000000 ∧ s ≠ c ∧ SqL K H s xs ∧ xs ≠ [] ∧ xs.length ≤ 1000 ∧
  ∀ (i : Nat) (v : V) (H' : Hp), xs[i]? = some v → Bag c l (n + 1) H' → Ext c H H' → Q v H'
theorem O__law_one (T : Tx K mg) : FnOk P w K mg base CX0 2 T.a__law_one T.d__law_one ["satchel", "some"] (spOne K) := by
  refine T.F__law_one.ok sc__law_one (fun vs H Q E h => ?_) (fun cdv A outer s H vs Q E hr h => ?_)
  · obtain ⟨c, l, s, n, xs, rfl, _⟩ := h; rfl
  · obtain ⟨c, l, a, n, xs, rfl, hb, hN, na, hS, hne, hl, k⟩ := h
    have h0 : 0 < xs.length := List.length_pos_iff.mpr hne
    refine ⟨_, (pss_one (ps_ret (pe_ix ix_list (pv 1) (pe_call (O__law_fetch T) (hr.mono (by decide)) (by rfl) T.m__law_fetch T.F__law_fetch.kp T.b__law_fetch .nil pass0 (pa_cons (pv 0) (pa_cons (pe_callB call_len_seq (by rfl) T.z_len (by decide +kernel) (pa_cons (pv 1) pa_nil)) pa_nil))) (fun _ _ => rfl)))), ?_⟩
    refine ⟨_, rfl, _, rfl, _, rfl, a, xs, rfl, .inl hS, c, l, n, _, rfl, hb, hN, by omega, by omega, fun v H1 v0 v1 b1 x1 => ?_⟩
    obtain ⟨j, rfl⟩ := Int.eq_ofNat_of_zero_le v0
    have hj : j < xs.length := by omega
    refine ⟨a, xs, _, xs[j], rfl, rfl, x1.sqL na hS, atI_nat (List.getElem?_eq_getElem hj), ?_⟩
    exact k j _ H1 (List.getElem?_eq_getElem hj) b1 x1
end
end K39

set_option Elab.async false
set_option linter.all false
set_option maxRecDepth 100000
set_option maxHeartbeats 4000000
namespace K39
open PySem PySem.Spec PyProof.Rows L2 Gs
section
variable {P : Program} {w : World} {K : PySem.W.Frag} {mg : Str → Option Value} {base : Heap}
def spIsL (K : PySem.W.Frag) : Sp := fun vs H Q _ => ∃ v, vs = [v] ∧ ((Leaf K H v ∧ ∀ H', Same H H' → Q (.bl false) H') ∨ ∃ a xs, v = .ref a ∧ SqA K H a xs ∧ ∀ H', Same H H' → Q (.bl true) H')
theorem O_is_listX (T : Tx K mg) : FnOk P w K mg base CX0 1 T.a_is_list T.d_is_list ["value"] (spIsL K) := by
  refine T.F_is_list.ok sc_is_list (fun vs H Q E h => ?_) (fun cdv A outer s H vs Q E hr h => ?_)
  · obtain ⟨v, rfl, _⟩ := h; rfl
  obtain ⟨v, rfl, h⟩ := h
  refine ⟨_, (pss_one (ps_ret (pe_callB call_isiT (by rfl) T.z_isinstance (by decide +kernel) (pa_cons (pv 0) (pa_cons (pe_tup (pa_cons (pe_bltn (v := .ty "list") (u := .type "list") (by rfl) T.z_list (by decide +kernel) rfl) (pa_cons (pe_bltn (v := .ty "tuple") (u := .type "tuple") (by rfl) T.z_tuple (by decide +kernel) rfl) pa_nil))) pa_nil))))), ?_⟩
  refine ⟨_, rfl, szl rfl, fun p hp => ?_⟩
  have st : Same H (upd H p (.tup [.ty "list", .ty "tuple"])) := same_new hp
  rcases h with ⟨lf, k⟩ | ⟨a, xs, rfl, hs, k⟩
  · obtain ⟨t, ty, kt⟩ := (lf.up (.of st)).not
    exact ⟨_, _, [.ty "list", .ty "tuple"], t, [.type "list", .type "tuple"], false, rfl, upd_same, .cons (.ty _) (.cons (.ty _) .nil), ty, kt, k _ st⟩
  · obtain ⟨d, hq, ty⟩ := ty_sqa (hs.up (.of st))
    refine ⟨.ref a, _, [.ty "list", .ty "tuple"], .type (tyN d), [.type "list", .type "tuple"], isSeq d, rfl, upd_same, .cons (.ty _) (.cons (.ty _) .nil), ty, kit_seq _, ?_⟩
    rw [hq]
    exact k _ st
/-! ### fixed -/
def spFixed (K : PySem.W.Frag) (n : Nat) : Sp := fun vs H Q _ => ∃ v R, vs = [v] ∧ Fx K H n v R ∧ ∀ u H', Same H H' → R H' u → Q u H'
def spFixR (K : PySem.W.Frag) : Nat → Sp
  | 0 => fun _ _ _ _ => False
  | n + 1 => spFixed K n
theorem fixed_step (T : Tx K mg) (n : Nat) (IH : FnOk P w K mg base CX0 (n + 2) T.a_fixed T.d_fixed ["value"] (spFixR K n)) : FnOk P w K mg base CX0 (n + 3) T.a_fixed T.d_fixed ["value"] (spFixed K n) := by
  refine T.F_fixed.ok sc_fixed (fun vs H Q E h => ?_) (fun cdv A outer s H vs Q E hr h => ?_)
  · obtain ⟨v, R, rfl, _⟩ := h; rfl
  obtain ⟨v, R, rfl, f, k⟩ := h
  refine ⟨_, (pss_cons (ps_if (pt_val (pe_call (O_is_listX T) (hr.mono (by omega)) (by rfl) T.m_is_list T.F_is_list.kp T.b_is_list .nil pass0 (pa_cons (pv 0) pa_nil))) (pss_one (ps_ret (pe_callTy call_tuple_of (by rfl) T.z_tuple (by decide +kernel) (pa_cons (pe_lc (own := [("item", 1)]) (g := (gName 1)) rfl sc_fixed.nd (pi_or (pi_list (pv 0)) (pi_tup (pv 0))) (blkOk_by (N := n_fixed) (sc := defScope s_fixed) (by decide +kernel)) (fun _ _ _ _ _ => (pg_name (i := 1) sc_fixed.nd rfl (Or.inl rfl))) (fun _ _ _ _ _ => pts_nil) (fun _ _ _ _ _ => (pe_call IH (hr.mono (by omega)) (by rfl) T.m_fixed T.F_fixed.kp T.b_fixed .nil pass0 (pa_cons (pv 1) pa_nil)))) pa_nil)))) pss_nil)
      (pss_one (ps_ret (pv 0)))), ?_⟩
  cases f with
  | leaf lf => exact ⟨_, rfl, v, rfl, .inl ⟨lf, fun H1 s1 => ⟨_, rfl, iteF ⟨_, rfl, k v H1 s1 rfl⟩⟩⟩⟩
  | @node m a xs R hq few hs =>
    refine ⟨_, rfl, _, rfl, .inr ⟨a, xs, rfl, hq, fun H1 s1 => ⟨_, rfl, iteT ?_⟩⟩⟩
    have hq1 : SqA K H1 a xs := SqA.up (ExtX.of s1) hq
    have mono : ∀ i H' H'' u, i < xs.length → ExtZ H1 H' H'' → R i H' u → R i H'' u := fun i H' H'' u hi e => (hs i _ (List.getElem?_eq_getElem hi)).mono _ _ _ (e.less (ExtX.of s1))
    refine sqa_rd rfl hq1 fun J G hG wk D hD => ?_
    refine lc_mapR wk R hD few hG mono ?_ ?_
    · intro i x H' Kc Ke hi hx s2 kc
      obtain ⟨R1, f1, g1⟩ := (hs i x hx).up (ExtX.of (s1.trans s2))
      exact ⟨rfl, _, rfl, x, R1, rfl, f1, fun u H4 s4 r => kc u H4 s4 (g1 _ _ r)⟩
    · intro ys H' s2 hy hl hr
      refine ⟨D, ys, rfl, .inl ⟨.of hy, fun t ht => ?_⟩⟩
      have hi : ∀ i y, ys[i]? = some y → i < xs.length := fun i y h => by rw [← hl]; exact (List.getElem?_eq_some_iff.mp h).1
      exact k _ _ ((s1.trans s2).trans (same_new ht)) ⟨t, ys, rfl, (s1.trans s2).free ht, upd_same, hl, fun i y h => mono i _ _ _ (hi i y h) (.of (ExtX.of (same_new ht))) (hr i y h)⟩
theorem O_fixed (T : Tx K mg) : ∀ n, FnOk P w K mg base CX0 (n + 3) T.a_fixed T.d_fixed ["value"] (spFixed K n)
  | 0 => fixed_step T 0 ⟨fun _ _ _ _ h => h.elim, fun _ _ _ _ _ _ _ _ _ _ _ _ _ h => h.elim⟩
  | n + 1 => fixed_step T (n + 1) (O_fixed T n)
/-! ### the papers' __init__ -/
/-- what a class of papers needs -/
structure PapC (K : PySem.W.Frag) (C : Addr) : Prop where
  cl : Cls K C
  nw : NoAttr K C "word"
  np : NoAttr K C "parts"
/-- self, word, parts (a tuple) -/
def spPap0 (K : PySem.W.Frag) (n : Nat) : Sp := fun vs H Q _ => ∃ (x C dx p : Addr) (z : Str) (rest : List V) (R : Nat → RV), vs = [.ref x, .str z, .ref p] ∧ H x = some (.ins C dx []) ∧ PapC K C ∧ SqT K H p rest ∧ rest.length ≤ 1000 ∧
  (∀ (i : Nat) (y : V), rest[i]? = some y → Fx K H n y (R i)) ∧
  ∀ H' t ys, Ext x H H' → H' x = some (.ins C dx [("word", .str z), ("parts", .ref t)]) → H t = none → H' t = some (.tup ys) → ys.length = rest.length → (∀ (i : Nat) (y : V), ys[i]? = some y → R i H' y) → Q .non H'
def spPap (K : PySem.W.Frag) (n : Nat) : Sp := fun vs H Q _ => ∃ (x C dx : Addr) (z : Str) (rest : List V) (R : Nat → RV), vs = .ref x :: .str z :: rest ∧ H x = some (.ins C dx []) ∧ PapC K C ∧ rest.length ≤ 1000 ∧
  (∀ (i : Nat) (y : V), rest[i]? = some y → Fx K H n y (R i)) ∧
  ∀ H' t ys, Ext x H H' → H' x = some (.ins C dx [("word", .str z), ("parts", .ref t)]) → H t = none → H' t = some (.tup ys) → ys.length = rest.length → (∀ (i : Nat) (y : V), ys[i]? = some y → R i H' y) → Q .non H'
theorem pap_imp {n : Nat} {vs : List V} {H : Hp} {Q : VK} {E : XK} (h : spPap K n vs H Q E) : ∃ ws rest, vs = ws ++ rest ∧ ws.length = ["self", "word"].length ∧ rest.length ≤ sizeLine ∧ ∀ p, H p = none → spPap0 K n (ws ++ [V.ref p]) (upd H p (.tup rest)) Q E := by
  obtain ⟨x, C, dx, z, rest, R, rfl, hx, pc, few, f, k⟩ := h
  refine ⟨[.ref x, .str z], rest, rfl, rfl, szm few, fun p hp => ?_⟩
  have st : Same H (upd H p (.tup rest)) := same_new hp
  obtain ⟨R1, h1⟩ : ∃ R1 : Nat → RV, ∀ (i : Nat) (y : V), rest[i]? = some y → Fx K (upd H p (.tup rest)) n y (R1 i) ∧ ∀ H' u, R1 i H' u → R i H' u := pick_rv fun i y hy => (f i y hy).up (ExtX.of st)
  refine ⟨x, C, dx, p, z, rest, R1, rfl, st _ _ hx, pc, .of upd_same, few, fun i y hy => (h1 i y hy).1, fun H' t ys e e2 n0 hT hl hy => ?_⟩
  refine k H' t ys (fun b o nb eb => e b o nb (st b o eb)) e2 (st.free n0) hT hl fun i y hi => ?_
  have hi2 : i < rest.length := by rw [← hl]; exact (List.getElem?_eq_some_iff.mp hi).1
  exact (h1 i _ (List.getElem?_eq_getElem hi2)).2 _ _ (hy i y hi)
theorem Ext.extX {x C dx : Addr} {fs fs' : List (Str × V)} {H H' : Hp} (e : Ext x H H') (h : H x = some (.ins C dx fs)) (h' : H' x = some (.ins C dx fs')) : ExtX H H' := fun b o hb => by
  by_cases q : b = x
  · subst q; rw [h] at hb; cases hb; exact .inr ⟨C, dx, fs, fs', rfl, h'⟩
  · exact .inl (e b o q hb)
theorem R_Paper___init__ (T : Tx K mg) (n : Nat) : FnR P w K mg base CX0 (n + 5) T.a_Paper___init__ (spPap K n) := by
  obtain ⟨oc, od, kV, doc, pm, an, cdv, ct, osl, ed, lk, hcd⟩ := T.F_Paper___init__.ex
  rw [ed] at lk
  refine FnR.imp (StX.fn_star (ps := ["self", "word"]) (pv := "parts") (sp := spPap0 K n) (k := n + 4) lk hcd sc_Paper___init__ StX.cxUp_none (fun us rest h => match us, h with | [a, b], _ => by cases rest <;> rfl) (fun A outer s H vs Q E hr h => ?_)) fun vs H Q E => pap_imp
  obtain ⟨x, C, dx, p, z, rest, R, rfl, hx, pc, hp, few, f, k⟩ := h
  refine ⟨_, PSs.nox ((pss_cons (ps_fld (pv 0) (pe_call (O_fixed T (n + 1)) (hr.mono (by omega)) (by rfl) T.m_fixed T.F_fixed.kp T.b_fixed .nil pass0 (pa_cons (pv 1) pa_nil)) rfl)
      (pss_one (ps_fld (pv 0) (pe_call (O_fixed T (n + 1)) (hr.mono (by omega)) (by rfl) T.m_fixed T.F_fixed.kp T.b_fixed .nil pass0 (pa_cons (pv 2) pa_nil)) rfl)))), ?_⟩
  refine ⟨_, rfl, .str z, _, rfl, .leaf (.str z), fun u H1 s1 e => ?_⟩
  have e : u = .str z := e
  subst e
  have h1x := s1 _ _ hx
  refine ⟨_, rfl, x, C, dx, _, rfl, h1x, pc.cl, pc.nw, Nat.le_of_ble_eq_true rfl, ?_⟩
  generalize eH : upd H1 x _ = H2
  have x2 : ExtX H H2 := by rw [← eH]; exact (ExtX.of s1).trans (.put h1x)
  have e2 : Ext x H H2 := by rw [← eH]; exact (Ext.of s1).trans Ext.bag
  have h2x : H2 x = some (.ins C dx [("word", .str z)]) := by rw [← eH]; exact upd_same
  clear eH
  obtain ⟨R2, f2⟩ : ∃ R2 : Nat → RV, ∀ (i : Nat) (y : V), rest[i]? = some y → Fx K H2 n y (R2 i) ∧ ∀ H' u, R2 i H' u → R i H' u := pick_rv fun i y hy => (f i y hy).up x2
  refine ⟨_, rfl, .ref p, _, rfl, .node (.inr (x2.sqT hp)) few (fun i y hy => (f2 i y hy).1), fun u H3 s3 e => ?_⟩
  obtain ⟨t, ys, rfl, n0, hT, hl, hy⟩ := e
  have h3x := s3 _ _ h2x
  refine ⟨_, rfl, x, C, dx, _, rfl, h3x, pc.cl, pc.np, Nat.le_of_ble_eq_true rfl, ?_⟩
  have tx : t ≠ x := fun q => by rw [q, h3x] at hT; cases hT
  refine k _ t ys (e2.trans ((Ext.of s3).trans Ext.bag)) upd_same (x2.free n0) (by rw [upd_ne tx]; exact hT) hl fun i y hi => ?_
  have hi2 : i < rest.length := by rw [← hl]; exact (List.getElem?_eq_some_iff.mp hi).1
  have hr0 := List.getElem?_eq_getElem hi2
  exact (f2 i _ hr0).2 _ _ ((f2 i _ hr0).1.mono _ _ _ (.of (.put h3x)) (hy i y hi))
theorem R_Denial___init__ (T : Tx K mg) (n : Nat) : FnR P w K mg base CX0 (n + 6) T.a_Denial___init__ (spPap K n) := by
  obtain ⟨oc, od, kV, doc, pm, an, cdv, ct, osl, ed, lk, hcd⟩ := T.F_Denial___init__.ex
  rw [ed] at lk
  refine FnR.imp (StX.fn_star (ps := ["self", "word"]) (pv := "parts") (sp := spPap0 K n) (k := n + 5) lk hcd sc_Denial___init__ StX.cxUp_none (fun us rest h => match us, h with | [a, b], _ => by cases rest <;> rfl) (fun A outer s H vs Q E hr h => ?_)) fun vs H Q E => pap_imp
  obtain ⟨x, C, dx, p, z, rest, R, rfl, hx, pc, hp, few, f, k⟩ := h
  refine ⟨_, PSs.nox ((pss_one (ps_expr (pe_cinitS (by rfl) T.m_Paper T.fi_Paper (R_Paper___init__ T n) (hr.mono (by omega)) pass0 (pa_cons (pv 0) (pa_cons (pv 1) (StX.pa_star (pv 2) pa_nil))))))), ?_⟩
  refine ⟨_, rfl, _, rfl, _, rfl, p, rest, rfl, .inl hp, x, C, dx, z, rest, R, ?_, hx, pc, few, f, fun H' t ys e1 e2 n0 hT hl hy => k H' t ys e1 e2 n0 hT hl hy⟩
  simp
/-- a paper with its one part in an attribute -/
def spOneP (K : PySem.W.Frag) (C : Addr) (z f : Str) (n : Nat) : Sp := fun vs H Q _ => ∃ (x dx : Addr) (y : V) (R : RV), vs = [.ref x, y] ∧ H x = some (.ins C dx []) ∧ Fx K H n y R ∧
  ∀ H' t u, Ext x H H' → H' x = some (.ins C dx [("word", .str z), ("parts", .ref t), (f, u)]) → H t = none → H' t = some (.tup [u]) → R H' u → Q .non H'
theorem O_Won___init__ (T : Tx K mg) (n : Nat) : FnOk P w K mg base CX0 (n + 6) T.a_Won___init__ T.d_Won___init__ ["self", "book"] (spOneP K T.c_Won "won" "book" n) := by
  refine T.F_Won___init__.ok sc_Won___init__ (fun vs H Q E h => ?_) (fun cdv A outer s H vs Q E hr h => ?_)
  · obtain ⟨x, dx, y, R, rfl, _⟩ := h; rfl
  obtain ⟨x, dx, y, R, rfl, hx, f, k⟩ := h
  refine ⟨_, (pss_cons (ps_expr (pe_cinit (by rfl) T.m_Paper T.fi_Paper (R_Paper___init__ T n) (hr.mono (by omega)) pass0 (pa_cons (pv 0) (pa_cons pe_str (pa_cons (pv 1) pa_nil)))))
      (pss_one (ps_fld (pv 0) (pe_ix ix_tup (pe_fldK (K := K) rfl (pv 0)) pe_int (fun _ _ => rfl)) rfl))), ?_⟩
  refine ⟨_, rfl, _, rfl, x, T.c_Won, dx, "won", [y], fun _ => R, rfl, hx, ⟨T.cl_Won, T.nF_Won_word, T.nF_Won_parts⟩, (by show 1 ≤ 1000; decide), (fun i u hi => ?_), fun H1 t ys e1 h1x n0 hT hl hy => ?_⟩
  · match i, hi with
    | 0, hi => cases hi; exact f
    | i + 1, hi => simp at hi
  match ys, hl with
  | [u], _ =>
    refine ⟨_, rfl, x, _, dx, _, _, rfl, h1x, T.cl_Won, T.nF_Won_parts, rfl, t, _, 0, u, rfl, rfl, .of hT, rfl, ?_⟩
    refine ⟨_, rfl, x, _, dx, _, rfl, h1x, T.cl_Won, T.nF_Won_book, Nat.le_of_ble_eq_true rfl, ?_⟩
    have tx : t ≠ x := fun q => by rw [q, h1x] at hT; cases hT
    exact k _ t u (e1.trans Ext.bag) upd_same n0 (by rw [upd_ne tx]; exact hT) (f.mono _ _ _ (.of (.put h1x)) (hy 0 u rfl))
theorem O_Unwon___init__ (T : Tx K mg) (n : Nat) : FnOk P w K mg base CX0 (n + 7) T.a_Unwon___init__ T.d_Unwon___init__ ["self", "replies"] (spOneP K T.c_Unwon "unwon" "replies" n) := by
  refine T.F_Unwon___init__.ok sc_Unwon___init__ (fun vs H Q E h => ?_) (fun cdv A outer s H vs Q E hr h => ?_)
  · obtain ⟨x, dx, y, R, rfl, _⟩ := h; rfl
  obtain ⟨x, dx, y, R, rfl, hx, f, k⟩ := h
  refine ⟨_, (pss_cons (ps_expr (pe_cinit (by rfl) T.m_Denial T.fi_Denial (R_Denial___init__ T n) (hr.mono (by omega)) pass0 (pa_cons (pv 0) (pa_cons pe_str (pa_cons (pv 1) pa_nil)))))
      (pss_one (ps_fld (pv 0) (pe_ix ix_tup (pe_fldK (K := K) rfl (pv 0)) pe_int (fun _ _ => rfl)) rfl))), ?_⟩
  refine ⟨_, rfl, _, rfl, x, T.c_Unwon, dx, "unwon", [y], fun _ => R, rfl, hx, ⟨T.cl_Unwon, T.nF_Unwon_word, T.nF_Unwon_parts⟩, (by show 1 ≤ 1000; decide), (fun i u hi => ?_), fun H1 t ys e1 h1x n0 hT hl hy => ?_⟩
  · match i, hi with
    | 0, hi => cases hi; exact f
    | i + 1, hi => simp at hi
  match ys, hl with
  | [u], _ =>
    refine ⟨_, rfl, x, _, dx, _, _, rfl, h1x, T.cl_Unwon, T.nF_Unwon_parts, rfl, t, _, 0, u, rfl, rfl, .of hT, rfl, ?_⟩
    refine ⟨_, rfl, x, _, dx, _, rfl, h1x, T.cl_Unwon, T.nF_Unwon_replies, Nat.le_of_ble_eq_true rfl, ?_⟩
    have tx : t ≠ x := fun q => by rw [q, h1x] at hT; cases hT
    exact k _ t u (e1.trans Ext.bag) upd_same n0 (by rw [upd_ne tx]; exact hT) (f.mono _ _ _ (.of (.put h1x)) (hy 0 u rfl))
/-! ### truth -/
def spTrue (b : Bool) : Sp := fun vs H Q _ => ∃ v, vs = [v] ∧ Q (.bl b) H
theorem O_Paper___bool__ (T : Tx K mg) : FnOk P w K mg base CX0 1 T.a_Paper___bool__ T.d_Paper___bool__ ["self"] (spTrue true) := by
  refine T.F_Paper___bool__.ok sc_Paper___bool__ (fun vs H Q E h => ?_) (fun cdv A outer s H vs Q E hr h => ?_)
  · obtain ⟨v, rfl, _⟩ := h; rfl
  obtain ⟨v, rfl, k⟩ := h
  exact ⟨_, (pss_one (ps_ret pe_bl)), k⟩
theorem O_Denial___bool__ (T : Tx K mg) : FnOk P w K mg base CX0 1 T.a_Denial___bool__ T.d_Denial___bool__ ["self"] (spTrue false) := by
  refine T.F_Denial___bool__.ok sc_Denial___bool__ (fun vs H Q E h => ?_) (fun cdv A outer s H vs Q E hr h => ?_)
  · obtain ⟨v, rfl, _⟩ := h; rfl
  obtain ⟨v, rfl, k⟩ := h
  exact ⟨_, (pss_one (ps_ret pe_bl)), k⟩
end
end K39

set_option Elab.async false
set_option linter.all false
set_option maxRecDepth 100000
set_option maxHeartbeats 4000000
namespace K39
open PySem PySem.Spec PyProof.Rows L2 Gs
section
variable {P : Program} {w : World} {K : PySem.W.Frag} {mg : Str → Option Value} {base : Heap}
/-- a class of papers, its name -/
structure PCl (K : PySem.W.Frag) (cP C : Addr) (nm : Str) : Prop where
  cl : Cls K C
  nw : NoAttr K C "word"
  np : NoAttr K C "parts"
  cn : CName K C nm
  ty : TyC K C
  kp : PySem.W.kitOne K (.ref C) (.ref cP) = some true
theorem pc_Paper (T : Tx K mg) : PCl K T.c_Paper T.c_Paper "Paper" := ⟨T.cl_Paper, T.nF_Paper_word, T.nF_Paper_parts, T.cn_Paper, T.ty_Paper, T.kp_Paper⟩
theorem pc_Denial (T : Tx K mg) : PCl K T.c_Paper T.c_Denial "Denial" := ⟨T.cl_Denial, T.nF_Denial_word, T.nF_Denial_parts, T.cn_Denial, T.ty_Denial, T.kp_Denial⟩
theorem pc_Won (T : Tx K mg) : PCl K T.c_Paper T.c_Won "Won" := ⟨T.cl_Won, T.nF_Won_word, T.nF_Won_parts, T.cn_Won, T.ty_Won, T.kp_Won⟩
theorem pc_Unwon (T : Tx K mg) : PCl K T.c_Paper T.c_Unwon "Unwon" := ⟨T.cl_Unwon, T.nF_Unwon_word, T.nF_Unwon_parts, T.cn_Unwon, T.ty_Unwon, T.kp_Unwon⟩
/-- a paper: class, its name, its word, its parts (a tuple), what else it holds -/
def PaAt (K : PySem.W.Frag) (cP : Addr) (H : Hp) (a C : Addr) (nm z : Str) (t : Addr) (fs : List (Str × V)) : Prop := PCl K cP C nm ∧ ∃ dx, H a = some (.ins C dx (("word", .str z) :: ("parts", .ref t) :: fs))
theorem PaAt.same {cP a C t : Addr} {nm z : Str} {H H' : Hp} {fs : List (Str × V)} (s : Same H H') (h : PaAt K cP H a C nm z t fs) : PaAt K cP H' a C nm z t fs := ⟨h.1, h.2.choose, s _ _ h.2.choose_spec⟩
def spSame (K : PySem.W.Frag) (cP : Addr) : Sp := fun vs H Q _ => ∃ (a C t : Addr) (nm z : Str) (fs : List (Str × V)) (y : V), vs = [.ref a, y] ∧ PaAt K cP H a C nm z t fs ∧
  ((∃ u xs, y = .ref u ∧ SqT K H u xs ∧ ∀ H', Same H H' → Q (.bl false) H') ∨
   (∃ (b D t2 : Addr) (nm2 z2 : Str) (gs : List (Str × V)) (e : Bool), y = .ref b ∧ PaAt K cP H b D nm2 z2 t2 gs ∧ (nm = nm2 → z = z2 → DTupW K (DMix K) (.ref t) (.ref t2) e H) ∧ ∀ H', Same H H' → Q (.bl (decide (nm = nm2) && decide (z = z2) && e)) H'))
theorem O_is_same_paper (T : Tx K mg) : FnOk P w K mg base CX0 72 T.a_is_same_paper T.d_is_same_paper ["paper", "other"] (spSame K T.c_Paper) := by
  refine T.F_is_same_paper.ok sc_is_same_paper (fun vs H Q E h => ?_) (fun cdv A outer s H vs Q E hr h => ?_)
  · obtain ⟨_, _, _, _, _, _, _, rfl, _⟩ := h; rfl
  obtain ⟨a, C, t, nm, z, fs, y, rfl, ⟨pc, dx, ha⟩, h⟩ := h
  refine ⟨_, (pss_cons (ps_if (pt_not (pt_val (pe_callB call_isi (by rfl) T.z_isinstance (by decide +kernel) (pa_cons (pv 1) (pa_cons (pe_glob (v := .ref T.c_Paper) (by rfl) T.m_Paper rfl) pa_nil))))) (pss_one (ps_ret pe_bl)) pss_nil)
      (pss_cons (ps_if (pt_cmpR op_ne (pe_clsName (pv 0)) (pe_clsName (pv 1)) (nomark _)) (pss_one (ps_ret pe_bl)) pss_nil)
      (pss_one (ps_ret (pe_and (pe_cmpR op_eq (pe_fldK (K := K) rfl (pv 0)) (pe_fldK (K := K) rfl (pv 1)) (nomark _)) (pe_one (pe_cmpR (op_eqW (rcW_tup mon_mix eqW_mix) (hr.mono (by decide))) (pe_fldK (K := K) rfl (pv 0)) (pe_fldK (K := K) rfl (pv 1)) (nomark _)))))))), ?_⟩
  rcases h with ⟨u, xs, rfl, hu, k⟩ | ⟨b, D, t2, nm2, z2, gs, e, rfl, ⟨pc2, dy, hb⟩, hd, k⟩
  · refine ⟨_, rfl, .ref u, .ref T.c_Paper, .type "tuple", .ref T.c_Paper, false, rfl, .own _, ty_sqt hu, (T.kt T.c_Paper (by simp) "tuple" (by simp)), _, rfl, iteT (k _ (Same.refl _))⟩
  refine ⟨_, rfl, .ref b, .ref T.c_Paper, .ref D, .ref T.c_Paper, true, rfl, .own _, pc2.ty.ty hb, pc2.kp, _, rfl, iteF ?_⟩
  refine ⟨_, rfl, a, C, dx, _, nm, rfl, ha, pc.cn, _, rfl, b, D, dy, _, nm2, rfl, hb, pc2.cn, ?_⟩
  refine ⟨rfl, _, rfl, ?_⟩
  have e1 : decide (V.str nm = V.str nm2) = decide (nm = nm2) := decide_eq_decide.mpr ⟨V.str.inj, fun e => e ▸ rfl⟩
  have e2 : decide (V.str z = V.str z2) = decide (z = z2) := decide_eq_decide.mpr ⟨V.str.inj, fun e => e ▸ rfl⟩
  rw [e1]
  by_cases q : nm = nm2
  · rw [decide_eq_true q] at k ⊢
    refine iteF ?_
    refine ⟨_, rfl, a, C, dx, _, _, rfl, ha, pc.cl, pc.nw, rfl, _, rfl, b, D, dy, _, _, rfl, hb, pc2.cl, pc2.nw, rfl, rfl, ?_⟩
    rw [e2]
    refine ⟨_, rfl, ?_⟩
    by_cases q2 : z = z2
    · rw [decide_eq_true q2] at k ⊢
      refine iteT ?_
      refine ⟨_, rfl, a, C, dx, _, _, rfl, ha, pc.cl, pc.np, rfl, _, rfl, b, D, dy, _, _, rfl, hb, pc2.cl, pc2.np, rfl, e, hd q q2, k⟩
    · rw [decide_eq_false q2] at k ⊢
      exact iteF (k _ (Same.refl _))
  · rw [decide_eq_false q] at k ⊢
    exact iteT (k _ (Same.refl _))
theorem O_Paper___eq__ (T : Tx K mg) : FnOk P w K mg base CX0 73 T.a_Paper___eq__ T.d_Paper___eq__ ["self", "other"] (spSame K T.c_Paper) := by
  refine T.F_Paper___eq__.ok sc_Paper___eq__ (fun vs H Q E h => ?_) (fun cdv A outer s H vs Q E hr h => ?_)
  · obtain ⟨_, _, _, _, _, _, _, rfl, _⟩ := h; rfl
  refine ⟨_, (pss_one (ps_ret (pe_call (O_is_same_paper T) (hr.mono (by decide)) (by rfl) T.m_is_same_paper T.F_is_same_paper.kp T.b_is_same_paper .nil pass0 (pa_cons (pv 0) (pa_cons (pv 1) pa_nil))))), ?_⟩
  obtain ⟨a, C, t, nm, z, fs, y, rfl, h⟩ := h
  exact ⟨_, rfl, _, rfl, a, C, t, nm, z, fs, y, rfl, h⟩
theorem O_Denial___eq__ (T : Tx K mg) : FnOk P w K mg base CX0 73 T.a_Denial___eq__ T.d_Denial___eq__ ["self", "other"] (spSame K T.c_Paper) := by
  refine T.F_Denial___eq__.ok sc_Denial___eq__ (fun vs H Q E h => ?_) (fun cdv A outer s H vs Q E hr h => ?_)
  · obtain ⟨_, _, _, _, _, _, _, rfl, _⟩ := h; rfl
  refine ⟨_, (pss_one (ps_ret (pe_call (O_is_same_paper T) (hr.mono (by decide)) (by rfl) T.m_is_same_paper T.F_is_same_paper.kp T.b_is_same_paper .nil pass0 (pa_cons (pv 0) (pa_cons (pv 1) pa_nil))))), ?_⟩
  obtain ⟨a, C, t, nm, z, fs, y, rfl, h⟩ := h
  exact ⟨_, rfl, _, rfl, a, C, t, nm, z, fs, y, rfl, h⟩
end
end K39

set_option Elab.async false
set_option linter.all false
set_option maxRecDepth 100000
set_option maxHeartbeats 4000000
namespace K39
open PySem PySem.Spec PyProof.Rows L2 Gs
/-! ### what books and refusals are, told of data -/
def twoD (f : PyData → PyData → Bool) (d : PyData) : Bool := match itemsD d with
  | some [a, b] => f a b
  | _ => false
def allD (f : PyData → Bool) (d : PyData) : Bool := match itemsD d with
  | some ds => ds.all f
  | none => false
def squareD : PyData → Bool := twoD fun a b => isInt a && isInt b
def moveD : PyData → Bool := twoD fun a b => squareD a && squareD b
def branchD : PyData → Bool := twoD fun a _ => moveD a
def emptyD (d : PyData) : Bool := match itemsD d with
  | some [] => true
  | _ => false
def lastBookD (d : PyData) : Bool := twoD (fun a b => moveD a && emptyD b) d
def lastRefD (d : PyData) : Bool := allD lastBookD d
def isNoD : PyData → Bool
  | .none => true
  | _ => false
def replyD (d : PyData) : Bool := isNoD d || twoD (fun a b => moveD a && lastRefD b) d
def bookD (d : PyData) : Bool := twoD (fun a b => moveD a && allD (twoD fun x y => moveD x && lastBookD y) b) d
def refD (d : PyData) : Bool := allD branchD d && (lastRefD d || allD (twoD fun _ b => replyD b) d)
section
variable {P : Program} {w : World} {K : PySem.W.Frag} {mg : Str → Option Value} {base : Heap}
theorem spB_len {f : PyData → Bool} {n : Str} : ∀ (vs : List V) (H : Hp) (Q : VK) (E : XK), spB K f vs H Q E → vs.length = [n].length := by
  rintro vs H Q E ⟨c, v, d, rfl, _⟩; rfl
theorem O_is_integer (T : Tx K mg) : FnOk P w K mg base CX0 1 T.a_is_integer T.d_is_integer ["value"] (spB K isInt) := by
  refine T.F_is_integer.ok sc_is_integer spB_len (fun cdv A outer s H vs Q E hr h => ?_)
  obtain ⟨c, v, d, rfl, hd, k⟩ := h
  refine ⟨_, (pss_one (ps_ret (pe_and (pe_callB call_isi (by rfl) T.z_isinstance (by decide +kernel) (pa_cons (pv 0) (pa_cons (pe_bltn (v := .ty "int") (u := .type "int") (by rfl) T.z_int (by decide +kernel) rfl) pa_nil))) (pe_one (pe_not (pe_callB call_isi (by rfl) T.z_isinstance (by decide +kernel) (pa_cons (pv 0) (pa_cons (pe_bltn (v := .ty "bool") (u := .type "bool") (by rfl) T.z_bool (by decide +kernel) rfl) pa_nil)))))))), ?_⟩
  refine ⟨_, rfl, _, .ty "int", .type (tyN _), .type "int", _, rfl, .ty _, ty_of hd, kit_ty (kI _), _, rfl, ?_⟩
  have k := k H (Same.refl H)
  cases d with
  | int i => exact iteT ⟨_, rfl, _, .ty "bool", .type (tyN _), .type "bool", _, rfl, .ty _, ty_of hd, kit_ty (kB _), _, rfl, k⟩
  | bool i => exact iteT ⟨_, rfl, _, .ty "bool", .type (tyN _), .type "bool", _, rfl, .ty _, ty_of hd, kit_ty (kB _), _, rfl, k⟩
  | _ => exact iteF k
theorem O_is_list (T : Tx K mg) : FnOk P w K mg base CX0 1 T.a_is_list T.d_is_list ["value"] (spB K isSeq) := by
  refine T.F_is_list.ok sc_is_list spB_len (fun cdv A outer s H vs Q E hr h => ?_)
  obtain ⟨c, v, d, rfl, hd, k⟩ := h
  refine ⟨_, (pss_one (ps_ret (pe_callB call_isiT (by rfl) T.z_isinstance (by decide +kernel) (pa_cons (pv 0) (pa_cons (pe_tup (pa_cons (pe_bltn (v := .ty "list") (u := .type "list") (by rfl) T.z_list (by decide +kernel) rfl) (pa_cons (pe_bltn (v := .ty "tuple") (u := .type "tuple") (by rfl) T.z_tuple (by decide +kernel) rfl) pa_nil))) pa_nil))))), ?_⟩
  refine ⟨_, rfl, szl rfl, fun p hp => ?_⟩
  have hd1 := hd.up (Ext.new hp (o := .tup [.ty "list", .ty "tuple"]))
  exact ⟨v, _, [.ty "list", .ty "tuple"], .type (tyN _), [.type "list", .type "tuple"], isSeq _, rfl, upd_same, .cons (.ty _) (.cons (.ty _) .nil), ty_of hd1, kit_seq _, k _ (same_new hp)⟩
theorem twoD_no {f : PyData → PyData → Bool} {d : PyData} (h : itemsD d = none) : twoD f d = false := by unfold twoD; rw [h]
theorem twoD_yes {f : PyData → PyData → Bool} {d a b : PyData} (h : itemsD d = some [a, b]) : twoD f d = f a b := by unfold twoD; rw [h]
theorem twoD_ne {f : PyData → PyData → Bool} {d : PyData} {ds : List PyData} (h : itemsD d = some ds) (n : ds.length ≠ 2) : twoD f d = false := by
  unfold twoD
  rw [h]
  match ds, n with
  | [], _ => rfl
  | [_], _ => rfl
  | [_, _], n => exact absurd rfl n
  | _ :: _ :: _ :: _, _ => rfl
theorem two_len {c : Addr} {H : Hp} {xs : List V} {ds : List PyData} (h : DVs K c H xs ds) (e : decide (V.int ((xs.length : Nat) : Int) = V.int 2) = true) : ∃ x y dx dy, xs = [x, y] ∧ ds = [dx, dy] ∧ DV K c H x dx ∧ DV K c H y dy := by
  have e2 : xs.length = 2 := by
    have := V.int.inj (of_decide_eq_true e); omega
  match xs, ds, h, e2 with
  | [x, y], [dx, dy], .cons a (.cons b .nil), _ => exact ⟨x, y, dx, dy, rfl, rfl, a, b⟩
theorem two_not {c : Addr} {H : Hp} {xs : List V} {ds : List PyData} (h : DVs K c H xs ds) (e : decide (V.int ((xs.length : Nat) : Int) = V.int 2) = false) : ds.length ≠ 2 := fun z => of_decide_eq_false e (by rw [h.len, z]; rfl)
theorem len_of {n m : Nat} : decide (V.int (n : Int) = V.int (m : Int)) = decide (n = m) := decide_eq_decide.mpr ⟨fun e => by have := V.int.inj e; omega, fun e => by rw [e]⟩
theorem O_is_square (T : Tx K mg) : FnOk P w K mg base CX0 3 T.a_is_square T.d_is_square ["value"] (spB K squareD) := by
  refine T.F_is_square.ok sc_is_square spB_len (fun cdv A outer s H vs Q E hr h => ?_)
  obtain ⟨c, v, d, rfl, hd, k⟩ := h
  refine ⟨_, (pss_one (ps_ret (pe_and (pe_call (O_is_list T) (hr.mono (by decide)) (by rfl) T.m_is_list T.F_is_list.kp T.b_is_list .nil pass0 (pa_cons (pv 0) pa_nil)) (pe_and (pe_cmpR op_eq (pe_callB call_len_seq (by rfl) T.z_len (by decide +kernel) (pa_cons (pv 0) pa_nil)) pe_int (nomark _)) (pe_and (pe_call (O_is_integer T) (hr.mono (by decide)) (by rfl) T.m_is_integer T.F_is_integer.kp T.b_is_integer .nil pass0 (pa_cons (pe_ix ix_seq (pv 0) pe_int (fun _ _ => rfl)) pa_nil)) (pe_one (pe_call (O_is_integer T) (hr.mono (by decide)) (by rfl) T.m_is_integer T.F_is_integer.kp T.b_is_integer .nil pass0 (pa_cons (pe_ix ix_seq (pv 0) pe_int (fun _ _ => rfl)) pa_nil)))))))), ?_⟩
  refine ⟨_, rfl, c, v, d, rfl, hd, fun H1 s1 => ⟨_, rfl, ?_⟩⟩
  rcases seqCase (hd.up (Ext.of s1)) with ⟨e, q, _⟩ | ⟨a, xs, ds, rfl, na, hs, hv, e, q⟩
  · have := k H1 s1
    rw [show squareD d = false from twoD_no e] at this
    rw [q]; exact iteF this
  rw [q]
  refine iteT ⟨_, rfl, a, xs, rfl, hs, rfl, _, rfl, ?_⟩
  refine ite2 (fun e2 => ?_) (fun e2 => ?_)
  · obtain ⟨x, y, dx, dy, rfl, rfl, hx, hy⟩ := two_len hv e2
    rw [show squareD d = (isInt dx && isInt dy) from twoD_yes e] at k
    refine ⟨_, rfl, ixA hs rfl ⟨c, x, dx, rfl, hx, fun H2 s2 => ⟨_, rfl, ?_⟩⟩⟩
    refine iteB (fun e => ?_) (fun e => ?_)
    · rw [e] at k
      exact ⟨_, rfl, ixA (hs.same s2) rfl ⟨c, y, dy, rfl, hy.up (Ext.of s2), fun H3 s3 => k H3 ((s1.trans s2).trans s3)⟩⟩
    · rw [e] at k
      exact k H2 (s1.trans s2)
  · have := k H1 s1
    rw [show squareD d = false from twoD_ne e (two_not hv (by simpa using e2))] at this
    exact this
end
end K39

set_option Elab.async false
set_option linter.all false
set_option maxRecDepth 100000
set_option maxHeartbeats 4000000
namespace K39
open PySem PySem.Spec PyProof.Rows L2 Gs
section
variable {P : Program} {w : World} {K : PySem.W.Frag} {mg : Str → Option Value} {base : Heap}
theorem O_is_move (T : Tx K mg) : FnOk P w K mg base CX0 4 T.a_is_move T.d_is_move ["value"] (spB K moveD) := by
  refine T.F_is_move.ok sc_is_move spB_len (fun cdv A outer s H vs Q E hr h => ?_)
  obtain ⟨c, v, d, rfl, hd, k⟩ := h
  refine ⟨_, (pss_one (ps_ret (pe_and (pe_call (O_is_list T) (hr.mono (by decide)) (by rfl) T.m_is_list T.F_is_list.kp T.b_is_list .nil pass0 (pa_cons (pv 0) pa_nil)) (pe_and (pe_cmpR op_eq (pe_callB call_len_seq (by rfl) T.z_len (by decide +kernel) (pa_cons (pv 0) pa_nil)) pe_int (nomark _)) (pe_and (pe_call (O_is_square T) (hr.mono (by decide)) (by rfl) T.m_is_square T.F_is_square.kp T.b_is_square .nil pass0 (pa_cons (pe_ix ix_seq (pv 0) pe_int (fun _ _ => rfl)) pa_nil)) (pe_one (pe_call (O_is_square T) (hr.mono (by decide)) (by rfl) T.m_is_square T.F_is_square.kp T.b_is_square .nil pass0 (pa_cons (pe_ix ix_seq (pv 0) pe_int (fun _ _ => rfl)) pa_nil)))))))), ?_⟩
  refine ⟨_, rfl, c, v, d, rfl, hd, fun H1 s1 => ⟨_, rfl, ?_⟩⟩
  rcases seqCase (hd.up (Ext.of s1)) with ⟨e, q, _⟩ | ⟨a, xs, ds, rfl, na, hs, hv, e, q⟩
  · have := k H1 s1
    rw [show moveD d = false from twoD_no e] at this
    rw [q]; exact iteF this
  rw [q]
  refine iteT ⟨_, rfl, a, xs, rfl, hs, rfl, _, rfl, ?_⟩
  refine ite2 (fun e2 => ?_) (fun e2 => ?_)
  · obtain ⟨x, y, dx, dy, rfl, rfl, hx, hy⟩ := two_len hv e2
    rw [show moveD d = (squareD dx && squareD dy) from twoD_yes e] at k
    refine ⟨_, rfl, ixA hs rfl ⟨c, x, dx, rfl, hx, fun H2 s2 => ⟨_, rfl, ?_⟩⟩⟩
    refine iteB (fun e => ?_) (fun e => ?_)
    · rw [e] at k
      exact ⟨_, rfl, ixA (hs.same s2) rfl ⟨c, y, dy, rfl, hy.up (Ext.of s2), fun H3 s3 => k H3 ((s1.trans s2).trans s3)⟩⟩
    · rw [e] at k
      exact k H2 (s1.trans s2)
  · have := k H1 s1
    rw [show moveD d = false from twoD_ne e (two_not hv (by simpa using e2))] at this
    exact this
/-- .. of data with few items everywhere -/
def spBS (K : PySem.W.Frag) (f : PyData → Bool) : Sp := fun vs H Q _ => ∃ (c : Addr) (v : V) (d : PyData), vs = [v] ∧ DV K c H v d ∧ slimD d = true ∧ ∀ H', Same H H' → Q (.bl (f d)) H'
theorem spBS_len {f : PyData → Bool} {n : Str} : ∀ (vs : List V) (H : Hp) (Q : VK) (E : XK), spBS K f vs H Q E → vs.length = [n].length := by
  rintro vs H Q E ⟨c, v, d, rfl, _⟩; rfl
theorem slim_items {d : PyData} {ds : List PyData} (e : itemsD d = some ds) (sl : slimD d = true) : ds.length ≤ 1000 ∧ slimDs ds = true := by
  cases d with
  | list xs =>
    obtain ⟨a, b⟩ := Bool.and_eq_true_iff.mp (show (decide (xs.length ≤ 1000) && slimDs xs) = true from sl)
    cases e
    exact ⟨of_decide_eq_true a, b⟩
  | tuple xs =>
    obtain ⟨a, b⟩ := Bool.and_eq_true_iff.mp (show (decide (xs.length ≤ 1000) && slimDs xs) = true from sl)
    cases e
    exact ⟨of_decide_eq_true a, b⟩
  | _ => cases e
theorem few_of {c : Addr} {H : Hp} {d : PyData} {ds : List PyData} {xs : List V} (h : DVs K c H xs ds) (sl : slimD d = true) (e : itemsD d = some ds) : xs.length ≤ 1000 := by
  rw [h.len]; exact (slim_items e sl).1
theorem O_is_branch (T : Tx K mg) : FnOk P w K mg base CX0 5 T.a_is_branch T.d_is_branch ["value"] (spB K branchD) := by
  refine T.F_is_branch.ok sc_is_branch spB_len (fun cdv A outer s H vs Q E hr h => ?_)
  obtain ⟨c, v, d, rfl, hd, k⟩ := h
  refine ⟨_, (pss_one (ps_ret (pe_and (pe_call (O_is_list T) (hr.mono (by decide)) (by rfl) T.m_is_list T.F_is_list.kp T.b_is_list .nil pass0 (pa_cons (pv 0) pa_nil)) (pe_and (pe_cmpR op_eq (pe_callB call_len_seq (by rfl) T.z_len (by decide +kernel) (pa_cons (pv 0) pa_nil)) pe_int (nomark _)) (pe_one (pe_call (O_is_move T) (hr.mono (by decide)) (by rfl) T.m_is_move T.F_is_move.kp T.b_is_move .nil pass0 (pa_cons (pe_ix ix_seq (pv 0) pe_int (fun _ _ => rfl)) pa_nil))))))), ?_⟩
  refine ⟨_, rfl, c, v, d, rfl, hd, fun H1 s1 => ⟨_, rfl, ?_⟩⟩
  rcases seqCase (hd.up (Ext.of s1)) with ⟨e, q, _⟩ | ⟨a, xs, ds, rfl, na, hs, hv, e, q⟩
  · have := k H1 s1
    rw [show branchD d = false from twoD_no e] at this
    rw [q]; exact iteF this
  rw [q]
  refine iteT ⟨_, rfl, a, xs, rfl, hs, rfl, _, rfl, ?_⟩
  refine ite2 (fun e2 => ?_) (fun e2 => ?_)
  · obtain ⟨x, y, dx, dy, rfl, rfl, hx, hy⟩ := two_len hv e2
    rw [show branchD d = moveD dx from twoD_yes e] at k
    exact ⟨_, rfl, ixA hs rfl ⟨c, x, dx, rfl, hx, fun H2 s2 => k H2 (s1.trans s2)⟩⟩
  · have := k H1 s1
    rw [show branchD d = false from twoD_ne e (two_not hv (by simpa using e2))] at this
    exact this
/-- a branch, read -/
theorem brTwo {c : Addr} {H : Hp} {v : V} {d : PyData} (h : DV K c H v d) (b : branchD d = true) : ∃ a x y dx dy, v = .ref a ∧ a ≠ c ∧ SqA K H a [x, y] ∧ itemsD d = some [dx, dy] ∧ DV K c H x dx ∧ DV K c H y dy ∧ moveD dx = true := by
  rcases seqCase h with ⟨e, q, _⟩ | ⟨a, xs, ds, rfl, na, hs, hv, e, q⟩
  · rw [show branchD d = false from twoD_no e] at b; cases b
  by_cases n : ds.length = 2
  · obtain ⟨x, y, dx, dy, rfl, rfl, hx, hy⟩ := two_len hv (decide_eq_true (by rw [hv.len, n]; rfl))
    exact ⟨a, x, y, dx, dy, rfl, na, hs, e, hx, hy, by rw [← b]; exact (twoD_yes (f := fun a _ => moveD a) e).symm⟩
  · rw [show branchD d = false from twoD_ne e n] at b; cases b
theorem twoD_br {f : PyData → Bool} {d : PyData} (b : branchD d = false) : twoD (fun a b => moveD a && f b) d = false := by
  unfold branchD twoD at b
  unfold twoD
  match h : itemsD d with
  | some [a, b'] =>
    rw [h] at b
    have b : moveD a = false := b
    show (moveD a && f b') = false
    rw [b]; rfl
  | some [] => rfl
  | some [_] => rfl
  | some (_ :: _ :: _ :: _) => rfl
  | none => rfl
theorem O_is_empty (T : Tx K mg) : FnOk P w K mg base CX0 2 T.a_is_empty T.d_is_empty ["value"] (spB K emptyD) := by
  refine T.F_is_empty.ok sc_is_empty spB_len (fun cdv A outer s H vs Q E hr h => ?_)
  obtain ⟨c, v, d, rfl, hd, k⟩ := h
  refine ⟨_, (pss_one (ps_ret (pe_and (pe_call (O_is_list T) (hr.mono (by decide)) (by rfl) T.m_is_list T.F_is_list.kp T.b_is_list .nil pass0 (pa_cons (pv 0) pa_nil)) (pe_one (pe_cmpR op_eq (pe_callB call_len_seq (by rfl) T.z_len (by decide +kernel) (pa_cons (pv 0) pa_nil)) pe_int (nomark _)))))), ?_⟩
  refine ⟨_, rfl, c, v, d, rfl, hd, fun H1 s1 => ⟨_, rfl, ?_⟩⟩
  rcases seqCase (hd.up (Ext.of s1)) with ⟨e, q, _⟩ | ⟨a, xs, ds, rfl, na, hs, hv, e, q⟩
  · have := k H1 s1
    rw [show emptyD d = false by unfold emptyD; rw [e]] at this
    rw [q]; exact iteF this
  rw [q]
  refine iteT ⟨_, rfl, a, xs, rfl, hs, rfl, ?_⟩
  have := k H1 s1
  cases hv with
  | nil =>
    rw [show emptyD d = true by unfold emptyD; rw [e]] at this
    exact this
  | cons h1 h2 =>
    rw [show emptyD d = false by unfold emptyD; rw [e]] at this
    rw [decide_eq_false (fun z => by have := V.int.inj z; simp at this; omega)]
    exact this
theorem O_is_last_book (T : Tx K mg) : FnOk P w K mg base CX0 6 T.a_is_last_book T.d_is_last_book ["value"] (spB K lastBookD) := by
  refine T.F_is_last_book.ok sc_is_last_book spB_len (fun cdv A outer s H vs Q E hr h => ?_)
  obtain ⟨c, v, d, rfl, hd, k⟩ := h
  refine ⟨_, (pss_one (ps_ret (pe_and (pe_call (O_is_branch T) (hr.mono (by decide)) (by rfl) T.m_is_branch T.F_is_branch.kp T.b_is_branch .nil pass0 (pa_cons (pv 0) pa_nil)) (pe_one (pe_call (O_is_empty T) (hr.mono (by decide)) (by rfl) T.m_is_empty T.F_is_empty.kp T.b_is_empty .nil pass0 (pa_cons (pe_ix ix_seq (pv 0) pe_int (fun _ _ => rfl)) pa_nil)))))), ?_⟩
  refine ⟨_, rfl, c, v, d, rfl, hd, fun H1 s1 => ⟨_, rfl, ?_⟩⟩
  refine iteB (fun b => ?_) (fun b => ?_)
  · obtain ⟨a, x, y, dx, dy, rfl, na, hs, e, hx, hy, hm⟩ := brTwo (hd.up (Ext.of s1)) b
    rw [show lastBookD d = (moveD dx && emptyD dy) from twoD_yes e, hm, Bool.true_and] at k
    exact ⟨_, rfl, ixA hs rfl ⟨c, y, dy, rfl, hy, fun H2 s2 => k H2 (s1.trans s2)⟩⟩
  · have := k H1 s1
    rw [show lastBookD d = false from twoD_br b] at this
    exact this
theorem O_is_last_refusal (T : Tx K mg) : FnOk P w K mg base CX0 6 T.a_is_last_refusal T.d_is_last_refusal ["value"] (spBS K lastRefD) := by
  refine T.F_is_last_refusal.ok sc_is_last_refusal spBS_len (fun cdv A outer s H vs Q E hr h => ?_)
  obtain ⟨c, v, d, rfl, hd, sl, k⟩ := h
  refine ⟨_, (pss_one (ps_ret (pe_and (pe_call (O_is_list T) (hr.mono (by decide)) (by rfl) T.m_is_list T.F_is_list.kp T.b_is_list .nil pass0 (pa_cons (pv 0) pa_nil)) (pe_one (pe_callB (cr_all rfl) (by rfl) T.z_all (by decide +kernel) (pa_cons (pe_lc (own := [("pair", 1)]) (g := (gName 1)) rfl sc_is_last_refusal.nd (pi_or (pi_list (pv 0)) (pi_tup (pv 0))) (blkOk_by (N := n_is_last_refusal) (sc := defScope s_is_last_refusal) (by decide +kernel)) (fun _ _ _ _ _ => (pg_name (i := 1) sc_is_last_refusal.nd rfl (Or.inl rfl))) (fun _ _ _ _ _ => pts_nil) (fun _ _ _ _ _ => (pe_and (pe_call (O_is_branch T) (hr.mono (by decide)) (by rfl) T.m_is_branch T.F_is_branch.kp T.b_is_branch .nil pass0 (pa_cons (pv 1) pa_nil)) (pe_one (pe_call (O_is_empty T) (hr.mono (by decide)) (by rfl) T.m_is_empty T.F_is_empty.kp T.b_is_empty .nil pass0 (pa_cons (pe_ix (r := rIx K) ix_seq (pv 1) pe_int (fun _ _ => rfl)) pa_nil)))))) pa_nil)))))), ?_⟩
  refine ⟨_, rfl, c, v, d, rfl, hd, fun H1 s1 => ⟨_, rfl, ?_⟩⟩
  rcases seqCase (hd.up (Ext.of s1)) with ⟨e, q, _⟩ | ⟨a, xs, ds, rfl, na, hs, hv, e, q⟩
  · have := k H1 s1
    rw [show lastRefD d = false by unfold lastRefD allD; rw [e]] at this
    rw [q]; exact iteF this
  rw [q]
  have kk : lastRefD d = ds.all lastBookD := by unfold lastRefD allD; rw [e]
  refine iteT ?_
  refine sqa_rd rfl hs fun J G hG wk D hD => ?_
  refine lc_bools wk lastBookD hv.len hD (few_of hv sl e) hG ?_ ?_
  · intro i x dx H' Kc Ke hx hdx s2 kc
    obtain ⟨d', h1, h2⟩ := hv.at hx
    rw [hdx] at h1; cases h1
    refine ⟨rfl, ?_⟩
    refine ⟨_, rfl, c, x, dx, rfl, h2.up (Ext.of s2), fun H3 s3 => ⟨_, rfl, ?_⟩⟩
    refine iteB (fun b => ?_) (fun b => ?_)
    · obtain ⟨a2, x2, y2, dx2, dy2, rfl, na2, hs2, e2, hx2, hy2, hm⟩ := brTwo (h2.up (Ext.of (s2.trans s3))) b
      rw [show lastBookD dx = (moveD dx2 && emptyD dy2) from twoD_yes e2, hm, Bool.true_and] at kc
      exact ⟨_, rfl, ixA hs2 rfl ⟨c, y2, dy2, rfl, hy2, fun H4 s4 => kc H4 (s3.trans s4)⟩⟩
    · have := kc H3 s3
      rw [show lastBookD dx = false from twoD_br b] at this
      exact this
  · intro H' s2 hy
    have := k H' (s1.trans s2)
    rw [kk] at this
    refine ⟨D, _, rfl, .of hy, ?_⟩
    rw [List.all_map]
    exact this
end
end K39

set_option Elab.async false
set_option linter.all false
set_option maxRecDepth 100000
set_option maxHeartbeats 4000000
namespace K39
open PySem PySem.Spec PyProof.Rows L2 Gs
section
variable {P : Program} {w : World} {K : PySem.W.Frag} {mg : Str → Option Value} {base : Heap}
theorem sqa_rdE {H : Hp} {a : Addr} {xs : List V} {te : TE} {σ : L2.St} {R : It → Hp → Prop} (hv : ∀ Q : VK, Q (.ref a) H → te σ H Q) (hs : SqA K H a xs)
    (h : ∀ (J : It) (G : Hp → Prop), (∀ H', Same H H' → G H') → Walk J xs.length G (YAt xs) → R J H) : iList K te σ H R ∨ iTup K te σ H R := by
  rcases hs with hs | hs
  · exact .inl (hv _ ⟨a, rfl, ⟨xs, hs⟩, h _ _ (fun H' e => e.seq hs) walk_list⟩)
  · exact .inr (hv _ ⟨a, rfl, ⟨xs, hs⟩, h _ _ (fun H' e => e.seqT hs) walk_tup⟩)
theorem allD_no {f : PyData → Bool} {d : PyData} (h : itemsD d = none) : allD f d = false := by unfold allD; rw [h]
theorem allD_some {f : PyData → Bool} {d : PyData} {ds : List PyData} (h : itemsD d = some ds) : allD f d = ds.all f := by unfold allD; rw [h]
theorem two_slim {d a b : PyData} (e : itemsD d = some [a, b]) (sl : slimD d = true) : slimD a = true ∧ slimD b = true := by
  obtain ⟨h1, h2⟩ := Bool.and_eq_true_iff.mp (show (slimD a && slimDs [b]) = true from (slim_items e sl).2)
  exact ⟨h1, (Bool.and_eq_true_iff.mp (show (slimD b && slimDs []) = true from h2)).1⟩
theorem isNo_iff {c : Addr} {H : Hp} {v : V} {d : PyData} (h : DV K c H v d) : decide (v = .non) = isNoD d := by
  cases h <;> rfl
theorem O_is_reply (T : Tx K mg) : FnOk P w K mg base CX0 7 T.a_is_reply T.d_is_reply ["value"] (spBS K replyD) := by
  refine T.F_is_reply.ok sc_is_reply spBS_len (fun cdv A outer s H vs Q E hr h => ?_)
  obtain ⟨c, v, d, rfl, hd, sl, k⟩ := h
  refine ⟨_, (pss_one (ps_ret (pe_or (pe_cmpR op_isN (pv 0) pe_non (nomark _)) (pe_one (pe_and (pe_call (O_is_branch T) (hr.mono (by decide)) (by rfl) T.m_is_branch T.F_is_branch.kp T.b_is_branch .nil pass0 (pa_cons (pv 0) pa_nil)) (pe_one (pe_call (O_is_last_refusal T) (hr.mono (by decide)) (by rfl) T.m_is_last_refusal T.F_is_last_refusal.kp T.b_is_last_refusal .nil pass0 (pa_cons (pe_ix ix_seq (pv 0) pe_int (fun _ _ => rfl)) pa_nil)))))))), ?_⟩
  refine ⟨_, rfl, rfl, _, rfl, ?_⟩
  rw [isNo_iff hd]
  refine iteB (fun b => ?_) (fun b => ?_)
  · rw [show replyD d = true by unfold replyD; rw [b]; rfl] at k
    exact k H (Same.refl H)
  rw [show replyD d = twoD (fun a b => moveD a && lastRefD b) d by unfold replyD; rw [b]; rfl] at k
  refine ⟨_, rfl, c, v, d, rfl, hd, fun H1 s1 => ⟨_, rfl, ?_⟩⟩
  refine iteB (fun b => ?_) (fun b => ?_)
  · obtain ⟨a, x, y, dx, dy, rfl, na, hs, e, hx, hy, hm⟩ := brTwo (hd.up (Ext.of s1)) b
    rw [show twoD (fun a b => moveD a && lastRefD b) d = (moveD dx && lastRefD dy) from twoD_yes e, hm, Bool.true_and] at k
    exact ⟨_, rfl, ixA hs rfl ⟨c, y, dy, rfl, hy, (two_slim e sl).2, fun H2 s2 => k H2 (s1.trans s2)⟩⟩
  · have := k H1 s1
    rw [twoD_br b] at this
    exact this
def pairB : PyData → Bool := twoD fun x y => moveD x && lastBookD y
theorem O_is_book (T : Tx K mg) : FnOk P w K mg base CX0 8 T.a_is_book T.d_is_book ["value"] (spBS K bookD) := by
  refine T.F_is_book.ok sc_is_book spBS_len (fun cdv A outer s H vs Q E hr h => ?_)
  obtain ⟨c, v, d, rfl, hd, sl, k⟩ := h
  refine ⟨_, (pss_cons (ps_if (PW.pt (pw_or (pt_not (pt_val (pe_call (O_is_branch T) (hr.mono (by decide)) (by rfl) T.m_is_branch T.F_is_branch.kp T.b_is_branch .nil pass0 (pa_cons (pv 0) pa_nil)))) (pw_or1 (pt_not (pt_val (pe_call (O_is_list T) (hr.mono (by decide)) (by rfl) T.m_is_list T.F_is_list.kp T.b_is_list .nil pass0 (pa_cons (pe_ix ix_seq (pv 0) pe_int (fun _ _ => rfl)) pa_nil))))))) (pss_one (ps_ret pe_bl)) pss_nil)
      (pss_one (ps_ret (pe_callB (cr_all rfl) (by rfl) T.z_all (by decide +kernel) (pa_cons (pe_lc (own := [("pair", 1)]) (g := (gName 1)) rfl sc_is_book.nd (pi_or (pi_list (pe_ix ix_seq (pv 0) pe_int (fun _ _ => rfl))) (pi_tup (pe_ix ix_seq (pv 0) pe_int (fun _ _ => rfl)))) (blkOk_by (N := n_is_book) (sc := defScope s_is_book) (by decide +kernel)) (fun _ _ _ _ _ => (pg_name (i := 1) sc_is_book.nd rfl (Or.inl rfl))) (fun _ _ _ _ _ => pts_nil) (fun _ _ _ _ _ => (pe_and (pe_call (O_is_branch T) (hr.mono (by decide)) (by rfl) T.m_is_branch T.F_is_branch.kp T.b_is_branch .nil pass0 (pa_cons (pv 1) pa_nil)) (pe_one (pe_call (O_is_last_book T) (hr.mono (by decide)) (by rfl) T.m_is_last_book T.F_is_last_book.kp T.b_is_last_book .nil pass0 (pa_cons (pe_ix (r := rIx K) ix_seq (pv 1) pe_int (fun _ _ => rfl)) pa_nil)))))) pa_nil))))), ?_⟩
  refine ⟨_, rfl, c, v, d, rfl, hd, fun H1 s1 => ⟨_, rfl, ?_⟩⟩
  cases b : branchD d with
  | false =>
    have := k H1 s1
    rw [show bookD d = false from twoD_br b] at this
    exact iteT this
  | true =>
  refine iteF ?_
  obtain ⟨a, x, y, dx, dy, rfl, na, hs, e, hx, hy, hm⟩ := brTwo (hd.up (Ext.of s1)) b
  rw [show bookD d = (moveD dx && allD pairB dy) from twoD_yes e, hm, Bool.true_and] at k
  refine ⟨_, rfl, ixA hs rfl ⟨c, y, dy, rfl, hy, fun H2 s2 => ⟨_, rfl, ?_⟩⟩⟩
  have s12 := s1.trans s2
  rcases seqCase (hy.up (Ext.of s2)) with ⟨e2, q, _⟩ | ⟨a2, xs, ds, rfl, na2, hs2, hv2, e2, q⟩
  · have := k H2 s12
    rw [allD_no e2] at this
    rw [q]; exact iteT this
  rw [q]
  refine iteF ?_
  rw [allD_some e2] at k
  have sl2 := (two_slim e sl).2
  refine sqa_rdE (fun Q q => ⟨_, rfl, ixA (hs.same s2) rfl q⟩) hs2 fun J G hG wk D hD => ?_
  refine lc_bools wk pairB hv2.len hD (few_of hv2 sl2 e2) hG ?_ ?_
  · intro i x dx' H' Kc Ke hx' hdx s3 kc
    obtain ⟨d', h1, h2⟩ := hv2.at hx'
    rw [hdx] at h1; cases h1
    refine ⟨rfl, ?_⟩
    refine ⟨_, rfl, c, x, dx', rfl, h2.up (Ext.of s3), fun H3 s4 => ⟨_, rfl, ?_⟩⟩
    refine iteB (fun b => ?_) (fun b => ?_)
    · obtain ⟨a2, x2, y2, dx2, dy2, rfl, na2, hs2, e2, hx2, hy2, hm⟩ := brTwo (h2.up (Ext.of (s3.trans s4))) b
      rw [show pairB dx' = (moveD dx2 && lastBookD dy2) from twoD_yes e2, hm, Bool.true_and] at kc
      exact ⟨_, rfl, ixA hs2 rfl ⟨c, y2, dy2, rfl, hy2, fun H4 s5 => kc H4 (s4.trans s5)⟩⟩
    · have := kc H3 s4
      rw [show pairB dx' = false from twoD_br b] at this
      exact this
  · intro H' s3 hy'
    have := k H' (s12.trans s3)
    refine ⟨D, _, rfl, .of hy', ?_⟩
    rw [List.all_map]
    exact this
theorem O_is_refusal (T : Tx K mg) : FnOk P w K mg base CX0 9 T.a_is_refusal T.d_is_refusal ["value"] (spBS K refD) := by
  refine T.F_is_refusal.ok sc_is_refusal spBS_len (fun cdv A outer s H vs Q E hr h => ?_)
  obtain ⟨c, v, d, rfl, hd, sl, k⟩ := h
  refine ⟨_, (pss_cons (ps_if (PW.pt (pw_or (pt_not (pt_val (pe_call (O_is_list T) (hr.mono (by decide)) (by rfl) T.m_is_list T.F_is_list.kp T.b_is_list .nil pass0 (pa_cons (pv 0) pa_nil)))) (pw_or1 (pt_not (pt_val (pe_callB (cr_all rfl) (by rfl) T.z_all (by decide +kernel) (pa_cons (pe_lc (own := [("pair", 1)]) (g := (gName 1)) rfl sc_is_refusal.nd (pi_or (pi_list (pv 0)) (pi_tup (pv 0))) (blkOk_by (N := n_is_refusal) (sc := defScope s_is_refusal) (by decide +kernel)) (fun _ _ _ _ _ => (pg_name (i := 1) sc_is_refusal.nd rfl (Or.inl rfl))) (fun _ _ _ _ _ => pts_nil) (fun _ _ _ _ _ => (pe_call (O_is_branch T) (hr.mono (by decide)) (by rfl) T.m_is_branch T.F_is_branch.kp T.b_is_branch .nil pass0 (pa_cons (pv 1) pa_nil)))) pa_nil))))))) (pss_one (ps_ret pe_bl)) pss_nil)
      (pss_one (ps_ret (pe_or (pe_call (O_is_last_refusal T) (hr.mono (by decide)) (by rfl) T.m_is_last_refusal T.F_is_last_refusal.kp T.b_is_last_refusal .nil pass0 (pa_cons (pv 0) pa_nil)) (pe_one (pe_callB (cr_all rfl) (by rfl) T.z_all (by decide +kernel) (pa_cons (pe_lc (own := [("pair", 1)]) (g := (gName 1)) rfl sc_is_refusal.nd (pi_or (pi_list (pv 0)) (pi_tup (pv 0))) (blkOk_by (N := n_is_refusal) (sc := defScope s_is_refusal) (by decide +kernel)) (fun _ _ _ _ _ => (pg_name (i := 1) sc_is_refusal.nd rfl (Or.inl rfl))) (fun _ _ _ _ _ => pts_nil) (fun _ _ _ _ _ => (pe_call (O_is_reply T) (hr.mono (by decide)) (by rfl) T.m_is_reply T.F_is_reply.kp T.b_is_reply .nil pass0 (pa_cons (pe_ix (r := rIx K) ix_seq (pv 1) pe_int (fun _ _ => rfl)) pa_nil)))) pa_nil))))))), ?_⟩
  refine ⟨_, rfl, c, v, d, rfl, hd, fun H1 s1 => ⟨_, rfl, ?_⟩⟩
  rcases seqCase (hd.up (Ext.of s1)) with ⟨e, q, _⟩ | ⟨a, xs, ds, rfl, na, hs, hv, e, q⟩
  · have := k H1 s1
    rw [show refD d = false by unfold refD; rw [allD_no e]; rfl] at this
    rw [q]; exact iteT this
  rw [q]
  refine iteF ?_
  rw [show refD d = (ds.all branchD && (lastRefD d || ds.all (twoD fun _ b => replyD b))) by unfold refD; rw [allD_some e, allD_some e]] at k
  have few := few_of hv sl e
  refine sqa_rd rfl hs fun J G hG wk D hD => ?_
  refine lc_bools wk branchD hv.len hD few hG ?_ ?_
  · intro i x dx H' Kc Ke hx hdx s2 kc
    obtain ⟨d', h1, h2⟩ := hv.at hx
    rw [hdx] at h1; cases h1
    exact ⟨rfl, _, rfl, c, x, dx, rfl, h2.up (Ext.of s2), kc⟩
  intro H2 s2 hy
  refine ⟨D, _, rfl, .of hy, _, rfl, ?_⟩
  rw [List.all_map]
  have s12 := s1.trans s2
  cases b : ds.all branchD with
  | false =>
    have := k H2 s12
    rw [b] at this
    rw [show ds.all (id ∘ branchD) = false from b]
    exact iteT this
  | true =>
  rw [show ds.all (id ∘ branchD) = true from b]
  rw [b, Bool.true_and] at k
  refine iteF ?_
  refine ⟨_, rfl, c, _, d, rfl, hd.up (Ext.of s12), sl, fun H3 s3 => ⟨_, rfl, ?_⟩⟩
  have s13 := s12.trans s3
  refine iteB (fun b2 => ?_) (fun b2 => ?_)
  · rw [b2] at k
    exact k H3 s13
  rw [b2, Bool.false_or] at k
  have hs3 := hs.same (s2.trans s3)
  refine sqa_rd rfl hs3 fun J G hG wk D2 hD2 => ?_
  refine lc_bools wk (twoD fun _ b => replyD b) hv.len hD2 few hG ?_ ?_
  · intro i x dx H' Kc Ke hx hdx s4 kc
    obtain ⟨d', h1, h2⟩ := hv.at hx
    rw [hdx] at h1; cases h1
    have bb : branchD dx = true := List.all_eq_true.mp b dx (List.mem_of_getElem? hdx)
    have slx := slim_at (slim_items e sl).2 hdx
    obtain ⟨a2, x2, y2, dx2, dy2, rfl, na2, hs2, e2, hx2, hy2, hm⟩ := brTwo (h2.up (Ext.of ((s2.trans s3).trans s4))) bb
    rw [show twoD (fun _ b => replyD b) dx = replyD dy2 from twoD_yes e2] at kc
    exact ⟨rfl, _, rfl, ixA hs2 rfl ⟨c, y2, dy2, rfl, hy2, (two_slim e2 slx).2, kc⟩⟩
  · intro H' s4 hy'
    have := k H' (s13.trans s4)
    refine ⟨D2, _, rfl, .of hy', ?_⟩
    rw [List.all_map]
    exact this
end
end K39

set_option Elab.async false
set_option linter.all false
set_option maxRecDepth 100000
set_option maxHeartbeats 4000000
namespace K39
open PySem PySem.Spec PyProof.Rows L2 Gs
section
variable {P : Program} {w : World} {K : PySem.W.Frag} {mg : Str → Option Value} {base : Heap}
/-- a Won (or an Unwon), or what is none -/
def spIsW (K : PySem.W.Frag) (C : Addr) : Sp := fun vs H Q _ => ∃ v, vs = [v] ∧ ((∃ t, TyX K H v t ∧ PySem.W.kitOne K t (.ref C) = some false ∧ Q (.bl false) H) ∨ ∃ a dx fs, v = .ref a ∧ H a = some (.ins C dx fs) ∧ Q (.bl true) H)
theorem O_is_won_paper (T : Tx K mg) : FnOk P w K mg base CX0 1 T.a_is_won_paper T.d_is_won_paper ["value"] (spIsW K T.c_Won) := by
  refine T.F_is_won_paper.ok sc_is_won_paper (fun vs H Q E h => ?_) (fun cdv A outer s H vs Q E hr h => ?_)
  · obtain ⟨v, rfl, _⟩ := h; rfl
  obtain ⟨v, rfl, h⟩ := h
  refine ⟨_, (pss_one (ps_ret (pe_and (pe_callB call_isi (by rfl) T.z_isinstance (by decide +kernel) (pa_cons (pv 0) (pa_cons (pe_glob (v := .ref T.c_Won) (by rfl) T.m_Won rfl) pa_nil))) (pe_one (pe_cmpR op_eq (pe_clsName (pv 0)) pe_str (nomark _)))))), ?_⟩
  rcases h with ⟨t, ty, kt, k⟩ | ⟨a, dx, fs, rfl, ha, k⟩
  · exact ⟨_, rfl, v, .ref T.c_Won, t, .ref T.c_Won, false, rfl, .own _, ty, kt, _, rfl, iteF k⟩
  · exact ⟨_, rfl, .ref a, .ref T.c_Won, .ref T.c_Won, .ref T.c_Won, true, rfl, .own _, T.ty_Won.ty ha, T.kw_Won, _, rfl, iteT ⟨_, rfl, a, _, dx, _, "Won", rfl, ha, T.cn_Won, rfl, k⟩⟩
theorem O_is_unwon_paper (T : Tx K mg) : FnOk P w K mg base CX0 1 T.a_is_unwon_paper T.d_is_unwon_paper ["value"] (spIsW K T.c_Unwon) := by
  refine T.F_is_unwon_paper.ok sc_is_unwon_paper (fun vs H Q E h => ?_) (fun cdv A outer s H vs Q E hr h => ?_)
  · obtain ⟨v, rfl, _⟩ := h; rfl
  obtain ⟨v, rfl, h⟩ := h
  refine ⟨_, (pss_one (ps_ret (pe_and (pe_callB call_isi (by rfl) T.z_isinstance (by decide +kernel) (pa_cons (pv 0) (pa_cons (pe_glob (v := .ref T.c_Unwon) (by rfl) T.m_Unwon rfl) pa_nil))) (pe_one (pe_cmpR op_eq (pe_clsName (pv 0)) pe_str (nomark _)))))), ?_⟩
  rcases h with ⟨t, ty, kt, k⟩ | ⟨a, dx, fs, rfl, ha, k⟩
  · exact ⟨_, rfl, v, .ref T.c_Unwon, t, .ref T.c_Unwon, false, rfl, .own _, ty, kt, _, rfl, iteF k⟩
  · exact ⟨_, rfl, .ref a, .ref T.c_Unwon, .ref T.c_Unwon, .ref T.c_Unwon, true, rfl, .own _, T.ty_Unwon.ty ha, T.ku_Unwon, _, rfl, iteT ⟨_, rfl, a, _, dx, _, "Unwon", rfl, ha, T.cn_Unwon, rfl, k⟩⟩
/-- .. whose one part is data -/
def spHas (K : PySem.W.Frag) (C : Addr) (z fd : Str) (f : PyData → Bool) : Sp := fun vs H Q _ => ∃ v, vs = [v] ∧ ((∃ t, TyX K H v t ∧ PySem.W.kitOne K t (.ref C) = some false ∧ Q (.bl false) H) ∨
  ∃ a dx p u c d, v = .ref a ∧ H a = some (.ins C dx [("word", .str z), ("parts", .ref p), (fd, u)]) ∧ DV K c H u d ∧ slimD d = true ∧ ∀ H', Same H H' → Q (.bl (f d)) H')
theorem O_has_book (T : Tx K mg) : FnOk P w K mg base CX0 9 T.a_has_book T.d_has_book ["value"] (spHas K T.c_Won "won" "book" bookD) := by
  refine T.F_has_book.ok sc_has_book (fun vs H Q E h => ?_) (fun cdv A outer s H vs Q E hr h => ?_)
  · obtain ⟨v, rfl, _⟩ := h; rfl
  obtain ⟨v, rfl, h⟩ := h
  refine ⟨_, (pss_one (ps_ret (pe_and (pe_call (O_is_won_paper T) (hr.mono (by decide)) (by rfl) T.m_is_won_paper T.F_is_won_paper.kp T.b_is_won_paper .nil pass0 (pa_cons (pv 0) pa_nil)) (pe_one (pe_call (O_is_book T) (hr.mono (by decide)) (by rfl) T.m_is_book T.F_is_book.kp T.b_is_book .nil pass0 (pa_cons (pe_fldK (K := K) rfl (pv 0)) pa_nil)))))), ?_⟩
  rcases h with ⟨t, ty, kt, k⟩ | ⟨a, dx, p, u, c, d, rfl, ha, hd, sl, k⟩
  · exact ⟨_, rfl, v, rfl, .inl ⟨t, ty, kt, _, rfl, iteF k⟩⟩
  · exact ⟨_, rfl, _, rfl, .inr ⟨a, dx, _, rfl, ha, _, rfl, iteT ⟨_, rfl, a, _, dx, _, _, rfl, ha, T.cl_Won, T.nF_Won_book, rfl, c, u, d, rfl, hd, sl, k⟩⟩⟩
theorem O_has_refusal (T : Tx K mg) : FnOk P w K mg base CX0 10 T.a_has_refusal T.d_has_refusal ["value"] (spHas K T.c_Unwon "unwon" "replies" refD) := by
  refine T.F_has_refusal.ok sc_has_refusal (fun vs H Q E h => ?_) (fun cdv A outer s H vs Q E hr h => ?_)
  · obtain ⟨v, rfl, _⟩ := h; rfl
  obtain ⟨v, rfl, h⟩ := h
  refine ⟨_, (pss_one (ps_ret (pe_and (pe_call (O_is_unwon_paper T) (hr.mono (by decide)) (by rfl) T.m_is_unwon_paper T.F_is_unwon_paper.kp T.b_is_unwon_paper .nil pass0 (pa_cons (pv 0) pa_nil)) (pe_one (pe_call (O_is_refusal T) (hr.mono (by decide)) (by rfl) T.m_is_refusal T.F_is_refusal.kp T.b_is_refusal .nil pass0 (pa_cons (pe_fldK (K := K) rfl (pv 0)) pa_nil)))))), ?_⟩
  rcases h with ⟨t, ty, kt, k⟩ | ⟨a, dx, p, u, c, d, rfl, ha, hd, sl, k⟩
  · exact ⟨_, rfl, v, rfl, .inl ⟨t, ty, kt, _, rfl, iteF k⟩⟩
  · exact ⟨_, rfl, _, rfl, .inr ⟨a, dx, _, rfl, ha, _, rfl, iteT ⟨_, rfl, a, _, dx, _, _, rfl, ha, T.cl_Unwon, T.nF_Unwon_replies, rfl, c, u, d, rfl, hd, sl, k⟩⟩⟩
end
end K39

set_option Elab.async false
set_option linter.all false
set_option maxRecDepth 100000
set_option maxHeartbeats 4000000
/-! Layer G46: comprehensions of two clauses; a starred name in a tuple within one. -/
namespace Gs
open PySem PySem.Spec PyProof.Rows L2
theorem pi_tupK {X : Cx} {K : PySem.W.Frag} {tg e : Expr} {te : TE} (eK : X.K = K) (h : PE X e te) : PI X tg e (iTup K te) := by
  subst eK; exact pi_tup h
section
variable {J : It} {n : Nat} {G : Hp → Prop} {Y : Nat → Hp → V → Hp → Prop}
/-- a comprehension of two clauses: the outer turns -/
theorem lc2_it (wk : Walk J n G Y) {g g1 : TG} {tt tt1 : TT} {wi1 : TI} {te : TE} {vs vs1 : List Nat} {σ : L2.St} {H1 : Hp} {D : Addr} {Qd : Hp → Prop} (Pv : Nat → Hp → Prop) (h0 : Pv 0 (upd H1 D (.lst []))) (hG : ∀ i H, i ≤ n → Pv i H → G H)
    (hs : ∀ i x H H', i < n → Pv i H → Y i H x H' → g x (wipe σ vs) H' fun σ2 H2 => wipe σ2 vs = wipe σ vs ∧ tt σ2 H2 fun b H3 =>
      if b = true then wi1 σ2 H3 fun J1 H4 => ∃ W1 : Nat → Nat → Hp → Prop, (∃ m, W1 0 m H4) ∧ ∀ j k H, W1 j k H →
        (J1.stop j H ∧ Pv (i + 1) H) ∨ (J1.go j H ∧ ∃ Nx1 : Hp → Prop, (∀ H', Nx1 H' → ∃ k', k' < k ∧ W1 (j + 1) k' H') ∧ ∀ x H', J1.yld j H x H' → g1 x (wipe σ2 vs1) H' fun σ3 H5 => wipe σ3 vs1 = wipe σ2 vs1 ∧ tt1 σ3 H5 fun b H6 =>
          if b = true then te σ3 H6 fun y H7 => ∃ acc, H7 D = some (.lst acc) ∧ acc.length < sizeLine ∧ Nx1 (upd H7 D (.lst (acc ++ [y]))) else Nx1 H6)
      else Pv (i + 1) H3) (hd : ∀ H, Pv n H → Qd H) :
    ∃ W : Nat → Nat → Hp → Prop, (∃ m, W 0 m (upd H1 D (.lst []))) ∧ ∀ i m H, W i m H →
  (J.stop i H ∧ Qd H) ∨ (J.go i H ∧ ∃ Nx : Hp → Prop, (∀ H', Nx H' → ∃ m', m' < m ∧ W (i + 1) m' H') ∧ ∀ x H', J.yld i H x H' → g x (wipe σ vs) H' fun σ2 H2 => wipe σ2 vs = wipe σ vs ∧ tt σ2 H2 fun b H3 =>
    if b = true then wi1 σ2 H3 fun J1 H4 => ∃ W1 : Nat → Nat → Hp → Prop, (∃ m, W1 0 m H4) ∧ ∀ j k H, W1 j k H →
      (J1.stop j H ∧ Nx H) ∨ (J1.go j H ∧ ∃ Nx1 : Hp → Prop, (∀ H', Nx1 H' → ∃ k', k' < k ∧ W1 (j + 1) k' H') ∧ ∀ x H', J1.yld j H x H' → g1 x (wipe σ2 vs1) H' fun σ3 H5 => wipe σ3 vs1 = wipe σ2 vs1 ∧ tt1 σ3 H5 fun b H6 =>
        if b = true then te σ3 H6 fun y H7 => ∃ acc, H7 D = some (.lst acc) ∧ acc.length < sizeLine ∧ Nx1 (upd H7 D (.lst (acc ++ [y]))) else Nx1 H6)
    else Nx H3) := by
  refine ⟨fun i m H => m = n - i ∧ i ≤ n ∧ Pv i H, ⟨n, (Nat.sub_zero n).symm, Nat.zero_le _, h0⟩, ?_⟩
  rintro i m H ⟨rfl, hi, p⟩
  have q := hG i H hi p
  by_cases lt : i < n
  · exact .inr ⟨wk.goes i H lt q, Pv (i + 1), fun H' p' => ⟨n - (i + 1), by omega, rfl, lt, p'⟩, fun x H' y => hs i x H H' lt p (wk.yields i H x H' lt q y)⟩
  · obtain rfl : i = n := by omega
    exact .inl ⟨wk.stops H q, hd H p⟩
/-- .. the inner turns -/
theorem in2_it (wk : Walk J n G Y) {g1 : TG} {tt1 : TT} {te : TE} {vs1 : List Nat} {σ2 : L2.St} {H4 : Hp} {D : Addr} {Qd : Hp → Prop} (P1 : Nat → Hp → Prop) (h0 : P1 0 H4) (hG : ∀ i H, i ≤ n → P1 i H → G H)
    (hs : ∀ i x H H', i < n → P1 i H → Y i H x H' → g1 x (wipe σ2 vs1) H' fun σ3 H5 => wipe σ3 vs1 = wipe σ2 vs1 ∧ tt1 σ3 H5 fun b H6 =>
      if b = true then te σ3 H6 fun y H7 => ∃ acc, H7 D = some (.lst acc) ∧ acc.length < sizeLine ∧ P1 (i + 1) (upd H7 D (.lst (acc ++ [y]))) else P1 (i + 1) H6) (hd : ∀ H, P1 n H → Qd H) :
    ∃ W1 : Nat → Nat → Hp → Prop, (∃ m, W1 0 m H4) ∧ ∀ j k H, W1 j k H →
      (J.stop j H ∧ Qd H) ∨ (J.go j H ∧ ∃ Nx1 : Hp → Prop, (∀ H', Nx1 H' → ∃ k', k' < k ∧ W1 (j + 1) k' H') ∧ ∀ x H', J.yld j H x H' → g1 x (wipe σ2 vs1) H' fun σ3 H5 => wipe σ3 vs1 = wipe σ2 vs1 ∧ tt1 σ3 H5 fun b H6 =>
        if b = true then te σ3 H6 fun y H7 => ∃ acc, H7 D = some (.lst acc) ∧ acc.length < sizeLine ∧ Nx1 (upd H7 D (.lst (acc ++ [y]))) else Nx1 H6) := by
  refine ⟨fun i m H => m = n - i ∧ i ≤ n ∧ P1 i H, ⟨n, (Nat.sub_zero n).symm, Nat.zero_le _, h0⟩, ?_⟩
  rintro i m H ⟨rfl, hi, p⟩
  have q := hG i H hi p
  by_cases lt : i < n
  · exact .inr ⟨wk.goes i H lt q, P1 (i + 1), fun H' p' => ⟨n - (i + 1), by omega, rfl, lt, p'⟩, fun x H' y => hs i x H H' lt p (wk.yields i H x H' lt q y)⟩
  · obtain rfl : i = n := by omega
    exact .inl ⟨wk.stops H q, hd H p⟩
end
theorem pa_starK {X : Cx} {K : PySem.W.Frag} {e : Expr} {es : List Expr} {te : TE} {t : TA} {p : Pos} (eK : X.K = K) (he : PE X e te) (hr : PA X es t) (hs : starEach (.Starred e p :: es) X.env = (true, eval e X.env) :: starEach es X.env := by rfl) : PA X (.Starred e p :: es) (StX.tStar K te t) := by
  subst eK; exact StX.pa_star he hr hs
end Gs

set_option Elab.async false
set_option linter.all false
set_option maxRecDepth 100000
set_option maxHeartbeats 4000000
namespace K39
open PySem PySem.Spec PyProof.Rows L2 Gs
section
variable {P : Program} {w : World} {K : PySem.W.Frag} {mg : Str → Option Value} {base : Heap}
/-- a new tuple of new tuples of these -/
def RowsAt (H0 H : Hp) (u : V) (vss : List (List V)) : Prop := ∃ (t : Addr) (ts : List Addr), u = .ref t ∧ H0 t = none ∧ H t = some (.tup (ts.map V.ref)) ∧ ts.length = vss.length ∧ ∀ (i : Nat) (q : Addr) (vs : List V), ts[i]? = some q → vss[i]? = some vs → H0 q = none ∧ H q = some (.tup vs)
/-- .. a list of them, under way -/
def RowsL (H0 H : Hp) (D : Addr) (vss : List (List V)) : Prop := ∃ (ts : List Addr), H D = some (.lst (ts.map V.ref)) ∧ ts.length = vss.length ∧ ∀ (i : Nat) (q : Addr) (vs : List V), ts[i]? = some q → vss[i]? = some vs → H0 q = none ∧ H q = some (.tup vs)
theorem RowsL.nil {H0 H : Hp} {D : Addr} (h : H D = some (.lst [])) : RowsL H0 H D [] := ⟨[], h, rfl, fun i q vs hq => by simp at hq⟩
theorem RowsL.same {H0 H H' : Hp} {D : Addr} {vss : List (List V)} (s : Same H H') (h : RowsL H0 H D vss) : RowsL H0 H' D vss := by
  obtain ⟨ts, h1, h2, h3⟩ := h
  exact ⟨ts, s _ _ h1, h2, fun i q vs hq hv => ⟨(h3 i q vs hq hv).1, s _ _ (h3 i q vs hq hv).2⟩⟩
theorem RowsL.push {H0 H : Hp} {D q : Addr} {vss : List (List V)} {vs : List V} {acc : List V} (h : RowsL H0 H D vss) (ha : H D = some (.lst acc)) (n0 : H0 q = none) (hq : H q = some (.tup vs)) : RowsL H0 (upd H D (.lst (acc ++ [V.ref q]))) D (vss ++ [vs]) := by
  obtain ⟨ts, h1, h2, h3⟩ := h
  rw [ha] at h1
  cases h1
  refine ⟨ts ++ [q], by rw [upd_same, List.map_append]; rfl, by rw [List.length_append, List.length_append, h2]; rfl, fun i r ws hr hw => ?_⟩
  have nD : ∀ {r : Addr} {ws : List V}, H r = some (.tup ws) → upd H D (.lst (ts.map V.ref ++ [V.ref q])) r = some (.tup ws) := fun {r ws} e => by
    rw [upd_ne (fun z => by rw [z, ha] at e; cases e)]; exact e
  by_cases lt : i < ts.length
  · rw [List.getElem?_append_left lt] at hr
    rw [List.getElem?_append_left (by omega)] at hw
    exact ⟨(h3 i r ws hr hw).1, nD (h3 i r ws hr hw).2⟩
  · have e : i = ts.length := by
      have := (List.getElem?_eq_some_iff.mp hr).1
      rw [List.length_append] at this; simp at this; omega
    subst e
    rw [List.getElem?_append_right (Nat.le_refl _), Nat.sub_self] at hr
    rw [h2, List.getElem?_append_right (Nat.le_refl _), Nat.sub_self] at hw
    simp at hr hw
    subst hr hw
    exact ⟨n0, nD hq⟩
theorem RowsL.done {H0 H : Hp} {D t : Addr} {vss : List (List V)} {acc : List V} (h : RowsL H0 H D vss) (ha : H D = some (.lst acc)) (ht : H t = none) (n0 : H0 t = none) : RowsAt H0 (upd H t (.tup acc)) (.ref t) vss := by
  obtain ⟨ts, h1, h2, h3⟩ := h
  rw [ha] at h1
  cases h1
  exact ⟨t, ts, rfl, n0, upd_same, h2, fun i q vs hq hv => ⟨(h3 i q vs hq hv).1, by rw [upd_ne (ne_of_none (h3 i q vs hq hv).2 ht)]; exact (h3 i q vs hq hv).2⟩⟩
/-- a book, value by value -/
def BkV (K : PySem.W.Frag) (H : Hp) (v x : V) (as : List (V × V)) : Prop := ∃ (a b : Addr) (bs : List Addr), v = .ref a ∧ SqT K H a [x, .ref b] ∧ SqT K H b (bs.map V.ref) ∧ bs.length = as.length ∧
  ∀ (i : Nat) (e : Addr) (p : V × V), bs[i]? = some e → as[i]? = some p → ∃ l z, SqT K H e [p.1, .ref l] ∧ SqT K H l [p.2, .ref z] ∧ SqT K H z []
def bkRows (x : V) (as : List (V × V)) : List (List V) := if as = [] then [[x]] else as.map fun p => [x, p.1, p.2]
def spCB (K : PySem.W.Frag) (n : Nat) : Sp := fun vs H Q _ => ∃ v x as, vs = [v] ∧ BkV K H v x as ∧ (n = 0 → as = []) ∧ as.length ≤ 1000 ∧ ∀ H' u, Same H H' → RowsAt H H' u (bkRows x as) → Q u H'
def spCBR (K : PySem.W.Frag) : Nat → Sp
  | 0 => fun _ _ _ _ => False
  | n + 1 => spCB K n
theorem cb_step (T : Tx K mg) (n : Nat) (IH : FnOk P w K mg base CX0 (n + 1) T.a_courses_of_book T.d_courses_of_book ["book"] (spCBR K n)) : FnOk P w K mg base CX0 (n + 2) T.a_courses_of_book T.d_courses_of_book ["book"] (spCB K n) := by
  refine T.F_courses_of_book.ok sc_courses_of_book (fun vs H Q E h => ?_) (fun cdv A outer s H vs Q E hr h => ?_)
  · obtain ⟨_, _, _, rfl, _⟩ := h; rfl
  obtain ⟨v, x, as, rfl, ⟨a, b, bs, rfl, ha, hb, hl, hbs⟩, hn, few, k⟩ := h
  refine ⟨_, (pss_cons (ps_asg (pv 0) (pg_tup rfl (pgs_cons (pg_name (i := 1) sc_courses_of_book.nd rfl (Or.inr rfl)) (pgs_cons (pg_name (i := 2) sc_courses_of_book.nd rfl (Or.inl rfl)) pgs_nil))))
      (pss_cons (ps_if (pt_not (pt_truth (pv 2) (by intro _; rfl))) (pss_one (ps_ret (pe_tup (pa_cons (pe_tup (pa_cons (pv 1) pa_nil)) pa_nil)))) pss_nil)
      (pss_one (ps_ret (pe_callTy call_tuple_of (by rfl) T.z_tuple (by decide +kernel) (pa_cons (pe_lc2 (own := [("answer", 3), ("last", 4), ("course", 5)]) (vs1 := [5]) (g := gTup K 2 (gCons (gName 3) (gCons (gName 4) gNil))) (g1 := gName 5) rfl sc_courses_of_book.nd (pi_tup (pv 2)) (blkOk_by (N := n_courses_of_book) (sc := defScope s_courses_of_book) (by decide +kernel)) (by decide) (fun _ _ _ _ _ => (pg_tup rfl (pgs_cons (pg_name (i := 3) sc_courses_of_book.nd rfl (Or.inl rfl)) (pgs_cons (pg_name (i := 4) sc_courses_of_book.nd rfl (Or.inl rfl)) pgs_nil)))) (fun _ _ _ _ _ => pts_nil) (fun _ _ _ _ _ => (pi_tupK (K := K) rfl (pe_call IH (hr.mono (by omega)) (by rfl) T.m_courses_of_book T.F_courses_of_book.kp T.b_courses_of_book .nil pass0 (pa_cons (pv 4) pa_nil)))) (fun _ _ _ _ _ => (pg_name (i := 5) sc_courses_of_book.nd rfl (Or.inl rfl))) (fun _ _ _ _ _ => pts_nil) (fun _ _ _ _ _ => (pe_tup (pa_cons (pv 1) (pa_cons (pv 3) (pa_starK (K := K) rfl (pv 5) pa_nil)))))) pa_nil)))))), ?_⟩
  refine ⟨_, rfl, a, _, rfl, ha, rfl, _, _, rfl, _, _, rfl, rfl, ?_⟩
  dsimp only [List.set]
  by_cases e : as = []
  · subst e
    rw [List.length_eq_zero_iff.mp hl] at hb
    refine ⟨_, rfl, false, .inr (.inl ⟨_, hb, rfl⟩), ?_⟩
    refine iteT ⟨_, rfl, szl rfl, fun p1 hp1 => ⟨szl rfl, fun p2 hp2 => ?_⟩⟩
    have s1 : Same H (upd H p1 (.tup [x])) := same_new hp1
    refine k _ _ (s1.trans (same_new hp2)) ⟨p2, [p1], rfl, s1.free hp2, upd_same, rfl, fun i q vs hq hv => ?_⟩
    match i, hq, hv with
    | 0, hq, hv =>
      cases hq; cases hv
      exact ⟨hp1, by rw [upd_ne (ne_of_none (show upd H p1 (.tup [x]) p1 = some (.tup [x]) from upd_same) hp2)]; exact upd_same⟩
    | i + 1, hq, hv => simp at hq
  have nb : bs ≠ [] := fun z => e (List.length_eq_zero_iff.mp (by rw [← hl, z]; rfl))
  refine ⟨_, rfl, true, .inr (.inl ⟨_, hb, by cases bs with | nil => exact absurd rfl nb | cons _ _ => rfl⟩), ?_⟩
  refine iteF ?_
  obtain ⟨n, rfl⟩ : ∃ m, n = m + 1 := ⟨n - 1, by have : n ≠ 0 := fun z => e (hn z); omega⟩
  have er : bkRows x as = as.map fun p => [x, p.1, p.2] := by unfold bkRows; rw [if_neg e]
  rw [er] at k
  refine ⟨_, rfl, b, rfl, ⟨_, hb⟩, fun D hD => ?_⟩
  refine lc2_it (walk_tup (K := K) (a := b) (xs := bs.map V.ref)) (fun i H' => Same H H' ∧ RowsL H H' D ((as.take i).map fun p => [x, p.1, p.2])) ⟨same_new hD, by rw [List.take_zero]; exact .nil upd_same⟩ (fun i H' _ h => h.1.seqT hb) ?_ ?_
  · rintro i w' H1 H1' hi ⟨s1, r1⟩ ⟨rfl, hw⟩
    rw [List.getElem?_map] at hw
    obtain ⟨eb, heb, rfl⟩ := Option.map_eq_some_iff.mp hw
    have hib : i < bs.length := (List.getElem?_eq_some_iff.mp heb).1
    have hpi : as[i]? = some as[i] := List.getElem?_eq_getElem (by omega)
    obtain ⟨l, z, g1, g2, g3⟩ := hbs i eb _ heb hpi
    generalize as[i] = p at hpi g1 g2
    refine ⟨eb, _, rfl, s1.seqT g1, rfl, _, _, rfl, _, _, rfl, rfl, rfl, ?_⟩
    refine ⟨_, rfl, .ref l, p.2, [], rfl, ⟨l, z, [], rfl, s1.seqT g2, s1.seqT g3, rfl, fun i e p h => by simp at h⟩, fun _ => rfl, Nat.zero_le _, fun H2 u s2 ru => ?_⟩
    obtain ⟨t, ts, rfl, _, ht, htl, hts⟩ := ru
    match ts, htl with
    | [q1], _ =>
    obtain ⟨nq1, hq1⟩ := hts 0 q1 [p.2] rfl rfl
    have r2 := r1.same s2
    have nD1 : t ≠ D := fun z => by obtain ⟨ts', h1, _⟩ := r2; rw [← z, ht] at h1; cases h1
    have nD2 : q1 ≠ D := fun z => by obtain ⟨ts', h1, _⟩ := r2; rw [← z, hq1] at h1; cases h1
    refine ⟨t, rfl, ⟨_, .of ht⟩, ?_⟩
    refine in2_it (walk_tup (K := K) (a := t) (xs := [.ref q1])) (fun j H' => Same H H' ∧ H' t = some (.tup [.ref q1]) ∧ H' q1 = some (.tup [p.2]) ∧ RowsL H H' D (((as.take i).map fun p => [x, p.1, p.2]) ++ (if j = 0 then [] else [[x, p.1, p.2]]))) ⟨s1.trans s2, ht, hq1, by rw [if_pos rfl, List.append_nil]; exact r2⟩ (fun j H' _ h => .of h.2.1) ?_ ?_
    · rintro j y H3 H3' hj ⟨s3, ht3, hq3, r3⟩ ⟨rfl, hy⟩
      have hj : j < 1 := hj
      obtain rfl : j = 0 := by omega
      cases hy
      rw [if_pos rfl, List.append_nil] at r3
      refine ⟨rfl, ?_⟩
      refine ⟨_, rfl, _, rfl, _, rfl, q1, [p.2], rfl, .inl (.of hq3), szl rfl, fun r hr => ?_⟩
      have s4 : Same H3' (upd H3' r (.tup [x, p.1, p.2])) := same_new hr
      have r4 := r3.same s4
      obtain ⟨acc, hacc⟩ : ∃ acc, upd H3' r (.tup [x, p.1, p.2]) D = some (.lst acc) := by obtain ⟨ts', h1, _⟩ := r4; exact ⟨_, h1⟩
      have s34 := s3.trans s4
      have la : acc.length = i := by
        obtain ⟨ts', h1, h2, _⟩ := r4
        rw [hacc] at h1; cases h1
        rw [List.length_map, h2, List.length_map, List.length_take]; omega
      refine ⟨acc, hacc, szK (by omega), same_own s34 hD, ?_, ?_, ?_⟩
      · rw [upd_ne nD1]; exact s4 _ _ ht3
      · rw [upd_ne nD2]; exact s4 _ _ hq3
      · exact r4.push hacc (s3.free hr) upd_same
    · rintro H3 ⟨s3, _, _, r3⟩
      refine ⟨s3, ?_⟩
      rw [List.take_add_one, hpi, List.map_append]
      exact r3
  · rintro H2 ⟨s2, r2⟩
    rw [List.length_map, hl, List.take_length] at r2
    obtain ⟨acc, hacc⟩ : ∃ acc, H2 D = some (.lst acc) := by obtain ⟨ts', h1, _⟩ := r2; exact ⟨_, h1⟩
    refine ⟨D, acc, rfl, .inl ⟨.of hacc, fun t ht => ?_⟩⟩
    exact k _ _ (s2.trans (same_new ht)) (r2.done hacc ht (s2.free ht))
theorem O_cb_at (T : Tx K mg) : ∀ n, FnOk P w K mg base CX0 (n + 2) T.a_courses_of_book T.d_courses_of_book ["book"] (spCB K n)
  | 0 => cb_step T 0 ⟨fun _ _ _ _ h => h.elim, fun _ _ _ _ _ _ _ _ _ _ _ _ _ h => h.elim⟩
  | n + 1 => cb_step T (n + 1) (O_cb_at T n)
theorem O_courses_of_book (T : Tx K mg) : FnOk P w K mg base CX0 3 T.a_courses_of_book T.d_courses_of_book ["book"] (spCB K 1) := O_cb_at T 1
end
end K39

set_option Elab.async false
set_option linter.all false
set_option maxRecDepth 100000
set_option maxHeartbeats 4000000
namespace K39
open PySem PySem.Spec PyProof.Rows L2 Gs
inductive Row
  | bare (x : V)
  | ans (x y : V) (ls : List V)
def onV (ls : List V) : List (List V) := if ls = [] then [[]] else ls.map fun l => [l]
def Row.rows : Row → List (List V)
  | .bare x => [[x]]
  | .ans x y ls => (onV ls).map fun c => x :: y :: c
section
variable {P : Program} {w : World} {K : PySem.W.Frag} {mg : Str → Option Value} {base : Heap}
theorem RowsL.app {H0 H : Hp} {D D2 : Addr} {vss wss : List (List V)} {acc zs : List V} (h : RowsL H0 H D vss) (h2 : RowsL H0 H D2 wss) (ha : H D = some (.lst acc)) (hz : H D2 = some (.lst zs)) : RowsL H0 (upd H D (.lst (acc ++ zs))) D (vss ++ wss) := by
  obtain ⟨ts, a1, a2, a3⟩ := h
  obtain ⟨us, b1, b2, b3⟩ := h2
  rw [ha] at a1
  cases a1
  rw [hz] at b1
  cases b1
  refine ⟨ts ++ us, by rw [upd_same, List.map_append], by rw [List.length_append, List.length_append, a2, b2], fun i r ws hr hw => ?_⟩
  have nD : ∀ {r : Addr} {ws : List V}, H r = some (.tup ws) → upd H D (.lst (ts.map V.ref ++ us.map V.ref)) r = some (.tup ws) := fun {r ws} e => by
    rw [upd_ne (fun z => by rw [z, ha] at e; cases e)]; exact e
  by_cases lt : i < ts.length
  · rw [List.getElem?_append_left lt] at hr
    rw [List.getElem?_append_left (by omega)] at hw
    exact ⟨(a3 i r ws hr hw).1, nD (a3 i r ws hr hw).2⟩
  · rw [List.getElem?_append_right (by omega)] at hr
    rw [List.getElem?_append_right (by omega), ← a2] at hw
    exact ⟨(b3 _ r ws hr hw).1, nD (b3 _ r ws hr hw).2⟩
theorem RowsL.acc {H0 H : Hp} {D : Addr} {vss : List (List V)} (h : RowsL H0 H D vss) : ∃ acc, H D = some (.lst acc) ∧ acc.length = vss.length := by
  obtain ⟨ts, a1, a2, _⟩ := h
  exact ⟨_, a1, by rw [List.length_map, a2]⟩
theorem rows_len {r : Row} (h : ∀ x y ls, r = .ans x y ls → ls.length ≤ 1000) : r.rows.length ≤ 1000 := by
  cases r with
  | bare x => show 1 ≤ 1000; decide
  | ans x y ls =>
    have := h x y ls rfl
    show ((onV ls).map _).length ≤ 1000
    rw [List.length_map]
    unfold onV
    split
    · show 1 ≤ 1000; decide
    · rw [List.length_map]; exact this
theorem onV_len {ls : List V} {c : List V} (h : c ∈ onV ls) : c.length ≤ 1 := by
  unfold onV at h
  split at h
  · rw [List.mem_singleton.mp h]; exact Nat.zero_le _
  · obtain ⟨l, _, rfl⟩ := List.mem_map.mp h
    exact Nat.le_refl _
theorem flat_bare : ∀ ls : List V, ls.flatMap (fun l => Row.rows (.bare l)) = ls.map fun l => [l]
  | [] => rfl
  | l :: ls => by rw [List.flatMap_cons, flat_bare ls]; rfl
theorem flat_rows : ∀ {rs : List Row}, (∀ r ∈ rs, r.rows.length ≤ 1000) → (rs.flatMap Row.rows).length ≤ 1000 * rs.length
  | [], _ => by simp
  | r :: rs, h => by
    have h1 := h r List.mem_cons_self
    have h2 := flat_rows (rs := rs) fun q hq => h q (List.mem_cons_of_mem _ hq)
    rw [List.flatMap_cons, List.length_append, List.length_cons]; omega
def RowV (K : PySem.W.Frag) (H : Hp) (e : Addr) : Row → Prop
  | .bare x => ∃ r, SqT K H e [x, r] ∧ (r = .non ∨ ∃ z, r = .ref z ∧ SqT K H z [])
  | .ans x y ls => ∃ (r g : Addr) (gs : List Addr), SqT K H e [x, .ref r] ∧ SqT K H r [y, .ref g] ∧ SqT K H g (gs.map V.ref) ∧ gs.length = ls.length ∧ ∀ (i : Nat) (q : Addr) (l : V), gs[i]? = some q → ls[i]? = some l → ∃ z, SqT K H q [l, .ref z] ∧ SqT K H z []
def RefV (K : PySem.W.Frag) (H : Hp) (v : V) (rs : List Row) : Prop := ∃ (a : Addr) (es : List Addr), v = .ref a ∧ SqT K H a (es.map V.ref) ∧ es.length = rs.length ∧ ∀ (i : Nat) (e : Addr) (r : Row), es[i]? = some e → rs[i]? = some r → RowV K H e r
def spCR (K : PySem.W.Frag) (n : Nat) : Sp := fun vs H Q _ => ∃ v rs, vs = [v] ∧ RefV K H v rs ∧ (n = 0 → ∀ r ∈ rs, ∃ x, r = .bare x) ∧ rs.length ≤ 1000 ∧ (∀ x y ls, Row.ans x y ls ∈ rs → ls.length ≤ 1000) ∧ ∀ H' u, Same H H' → RowsAt H H' u (rs.flatMap Row.rows) → Q u H'
def spCRR (K : PySem.W.Frag) : Nat → Sp
  | 0 => fun _ _ _ _ => False
  | n + 1 => spCR K n
theorem cr_step (T : Tx K mg) (n : Nat) (IH : FnOk P w K mg base CX0 (n + 1) T.a_courses_of_refusal T.d_courses_of_refusal ["replies"] (spCRR K n)) : FnOk P w K mg base CX0 (n + 2) T.a_courses_of_refusal T.d_courses_of_refusal ["replies"] (spCR K n) := by
  refine T.F_courses_of_refusal.ok sc_courses_of_refusal (fun vs H Q E h => ?_) (fun cdv A outer s H vs Q E hr h => ?_)
  · obtain ⟨_, _, rfl, _⟩ := h; rfl
  obtain ⟨v, rs, rfl, ⟨a, es, rfl, ha, hl, hes⟩, hn, few, few2, k⟩ := h
  refine ⟨_, (pss_cons (ps_set (i := 1) sc_courses_of_refusal.nd rfl (Or.inl rfl) (pe_lst pa_nil))
      (pss_cons (ps_for PassesOwn.never rfl (pi_tup (pv 0)) (pg_tup rfl (pgs_cons (pg_name (i := 2) sc_courses_of_refusal.nd rfl (Or.inr rfl)) (pgs_cons (pg_name (i := 3) sc_courses_of_refusal.nd rfl (Or.inl rfl)) pgs_nil))) (pss_one (ps_if (pt_not (pt_truth (pv 3) (by intro _; rfl))) (pss_one (ps_expr (pe_bm PySem.F.plainAttrs_list PySem.F.slot_list_append PySem.F.type_list_append mt_append (pv 1) (pa_cons (pe_tup (pa_cons (pv 2) pa_nil)) pa_nil)))) (pss_cons (ps_asg (pv 3) (pg_tup rfl (pgs_cons (pg_name (i := 4) sc_courses_of_refusal.nd rfl (Or.inr rfl)) (pgs_cons (pg_name (i := 5) sc_courses_of_refusal.nd rfl (Or.inl rfl)) pgs_nil))))
      (pss_cons (ps_set (i := 6) sc_courses_of_refusal.nd rfl (Or.inl rfl) (pe_ifExp (pt_truth (pv 5) (by intro _; rfl)) (pe_call IH (hr.mono (by omega)) (by rfl) T.m_courses_of_refusal T.F_courses_of_refusal.kp T.b_courses_of_refusal .nil pass0 (pa_cons (pv 5) pa_nil)) (pe_tup (pa_cons (pe_tup pa_nil) pa_nil))))
      (pss_one (ps_expr (pe_bm PySem.F.plainAttrs_list PySem.F.slot_list_extend PySem.F.type_list_extend mt_extend (pv 1) (pa_cons (pe_lc (own := [("course", 7)]) (g := gName 7) rfl sc_courses_of_refusal.nd (pi_tup (pv 6)) (blkOk_by (N := n_courses_of_refusal) (sc := defScope s_courses_of_refusal) (by decide +kernel)) (fun _ _ _ _ _ => (pg_name (i := 7) sc_courses_of_refusal.nd rfl (Or.inl rfl))) (fun _ _ _ _ _ => pts_nil) (fun _ _ _ _ _ => (pe_tup (pa_cons (pv 2) (pa_cons (pv 4) (pa_starK (K := K) rfl (pv 7) pa_nil)))))) pa_nil)))))))))
      (pss_one (ps_ret (pe_callTy call_tuple_of (by rfl) T.z_tuple (by decide +kernel) (pa_cons (pv 1) pa_nil)))))), ?_⟩
  refine ⟨szl rfl, fun F hF => ?_⟩
  have s0 : Same H (upd H F (.lst [])) := same_new hF
  have hF1 : upd H F (.lst []) F = some (.lst []) := upd_same
  dsimp only [gName]
  generalize upd H F _ = H1 at s0 hF1 ⊢
  refine ⟨_, rfl, a, rfl, ⟨_, s0.seqT ha⟩, ?_⟩
  refine for_it (walk_tup (K := K) (a := a) (xs := es.map V.ref)) (fun i σ H' => (∃ t2 t3 t4 t5 t6 : Option V, σ = [some (.ref a), some (.ref F), t2, t3, t4, t5, t6, none]) ∧ Same H H' ∧ RowsL H H' F ((rs.take i).flatMap Row.rows)) ⟨⟨_, _, _, _, _, rfl⟩, s0, by rw [List.take_zero]; exact .nil hF1⟩ (fun i σ H' _ h => h.2.1.seqT ha) ?_ ?_
  · rintro i w' σ H2 H2' hi ⟨⟨t2, t3, t4, t5, t6, rfl⟩, s2, r2⟩ ⟨rfl, hw⟩
    rw [List.getElem?_map] at hw
    obtain ⟨e, he, rfl⟩ := Option.map_eq_some_iff.mp hw
    have hie : i < es.length := (List.getElem?_eq_some_iff.mp he).1
    have hri : rs[i]? = some rs[i] := List.getElem?_eq_getElem (by omega)
    have rv := hes i e _ he hri
    generalize rs[i] = r at hri rv
    have rm : r ∈ rs := List.mem_of_getElem? hri
    have nx : (rs.take (i + 1)).flatMap Row.rows = (rs.take i).flatMap Row.rows ++ r.rows := by
      rw [List.take_add_one, hri, List.flatMap_append]; simp
    have bound : ((rs.take i).flatMap Row.rows).length + r.rows.length ≤ 1000000 := by
      rw [← List.length_append, ← nx]
      refine Nat.le_trans (flat_rows fun q hq => rows_len fun x y ls z => few2 x y ls (z ▸ List.mem_of_mem_take hq)) ?_
      have := List.length_take_le (i + 1) rs
      have h3 : (rs.take (i + 1)).length ≤ rs.length := List.length_take_le' ..
      omega
    obtain ⟨acc, hacc, lacc⟩ := r2.acc
    cases r with
    | bare x =>
      obtain ⟨rp, h1, h2⟩ := rv
      refine ⟨e, _, rfl, s2.seqT h1, rfl, _, _, rfl, _, _, rfl, rfl, ?_⟩
      refine ⟨_, rfl, false, ?_, ?_⟩
      · rcases h2 with rfl | ⟨z, rfl, hz⟩
        · exact rfl
        · exact .inr (.inl ⟨_, s2.seqT hz, rfl⟩)
      refine iteT ?_
      refine ⟨_, rfl, .inl ⟨rfl, acc, .of hacc⟩, _, rfl, szl rfl, fun q hq => ?_⟩
      have s3 : Same H2' (upd H2' q (.tup [x])) := same_new hq
      refine ⟨F, acc, _, rfl, rfl, s3 _ _ hacc, szK (by have : (Row.bare x).rows.length = 1 := rfl; omega), ⟨_, _, _, _, _, rfl⟩, same_own (s2.trans s3) hF, ?_⟩
      rw [nx]
      exact (r2.same s3).push (s3 _ _ hacc) (s2.free hq) upd_same
    | ans x y ls =>
      obtain ⟨rr, g, gs, h1, h2, h3, h4, h5⟩ := rv
      refine ⟨e, _, rfl, s2.seqT h1, rfl, _, _, rfl, _, _, rfl, rfl, ?_⟩
      refine ⟨_, rfl, true, .inr (.inl ⟨_, s2.seqT h2, rfl⟩), ?_⟩
      refine iteF ?_
      refine ⟨_, rfl, rr, _, rfl, s2.seqT h2, rfl, _, _, rfl, _, _, rfl, rfl, ?_⟩
      dsimp only
      refine seq_cut (fun u H' => Same H2' H' ∧ RowsAt H H' u (onV ls)) (fun Q' kq => ?_) (fun u H3 hu => ?_)
      · by_cases el : ls = []
        · subst el
          rw [List.length_eq_zero_iff.mp h4] at h3
          refine ⟨_, rfl, false, .inr (.inl ⟨_, s2.seqT h3, rfl⟩), iteF ?_⟩
          refine ⟨szl rfl, fun p1 hp1 => ⟨szl rfl, fun p2 hp2 => ?_⟩⟩
          have s3 : Same H2' (upd H2' p1 (.tup [])) := same_new hp1
          refine kq _ _ ⟨s3.trans (same_new hp2), p2, [p1], rfl, s2.free (s3.free hp2), upd_same, rfl, fun i q vs hq hv => ?_⟩
          match i, hq, hv with
          | 0, hq, hv =>
            cases hq; cases hv
            exact ⟨s2.free hp1, by rw [upd_ne (ne_of_none (show upd H2' p1 (.tup []) p1 = some (.tup []) from upd_same) hp2)]; exact upd_same⟩
          | i + 1, hq, hv => simp at hq
        · have ng : gs ≠ [] := fun z => el (List.length_eq_zero_iff.mp (by rw [← h4, z]; rfl))
          refine ⟨_, rfl, true, .inr (.inl ⟨_, s2.seqT h3, by cases gs with | nil => exact absurd rfl ng | cons _ _ => rfl⟩), iteT ?_⟩
          obtain ⟨n, rfl⟩ : ∃ m, n = m + 1 := by
            cases n with
            | zero => obtain ⟨_, z⟩ := hn rfl _ rm; cases z
            | succ m => exact ⟨m, rfl⟩
          refine ⟨_, rfl, .ref g, ls.map Row.bare, rfl, ⟨g, gs, rfl, s2.seqT h3, by rw [List.length_map]; exact h4, fun i q r hq hr => ?_⟩, fun _ r hr => ?_, by rw [List.length_map]; exact few2 x y ls rm, fun x' y' ls' hm => ?_, fun H' u s ru => kq _ _ ⟨s, ?_⟩⟩
          · rw [List.getElem?_map] at hr
            obtain ⟨l, hl', rfl⟩ := Option.map_eq_some_iff.mp hr
            obtain ⟨z, g1, g2⟩ := h5 i q l hq hl'
            exact ⟨_, s2.seqT g1, .inr ⟨z, rfl, s2.seqT g2⟩⟩
          · obtain ⟨l, _, rfl⟩ := List.mem_map.mp hr
            exact ⟨l, rfl⟩
          · obtain ⟨l, _, z⟩ := List.mem_map.mp hm
            cases z
          · have e1 : (ls.map Row.bare).flatMap Row.rows = onV ls := by
              unfold onV
              rw [if_neg el, List.flatMap_map]
              exact flat_bare ls
            rw [e1] at ru
            obtain ⟨t, ts, e2, n0, ht, htl, hts⟩ := ru
            exact ⟨t, ts, e2, s2.free n0, ht, htl, fun i q vs hq hv => ⟨s2.free (hts i q vs hq hv).1, (hts i q vs hq hv).2⟩⟩
      obtain ⟨s3, t, ts, rfl, nt, ht, htl, hts⟩ := hu
      dsimp only [gName]
      have r3 := r2.same s3
      have hacc3 := s3 _ _ hacc
      have s23 := s2.trans s3
      refine ⟨_, rfl, .inl ⟨rfl, acc, .of hacc3⟩, ?_⟩
      refine ⟨_, rfl, t, rfl, ⟨_, .of ht⟩, fun D hD => ?_⟩
      have nFD : F ≠ D := ne_of_none hacc3 hD
      refine lc_it (walk_tup (K := K) (a := t) (xs := ts.map V.ref)) (fun j H' => Same H3 H' ∧ RowsL H H' D (((onV ls).take j).map fun c => x :: y :: c)) ⟨same_new hD, by rw [List.take_zero]; exact .nil upd_same⟩ (fun j H' _ h => .of (h.1 _ _ ht)) ?_ ?_
      · rintro j w3 H4 H4' hj ⟨s4, r4⟩ ⟨rfl, hw3⟩
        rw [List.getElem?_map] at hw3
        obtain ⟨q, hq, rfl⟩ := Option.map_eq_some_iff.mp hw3
        have hjt : j < ts.length := (List.getElem?_eq_some_iff.mp hq).1
        have hcj : (onV ls)[j]? = some (onV ls)[j] := List.getElem?_eq_getElem (by omega)
        obtain ⟨_, hq3⟩ := hts j q _ hq hcj
        have lc1 : ((onV ls)[j]).length ≤ 1 := onV_len (List.mem_of_getElem? hcj)
        generalize (onV ls)[j] = cj at hcj hq3 lc1
        refine ⟨rfl, ?_⟩
        refine ⟨_, rfl, _, rfl, _, rfl, q, cj, rfl, .inl (.of (s4 _ _ hq3)), szm (by rw [List.append_nil]; show cj.length + 2 ≤ 1000; omega), fun r hr => ?_⟩
        have s5 : Same H4' (upd H4' r (.tup (x :: y :: (cj ++ [])))) := same_new hr
        obtain ⟨acc4, hacc4, lacc4⟩ := (r4.same s5).acc
        have lt4 : acc4.length ≤ 1000 := by
          rw [lacc4, List.length_map, List.length_take]
          have := rows_len (r := .ans x y ls) (fun x' y' ls' z => few2 x' y' ls' (z ▸ rm))
          rw [show (Row.ans x y ls).rows = (onV ls).map fun c => x :: y :: c from rfl, List.length_map] at this
          omega
        refine ⟨acc4, hacc4, szK (by omega), same_own (s4.trans s5) hD, ?_⟩
        rw [List.take_add_one, hcj, List.map_append]
        refine (r4.same s5).push hacc4 (s23.free (s4.free hr)) ?_
        rw [upd_same, List.append_nil]
      · rintro H4 ⟨s4, r4⟩
        rw [List.length_map, htl, List.take_length] at r4
        obtain ⟨zs, hzs, lzs⟩ := r4.acc
        have bound2 : acc.length + zs.length ≤ sizeLine := szM (by
          rw [lacc, lzs]; exact bound)
        refine ⟨F, D, acc, zs, rfl, rfl, s4 _ _ hacc3, hzs, bound2, ⟨_, _, _, _, _, rfl⟩, same_own (s23.trans s4) hF, ?_⟩
        rw [nx]
        exact (r3.same s4).app r4 (s4 _ _ hacc3) hzs
  · rintro σ H2 ⟨⟨t2, t3, t4, t5, t6, rfl⟩, s2, r2⟩
    rw [List.length_map, hl, List.take_length] at r2
    obtain ⟨acc, hacc, _⟩ := r2.acc
    refine ⟨_, rfl, F, acc, rfl, .inl ⟨.of hacc, fun t ht => ?_⟩⟩
    exact k _ _ (s2.trans (same_new ht)) (r2.done hacc ht (s2.free ht))
theorem O_cr_at (T : Tx K mg) : ∀ n, FnOk P w K mg base CX0 (n + 2) T.a_courses_of_refusal T.d_courses_of_refusal ["replies"] (spCR K n)
  | 0 => cr_step T 0 ⟨fun _ _ _ _ h => h.elim, fun _ _ _ _ _ _ _ _ _ _ _ _ _ h => h.elim⟩
  | n + 1 => cr_step T (n + 1) (O_cr_at T n)
theorem O_courses_of_refusal (T : Tx K mg) : FnOk P w K mg base CX0 3 T.a_courses_of_refusal T.d_courses_of_refusal ["replies"] (spCR K 1) := O_cr_at T 1
end
end K39

set_option Elab.async false
set_option linter.all false
set_option maxRecDepth 100000
set_option maxHeartbeats 4000000
namespace K39
open PySem PySem.Spec PyProof.Rows L2 Gs
section
variable {P : Program} {w : World} {K : PySem.W.Frag} {mg : Str → Option Value} {base : Heap}
/-- an own error's __init__ with one field -/
def spErr (C : Addr) (f : Str) : Sp := fun vs H Q _ => ∃ (a : Addr) (v : V), vs = [.ref a, v] ∧ H a = some (exo a C none) ∧
  ∀ d, H d = none → d ≠ a → Q .non (upd (upd H d (exd d [(f, v)])) a (exo a C (some d)))
/-- .. with two fields -/
def spErr2 (C : Addr) (f g : Str) : Sp := fun vs H Q _ => ∃ (a : Addr) (v u : V), vs = [.ref a, v, u] ∧ H a = some (exo a C none) ∧
  ∀ d, H d = none → d ≠ a → Q .non (upd (upd (upd H d (exd d [(f, v)])) a (exo a C (some d))) d (exd d [(g, u), (f, v)]))
theorem same_err {H : Hp} {a d : Addr} {fs : List (Str × V)} {H2 : Hp} (ha : H a = none) (hd : H d = none) (h2 : ∀ b, b ≠ a → b ≠ d → H2 b = H b) : Same H (upd (del H2 a) d (.xd fs)) := fun b o e => by
  have na := ne_of_none e ha
  have nd := ne_of_none e hd
  rw [upd_ne nd, del_ne na, h2 b na nd]; exact e
/-- C(v) raised, its __init__ as above -/
theorem mk_err {C : Addr} {f : Str} {v : V} {H : Hp} {Q : XK} (h : ∀ d H', H d = none → Same H H' → H' d = some (.xd [(f, v)]) → Q (.ref C) (some d) H') : ∀ a, H a = none →
    spErr C f (.ref a :: ([v] ++ [])) (upd H a (exo a C none)) (fun x H2 => x = .non ∧ ∃ (d : Addr) (fs : List (Str × V)), H2 a = some (exo a C (some d)) ∧ H2 d = some (exd d fs) ∧ H d = none ∧ Q (.ref C) (some d) (upd (del H2 a) d (.xd fs))) (fun _ _ _ => False) := by
  intro a ha
  refine ⟨a, v, rfl, upd_same, fun d hd nda => ⟨rfl, d, _, upd_same, by rw [upd_ne nda, upd_same], ?_, ?_⟩⟩
  · rwa [upd_ne nda] at hd
  · rw [upd_ne nda] at hd
    refine h d _ hd (same_err ha hd fun b n1 n2 => by rw [upd_ne n1, upd_ne n2, upd_ne n1]) upd_same
theorem O_BadPaper___init__ (T : Tx K mg) : FnOk P w K mg base CX0 1 T.a_BadPaper___init__ T.d_BadPaper___init__ ["self", "part"] (spErr T.c_BadPaper "part") := by
  refine T.F_BadPaper___init__.ok sc_BadPaper___init__ (fun vs H Q E h => ?_) (fun cdv A outer s H vs Q E hr h => ?_)
  · obtain ⟨a, v, rfl, _⟩ := h; rfl
  obtain ⟨a, v, rfl, ha, k⟩ := h
  refine ⟨_, (pss_one (ps_ost (pv 0) (pv 1))), ?_⟩
  exact ⟨_, rfl, _, rfl, a, _, rfl, T.ox_BadPaper, T.no_BadPaper_part, .inl ⟨ha, fun d hd nd => k d hd nd⟩⟩
def XP (D : Addr) (p : Str) (H : Hp) (E : XK) : Prop := ∀ d H', H d = none → Same H H' → H' d = some (.xd [("part", .str p)]) → E (.ref D) (some d) H'
theorem XP.same {D : Addr} {p : Str} {H H' : Hp} {E : XK} (s : Same H H') (h : XP D p H E) : XP D p H' E := fun d H2 hd s2 e => h d H2 (s.free hd) (s.trans s2) e
/-- a paper: its one part, what courses answers, or that it raises -/
def spCo (T : Tx K mg) : Sp := fun vs H Q E => ∃ v, vs = [v] ∧
  ((∃ t, TyX K H v t ∧ PySem.W.kitOne K t (.ref T.c_Won) = some false ∧ PySem.W.kitOne K t (.ref T.c_Unwon) = some false ∧ XP T.c_BadPaper "paper" H E) ∨
   (∃ a dx p u c d, v = .ref a ∧ H a = some (.ins T.c_Won dx [("word", .str "won"), ("parts", .ref p), ("book", u)]) ∧ DV K c H u d ∧ slimD d = true ∧
     ((bookD d = false ∧ XP T.c_BadPaper "paper" H E) ∨ (bookD d = true ∧ ∃ x as, BkV K H u x as ∧ as.length ≤ 1000 ∧ ∀ H' r, Same H H' → (∃ H0, Same H H0 ∧ RowsAt H0 H' r (bkRows x as)) → Q r H'))) ∨
   (∃ a dx p u c d, v = .ref a ∧ H a = some (.ins T.c_Unwon dx [("word", .str "unwon"), ("parts", .ref p), ("replies", u)]) ∧ DV K c H u d ∧ slimD d = true ∧
     ((refD d = false ∧ XP T.c_BadPaper "paper" H E) ∨ (refD d = true ∧ ∃ rs, RefV K H u rs ∧ rs.length ≤ 1000 ∧ (∀ x y ls, Row.ans x y ls ∈ rs → ls.length ≤ 1000) ∧ ∀ H' r, Same H H' → (∃ H0, Same H H0 ∧ RowsAt H0 H' r (rs.flatMap Row.rows)) → Q r H'))))
theorem BkV.same {H H' : Hp} {v x : V} {as : List (V × V)} (s : Same H H') (h : BkV K H v x as) : BkV K H' v x as := by
  obtain ⟨a, b, bs, e, h1, h2, h3, h4⟩ := h
  exact ⟨a, b, bs, e, s.seqT h1, s.seqT h2, h3, fun i e p he hp => by obtain ⟨l, z, g1, g2, g3⟩ := h4 i e p he hp; exact ⟨l, z, s.seqT g1, s.seqT g2, s.seqT g3⟩⟩
theorem RowV.same {H H' : Hp} {e : Addr} (s : Same H H') : ∀ {r : Row}, RowV K H e r → RowV K H' e r
  | .bare x, h => by
    obtain ⟨r, h1, h2⟩ := h
    exact ⟨r, s.seqT h1, h2.imp id fun ⟨z, e, h⟩ => ⟨z, e, s.seqT h⟩⟩
  | .ans x y ls, h => by
    obtain ⟨r, g, gs, h1, h2, h3, h4, h5⟩ := h
    exact ⟨r, g, gs, s.seqT h1, s.seqT h2, s.seqT h3, h4, fun i q l hq hl => by obtain ⟨z, a, b⟩ := h5 i q l hq hl; exact ⟨z, s.seqT a, s.seqT b⟩⟩
theorem RefV.same {H H' : Hp} {v : V} {rs : List Row} (s : Same H H') (h : RefV K H v rs) : RefV K H' v rs := by
  obtain ⟨a, es, e, h1, h2, h3⟩ := h
  exact ⟨a, es, e, s.seqT h1, h2, fun i e r he hr => (h3 i e r he hr).same s⟩
theorem O_courses (T : Tx K mg) : FnOk P w K mg base (L2.CX P w) 14 T.a_courses T.d_courses ["paper"] (spCo T) := by
  refine T.F_courses.okX sc_courses (fun vs H Q E h => ?_) (fun cdv A outer s H vs Q E hr h => ?_)
  · obtain ⟨_, rfl, _⟩ := h; rfl
  obtain ⟨v, rfl, h⟩ := h
  refine ⟨_, (pss_cons (ps_if (pt_val (pe_call (O_has_book T) (hr.mono (by decide)) (by rfl) T.m_has_book T.F_has_book.kp T.b_has_book .nil pass0 (pa_cons (pv 0) pa_nil))) (pss_one (ps_ret (pe_call (O_courses_of_book T) (hr.mono (by decide)) (by rfl) T.m_courses_of_book T.F_courses_of_book.kp T.b_courses_of_book .nil pass0 (pa_cons (pe_fldK (K := K) rfl (pv 0)) pa_nil)))) pss_nil)
      (pss_cons (ps_if (pt_val (pe_call (O_has_refusal T) (hr.mono (by decide)) (by rfl) T.m_has_refusal T.F_has_refusal.kp T.b_has_refusal .nil pass0 (pa_cons (pv 0) pa_nil))) (pss_one (ps_ret (pe_call (O_courses_of_refusal T) (hr.mono (by decide)) (by rfl) T.m_courses_of_refusal T.F_courses_of_refusal.kp T.b_courses_of_refusal .nil pass0 (pa_cons (pe_fldK (K := K) rfl (pv 0)) pa_nil)))) pss_nil)
      (pss_one (ps_raise rfl (takes_of rfl rfl rfl rfl) (pmk_oex T.ox_BadPaper T.ic_BadPaper T.ti_BadPaper (O_BadPaper___init__ T) (hr.mono (by decide)) T.b_BadPaper___init__ .nil pass0 (by rfl) T.m_BadPaper (pa_cons pe_str pa_nil)))))), ?_⟩
  rcases h with ⟨t, ty, k1, k2, kx⟩ | ⟨a, dx, p, u, c, d, rfl, ha, hd, sl, h⟩ | ⟨a, dx, p, u, c, d, rfl, ha, hd, sl, h⟩
  · refine ⟨_, rfl, v, rfl, .inl ⟨t, ty, k1, _, rfl, iteF ?_⟩⟩
    refine ⟨_, rfl, v, rfl, .inl ⟨t, ty, k2, _, rfl, iteF ?_⟩⟩
    exact ⟨Nat.le_of_ble_eq_true rfl, mk_err fun d H' a b c => kx d H' a b c⟩
  · refine ⟨_, rfl, _, rfl, .inr ⟨a, dx, p, u, c, d, rfl, ha, hd, sl, fun H1 s1 => ⟨_, rfl, ?_⟩⟩⟩
    have ha1 := s1 _ _ ha
    rcases h with ⟨e, kx⟩ | ⟨e, x, as, hb, few, k⟩
    · rw [e]
      refine iteF ?_
      refine ⟨_, rfl, _, rfl, .inl ⟨.ref T.c_Won, T.ty_Won.ty ha1, T.ku_Won, _, rfl, iteF ?_⟩⟩
      exact ⟨Nat.le_of_ble_eq_true rfl, mk_err fun d H' a b c => kx.same s1 d H' a b c⟩
    · rw [e]
      refine iteT ?_
      exact ⟨_, rfl, a, _, dx, _, _, rfl, ha1, T.cl_Won, T.nF_Won_book, rfl, u, x, as, rfl, hb.same s1, (fun z => nomatch z), few, fun H2 r s2 rr => k H2 r (s1.trans s2) ⟨H1, s1, rr⟩⟩
  · refine ⟨_, rfl, _, rfl, .inl ⟨.ref T.c_Unwon, T.ty_Unwon.ty ha, T.kw_Unwon, _, rfl, iteF ?_⟩⟩
    refine ⟨_, rfl, _, rfl, .inr ⟨a, dx, p, u, c, d, rfl, ha, hd, sl, fun H1 s1 => ⟨_, rfl, ?_⟩⟩⟩
    have ha1 := s1 _ _ ha
    rcases h with ⟨e, kx⟩ | ⟨e, rs, hb, few, few2, k⟩
    · rw [e]
      refine iteF ?_
      exact ⟨Nat.le_of_ble_eq_true rfl, mk_err fun d H' a b c => kx.same s1 d H' a b c⟩
    · rw [e]
      refine iteT ?_
      exact ⟨_, rfl, a, _, dx, _, _, rfl, ha1, T.cl_Unwon, T.nF_Unwon_replies, rfl, u, rs, rfl, hb.same s1, (fun z => nomatch z), few, few2, fun H2 r s2 rr => k H2 r (s1.trans s2) ⟨H1, s1, rr⟩⟩
end
end K39

set_option Elab.async false
set_option linter.all false
set_option maxRecDepth 100000
set_option maxHeartbeats 4000000
/-! Layer G47: data whose nodes stand on the heap: tuples, empty dicts, lists outside N. -/
namespace Gs
open PySem PySem.Spec PyProof.Rows L2
mutual
inductive LV (N : Addr → Prop) (H : Hp) : V → PyData → Prop
  | non : LV N H .non .none
  | bl (b : Bool) : LV N H (.bl b) (.bool b)
  | int (i : Int) : LV N H (.int i) (.int i)
  | str (x : Str) : LV N H (.str x) (.str x)
  | lst {a : Addr} {xs : List V} {ds : List PyData} : ¬ N a → H a = some (.lst xs) → LVs N H xs ds → LV N H (.ref a) (.list ds)
  | tup {a : Addr} {xs : List V} {ds : List PyData} : H a = some (.tup xs) → LVs N H xs ds → LV N H (.ref a) (.tuple ds)
  | dk {a : Addr} : H a = some (.dK []) → LV N H (.ref a) (.dict [])
inductive LVs (N : Addr → Prop) (H : Hp) : List V → List PyData → Prop
  | nil : LVs N H [] []
  | cons {v : V} {vs : List V} {d : PyData} {ds : List PyData} : LV N H v d → LVs N H vs ds → LVs N H (v :: vs) (d :: ds)
end
/-- tuples, empty dicts and lists outside N stay -/
def KeepN (N : Addr → Prop) (H H' : Hp) : Prop := ∀ a o, H a = some o → ((∃ xs, o = .tup xs) ∨ o = .dK [] ∨ ((∃ xs, o = .lst xs) ∧ ¬ N a)) → H' a = some o
theorem KeepN.of {N : Addr → Prop} {H H' : Hp} (s : Same H H') : KeepN N H H' := fun a o h _ => s a o h
theorem KeepN.trans {N : Addr → Prop} {H H1 H2 : Hp} (a : KeepN N H H1) (b : KeepN N H1 H2) : KeepN N H H2 := fun x o h k => b x o (a x o h k) k
/-- a list within N may change -/
theorem KeepN.ext {N : Addr → Prop} {c : Addr} {H H' : Hp} {xs : List V} (e : Ext c H H') (hc : H c = some (.lst xs)) (n : N c) : KeepN N H H' := fun a o h k => by
  by_cases q : a = c
  · subst q
    rw [hc] at h; cases h
    rcases k with ⟨_, k⟩ | k | ⟨_, k⟩
    · cases k
    · cases k
    · exact absurd n k
  · exact e a o q h
theorem KeepN.put {N : Addr → Prop} {c : Addr} {H : Hp} {xs : List V} {o : HO} (hc : H c = some (.lst xs)) (n : N c) : KeepN N H (upd H c o) := .ext Ext.bag hc n
section
variable {N M : Addr → Prop} {H H' : Hp}
mutual
theorem LV.mono (k : KeepN N H H') : ∀ (d : PyData) (v : V), LV N H v d → LV N H' v d
  | .none, _, h => by cases h; exact .non
  | .bool _, _, h => by cases h; exact .bl _
  | .int _, _, h => by cases h; exact .int _
  | .str _, _, h => by cases h; exact .str _
  | .list ds, _, h => by
    cases h with
    | lst n s r => exact .lst n (k _ _ s (.inr (.inr ⟨⟨_, rfl⟩, n⟩))) (LVs.mono k ds _ r)
  | .tuple ds, _, h => by
    cases h with
    | tup s r => exact .tup (k _ _ s (.inl ⟨_, rfl⟩)) (LVs.mono k ds _ r)
  | .dict ps, _, h => by
    cases h with
    | dk s => exact .dk (k _ _ s (.inr (.inl rfl)))
theorem LVs.mono (k : KeepN N H H') : ∀ (ds : List PyData) (vs : List V), LVs N H vs ds → LVs N H' vs ds
  | [], _, h => by cases h; exact .nil
  | d :: ds, _, h => by
    cases h with
    | cons a b => exact .cons (LV.mono k d _ a) (LVs.mono k ds _ b)
end
mutual
theorem LV.sub (k : ∀ a, M a → N a) : ∀ (d : PyData) (v : V), LV N H v d → LV M H v d
  | .none, _, h => by cases h; exact .non
  | .bool _, _, h => by cases h; exact .bl _
  | .int _, _, h => by cases h; exact .int _
  | .str _, _, h => by cases h; exact .str _
  | .list ds, _, h => by
    cases h with
    | lst n s r => exact .lst (fun z => n (k _ z)) s (LVs.sub k ds _ r)
  | .tuple ds, _, h => by
    cases h with
    | tup s r => exact .tup s (LVs.sub k ds _ r)
  | .dict ps, _, h => by
    cases h with
    | dk s => exact .dk s
theorem LVs.sub (k : ∀ a, M a → N a) : ∀ (ds : List PyData) (vs : List V), LVs N H vs ds → LVs M H vs ds
  | [], _, h => by cases h; exact .nil
  | d :: ds, _, h => by
    cases h with
    | cons a b => exact .cons (LV.sub k d _ a) (LVs.sub k ds _ b)
end
mutual
theorem LV.dv {K : PySem.W.Frag} {c : Addr} {ys : List V} (n : N c) (hc : H c = some (.lst ys)) : ∀ (d : PyData) (v : V), LV N H v d → DV K c H v d
  | .none, _, h => by cases h; exact .non
  | .bool _, _, h => by cases h; exact .bl _
  | .int _, _, h => by cases h; exact .int _
  | .str _, _, h => by cases h; exact .str _
  | .list ds, _, h => by
    cases h with
    | lst m s r => exact .lst (fun z => m (z ▸ n)) (.of s) (LVs.dv n hc ds _ r)
  | .tuple ds, _, h => by
    cases h with
    | tup s r => exact .tup (fun z => by rw [z, hc] at s; cases s) (.of s) (LVs.dv n hc ds _ r)
  | .dict ps, _, h => by
    cases h with
    | dk s => exact .dic (fun z => by rw [z, hc] at s; cases s) s .nil
theorem LVs.dv {K : PySem.W.Frag} {c : Addr} {ys : List V} (n : N c) (hc : H c = some (.lst ys)) : ∀ (ds : List PyData) (vs : List V), LVs N H vs ds → DVs K c H vs ds
  | [], _, h => by cases h; exact .nil
  | d :: ds, _, h => by
    cases h with
    | cons a b => exact .cons (LV.dv n hc d _ a) (LVs.dv n hc ds _ b)
end
theorem LVs.len : ∀ {vs : List V} {ds : List PyData}, LVs N H vs ds → vs.length = ds.length
  | _, _, .nil => rfl
  | _, _, .cons _ b => congrArg Nat.succ (LVs.len b)
theorem LVs.snoc : ∀ {vs : List V} {ds : List PyData} {v : V} {d : PyData}, LVs N H vs ds → LV N H v d → LVs N H (vs ++ [v]) (ds ++ [d])
  | _, _, _, _, .nil, h => .cons h .nil
  | _, _, _, _, .cons a b, h => .cons a (LVs.snoc b h)
theorem LVs.app : ∀ {vs ws : List V} {ds es : List PyData}, LVs N H vs ds → LVs N H ws es → LVs N H (vs ++ ws) (ds ++ es)
  | _, _, _, _, .nil, h => h
  | _, _, _, _, .cons a b, h => .cons a (LVs.app b h)
theorem LVs.take : ∀ (k : Nat) {vs : List V} {ds : List PyData}, LVs N H vs ds → LVs N H (vs.take k) (ds.take k)
  | 0, _, _, _ => by rw [List.take_zero, List.take_zero]; exact .nil
  | k + 1, _, _, .nil => .nil
  | k + 1, _, _, .cons a b => .cons a (LVs.take k b)
theorem LVs.drop : ∀ (k : Nat) {vs : List V} {ds : List PyData}, LVs N H vs ds → LVs N H (vs.drop k) (ds.drop k)
  | 0, _, _, h => h
  | k + 1, _, _, .nil => .nil
  | k + 1, _, _, .cons a b => LVs.drop k b
theorem LVs.atI : ∀ (ds : List PyData) (vs : List V) (i : Nat) (v : V), LVs N H vs ds → vs[i]? = some v → ∃ d, ds[i]? = some d ∧ LV N H v d
  | [], _, i, v, h, e => by cases h; simp at e
  | d :: ds, _, i, v, h, e => by
    cases h with
    | cons a b =>
      cases i with
      | zero =>
        simp at e; subst e
        exact ⟨_, rfl, a⟩
      | succ i => exact LVs.atI ds _ i v b (by simpa using e)
theorem LVs.at {vs : List V} {ds : List PyData} {i : Nat} {v : V} (h : LVs N H vs ds) (e : vs[i]? = some v) : ∃ d, ds[i]? = some d ∧ LV N H v d := LVs.atI ds vs i v h e
end
end Gs

set_option Elab.async false
set_option linter.all false
set_option maxRecDepth 100000
set_option maxHeartbeats 4000000
namespace K39
open PySem PySem.Spec PyProof.Rows L2 Gs
/-! ### what is drawn -/
abbrev TV (H : Hp) (v : V) (d : PyData) : Prop := LV (fun _ => True) H v d
abbrev TVs (H : Hp) (vs : List V) (ds : List PyData) : Prop := LVs (fun _ => True) H vs ds
def SqOk (d : PyData) : Prop := ∃ i j : Int, d = .tuple [.int i, .int j] ∧ i.natAbs < 2 ^ 200 ∧ j.natAbs < 2 ^ 200
def MvOk (d : PyData) : Prop := ∃ a b, d = .tuple [a, b] ∧ SqOk a ∧ SqOk b
abbrev PP := List (PyData × PyData)
def bkD (p : PyData × PyData) : PyData := .tuple [p.1, .tuple [p.2, .tuple []]]
def bookE (m : PyData) (ps : PP) : PyData := .tuple [m, .tuple (ps.map bkD)]
def BkOk (d : PyData) : Prop := ∃ m ps, d = bookE m ps ∧ MvOk m ∧ ps.length ≤ 4 ∧ ∀ p ∈ ps, MvOk p.1 ∧ MvOk p.2
def bareD (l : PyData) : PyData := .tuple [l, .tuple []]
def AnOk (q : PyData) : Prop := q = .none ∨ q = .tuple [] ∨ ∃ (y : PyData) (ls : List PyData), q = .tuple [y, .tuple (ls.map bareD)] ∧ MvOk y ∧ ls.length ≤ 3 ∧ ∀ l ∈ ls, MvOk l
def RwOk (r : PyData) : Prop := ∃ m q, r = .tuple [m, q] ∧ MvOk m ∧ AnOk q
def RfOk (d : PyData) : Prop := ∃ rs, d = .tuple rs ∧ rs.length ≤ 3 ∧ ∀ r ∈ rs, RwOk r
theorem bag_lst {c l : Addr} {n : Nat} {H : Hp} (b : Bag c l n H) : ∃ xs, H c = some (.lst xs) := by
  obtain ⟨ns, pt, rest, h, _⟩ := b
  exact ⟨_, h⟩
theorem TV.bag {c l : Addr} {n : Nat} {H H' : Hp} {v : V} {d : PyData} (h : TV H v d) (b : Bag c l n H) (e : Ext c H H') : TV H' v d := by
  obtain ⟨xs, hc⟩ := bag_lst b
  exact h.mono (.ext e hc trivial) _ _
theorem TV.same {H H' : Hp} {v : V} {d : PyData} (h : TV H v d) (e : Same H H') : TV H' v d := LV.mono (.of e) _ _ h
/-- a list of such, under way -/
def GL (N : Addr → Prop) (H : Hp) (D : Addr) (ds : List PyData) : Prop := ∃ zs, H D = some (.lst zs) ∧ LVs N H zs ds
theorem GL.nil {N : Addr → Prop} {H : Hp} {D : Addr} (h : H D = some (.lst [])) : GL N H D [] := ⟨[], h, .nil⟩
theorem GL.keep {N : Addr → Prop} {H H' : Hp} {D : Addr} {ds : List PyData} (h : GL N H D ds) (e : KeepN N H H') (hD : ∀ xs, H D = some (.lst xs) → H' D = some (.lst xs)) : GL N H' D ds := by
  obtain ⟨zs, h1, h2⟩ := h
  exact ⟨zs, hD _ h1, h2.mono e _ _⟩
theorem GL.acc {N : Addr → Prop} {H : Hp} {D : Addr} {ds : List PyData} (h : GL N H D ds) : ∃ acc, H D = some (.lst acc) ∧ acc.length = ds.length := by
  obtain ⟨zs, h1, h2⟩ := h
  exact ⟨zs, h1, h2.len⟩
theorem GL.push {N : Addr → Prop} {H : Hp} {D : Addr} {ds : List PyData} {acc : List V} {v : V} {d : PyData} (h : GL N H D ds) (n : N D) (ha : H D = some (.lst acc)) (hv : LV N H v d) : GL N (upd H D (.lst (acc ++ [v]))) D (ds ++ [d]) := by
  obtain ⟨zs, h1, h2⟩ := h
  rw [ha] at h1; cases h1
  exact ⟨_, upd_same, LVs.mono (.put ha n) _ _ (h2.snoc hv)⟩
section
variable {P : Program} {w : World} {K : PySem.W.Frag} {mg : Str → Option Value} {base : Heap}
def spDraw (k : Nat) (Ok : PyData → Prop) : Sp := fun vs H Q _ => ∃ (c l : Addr) (n : Nat), vs = [.ref c] ∧ Bag c l n H ∧ n + k ≤ 999990 ∧ ∀ (v : V) (d : PyData) (H' : Hp), TV H' v d → Ok d → Bag c l (n + k) H' → Ext c H H' → Q v H'
theorem O__law_square (T : Tx K mg) : FnOk P w K mg base CX0 3 T.a__law_square T.d__law_square ["satchel"] (spDraw 3 SqOk) := by
  refine T.F__law_square.ok sc__law_square (fun vs H Q E h => ?_) (fun cdv A outer s H vs Q E hr h => ?_)
  · obtain ⟨c, l, n, rfl, _⟩ := h; rfl
  obtain ⟨c, l, n, rfl, hb, hN, k⟩ := h
  refine ⟨_, (pss_one (ps_ret (pe_tup (pa_cons (pe_call (O__law_one T) (hr.mono (by decide)) (by rfl) T.m__law_one T.F__law_one.kp T.b__law_one .nil pass0 (pa_cons (pv 0) (pa_cons (pe_lst (pa_cons pe_int (pa_cons pe_int (pa_cons (pe_un un_neg pe_int) (pa_cons (pe_op op_pow pe_int pe_int) (pa_cons (pe_call (O__law_fetch T) (hr.mono (by decide)) (by rfl) T.m__law_fetch T.F__law_fetch.kp T.b__law_fetch .nil pass0 (pa_cons (pv 0) (pa_cons pe_int pa_nil))) pa_nil)))))) pa_nil))) (pa_cons (pe_call (O__law_one T) (hr.mono (by decide)) (by rfl) T.m__law_one T.F__law_one.kp T.b__law_one .nil pass0 (pa_cons (pv 0) (pa_cons (pe_lst (pa_cons pe_int (pa_cons (pe_un un_neg pe_int) (pa_cons pe_int (pa_cons (pe_un un_neg (pe_op op_pow pe_int pe_int)) pa_nil))))) pa_nil))) pa_nil))))), ?_⟩
  refine ⟨_, rfl, _, rfl, _, _, rfl, rfl, ⟨by decide, by decide, by decide⟩, _, rfl, c, l, n, _, rfl, hb, by omega, by decide, by decide, fun v1 H1 a1 a2 b1 x1 => ?_⟩
  refine ⟨szl rfl, fun p hp => ?_⟩
  refine ⟨c, l, p, n + 1, _, rfl, b1.new hp, by omega, b1.ne hp, .of upd_same, by simp, szl2 rfl, fun i v H2 hi b2 x2 => ?_⟩
  obtain ⟨z1, rfl, hz1⟩ : ∃ z : Int, v = .int z ∧ z.natAbs < 2 ^ 200 := by
    have hm := one_of hi
    simp only [List.mem_cons, List.not_mem_nil, or_false] at hm
    rcases hm with rfl | rfl | rfl | rfl | rfl
    · exact ⟨_, rfl, by decide +kernel⟩
    · exact ⟨_, rfl, by decide +kernel⟩
    · exact ⟨_, rfl, by decide +kernel⟩
    · exact ⟨_, rfl, by decide +kernel⟩
    · exact ⟨_, rfl, Nat.lt_of_lt_of_le (show v1.natAbs < 99 by omega) (by decide +kernel)⟩
  have x3 := x1.trans ((Ext.new hp).trans x2)
  clear hi x2 hp b1 x1
  refine ⟨_, rfl, _, rfl, _, _, rfl, rfl, ⟨by decide, by decide, by decide⟩, _, rfl, szl rfl, fun p hp => ?_⟩
  refine ⟨c, l, p, n + 2, _, rfl, b2.new hp, by omega, b2.ne hp, .of upd_same, by simp, szl2 rfl, fun i v H3 hi b3 x4 => ?_⟩
  obtain ⟨z2, rfl, hz2⟩ : ∃ z : Int, v = .int z ∧ z.natAbs < 2 ^ 200 := by
    have hm := one_of hi
    simp only [List.mem_cons, List.not_mem_nil, or_false] at hm
    rcases hm with rfl | rfl | rfl | rfl
    · exact ⟨_, rfl, by decide +kernel⟩
    · exact ⟨_, rfl, by decide +kernel⟩
    · exact ⟨_, rfl, by decide +kernel⟩
    · exact ⟨_, rfl, by decide +kernel⟩
  have x5 := x3.trans ((Ext.new hp).trans x4)
  refine ⟨szl rfl, fun q hq => ?_⟩
  exact k _ _ _ (.tup upd_same (.cons (.int z1) (.cons (.int z2) .nil))) ⟨z1, z2, rfl, hz1, hz2⟩ (b3.new hq) (x5.trans (Ext.new hq))
theorem O__law_move (T : Tx K mg) : FnOk P w K mg base CX0 4 T.a__law_move T.d__law_move ["satchel"] (spDraw 6 MvOk) := by
  refine T.F__law_move.ok sc__law_move (fun vs H Q E h => ?_) (fun cdv A outer s H vs Q E hr h => ?_)
  · obtain ⟨c, l, n, rfl, _⟩ := h; rfl
  obtain ⟨c, l, n, rfl, hb, hN, k⟩ := h
  refine ⟨_, (pss_one (ps_ret (pe_tup (pa_cons (pe_call (O__law_square T) (hr.mono (by decide)) (by rfl) T.m__law_square T.F__law_square.kp T.b__law_square .nil pass0 (pa_cons (pv 0) pa_nil)) (pa_cons (pe_call (O__law_square T) (hr.mono (by decide)) (by rfl) T.m__law_square T.F__law_square.kp T.b__law_square .nil pass0 (pa_cons (pv 0) pa_nil)) pa_nil))))), ?_⟩
  refine ⟨_, rfl, c, l, n, rfl, hb, by omega, fun v1 d1 H1 t1 o1 b1 x1 => ?_⟩
  refine ⟨_, rfl, c, l, n + 3, rfl, b1, by omega, fun v2 d2 H2 t2 o2 b2 x2 => ?_⟩
  refine ⟨szl rfl, fun q hq => ?_⟩
  have sq : Same H2 (upd H2 q (.tup [v1, v2])) := same_new hq
  exact k _ _ _ (.tup upd_same (.cons ((t1.bag b1 x2).same sq) (.cons (t2.same sq) .nil))) ⟨d1, d2, rfl, o1, o2⟩ (b2.new hq) ((x1.trans x2).trans (Ext.new hq))
theorem O__law_book (T : Tx K mg) : FnOk P w K mg base CX0 5 T.a__law_book T.d__law_book ["satchel"] (spDraw 60 BkOk) := by
  refine T.F__law_book.ok sc__law_book (fun vs H Q E h => ?_) (fun cdv A outer s H vs Q E hr h => ?_)
  · obtain ⟨c, l, n, rfl, _⟩ := h; rfl
  obtain ⟨c, l, n, rfl, hb, hN, k⟩ := h
  refine ⟨_, (pss_cons (ps_setLc (i := 1) (own := [("turn", 2)]) (g := (gName 2)) rfl sc__law_book.nd rfl rfl (sw_true rfl rfl rfl (by decide +kernel)) (pi_range1 (by rfl) T.z_range (pa_cons (pe_call (O__law_one T) (hr.mono (by decide)) (by rfl) T.m__law_one T.F__law_one.kp T.b__law_one .nil pass0 (pa_cons (pv 0) (pa_cons (pe_lst (pa_cons pe_int (pa_cons pe_int (pa_cons pe_int (pa_cons pe_int pa_nil))))) pa_nil))) pa_nil)) (blkOk_by (N := n__law_book) (sc := defScope s__law_book) (by decide +kernel)) (fun _ _ _ _ _ => (pg_name (i := 2) sc__law_book.nd rfl (Or.inl rfl))) (fun _ _ _ _ _ => pts_nil) (fun _ _ _ _ _ => (pe_tup (pa_cons (pe_call (O__law_move T) (hr.mono (by decide)) (by rfl) T.m__law_move T.F__law_move.kp T.b__law_move .nil pass0 (pa_cons (pv 0) pa_nil)) (pa_cons (pe_tup (pa_cons (pe_call (O__law_move T) (hr.mono (by decide)) (by rfl) T.m__law_move T.F__law_move.kp T.b__law_move .nil pass0 (pa_cons (pv 0) pa_nil)) (pa_cons (pe_tup pa_nil) pa_nil))) pa_nil)))))
      (pss_one (ps_ret (pe_tup (pa_cons (pe_call (O__law_move T) (hr.mono (by decide)) (by rfl) T.m__law_move T.F__law_move.kp T.b__law_move .nil pass0 (pa_cons (pv 0) pa_nil)) (pa_cons (pe_callTy call_tuple_of (by rfl) T.z_tuple (by decide +kernel) (pa_cons (pv 1) pa_nil)) pa_nil)))))), ?_⟩
  refine ⟨_, rfl, szl rfl, fun p hp => ?_⟩
  refine ⟨c, l, p, n, _, rfl, hb.new hp, by omega, hb.ne hp, .of upd_same, by simp, szl2 rfl, fun i v H1 hi b1 x1 => ?_⟩
  obtain ⟨m, rfl, hm⟩ : ∃ m : Nat, v = .int m ∧ m ≤ 4 := by
    have hm := one_of hi
    simp only [List.mem_cons, List.not_mem_nil, or_false] at hm
    rcases hm with rfl | rfl | rfl | rfl
    · exact ⟨0, rfl, by omega⟩
    · exact ⟨1, rfl, by omega⟩
    · exact ⟨2, rfl, by omega⟩
    · exact ⟨4, rfl, by omega⟩
  have x2 : Ext c H H1 := (Ext.new hp).trans x1
  clear hi x1 hp
  refine ⟨_, rfl, by omega, by omega, fun D hD => ?_⟩
  rw [Int.toNat_natCast]
  have nDc := b1.ne hD
  have nDl := b1.ne2 hD
  refine lc_it (walk_range (lo := 0) (n := m)) (fun j H' => ∃ ps : PP, ps.length = j ∧ (∀ p ∈ ps, MvOk p.1 ∧ MvOk p.2) ∧ GL (fun _ => True) H' D (ps.map bkD) ∧ Bag c l (n + 1 + 12 * j) H' ∧ Ext c H H') ⟨[], rfl, fun p hp => (nomatch hp), .nil upd_same, b1.new hD, x2.trans (Ext.new hD)⟩ (fun _ _ _ _ => trivial) ?_ ?_
  · rintro j y H2 H2' hj ⟨ps, hl, ok, g, b2, x3⟩ ⟨rfl, rfl⟩
    obtain ⟨cs, hcs⟩ := bag_lst b2
    refine ⟨rfl, ?_⟩
    refine ⟨_, rfl, c, l, _, rfl, b2, by omega, fun v1 d1 H3 t1 o1 b3 x4 => ?_⟩
    refine ⟨_, rfl, c, l, _, rfl, b3, by omega, fun v2 d2 H4 t2 o2 b4 x5 => ?_⟩
    have t1 := t1.bag b3 x5
    refine ⟨szl rfl, fun e1 h1 => ⟨szl rfl, fun e2 h2 => ⟨szl rfl, fun e3 h3 => ?_⟩⟩⟩
    have s1 : Same H4 (upd H4 e1 (.tup [])) := same_new h1
    have g1 : upd H4 e1 (.tup []) e1 = some (.tup []) := upd_same
    generalize upd H4 e1 _ = G1 at s1 g1 h2 h3 ⊢
    have s2 : Same G1 (upd G1 e2 (.tup [v2, .ref e1])) := same_new h2
    have g2 : upd G1 e2 (.tup [v2, .ref e1]) e2 = some (.tup [v2, .ref e1]) := upd_same
    generalize upd G1 e2 _ = G2 at s2 g2 h3 ⊢
    have s3 : Same G2 (upd G2 e3 (.tup [v1, .ref e2])) := same_new h3
    have g3 : upd G2 e3 (.tup [v1, .ref e2]) e3 = some (.tup [v1, .ref e2]) := upd_same
    generalize upd G2 e3 _ = G3 at s3 g3 ⊢
    have s := (s1.trans s2).trans s3
    have te : TV G3 (.ref e3) (bkD (d1, d2)) := .tup g3 (.cons (t1.same s) (.cons (.tup (s3 _ _ g2) (.cons (t2.same s) (.cons (.tup (s3 _ _ (s2 _ _ g1)) .nil) .nil))) .nil))
    have xg : Ext c H2' G3 := (x4.trans x5).trans (.of s)
    have gg := g.keep (.ext xg hcs trivial) (fun xs h => xg _ _ nDc h)
    obtain ⟨acc, hacc, lacc⟩ := gg.acc
    refine ⟨acc, hacc, szK (by rw [lacc, List.length_map]; omega), ps ++ [(d1, d2)], by rw [List.length_append, hl]; rfl, fun p hp => ?_, ?_, ?_, ?_⟩
    · rcases List.mem_append.mp hp with hp | hp
      · exact ok p hp
      · rw [List.mem_singleton.mp hp]; exact ⟨o1, o2⟩
    · rw [List.map_append]
      exact gg.push trivial hacc te
    · exact ((b4.same s).put nDc nDl).mono (by omega)
    · exact fun b o nb h => by
        have := (x3.trans xg) b o nb h
        by_cases q : b = D
        · subst q
          have := x2 _ _ nb h
          rw [hD] at this; cases this
        · rw [upd_ne q]; exact this
  · rintro H2 ⟨ps, hl, ok, g, b2, x3⟩
    dsimp only [gName]
    obtain ⟨cs, hcs⟩ := bag_lst b2
    refine ⟨_, rfl, c, l, _, rfl, b2, by omega, fun v1 d1 H3 t1 o1 b3 x4 => ?_⟩
    have g3 := g.keep (.ext x4 hcs trivial) (fun xs h => x4 _ _ nDc h)
    obtain ⟨acc, hacc, hts⟩ := g3
    refine ⟨_, rfl, D, acc, rfl, .inl ⟨.of hacc, fun e1 h1 => ⟨szl rfl, fun e2 h2 => ?_⟩⟩⟩
    have s1 : Same H3 (upd H3 e1 (.tup acc)) := same_new h1
    have g1 : upd H3 e1 (.tup acc) e1 = some (.tup acc) := upd_same
    generalize upd H3 e1 _ = G1 at s1 g1 h2 ⊢
    have s2 : Same G1 (upd G1 e2 (.tup [v1, .ref e1])) := same_new h2
    have g2 : upd G1 e2 (.tup [v1, .ref e1]) e2 = some (.tup [v1, .ref e1]) := upd_same
    generalize upd G1 e2 _ = G2 at s2 g2 ⊢
    have s := s1.trans s2
    exact k _ _ _ (.tup g2 (.cons (t1.same s) (.cons (.tup (s2 _ _ g1) (hts.mono (.of s) _ _)) .nil))) ⟨d1, ps, rfl, o1, by omega, ok⟩ ((b3.same s).mono (by omega)) ((x3.trans x4).trans (.of s))
end
end K39

set_option Elab.async false
set_option linter.all false
set_option maxRecDepth 100000
set_option maxHeartbeats 4000000
namespace K39
open PySem PySem.Spec PyProof.Rows L2 Gs
theorem ext_new {c D : Addr} {H H1 : Hp} {o : HO} (x : Ext c H H1) (h : ∀ u, H D = some u → False) : Ext c H (upd H1 D o) := fun b u nb e => by
  by_cases q : b = D
  · subst q; exact (h u e).elim
  · rw [upd_ne q]; exact x b u nb e
section
variable {P : Program} {w : World} {K : PySem.W.Frag} {mg : Str → Option Value} {base : Heap}
/-- one (move, ()) more -/
theorem bare_step {c l D : Addr} {n : Nat} {H0 H2 : Hp} {ls : List PyData} {Kc : V → Hp → Prop} (b2 : Bag c l n H2) (hN : n + 6 ≤ 999990) (nDc : D ≠ c) (g : GL (fun _ => True) H2 D (ls.map bareD)) (x : Ext c H0 H2)
    (k : ∀ (v : V) (d : PyData) (e2 : Addr) (H3 : Hp), MvOk d → TV H3 (.ref e2) (bareD d) → Bag c l (n + 6) H3 → Ext c H2 H3 → GL (fun _ => True) H3 D (ls.map bareD) → Kc (.ref e2) H3) {σ : L2.St} (hσ : σ[0]? = some (some (.ref c))) :
    tTup (tCons (tCall (spDraw 6 MvOk) [] E0 (tCons (tVar 0) tNil)) (tCons (tTup tNil) tNil)) σ H2 Kc := by
  obtain ⟨cs, hcs⟩ := bag_lst b2
  refine ⟨_, hσ, c, l, _, rfl, b2, by omega, fun v1 d1 H3 t1 o1 b3 x4 => ?_⟩
  refine ⟨szl rfl, fun e1 h1 => ⟨szl rfl, fun e2 h2 => ?_⟩⟩
  have s1 : Same H3 (upd H3 e1 (.tup [])) := same_new h1
  have g1 : upd H3 e1 (.tup []) e1 = some (.tup []) := upd_same
  generalize upd H3 e1 _ = G1 at s1 g1 h2 ⊢
  have s2 : Same G1 (upd G1 e2 (.tup [v1, .ref e1])) := same_new h2
  have g2 : upd G1 e2 (.tup [v1, .ref e1]) e2 = some (.tup [v1, .ref e1]) := upd_same
  generalize upd G1 e2 _ = G2 at s2 g2 ⊢
  have s := s1.trans s2
  have xg : Ext c H2 G2 := x4.trans (.of s)
  exact k v1 d1 e2 G2 o1 (.tup g2 (.cons (t1.same s) (.cons (.tup (s2 _ _ g1) .nil) .nil))) (b3.same s) xg (g.keep (.ext xg hcs trivial) (fun xs h => xg _ _ nDc h))
theorem O__law_refusal (T : Tx K mg) : FnOk P w K mg base CX0 6 T.a__law_refusal T.d__law_refusal ["satchel"] (spDraw 100 RfOk) := by
  refine T.F__law_refusal.ok sc__law_refusal (fun vs H Q E h => ?_) (fun cdv A outer s H vs Q E hr h => ?_)
  · obtain ⟨c, l, n, rfl, _⟩ := h; rfl
  obtain ⟨c, l, n, rfl, hb, hN, k⟩ := h
  refine ⟨_, (pss_cons (ps_par (i := 1) (j := 2) rfl sc__law_refusal.nd rfl rfl (by decide) rfl rfl (pa_cons (pe_call (O__law_one T) (hr.mono (by decide)) (by rfl) T.m__law_one T.F__law_one.kp T.b__law_one .nil pass0 (pa_cons (pv 0) (pa_cons (pe_lst (pa_cons pe_int (pa_cons pe_int (pa_cons pe_int (pa_cons pe_int pa_nil))))) pa_nil))) (pa_cons (pe_call (O__law_fetch T) (hr.mono (by decide)) (by rfl) T.m__law_fetch T.F__law_fetch.kp T.b__law_fetch .nil pass0 (pa_cons (pv 0) (pa_cons pe_int pa_nil))) pa_nil)) (by rfl))
      (pss_cons (ps_if (pt_cmpR op_eq (pv 2) pe_int (nomark _)) (pss_one (ps_ret (pe_callTy call_tuple_of (by rfl) T.z_tuple (by decide +kernel) (pa_cons (pe_lc (own := [("turn", 3)]) (g := (gName 3)) rfl sc__law_refusal.nd (pi_range1 (by rfl) T.z_range (pa_cons (pv 1) pa_nil)) (blkOk_by (N := n__law_refusal) (sc := defScope s__law_refusal) (by decide +kernel)) (fun _ _ _ _ _ => (pg_name (i := 3) sc__law_refusal.nd rfl (Or.inl rfl))) (fun _ _ _ _ _ => pts_nil) (fun _ _ _ _ _ => (pe_tup (pa_cons (pe_call (O__law_move T) (hr.mono (by decide)) (by rfl) T.m__law_move T.F__law_move.kp T.b__law_move .nil pass0 (pa_cons (pv 0) pa_nil)) (pa_cons (pe_tup pa_nil) pa_nil))))) pa_nil)))) pss_nil)
      (pss_cons (ps_set (i := 4) sc__law_refusal.nd rfl (Or.inl rfl) (pe_lst pa_nil))
      (pss_cons (ps_for PassesOwn.never rfl (pi_range1 (by rfl) T.z_range (pa_cons (pv 1) pa_nil)) (pg_name (i := 3) sc__law_refusal.nd rfl (Or.inl rfl)) (pss_cons (ps_set (i := 5) sc__law_refusal.nd rfl (Or.inl rfl) (pe_callTy call_tuple_of (by rfl) T.z_tuple (by decide +kernel) (pa_cons (pe_lc (own := [("each", 6)]) (g := (gName 6)) rfl sc__law_refusal.nd (pi_range1 (by rfl) T.z_range (pa_cons (pe_call (O__law_one T) (hr.mono (by decide)) (by rfl) T.m__law_one T.F__law_one.kp T.b__law_one .nil pass0 (pa_cons (pv 0) (pa_cons (pe_lst (pa_cons pe_int (pa_cons pe_int (pa_cons pe_int pa_nil)))) pa_nil))) pa_nil)) (blkOk_by (N := n__law_refusal) (sc := defScope s__law_refusal) (by decide +kernel)) (fun _ _ _ _ _ => (pg_name (i := 6) sc__law_refusal.nd rfl (Or.inl rfl))) (fun _ _ _ _ _ => pts_nil) (fun _ _ _ _ _ => (pe_tup (pa_cons (pe_call (O__law_move T) (hr.mono (by decide)) (by rfl) T.m__law_move T.F__law_move.kp T.b__law_move .nil pass0 (pa_cons (pv 0) pa_nil)) (pa_cons (pe_tup pa_nil) pa_nil))))) pa_nil)))
      (pss_one (ps_expr (pe_bm PySem.F.plainAttrs_list PySem.F.slot_list_append PySem.F.type_list_append mt_append (pv 4) (pa_cons (pe_tup (pa_cons (pe_call (O__law_move T) (hr.mono (by decide)) (by rfl) T.m__law_move T.F__law_move.kp T.b__law_move .nil pass0 (pa_cons (pv 0) pa_nil)) (pa_cons (pe_call (O__law_one T) (hr.mono (by decide)) (by rfl) T.m__law_one T.F__law_one.kp T.b__law_one .nil pass0 (pa_cons (pv 0) (pa_cons (pe_lst (pa_cons pe_non (pa_cons (pe_tup (pa_cons (pe_call (O__law_move T) (hr.mono (by decide)) (by rfl) T.m__law_move T.F__law_move.kp T.b__law_move .nil pass0 (pa_cons (pv 0) pa_nil)) (pa_cons (pv 5) pa_nil))) (pa_cons (pe_tup (pa_cons (pe_call (O__law_move T) (hr.mono (by decide)) (by rfl) T.m__law_move T.F__law_move.kp T.b__law_move .nil pass0 (pa_cons (pv 0) pa_nil)) (pa_cons (pv 5) pa_nil))) pa_nil)))) pa_nil))) pa_nil))) pa_nil))))))
      (pss_one (ps_ret (pe_callTy call_tuple_of (by rfl) T.z_tuple (by decide +kernel) (pa_cons (pv 4) pa_nil)))))))), ?_⟩
  refine ⟨_, rfl, szl rfl, fun p hp => ?_⟩
  refine ⟨c, l, p, n, _, rfl, hb.new hp, by omega, hb.ne hp, .of upd_same, by simp, szl2 rfl, fun i v H1 hi b1 x1 => ?_⟩
  obtain ⟨m, rfl, hm⟩ : ∃ m : Nat, v = .int m ∧ m ≤ 3 := by
    have hm := one_of hi
    simp only [List.mem_cons, List.not_mem_nil, or_false] at hm
    rcases hm with rfl | rfl | rfl | rfl
    · exact ⟨2, rfl, by omega⟩
    · exact ⟨0, rfl, by omega⟩
    · exact ⟨1, rfl, by omega⟩
    · exact ⟨3, rfl, by omega⟩
  have x2 : Ext c H H1 := (Ext.new hp).trans x1
  clear hi x1 hp
  refine ⟨_, rfl, c, l, n + 1, _, rfl, b1, by omega, by decide, by decide, fun wy H2 a1 a2 b2 x3 => ?_⟩
  refine ⟨_, _, rfl, ?_⟩
  dsimp only
  have x4 := x2.trans x3
  clear x2 x3 b1
  refine ⟨_, rfl, rfl, _, rfl, ?_⟩
  refine iteB (fun ew => ?_) (fun ew => ?_)
  · -- all bare
    refine ⟨_, rfl, _, rfl, by omega, by omega, fun D hD => ?_⟩
    rw [Int.toNat_natCast]
    have nDc := b2.ne hD
    have nDl := b2.ne2 hD
    have hD0 : ∀ u, H D = some u → False := fun u e => by rw [x4 _ _ nDc e] at hD; cases hD
    refine lc_it (walk_range (lo := 0) (n := m)) (fun j H' => ∃ ls : List PyData, ls.length = j ∧ (∀ l ∈ ls, MvOk l) ∧ GL (fun _ => True) H' D (ls.map bareD) ∧ Bag c l (n + 2 + 6 * j) H' ∧ Ext c H H') ⟨[], rfl, fun p hp => (nomatch hp), .nil upd_same, b2.new hD, x4.trans (Ext.new hD)⟩ (fun _ _ _ _ => trivial) ?_ ?_
    · rintro j y H3 H3' hj ⟨ls, hl, ok, g, b3, x5⟩ ⟨rfl, rfl⟩
      refine ⟨rfl, ?_⟩
      dsimp only [tYes]
      rw [if_pos rfl]
      refine bare_step b3 (by omega) nDc g x5 (fun v d e2 H4 o t b4 x6 g4 => ?_) rfl
      obtain ⟨acc, hacc, lacc⟩ := g4.acc
      refine ⟨acc, hacc, szK (by rw [lacc, List.length_map]; omega), ls ++ [d], by rw [List.length_append, hl]; rfl, fun q hq => ?_, ?_, (b4.put nDc nDl).mono (by omega), ext_new (x5.trans x6) hD0⟩
      · rcases List.mem_append.mp hq with hq | hq
        · exact ok q hq
        · rw [List.mem_singleton.mp hq]; exact o
      · rw [List.map_append]
        exact g4.push trivial hacc t
    · rintro H3 ⟨ls, hl, ok, ⟨acc, hacc, hts⟩, b3, x5⟩
      refine ⟨D, acc, rfl, .inl ⟨.of hacc, fun e1 h1 => ?_⟩⟩
      have s1 : Same H3 (upd H3 e1 (.tup acc)) := same_new h1
      refine k _ _ _ (.tup upd_same (hts.mono (.of s1) _ _)) ⟨_, rfl, by rw [List.length_map]; omega, fun r hr => ?_⟩ ((b3.same s1).mono (by omega)) (x5.trans (.of s1))
      obtain ⟨q, hq, rfl⟩ := List.mem_map.mp hr
      exact ⟨q, _, rfl, ok q hq, .inr (.inl rfl)⟩
  -- rows
  refine ⟨szl rfl, fun F hF => ?_⟩
  have nFc := b2.ne hF
  have nFl := b2.ne2 hF
  have hF0 : ∀ u, H F = some u → False := fun u e => by rw [x4 _ _ nFc e] at hF; cases hF
  have b3 := b2.new hF (o := .lst [])
  have x5 := x4.trans (Ext.new hF (o := .lst []))
  have hF1 : upd H2 F (.lst []) F = some (.lst []) := upd_same
  dsimp only [gName]
  generalize upd H2 F _ = H3 at b3 x5 hF1 ⊢
  clear b2 x4 hF
  refine ⟨_, rfl, _, rfl, by omega, by omega, ?_⟩
  rw [Int.toNat_natCast]
  refine for_it (walk_range (lo := 0) (n := m)) (fun j σ H' => (∃ t3 t5 : Option V, σ = [some (.ref c), some (.int m), some (.int wy), t3, some (.ref F), t5, none]) ∧ ∃ rs : List PyData, rs.length = j ∧ (∀ r ∈ rs, RwOk r) ∧ GL (fun _ => True) H' F rs ∧ Bag c l (n + 2 + 32 * j) H' ∧ Ext c H H') ⟨⟨_, _, rfl⟩, [], rfl, fun p hp => (nomatch hp), .nil hF1, b3, x5⟩ (fun _ _ _ _ _ => trivial) ?_ ?_
  · rintro j y σ H4 H4' hj ⟨⟨t3, t5, rfl⟩, rs, hl, ok, g, b4, x6⟩ ⟨rfl, rfl⟩
    have hj : j < m := hj
    dsimp only [gName]
    obtain ⟨cs, hcs⟩ := bag_lst b4
    refine ⟨_, rfl, szl rfl, fun p hp => ?_⟩
    refine ⟨c, l, p, _, _, rfl, b4.new hp, by omega, b4.ne hp, .of upd_same, by simp, szl2 rfl, fun i v H5 hi b5 x7 => ?_⟩
    obtain ⟨m2, rfl, hm2⟩ : ∃ m : Nat, v = .int m ∧ m ≤ 2 := by
      have hm := one_of hi
      simp only [List.mem_cons, List.not_mem_nil, or_false] at hm
      rcases hm with rfl | rfl | rfl
      · exact ⟨1, rfl, by omega⟩
      · exact ⟨0, rfl, by omega⟩
      · exact ⟨2, rfl, by omega⟩
    have x8 : Ext c H4' H5 := (Ext.new hp).trans x7
    clear hi x7 hp
    refine ⟨_, rfl, by omega, by omega, fun D hD => ?_⟩
    rw [Int.toNat_natCast]
    have nDc := b5.ne hD
    have nDl := b5.ne2 hD
    have hD0 : ∀ u, H4' D = some u → False := fun u e => by rw [x8 _ _ nDc e] at hD; cases hD
    refine lc_it (walk_range (lo := 0) (n := m2)) (fun j2 H' => ∃ ls : List PyData, ls.length = j2 ∧ (∀ l ∈ ls, MvOk l) ∧ GL (fun _ => True) H' D (ls.map bareD) ∧ Bag c l (n + 2 + 32 * j + 1 + 6 * j2) H' ∧ Ext c H4' H') ⟨[], rfl, fun p hp => (nomatch hp), .nil upd_same, b5.new hD, x8.trans (Ext.new hD)⟩ (fun _ _ _ _ => trivial) ?_ ?_
    · rintro j2 y H6 H6' hj2 ⟨ls, hl2, ok2, g2, b6, x9⟩ ⟨rfl, rfl⟩
      have hj2 : j2 < m2 := hj2
      refine ⟨rfl, ?_⟩
      dsimp only [tYes]
      rw [if_pos rfl]
      refine bare_step b6 (by omega) nDc g2 x9 (fun v d e2 H7 o t b7 x10 g7 => ?_) rfl
      obtain ⟨acc, hacc, lacc⟩ := g7.acc
      refine ⟨acc, hacc, szK (by rw [lacc, List.length_map]; omega), ls ++ [d], by rw [List.length_append, hl2]; rfl, fun q hq => ?_, ?_, (b7.put nDc nDl).mono (by omega), ext_new (x9.trans x10) hD0⟩
      · rcases List.mem_append.mp hq with hq | hq
        · exact ok2 q hq
        · rw [List.mem_singleton.mp hq]; exact o
      · rw [List.map_append]
        exact g7.push trivial hacc t
    · rintro H6 ⟨ls, hl2, ok2, ⟨acc, hacc, hts⟩, b6, x9⟩
      refine ⟨D, acc, rfl, .inl ⟨.of hacc, fun e1 h1 => ?_⟩⟩
      have s1 : Same H6 (upd H6 e1 (.tup acc)) := same_new h1
      have te : TV (upd H6 e1 (.tup acc)) (.ref e1) (.tuple (ls.map bareD)) := .tup upd_same (hts.mono (.of s1) _ _)
      have b7 := b6.same s1
      have x10 := x9.trans (.of s1)
      dsimp only [gName]
      generalize upd H6 e1 _ = H7 at te b7 x10 ⊢
      have xF := x6.trans x10
      have gF := g.keep (.ext x10 hcs trivial) (fun xs h => x10 _ _ nFc h)
      clear hacc hts h1 s1 b6 x9 b5 x8 g
      refine ⟨_, rfl, .inl ⟨rfl, gF.acc.choose, .of gF.acc.choose_spec.1⟩, ?_⟩
      refine ⟨_, rfl, c, l, _, rfl, b7, by omega, fun v1 d1 H8 t1 o1 b8 x11 => ?_⟩
      refine ⟨_, rfl, _, rfl, c, l, _, rfl, b8, by omega, fun v2 d2 H9 t2 o2 b9 x12 => ?_⟩
      refine ⟨_, rfl, szl rfl, fun p2 hp2 => ?_⟩
      have te9 := (te.bag b7 x11).bag b8 x12
      have t1 := t1.bag b8 x12
      have s2 : Same H9 (upd H9 p2 (.tup [v2, .ref e1])) := same_new hp2
      have g2 : upd H9 p2 (.tup [v2, .ref e1]) p2 = some (.tup [v2, .ref e1]) := upd_same
      have b10 := b9.same s2
      have y2 : TV (upd H9 p2 (.tup [v2, .ref e1])) (.ref p2) (.tuple [d2, .tuple (ls.map bareD)]) := .tup g2 (.cons (t2.same s2) (.cons (te9.same s2) .nil))
      have te10 := te9.same s2
      have t1 := t1.same s2
      have x13 := (x11.trans x12).trans (.of s2)
      clear te9 b9 x12 g2
      generalize upd H9 p2 _ = H10 at y2 te10 t1 b10 x13 ⊢
      refine ⟨_, rfl, c, l, _, rfl, b10, by omega, fun v3 d3 H11 t3' o3 b11 x14 => ?_⟩
      refine ⟨_, rfl, szl rfl, fun p3 hp3 => ?_⟩
      have y2 := y2.bag b10 x14
      have te11 := te10.bag b10 x14
      have t1 := t1.bag b10 x14
      have s3 : Same H11 (upd H11 p3 (.tup [v3, .ref e1])) := same_new hp3
      have g3 : upd H11 p3 (.tup [v3, .ref e1]) p3 = some (.tup [v3, .ref e1]) := upd_same
      have b12 := b11.same s3
      have y3 : TV (upd H11 p3 (.tup [v3, .ref e1])) (.ref p3) (.tuple [d3, .tuple (ls.map bareD)]) := .tup g3 (.cons (t3'.same s3) (.cons (te11.same s3) .nil))
      have y2 := y2.same s3
      have t1 := t1.same s3
      have x15 := (x13.trans x14).trans (.of s3)
      clear te11 te10 b11 b10 x14 g3 x13
      generalize upd H11 p3 _ = H12 at y2 y3 t1 b12 x15 ⊢
      refine ⟨szl rfl, fun p4 hp4 => ?_⟩
      refine ⟨c, l, p4, _, _, rfl, b12.new hp4, by omega, b12.ne hp4, .of upd_same, by simp, szl2 rfl, fun i v H13 hi b13 x16 => ?_⟩
      have x17 : Ext c H12 H13 := (Ext.new hp4).trans x16
      have t1 := t1.bag b12 x17
      obtain ⟨q, hq, oq⟩ : ∃ q, TV H13 v q ∧ AnOk q := by
        match i, hi with
        | 0, hi => cases hi; exact ⟨_, .non, .inl rfl⟩
        | 1, hi => cases hi; exact ⟨_, y2.bag b12 x17, .inr (.inr ⟨d2, ls, rfl, o2, by omega, ok2⟩)⟩
        | 2, hi => cases hi; exact ⟨_, y3.bag b12 x17, .inr (.inr ⟨d3, ls, rfl, o3, by omega, ok2⟩)⟩
        | i + 3, hi => simp at hi
      refine ⟨szl rfl, fun p5 hp5 => ?_⟩
      have s5 : Same H13 (upd H13 p5 (.tup [v1, v])) := same_new hp5
      have g5 : upd H13 p5 (.tup [v1, v]) p5 = some (.tup [v1, v]) := upd_same
      have tr : TV (upd H13 p5 (.tup [v1, v])) (.ref p5) (.tuple [d1, q]) := .tup g5 (.cons (t1.same s5) (.cons (hq.same s5) .nil))
      have b14 := b13.same s5
      have x18 := (x15.trans x17).trans (.of s5)
      generalize upd H13 p5 _ = H14 at tr b14 x18 ⊢
      obtain ⟨cs7, hcs7⟩ := bag_lst b7
      have g14 := gF.keep (.ext x18 hcs7 trivial) (fun xs h => x18 _ _ nFc h)
      obtain ⟨acc, hacc, lacc⟩ := g14.acc
      refine ⟨F, acc, _, rfl, rfl, hacc, szK (by rw [lacc]; omega), ⟨_, _, rfl⟩, rs ++ [.tuple [d1, q]], by rw [List.length_append, hl]; rfl, fun r hr => ?_, g14.push trivial hacc tr, (b14.put nFc nFl).mono (by omega), ext_new (xF.trans x18) hF0⟩
      rcases List.mem_append.mp hr with hr | hr
      · exact ok r hr
      · rw [List.mem_singleton.mp hr]; exact ⟨d1, q, rfl, o1, oq⟩
  · rintro σ H4 ⟨⟨t3, t5, rfl⟩, rs, hl, ok, ⟨acc, hacc, hts⟩, b4, x6⟩
    refine ⟨_, rfl, F, acc, rfl, .inl ⟨.of hacc, fun e1 h1 => ?_⟩⟩
    have s1 : Same H4 (upd H4 e1 (.tup acc)) := same_new h1
    exact k _ _ _ (.tup upd_same (hts.mono (.of s1) _ _)) ⟨rs, rfl, by omega, ok⟩ ((b4.same s1).mono (by omega)) (x6.trans (.of s1))
end
end K39

set_option Elab.async false
set_option linter.all false
set_option maxRecDepth 100000
set_option maxHeartbeats 4000000
namespace K39
open PySem PySem.Spec PyProof.Rows L2 Gs
mutual
def cntD : PyData → Nat
  | .list ds => cntDs ds + 1
  | .tuple ds => cntDs ds + 1
  | _ => 0
def cntDs : List PyData → Nat
  | [] => 0
  | d :: ds => cntD d + cntDs ds
end
theorem cntDs_take : ∀ (ds : List PyData) (i : Nat) (d : PyData), ds[i]? = some d → cntDs (ds.take (i + 1)) = cntDs (ds.take i) + cntD d
  | [], _, _, h => by simp at h
  | e :: ds, 0, d, h => by
    simp at h; subst h
    simp [cntDs]
  | e :: ds, i + 1, d, h => by
    have := cntDs_take ds i d (by simpa using h)
    simp only [List.take_succ_cons, cntDs]; omega
theorem cntDs_le : ∀ (ds : List PyData) (i : Nat), cntDs (ds.take i) ≤ cntDs ds
  | [], i => by simp [cntDs]
  | e :: ds, 0 => by simp [cntDs]
  | e :: ds, i + 1 => by
    have := cntDs_le ds i
    simp only [List.take_succ_cons, cntDs]; omega
/-- the lists known -/
def NL (H : Hp) (a : Addr) : Prop := ∃ xs, H a = some (.lst xs)
section
variable {P : Program} {w : World} {K : PySem.W.Frag} {mg : Str → Option Value} {base : Heap}
def spLi (n : Nat) : Sp := fun vs H Q _ => ∃ (c l : Addr) (m : Nat) (v : V) (d : PyData), vs = [.ref c, v] ∧ Bag c l m H ∧ TV H v d ∧ deepD d ≤ n ∧ slimD d = true ∧ m + cntD d ≤ 999000 ∧
  ∀ v' d' H', fixD d' = fixD d → LV (NL H) H' v' d' → Bag c l (m + cntD d) H' → Ext c H H' → Q v' H'
def spLiR : Nat → Sp
  | 0 => fun _ _ _ _ => False
  | n + 1 => spLi n
theorem tv_leaf {H : Hp} {v : V} {d : PyData} (h : TV H v d) : (Leaf K H v ∧ fixD d = d ∧ cntD d = 0 ∧ (∀ N : Addr → Prop, LV N H v d)) ∨ ∃ a xs ds, v = .ref a ∧ d = .tuple ds ∧ H a = some (.tup xs) ∧ TVs H xs ds := by
  cases h with
  | non => exact .inl ⟨.non, rfl, rfl, fun _ => .non⟩
  | bl b => exact .inl ⟨.bl b, rfl, rfl, fun _ => .bl b⟩
  | int i => exact .inl ⟨.int i, rfl, rfl, fun _ => .int i⟩
  | str x => exact .inl ⟨.str x, rfl, rfl, fun _ => .str x⟩
  | lst n s r => exact absurd trivial n
  | tup s r => exact .inr ⟨_, _, _, rfl, rfl, s, r⟩
  | dk s => exact .inl ⟨.dK s, rfl, rfl, fun _ => .dk s⟩
theorem li_step (T : Tx K mg) (n : Nat) (IH : FnOk P w K mg base CX0 (n + 2) T.a__law_listed T.d__law_listed ["satchel", "value"] (spLiR n)) : FnOk P w K mg base CX0 (n + 3) T.a__law_listed T.d__law_listed ["satchel", "value"] (spLi n) := by
  refine T.F__law_listed.ok sc__law_listed (fun vs H Q E h => ?_) (fun cdv A outer s H vs Q E hr h => ?_)
  · obtain ⟨_, _, _, _, _, rfl, _⟩ := h; rfl
  obtain ⟨c, l, m, v, d, rfl, hb, hv, dp, sl, hm, k⟩ := h
  refine ⟨_, (pss_cons (ps_if (pt_not (pt_val (pe_callB call_isiT (by rfl) T.z_isinstance (by decide +kernel) (pa_cons (pv 1) (pa_cons (pe_tup (pa_cons (pe_bltn (v := .ty "list") (u := .type "list") (by rfl) T.z_list (by decide +kernel) rfl) (pa_cons (pe_bltn (v := .ty "tuple") (u := .type "tuple") (by rfl) T.z_tuple (by decide +kernel) rfl) pa_nil))) pa_nil))))) (pss_one (ps_ret (pv 1))) pss_nil)
      (pss_cons (ps_setLc (i := 2) (own := [("part", 3)]) (g := (gName 3)) rfl sc__law_listed.nd rfl rfl (sw_true rfl rfl rfl (by decide +kernel)) (pi_or (pi_list (pv 1)) (pi_tup (pv 1))) (blkOk_by (N := n__law_listed) (sc := defScope s__law_listed) (by decide +kernel)) (fun _ _ _ _ _ => (pg_name (i := 3) sc__law_listed.nd rfl (Or.inl rfl))) (fun _ _ _ _ _ => pts_nil) (fun _ _ _ _ _ => (pe_call IH (hr.mono (by omega)) (by rfl) T.m__law_listed T.F__law_listed.kp T.b__law_listed .nil pass0 (pa_cons (pv 0) (pa_cons (pv 3) pa_nil)))))
      (pss_one (ps_ret (pe_ifExp (pt_cmpR op_eq (pe_call (O__law_fetch T) (hr.mono (by omega)) (by rfl) T.m__law_fetch T.F__law_fetch.kp T.b__law_fetch .nil pass0 (pa_cons (pv 0) (pa_cons pe_int pa_nil))) pe_int (nomark _)) (pv 2) (pe_callTy call_tuple_of (by rfl) T.z_tuple (by decide +kernel) (pa_cons (pv 2) pa_nil))))))), ?_⟩
  obtain ⟨cs, hcs⟩ := bag_lst hb
  refine ⟨_, rfl, szl rfl, fun p hp => ?_⟩
  have s1 : Same H (upd H p (.tup [.ty "list", .ty "tuple"])) := same_new hp
  have hP : upd H p (.tup [.ty "list", .ty "tuple"]) p = some (.tup [.ty "list", .ty "tuple"]) := upd_same
  generalize upd H p _ = H1 at s1 hP ⊢
  rcases tv_leaf (K := K) hv with ⟨lf, ef, ec, lv⟩ | ⟨a, xs, ds, rfl, rfl, ha, hxs⟩
  · obtain ⟨t, ty, kt⟩ := (lf.up (.of s1)).not
    refine ⟨_, _, [.ty "list", .ty "tuple"], t, [.type "list", .type "tuple"], false, rfl, hP, .cons (.ty _) (.cons (.ty _) .nil), ty, kt, _, rfl, iteT ⟨_, rfl, ?_⟩⟩
    exact k v d H1 rfl ((lv _).mono (.of s1) _ _) (by rw [ec]; exact hb.same s1) (.of s1)
  have hs1 : SqA K H1 a xs := .inr (.of (s1 _ _ ha))
  obtain ⟨d0, hsq, ty⟩ := ty_sqa hs1
  refine ⟨.ref a, _, [.ty "list", .ty "tuple"], .type (tyN d0), [.type "list", .type "tuple"], isSeq d0, rfl, hP, .cons (.ty _) (.cons (.ty _) .nil), ty, kit_seq _, ?_⟩
  rw [hsq]
  refine ⟨_, rfl, iteF ?_⟩
  have hxs1 : TVs H1 xs ds := hxs.mono (.of s1) _ _
  have b1 := hb.same s1
  obtain ⟨sl1, sl2⟩ := Bool.and_eq_true_iff.mp (show (decide (ds.length ≤ 1000) && slimDs ds) = true from sl)
  have few : ds.length ≤ 1000 := of_decide_eq_true sl1
  have dp : deepDs ds + 1 ≤ n := dp
  obtain ⟨n, rfl⟩ : ∃ k, n = k + 1 := ⟨n - 1, by omega⟩
  have hm : m + (cntDs ds + 1) ≤ 999000 := hm
  have ha1 := s1 _ _ ha
  have nac : a ≠ c := fun z => by rw [z, hcs] at ha; cases ha
  have nlc : ∀ {H' : Hp}, Ext c H1 H' → (∃ xs, H' c = some (.lst xs)) → ∀ x, NL H x → NL H' x := fun {H'} e hc x ⟨ys, hx⟩ => by
    by_cases q : x = c
    · rw [q]; exact hc
    · exact ⟨ys, e _ _ q (s1 _ _ hx)⟩
  refine .inr ⟨_, rfl, a, rfl, ⟨_, .of ha1⟩, fun D hD => ?_⟩
  have nDc := b1.ne hD
  have nDl := b1.ne2 hD
  have hD0 : H D = none := s1.free hD
  have hD1 : ∀ u, H1 D = some u → False := fun u e => by rw [hD] at e; cases e
  refine lc_it (walk_tup (K := K) (a := a) (xs := xs)) (fun j H' => ∃ ds' : List PyData, ds'.map fixD = (ds.take j).map fixD ∧ GL (fun x => NL H x ∨ x = D) H' D ds' ∧ Bag c l (m + cntDs (ds.take j)) H' ∧ Ext c H1 H') ⟨[], by simp, .nil upd_same, by rw [List.take_zero]; exact b1.new hD, Ext.new hD⟩ (fun j H' _ h => .of (h.choose_spec.2.2.2 _ _ nac ha1)) ?_ ?_
  · rintro j y H2 H2' hj ⟨ds', ef, g, b2, x2⟩ ⟨rfl, hy⟩
    obtain ⟨dj, hdj, tj⟩ := hxs1.at hy
    have e1 := cntDs_take ds j dj hdj
    have e2 := cntDs_le ds (j + 1)
    obtain ⟨cs2, hcs2⟩ := bag_lst b2
    obtain ⟨cs1, hcs1⟩ := bag_lst b1
    have ll : ds'.length = j := by
      have := congrArg List.length ef
      rw [List.length_map, List.length_map, List.length_take] at this
      have := hxs1.len
      omega
    refine ⟨rfl, ?_⟩
    refine ⟨_, rfl, _, rfl, c, l, _, y, dj, rfl, b2, tj.mono (.ext x2 hcs1 trivial) _ _, Nat.le_trans (deep_at hdj) (by omega), slim_at sl2 hdj, by omega, fun v' d' H3 f3 l3 b3 x3 => ?_⟩
    have sub : ∀ z, (NL H z ∨ z = D) → NL H2' z := fun z hz => by
      rcases hz with hz | rfl
      · exact nlc x2 ⟨_, hcs2⟩ z hz
      · obtain ⟨acc, h, _⟩ := g.acc
        exact ⟨acc, h⟩
    have l3 := l3.sub sub
    have g3 := g.keep (.ext x3 hcs2 (.inl ⟨_, hcs⟩)) (fun xs h => x3 _ _ nDc h)
    obtain ⟨acc, hacc, lacc⟩ := g3.acc
    refine ⟨acc, hacc, szK (by have := hxs1.len; omega), ds' ++ [d'], ?_, g3.push (.inr rfl) hacc l3, (b3.put nDc nDl).mono (by omega), ext_new (x2.trans x3) hD1⟩
    rw [List.map_append, ef, List.take_add_one, hdj, List.map_append]
    simp [f3]
  · rintro H2 ⟨ds', ef, ⟨zs, hz, hts⟩, b2, x2⟩
    have el : xs.length = ds.length := hxs1.len
    rw [el, List.take_length] at ef b2
    dsimp only [gName]
    have efx : fixDs ds' = fixDs ds := by rw [fixDs_map, fixDs_map]; exact ef
    have nN : ¬ NL H D := fun ⟨_, h⟩ => by rw [hD0] at h; cases h
    refine ⟨_, rfl, c, l, _, _, rfl, b2, by omega, by decide, by decide, fun r H3 r1 r2 b3 x3 => ?_⟩
    obtain ⟨cs2, hcs2⟩ := bag_lst b2
    have kp : KeepN (fun x => NL H x ∨ x = D) H2 H3 := .ext x3 hcs2 (.inl ⟨_, hcs⟩)
    have hts3 : LVs (NL H) H3 zs ds' := (hts.mono kp _ _).sub (fun x hx => .inl hx) _ _
    have hz3 := x3 _ _ nDc hz
    have xx := (x2.trans x3)
    have xH : Ext c H H3 := (Ext.of s1).trans xx
    refine ⟨rfl, _, rfl, ?_⟩
    refine iteB (fun e => ?_) (fun e => ?_)
    · refine ⟨_, rfl, ?_⟩
      exact k _ (.list ds') H3 (by simp only [fixD]; rw [efx]) (.lst nN hz3 hts3) (b3.mono (by show _ ≤ m + (cntDs ds + 1); omega)) xH
    · refine ⟨_, rfl, D, zs, rfl, .inl ⟨.of hz3, fun t ht => ?_⟩⟩
      have st : Same H3 (upd H3 t (.tup zs)) := same_new ht
      exact k _ (.tuple ds') _ (by simp only [fixD]; rw [efx]) (.tup upd_same (hts3.mono (.of st) _ _)) ((b3.same st).mono (by show _ ≤ m + (cntDs ds + 1); omega)) (xH.trans (.of st))
theorem O_li_at (T : Tx K mg) : ∀ n, FnOk P w K mg base CX0 (n + 3) T.a__law_listed T.d__law_listed ["satchel", "value"] (spLi n)
  | 0 => li_step T 0 ⟨fun _ _ _ _ h => h.elim, fun _ _ _ _ _ _ _ _ _ _ _ _ _ h => h.elim⟩
  | n + 1 => li_step T (n + 1) (O_li_at T n)
theorem O__law_listed (T : Tx K mg) : FnOk P w K mg base CX0 23 T.a__law_listed T.d__law_listed ["satchel", "value"] (spLi 20) := O_li_at T 20
end
end K39

set_option Elab.async false
set_option linter.all false
set_option maxRecDepth 100000
set_option maxHeartbeats 4000000
namespace K39
open PySem PySem.Spec PyProof.Rows L2 Gs
def oddDs : List PyData := [.none, .int 5, .bool true, .str "x", .tuple [], .dict [], .tuple [.int 0, .int 0], .tuple [.tuple [.int 0, .int 0]], .tuple [.tuple [.int 0, .int 0], .tuple [.int 0, .int 1]], .tuple [.tuple [.int 0, .int 0], .tuple [.int 0, .bool true]], .tuple [.tuple [.int 0, .int 0], .tuple [.int 0, .int 1], .tuple [.int 0, .int 2]], .tuple [.tuple [.tuple [.int 0, .int 0], .tuple [.int 0, .int 1]], .tuple []], .tuple [.tuple [.tuple [.int 0, .int 0], .tuple [.int 0, .int 1]], .none]]
theorem bulk_app : ∀ xs ys : List PyData, PyData.bulkAll (xs ++ ys) = PyData.bulkAll xs + PyData.bulkAll ys
  | [], ys => by simp [PyData.bulkAll]
  | x :: xs, ys => by rw [List.cons_append, PyData.bulkAll, PyData.bulkAll, bulk_app xs ys]; omega
theorem sh_app : ∀ xs ys : List PyData, PyData.showableAll (xs ++ ys) = (PyData.showableAll xs && PyData.showableAll ys)
  | [], ys => by simp [PyData.showableAll]
  | x :: xs, ys => by rw [List.cons_append, PyData.showableAll, PyData.showableAll, sh_app xs ys, Bool.and_assoc]
theorem lf_app : ∀ xs ys : List PyData, PyData.leavesShortAll 1100 (xs ++ ys) = (PyData.leavesShortAll 1100 xs && PyData.leavesShortAll 1100 ys)
  | [], ys => by simp [PyData.leavesShortAll]
  | x :: xs, ys => by rw [List.cons_append, PyData.leavesShortAll, PyData.leavesShortAll, lf_app xs ys, Bool.and_assoc]
theorem dp_app : ∀ xs ys : List PyData, PyData.depthAll (xs ++ ys) = max (PyData.depthAll xs) (PyData.depthAll ys)
  | [], ys => by simp [PyData.depthAll]
  | x :: xs, ys => by rw [List.cons_append, PyData.depthAll, PyData.depthAll, dp_app xs ys]; omega
theorem can_app : ∀ xs ys : List PyData, PyData.canLayAll0 (xs ++ ys) = (PyData.canLayAll0 xs && PyData.canLayAll0 ys)
  | [], ys => by simp [PyData.canLayAll0]
  | x :: xs, ys => by rw [List.cons_append, PyData.canLayAll0, PyData.canLayAll0, can_app xs ys, Bool.and_assoc]
theorem fs_app {k a b : Nat} {xs ys : List PyData} (h : FineS k a xs) (g : FineS k b ys) : FineS k (a + b) (xs ++ ys) :=
  ⟨by rw [sh_app, h.sh, g.sh]; rfl, by rw [dp_app]; exact Nat.max_le.mpr ⟨h.dp, g.dp⟩, by rw [lf_app, h.lf, g.lf]; rfl, by rw [bulk_app]; exact Nat.add_le_add h.bk g.bk⟩
theorem fs_split {k n : Nat} {xs ys : List PyData} (h : FineS k n (xs ++ ys)) : FineS k (PyData.bulkAll xs) xs ∧ FineS k (PyData.bulkAll ys) ys ∧ PyData.bulkAll xs + PyData.bulkAll ys ≤ n := by
  obtain ⟨a, b, c, d⟩ := h
  rw [sh_app, Bool.and_eq_true] at a
  rw [dp_app] at b
  rw [lf_app, Bool.and_eq_true] at c
  rw [bulk_app] at d
  exact ⟨⟨a.1, Nat.le_trans (Nat.le_max_left _ _) b, c.1, Nat.le_refl _⟩, ⟨a.2, Nat.le_trans (Nat.le_max_right _ _) b, c.2, Nat.le_refl _⟩, d⟩
theorem fs_one {k n : Nat} {d : PyData} {ds : List PyData} (h : FineS k n (d :: ds)) : Fine k d.bulk d ∧ FineS k (PyData.bulkAll ds) ds ∧ d.bulk + 1 + PyData.bulkAll ds ≤ n := by
  obtain ⟨a, b, c, e⟩ := h
  rw [PyData.showableAll, Bool.and_eq_true] at a
  rw [PyData.depthAll] at b
  rw [PyData.leavesShortAll, Bool.and_eq_true] at c
  rw [PyData.bulkAll] at e
  exact ⟨⟨a.1, by omega, c.1, Nat.le_refl _⟩, ⟨a.2, by omega, c.2, Nat.le_refl _⟩, by omega⟩
theorem at_split {α : Type} {ds : List α} {i : Nat} {d : α} (h : ds[i]? = some d) : ds = ds.take i ++ d :: ds.drop (i + 1) := by
  have hi := (List.getElem?_eq_some_iff.mp h)
  obtain ⟨h1, h2⟩ := hi
  rw [← h2]
  exact (List.take_append_drop i ds).symm.trans (by rw [List.drop_eq_getElem_cons h1])
theorem tup_fine {k n : Nat} {ds : List PyData} (h : Fine k n (.tuple ds)) : ∃ j, k = j + 1 ∧ FineS j n ds := by
  obtain ⟨a, b, c, d⟩ := h
  simp only [PyData.showable, PyData.depth, PyData.leavesShort, PyData.bulk] at a b c d
  exact ⟨k - 1, by omega, a, by omega, c, d⟩
theorem odd_fine : ∀ d ∈ oddDs, Fine 4 60 d := by
  have h : ∀ d ∈ oddDs, (d.showable && decide (d.depth ≤ 4) && d.leavesShort 1100 && decide (d.bulk ≤ 60)) = true := by decide +kernel
  intro d hd
  have := h d hd
  simp only [Bool.and_eq_true, decide_eq_true_eq] at this
  exact ⟨this.1.1.1, this.1.1.2, this.1.2, this.2⟩
theorem cut_from (xs : List V) (k : Nat) : cutV xs (some (k : Int)) none = xs.drop k := by
  unfold cutV
  rw [HT.sIx_none, HT.sIx_nat]
  by_cases h : k ≤ xs.length
  · rw [Nat.min_eq_left h, List.take_of_length_le (by rw [List.length_drop]; omega)]
  · rw [Nat.min_eq_right (by omega), List.drop_eq_nil_of_le (Nat.le_refl _), List.drop_eq_nil_of_le (by omega), List.take_nil]
theorem cut_to (xs : List V) (k : Nat) : cutV xs none (some (k : Int)) = xs.take k := by
  unfold cutV
  rw [HT.sIx_none, HT.sIx_nat, List.drop_zero, Nat.sub_zero, ← List.take_take, List.take_length]
section
variable {K : PySem.W.Frag} {H : Hp} {Q : VK}
/-- what a slice of a tuple is -/
theorem slT {a : Addr} {xs : List V} {ds : List PyData} {k : Nat} {i : Int} (hi : i = (k : Int)) (ha : H a = some (.tup xs)) (hx : TVs H xs ds) (q : ∀ r H', Same H H' → (∃ zs, H' r = some (.tup zs) ∧ TVs H' zs (ds.take k)) → Q (.ref r) H') : rSlA K (.ref a) none (some i) H Q := by
  subst hi
  refine ⟨a, xs, rfl, .of ha, fun h => ?_, fun _ p hp => ?_⟩
  · have h2 : min k xs.length = xs.length := by have := h.2; rw [HT.sIx_nat] at this; exact this
    refine q a H (Same.refl H) ⟨xs, ha, ?_⟩
    rw [List.take_of_length_le (by have := hx.len; omega)]; exact hx
  · rw [cut_to]
    have s := same_new (o := .tup (xs.take k)) hp
    exact q p _ s ⟨_, upd_same, (hx.take k).mono (.of s) _ _⟩
theorem slF {a : Addr} {xs : List V} {ds : List PyData} {k : Nat} {i : Int} (hi : i = (k : Int)) (ha : H a = some (.tup xs)) (hx : TVs H xs ds) (q : ∀ r H', Same H H' → (∃ zs, H' r = some (.tup zs) ∧ TVs H' zs (ds.drop k)) → Q (.ref r) H') : rSlA K (.ref a) (some i) none H Q := by
  subst hi
  refine ⟨a, xs, rfl, .of ha, fun h => ?_, fun _ p hp => ?_⟩
  · have h2 : min k xs.length = 0 := by have := h.1; rw [HT.sIx_nat] at this; exact this
    refine q a H (Same.refl H) ⟨xs, ha, ?_⟩
    have hl := hx.len
    by_cases k0 : k = 0
    · rw [k0, List.drop_zero]; exact hx
    · have : xs = [] := List.length_eq_zero_iff.mp (by omega)
      subst this
      have : ds = [] := List.length_eq_zero_iff.mp (by rw [← hl]; rfl)
      subst this
      rw [List.drop_nil]; exact .nil
  · rw [cut_from]
    have s := same_new (o := .tup (xs.drop k)) hp
    exact q p _ s ⟨_, upd_same, (hx.drop k).mono (.of s) _ _⟩
theorem catT {a b : Addr} {xs ys : List V} {ds es : List PyData} (ha : H a = some (.tup xs)) (hx : TVs H xs ds) (hb : H b = some (.tup ys)) (hy : TVs H ys es) (few : xs.length + ys.length ≤ 10000) (q : ∀ r H', Same H H' → (∃ zs, H' r = some (.tup zs) ∧ TVs H' zs (ds ++ es)) → Q (.ref r) H') : rCatA K (.ref a) (.ref b) H Q := by
  have hl := hx.len
  have hl2 := hy.len
  refine ⟨a, b, xs, ys, rfl, rfl, .of ha, .of hb, szM (by omega), fun e => ?_, fun _ e => ?_, fun _ _ p hp => ?_⟩
  · subst e
    have : ds = [] := List.length_eq_zero_iff.mp (by rw [← hl]; rfl)
    subst this
    exact q b H (Same.refl H) ⟨ys, hb, hy⟩
  · subst e
    have : es = [] := List.length_eq_zero_iff.mp (by rw [← hl2]; rfl)
    subst this
    rw [List.append_nil] at q
    exact q a H (Same.refl H) ⟨xs, ha, hx⟩
  · have s := same_new (o := .tup (xs ++ ys)) hp
    exact q p _ s ⟨_, upd_same, (hx.app hy).mono (.of s) _ _⟩
end
theorem tt_cut {t : TT} {σ : L2.St} {H : Hp} {Q : Bool → Hp → Prop} (R : Bool → Hp → Prop) (h1 : ∀ Q' : Bool → Hp → Prop, (∀ v H', R v H' → Q' v H') → t σ H Q') (h2 : ∀ v H', R v H' → Q v H') : t σ H Q := h1 _ h2
theorem tv_tuple {K : PySem.W.Frag} {H : Hp} {v : V} {d : PyData} (h : TV H v d) : (∃ a xs ds, v = .ref a ∧ d = .tuple ds ∧ H a = some (.tup xs) ∧ TVs H xs ds) ∨ ∃ t, TyX K H v t ∧ PySem.W.kitOne K t (.type "tuple") = some false := by
  cases h with
  | non => exact .inr ⟨_, .base .non, kit_ty (by decide +kernel)⟩
  | bl b => exact .inr ⟨_, .base (.bl b), kit_ty (by decide +kernel)⟩
  | int i => exact .inr ⟨_, .base (.int i), kit_ty (by decide +kernel)⟩
  | str x => exact .inr ⟨_, .base (.str x), kit_ty (by decide +kernel)⟩
  | lst n s r => exact absurd trivial n
  | tup s r => exact .inl ⟨_, _, _, rfl, rfl, s, r⟩
  | dk s => exact .inr ⟨_, .base (.dK s), kit_ty (by decide +kernel)⟩
section
variable {P : Program} {w : World} {K : PySem.W.Frag} {mg : Str → Option Value} {base : Heap}
def spBe (n : Nat) : Sp := fun vs H Q _ => ∃ (c l : Addr) (m : Nat) (v : V) (d : PyData) (kk nn : Nat) (e : Int), vs = [.ref c, v, .int e] ∧ 0 ≤ e ∧ e ≤ 100 ∧ Bag c l m H ∧ TV H v d ∧ d.canLay0 = true ∧ Fine kk nn d ∧ kk ≤ n ∧ nn ≤ 1000 ∧ m + 4 * n + 4 ≤ 999000 ∧ n ≤ 50 ∧
  ∀ v' d' H', TV H' v' d' → Fine (kk + 4) (2 * nn + 60) d' → Bag c l (m + 4 * n + 4) H' → Ext c H H' → Q v' H'
def spBeR : Nat → Sp
  | 0 => fun _ _ _ _ => False
  | n + 1 => spBe n
theorem be_step (T : Tx K mg) (n : Nat) (IH : FnOk P w K mg base CX0 (n + 3) T.a__law_bent T.d__law_bent ["satchel", "value", "deep"] (spBeR n)) : FnOk P w K mg base CX0 (n + 4) T.a__law_bent T.d__law_bent ["satchel", "value", "deep"] (spBe n) := by
  refine T.F__law_bent.ok sc__law_bent (fun vs H Q E h => ?_) (fun cdv A outer s H vs Q E hr h => ?_)
  · obtain ⟨_, _, _, _, _, _, _, _, rfl, _⟩ := h; rfl
  obtain ⟨c, l, m, v, d, kk, nn, e, rfl, e0, e1, hb, hv, can, fine, hkn, hnn, hm, hn50, k⟩ := h
  refine ⟨_, (pss_cons (ps_set (i := 3) sc__law_bent.nd rfl (Or.inl rfl) (pe_lst (pa_cons pe_non (pa_cons pe_int (pa_cons pe_bl (pa_cons pe_str (pa_cons (pe_tup pa_nil) (pa_cons pe_dnewK (pa_cons (pe_tup (pa_cons pe_int (pa_cons pe_int pa_nil))) (pa_cons (pe_tup (pa_cons (pe_tup (pa_cons pe_int (pa_cons pe_int pa_nil))) pa_nil)) (pa_cons (pe_tup (pa_cons (pe_tup (pa_cons pe_int (pa_cons pe_int pa_nil))) (pa_cons (pe_tup (pa_cons pe_int (pa_cons pe_int pa_nil))) pa_nil))) (pa_cons (pe_tup (pa_cons (pe_tup (pa_cons pe_int (pa_cons pe_int pa_nil))) (pa_cons (pe_tup (pa_cons pe_int (pa_cons pe_bl pa_nil))) pa_nil))) (pa_cons (pe_tup (pa_cons (pe_tup (pa_cons pe_int (pa_cons pe_int pa_nil))) (pa_cons (pe_tup (pa_cons pe_int (pa_cons pe_int pa_nil))) (pa_cons (pe_tup (pa_cons pe_int (pa_cons pe_int pa_nil))) pa_nil)))) (pa_cons (pe_tup (pa_cons (pe_tup (pa_cons (pe_tup (pa_cons pe_int (pa_cons pe_int pa_nil))) (pa_cons (pe_tup (pa_cons pe_int (pa_cons pe_int pa_nil))) pa_nil))) (pa_cons (pe_tup pa_nil) pa_nil))) (pa_cons (pe_tup (pa_cons (pe_tup (pa_cons (pe_tup (pa_cons pe_int (pa_cons pe_int pa_nil))) (pa_cons (pe_tup (pa_cons pe_int (pa_cons pe_int pa_nil))) pa_nil))) (pa_cons pe_non pa_nil))) pa_nil)))))))))))))))
      (pss_cons (ps_if (PW.pt (pw_or (pt_not (pt_val (pe_callB call_isi (by rfl) T.z_isinstance (by decide +kernel) (pa_cons (pv 1) (pa_cons (pe_bltn (v := .ty "tuple") (u := .type "tuple") (by rfl) T.z_tuple (by decide +kernel) rfl) pa_nil))))) (pw_or (pt_cmpR (op_eqD hr.units) (pv 1) (pe_tup pa_nil) (nomark _)) (pw_or (pt_cmpR op_eq (pv 2) pe_int (nomark _)) (pw_or1 (pt_cmpR op_eq (pe_call (O__law_fetch T) (hr.mono (by omega)) (by rfl) T.m__law_fetch T.F__law_fetch.kp T.b__law_fetch .nil pass0 (pa_cons (pv 0) (pa_cons pe_int pa_nil))) pe_int (nomark _))))))) (pss_one (ps_ret (pe_call (O__law_one T) (hr.mono (by omega)) (by rfl) T.m__law_one T.F__law_one.kp T.b__law_one .nil pass0 (pa_cons (pv 0) (pa_cons (pv 3) pa_nil))))) pss_nil)
      (pss_cons (ps_par (i := 4) (j := 5) rfl sc__law_bent.nd rfl rfl (by decide) rfl rfl (pa_cons (pe_call (O__law_fetch T) (hr.mono (by omega)) (by rfl) T.m__law_fetch T.F__law_fetch.kp T.b__law_fetch .nil pass0 (pa_cons (pv 0) (pa_cons (pe_callB call_len_seq (by rfl) T.z_len (by decide +kernel) (pa_cons (pv 1) pa_nil)) pa_nil))) (pa_cons (pe_call (O__law_fetch T) (hr.mono (by omega)) (by rfl) T.m__law_fetch T.F__law_fetch.kp T.b__law_fetch .nil pass0 (pa_cons (pv 0) (pa_cons pe_int pa_nil))) pa_nil)) (by rfl))
      (pss_cons (ps_if (pt_cmpR op_eq (pv 5) pe_int (nomark _)) (pss_one (ps_ret (pe_op op_catA (pe_slice sl_tupA (pv 1) po_none (po_some (pv 4))) (pe_slice sl_tupA (pv 1) (po_some (pe_op op_add (pv 4) pe_int)) po_none)))) pss_nil)
      (pss_cons (ps_if (pt_cmpR op_eq (pv 5) pe_int (nomark _)) (pss_one (ps_ret (pe_op op_catA (pe_slice sl_tupA (pv 1) po_none (po_some (pe_op op_add (pv 4) pe_int))) (pe_slice sl_tupA (pv 1) (po_some (pv 4)) po_none)))) pss_nil)
      (pss_one (ps_ret (pe_op op_catA (pe_op op_catA (pe_slice sl_tupA (pv 1) po_none (po_some (pv 4))) (pe_tup (pa_cons (pe_call IH (hr.mono (by omega)) (by rfl) T.m__law_bent T.F__law_bent.kp T.b__law_bent .nil pass0 (pa_cons (pv 0) (pa_cons (pe_ix ix_tup (pv 1) (pv 4) (fun _ _ => rfl)) (pa_cons (pe_op op_sub (pv 2) pe_int) pa_nil)))) pa_nil))) (pe_slice sl_tupA (pv 1) (po_some (pe_op op_add (pv 4) pe_int)) po_none))))))))), ?_⟩
  refine ⟨szl rfl, fun p1 hp1 => ?_⟩
  have s1 : Same H (upd H p1 (.tup [])) := same_new hp1
  have g1 : upd H p1 (.tup []) p1 = some (.tup []) := upd_same
  have t1 : TV (upd H p1 (.tup [])) (.ref p1) (.tuple []) := .tup g1 .nil
  generalize upd H p1 _ = G1 at s1 t1 ⊢
  clear g1 hp1
  intro p2 hp2
  have s2 : Same G1 (upd G1 p2 (.dK [])) := same_new hp2
  have g2 : upd G1 p2 (.dK []) p2 = some (.dK []) := upd_same
  have t2 : TV (upd G1 p2 (.dK [])) (.ref p2) (.dict []) := .dk g2
  have t1 := t1.same s2
  change tCons _ _ _ (upd G1 p2 (.dK [])) _
  generalize upd G1 p2 _ = G2 at s2 t1 t2 ⊢
  clear g2 hp2
  refine ⟨szl rfl, fun p3 hp3 => ?_⟩
  have s3 : Same G2 (upd G2 p3 (.tup [.int 0, .int 0])) := same_new hp3
  have g3 : upd G2 p3 (.tup [.int 0, .int 0]) p3 = some (.tup [.int 0, .int 0]) := upd_same
  have t3 : TV (upd G2 p3 (.tup [.int 0, .int 0])) (.ref p3) (.tuple [.int 0, .int 0]) := .tup g3 (.cons (.int 0) (.cons (.int 0) .nil))
  have t1 := t1.same s3
  have t2 := t2.same s3
  generalize upd G2 p3 _ = G3 at s3 t1 t2 t3 ⊢
  clear g3 hp3
  refine ⟨szl rfl, fun p4 hp4 => ?_⟩
  have s4 : Same G3 (upd G3 p4 (.tup [.int 0, .int 0])) := same_new hp4
  have g4 : upd G3 p4 (.tup [.int 0, .int 0]) p4 = some (.tup [.int 0, .int 0]) := upd_same
  have t4 : TV (upd G3 p4 (.tup [.int 0, .int 0])) (.ref p4) (.tuple [.int 0, .int 0]) := .tup g4 (.cons (.int 0) (.cons (.int 0) .nil))
  have t1 := t1.same s4
  have t2 := t2.same s4
  have t3 := t3.same s4
  generalize upd G3 p4 _ = G4 at s4 t1 t2 t3 t4 ⊢
  clear g4 hp4
  refine ⟨szl rfl, fun p5 hp5 => ?_⟩
  have s5 : Same G4 (upd G4 p5 (.tup [.ref p4])) := same_new hp5
  have g5 : upd G4 p5 (.tup [.ref p4]) p5 = some (.tup [.ref p4]) := upd_same
  have t5 : TV (upd G4 p5 (.tup [.ref p4])) (.ref p5) (.tuple [.tuple [.int 0, .int 0]]) := .tup g5 (.cons (t4.same s5) .nil)
  have t1 := t1.same s5
  have t2 := t2.same s5
  have t3 := t3.same s5
  generalize upd G4 p5 _ = G5 at s5 t1 t2 t3 t5 ⊢
  clear g5 hp5
  refine ⟨szl rfl, fun p6 hp6 => ?_⟩
  have s6 : Same G5 (upd G5 p6 (.tup [.int 0, .int 0])) := same_new hp6
  have g6 : upd G5 p6 (.tup [.int 0, .int 0]) p6 = some (.tup [.int 0, .int 0]) := upd_same
  have t6 : TV (upd G5 p6 (.tup [.int 0, .int 0])) (.ref p6) (.tuple [.int 0, .int 0]) := .tup g6 (.cons (.int 0) (.cons (.int 0) .nil))
  have t1 := t1.same s6
  have t2 := t2.same s6
  have t3 := t3.same s6
  have t5 := t5.same s6
  generalize upd G5 p6 _ = G6 at s6 t1 t2 t3 t5 t6 ⊢
  clear g6 hp6
  refine ⟨szl rfl, fun p7 hp7 => ?_⟩
  have s7 : Same G6 (upd G6 p7 (.tup [.int 0, .int 1])) := same_new hp7
  have g7 : upd G6 p7 (.tup [.int 0, .int 1]) p7 = some (.tup [.int 0, .int 1]) := upd_same
  have t7 : TV (upd G6 p7 (.tup [.int 0, .int 1])) (.ref p7) (.tuple [.int 0, .int 1]) := .tup g7 (.cons (.int 0) (.cons (.int 1) .nil))
  have t1 := t1.same s7
  have t2 := t2.same s7
  have t3 := t3.same s7
  have t5 := t5.same s7
  have t6 := t6.same s7
  generalize upd G6 p7 _ = G7 at s7 t1 t2 t3 t5 t6 t7 ⊢
  clear g7 hp7
  refine ⟨szl rfl, fun p8 hp8 => ?_⟩
  have s8 : Same G7 (upd G7 p8 (.tup [.ref p6, .ref p7])) := same_new hp8
  have g8 : upd G7 p8 (.tup [.ref p6, .ref p7]) p8 = some (.tup [.ref p6, .ref p7]) := upd_same
  have t8 : TV (upd G7 p8 (.tup [.ref p6, .ref p7])) (.ref p8) (.tuple [.tuple [.int 0, .int 0], .tuple [.int 0, .int 1]]) := .tup g8 (.cons (t6.same s8) (.cons (t7.same s8) .nil))
  have t1 := t1.same s8
  have t2 := t2.same s8
  have t3 := t3.same s8
  have t5 := t5.same s8
  generalize upd G7 p8 _ = G8 at s8 t1 t2 t3 t5 t8 ⊢
  clear g8 hp8
  refine ⟨szl rfl, fun p9 hp9 => ?_⟩
  have s9 : Same G8 (upd G8 p9 (.tup [.int 0, .int 0])) := same_new hp9
  have g9 : upd G8 p9 (.tup [.int 0, .int 0]) p9 = some (.tup [.int 0, .int 0]) := upd_same
  have t9 : TV (upd G8 p9 (.tup [.int 0, .int 0])) (.ref p9) (.tuple [.int 0, .int 0]) := .tup g9 (.cons (.int 0) (.cons (.int 0) .nil))
  have t1 := t1.same s9
  have t2 := t2.same s9
  have t3 := t3.same s9
  have t5 := t5.same s9
  have t8 := t8.same s9
  generalize upd G8 p9 _ = G9 at s9 t1 t2 t3 t5 t8 t9 ⊢
  clear g9 hp9
  refine ⟨szl rfl, fun p10 hp10 => ?_⟩
  have s10 : Same G9 (upd G9 p10 (.tup [.int 0, .bl true])) := same_new hp10
  have g10 : upd G9 p10 (.tup [.int 0, .bl true]) p10 = some (.tup [.int 0, .bl true]) := upd_same
  have t10 : TV (upd G9 p10 (.tup [.int 0, .bl true])) (.ref p10) (.tuple [.int 0, .bool true]) := .tup g10 (.cons (.int 0) (.cons (.bl true) .nil))
  have t1 := t1.same s10
  have t2 := t2.same s10
  have t3 := t3.same s10
  have t5 := t5.same s10
  have t8 := t8.same s10
  have t9 := t9.same s10
  generalize upd G9 p10 _ = G10 at s10 t1 t2 t3 t5 t8 t9 t10 ⊢
  clear g10 hp10
  refine ⟨szl rfl, fun p11 hp11 => ?_⟩
  have s11 : Same G10 (upd G10 p11 (.tup [.ref p9, .ref p10])) := same_new hp11
  have g11 : upd G10 p11 (.tup [.ref p9, .ref p10]) p11 = some (.tup [.ref p9, .ref p10]) := upd_same
  have t11 : TV (upd G10 p11 (.tup [.ref p9, .ref p10])) (.ref p11) (.tuple [.tuple [.int 0, .int 0], .tuple [.int 0, .bool true]]) := .tup g11 (.cons (t9.same s11) (.cons (t10.same s11) .nil))
  have t1 := t1.same s11
  have t2 := t2.same s11
  have t3 := t3.same s11
  have t5 := t5.same s11
  have t8 := t8.same s11
  generalize upd G10 p11 _ = G11 at s11 t1 t2 t3 t5 t8 t11 ⊢
  clear g11 hp11
  refine ⟨szl rfl, fun p12 hp12 => ?_⟩
  have s12 : Same G11 (upd G11 p12 (.tup [.int 0, .int 0])) := same_new hp12
  have g12 : upd G11 p12 (.tup [.int 0, .int 0]) p12 = some (.tup [.int 0, .int 0]) := upd_same
  have t12 : TV (upd G11 p12 (.tup [.int 0, .int 0])) (.ref p12) (.tuple [.int 0, .int 0]) := .tup g12 (.cons (.int 0) (.cons (.int 0) .nil))
  have t1 := t1.same s12
  have t2 := t2.same s12
  have t3 := t3.same s12
  have t5 := t5.same s12
  have t8 := t8.same s12
  have t11 := t11.same s12
  generalize upd G11 p12 _ = G12 at s12 t1 t2 t3 t5 t8 t11 t12 ⊢
  clear g12 hp12
  refine ⟨szl rfl, fun p13 hp13 => ?_⟩
  have s13 : Same G12 (upd G12 p13 (.tup [.int 0, .int 1])) := same_new hp13
  have g13 : upd G12 p13 (.tup [.int 0, .int 1]) p13 = some (.tup [.int 0, .int 1]) := upd_same
  have t13 : TV (upd G12 p13 (.tup [.int 0, .int 1])) (.ref p13) (.tuple [.int 0, .int 1]) := .tup g13 (.cons (.int 0) (.cons (.int 1) .nil))
  have t1 := t1.same s13
  have t2 := t2.same s13
  have t3 := t3.same s13
  have t5 := t5.same s13
  have t8 := t8.same s13
  have t11 := t11.same s13
  have t12 := t12.same s13
  generalize upd G12 p13 _ = G13 at s13 t1 t2 t3 t5 t8 t11 t12 t13 ⊢
  clear g13 hp13
  refine ⟨szl rfl, fun p14 hp14 => ?_⟩
  have s14 : Same G13 (upd G13 p14 (.tup [.int 0, .int 2])) := same_new hp14
  have g14 : upd G13 p14 (.tup [.int 0, .int 2]) p14 = some (.tup [.int 0, .int 2]) := upd_same
  have t14 : TV (upd G13 p14 (.tup [.int 0, .int 2])) (.ref p14) (.tuple [.int 0, .int 2]) := .tup g14 (.cons (.int 0) (.cons (.int 2) .nil))
  have t1 := t1.same s14
  have t2 := t2.same s14
  have t3 := t3.same s14
  have t5 := t5.same s14
  have t8 := t8.same s14
  have t11 := t11.same s14
  have t12 := t12.same s14
  have t13 := t13.same s14
  generalize upd G13 p14 _ = G14 at s14 t1 t2 t3 t5 t8 t11 t12 t13 t14 ⊢
  clear g14 hp14
  refine ⟨szl rfl, fun p15 hp15 => ?_⟩
  have s15 : Same G14 (upd G14 p15 (.tup [.ref p12, .ref p13, .ref p14])) := same_new hp15
  have g15 : upd G14 p15 (.tup [.ref p12, .ref p13, .ref p14]) p15 = some (.tup [.ref p12, .ref p13, .ref p14]) := upd_same
  have t15 : TV (upd G14 p15 (.tup [.ref p12, .ref p13, .ref p14])) (.ref p15) (.tuple [.tuple [.int 0, .int 0], .tuple [.int 0, .int 1], .tuple [.int 0, .int 2]]) := .tup g15 (.cons (t12.same s15) (.cons (t13.same s15) (.cons (t14.same s15) .nil)))
  have t1 := t1.same s15
  have t2 := t2.same s15
  have t3 := t3.same s15
  have t5 := t5.same s15
  have t8 := t8.same s15
  have t11 := t11.same s15
  generalize upd G14 p15 _ = G15 at s15 t1 t2 t3 t5 t8 t11 t15 ⊢
  clear g15 hp15
  refine ⟨szl rfl, fun p16 hp16 => ?_⟩
  have s16 : Same G15 (upd G15 p16 (.tup [.int 0, .int 0])) := same_new hp16
  have g16 : upd G15 p16 (.tup [.int 0, .int 0]) p16 = some (.tup [.int 0, .int 0]) := upd_same
  have t16 : TV (upd G15 p16 (.tup [.int 0, .int 0])) (.ref p16) (.tuple [.int 0, .int 0]) := .tup g16 (.cons (.int 0) (.cons (.int 0) .nil))
  have t1 := t1.same s16
  have t2 := t2.same s16
  have t3 := t3.same s16
  have t5 := t5.same s16
  have t8 := t8.same s16
  have t11 := t11.same s16
  have t15 := t15.same s16
  generalize upd G15 p16 _ = G16 at s16 t1 t2 t3 t5 t8 t11 t15 t16 ⊢
  clear g16 hp16
  refine ⟨szl rfl, fun p17 hp17 => ?_⟩
  have s17 : Same G16 (upd G16 p17 (.tup [.int 0, .int 1])) := same_new hp17
  have g17 : upd G16 p17 (.tup [.int 0, .int 1]) p17 = some (.tup [.int 0, .int 1]) := upd_same
  have t17 : TV (upd G16 p17 (.tup [.int 0, .int 1])) (.ref p17) (.tuple [.int 0, .int 1]) := .tup g17 (.cons (.int 0) (.cons (.int 1) .nil))
  have t1 := t1.same s17
  have t2 := t2.same s17
  have t3 := t3.same s17
  have t5 := t5.same s17
  have t8 := t8.same s17
  have t11 := t11.same s17
  have t15 := t15.same s17
  have t16 := t16.same s17
  generalize upd G16 p17 _ = G17 at s17 t1 t2 t3 t5 t8 t11 t15 t16 t17 ⊢
  clear g17 hp17
  refine ⟨szl rfl, fun p18 hp18 => ?_⟩
  have s18 : Same G17 (upd G17 p18 (.tup [.ref p16, .ref p17])) := same_new hp18
  have g18 : upd G17 p18 (.tup [.ref p16, .ref p17]) p18 = some (.tup [.ref p16, .ref p17]) := upd_same
  have t18 : TV (upd G17 p18 (.tup [.ref p16, .ref p17])) (.ref p18) (.tuple [.tuple [.int 0, .int 0], .tuple [.int 0, .int 1]]) := .tup g18 (.cons (t16.same s18) (.cons (t17.same s18) .nil))
  have t1 := t1.same s18
  have t2 := t2.same s18
  have t3 := t3.same s18
  have t5 := t5.same s18
  have t8 := t8.same s18
  have t11 := t11.same s18
  have t15 := t15.same s18
  generalize upd G17 p18 _ = G18 at s18 t1 t2 t3 t5 t8 t11 t15 t18 ⊢
  clear g18 hp18
  refine ⟨szl rfl, fun p19 hp19 => ?_⟩
  have s19 : Same G18 (upd G18 p19 (.tup [])) := same_new hp19
  have g19 : upd G18 p19 (.tup []) p19 = some (.tup []) := upd_same
  have t19 : TV (upd G18 p19 (.tup [])) (.ref p19) (.tuple []) := .tup g19 .nil
  have t1 := t1.same s19
  have t2 := t2.same s19
  have t3 := t3.same s19
  have t5 := t5.same s19
  have t8 := t8.same s19
  have t11 := t11.same s19
  have t15 := t15.same s19
  have t18 := t18.same s19
  generalize upd G18 p19 _ = G19 at s19 t1 t2 t3 t5 t8 t11 t15 t18 t19 ⊢
  clear g19 hp19
  refine ⟨szl rfl, fun p20 hp20 => ?_⟩
  have s20 : Same G19 (upd G19 p20 (.tup [.ref p18, .ref p19])) := same_new hp20
  have g20 : upd G19 p20 (.tup [.ref p18, .ref p19]) p20 = some (.tup [.ref p18, .ref p19]) := upd_same
  have t20 : TV (upd G19 p20 (.tup [.ref p18, .ref p19])) (.ref p20) (.tuple [.tuple [.tuple [.int 0, .int 0], .tuple [.int 0, .int 1]], .tuple []]) := .tup g20 (.cons (t18.same s20) (.cons (t19.same s20) .nil))
  have t1 := t1.same s20
  have t2 := t2.same s20
  have t3 := t3.same s20
  have t5 := t5.same s20
  have t8 := t8.same s20
  have t11 := t11.same s20
  have t15 := t15.same s20
  generalize upd G19 p20 _ = G20 at s20 t1 t2 t3 t5 t8 t11 t15 t20 ⊢
  clear g20 hp20
  refine ⟨szl rfl, fun p21 hp21 => ?_⟩
  have s21 : Same G20 (upd G20 p21 (.tup [.int 0, .int 0])) := same_new hp21
  have g21 : upd G20 p21 (.tup [.int 0, .int 0]) p21 = some (.tup [.int 0, .int 0]) := upd_same
  have t21 : TV (upd G20 p21 (.tup [.int 0, .int 0])) (.ref p21) (.tuple [.int 0, .int 0]) := .tup g21 (.cons (.int 0) (.cons (.int 0) .nil))
  have t1 := t1.same s21
  have t2 := t2.same s21
  have t3 := t3.same s21
  have t5 := t5.same s21
  have t8 := t8.same s21
  have t11 := t11.same s21
  have t15 := t15.same s21
  have t20 := t20.same s21
  generalize upd G20 p21 _ = G21 at s21 t1 t2 t3 t5 t8 t11 t15 t20 t21 ⊢
  clear g21 hp21
  refine ⟨szl rfl, fun p22 hp22 => ?_⟩
  have s22 : Same G21 (upd G21 p22 (.tup [.int 0, .int 1])) := same_new hp22
  have g22 : upd G21 p22 (.tup [.int 0, .int 1]) p22 = some (.tup [.int 0, .int 1]) := upd_same
  have t22 : TV (upd G21 p22 (.tup [.int 0, .int 1])) (.ref p22) (.tuple [.int 0, .int 1]) := .tup g22 (.cons (.int 0) (.cons (.int 1) .nil))
  have t1 := t1.same s22
  have t2 := t2.same s22
  have t3 := t3.same s22
  have t5 := t5.same s22
  have t8 := t8.same s22
  have t11 := t11.same s22
  have t15 := t15.same s22
  have t20 := t20.same s22
  have t21 := t21.same s22
  generalize upd G21 p22 _ = G22 at s22 t1 t2 t3 t5 t8 t11 t15 t20 t21 t22 ⊢
  clear g22 hp22
  refine ⟨szl rfl, fun p23 hp23 => ?_⟩
  have s23 : Same G22 (upd G22 p23 (.tup [.ref p21, .ref p22])) := same_new hp23
  have g23 : upd G22 p23 (.tup [.ref p21, .ref p22]) p23 = some (.tup [.ref p21, .ref p22]) := upd_same
  have t23 : TV (upd G22 p23 (.tup [.ref p21, .ref p22])) (.ref p23) (.tuple [.tuple [.int 0, .int 0], .tuple [.int 0, .int 1]]) := .tup g23 (.cons (t21.same s23) (.cons (t22.same s23) .nil))
  have t1 := t1.same s23
  have t2 := t2.same s23
  have t3 := t3.same s23
  have t5 := t5.same s23
  have t8 := t8.same s23
  have t11 := t11.same s23
  have t15 := t15.same s23
  have t20 := t20.same s23
  generalize upd G22 p23 _ = G23 at s23 t1 t2 t3 t5 t8 t11 t15 t20 t23 ⊢
  clear g23 hp23
  refine ⟨szl rfl, fun p24 hp24 => ?_⟩
  have s24 : Same G23 (upd G23 p24 (.tup [.ref p23, .non])) := same_new hp24
  have g24 : upd G23 p24 (.tup [.ref p23, .non]) p24 = some (.tup [.ref p23, .non]) := upd_same
  have t24 : TV (upd G23 p24 (.tup [.ref p23, .non])) (.ref p24) (.tuple [.tuple [.tuple [.int 0, .int 0], .tuple [.int 0, .int 1]], .none]) := .tup g24 (.cons (t23.same s24) (.cons .non .nil))
  have t1 := t1.same s24
  have t2 := t2.same s24
  have t3 := t3.same s24
  have t5 := t5.same s24
  have t8 := t8.same s24
  have t11 := t11.same s24
  have t15 := t15.same s24
  have t20 := t20.same s24
  generalize upd G23 p24 _ = G24 at s24 t1 t2 t3 t5 t8 t11 t15 t20 t24 ⊢
  clear g24 hp24
  have sG : Same H G24 := (((((((((((((((((((((((s1.trans s2).trans s3).trans s4).trans s5).trans s6).trans s7).trans s8).trans s9).trans s10).trans s11).trans s12).trans s13).trans s14).trans s15).trans s16).trans s17).trans s18).trans s19).trans s20).trans s21).trans s22).trans s23).trans s24)
  have hts : TVs G24 [.non, .int 5, .bl true, .str "x", .ref p1, .ref p2, .ref p3, .ref p5, .ref p8, .ref p11, .ref p15, .ref p20, .ref p24] oddDs := (.cons .non (.cons (.int 5) (.cons (.bl true) (.cons (.str _) (.cons t1 (.cons t2 (.cons t3 (.cons t5 (.cons t8 (.cons t11 (.cons t15 (.cons t20 (.cons t24 .nil)))))))))))))
  refine ⟨szl rfl, fun po hpo => ?_⟩
  dsimp only [gName]
  have bG := hb.same sG
  have npo := bG.ne hpo
  have sL : Same H (upd G24 po (.lst [.non, .int 5, .bl true, .str "x", .ref p1, .ref p2, .ref p3, .ref p5, .ref p8, .ref p11, .ref p15, .ref p20, .ref p24])) := sG.trans (same_new hpo)
  have hL : upd G24 po (.lst [.non, .int 5, .bl true, .str "x", .ref p1, .ref p2, .ref p3, .ref p5, .ref p8, .ref p11, .ref p15, .ref p20, .ref p24]) po = some (.lst [.non, .int 5, .bl true, .str "x", .ref p1, .ref p2, .ref p3, .ref p5, .ref p8, .ref p11, .ref p15, .ref p20, .ref p24]) := upd_same
  have htsL : TVs (upd G24 po (.lst [.non, .int 5, .bl true, .str "x", .ref p1, .ref p2, .ref p3, .ref p5, .ref p8, .ref p11, .ref p15, .ref p20, .ref p24])) [.non, .int 5, .bl true, .str "x", .ref p1, .ref p2, .ref p3, .ref p5, .ref p8, .ref p11, .ref p15, .ref p20, .ref p24] oddDs := hts.mono (.of (same_new hpo)) _ _
  have bL := hb.same sL
  have hvL := TV.same hv sL
  generalize upd G24 po _ = HL at sL hL htsL bL hvL ⊢
  have sz13 : ([.non, .int 5, .bl true, .str "x", .ref p1, .ref p2, .ref p3, .ref p5, .ref p8, .ref p11, .ref p15, .ref p20, .ref p24] : List V).length = 13 := rfl
  have ne13 : ([.non, .int 5, .bl true, .str "x", .ref p1, .ref p2, .ref p3, .ref p5, .ref p8, .ref p11, .ref p15, .ref p20, .ref p24] : List V) ≠ [] := fun z => nomatch z
  generalize hxs : ([.non, .int 5, .bl true, .str "x", .ref p1, .ref p2, .ref p3, .ref p5, .ref p8, .ref p11, .ref p15, .ref p20, .ref p24] : List V) = oxs at hL htsL sz13 ne13
  obtain ⟨cs, hcs⟩ := bag_lst bL
  refine tt_cut (t := tOr _ _) (fun b H' => Ext c HL H' ∧ Bag c l (m + 1) H' ∧ (b = false → (∃ a xs ds, v = .ref a ∧ d = .tuple ds ∧ HL a = some (.tup xs) ∧ TVs HL xs ds ∧ ds ≠ []) ∧ e ≠ 0)) (fun Q' kq => ?_) (fun b H1 hb1 => ?_)
  · have done : Q' true HL := kq _ _ ⟨Ext.of (Same.refl _), bL.mono (by omega), fun z => nomatch z⟩
    rcases tv_tuple (K := K) hvL with ⟨a, xs, ds, rfl, rfl, ha, hx⟩ | ⟨t, ty, kt⟩
    rotate_left
    · refine ⟨_, rfl, v, .ty "tuple", t, .type "tuple", false, rfl, .ty _, ty, kt, _, rfl, iteT done⟩
    refine ⟨_, rfl, .ref a, .ty "tuple", .type "tuple", .type "tuple", true, rfl, .ty _, ty_sqt (.of ha), kit_ty (by decide +kernel), _, rfl, iteF ?_⟩
    refine ⟨_, rfl, szl rfl, fun q hq => ?_⟩
    have sq : Same HL (upd HL q (.tup [])) := same_new hq
    have dvq : DV K c HL (.ref a) (.tuple ds) := LV.dv trivial hcs _ _ hvL
    have sh : SeqAt.shaped (.tuple ds) = true := by
      unfold SeqAt.shaped
      rw [can, Bool.true_and, decide_eq_true_eq]
      exact Nat.le_trans fine.dp (by omega)
    refine ⟨.tuple ds, .tuple [], dp_same sq _ _ (dvq.dp _ _ can), .tup (.of upd_same) .nil, sh, by decide +kernel, _, rfl, ?_⟩
    have doneq : Q' true (upd HL q (.tup [])) := kq _ _ ⟨.of sq, (bL.same sq).mono (by omega), fun z => nomatch z⟩
    cases ds with
    | nil => exact iteT doneq
    | cons d0 ds =>
    refine iteF ?_
    refine ⟨_, rfl, rfl, _, rfl, ?_⟩
    by_cases ez : e = 0
    · rw [decide_eq_true (by rw [ez])]
      exact iteT doneq
    rw [decide_eq_false (fun z => ez (V.int.inj z))]
    refine iteF ?_
    refine ⟨_, rfl, c, l, m, _, rfl, bL.same sq, by omega, by decide, by decide, fun r H2 r1 r2 b2 x2 => ⟨rfl, _, rfl, ?_⟩⟩
    exact kq _ _ ⟨(Ext.of sq).trans x2, b2, fun _ => ⟨⟨a, xs, _, rfl, rfl, ha, hx, fun z => nomatch z⟩, ez⟩⟩
  obtain ⟨x1, b1, h1⟩ := hb1
  have xH : Ext c H H1 := (Ext.of sL).trans x1
  cases b with
  | true =>
    refine iteT ?_
    refine ⟨_, rfl, _, rfl, c, l, po, m + 1, _, rfl, b1, by omega, npo, .of (x1 _ _ npo hL), ne13, by omega, fun i v' H2 hi b2 x2 => ?_⟩
    obtain ⟨d', hd', tv'⟩ := htsL.at hi
    have xx := x1.trans x2
    exact k v' d' H2 (tv'.mono (.ext xx hcs trivial) _ _) ((odd_fine d' (List.mem_of_getElem? hd')).mono (by omega) (by omega)) (b2.mono (by omega)) (xH.trans x2)
  | false =>
  obtain ⟨⟨a, xs, ds, rfl, rfl, ha, hx, nds⟩, ez⟩ := h1 rfl
  refine iteF ?_
  dsimp only [tNext]
  have hl := hx.len
  obtain ⟨j0, rfl, fs⟩ := tup_fine fine
  obtain ⟨n, rfl⟩ : ∃ q, n = q + 1 := ⟨n - 1, by omega⟩
  have few : ds.length ≤ 1000 := by
    have hbk : ∀ ds : List PyData, ds.length ≤ PyData.bulkAll ds := fun ds => by
      induction ds with
      | nil => exact Nat.zero_le _
      | cons d ds ih => rw [PyData.bulkAll, List.length_cons]; omega
    exact Nat.le_trans (hbk ds) (Nat.le_trans fs.bk hnn)
  have ld : 0 < ds.length := List.length_pos_iff.mpr nds
  have nac : a ≠ c := fun z => by rw [z, hcs] at ha; cases ha
  have ha1 := x1 _ _ nac ha
  refine ⟨_, rfl, _, rfl, a, xs, rfl, .inr (.of ha1), c, l, m + 1, _, rfl, b1, by omega, by omega, by omega, fun r H2 r1 r2 b2 x2 => ?_⟩
  refine ⟨_, rfl, c, l, m + 1 + 1, _, rfl, b2, by omega, by decide, by decide, fun wy H3 w1 w2 b3 x3 => ?_⟩
  refine ⟨_, _, rfl, ?_⟩
  dsimp only
  obtain ⟨i, rfl⟩ := Int.eq_ofNat_of_zero_le r1
  have hi : i < ds.length := by omega
  have xL := (x1.trans x2).trans x3
  have ha3 := xL _ _ nac ha
  have hx3 : TVs H3 xs ds := hx.mono (.ext xL hcs trivial) _ _
  have x3H := (xH.trans x2).trans x3
  obtain ⟨dj, hdj⟩ : ∃ dj, ds[i]? = some dj := ⟨_, List.getElem?_eq_getElem hi⟩
  have spl := at_split hdj
  have fs' := fs
  rw [spl] at fs'
  obtain ⟨f1, f2, f3⟩ := fs_split fs'
  obtain ⟨f4, f5, f6⟩ := fs_one f2
  have lt : (ds.take i).length ≤ 1000 := Nat.le_trans (List.length_take_le' ..) few
  have lf : (ds.drop (i + 1)).length ≤ 1000 := by rw [List.length_drop]; omega
  clear hx ha x1 x2 b1 b2 hb hts sG
  refine ⟨_, rfl, rfl, _, rfl, ?_⟩
  refine iteB (fun ew => ?_) (fun ew => ?_)
  · -- an item less
    refine ⟨_, rfl, _, rfl, _, rfl, ?_⟩
    refine slT (k := i) rfl ha3 hx3 fun r1' H4 s4 ⟨z1, g1, t1⟩ => ?_
    refine ⟨_, rfl, _, rfl, _, _, rfl, rfl, _, rfl, ?_⟩
    dsimp only [tNoPart]
    refine slF (k := i + 1) (i := (i : Int) + 1) (by omega) (s4 _ _ ha3) (hx3.mono (.of s4) _ _) fun r2' H5 s5 ⟨z2, g2, t2⟩ => ?_
    have l1 := t1.len
    have l2 := t2.len
    refine catT (s5 _ _ g1) (t1.mono (.of s5) _ _) g2 t2 (by omega) fun r H6 s6 ⟨z3, g3, t3⟩ => ?_
    have s := (s4.trans s5).trans s6
    exact k _ _ _ (.tup g3 t3) ((Fine.tuple (fs_app f1 f5)).mono (by omega) (by omega)) ((b3.same s).mono (by omega)) (x3H.trans (.of s))
  refine ⟨_, rfl, rfl, _, rfl, ?_⟩
  refine iteB (fun ew2 => ?_) (fun ew2 => ?_)
  · -- an item twice
    refine ⟨_, rfl, _, rfl, _, _, rfl, rfl, _, rfl, ?_⟩
    refine slT (k := i + 1) (i := (i : Int) + 1) (by omega) ha3 hx3 fun r1' H4 s4 ⟨z1, g1, t1⟩ => ?_
    refine ⟨_, rfl, _, rfl, _, rfl, ?_⟩
    dsimp only [tNoPart]
    refine slF (k := i) rfl (s4 _ _ ha3) (hx3.mono (.of s4) _ _) fun r2' H5 s5 ⟨z2, g2, t2⟩ => ?_
    have l1 := t1.len
    have l2 := t2.len
    have q1 : (ds.take (i + 1)).length ≤ 1000 := Nat.le_trans (List.length_take_le' ..) few
    have q2 : (ds.drop i).length ≤ 1000 := by rw [List.length_drop]; omega
    refine catT (s5 _ _ g1) (t1.mono (.of s5) _ _) g2 t2 (by omega) fun r H6 s6 ⟨z3, g3, t3⟩ => ?_
    have s := (s4.trans s5).trans s6
    have fa := fs
    rw [← List.take_append_drop (i + 1) ds] at fa
    have fb := fs
    rw [← List.take_append_drop i ds] at fb
    obtain ⟨f7, _, f8⟩ := fs_split fa
    obtain ⟨_, f9, f10⟩ := fs_split fb
    exact k _ _ _ (.tup g3 t3) ((Fine.tuple (fs_app f7 f9)).mono (by omega) (by omega)) ((b3.same s).mono (by omega)) (x3H.trans (.of s))
  -- an item bent
  refine ⟨_, rfl, _, rfl, _, rfl, ?_⟩
  refine slT (k := i) rfl ha3 hx3 fun r1' H4 s4 ⟨z1, g1, t1⟩ => ?_
  have b4 := b3.same s4
  have hx4 : TVs H4 xs ds := hx3.mono (.of s4) _ _
  obtain ⟨xi, hxi⟩ : ∃ xi, xs[i]? = some xi := ⟨_, List.getElem?_eq_getElem (by omega)⟩
  obtain ⟨dj', hdj', txi⟩ := hx4.at hxi
  rw [hdj] at hdj'; cases hdj'
  have canj : dj.canLay0 = true := by
    have hc : PyData.canLayAll0 ds = true := can
    rw [spl, can_app, Bool.and_eq_true] at hc
    have := hc.2
    rw [PyData.canLayAll0, Bool.and_eq_true] at this
    exact this.1
  obtain ⟨cs4, hcs4⟩ := bag_lst b4
  refine ⟨_, rfl, _, rfl, _, rfl, a, xs, (i : Int), xi, rfl, rfl, .of (s4 _ _ ha3), atI_nat hxi, ?_⟩
  refine ⟨_, rfl, _, _, rfl, rfl, c, l, m + 1 + 1 + 1, xi, dj, j0, dj.bulk, e - 1, rfl, by omega, by omega, b4, txi, canj, f4, by omega, by omega, by omega, by omega, fun v' d' H5 tv' fd' b5 x5 => ?_⟩
  refine ⟨szl rfl, fun pq hpq => ?_⟩
  have sp : Same H5 (upd H5 pq (.tup [v'])) := same_new hpq
  have gp : upd H5 pq (.tup [v']) pq = some (.tup [v']) := upd_same
  have tp : TVs (upd H5 pq (.tup [v'])) [v'] [d'] := .cons (tv'.same sp) .nil
  have b6 := b5.same sp
  have x6 := x5.trans (.of sp)
  clear hpq b5 x5 tv'
  generalize upd H5 pq _ = H6 at sp gp tp b6 x6 ⊢
  have k6 : KeepN (fun _ => True) H4 H6 := .ext x6 hcs4 trivial
  have g1' := k6 _ _ g1 (.inl ⟨_, rfl⟩)
  have t1' := LVs.mono k6 _ _ t1
  have l1 := t1.len
  refine catT g1' t1' gp tp (by show z1.length + 1 ≤ 10000; omega) fun r2 H7 s7 ⟨z2, g2, t2⟩ => ?_
  refine ⟨_, rfl, _, rfl, _, _, rfl, rfl, _, rfl, ?_⟩
  have k67 : KeepN (fun _ => True) H4 H7 := k6.trans (.of s7)
  dsimp only [tNoPart]
  refine slF (k := i + 1) (i := (i : Int) + 1) (by omega) (k67 _ _ (s4 _ _ ha3) (.inl ⟨_, rfl⟩)) (LVs.mono k67 _ _ hx4) fun r3 H8 s8 ⟨z3, g3, t3⟩ => ?_
  have l2 := t2.len
  have l3 := t3.len
  rw [List.length_append] at l2
  refine catT (s8 _ _ g2) (t2.mono (.of s8) _ _) g3 t3 (by simp at l2; omega) fun r4 H9 s9 ⟨z4, g4, t4⟩ => ?_
  have s := (s7.trans s8).trans s9
  have f1' : FineS (j0 + 4) (PyData.bulkAll (ds.take i)) (ds.take i) := f1.mono (by omega) (Nat.le_refl _)
  have f5' : FineS (j0 + 4) (PyData.bulkAll (ds.drop (i + 1))) (ds.drop (i + 1)) := f5.mono (by omega) (Nat.le_refl _)
  refine k _ _ _ (.tup g4 t4) ((Fine.tuple (fs_app (fs_app f1' (fine1 fd')) f5')).mono (by omega) (by omega)) ((b6.same s).mono (by omega)) ((x3H.trans (.of s4)).trans (x6.trans (.of s)))
theorem O_be_at (T : Tx K mg) : ∀ n, FnOk P w K mg base CX0 (n + 4) T.a__law_bent T.d__law_bent ["satchel", "value", "deep"] (spBe n)
  | 0 => be_step T 0 ⟨fun _ _ _ _ h => h.elim, fun _ _ _ _ _ _ _ _ _ _ _ _ _ h => h.elim⟩
  | n + 1 => be_step T (n + 1) (O_be_at T n)
theorem O__law_bent (T : Tx K mg) : FnOk P w K mg base CX0 14 T.a__law_bent T.d__law_bent ["satchel", "value", "deep"] (spBe 10) := O_be_at T 10
end
end K39

set_option Elab.async false
set_option linter.all false
set_option maxRecDepth 100000
set_option maxHeartbeats 4000000
/-! Layer G48: list == [], whatever the list holds. -/
namespace Gs
open PySem PySem.Spec PyProof.Rows L2
def rEqE (K : PySem.W.Frag) : R2 := fun x y H Q => ∃ a b xs, x = .ref a ∧ y = .ref b ∧ SqL K H a xs ∧ SqL K H b [] ∧ Q (.bl xs.isEmpty) H
theorem op_eqE {X : Cx} (hu : X.A.units < cLine) : OpR X (compareOp .Eq) (rEqE X.K) := by
  intro pins s σ H x y v u Q I rx ry h
  obtain ⟨a, b, xs, rfl, rfl, ha, hb, q⟩ := h
  cases (show v = Value.ref a from rx)
  cases (show u = Value.ref b from ry)
  obtain ⟨its, r, pl, hz⟩ := I.list ha
  obtain ⟨its2, r2, pl2, hz2⟩ := I.list hb
  have l1 := r.length
  have l2 := r2.length
  have fin : ∀ k : Bool, k = xs.isEmpty → EP X pins σ Q (.bool k) s := fun k e => ⟨.bl k, H, I, rfl, by rw [e]; exact q⟩
  change wpAny _ X.A (richCompare .Eq (.ref a) (.ref b)) _ _ s
  cases xs with
  | nil =>
    refine SeqAt.RcAt.lists (e := fun _ => true) pl.isList pl2.isList (by rw [List.size_toArray, List.size_toArray]; omega) hu (fun j h1 _ => ?_) X.prog X.w X.xe _ ?_
    · rw [List.size_toArray] at h1
      have : its.length = 0 := l1.symm
      omega
    · have : its.length = 0 := l1.symm
      exact fin _ (by rw [List.size_toArray, this]; rfl)
  | cons v vs =>
    refine SeqAt.RcAt.lists_lengths pl.isList pl2.isList (by rw [List.size_toArray, List.size_toArray]; simp at l1 l2; simp; omega) hu X.prog X.w X.xe _ (fin _ rfl)
end Gs
namespace Gs
open PySem PySem.Spec PyProof.Rows L2
section
variable {K : PySem.W.Frag} {J : It} {G : Hp → Prop} {xs : List V}
/-- [x for x in data if test] -/
theorem lc_filt (wk : Walk J xs.length G (YAt xs)) {g : TG} {tt : TT} {te : TE} {vs : List Nat} {σ : L2.St} {H1 : Hp} {D c : Addr} {Qd : Hp → Prop} {ds : List PyData} (f : PyData → Bool) (hv : DVs K c H1 xs ds) (hD : H1 D = none) (few : xs.length ≤ 1000) (hG : ∀ H', Same H1 H' → G H')
    (hs : ∀ (i : Nat) x d H' (Kc : VK) (Ke : Hp → Prop), xs[i]? = some x → ds[i]? = some d → DV K c H' x d → Same H1 H' → (f d = true → ∀ H4, Same H' H4 → Kc x H4) → (f d = false → ∀ H4, Same H' H4 → Ke H4) → g x (wipe σ vs) H' fun σ2 H2 => wipe σ2 vs = wipe σ vs ∧ tt σ2 H2 fun b H3 => if b = true then te σ2 H3 Kc else Ke H3)
    (hd : ∀ H' ys, Same H1 H' → H' D = some (.lst ys) → DVs K c H1 ys (ds.filter f) → Qd H') :
    ∃ W : Nat → Nat → Hp → Prop, (∃ m, W 0 m (upd H1 D (.lst []))) ∧ ∀ i m H, W i m H →
      (J.stop i H ∧ Qd H) ∨ (J.go i H ∧ ∃ Nx : Hp → Prop, (∀ H', Nx H' → ∃ m', m' < m ∧ W (i + 1) m' H') ∧ ∀ x H', J.yld i H x H' → g x (wipe σ vs) H' fun σ2 H2 => wipe σ2 vs = wipe σ vs ∧ tt σ2 H2 fun b H3 =>
        if b = true then te σ2 H3 fun y H4 => ∃ acc, H4 D = some (.lst acc) ∧ acc.length < sizeLine ∧ Nx (upd H4 D (.lst (acc ++ [y]))) else Nx H3) := by
  have snoc : ∀ (ys : List V) (es : List PyData) (y : V) (e : PyData), DVs K c H1 ys es → DV K c H1 y e → DVs K c H1 (ys ++ [y]) (es ++ [e]) := fun ys es y e h k => by
    induction es generalizing ys with
    | nil => cases h; exact .cons k .nil
    | cons d es ih =>
      cases h with
      | cons a b => exact .cons a (ih _ b)
  refine lc_it wk (fun j H' => Same H1 H' ∧ ∃ ys, H' D = some (.lst ys) ∧ ys.length ≤ j ∧ DVs K c H1 ys ((ds.take j).filter f)) ⟨same_new hD, [], upd_same, Nat.le_refl _, by rw [List.take_zero]; exact .nil⟩ (fun j H' _ h => hG H' h.1) ?_ ?_
  · rintro j x H2 H2' hj ⟨s, ys, hy, hl, hd2⟩ ⟨rfl, hx⟩
    obtain ⟨d, hdj, dv⟩ := hv.at hx
    refine hs j x d H2' _ _ hx hdj (dv.up (.of s)) s (fun e H4 s4 => ?_) (fun e H4 s4 => ?_)
    · refine ⟨ys, s4 _ _ hy, Nat.lt_of_lt_of_le (show ys.length < 1001 by omega) (by decide), same_own (s.trans s4) hD, ys ++ [x], upd_same, by rw [List.length_append]; simp; omega, ?_⟩
      rw [List.take_add_one, hdj, List.filter_append]
      simp only [Option.toList, List.filter_cons, e, if_true, List.filter_nil]
      exact snoc _ _ _ _ hd2 dv
    · refine ⟨s.trans s4, ys, s4 _ _ hy, by omega, ?_⟩
      rw [List.take_add_one, hdj, List.filter_append]
      simp only [Option.toList, List.filter_cons, e, List.filter_nil, List.append_nil]
      simpa using hd2
  · rintro H2 ⟨s, ys, hy, _, hd2⟩
    rw [hv.len, List.take_length] at hd2
    exact hd H2 ys s hy hd2
end
end Gs
namespace Gs
open PySem PySem.Spec PyProof.Rows L2
def rLenA (K : PySem.W.Frag) : List V → Hp → VK → Prop := fun xs H Q => ∃ p ys, xs = [.ref p] ∧ (SqL K H p ys ∨ SqT K H p ys) ∧ Q (.int ys.length) H
end Gs

set_option Elab.async false
set_option linter.all false
set_option maxRecDepth 100000
set_option maxHeartbeats 4000000
namespace K39
open PySem PySem.Spec PyProof.Rows L2 Gs
section
variable {P : Program} {w : World} {K : PySem.W.Frag} {mg : Str → Option Value} {base : Heap}
theorem O__law_is_integer (T : Tx K mg) : FnOk P w K mg base CX0 1 T.a__law_is_integer T.d__law_is_integer ["value"] (spB K isInt) := by
  refine T.F__law_is_integer.ok sc__law_is_integer spB_len (fun cdv A outer s H vs Q E hr h => ?_)
  obtain ⟨c, v, d, rfl, hd, k⟩ := h
  refine ⟨_, (pss_one (ps_ret (pe_and (pe_callB call_isi (by rfl) T.z_isinstance (by decide +kernel) (pa_cons (pv 0) (pa_cons (pe_bltn (v := .ty "int") (u := .type "int") (by rfl) T.z_int (by decide +kernel) rfl) pa_nil))) (pe_one (pe_not (pe_callB call_isi (by rfl) T.z_isinstance (by decide +kernel) (pa_cons (pv 0) (pa_cons (pe_bltn (v := .ty "bool") (u := .type "bool") (by rfl) T.z_bool (by decide +kernel) rfl) pa_nil)))))))), ?_⟩
  refine ⟨_, rfl, _, .ty "int", .type (tyN _), .type "int", _, rfl, .ty _, ty_of hd, kit_ty (kI _), _, rfl, ?_⟩
  have k := k H (Same.refl H)
  cases d with
  | int i => exact iteT ⟨_, rfl, _, .ty "bool", .type (tyN _), .type "bool", _, rfl, .ty _, ty_of hd, kit_ty (kB _), _, rfl, k⟩
  | bool i => exact iteT ⟨_, rfl, _, .ty "bool", .type (tyN _), .type "bool", _, rfl, .ty _, ty_of hd, kit_ty (kB _), _, rfl, k⟩
  | _ => exact iteF k
/-- isinstance(x, (list, tuple)) -/
theorem isiT {H : Hp} {p c : Addr} {v : V} {d : PyData} {Q : VK} (hP : H p = some (.tup [.ty "list", .ty "tuple"])) (h : DV K c H v d) (q : Q (.bl (isSeq d)) H) : rIsiT K [v, .ref p] H Q := by
  rcases seqCase h with ⟨_, e, lf⟩ | ⟨a, xs, ds, rfl, _, hs, _, _, e⟩
  · obtain ⟨t, ty, kt⟩ := lf.not
    rw [e] at q
    exact ⟨_, _, [.ty "list", .ty "tuple"], t, [.type "list", .type "tuple"], false, rfl, hP, .cons (.ty _) (.cons (.ty _) .nil), ty, kt, q⟩
  · obtain ⟨d0, hsq, ty⟩ := ty_sqa hs
    rw [e] at q
    refine ⟨.ref a, _, [.ty "list", .ty "tuple"], .type (tyN d0), [.type "list", .type "tuple"], isSeq d0, rfl, hP, .cons (.ty _) (.cons (.ty _) .nil), ty, kit_seq _, ?_⟩
    rw [hsq]; exact q
def isTwo : PyData → Bool := twoD fun _ _ => true
theorem not_two {f : PyData → PyData → Bool} {d : PyData} (h : isTwo d = false) : twoD f d = false := by
  unfold isTwo twoD at h
  unfold twoD
  split at h
  · cases h
  · rfl
/-- a pair, read -/
theorem two_rd {c : Addr} {H : Hp} {v : V} {d : PyData} (h : DV K c H v d) (b : isTwo d = true) : ∃ a x y dx dy, v = .ref a ∧ a ≠ c ∧ SqA K H a [x, y] ∧ itemsD d = some [dx, dy] ∧ DV K c H x dx ∧ DV K c H y dy := by
  rcases seqCase h with ⟨e, q, _⟩ | ⟨a, xs, ds, rfl, na, hs, hv, e, q⟩
  · rw [show isTwo d = false from twoD_no e] at b; cases b
  by_cases n : ds.length = 2
  · obtain ⟨x, y, dx, dy, rfl, rfl, hx, hy⟩ := two_len hv (decide_eq_true (by rw [hv.len, n]; rfl))
    exact ⟨a, x, y, dx, dy, rfl, na, hs, e, hx, hy⟩
  · rw [show isTwo d = false from twoD_ne e n] at b; cases b
theorem move_filt {d da db : PyData} (e : itemsD d = some [da, db]) : moveD d = (decide (([da, db].filter isTwo).length = 2) && (([da, db].filter isTwo).filter fun x => !squareD x).isEmpty) := by
  rw [show moveD d = (squareD da && squareD db) from twoD_yes e]
  cases ha : isTwo da with
  | false =>
    rw [show squareD da = false from not_two ha]
    cases hb : isTwo db <;> simp [List.filter, ha, hb]
  | true =>
    cases hb : isTwo db with
    | false =>
      rw [show squareD db = false from not_two hb]
      simp [List.filter, ha, hb]
    | true =>
      cases sa : squareD da <;> cases sb : squareD db <;> simp [List.filter, ha, hb, sa, sb]
theorem O__law_is_move (T : Tx K mg) : FnOk P w K mg base CX0 3 T.a__law_is_move T.d__law_is_move ["value"] (spBS K moveD) := by
  refine T.F__law_is_move.ok sc__law_is_move spBS_len (fun cdv A outer s H vs Q E hr h => ?_)
  obtain ⟨c, v, d, rfl, hd, sl, k⟩ := h
  refine ⟨_, (pss_cons (ps_if (PW.pt (pw_or (pt_not (pt_val (pe_callB call_isiT (by rfl) T.z_isinstance (by decide +kernel) (pa_cons (pv 0) (pa_cons (pe_tup (pa_cons (pe_bltn (v := .ty "list") (u := .type "list") (by rfl) T.z_list (by decide +kernel) rfl) (pa_cons (pe_bltn (v := .ty "tuple") (u := .type "tuple") (by rfl) T.z_tuple (by decide +kernel) rfl) pa_nil))) pa_nil))))) (pw_or1 (pt_cmpR op_ne (pe_callB call_len_seq (by rfl) T.z_len (by decide +kernel) (pa_cons (pv 0) pa_nil)) pe_int (nomark _))))) (pss_one (ps_ret pe_bl)) pss_nil)
      (pss_cons (ps_setLc (i := 1) (own := [("part", 2)]) (g := (gName 2)) rfl sc__law_is_move.nd rfl rfl (sw_true rfl rfl rfl (by decide +kernel)) (pi_or (pi_list (pv 0)) (pi_tup (pv 0))) (blkOk_by (N := n__law_is_move) (sc := defScope s__law_is_move) (by decide +kernel)) (fun _ _ _ _ _ => (pg_name (i := 2) sc__law_is_move.nd rfl (Or.inl rfl))) (fun _ _ _ _ _ => pts_one (PW.pt (pw_and (pt_val (pe_callB (r := rIsiT K) call_isiT (by rfl) T.z_isinstance (by decide +kernel) (pa_cons (pv 2) (pa_cons (pe_tup (pa_cons (pe_bltn (v := .ty "list") (u := .type "list") (by rfl) T.z_list (by decide +kernel) rfl) (pa_cons (pe_bltn (v := .ty "tuple") (u := .type "tuple") (by rfl) T.z_tuple (by decide +kernel) rfl) pa_nil))) pa_nil)))) (pw_and1 (pt_cmpR op_eq (pe_callB (r := rLenA K) call_len_seq (by rfl) T.z_len (by decide +kernel) (pa_cons (pv 2) pa_nil)) pe_int (nomark _)))))) (fun _ _ _ _ _ => (pv 2)))
      (pss_one (ps_ret (pe_and (pe_cmpR op_eq (pe_callB call_len_seq (by rfl) T.z_len (by decide +kernel) (pa_cons (pv 1) pa_nil)) pe_int (nomark _)) (pe_one (pe_cmpR (op_eqE hr.units0) (pe_lc (own := [("part", 2)]) (g := (gName 2)) rfl sc__law_is_move.nd (pi_list (pv 1)) (blkOk_by (N := n__law_is_move) (sc := defScope s__law_is_move) (by decide +kernel)) (fun _ _ _ _ _ => (pg_name (i := 2) sc__law_is_move.nd rfl (Or.inl rfl))) (fun _ _ _ _ _ => pts_one (PW.pt (pw_or (pt_not (pt_val (pe_call (O__law_is_integer T) (hr.mono (by decide)) (by rfl) T.m__law_is_integer T.F__law_is_integer.kp T.b__law_is_integer .nil pass0 (pa_cons (pe_ix (r := rIx K) ix_seq (pv 2) pe_int (fun _ _ => rfl)) pa_nil)))) (pw_or1 (pt_not (pt_val (pe_call (O__law_is_integer T) (hr.mono (by decide)) (by rfl) T.m__law_is_integer T.F__law_is_integer.kp T.b__law_is_integer .nil pass0 (pa_cons (pe_ix (r := rIx K) ix_seq (pv 2) pe_int (fun _ _ => rfl)) pa_nil)))))))) (fun _ _ _ _ _ => (pv 2))) (pe_lst pa_nil) (nomark _)))))))), ?_⟩
  have no : moveD d = false → ∀ H', Same H H' → Q (.bl false) H' := fun e H' s => by
    have := k H' s
    rwa [e] at this
  refine ⟨_, rfl, szl rfl, fun p hp => ?_⟩
  have s1 : Same H (upd H p (.tup [.ty "list", .ty "tuple"])) := same_new hp
  dsimp only [tNil]
  refine isiT upd_same (hd.up (.of s1)) ?_
  refine ⟨_, rfl, ?_⟩
  generalize upd H p _ = H1 at s1 ⊢
  rcases seqCase (hd.up (Ext.of s1)) with ⟨e, q, _⟩ | ⟨a, xs, ds, rfl, na, hs, hv, e, q⟩
  · rw [q]; exact iteT (no (twoD_no e) H1 s1)
  rw [q]
  refine iteF ?_
  refine ⟨_, rfl, a, xs, rfl, hs, rfl, _, rfl, ?_⟩
  refine ite2 (fun e2 => ?_) (fun e2 => ?_)
  · have e2 : decide (V.int ((xs.length : Nat) : Int) = V.int 2) = false := by simpa using e2
    exact no (twoD_ne e (two_not hv e2)) H1 s1
  have e2 : decide (V.int ((xs.length : Nat) : Int) = V.int 2) = true := by simpa using e2
  have few := few_of hv sl e
  dsimp only [tNext]
  refine sqa_rd rfl hs fun J G hG wk D hD => ?_
  refine lc_filt wk isTwo hv hD few hG ?_ ?_
  · intro i x dx H' Kc Ke hx hdx dv s2 kc ke
    refine ⟨rfl, ?_⟩
    refine ⟨_, rfl, szl rfl, fun p2 hp2 => ?_⟩
    have s3 : Same H' (upd H' p2 (.tup [.ty "list", .ty "tuple"])) := same_new hp2
    dsimp only [tNil]
    refine isiT upd_same (dv.up (.of s3)) ?_
    refine ⟨_, rfl, ?_⟩
    rcases seqCase (dv.up (Ext.of s3)) with ⟨e3, q3, _⟩ | ⟨a3, xs3, ds3, rfl, na3, hs3, hv3, e3, q3⟩
    · rw [q3]; exact iteF (iteF (ke (twoD_no e3) _ s3))
    rw [q3]
    refine iteT ⟨_, rfl, a3, xs3, rfl, hs3, rfl, _, rfl, ?_⟩
    refine iteB (fun e4 => ?_) (fun e4 => ?_)
    · refine ⟨_, rfl, ?_⟩
      obtain ⟨x4, y4, dx4, dy4, rfl, rfl, _, _⟩ := two_len hv3 e4
      exact kc (twoD_yes e3) _ s3
    · exact ke (twoD_ne e3 (two_not hv3 e4)) _ s3
  intro H2 ys s2 hy hd2
  dsimp only [gName]
  obtain ⟨x0, y0, dx0, dy0, rfl, rfl, hx0, hy0⟩ := two_len hv e2
  rw [move_filt e] at k
  clear no
  generalize hes : [dx0, dy0].filter isTwo = es at k hd2
  have s12 := s1.trans s2
  have hd3 : DVs K c H2 ys es := hd2.up (.of s2)
  have few2 : ys.length ≤ 1000 := by
    rw [hd2.len, ← hes]
    exact Nat.le_trans (List.length_filter_le _ _) (by show 2 ≤ 1000; decide)
  refine ⟨_, rfl, D, ys, rfl, .inl (.of hy), rfl, _, rfl, ?_⟩
  refine iteB (fun e3 => ?_) (fun e3 => ?_)
  rotate_left
  · have hne : decide (es.length = 2) = false := decide_eq_false (two_not hd3 e3)
    have := k H2 s12
    rw [hne] at this
    exact this
  have hes2 : es.length = 2 := by
    obtain ⟨_, _, _, _, _, rfl, _, _⟩ := two_len hd3 e3
    rfl
  rw [hes2] at k
  refine ⟨_, rfl, D, rfl, ⟨_, .of hy⟩, fun D2 hD2 => ?_⟩
  refine lc_filt (walk_list (K := K) (a := D) (xs := ys)) (fun x => !squareD x) hd3 hD2 few2 (fun H' s => .of (s _ _ hy)) ?_ ?_
  · intro i x dx H' Kc Ke hx hdx dv s3 kc ke
    have tw : isTwo dx = true := by
      have hm := List.mem_of_getElem? hdx
      rw [← hes] at hm
      exact (List.mem_filter.mp hm).2
    obtain ⟨a3, x3, y3, dx3, dy3, rfl, na3, hs3, e3, hx3, hy3⟩ := two_rd dv tw
    have sq : squareD dx = (isInt dx3 && isInt dy3) := twoD_yes e3
    rw [sq] at kc ke
    refine ⟨rfl, ?_⟩
    refine ⟨_, rfl, ixA hs3 rfl ⟨c, x3, dx3, rfl, hx3, fun H4 s4 => ⟨_, rfl, ?_⟩⟩⟩
    cases i1 : isInt dx3 with
    | false =>
      rw [i1] at kc
      exact iteT (iteT ⟨_, rfl, kc rfl H4 s4⟩)
    | true =>
    rw [i1] at kc ke
    refine iteF ⟨_, rfl, ixA (hs3.same s4) rfl ⟨c, y3, dy3, rfl, hy3.up (.of s4), fun H5 s5 => ⟨_, rfl, ?_⟩⟩⟩
    cases i2 : isInt dy3 with
    | false =>
      rw [i2] at kc
      exact iteT ⟨_, rfl, kc rfl H5 (s4.trans s5)⟩
    | true =>
      rw [i2] at ke
      exact iteF (ke rfl H5 (s4.trans s5))
  intro H3 zs s3 hz hd4
  refine ⟨szl rfl, fun pe hpe => ?_⟩
  have s4 : Same H3 (upd H3 pe (.lst [])) := same_new hpe
  refine ⟨D2, pe, zs, rfl, rfl, .of (s4 _ _ hz), .of upd_same, ?_⟩
  have := k _ ((s12.trans s3).trans s4)
  have ez : zs.isEmpty = (es.filter fun x => !squareD x).isEmpty := by
    generalize (es.filter fun x => !squareD x) = fs at hd4 ⊢
    cases hd4 <;> rfl
  rw [ez]
  exact this
end
end K39

set_option Elab.async false
set_option linter.all false
set_option maxRecDepth 100000
set_option maxHeartbeats 4000000
namespace K39
open PySem PySem.Spec PyProof.Rows L2 Gs
def rowD : PyData → Bool := twoD fun a b => moveD a && replyD b
def FMode (k : Nat) (word : Str) (deep : Int) (f : PyData → Bool) : Prop := (word = "bare" ∧ deep = 0 ∧ f = lastBookD) ∨ (word = "book" ∧ deep = 0 ∧ f = lastBookD) ∨ (k = 1 ∧ word = "row" ∧ deep = 0 ∧ f = rowD) ∨ (k = 1 ∧ word = "book" ∧ deep = 1 ∧ f = bookD)
def AMode (k : Nat) (word : Str) (deep : Int) (f : PyData → Bool) : Prop := (word = "bare" ∧ deep = 0 ∧ f = lastRefD) ∨ (k = 1 ∧ word = "row" ∧ deep = 0 ∧ f = allD rowD)
def spFo (K : PySem.W.Frag) (M : Str → Int → (PyData → Bool) → Prop) : Sp := fun vs H Q _ => ∃ c v d word deep f, vs = [v, .str word, .int deep] ∧ DV K c H v d ∧ slimD d = true ∧ M word deep f ∧ ∀ H', Same H H' → Q (.bl (f d)) H'
def FM : Nat → Str → Int → (PyData → Bool) → Prop
  | 0 => fun _ _ _ => False
  | k + 1 => FMode k
def AM : Nat → Str → Int → (PyData → Bool) → Prop
  | 0 => fun _ _ _ => False
  | k + 1 => AMode k
section
variable {P : Program} {w : World} {K : PySem.W.Frag} {mg : Str → Option Value} {base : Heap}
theorem filt_eq {p : PyData → Bool} : ∀ {l : List PyData}, (l.filter p).length = l.length → l.filter p = l ∧ l.all p = true
  | [], _ => ⟨rfl, rfl⟩
  | d :: l, h => by
    cases hp : p d with
    | true =>
      rw [List.filter_cons, hp, if_pos rfl] at h ⊢
      simp only [List.length_cons] at h
      obtain ⟨a, b⟩ := filt_eq (p := p) (l := l) (by omega)
      exact ⟨by rw [a], by rw [List.all_cons, hp, b]; rfl⟩
    | false =>
      rw [List.filter_cons, hp, if_neg (by decide)] at h
      have := List.length_filter_le p l
      simp only [List.length_cons] at h; omega
theorem filt_ne {p q : PyData → Bool} {l : List PyData} (h : (l.filter p).length ≠ l.length) (pq : ∀ d, q d = true → p d = true) : l.all q = false := by
  cases e : l.all q with
  | false => rfl
  | true =>
    refine absurd ?_ h
    rw [List.filter_eq_self.mpr fun d hd => pq d (List.all_eq_true.mp e d hd)]
theorem filt_not {p : PyData → Bool} : ∀ {l : List PyData}, (l.filter fun x => !p x).isEmpty = l.all p
  | [] => rfl
  | d :: l => by
    rw [List.filter_cons, List.all_cons]
    cases p d with
    | true => exact filt_not (l := l)
    | false => rfl
theorem wbr : decide (V.str "bare" = V.str "row") = false := by decide +kernel
theorem wkr : decide (V.str "book" = V.str "row") = false := by decide +kernel
theorem wkb : decide (V.str "book" = V.str "bare") = false := by decide +kernel
theorem form_step (T : Tx K mg) (k0 n : Nat) (hn : 6 ≤ n) (IHf : FnOk P w K mg base CX0 n T.a__law_form T.d__law_form ["value", "word", "deep"] (spFo K (FM k0))) (IHa : FnOk P w K mg base CX0 n T.a__law_are_forms T.d__law_are_forms ["value", "word", "deep"] (spFo K (AM k0))) :
    FnOk P w K mg base CX0 (n + 1) T.a__law_form T.d__law_form ["value", "word", "deep"] (spFo K (FMode k0)) := by
  refine T.F__law_form.ok sc__law_form (fun vs H Q E h => ?_) (fun cdv A outer s H vs Q E hr h => ?_)
  · obtain ⟨_, _, _, _, _, _, rfl, _⟩ := h; rfl
  obtain ⟨c, v, d, word, deep, f, rfl, hd, sl, md, k⟩ := h
  refine ⟨_, (pss_cons (ps_if (PW.pt (pw_or (pt_not (pt_val (pe_callB call_isiT (by rfl) T.z_isinstance (by decide +kernel) (pa_cons (pv 0) (pa_cons (pe_tup (pa_cons (pe_bltn (v := .ty "list") (u := .type "list") (by rfl) T.z_list (by decide +kernel) rfl) (pa_cons (pe_bltn (v := .ty "tuple") (u := .type "tuple") (by rfl) T.z_tuple (by decide +kernel) rfl) pa_nil))) pa_nil))))) (pw_or (pt_cmpR op_ne (pe_callB call_len_seq (by rfl) T.z_len (by decide +kernel) (pa_cons (pv 0) pa_nil)) pe_int (nomark _)) (pw_or1 (pt_not (pt_val (pe_call (O__law_is_move T) (hr.mono (by omega)) (by rfl) T.m__law_is_move T.F__law_is_move.kp T.b__law_is_move .nil pass0 (pa_cons (pe_ix ix_seq (pv 0) pe_int (fun _ _ => rfl)) pa_nil)))))))) (pss_one (ps_ret pe_bl)) pss_nil)
      (pss_cons (ps_set (i := 3) sc__law_form.nd rfl (Or.inl rfl) (pe_ix ix_seq (pv 0) pe_int (fun _ _ => rfl)))
      (pss_cons (ps_if (PW.pt (pw_and (pt_cmpR op_eq (pv 1) pe_str (nomark _)) (pw_and1 (pt_cmpR op_isN (pv 3) pe_non (nomark _))))) (pss_one (ps_ret pe_bl)) pss_nil)
      (pss_cons (ps_if (pt_cmpR op_eq (pv 1) pe_str (nomark _)) (pss_one (ps_ret (pe_and (pe_callB call_isiT (by rfl) T.z_isinstance (by decide +kernel) (pa_cons (pv 3) (pa_cons (pe_tup (pa_cons (pe_bltn (v := .ty "list") (u := .type "list") (by rfl) T.z_list (by decide +kernel) rfl) (pa_cons (pe_bltn (v := .ty "tuple") (u := .type "tuple") (by rfl) T.z_tuple (by decide +kernel) rfl) pa_nil))) pa_nil))) (pe_and (pe_cmpR op_eq (pe_callB call_len_seq (by rfl) T.z_len (by decide +kernel) (pa_cons (pv 3) pa_nil)) pe_int (nomark _)) (pe_and (pe_call (O__law_is_move T) (hr.mono (by omega)) (by rfl) T.m__law_is_move T.F__law_is_move.kp T.b__law_is_move .nil pass0 (pa_cons (pe_ix ix_seq (pv 3) pe_int (fun _ _ => rfl)) pa_nil)) (pe_one (pe_call IHa (hr.mono (by omega)) (by rfl) T.m__law_are_forms T.F__law_are_forms.kp T.b__law_are_forms .nil pass0 (pa_cons (pe_ix ix_seq (pv 3) pe_int (fun _ _ => rfl)) (pa_cons pe_str (pa_cons pe_int pa_nil)))))))))) pss_nil)
      (pss_cons (ps_if (PW.pt (pw_or (pt_cmpR op_eq (pv 1) pe_str (nomark _)) (pw_or1 (pt_cmpR op_eq (pv 2) pe_int (nomark _))))) (pss_one (ps_ret (pe_and (pe_callB call_isiT (by rfl) T.z_isinstance (by decide +kernel) (pa_cons (pv 3) (pa_cons (pe_tup (pa_cons (pe_bltn (v := .ty "list") (u := .type "list") (by rfl) T.z_list (by decide +kernel) rfl) (pa_cons (pe_bltn (v := .ty "tuple") (u := .type "tuple") (by rfl) T.z_tuple (by decide +kernel) rfl) pa_nil))) pa_nil))) (pe_one (pe_cmpR op_eq (pe_callB call_len_seq (by rfl) T.z_len (by decide +kernel) (pa_cons (pv 3) pa_nil)) pe_int (nomark _)))))) pss_nil)
      (pss_cons (ps_if (pt_not (pt_val (pe_callB call_isiT (by rfl) T.z_isinstance (by decide +kernel) (pa_cons (pv 3) (pa_cons (pe_tup (pa_cons (pe_bltn (v := .ty "list") (u := .type "list") (by rfl) T.z_list (by decide +kernel) rfl) (pa_cons (pe_bltn (v := .ty "tuple") (u := .type "tuple") (by rfl) T.z_tuple (by decide +kernel) rfl) pa_nil))) pa_nil))))) (pss_one (ps_ret pe_bl)) pss_nil)
      (pss_cons (ps_setLc (i := 4) (own := [("each", 5)]) (g := (gName 5)) rfl sc__law_form.nd rfl rfl (sw_true rfl rfl rfl (by decide +kernel)) (pi_or (pi_list (pv 3)) (pi_tup (pv 3))) (blkOk_by (N := n__law_form) (sc := defScope s__law_form) (by decide +kernel)) (fun _ _ _ _ _ => (pg_name (i := 5) sc__law_form.nd rfl (Or.inl rfl))) (fun _ _ _ _ _ => pts_one (PW.pt (pw_and (pt_val (pe_callB (r := rIsiT K) call_isiT (by rfl) T.z_isinstance (by decide +kernel) (pa_cons (pv 5) (pa_cons (pe_tup (pa_cons (pe_bltn (v := .ty "list") (u := .type "list") (by rfl) T.z_list (by decide +kernel) rfl) (pa_cons (pe_bltn (v := .ty "tuple") (u := .type "tuple") (by rfl) T.z_tuple (by decide +kernel) rfl) pa_nil))) pa_nil)))) (pw_and (pt_cmpR op_eq (pe_callB (r := rLenA K) call_len_seq (by rfl) T.z_len (by decide +kernel) (pa_cons (pv 5) pa_nil)) pe_int (nomark _)) (pw_and1 (pt_val (pe_call (O__law_is_move T) (hr.mono (by omega)) (by rfl) T.m__law_is_move T.F__law_is_move.kp T.b__law_is_move .nil pass0 (pa_cons (pe_ix (r := rIx K) ix_seq (pv 5) pe_int (fun _ _ => rfl)) pa_nil)))))))) (fun _ _ _ _ _ => (pv 5)))
      (pss_one (ps_ret (pe_and (pe_cmpR op_eq (pe_callB call_len_seq (by rfl) T.z_len (by decide +kernel) (pa_cons (pv 4) pa_nil)) (pe_callB call_len_seq (by rfl) T.z_len (by decide +kernel) (pa_cons (pv 3) pa_nil)) (nomark _)) (pe_one (pe_cmpR (op_eqE hr.units0) (pe_lc (own := [("each", 5)]) (g := (gName 5)) rfl sc__law_form.nd (pi_list (pv 4)) (blkOk_by (N := n__law_form) (sc := defScope s__law_form) (by decide +kernel)) (fun _ _ _ _ _ => (pg_name (i := 5) sc__law_form.nd rfl (Or.inl rfl))) (fun _ _ _ _ _ => pts_one (pt_not (pt_val (pe_call IHf (hr.mono (by omega)) (by rfl) T.m__law_form T.F__law_form.kp T.b__law_form .nil pass0 (pa_cons (pe_ix (r := rIx K) ix_seq (pv 5) pe_int (fun _ _ => rfl)) (pa_cons pe_str (pa_cons pe_int pa_nil))))))) (fun _ _ _ _ _ => (pv 5))) (pe_lst pa_nil) (nomark _))))))))))))), ?_⟩
  have fbr : branchD d = false → f d = false := fun b => by
    rcases md with ⟨_, _, rfl⟩ | ⟨_, _, rfl⟩ | ⟨_, _, _, rfl⟩ | ⟨_, _, _, rfl⟩
    · exact twoD_br b
    · exact twoD_br b
    · exact twoD_br b
    · exact twoD_br b
  have no : f d = false → ∀ H', Same H H' → Q (.bl false) H' := fun e H' s => by
    have := k H' s
    rwa [e] at this
  refine ⟨_, rfl, szl rfl, fun p hp => ?_⟩
  have s1 : Same H (upd H p (.tup [.ty "list", .ty "tuple"])) := same_new hp
  dsimp only [tNil]
  refine isiT upd_same (hd.up (.of s1)) ?_
  refine ⟨_, rfl, ?_⟩
  generalize upd H p _ = H1 at s1 ⊢
  rcases seqCase (hd.up (Ext.of s1)) with ⟨e, q, _⟩ | ⟨a, xs, ds, rfl, na, hs, hv, e, q⟩
  · rw [q]; exact iteT (no (fbr (twoD_no e)) H1 s1)
  rw [q]
  refine iteF ?_
  refine ⟨_, rfl, a, xs, rfl, hs, rfl, _, rfl, ?_⟩
  refine ite2 (fun e2 => ?_) (fun e2 => ?_)
  · have e2 : decide (V.int ((xs.length : Nat) : Int) = V.int 2) = false := by simpa using e2
    exact no (fbr (twoD_ne e (two_not hv e2))) H1 s1
  have e2 : decide (V.int ((xs.length : Nat) : Int) = V.int 2) = true := by simpa using e2
  obtain ⟨x, y, dx, dy, rfl, rfl, hx, hy⟩ := two_len hv e2
  obtain ⟨slx, sly⟩ := two_slim e sl
  refine ⟨_, rfl, ixA hs rfl ⟨c, x, dx, rfl, hx, slx, fun H2 s2 => ⟨_, rfl, ?_⟩⟩⟩
  have s12 := s1.trans s2
  cases hm : moveD dx with
  | false => exact iteT (no (fbr (by rw [show branchD d = moveD dx from twoD_yes e]; exact hm)) H2 s12)
  | true =>
  refine iteF ?_
  dsimp only [tNext]
  refine ⟨_, rfl, ixA (hs.same s2) rfl ?_⟩
  have hy2 := hy.up (Ext.of s2)
  dsimp only [gName]
  rcases md with ⟨rfl, rfl, rfl⟩ | ⟨rfl, rfl, rfl⟩ | ⟨rfl, rfl, rfl, rfl⟩ | ⟨rfl, rfl, rfl, rfl⟩
  · refine ⟨_, rfl, rfl, _, rfl, ?_⟩
    rw [wbr]
    refine iteF (iteF ?_)
    dsimp only [tNext]
    refine ⟨_, rfl, rfl, _, rfl, ?_⟩
    rw [wbr]
    refine iteF ?_
    dsimp only [tNext]
    refine ⟨_, rfl, rfl, _, rfl, ?_⟩
    rw [d_self]
    refine iteT (iteT ?_)
    have lb : lastBookD d = emptyD dy := by rw [show lastBookD d = (moveD dx && emptyD dy) from twoD_yes e, hm, Bool.true_and]
    rw [lb] at k
    refine ⟨_, rfl, szl rfl, fun p2 hp2 => ?_⟩
    have s3 : Same H2 (upd H2 p2 (.tup [.ty "list", .ty "tuple"])) := same_new hp2
    dsimp only [tNil]
    refine isiT upd_same (hy2.up (.of s3)) ?_
    refine ⟨_, rfl, ?_⟩
    generalize upd H2 p2 _ = H3 at s3 ⊢
    have kk := k H3 (s12.trans s3)
    rcases seqCase (hy2.up (Ext.of s3)) with ⟨e4, q4, _⟩ | ⟨a4, xs4, ds4, rfl, na4, hs4, hv4, e4, q4⟩
    · rw [show emptyD dy = false by unfold emptyD; rw [e4]] at kk
      rw [q4]; exact iteF kk
    rw [q4]
    refine iteT ⟨_, rfl, a4, xs4, rfl, hs4, rfl, ?_⟩
    cases hv4 with
    | nil =>
      rw [show emptyD dy = true by unfold emptyD; rw [e4]] at kk
      exact kk
    | cons h1 h2 =>
      rw [show emptyD dy = false by unfold emptyD; rw [e4]] at kk
      rw [decide_eq_false (fun z => by have := V.int.inj z; simp at this; omega)]
      exact kk
  · refine ⟨_, rfl, rfl, _, rfl, ?_⟩
    rw [wkr]
    refine iteF (iteF ?_)
    dsimp only [tNext]
    refine ⟨_, rfl, rfl, _, rfl, ?_⟩
    rw [wkr]
    refine iteF ?_
    dsimp only [tNext]
    refine ⟨_, rfl, rfl, _, rfl, ?_⟩
    rw [wkb]
    refine iteF ⟨_, rfl, rfl, _, rfl, ?_⟩
    rw [d_self]
    refine iteT ?_
    have lb : lastBookD d = emptyD dy := by rw [show lastBookD d = (moveD dx && emptyD dy) from twoD_yes e, hm, Bool.true_and]
    rw [lb] at k
    refine ⟨_, rfl, szl rfl, fun p2 hp2 => ?_⟩
    have s3 : Same H2 (upd H2 p2 (.tup [.ty "list", .ty "tuple"])) := same_new hp2
    dsimp only [tNil]
    refine isiT upd_same (hy2.up (.of s3)) ?_
    refine ⟨_, rfl, ?_⟩
    generalize upd H2 p2 _ = H3 at s3 ⊢
    have kk := k H3 (s12.trans s3)
    rcases seqCase (hy2.up (Ext.of s3)) with ⟨e4, q4, _⟩ | ⟨a4, xs4, ds4, rfl, na4, hs4, hv4, e4, q4⟩
    · rw [show emptyD dy = false by unfold emptyD; rw [e4]] at kk
      rw [q4]; exact iteF kk
    rw [q4]
    refine iteT ⟨_, rfl, a4, xs4, rfl, hs4, rfl, ?_⟩
    cases hv4 with
    | nil =>
      rw [show emptyD dy = true by unfold emptyD; rw [e4]] at kk
      exact kk
    | cons h1 h2 =>
      rw [show emptyD dy = false by unfold emptyD; rw [e4]] at kk
      rw [decide_eq_false (fun z => by have := V.int.inj z; simp at this; omega)]
      exact kk
  · -- a row
    have rw0 : rowD d = replyD dy := by rw [show rowD d = (moveD dx && replyD dy) from twoD_yes e, hm, Bool.true_and]
    rw [rw0] at k
    refine ⟨_, rfl, rfl, _, rfl, ?_⟩
    rw [d_self]
    refine iteT ⟨_, rfl, rfl, _, rfl, ?_⟩
    rw [isNo_iff hy2]
    refine iteB (fun b => ?_) (fun b => ?_)
    · have := k H2 s12
      rw [show replyD dy = true by unfold replyD; rw [b]; rfl] at this
      exact this
    rw [show replyD dy = twoD (fun a b => moveD a && lastRefD b) dy by unfold replyD; rw [b]; rfl] at k
    have no : twoD (fun a b => moveD a && lastRefD b) dy = false → ∀ H', Same H H' → Q (.bl false) H' := fun e H' s => by
      have := k H' s
      rwa [e] at this
    dsimp only [tNext]
    refine ⟨_, rfl, rfl, _, rfl, ?_⟩
    rw [d_self]
    refine iteT ?_
    refine ⟨_, rfl, szl rfl, fun p2 hp2 => ?_⟩
    have s3 : Same H2 (upd H2 p2 (.tup [.ty "list", .ty "tuple"])) := same_new hp2
    dsimp only [tNil]
    refine isiT upd_same (hy2.up (.of s3)) ?_
    refine ⟨_, rfl, ?_⟩
    generalize upd H2 p2 _ = H3 at s3 ⊢
    have s13 := s12.trans s3
    rcases seqCase (hy2.up (Ext.of s3)) with ⟨e4, q4, _⟩ | ⟨a4, xs4, ds4, rfl, na4, hs4, hv4, e4, q4⟩
    · rw [q4]; exact iteF (no (twoD_no e4) H3 s13)
    rw [q4]
    refine iteT ⟨_, rfl, a4, xs4, rfl, hs4, rfl, _, rfl, ?_⟩
    refine iteB (fun e5 => ?_) (fun e5 => ?_)
    rotate_left
    · exact no (twoD_ne e4 (two_not hv4 e5)) H3 s13
    obtain ⟨x5, y5, dx5, dy5, rfl, rfl, hx5, hy5⟩ := two_len hv4 e5
    obtain ⟨slx5, sly5⟩ := two_slim e4 sly
    rw [show twoD (fun a b => moveD a && lastRefD b) dy = (moveD dx5 && lastRefD dy5) from twoD_yes e4] at k
    refine ⟨_, rfl, ixA hs4 rfl ⟨c, x5, dx5, rfl, hx5, slx5, fun H4 s4 => ⟨_, rfl, ?_⟩⟩⟩
    cases m5 : moveD dx5 with
    | false =>
      have := k H4 (s13.trans s4)
      rw [m5] at this
      exact iteF this
    | true =>
    rw [m5, Bool.true_and] at k
    refine iteT ⟨_, rfl, ixA (hs4.same s4) rfl ⟨c, y5, dy5, "bare", 0, lastRefD, rfl, hy5.up (.of s4), sly5, .inl ⟨rfl, rfl, rfl⟩, fun H5 s5 => k H5 ((s13.trans s4).trans s5)⟩⟩
  · -- a book
    have rw0 : bookD d = allD pairB dy := by rw [show bookD d = (moveD dx && allD pairB dy) from twoD_yes e, hm, Bool.true_and]
    rw [rw0] at k
    have no : allD pairB dy = false → ∀ H', Same H H' → Q (.bl false) H' := fun e H' s => by
      have := k H' s
      rwa [e] at this
    refine ⟨_, rfl, rfl, _, rfl, ?_⟩
    rw [wkr]
    refine iteF (iteF ?_)
    dsimp only [tNext]
    refine ⟨_, rfl, rfl, _, rfl, ?_⟩
    rw [wkr]
    refine iteF ?_
    dsimp only [tNext]
    refine ⟨_, rfl, rfl, _, rfl, ?_⟩
    rw [wkb]
    refine iteF ⟨_, rfl, rfl, _, rfl, iteF ?_⟩
    dsimp only [tNext]
    refine ⟨_, rfl, szl rfl, fun p2 hp2 => ?_⟩
    have s3 : Same H2 (upd H2 p2 (.tup [.ty "list", .ty "tuple"])) := same_new hp2
    dsimp only [tNil]
    refine isiT upd_same (hy2.up (.of s3)) ?_
    refine ⟨_, rfl, ?_⟩
    generalize upd H2 p2 _ = H3 at s3 ⊢
    have s13 := s12.trans s3
    rcases seqCase (hy2.up (Ext.of s3)) with ⟨e4, q4, _⟩ | ⟨a4, xs4, ds4, rfl, na4, hs4, hv4, e4, q4⟩
    · rw [q4]; exact iteT (no (allD_no e4) H3 s13)
    rw [q4]
    refine iteF ?_
    dsimp only [tNext]
    rw [allD_some e4] at k
    have few := few_of hv4 sly e4
    have sl4 := (slim_items e4 sly).2
    refine sqa_rd rfl hs4 fun J G hG wk D hD => ?_
    refine lc_filt wk branchD hv4 hD few hG ?_ ?_
    · intro i x5 dx5 H' Kc Ke hx5 hdx5 dv s5 kc ke
      refine ⟨rfl, ?_⟩
      refine ⟨_, rfl, szl rfl, fun p5 hp5 => ?_⟩
      have s6 : Same H' (upd H' p5 (.tup [.ty "list", .ty "tuple"])) := same_new hp5
      dsimp only [tNil]
      refine isiT upd_same (dv.up (.of s6)) ?_
      refine ⟨_, rfl, ?_⟩
      generalize upd H' p5 _ = H6 at s6 ⊢
      rcases seqCase (dv.up (Ext.of s6)) with ⟨e6, q6, _⟩ | ⟨a6, xs6, ds6, rfl, na6, hs6, hv6, e6, q6⟩
      · rw [q6]; exact iteF (iteF (ke (twoD_no e6) _ s6))
      rw [q6]
      refine iteT ⟨_, rfl, a6, xs6, rfl, hs6, rfl, _, rfl, ?_⟩
      refine iteB (fun e7 => ?_) (fun e7 => ?_)
      rotate_left
      · exact iteF (ke (twoD_ne e6 (two_not hv6 e7)) _ s6)
      obtain ⟨x7, y7, dx7, dy7, rfl, rfl, hx7, hy7⟩ := two_len hv6 e7
      have br : branchD dx5 = moveD dx7 := twoD_yes e6
      rw [br] at kc ke
      refine ⟨_, rfl, ixA hs6 rfl ⟨c, x7, dx7, rfl, hx7, (two_slim e6 (slim_at sl4 hdx5)).1, fun H7 s7 => ⟨_, rfl, ?_⟩⟩⟩
      cases m7 : moveD dx7 with
      | false =>
        rw [m7] at ke
        exact iteF (ke rfl H7 (s6.trans s7))
      | true =>
        rw [m7] at kc
        exact iteT ⟨_, rfl, kc rfl H7 (s6.trans s7)⟩
    intro H4 ys s4 hy4 hd4
    dsimp only [gName]
    have s14 := s13.trans s4
    have hs44 := hs4.same s4
    have hd44 : DVs K c H4 ys (ds4.filter branchD) := hd4.up (.of s4)
    refine ⟨_, rfl, D, ys, rfl, .inl (.of hy4), _, rfl, a4, xs4, rfl, hs44, rfl, _, rfl, ?_⟩
    refine iteB (fun e5 => ?_) (fun e5 => ?_)
    rotate_left
    · have nl : (ds4.filter branchD).length ≠ ds4.length := fun z => of_decide_eq_false e5 (by rw [hd4.len, hv4.len, z])
      have := k H4 s14
      rw [filt_ne nl (q := pairB) (fun d h => by
        cases b : branchD d with
        | true => rfl
        | false => rw [show pairB d = false from twoD_br b] at h; cases h)] at this
      exact this
    have ee : (ds4.filter branchD).length = ds4.length := by
      have := V.int.inj (of_decide_eq_true e5)
      rw [hd4.len, hv4.len] at this; omega
    obtain ⟨fe, fa⟩ := filt_eq ee
    rw [fe] at hd44 hd4
    have few4 : ys.length ≤ 1000 := by rw [hd4.len, ← hv4.len]; exact few
    refine ⟨_, rfl, D, rfl, ⟨_, .of hy4⟩, fun D2 hD2 => ?_⟩
    refine lc_filt (walk_list (K := K) (a := D) (xs := ys)) (fun x => !pairB x) hd44 hD2 few4 (fun H' s => .of (s _ _ hy4)) ?_ ?_
    · intro i x5 dx5 H' Kc Ke hx5 hdx5 dv s5 kc ke
      have br : branchD dx5 = true := List.all_eq_true.mp fa dx5 (List.mem_of_getElem? hdx5)
      obtain ⟨a6, x6, y6, dx6, dy6, rfl, na6, hs6, e6, hx6, hy6, hm6⟩ := brTwo dv br
      have pb : pairB dx5 = lastBookD dy6 := by rw [show pairB dx5 = (moveD dx6 && lastBookD dy6) from twoD_yes e6, hm6, Bool.true_and]
      rw [pb] at kc ke
      refine ⟨rfl, ?_⟩
      refine ⟨_, rfl, ixA hs6 rfl ⟨c, y6, dy6, "book", 0, lastBookD, rfl, hy6, (two_slim e6 (slim_at sl4 hdx5)).2, .inr (.inl ⟨rfl, rfl, rfl⟩), fun H7 s7 => ⟨_, rfl, ?_⟩⟩⟩
      cases m7 : lastBookD dy6 with
      | false =>
        rw [m7] at kc
        exact iteT ⟨_, rfl, kc rfl H7 s7⟩
      | true =>
        rw [m7] at ke
        exact iteF (ke rfl H7 s7)
    intro H5 zs s5 hz hd5
    refine ⟨szl rfl, fun pe hpe => ?_⟩
    have s6 : Same H5 (upd H5 pe (.lst [])) := same_new hpe
    refine ⟨D2, pe, zs, rfl, rfl, .of (s6 _ _ hz), .of upd_same, ?_⟩
    have := k _ ((s14.trans s5).trans s6)
    have ez : zs.isEmpty = ds4.all pairB := by
      rw [← filt_not]
      generalize (ds4.filter fun x => !pairB x) = fs at hd5 ⊢
      cases hd5 <;> rfl
    rw [ez]
    exact this
theorem are_step (T : Tx K mg) (k0 n : Nat) (hn : 6 ≤ n) (IHf : FnOk P w K mg base CX0 n T.a__law_form T.d__law_form ["value", "word", "deep"] (spFo K (FMode k0))) :
    FnOk P w K mg base CX0 (n + 1) T.a__law_are_forms T.d__law_are_forms ["value", "word", "deep"] (spFo K (AMode k0)) := by
  refine T.F__law_are_forms.ok sc__law_are_forms (fun vs H Q E h => ?_) (fun cdv A outer s H vs Q E hr h => ?_)
  · obtain ⟨_, _, _, _, _, _, rfl, _⟩ := h; rfl
  obtain ⟨c, v, d, word, deep, f, rfl, hd, sl, md, k⟩ := h
  refine ⟨_, (pss_one (ps_ret (pe_and (pe_callB call_isiT (by rfl) T.z_isinstance (by decide +kernel) (pa_cons (pv 0) (pa_cons (pe_tup (pa_cons (pe_bltn (v := .ty "list") (u := .type "list") (by rfl) T.z_list (by decide +kernel) rfl) (pa_cons (pe_bltn (v := .ty "tuple") (u := .type "tuple") (by rfl) T.z_tuple (by decide +kernel) rfl) pa_nil))) pa_nil))) (pe_one (pe_cmpR (op_eqE hr.units0) (pe_lc (own := [("each", 3)]) (g := (gName 3)) rfl sc__law_are_forms.nd (pi_or (pi_list (pv 0)) (pi_tup (pv 0))) (blkOk_by (N := n__law_are_forms) (sc := defScope s__law_are_forms) (by decide +kernel)) (fun _ _ _ _ _ => (pg_name (i := 3) sc__law_are_forms.nd rfl (Or.inl rfl))) (fun _ _ _ _ _ => pts_one (pt_not (pt_val (pe_call IHf (hr.mono (by omega)) (by rfl) T.m__law_form T.F__law_form.kp T.b__law_form .nil pass0 (pa_cons (pv 3) (pa_cons (pv 1) (pa_cons (pv 2) pa_nil))))))) (fun _ _ _ _ _ => (pv 3))) (pe_lst pa_nil) (nomark _)))))), ?_⟩
  obtain ⟨g, mg', fg⟩ : ∃ g, FMode k0 word deep g ∧ f d = allD g d := by
    rcases md with ⟨rfl, rfl, rfl⟩ | ⟨rfl, rfl, rfl, rfl⟩
    · exact ⟨lastBookD, .inl ⟨rfl, rfl, rfl⟩, rfl⟩
    · exact ⟨rowD, .inr (.inr (.inl ⟨rfl, rfl, rfl, rfl⟩)), rfl⟩
  rw [fg] at k
  clear fg md
  refine ⟨_, rfl, szl rfl, fun p hp => ?_⟩
  have s1 : Same H (upd H p (.tup [.ty "list", .ty "tuple"])) := same_new hp
  dsimp only [tNil]
  refine isiT upd_same (hd.up (.of s1)) ?_
  refine ⟨_, rfl, ?_⟩
  generalize upd H p _ = H1 at s1 ⊢
  rcases seqCase (hd.up (Ext.of s1)) with ⟨e, q, _⟩ | ⟨a, xs, ds, rfl, na, hs, hv, e, q⟩
  · have := k H1 s1
    rw [allD_no e] at this
    rw [q]; exact iteF this
  rw [q]
  rw [allD_some e] at k
  refine iteT ?_
  have few := few_of hv sl e
  have sl2 := (slim_items e sl).2
  refine sqa_rd rfl hs fun J G hG wk D hD => ?_
  refine lc_filt wk (fun x => !g x) hv hD few hG ?_ ?_
  · intro i x dx H' Kc Ke hx hdx dv s2 kc ke
    refine ⟨rfl, ?_⟩
    refine ⟨_, rfl, _, rfl, _, rfl, c, x, dx, word, deep, g, rfl, dv, slim_at sl2 hdx, mg', fun H7 s7 => ⟨_, rfl, ?_⟩⟩
    cases m7 : g dx with
    | false =>
      rw [m7] at kc
      exact iteT ⟨_, rfl, kc rfl H7 s7⟩
    | true =>
      rw [m7] at ke
      exact iteF (ke rfl H7 s7)
  intro H5 zs s5 hz hd5
  refine ⟨szl rfl, fun pe hpe => ?_⟩
  have s6 : Same H5 (upd H5 pe (.lst [])) := same_new hpe
  refine ⟨D, pe, zs, rfl, rfl, .of (s6 _ _ hz), .of upd_same, ?_⟩
  have := k _ ((s1.trans s5).trans s6)
  have ez : zs.isEmpty = ds.all g := by
    rw [← filt_not]
    generalize (ds.filter fun x => !g x) = fs at hd5 ⊢
    cases hd5 <;> rfl
  rw [ez]
  exact this
theorem O_form0 (T : Tx K mg) : FnOk P w K mg base CX0 7 T.a__law_form T.d__law_form ["value", "word", "deep"] (spFo K (FMode 0)) :=
  form_step T 0 6 (by decide) ⟨fun vs H Q E h => by obtain ⟨_, _, _, _, _, _, rfl, _⟩ := h; rfl, fun _ _ _ _ _ _ _ _ _ _ _ _ _ h => by obtain ⟨_, _, _, _, _, _, _, _, _, z, _⟩ := h; exact z.elim⟩
    ⟨fun vs H Q E h => by obtain ⟨_, _, _, _, _, _, rfl, _⟩ := h; rfl, fun _ _ _ _ _ _ _ _ _ _ _ _ _ h => by obtain ⟨_, _, _, _, _, _, _, _, _, z, _⟩ := h; exact z.elim⟩
theorem O_are0 (T : Tx K mg) : FnOk P w K mg base CX0 8 T.a__law_are_forms T.d__law_are_forms ["value", "word", "deep"] (spFo K (AMode 0)) := are_step T 0 7 (by decide) (O_form0 T)
theorem O__law_form (T : Tx K mg) : FnOk P w K mg base CX0 9 T.a__law_form T.d__law_form ["value", "word", "deep"] (spFo K (FMode 1)) := form_step T 1 8 (by decide) ((O_form0 T).mono (by decide)) (O_are0 T)
theorem O__law_are_forms (T : Tx K mg) : FnOk P w K mg base CX0 10 T.a__law_are_forms T.d__law_are_forms ["value", "word", "deep"] (spFo K (AMode 1)) := are_step T 1 9 (by decide) (O__law_form T)
/-- what the law tells is what the program tells -/
theorem last_br {d : PyData} (h : lastBookD d = true) : branchD d = true := by
  cases b : branchD d with
  | true => rfl
  | false => rw [show lastBookD d = false from twoD_br b] at h; cases h
theorem row_eq (d : PyData) : rowD d = (branchD d && twoD (fun _ b => replyD b) d) := by
  unfold rowD branchD
  cases e : itemsD d with
  | none => rw [twoD_no e, twoD_no e, twoD_no e]; rfl
  | some ds =>
    by_cases n : ds.length = 2
    · match ds, n, e with
      | [a, b], _, e => rw [twoD_yes e, twoD_yes e, twoD_yes e]
    · rw [twoD_ne e n, twoD_ne e n, twoD_ne e n]; rfl
theorem ref_eq (d : PyData) : refD d = (lastRefD d || allD rowD d) := by
  unfold refD lastRefD
  cases e : itemsD d with
  | none => rw [allD_no e, allD_no e, allD_no e, allD_no e]; rfl
  | some ds =>
    rw [allD_some e, allD_some e, allD_some e, allD_some e]
    clear e
    have hr : ds.all rowD = (ds.all branchD && ds.all (twoD fun _ b => replyD b)) := by
      induction ds with
      | nil => rfl
      | cons d ds ih =>
        rw [List.all_cons, List.all_cons, List.all_cons, ih, row_eq]
        cases branchD d <;> cases twoD (fun _ b => replyD b) d <;> cases ds.all branchD <;> cases (ds.all (twoD fun _ b => replyD b)) <;> rfl
    rw [hr]
    have hl : ds.all lastBookD = true → ds.all branchD = true := fun h => List.all_eq_true.mpr fun d hd => last_br (List.all_eq_true.mp h d hd)
    cases a : ds.all branchD with
    | true => rfl
    | false =>
      cases b : ds.all lastBookD with
      | true => rw [hl b] at a; cases a
      | false => rfl
end
end K39

set_option Elab.async false
set_option linter.all false
set_option maxRecDepth 100000
set_option maxHeartbeats 4000000
namespace K39
open PySem PySem.Spec PyProof.Rows L2 Gs
section
variable {P : Program} {w : World} {K : PySem.W.Frag} {mg : Str → Option Value} {base : Heap}
/-! ### what stands on the heap, of valid data that is fixed -/
theorem tupOf {c : Addr} {H : Hp} {v : V} {d : PyData} {es : List PyData} (h : DV K c H v (fixD d)) (e : itemsD (fixD d) = some es) : ∃ a xs ds, v = .ref a ∧ SqT K H a xs ∧ es = fixDs ds ∧ DVs K c H xs (fixDs ds) := by
  cases d with
  | list ds =>
    cases e
    cases h with
    | tup n s r => exact ⟨_, _, ds, rfl, s, rfl, r⟩
  | tuple ds =>
    cases e
    cases h with
    | tup n s r => exact ⟨_, _, ds, rfl, s, rfl, r⟩
  | _ => cases e
theorem twoOf {c : Addr} {H : Hp} {v : V} {d : PyData} {f : PyData → PyData → Bool} (h : DV K c H v (fixD d)) (b : twoD f (fixD d) = true) : ∃ a x y p q, v = .ref a ∧ SqT K H a [x, y] ∧ DV K c H x (fixD p) ∧ DV K c H y (fixD q) ∧ f (fixD p) (fixD q) = true ∧ itemsD (fixD d) = some [fixD p, fixD q] := by
  have h0 := h
  unfold twoD at b
  split at b
  · rename_i p' q' e
    obtain ⟨a, xs, ds, rfl, s, e2, r⟩ := tupOf h0 e
    match ds, e2 with
    | [p, q], e2 =>
      simp only [fixDs] at e2 r
      cases e2
      cases r with
      | cons h1 r =>
      cases r with
      | cons h2 r =>
      cases r with
      | nil => exact ⟨a, _, _, p, q, rfl, s, h1, h2, b, e⟩
  · cases b
theorem emptyOf {c : Addr} {H : Hp} {v : V} {d : PyData} (h : DV K c H v (fixD d)) (b : emptyD (fixD d) = true) : ∃ z, v = .ref z ∧ SqT K H z [] ∧ fixD d = .tuple [] := by
  have h0 := h
  unfold emptyD at b
  split at b
  · rename_i e
    obtain ⟨a, xs, ds, rfl, s, e2, r⟩ := tupOf h0 e
    rw [← e2] at r
    cases r
    refine ⟨a, rfl, s, ?_⟩
    cases d with
    | list xs => show PyData.tuple (fixDs xs) = _; rw [show fixDs xs = [] from Option.some.inj e]
    | tuple xs => show PyData.tuple (fixDs xs) = _; rw [show fixDs xs = [] from Option.some.inj e]
    | _ => cases e
  · cases b
def AnsV (K : PySem.W.Frag) (H : Hp) (e : Addr) (p : V × V) : Prop := ∃ l z, SqT K H e [p.1, .ref l] ∧ SqT K H l [p.2, .ref z] ∧ SqT K H z []
theorem as_of {c : Addr} {H : Hp} : ∀ (ps : List PyData) (zs : List V), DVs K c H zs (fixDs ps) → (∀ p ∈ ps, pairB (fixD p) = true) → ∃ (bs : List Addr) (as : List (V × V)), zs = bs.map V.ref ∧ bs.length = as.length ∧ ∀ (i : Nat) (e : Addr) (p : V × V), bs[i]? = some e → as[i]? = some p → AnsV K H e p
  | [], _, h, _ => by
    simp only [fixDs] at h
    cases h; exact ⟨[], [], rfl, rfl, fun i e p h => by simp at h⟩
  | p :: ps, _, h, ok => by
    simp only [fixDs] at h
    cases h with
    | cons h1 h2 =>
      obtain ⟨bs, as, rfl, hl, hh⟩ := as_of ps _ h2 fun q hq => ok q (List.mem_cons_of_mem _ hq)
      obtain ⟨a, x, y, d1, d2, rfl, s1, _, hy, b1, _⟩ := twoOf h1 (ok p List.mem_cons_self)
      have b2 : lastBookD (fixD d2) = true := (Bool.and_eq_true_iff.mp b1).2
      obtain ⟨l, x2, y2, d3, d4, rfl, s2, _, hy2, b3, _⟩ := twoOf hy b2
      obtain ⟨z, rfl, s3, _⟩ := emptyOf hy2 (Bool.and_eq_true_iff.mp b3).2
      refine ⟨a :: bs, (x, x2) :: as, rfl, by rw [List.length_cons, List.length_cons, hl], fun i e p he hp => ?_⟩
      match i, he, hp with
      | 0, he, hp => simp at he hp; subst he hp; exact ⟨l, z, s1, s2, s3⟩
      | i + 1, he, hp => exact hh i e p (by simpa using he) (by simpa using hp)
/-- .. a whole book, with the data of its answers -/
def BkW (K : PySem.W.Frag) (c : Addr) (H : Hp) (v x : V) (as : List (V × V)) : Prop := ∃ (a b : Addr) (bs : List Addr) (es : List PyData), v = .ref a ∧ SqT K H a [x, .ref b] ∧ SqT K H b (bs.map V.ref) ∧ bs.length = as.length ∧
  (∀ (i : Nat) (e : Addr) (p : V × V), bs[i]? = some e → as[i]? = some p → AnsV K H e p) ∧ DV K c H (.ref b) (.tuple es) ∧ es.length = as.length ∧ PyData.canLayAll0 es = true ∧ PyData.depthAll es ≤ 60
theorem BkW.v {c : Addr} {H : Hp} {v x : V} {as : List (V × V)} (h : BkW K c H v x as) : BkV K H v x as := by
  obtain ⟨a, b, bs, es, h1, h2, h3, h4, h5, _⟩ := h
  exact ⟨a, b, bs, h1, h2, h3, h4, h5⟩
theorem fixDs_len (ds : List PyData) : (fixDs ds).length = ds.length := by rw [fixDs_map, List.length_map]
theorem can_items {d : PyData} {ds : List PyData} (e : itemsD d = some ds) : d.canLay0 = PyData.canLayAll0 ds := by
  cases d with
  | list xs => cases e; rfl
  | tuple xs => cases e; rfl
  | _ => cases e
theorem dep_items {d : PyData} {ds : List PyData} (e : itemsD d = some ds) : PyData.depthAll ds < d.depth := by
  cases d with
  | list xs => cases e; simp only [PyData.depth]; omega
  | tuple xs => cases e; simp only [PyData.depth]; omega
  | _ => cases e
theorem can_two {f : PyData → PyData → Bool} {d : PyData} (h : twoD f d = true) (k : ∀ a b, f a b = true → a.canLay0 = true ∧ b.canLay0 = true) : d.canLay0 = true := by
  unfold twoD at h
  split at h
  · rename_i a b e
    obtain ⟨k1, k2⟩ := k a b h
    rw [can_items e]
    simp [PyData.canLayAll0, k1, k2]
  · cases h
theorem can_int {d : PyData} (h : isInt d = true) : d.canLay0 = true := by
  cases d <;> first | rfl | cases h
theorem can_sq {d : PyData} (h : squareD d = true) : d.canLay0 = true := can_two h fun a b h => by
  obtain ⟨h1, h2⟩ := Bool.and_eq_true_iff.mp h
  exact ⟨can_int h1, can_int h2⟩
theorem can_mv {d : PyData} (h : moveD d = true) : d.canLay0 = true := can_two h fun a b h => by
  obtain ⟨h1, h2⟩ := Bool.and_eq_true_iff.mp h
  exact ⟨can_sq h1, can_sq h2⟩
theorem can_emp {d : PyData} (h : emptyD d = true) : d.canLay0 = true := by
  unfold emptyD at h
  split at h
  · rename_i e; rw [can_items e]; rfl
  · cases h
theorem can_last {d : PyData} (h : lastBookD d = true) : d.canLay0 = true := can_two h fun a b h => by
  obtain ⟨h1, h2⟩ := Bool.and_eq_true_iff.mp h
  exact ⟨can_mv h1, can_emp h2⟩
theorem can_pair {d : PyData} (h : pairB d = true) : d.canLay0 = true := can_two h fun a b h => by
  obtain ⟨h1, h2⟩ := Bool.and_eq_true_iff.mp h
  exact ⟨can_mv h1, can_last h2⟩
theorem can_all {f : PyData → Bool} (k : ∀ d, f d = true → d.canLay0 = true) : ∀ ds : List PyData, ds.all f = true → PyData.canLayAll0 ds = true
  | [], _ => rfl
  | d :: ds, h => by
    rw [List.all_cons, Bool.and_eq_true] at h
    rw [PyData.canLayAll0, k d h.1, can_all k ds h.2]; rfl
theorem bk_of {c : Addr} {H : Hp} {v : V} {d : PyData} (h : DV K c H v (fixD d)) (sl : slimD (fixD d) = true) (dp : (fixD d).depth ≤ 60) (b : bookD (fixD d) = true) : ∃ x as, BkW K c H v x as ∧ as.length ≤ 1000 := by
  obtain ⟨a, x, y, p, q, rfl, s1, _, hy, b1, e1⟩ := twoOf h b
  have b2 : allD pairB (fixD q) = true := (Bool.and_eq_true_iff.mp b1).2
  have slq := (two_slim e1 sl).2
  cases e2 : itemsD (fixD q) with
  | none => rw [allD_no e2] at b2; cases b2
  | some es =>
    rw [allD_some e2] at b2
    have few := (slim_items e2 slq).1
    have dq := dep_items e1
    have dq2 := dep_items e2
    simp only [PyData.depthAll] at dq
    obtain ⟨b', zs, ps, rfl, s2, rfl, r⟩ := tupOf hy e2
    have hq : fixD q = .tuple (fixDs ps) := by
      cases q with
      | list xs => show PyData.tuple (fixDs xs) = _; rw [show fixDs xs = fixDs ps from Option.some.inj e2]
      | tuple xs => show PyData.tuple (fixDs xs) = _; rw [show fixDs xs = fixDs ps from Option.some.inj e2]
      | _ => cases e2
    obtain ⟨bs, as, rfl, hl, hh⟩ := as_of ps zs r fun p hp => List.all_eq_true.mp b2 _ (by rw [fixDs_map]; exact List.mem_map_of_mem hp)
    have l1 : as.length = (fixDs ps).length := by rw [← hl, ← r.len, List.length_map]
    exact ⟨x, as, ⟨a, b', bs, fixDs ps, rfl, s1, s2, hl, hh, by rw [← hq]; exact hy, l1.symm, can_all (fun _ => can_pair) _ b2, by omega⟩, by rw [l1]; exact few⟩
/-! refusals -/
def RowW (K : PySem.W.Frag) (c : Addr) (H : Hp) (e : Addr) : Row → Prop
  | .bare x => ∃ r, SqT K H e [x, r] ∧ (r = .non ∨ ∃ z, r = .ref z ∧ SqT K H z [])
  | .ans x y ls => ∃ (r g : Addr) (gs : List Addr), SqT K H e [x, .ref r] ∧ SqT K H r [y, .ref g] ∧ SqT K H g (gs.map V.ref) ∧ gs.length = ls.length ∧ ∀ (i : Nat) (q : Addr) (l : V), gs[i]? = some q → ls[i]? = some l → ∃ z, SqT K H q [l, .ref z] ∧ SqT K H z []
theorem ls_of {c : Addr} {H : Hp} : ∀ (ps : List PyData) (zs : List V), DVs K c H zs (fixDs ps) → (∀ p ∈ ps, lastBookD (fixD p) = true) → ∃ (gs : List Addr) (ls : List V), zs = gs.map V.ref ∧ gs.length = ls.length ∧ ∀ (i : Nat) (q : Addr) (l : V), gs[i]? = some q → ls[i]? = some l → ∃ z, SqT K H q [l, .ref z] ∧ SqT K H z []
  | [], _, h, _ => by
    simp only [fixDs] at h
    cases h; exact ⟨[], [], rfl, rfl, fun i e p h => by simp at h⟩
  | p :: ps, _, h, ok => by
    simp only [fixDs] at h
    cases h with
    | cons h1 h2 =>
      obtain ⟨bs, as, rfl, hl, hh⟩ := ls_of ps _ h2 fun q hq => ok q (List.mem_cons_of_mem _ hq)
      obtain ⟨a, x, y, d1, d2, rfl, s1, _, hy, b1, _⟩ := twoOf h1 (ok p List.mem_cons_self)
      obtain ⟨z, rfl, s3, _⟩ := emptyOf hy (Bool.and_eq_true_iff.mp b1).2
      refine ⟨a :: bs, x :: as, rfl, by rw [List.length_cons, List.length_cons, hl], fun i e p he hp => ?_⟩
      match i, he, hp with
      | 0, he, hp => simp at he hp; subst he hp; exact ⟨z, s1, s3⟩
      | i + 1, he, hp => exact hh i e p (by simpa using he) (by simpa using hp)
/-- one row -/
theorem row_of {c : Addr} {H : Hp} {v : V} {d : PyData} (h : DV K c H v (fixD d)) (sl : slimD (fixD d) = true) (b : lastBookD (fixD d) = true ∨ rowD (fixD d) = true) : ∃ e r, v = .ref e ∧ RowW K c H e r ∧ (∀ x y ls, r = .ans x y ls → ls.length ≤ 1000) := by
  rcases b with b | b
  · obtain ⟨a, x, y, p, q, rfl, s1, _, hy, b1, _⟩ := twoOf h b
    obtain ⟨z, rfl, s3, _⟩ := emptyOf hy (Bool.and_eq_true_iff.mp b1).2
    exact ⟨a, .bare x, rfl, ⟨_, s1, .inr ⟨z, rfl, s3⟩⟩, fun _ _ _ z => nomatch z⟩
  · obtain ⟨a, x, y, p, q, rfl, s1, _, hy, b1, e1⟩ := twoOf h b
    have b2 : replyD (fixD q) = true := (Bool.and_eq_true_iff.mp b1).2
    have slq := (two_slim e1 sl).2
    unfold replyD at b2
    cases bn : isNoD (fixD q) with
    | true =>
      have : y = .non := by
        have := isNo_iff hy
        rw [bn] at this
        exact of_decide_eq_true this
      exact ⟨a, .bare x, rfl, ⟨_, s1, .inl this⟩, fun _ _ _ z => nomatch z⟩
    | false =>
      rw [bn, Bool.false_or] at b2
      obtain ⟨r, y1, y2, p1, p2, rfl, s2, _, hy2, b3, e3⟩ := twoOf hy b2
      have b4 : lastRefD (fixD p2) = true := (Bool.and_eq_true_iff.mp b3).2
      have slp := (two_slim e3 slq).2
      unfold lastRefD at b4
      cases e4 : itemsD (fixD p2) with
      | none => rw [allD_no e4] at b4; cases b4
      | some es =>
        rw [allD_some e4] at b4
        have few := (slim_items e4 slp).1
        obtain ⟨g, zs, ps, rfl, s3, rfl, rr⟩ := tupOf hy2 e4
        obtain ⟨gs, ls, rfl, hl, hh⟩ := ls_of ps zs rr fun p hp => List.all_eq_true.mp b4 _ (by rw [fixDs_map]; exact List.mem_map_of_mem hp)
        have l1 : ls.length = (fixDs ps).length := by rw [← hl, ← rr.len, List.length_map]
        exact ⟨a, .ans x y1 ls, rfl, ⟨r, g, gs, s1, s2, s3, hl, hh⟩, fun _ _ _ z => by cases z; rw [l1]; exact few⟩
theorem RowW.v {c : Addr} {H : Hp} {e : Addr} : ∀ {r : Row}, RowW K c H e r → RowV K H e r
  | .bare _, h => h
  | .ans _ _ _, h => h
theorem rows_of {c : Addr} {H : Hp} : ∀ (ps : List PyData) (zs : List V), DVs K c H zs (fixDs ps) → slimDs (fixDs ps) = true → (∀ p ∈ ps, lastBookD (fixD p) = true ∨ rowD (fixD p) = true) → ∃ (es : List Addr) (rs : List Row), zs = es.map V.ref ∧ es.length = rs.length ∧ (∀ (i : Nat) (e : Addr) (r : Row), es[i]? = some e → rs[i]? = some r → RowV K H e r) ∧ ∀ x y ls, Row.ans x y ls ∈ rs → ls.length ≤ 1000
  | [], _, h, _, _ => by
    simp only [fixDs] at h
    cases h; exact ⟨[], [], rfl, rfl, fun i e p h => by simp at h, fun _ _ _ h => nomatch h⟩
  | p :: ps, _, h, sl, ok => by
    simp only [fixDs] at h sl
    obtain ⟨sl1, sl2⟩ := Bool.and_eq_true_iff.mp (show (slimD (fixD p) && slimDs (fixDs ps)) = true from sl)
    cases h with
    | cons h1 h2 =>
      obtain ⟨es, rs, rfl, hl, hh, h3⟩ := rows_of ps _ h2 sl2 fun q hq => ok q (List.mem_cons_of_mem _ hq)
      obtain ⟨e, r, rfl, hr, hls⟩ := row_of h1 sl1 (ok p List.mem_cons_self)
      refine ⟨e :: es, r :: rs, rfl, by rw [List.length_cons, List.length_cons, hl], fun i e' r' he hr' => ?_, fun x y ls hm => ?_⟩
      · match i, he, hr' with
        | 0, he, hr' => simp at he hr'; subst he hr'; exact hr.v
        | i + 1, he, hr' => exact hh i e' r' (by simpa using he) (by simpa using hr')
      · rcases List.mem_cons.mp hm with hm | hm
        · exact hls x y ls hm.symm
        · exact h3 x y ls hm
theorem rf_of {c : Addr} {H : Hp} {v : V} {d : PyData} (h : DV K c H v (fixD d)) (sl : slimD (fixD d) = true) (b : refD (fixD d) = true) : ∃ rs, RefV K H v rs ∧ rs.length ≤ 1000 ∧ ∀ x y ls, Row.ans x y ls ∈ rs → ls.length ≤ 1000 := by
  rw [ref_eq] at b
  cases e : itemsD (fixD d) with
  | none =>
    unfold lastRefD at b
    rw [allD_no e, allD_no e] at b; cases b
  | some es =>
    unfold lastRefD at b
    rw [allD_some e, allD_some e] at b
    obtain ⟨few, sl2⟩ := slim_items e sl
    obtain ⟨a, zs, ps, rfl, s, rfl, r⟩ := tupOf h e
    obtain ⟨es, rs, rfl, hl, hh, h3⟩ := rows_of ps zs r sl2 fun p hp => by
      have hm : fixD p ∈ fixDs ps := by rw [fixDs_map]; exact List.mem_map_of_mem hp
      rcases Bool.or_eq_true_iff.mp b with b | b
      · exact .inl (List.all_eq_true.mp b _ hm)
      · exact .inr (List.all_eq_true.mp b _ hm)
    exact ⟨rs, ⟨a, es, rfl, s, hl, hh⟩, by rw [← hl, ← List.length_map (f := V.ref), r.len]; exact few, h3⟩
end
end K39

set_option Elab.async false
set_option linter.all false
set_option maxRecDepth 100000
set_option maxHeartbeats 4000000
namespace K39
open PySem PySem.Spec PyProof.Rows L2 Gs
theorem mon_no : MonB (fun _ _ _ _ => False) := fun _ _ _ _ _ _ h => h
theorem eqW_no {X : Cx} : EqW X 1 (fun _ _ _ _ => False) := fun _ _ _ _ _ _ _ _ _ _ _ _ _ _ h => h.elim
section
variable {P : Program} {w : World} {K : PySem.W.Frag} {mg : Str → Option Value} {base : Heap}
def spWa (T : Tx K mg) : Sp := fun vs H Q _ => ∃ a dx p u, vs = [.ref a] ∧
  ((H a = some (.ins T.c_Won dx [("word", .str "won"), ("parts", .ref p), ("book", u)]) ∧ ∃ c x as, BkW K c H u x as ∧ as.length ≤ 1000 ∧ ∀ H' r, Same H H' → RowsAt H H' r (bkRows x as) → Q r H') ∨
   (H a = some (.ins T.c_Unwon dx [("word", .str "unwon"), ("parts", .ref p), ("replies", u)]) ∧ ∃ rs, RefV K H u rs ∧ rs.length ≤ 1000 ∧ (∀ x y ls, Row.ans x y ls ∈ rs → ls.length ≤ 1000) ∧ ∀ H' r, Same H H' → RowsAt H H' r (rs.flatMap Row.rows) → Q r H'))
theorem dtE {H : Hp} {t q : Addr} {xs : List V} (h1 : SqT K H t xs) (h2 : SqT K H q []) : DTupW K (fun _ _ _ _ => False) (.ref t) (.ref q) xs.isEmpty H := by
  refine ⟨t, q, xs, [], fun _ => true, rfl, rfl, h1, h2, fun i x y _ hy => by simp at hy, ?_⟩
  cases xs <;> rfl
theorem O__law_ways (T : Tx K mg) : FnOk P w K mg base CX0 4 T.a__law_ways T.d__law_ways ["paper"] (spWa T) := by
  refine T.F__law_ways.ok sc__law_ways (fun vs H Q E h => ?_) (fun cdv A outer s H vs Q E hr h => ?_)
  · obtain ⟨_, _, _, _, rfl, _⟩ := h; rfl
  obtain ⟨a, dx, p, u, rfl, h⟩ := h
  refine ⟨_, (pss_cons (ps_set (i := 1) sc__law_ways.nd rfl (Or.inl rfl) (pe_lst pa_nil))
      (pss_cons (ps_if (pt_val (pe_callB call_isi (by rfl) T.z_isinstance (by decide +kernel) (pa_cons (pv 0) (pa_cons (pe_glob (v := .ref T.c_Won) (by rfl) T.m_Won rfl) pa_nil)))) (pss_cons (ps_asg (pe_fldK (K := K) rfl (pv 0)) (pg_tup rfl (pgs_cons (pg_name (i := 2) sc__law_ways.nd rfl (Or.inr rfl)) (pgs_cons (pg_name (i := 3) sc__law_ways.nd rfl (Or.inl rfl)) pgs_nil))))
      (pss_cons (ps_setLc (i := 1) (own := [("answer", 4), ("later", 5)]) (g := (gTup K 2 (gCons (gName 4) (gCons (gName 5) gNil)))) rfl sc__law_ways.nd rfl rfl (sw_true rfl rfl rfl (by decide +kernel)) (pi_tup (pv 3)) (blkOk_by (N := n__law_ways) (sc := defScope s__law_ways) (by decide +kernel)) (fun _ _ _ _ _ => (pg_tup rfl (pgs_cons (pg_name (i := 4) sc__law_ways.nd rfl (Or.inl rfl)) (pgs_cons (pg_name (i := 5) sc__law_ways.nd rfl (Or.inl rfl)) pgs_nil)))) (fun _ _ _ _ _ => pts_nil) (fun _ _ _ _ _ => (pe_tup (pa_cons (pv 2) (pa_cons (pv 4) (pa_cons (pe_ix (r := rIx K) ix_seq (pv 5) pe_int (fun _ _ => rfl)) pa_nil))))))
      (pss_one (ps_ret (pe_ifExp (pt_cmpR (op_neD hr.units) (pv 3) (pe_tup pa_nil) (nomark _)) (pe_callTy call_tuple_of (by rfl) T.z_tuple (by decide +kernel) (pa_cons (pv 1) pa_nil)) (pe_tup (pa_cons (pe_tup (pa_cons (pv 2) pa_nil)) pa_nil))))))) pss_nil)
      (pss_cons (ps_for PassesOwn.never rfl (pi_tup (pe_fldK (K := K) rfl (pv 0))) (pg_tup rfl (pgs_cons (pg_name (i := 2) sc__law_ways.nd rfl (Or.inr rfl)) (pgs_cons (pg_name (i := 6) sc__law_ways.nd rfl (Or.inr rfl)) pgs_nil))) (pss_one (ps_if (PW.pt (pw_or (pt_cmpR op_isN (pv 6) pe_non (nomark _)) (pw_or1 (pt_cmpR (op_eqW (rcW_tup (D := fun _ _ _ _ => False) mon_no eqW_no) (hr.mono (by decide))) (pv 6) (pe_tup pa_nil) (nomark _))))) (pss_one (ps_expr (pe_bm PySem.F.plainAttrs_list PySem.F.slot_list_append PySem.F.type_list_append mt_append (pv 1) (pa_cons (pe_tup (pa_cons (pv 2) pa_nil)) pa_nil)))) (pss_one (ps_if (pt_cmpR (op_eqW (rcW_tup (D := fun _ _ _ _ => False) mon_no eqW_no) (hr.mono (by decide))) (pe_ix ix_seq (pv 6) pe_int (fun _ _ => rfl)) (pe_tup pa_nil) (nomark _)) (pss_one (ps_expr (pe_bm PySem.F.plainAttrs_list PySem.F.slot_list_append PySem.F.type_list_append mt_append (pv 1) (pa_cons (pe_tup (pa_cons (pv 2) (pa_cons (pe_ix ix_seq (pv 6) pe_int (fun _ _ => rfl)) pa_nil))) pa_nil)))) (pss_one (ps_expr (pe_bm PySem.F.plainAttrs_list PySem.F.slot_list_extend PySem.F.type_list_extend mt_extend (pv 1) (pa_cons (pe_lc (own := [("later", 5), ("nothing", 7)]) (g := (gTup K 2 (gCons (gName 5) (gCons (gName 7) gNil)))) rfl sc__law_ways.nd (pi_tup (pe_ix ix_seq (pv 6) pe_int (fun _ _ => rfl))) (blkOk_by (N := n__law_ways) (sc := defScope s__law_ways) (by decide +kernel)) (fun _ _ _ _ _ => (pg_tup rfl (pgs_cons (pg_name (i := 5) sc__law_ways.nd rfl (Or.inl rfl)) (pgs_cons (pg_name (i := 7) sc__law_ways.nd rfl (Or.inl rfl)) pgs_nil)))) (fun _ _ _ _ _ => pts_nil) (fun _ _ _ _ _ => (pe_tup (pa_cons (pv 2) (pa_cons (pe_ix (r := rIx K) ix_seq (pv 6) pe_int (fun _ _ => rfl)) (pa_cons (pv 5) pa_nil)))))) pa_nil)))))))))
      (pss_one (ps_ret (pe_callTy call_tuple_of (by rfl) T.z_tuple (by decide +kernel) (pa_cons (pv 1) pa_nil))))))), ?_⟩
  refine ⟨szl rfl, fun F hF => ?_⟩
  have s0 : Same H (upd H F (.lst [])) := same_new hF
  have hF1 : upd H F (.lst []) F = some (.lst []) := upd_same
  dsimp only [gName]
  generalize upd H F _ = H1 at s0 hF1 ⊢
  rcases h with ⟨ha, c, x, as, ⟨ba, b, bs, es, rfl, g1, g2, g3, g4, g5, g6, g7, g8⟩, few, k⟩ | ⟨ha, rs, ⟨ra, es, rfl, g1, g2, g3⟩, few, few2, k⟩
  · refine ⟨_, rfl, .ref a, .ref T.c_Won, .ref T.c_Won, .ref T.c_Won, true, rfl, .own _, T.ty_Won.ty (s0 _ _ ha), T.kw_Won, _, rfl, iteT ?_⟩
    have ha1 := s0 _ _ ha
    refine ⟨_, rfl, a, _, dx, _, _, rfl, ha1, T.cl_Won, T.nF_Won_book, rfl, ba, _, rfl, s0.seqT g1, rfl, _, _, rfl, _, _, rfl, rfl, ?_⟩
    dsimp only [List.set]
    refine ⟨_, rfl, b, rfl, ⟨_, s0.seqT g2⟩, fun D hD => ?_⟩
    refine lc_it (walk_tup (K := K) (a := b) (xs := bs.map V.ref)) (fun i H' => Same H1 H' ∧ RowsL H H' D ((as.take i).map fun p => [x, p.1, p.2])) ⟨same_new hD, by rw [List.take_zero]; exact .nil upd_same⟩ (fun i H' _ h => h.1.seqT (s0.seqT g2)) ?_ ?_
    · rintro i w' H2 H2' hi ⟨s2, r2⟩ ⟨rfl, hw⟩
      rw [List.getElem?_map] at hw
      obtain ⟨eb, heb, rfl⟩ := Option.map_eq_some_iff.mp hw
      have hib : i < bs.length := (List.getElem?_eq_some_iff.mp heb).1
      have hpi : as[i]? = some as[i] := List.getElem?_eq_getElem (by omega)
      obtain ⟨l, z, q1, q2, q3⟩ := g4 i eb _ heb hpi
      generalize as[i] = p at hpi q1 q2
      have s02 := s0.trans s2
      refine ⟨eb, _, rfl, s02.seqT q1, rfl, _, _, rfl, _, _, rfl, rfl, rfl, ?_⟩
      refine ⟨_, rfl, _, rfl, _, rfl, ixA (.inr (s02.seqT q2)) rfl ⟨szl rfl, fun r hr => ?_⟩⟩
      have s4 : Same H2' (upd H2' r (.tup [x, p.1, p.2])) := same_new hr
      obtain ⟨acc, hacc, lacc⟩ := (r2.same s4).acc
      refine ⟨acc, hacc, szK (by rw [lacc, List.length_map, List.length_take]; omega), same_own (s2.trans s4) hD, ?_⟩
      rw [List.take_add_one, hpi, List.map_append]
      exact (r2.same s4).push hacc (s02.free hr) upd_same
    rintro H2 ⟨s2, r2⟩
    rw [List.length_map, g3, List.take_length] at r2
    have s02 := s0.trans s2
    dsimp only [gName]
    refine ⟨_, rfl, szl rfl, fun q hq => ?_⟩
    have s3 : Same H2 (upd H2 q (.tup [])) := same_new hq
    have sh : SeqAt.shaped (.tuple es) = true := by
      unfold SeqAt.shaped
      have : PyData.canLay0 (.tuple es) = true := g7
      rw [this, Bool.true_and, decide_eq_true_eq]
      simp only [PyData.depth]; omega
    refine ⟨.tuple es, .tuple [], dp_same (s02.trans s3) _ _ (g5.dp _ _ g7), .tup (.of upd_same) .nil, sh, by decide +kernel, _, rfl, ?_⟩
    generalize upd H2 q _ = H3 at s3 ⊢
    have s03 := s02.trans s3
    by_cases ea : as = []
    · subst ea
      rw [List.length_eq_zero_iff.mp g6]
      refine iteF ⟨_, rfl, szl rfl, fun p1 hp1 => ⟨szl rfl, fun p2 hp2 => ?_⟩⟩
      have s4 : Same H3 (upd H3 p1 (.tup [x])) := same_new hp1
      refine k _ _ ((s03.trans s4).trans (same_new hp2)) ⟨p2, [p1], rfl, s03.free (s4.free hp2), upd_same, rfl, fun i q vs hq hv => ?_⟩
      match i, hq, hv with
      | 0, hq, hv =>
        cases hq; cases hv
        exact ⟨s03.free hp1, by rw [upd_ne (ne_of_none (show upd H3 p1 (.tup [x]) p1 = some (.tup [x]) from upd_same) hp2)]; exact upd_same⟩
      | i + 1, hq, hv => simp at hq
    · have er : bkRows x as = as.map fun p => [x, p.1, p.2] := by unfold bkRows; rw [if_neg ea]
      rw [er] at k
      have ne : (!PyData.eqv (.tuple es) (.tuple [])) = true := by
        cases es with
        | nil => exact absurd (List.length_eq_zero_iff.mp g6.symm) ea
        | cons _ _ => rfl
      rw [ne]
      obtain ⟨acc, hacc, _⟩ := (r2.same s3).acc
      refine iteT ⟨_, rfl, D, acc, rfl, .inl ⟨.of hacc, fun t ht => ?_⟩⟩
      exact k _ _ (s03.trans (same_new ht)) ((r2.same s3).done hacc ht (s03.free ht))
  · refine ⟨_, rfl, .ref a, .ref T.c_Won, .ref T.c_Unwon, .ref T.c_Won, false, rfl, .own _, T.ty_Unwon.ty (s0 _ _ ha), T.kw_Unwon, _, rfl, iteF ?_⟩
    dsimp only [tNext]
    have ha1 := s0 _ _ ha
    refine ⟨_, rfl, a, _, dx, _, _, rfl, ha1, T.cl_Unwon, T.nF_Unwon_replies, rfl, ra, rfl, ⟨_, s0.seqT g1⟩, ?_⟩
    refine for_it (walk_tup (K := K) (a := ra) (xs := es.map V.ref)) (fun i σ H' => (∃ t2 t6 : Option V, σ = [some (.ref a), some (.ref F), t2, none, none, none, t6, none]) ∧ Same H H' ∧ RowsL H H' F ((rs.take i).flatMap Row.rows)) ⟨⟨_, _, rfl⟩, s0, by rw [List.take_zero]; exact .nil hF1⟩ (fun i σ H' _ h => h.2.1.seqT g1) ?_ ?_
    · rintro i w' σ H2 H2' hi ⟨⟨t2, t6, rfl⟩, s2, r2⟩ ⟨rfl, hw⟩
      rw [List.getElem?_map] at hw
      obtain ⟨e, he, rfl⟩ := Option.map_eq_some_iff.mp hw
      have hie : i < es.length := (List.getElem?_eq_some_iff.mp he).1
      have hri : rs[i]? = some rs[i] := List.getElem?_eq_getElem (by omega)
      have rv := g3 i e _ he hri
      generalize rs[i] = r at hri rv
      have rm : r ∈ rs := List.mem_of_getElem? hri
      have nx : (rs.take (i + 1)).flatMap Row.rows = (rs.take i).flatMap Row.rows ++ r.rows := by
        rw [List.take_add_one, hri, List.flatMap_append]; simp
      have bound : ((rs.take i).flatMap Row.rows).length + r.rows.length ≤ 1000000 := by
        rw [← List.length_append, ← nx]
        refine Nat.le_trans (flat_rows fun q hq => rows_len fun x y ls z => few2 x y ls (z ▸ List.mem_of_mem_take hq)) ?_
        have h3 : (rs.take (i + 1)).length ≤ rs.length := List.length_take_le' ..
        omega
      cases r with
      | bare x =>
        obtain ⟨rp, h1, h2⟩ := rv
        refine ⟨e, _, rfl, s2.seqT h1, rfl, _, _, rfl, _, _, rfl, rfl, ?_⟩
        dsimp only [List.set]
        refine tt_cut (t := tOr _ _) (fun b H' => b = true ∧ Same H2' H') (fun Q' kq => ?_) (fun b H3 hb => ?_)
        · rcases h2 with rfl | ⟨z, rfl, hz⟩
          · exact ⟨_, rfl, rfl, _, rfl, iteT (kq _ _ ⟨rfl, Same.refl _⟩)⟩
          · refine ⟨_, rfl, rfl, _, rfl, iteF ?_⟩
            refine ⟨_, rfl, szl rfl, fun q hq => ⟨true, dtE ((s2.trans (same_new hq)).seqT hz) (.of upd_same), fun H' s => ⟨_, rfl, kq _ _ ⟨rfl, (same_new hq).trans s⟩⟩⟩⟩
        obtain ⟨rfl, s3⟩ := hb
        refine iteT ?_
        have s23 := s2.trans s3
        obtain ⟨acc, hacc, lacc⟩ := (r2.same s3).acc
        refine ⟨_, rfl, .inl ⟨rfl, acc, .of hacc⟩, _, rfl, szl rfl, fun q hq => ?_⟩
        have s4 : Same H3 (upd H3 q (.tup [x])) := same_new hq
        refine ⟨F, acc, _, rfl, rfl, s4 _ _ hacc, szK (by have : (Row.bare x).rows.length = 1 := rfl; omega), ⟨_, _, rfl⟩, same_own (s23.trans s4) hF, ?_⟩
        rw [nx]
        exact ((r2.same s3).same s4).push (s4 _ _ hacc) (s23.free hq) upd_same
      | ans x y ls =>
        obtain ⟨rr, g, gs, h1, h2, h3, h4, h5⟩ := rv
        refine ⟨e, _, rfl, s2.seqT h1, rfl, _, _, rfl, _, _, rfl, rfl, ?_⟩
        dsimp only [List.set]
        refine ⟨_, rfl, rfl, _, rfl, iteF ?_⟩
        refine ⟨_, rfl, szl rfl, fun q hq => ⟨false, dtE (xs := [y, .ref g]) ((s2.trans (same_new hq)).seqT h2) (.of upd_same), fun H3 s => ⟨_, rfl, iteF ?_⟩⟩⟩
        have s3 : Same H2' H3 := (same_new hq).trans s
        clear hq s
        have s23 := s2.trans s3
        refine ⟨_, rfl, ixA (.inr (s23.seqT h2)) rfl ⟨szl rfl, fun q hq => ⟨(gs.map V.ref).isEmpty, dtE ((s23.trans (same_new hq)).seqT h3) (.of upd_same), fun H4 s => ⟨_, rfl, ?_⟩⟩⟩⟩
        have s4 : Same H3 H4 := (same_new hq).trans s
        clear hq s
        have s24 := s23.trans s4
        have r4 := (r2.same s3).same s4
        obtain ⟨acc, hacc, lacc⟩ := r4.acc
        by_cases el : ls = []
        · subst el
          have : gs = [] := List.length_eq_zero_iff.mp h4
          subst this
          refine iteT ⟨_, rfl, .inl ⟨rfl, acc, .of hacc⟩, _, rfl, _, rfl, ixA (.inr (s24.seqT h2)) rfl ⟨szl rfl, fun q hq => ?_⟩⟩
          have s5 : Same H4 (upd H4 q (.tup [x, y])) := same_new hq
          refine ⟨F, acc, _, rfl, rfl, s5 _ _ hacc, szK (by have : (Row.ans x y []).rows.length = 1 := rfl; omega), ⟨_, _, rfl⟩, same_own (s24.trans s5) hF, ?_⟩
          rw [nx]
          exact (r4.same s5).push (s5 _ _ hacc) (s24.free hq) upd_same
        · have ng : gs ≠ [] := fun z => el (List.length_eq_zero_iff.mp (by rw [← h4, z]; rfl))
          have er : (Row.ans x y ls).rows = ls.map fun l => [x, y, l] := by
            show (onV ls).map _ = _
            unfold onV
            rw [if_neg el, List.map_map]; rfl
          rw [show (gs.map V.ref).isEmpty = false by cases gs with | nil => exact absurd rfl ng | cons _ _ => rfl]
          refine iteF ⟨_, rfl, .inl ⟨rfl, acc, .of hacc⟩, ?_⟩
          refine ⟨_, rfl, ixA (.inr (s24.seqT h2)) rfl ⟨g, rfl, ⟨_, s24.seqT h3⟩, fun D hD => ?_⟩⟩
          have nFD : F ≠ D := ne_of_none hacc hD
          refine lc_it (walk_tup (K := K) (a := g) (xs := gs.map V.ref)) (fun j H' => Same H4 H' ∧ RowsL H H' D ((ls.take j).map fun l => [x, y, l])) ⟨same_new hD, by rw [List.take_zero]; exact .nil upd_same⟩ (fun j H' _ h => h.1.seqT (s24.seqT h3)) ?_ ?_
          · rintro j w3 H5 H5' hj ⟨s5, r5⟩ ⟨rfl, hw3⟩
            rw [List.getElem?_map] at hw3
            obtain ⟨q, hq, rfl⟩ := Option.map_eq_some_iff.mp hw3
            have hjt : j < gs.length := (List.getElem?_eq_some_iff.mp hq).1
            have hlj : ls[j]? = some ls[j] := List.getElem?_eq_getElem (by omega)
            obtain ⟨z, q1, q2⟩ := h5 j q _ hq hlj
            generalize ls[j] = l at hlj q1
            have s25 := s24.trans s5
            refine ⟨q, _, rfl, s25.seqT q1, rfl, _, _, rfl, _, _, rfl, rfl, rfl, ?_⟩
            refine ⟨_, rfl, _, rfl, ixA (.inr (s25.seqT h2)) rfl ⟨_, rfl, szl rfl, fun t ht => ?_⟩⟩
            have s6 : Same H5' (upd H5' t (.tup [x, y, l])) := same_new ht
            obtain ⟨acc5, hacc5, lacc5⟩ := (r5.same s6).acc
            have := few2 x y ls rm
            refine ⟨acc5, hacc5, szK (by rw [lacc5, List.length_map, List.length_take]; omega), same_own (s5.trans s6) hD, ?_⟩
            rw [List.take_add_one, hlj, List.map_append]
            exact (r5.same s6).push hacc5 (s25.free ht) upd_same
          · rintro H5 ⟨s5, r5⟩
            rw [List.length_map, h4, List.take_length, ← er] at r5
            obtain ⟨zs, hzs, lzs⟩ := r5.acc
            refine ⟨F, D, acc, zs, rfl, rfl, s5 _ _ hacc, hzs, szM (by omega), ⟨_, _, rfl⟩, same_own (s24.trans s5) hF, ?_⟩
            rw [nx]
            exact (r4.same s5).app r5 (s5 _ _ hacc) hzs
    · rintro σ H2 ⟨⟨t2, t6, rfl⟩, s2, r2⟩
      rw [List.length_map, g2, List.take_length] at r2
      obtain ⟨acc, hacc, _⟩ := r2.acc
      refine ⟨_, rfl, F, acc, rfl, .inl ⟨.of hacc, fun t ht => ?_⟩⟩
      exact k _ _ (s2.trans (same_new ht)) (r2.done hacc ht (s2.free ht))
end
end K39

set_option Elab.async false
set_option linter.all false
set_option maxRecDepth 100000
set_option maxHeartbeats 4000000
namespace K39
open PySem PySem.Spec PyProof.Rows L2 Gs
theorem pX {X : Cx} {E : XK} {W : WX} (tk : Takes X W) (hW : ∀ cls d σ H, E cls d H → W cls d σ H) : Passes (L2.CX X.prog X.w) X E := passes_call tk hW
section
variable {P : Program} {w : World} {K : PySem.W.Frag} {mg : Str → Option Value} {base : Heap}
/-- what is heard: the part, or what courses answers -/
def Hears (T : Tx K mg) (Q : VK) : XK := fun cls d H' => cls = .ref T.c_BadPaper ∧ ∃ dd, d = some dd ∧ H' dd = some (.xd [("part", .str "paper")]) ∧ ∀ H'', Same H' H'' → Q (.str "paper") H''
def spHe (T : Tx K mg) : Sp := fun vs H Q _ => ∃ v, vs = [v] ∧ ∀ H1, Same H H1 → spCo T [v] H1 Q (Hears T Q)
theorem spCo_imp {T : Tx K mg} {v : V} {H : Hp} {Q Q' : VK} {E E' : XK} (hq : ∀ r H', Q r H' → Q' r H') (he : ∀ c d H', E c d H' → E' c d H') (h : spCo T [v] H Q E) : spCo T [v] H Q' E' := by
  have xp : ∀ {D p H}, XP D p H E → XP D p H E' := fun h d H' a b c => he _ _ _ (h d H' a b c)
  obtain ⟨v', e, h⟩ := h
  cases e
  refine ⟨v, rfl, ?_⟩
  rcases h with ⟨t, a, b, c, x⟩ | ⟨a, dx, p, u, c, d, e, h1, h2, h3, h⟩ | ⟨a, dx, p, u, c, d, e, h1, h2, h3, h⟩
  · exact .inl ⟨t, a, b, c, xp x⟩
  · refine .inr (.inl ⟨a, dx, p, u, c, d, e, h1, h2, h3, ?_⟩)
    rcases h with ⟨a, x⟩ | ⟨a, x, as, b, f, k⟩
    · exact .inl ⟨a, xp x⟩
    · exact .inr ⟨a, x, as, b, f, fun H' r s z => hq _ _ (k H' r s z)⟩
  · refine .inr (.inr ⟨a, dx, p, u, c, d, e, h1, h2, h3, ?_⟩)
    rcases h with ⟨a, x⟩ | ⟨a, rs, b, f, f2, k⟩
    · exact .inl ⟨a, xp x⟩
    · exact .inr ⟨a, rs, b, f, f2, fun H' r s z => hq _ _ (k H' r s z)⟩
theorem O__law_heard (T : Tx K mg) : FnOk P w K mg base CX0 20 T.a__law_heard T.d__law_heard ["value"] (spHe T) := by
  refine T.F__law_heard.ok sc__law_heard (fun vs H Q E h => ?_) (fun cdv A outer s H vs Q E hr h => ?_)
  · obtain ⟨_, rfl, _⟩ := h; rfl
  obtain ⟨v, rfl, h⟩ := h
  have hgF : Names (cxOf CX0 P w K mg base n__law_heard "_law_heard" (defScope s__law_heard) T.a__law_heard cdv A outer s H E).nox "BadPaper" (.ref T.c_BadPaper) := ⟨rfl, by decide, .inl T.m_BadPaper⟩
  refine ⟨_, pss_cons (ps_asg (pe_tup (pa_cons pe_non (pa_cons pe_non pa_nil))) (pg_tup rfl (pgs_cons (pg_name (i := 1) sc__law_heard.nd rfl (Or.inl rfl)) (pgs_cons (pg_name (i := 2) sc__law_heard.nd rfl (Or.inl rfl)) pgs_nil)))) (pss_cons (ps_tryK
      (tb := fun W D σ H => ∃ Ech : XK, (∀ cls d σ' H', Ech cls d H' → W cls d σ' H') ∧ tAsg (tCall (spCo T) [] Ech (tCons (tVar 0) tNil)) (gName 1) D σ H)
      (i := 3) rfl rfl rfl LamX.takes0 (fun W pn xe tk _ => ?_) hgF sc__law_heard.nd rfl rfl
      (fun a ob cls d pn hz hf => pss_one (ps_set (i := 2) sc__law_heard.nd rfl (Or.inl rfl) (pv 3)))) (pss_one (ps_ret (pe_ifExp (pt_cmpR op_isN (pv 2) pe_non (nomark _)) (pv 1) (pe_fv (pv 2)))))), ?_⟩
  · refine ⟨fun pins s' σ H' D I h' => ?_⟩
    obtain ⟨Ech, hW, h1⟩ := h'
    exact (pss_one (ps_set (i := 1) sc__law_heard.nd rfl (Or.inl rfl) (pe_call (O_courses T) (hr.mono (by decide)) (by rfl) T.m_courses T.F_courses.kp T.b_courses .nil (pX tk hW) (pa_cons (pv 0) pa_nil)))).run pins s' σ H' D I h1
  have len4 : ∀ {σ' : L2.St}, σ'.length = n__law_heard.length → ∃ x y z u, σ' = [x, y, z, u] := fun {σ'} h => by
    match σ', h with
    | [x, y, z, u], _ => exact ⟨x, y, z, u, rfl⟩
  refine ⟨szl rfl, fun q0 hq0 => ?_⟩
  have s0 : Same H (upd H q0 (.tup [.non, .non])) := same_new hq0
  refine ⟨q0, _, rfl, .of upd_same, rfl, _, _, rfl, _, _, rfl, rfl, ?_⟩
  have h1 := h _ s0
  generalize upd H q0 _ = H1 at s0 h1 ⊢
  dsimp only [List.set]
  refine ⟨Hears T Q, fun cls d σ' H' => ?_, _, rfl, ?_⟩
  · rintro ⟨rfl, dd, rfl, hdd, k⟩
    refine ⟨true, T.xm_BadPaper_BadPaper, fun _ hl a na => ?_, fun z => nomatch z⟩
    obtain ⟨x, y, z, u, rfl⟩ := len4 hl
    have sa : Same H' (upd H' a (exv a (.ref T.c_BadPaper) (some dd))) := same_new na
    have hE : ExI (upd H' a (exv a (.ref T.c_BadPaper) (some dd))) a T.c_BadPaper (some [("part", .str "paper")]) := ⟨dd, .inl upd_same, .inl (by rw [upd_ne (ne_of_none hdd na)]; exact hdd)⟩
    refine ⟨_, rfl, ?_⟩
    dsimp only [gName, List.set]
    refine ⟨_, rfl, rfl, _, rfl, iteF ?_⟩
    exact ⟨_, rfl, a, T.c_BadPaper, _, _, rfl, T.xf_BadPaper, T.no_BadPaper_part, hE, rfl, k _ sa⟩
  · refine spCo_imp (fun r H' hq => ?_) (fun _ _ _ z => z) h1
    dsimp only [gName, List.set]
    exact ⟨_, rfl, rfl, _, rfl, iteT ⟨_, rfl, hq⟩⟩
end
end K39

set_option Elab.async false
set_option linter.all false
set_option maxRecDepth 100000
set_option maxHeartbeats 4000000
namespace K39
open PySem PySem.Spec PyProof.Rows L2 Gs
section
variable {P : Program} {w : World} {K : PySem.W.Frag} {mg : Str → Option Value} {base : Heap}
/-- good data: no dicts, small -/
def GdD (d : PyData) : Prop := Fine 20 900 d ∧ d.canLay0 = true
theorem made_same {H : Hp} {x dx C : Addr} (hx : H x = none) (hd : H dx = none) (ne : dx ≠ x) : Same H (upd (upd H dx (.own x)) x (.ins C dx [])) := fun b o e => by
  rw [upd_ne (ne_of_none e hx), upd_ne (ne_of_none e hd)]; exact e
theorem made_ext {H H' : Hp} {x dx C : Addr} (hx : H x = none) (hd : H dx = none) (ne : dx ≠ x) (e : Ext x (upd (upd H dx (.own x)) x (.ins C dx [])) H') : Same H H' := fun b o h => e b o (ne_of_none h hx) (made_same hx hd ne b o h)
theorem same_ne {cP a C t b D t2 : Addr} {nm z nm2 z2 : Str} {H : Hp} {fs gs : List (Str × V)} {Q : VK} {E : XK} (pa : PaAt K cP H a C nm z t fs) (pb : PaAt K cP H b D nm2 z2 t2 gs) (ne : nm ≠ nm2 ∨ z ≠ z2) (k : ∀ H', Same H H' → Q (.bl false) H') : spSame K cP [.ref a, .ref b] H Q E := by
  refine ⟨a, C, t, nm, z, fs, _, rfl, pa, .inr ⟨b, D, t2, nm2, z2, gs, true, rfl, pb, fun e1 e2 => ?_, fun H' s => ?_⟩⟩
  · rcases ne with n | n
    · exact absurd e1 n
    · exact absurd e2 n
  · have e : (decide (nm = nm2) && decide (z = z2) && true) = false := by
      rcases ne with n | n
      · rw [decide_eq_false n]; rfl
      · rw [decide_eq_false n]; cases decide (nm = nm2) <;> rfl
    rw [e]
    exact k H' s
theorem same_eq {cP a C t b D t2 : Addr} {nm z : Str} {H : Hp} {fs gs : List (Str × V)} {r : Bool} {Q : VK} {E : XK} (pa : PaAt K cP H a C nm z t fs) (pb : PaAt K cP H b D nm z t2 gs) (hd : DTupW K (DMix K) (.ref t) (.ref t2) r H) (k : ∀ H', Same H H' → Q (.bl r) H') : spSame K cP [.ref a, .ref b] H Q E := by
  refine ⟨a, C, t, nm, z, fs, _, rfl, pa, .inr ⟨b, D, t2, nm, z, gs, r, rfl, pb, fun _ _ => hd, fun H' s => ?_⟩⟩
  have e : (decide (nm = nm) && decide (z = z) && r) = r := by
    rw [decide_eq_true rfl, decide_eq_true rfl]; rfl
  rw [e]
  exact k H' s
theorem mk_pap {cP C : Addr} {nm : Str} (pc : PCl K cP C nm) {H : Hp} {rest : List V} {Rs : Nat → RV} {x dx : Addr} {z : Str} {W : Hp → Prop} {E : XK} (few : rest.length ≤ 1000) (f : ∀ (j : Nat) (y : V), rest[j]? = some y → Fx K H 40 y (Rs j)) (hx : H x = none) (hd : H dx = none) (ne : dx ≠ x)
    (k : ∀ H' t ys, Same H H' → H' x = some (.ins C dx [("word", .str z), ("parts", .ref t)]) → H t = none → H' t = some (.tup ys) → ys.length = rest.length → (∀ (j : Nat) (y : V), ys[j]? = some y → Rs j H' y) → W H') :
    spPap K 40 (.ref x :: .str z :: rest) (upd (upd H dx (.own x)) x (.ins C dx [])) (fun v H2 => v = .non ∧ W H2) E := by
  have st := made_same (C := C) hx hd ne
  obtain ⟨R1, h1⟩ : ∃ R1 : Nat → RV, ∀ (j : Nat) (y : V), rest[j]? = some y → Fx K (upd (upd H dx (.own x)) x (.ins C dx [])) 40 y (R1 j) ∧ ∀ H' u, R1 j H' u → Rs j H' u := pick_rv fun j y hy => (f j y hy).up (ExtX.of st)
  refine ⟨x, C, dx, z, rest, R1, rfl, upd_same, ⟨pc.cl, pc.nw, pc.np⟩, few, fun j y hy => (h1 j y hy).1, fun H' t ys e hx' n0 hT hl hy => ⟨rfl, k H' t ys (made_ext hx hd ne e) hx' (st.free n0) hT hl fun j y hj => ?_⟩⟩
  have hj2 : j < rest.length := by rw [← hl]; exact (List.getElem?_eq_some_iff.mp hj).1
  exact (h1 j _ (List.getElem?_eq_getElem hj2)).2 _ _ (hy j y hj)
theorem dtupD {c : Addr} {H : Hp} {t1 t2 : Addr} {y1 y2 : List V} {ds1 ds2 : List PyData} {b : Bool} (h1 : H t1 = some (.tup y1)) (h2 : H t2 = some (.tup y2)) (d1 : DVs K c H y1 ds1) (d2 : DVs K c H y2 ds2) (c1 : PyData.canLayAll0 ds1 = true) (c2 : PyData.canLayAll0 ds2 = true) (p1 : PyData.depthAll ds1 ≤ 60) (p2 : PyData.depthAll ds2 ≤ 60)
    (hb : b = (allTo (fun i => match ds1[i]?, ds2[i]? with | some d, some e => PyData.eqv d e | _, _ => true) (min ds1.length ds2.length) && decide (ds1.length = ds2.length))) : DTupW K (DMix K) (.ref t1) (.ref t2) b H := by
  have at_ : ∀ (ds : List PyData) (ys : List V), DVs K c H ys ds → PyData.canLayAll0 ds = true → PyData.depthAll ds ≤ 60 → ∀ (i : Nat) (y : V), ys[i]? = some y → ∃ d, ds[i]? = some d ∧ Dp K H y d ∧ SeqAt.shaped d = true := by
    intro ds
    induction ds with
    | nil => intro ys h _ _ i y hy; cases h; simp at hy
    | cons d ds ih =>
      intro ys h hc hp i y hy
      cases h with
      | cons a b =>
        obtain ⟨k1, k2⟩ := Bool.and_eq_true_iff.mp (show (d.canLay0 && PyData.canLayAll0 ds) = true from hc)
        simp only [PyData.depthAll] at hp
        match i, hy with
        | 0, hy =>
          simp at hy; subst hy
          refine ⟨d, rfl, a.dp _ _ k1, ?_⟩
          unfold SeqAt.shaped
          rw [k1, Bool.true_and, decide_eq_true_eq]; omega
        | i + 1, hy => exact ih _ b k2 (by omega) i y (by simpa using hy)
  refine ⟨t1, t2, y1, y2, _, rfl, rfl, .of h1, .of h2, fun i x y hx hy => ?_, by rw [hb, d1.len, d2.len]⟩
  obtain ⟨d, e1, q1, s1⟩ := at_ _ _ d1 c1 p1 i x hx
  obtain ⟨e, e2, q2, s2⟩ := at_ _ _ d2 c2 p2 i y hy
  refine .inl ⟨d, e, q1, q2, s1, s2, ?_⟩
  simp only [e1, e2]
theorem mk_ds {cP C : Addr} {nm : Str} (pc : PCl K cP C nm) {c : Addr} {H : Hp} {rest : List V} {ds : List PyData} {x dx : Addr} {z : Str} {W : Hp → Prop} {E : XK} (hc : H c ≠ none) (hd : DVs K c H rest ds) (sl : slimDs ds = true) (dp : deepDs ds ≤ 40) (few : rest.length ≤ 1000) (hx : H x = none) (hdx : H dx = none) (ne : dx ≠ x)
    (k : ∀ H' t ys, Same H H' → PaAt K cP H' x C nm z t [] → H t = none → H' t = some (.tup ys) → DVs K c H' ys (fixDs ds) → W H') :
    spPap K 40 (.ref x :: .str z :: rest) (upd (upd H dx (.own x)) x (.ins C dx [])) (fun v H2 => v = .non ∧ W H2) E := by
  obtain ⟨Rs, hR⟩ : ∃ Rs : Nat → RV, ∀ (i : Nat) (y : V), rest[i]? = some y → Fx K H 40 y (Rs i) ∧ ∀ d, ds[i]? = some d → ∀ H' u, ExtX H H' → Rs i H' u → DV K c H' u (fixD d) := pick_rv (P := fun i y R => Fx K H 40 y R ∧ ∀ d, ds[i]? = some d → ∀ H' u, ExtX H H' → R H' u → DV K c H' u (fixD d)) fun i y hy => by
    obtain ⟨d, hdi, _⟩ := hd.at hy
    obtain ⟨R, f, g⟩ := DVs.fx hc ds rest 40 hd sl dp i y d hy hdi
    exact ⟨R, f, fun d' h => by rw [hdi] at h; cases h; exact g⟩
  refine mk_pap pc few (fun j y hy => (hR j y hy).1) hx hdx ne fun H' t ys s hx' n0 hT hl hy => k H' t ys s ⟨pc, dx, hx'⟩ n0 hT ?_
  rw [fixDs_map]
  refine DVs.of_at (by rw [hl, List.length_map, hd.len]) fun i y hi d hdi => ?_
  rw [List.getElem?_map] at hdi
  obtain ⟨d0, h0, rfl⟩ := Option.map_eq_some_iff.mp hdi
  have hi2 : i < rest.length := by rw [← hl]; exact (List.getElem?_eq_some_iff.mp hi).1
  exact (hR i _ (List.getElem?_eq_getElem hi2)).2 d0 h0 H' y (ExtX.of s) (hy i y hi)
mutual
theorem fine_slim : ∀ d : PyData, d.bulk ≤ 1000 → slimD d = true
  | .list ds, h => by
    obtain ⟨a, b⟩ := fine_slims ds h
    simp only [slimD, Bool.and_eq_true, decide_eq_true_eq]; exact ⟨Nat.le_trans a h, b⟩
  | .tuple ds, h => by
    obtain ⟨a, b⟩ := fine_slims ds h
    simp only [slimD, Bool.and_eq_true, decide_eq_true_eq]; exact ⟨Nat.le_trans a h, b⟩
  | .none, _ => rfl
  | .bool _, _ => rfl
  | .int _, _ => rfl
  | .str _, _ => rfl
  | .dict _, _ => rfl
theorem fine_slims : ∀ ds : List PyData, PyData.bulkAll ds ≤ 1000 → ds.length ≤ PyData.bulkAll ds ∧ slimDs ds = true
  | [], _ => ⟨Nat.zero_le _, rfl⟩
  | d :: ds, h => by
    simp only [PyData.bulkAll] at h ⊢
    obtain ⟨a, b⟩ := fine_slims ds (by omega)
    have c := fine_slim d (by omega)
    exact ⟨by rw [List.length_cons]; omega, by simp only [slimDs, c, b, Bool.and_self]⟩
end
mutual
theorem deep_le : ∀ d : PyData, deepD d ≤ d.depth
  | .list ds => by
    have := deeps_le ds
    simp only [deepD, PyData.depth]; omega
  | .tuple ds => by
    have := deeps_le ds
    simp only [deepD, PyData.depth]; omega
  | .none => Nat.zero_le _
  | .bool _ => Nat.zero_le _
  | .int _ => Nat.zero_le _
  | .str _ => Nat.zero_le _
  | .dict _ => Nat.zero_le _
theorem deeps_le : ∀ ds : List PyData, deepDs ds ≤ PyData.depthAll ds
  | [] => Nat.zero_le _
  | d :: ds => by
    have h1 := deep_le d
    have h2 := deeps_le ds
    simp only [deepDs, PyData.depthAll]; omega
end
theorem mk_one {cP C : Addr} {nm : Str} (pc : PCl K cP C nm) {z f : Str} {c : Addr} {H : Hp} {v : V} {d : PyData} {x dx : Addr} {W : Hp → Prop} {E : XK} (hc : H c ≠ none) (hd : DV K c H v d) (sl : slimD d = true) (dp : deepD d ≤ 40) (hx : H x = none) (hdx : H dx = none) (ne : dx ≠ x)
    (k : ∀ H' t y, Same H H' → PaAt K cP H' x C nm z t [(f, y)] → H t = none → H' t = some (.tup [y]) → DV K c H' y (fixD d) → W H') :
    spOneP K C z f 40 [.ref x, v] (upd (upd H dx (.own x)) x (.ins C dx [])) (fun v H2 => v = .non ∧ W H2) E := by
  have st := made_same (C := C) hx hdx ne
  obtain ⟨R, fx, g⟩ := DV.fx hc d v 40 hd sl dp
  obtain ⟨R1, f1, g1⟩ := fx.up (ExtX.of st)
  refine ⟨x, dx, v, R1, rfl, upd_same, f1, fun H' t u e hx' n0 hT r => ⟨rfl, ?_⟩⟩
  have sH := made_ext hx hdx ne e
  exact k H' t u sH ⟨pc, dx, hx'⟩ (st.free n0) hT (g _ _ (ExtX.of sH) (g1 _ _ r))
theorem GdD.sl {d : PyData} (h : GdD d) : slimD d = true ∧ deepD d ≤ 40 := ⟨fine_slim d (Nat.le_trans h.1.bk (by decide)), Nat.le_trans (deep_le d) (Nat.le_trans h.1.dp (by decide))⟩
theorem GdD.fx {d : PyData} (h : GdD d) : (fixD d).canLay0 = true ∧ (fixD d).depth ≤ 20 := ⟨(fix_same d).2.2.2.2.trans h.2, Nat.le_trans (Nat.le_of_eq (fix_same d).2.1) h.1.dp⟩
theorem eq_one {c : Addr} {H : Hp} {t1 t2 : Addr} {y1 y2 : V} {d : PyData} (gd : GdD d) (h1 : H t1 = some (.tup [y1])) (h2 : H t2 = some (.tup [y2])) (d1 : DV K c H y1 (fixD d)) (d2 : DV K c H y2 (fixD d)) : DTupW K (DMix K) (.ref t1) (.ref t2) true H := by
  have c1 : PyData.canLayAll0 [fixD d] = true := by simp [PyData.canLayAll0, gd.fx.1]
  have p1 : PyData.depthAll [fixD d] ≤ 60 := by simp only [PyData.depthAll]; have := gd.fx.2; omega
  refine dtupD (ds1 := [fixD d]) (ds2 := [fixD d]) h1 h2 (.cons d1 .nil) (.cons d2 .nil) c1 c1 p1 p1 ?_
  show true = (allTo _ 1 && true)
  rw [Bool.and_true]
  show true = (PyData.eqv (fixD d) (fixD d) && true)
  rw [SeqAt.eqv_refl _ gd.fx.1]; rfl
/-- parts != (part,): not so -/
theorem parts_ne {c : Addr} {H : Hp} {t q : Addr} {y : V} {d : PyData} {Q : VK} (gd : GdD d) (h1 : H t = some (.tup [y])) (h2 : H q = some (.tup [y])) (d1 : DV K c H y (fixD d)) (k : Q (.bl false) H) : rNeD K (.ref t) (.ref q) H Q := by
  have c1 : PyData.canLay0 (.tuple [fixD d]) = true := by show PyData.canLayAll0 [fixD d] = true; simp [PyData.canLayAll0, gd.fx.1]
  have sh : SeqAt.shaped (.tuple [fixD d]) = true := by
    unfold SeqAt.shaped
    rw [c1, Bool.true_and, decide_eq_true_eq]
    simp only [PyData.depth, PyData.depthAll]; have := gd.fx.2; omega
  have dp := d1.dp _ _ gd.fx.1
  refine ⟨.tuple [fixD d], .tuple [fixD d], .tup (.of h1) (.cons dp .nil), .tup (.of h2) (.cons dp .nil), sh, sh, ?_⟩
  rw [SeqAt.eqv_refl _ c1]; exact k
def spPR (T : Tx K mg) : Sp := fun vs H Q _ => ∃ c u v d e, vs = [u, v] ∧ H c ≠ none ∧ DV K c H u d ∧ DV K c H v e ∧ GdD d ∧ GdD e ∧ ∀ H', Same H H' → Q (.bl true) H'
theorem O__law_papers_right (T : Tx K mg) : FnOk P w K mg base CX0 90 T.a__law_papers_right T.d__law_papers_right ["book", "refusal"] (spPR T) := by
  refine T.F__law_papers_right.ok sc__law_papers_right (fun vs H Q E h => ?_) (fun cdv A outer s H vs Q E hr h => ?_)
  · obtain ⟨_, _, _, _, _, rfl, _⟩ := h; rfl
  obtain ⟨c, u, v, d, e, rfl, hc, hu, hv, gd, ge, k⟩ := h
  refine ⟨_, (pss_cons (ps_par (i := 2) (j := 3) rfl sc__law_papers_right.nd rfl rfl (by decide) rfl rfl (pa_cons (pe_makeK0 T.mk_Won (O_Won___init__ T 40) (hr.mono (by decide)) (by rfl) T.m_Won T.kb_Won pass0 (pk_cons (pv 0) pk_nil)) (pa_cons (pe_makeK0 T.mk_Unwon (O_Unwon___init__ T 40) (hr.mono (by decide)) (by rfl) T.m_Unwon T.kb_Unwon pass0 (pk_cons (pv 1) pk_nil)) pa_nil)) (by rfl))
      (pss_cons (ps_if (PW.pt (pw_or (pt_not (pt_val (pe_callB call_isi (by rfl) T.z_isinstance (by decide +kernel) (pa_cons (pv 2) (pa_cons (pe_glob (v := .ref T.c_Paper) (by rfl) T.m_Paper rfl) pa_nil))))) (pw_or (pt_val (pe_callB call_isi (by rfl) T.z_isinstance (by decide +kernel) (pa_cons (pv 2) (pa_cons (pe_glob (v := .ref T.c_Denial) (by rfl) T.m_Denial rfl) pa_nil)))) (pw_or (pt_not (pt_val (pe_callB call_isi (by rfl) T.z_isinstance (by decide +kernel) (pa_cons (pv 3) (pa_cons (pe_glob (v := .ref T.c_Denial) (by rfl) T.m_Denial rfl) pa_nil))))) (pw_or (pt_cmpR op_notBl (pe_callTy (call_boolO T.ob_Won (O_Paper___bool__ T) (hr.mono (by decide)) T.b_Paper___bool__ pass0) (by rfl) T.z_bool (by decide +kernel) (pa_cons (pv 2) pa_nil)) pe_bl (nomark _)) (pw_or1 (pt_cmpR op_notBl (pe_callTy (call_boolO T.ob_Unwon (O_Denial___bool__ T) (hr.mono (by decide)) T.b_Denial___bool__ pass0) (by rfl) T.z_bool (by decide +kernel) (pa_cons (pv 3) pa_nil)) pe_bl (nomark _)))))))) (pss_one (ps_ret pe_bl)) pss_nil)
      (pss_cons (ps_if (PW.pt (pw_or (pt_cmpR (op_neD hr.units) (pe_lst (pa_cons (pe_fldK (K := K) rfl (pv 2)) (pa_cons (pe_fldK (K := K) rfl (pv 3)) pa_nil))) (pe_lst (pa_cons pe_str (pa_cons pe_str pa_nil))) (nomark _)) (pw_or (pt_cmpR (op_neD hr.units) (pe_fldK (K := K) rfl (pv 2)) (pe_tup (pa_cons (pe_fldK (K := K) rfl (pv 2)) pa_nil)) (nomark _)) (pw_or1 (pt_cmpR (op_neD hr.units) (pe_fldK (K := K) rfl (pv 3)) (pe_tup (pa_cons (pe_fldK (K := K) rfl (pv 3)) pa_nil)) (nomark _)))))) (pss_one (ps_ret pe_bl)) pss_nil)
      (pss_one (ps_ret (pe_and (pe_cmpR (op_eqOwn T.oc_Won (O_Paper___eq__ T) (hr.mono (by decide)) T.b_Paper___eq__ pass0) (pv 2) (pe_make T.mk_Won (O_Won___init__ T 40) (hr.mono (by decide)) (by rfl) T.m_Won T.b_Won___init__ .nil pass0 (pa_cons (pv 0) pa_nil)) (nomark _)) (pe_and (pe_cmpR (op_eqOwn T.oc_Unwon (O_Denial___eq__ T) (hr.mono (by decide)) T.b_Denial___eq__ pass0) (pv 3) (pe_make T.mk_Unwon (O_Unwon___init__ T 40) (hr.mono (by decide)) (by rfl) T.m_Unwon T.b_Unwon___init__ .nil pass0 (pa_cons (pv 1) pa_nil)) (nomark _)) (pe_and (pe_cmpR (op_neOwn T.oc_Won (O_Paper___eq__ T) (hr.mono (by decide)) T.b_Paper___eq__ pass0) (pv 2) (pv 3) (nomark _)) (pe_and (pe_cmpR (op_neOwn T.oc_Won (O_Paper___eq__ T) (hr.mono (by decide)) T.b_Paper___eq__ pass0) (pe_make T.mk_Won (O_Won___init__ T 40) (hr.mono (by decide)) (by rfl) T.m_Won T.b_Won___init__ .nil pass0 (pa_cons (pv 1) pa_nil)) (pv 3) (nomark _)) (pe_one (pe_cmpR (op_neOwn T.oc_Won (O_Paper___eq__ T) (hr.mono (by decide)) T.b_Paper___eq__ pass0) (pv 2) (StX.pe_makeR T.mk_Paper (R_Paper___init__ T 40) (hr.mono (by decide)) (by rfl) T.m_Paper pass0 (pa_cons pe_str (pa_cons (pv 0) pa_nil))) (nomark _)))))))))))), ?_⟩
  obtain ⟨sd, dd⟩ := gd.sl
  obtain ⟨se, de⟩ := ge.sl
  have hk : ∀ {H' : Hp}, Same H H' → H' c ≠ none := fun {H'} s z => by
    cases h : H c with
    | none => exact hc h
    | some o => rw [s _ _ h] at z; cases z
  refine ⟨_, rfl, rfl, rfl, fun x1 e1 a1 b1 c1 => ?_⟩
  refine mk_one (pc_Won T) hc hu sd dd a1 b1 c1 fun H1 t1 y1 s1 p1 n1 h1 d1 => ?_
  refine ⟨_, rfl, rfl, rfl, fun x2 e2 a2 b2 c2 => ?_⟩
  refine mk_one (pc_Unwon T) (hk s1) (hv.up (.of s1)) se de a2 b2 c2 fun H2 t2 y2 s2 p2 n2 h2 d2 => ?_
  refine ⟨_, _, rfl, ?_⟩
  dsimp only
  have s12 := s1.trans s2
  have p1 := p1.same s2
  have h1 := s2 _ _ h1
  have d1 := d1.up (.of s2)
  refine ⟨_, rfl, .ref x1, .ref T.c_Paper, _, .ref T.c_Paper, true, rfl, .own _, (pc_Won T).ty.ty p1.2.choose_spec, T.kp_Won, _, rfl, iteF ?_⟩
  refine ⟨_, rfl, .ref x1, .ref T.c_Denial, _, .ref T.c_Denial, false, rfl, .own _, (pc_Won T).ty.ty p1.2.choose_spec, T.kd_Won, _, rfl, iteF ?_⟩
  refine ⟨_, rfl, .ref x2, .ref T.c_Denial, _, .ref T.c_Denial, true, rfl, .own _, (pc_Unwon T).ty.ty p2.2.choose_spec, T.kd_Unwon, _, rfl, iteF ?_⟩
  refine ⟨_, rfl, x1, _, _, rfl, p1.2.choose_spec, _, rfl, _, rfl, _, _, rfl, rfl, _, rfl, iteF ?_⟩
  refine ⟨_, rfl, x2, _, _, rfl, p2.2.choose_spec, _, rfl, _, rfl, _, _, rfl, rfl, _, rfl, iteF ?_⟩
  dsimp only [tNext]
  refine ⟨_, rfl, x1, _, _, _, _, rfl, p1.2.choose_spec, (pc_Won T).cl, (pc_Won T).nw, rfl, _, rfl, x2, _, _, _, _, rfl, p2.2.choose_spec, (pc_Unwon T).cl, (pc_Unwon T).nw, rfl, szl rfl, fun q1 hq1 => ⟨szl rfl, fun q2 hq2 => ?_⟩⟩
  have s3 : Same H2 (upd H2 q1 (.lst [.str "won", .str "unwon"])) := same_new hq1
  have g1 : upd H2 q1 (.lst [.str "won", .str "unwon"]) q1 = some (.lst [.str "won", .str "unwon"]) := upd_same
  generalize upd H2 q1 _ = H3 at s3 g1 hq2 ⊢
  have s4 : Same H3 (upd H3 q2 (.lst [.str "won", .str "unwon"])) := same_new hq2
  have g2 : upd H3 q2 (.lst [.str "won", .str "unwon"]) q2 = some (.lst [.str "won", .str "unwon"]) := upd_same
  generalize upd H3 q2 _ = H4 at s4 g2 ⊢
  refine ⟨.list [.str "won", .str "unwon"], .list [.str "won", .str "unwon"], .lst (.of (s4 _ _ g1)) (.cons (.str _) (.cons (.str _) .nil)), .lst (.of g2) (.cons (.str _) (.cons (.str _) .nil)), by decide +kernel, by decide +kernel, _, rfl, ?_⟩
  rw [show (!PyData.eqv (.list [.str "won", .str "unwon"]) (.list [.str "won", .str "unwon"])) = false by decide +kernel]
  refine iteF ?_
  have s24 := s3.trans s4
  have p1 := p1.same s24
  have p2 := p2.same s24
  have h1 := s24 _ _ h1
  have h2 := s24 _ _ h2
  have d1 := d1.up (.of s24)
  have d2 := d2.up (.of s24)
  have sH4 := s12.trans s24
  refine ⟨_, rfl, x1, _, _, _, _, rfl, p1.2.choose_spec, (pc_Won T).cl, (pc_Won T).np, rfl, _, rfl, x1, _, _, _, _, rfl, p1.2.choose_spec, (pc_Won T).cl, T.nF_Won_book, rfl, szl rfl, fun q3 hq3 => ?_⟩
  have s5 : Same H4 (upd H4 q3 (.tup [y1])) := same_new hq3
  refine parts_ne gd (s5 _ _ h1) upd_same (d1.up (.of s5)) ⟨_, rfl, iteF ?_⟩
  generalize upd H4 q3 _ = H5 at s5 ⊢
  have p2 := p2.same s5
  have h2 := s5 _ _ h2
  have d2 := d2.up (.of s5)
  refine ⟨_, rfl, x2, _, _, _, _, rfl, p2.2.choose_spec, (pc_Unwon T).cl, (pc_Unwon T).np, rfl, _, rfl, x2, _, _, _, _, rfl, p2.2.choose_spec, (pc_Unwon T).cl, T.nF_Unwon_replies, rfl, szl rfl, fun q4 hq4 => ?_⟩
  have s6 : Same H5 (upd H5 q4 (.tup [y2])) := same_new hq4
  refine parts_ne ge (s6 _ _ h2) upd_same (d2.up (.of s6)) ⟨_, rfl, iteF ?_⟩
  generalize upd H5 q4 _ = H6 at s6 ⊢
  dsimp only [tNext]
  have s46 := s5.trans s6
  have sH6 := sH4.trans s46
  have p1 := p1.same s46
  have h1 := s46 _ _ h1
  have d1 := d1.up (.of s46)
  have p2 := p2.same s6
  have h2 := s6 _ _ h2
  have d2 := d2.up (.of s6)
  have hu6 := hu.up (.of sH6)
  have hv6 := hv.up (.of sH6)
  -- one == Won(book)
  refine ⟨_, rfl, _, rfl, fun x3 e3 a3 b3 c3 => ?_⟩
  refine mk_one (pc_Won T) (hk sH6) hu6 sd dd a3 b3 c3 fun H7 t3 y3 s7 p3 n3 h3 d3 => ?_
  refine ⟨x1, _, _, .ref T.c_Won, rfl, (p1.same s7).2.choose_spec, p3.1.ty.ty p3.2.choose_spec, nf_own, ?_⟩
  refine same_eq (p1.same s7) p3 (eq_one gd (s7 _ _ h1) h3 (d1.up (.of s7)) d3) fun H8 s8 => ⟨_, rfl, iteT ?_⟩
  have s78 := s7.trans s8
  refine ⟨_, rfl, _, rfl, fun x4 e4 a4 b4 c4 => ?_⟩
  refine mk_one (pc_Unwon T) (hk (sH6.trans s78)) (hv6.up (.of s78)) se de a4 b4 c4 fun H9 t4 y4 s9 p4 n4 h4 d4 => ?_
  have s69 := s78.trans s9
  refine ⟨x2, _, _, .ref T.c_Unwon, rfl, (p2.same s69).2.choose_spec, p4.1.ty.ty p4.2.choose_spec, nf_own, ?_⟩
  refine same_eq (p2.same s69) p4 (eq_one ge (s69 _ _ h2) h4 (d2.up (.of s69)) d4) fun HA sA => ⟨_, rfl, iteT ?_⟩
  have s6A := s69.trans sA
  have p1A := p1.same s6A
  have p2A := p2.same s6A
  refine ⟨_, rfl, _, rfl, x1, _, _, .ref T.c_Unwon, rfl, p1A.2.choose_spec, p2A.1.ty.ty p2A.2.choose_spec, T.nf T.c_Unwon (by simp) T.c_Won (by simp), ?_⟩
  refine same_ne p1A p2A (.inl (by decide +kernel)) fun HB sB => ⟨_, rfl, _, rfl, iteT ?_⟩
  have s6B := s6A.trans sB
  refine ⟨_, rfl, fun x5 e5 a5 b5 c5 => ?_⟩
  refine mk_one (pc_Won T) (hk (sH6.trans s6B)) (hv6.up (.of s6B)) se de a5 b5 c5 fun HC t5 y5 sC p5 n5 h5 d5 => ?_
  have s6C := s6B.trans sC
  have p2C := p2.same s6C
  refine ⟨_, rfl, x5, _, _, .ref T.c_Unwon, rfl, p5.2.choose_spec, p2C.1.ty.ty p2C.2.choose_spec, T.nf T.c_Unwon (by simp) T.c_Won (by simp), ?_⟩
  refine same_ne p5 p2C (.inl (by decide +kernel)) fun HD sD => ⟨_, rfl, _, rfl, iteT ?_⟩
  have s6D := s6C.trans sD
  refine ⟨_, rfl, _, rfl, fun x6 e6 a6 b6 c6 => ?_⟩
  refine mk_ds (pc_Paper T) (hk (sH6.trans s6D)) (rest := [u]) (ds := [d]) (.cons (hu6.up (.of s6D)) .nil) (by simp [slimDs, sd]) (by simp [deepDs]; omega) (by simp) a6 b6 c6 fun HE t6 y6 sE p6 n6 h6 d6 => ?_
  have s6E := s6D.trans sE
  have p1E := p1.same s6E
  refine ⟨x1, _, _, .ref T.c_Paper, rfl, p1E.2.choose_spec, p6.1.ty.ty p6.2.choose_spec, T.nf T.c_Paper (by simp) T.c_Won (by simp), ?_⟩
  refine same_ne p1E p6 (.inl (by decide +kernel)) fun HF sF => ⟨_, rfl, ?_⟩
  exact k HF ((sH6.trans s6E).trans sF)
end
end K39

set_option Elab.async false
set_option linter.all false
set_option maxRecDepth 100000
set_option maxHeartbeats 4000000
namespace K39
open PySem PySem.Spec PyProof.Rows L2 Gs
/-! ### the values of the ways on are moves -/
theorem bulk_items {d : PyData} {ds : List PyData} (e : itemsD d = some ds) : d.bulk = PyData.bulkAll ds ∧ d.depth = PyData.depthAll ds + 1 := by
  cases d with
  | list xs => cases e; exact ⟨rfl, by simp only [PyData.depth]⟩
  | tuple xs => cases e; exact ⟨rfl, by simp only [PyData.depth]⟩
  | _ => cases e
theorem two_bd {f : PyData → PyData → Bool} {d : PyData} {k n : Nat} (h : twoD f d = true) (hf : ∀ a b, f a b = true → (a.depth ≤ k ∧ a.bulk ≤ n) ∧ (b.depth ≤ k ∧ b.bulk ≤ n)) : d.depth ≤ k + 1 ∧ d.bulk ≤ 2 * n + 2 := by
  unfold twoD at h
  split at h
  · rename_i a b e
    obtain ⟨⟨a1, a2⟩, b1, b2⟩ := hf a b h
    obtain ⟨e1, e2⟩ := bulk_items e
    simp only [PyData.bulkAll, PyData.depthAll] at e1 e2
    omega
  · cases h
theorem int_bd {d : PyData} (h : isInt d = true) : d.depth ≤ 0 ∧ d.bulk ≤ 0 := by
  cases d <;> first | exact ⟨Nat.le_refl _, Nat.le_refl _⟩ | cases h
theorem mv_bd {d : PyData} (h : moveD d = true) : d.depth ≤ 2 ∧ d.bulk ≤ 6 :=
  two_bd (k := 1) (n := 2) h fun a b h => by
    obtain ⟨h1, h2⟩ := Bool.and_eq_true_iff.mp h
    have sq : ∀ x, squareD x = true → x.depth ≤ 1 ∧ x.bulk ≤ 2 := fun x h => two_bd (k := 0) (n := 0) h fun a b h => by
      obtain ⟨h1, h2⟩ := Bool.and_eq_true_iff.mp h
      exact ⟨int_bd h1, int_bd h2⟩
    exact ⟨sq a h1, sq b h2⟩
theorem it_fine {k n : Nat} {d : PyData} {ds : List PyData} (e : itemsD d = some ds) (h : Fine k n d) : FineS k n ds := by
  obtain ⟨a, b, c, f⟩ := h
  cases d with
  | list xs =>
    cases e
    simp only [PyData.showable, PyData.depth, PyData.leavesShort, PyData.bulk] at a b c f
    exact ⟨a, by omega, c, f⟩
  | tuple xs =>
    cases e
    simp only [PyData.showable, PyData.depth, PyData.leavesShort, PyData.bulk] at a b c f
    exact ⟨a, by omega, c, f⟩
  | _ => cases e
theorem mem_fine {k n : Nat} : ∀ {ds : List PyData} {d : PyData}, FineS k n ds → d ∈ ds → Fine k n d
  | e :: ds, d, h, m => by
    obtain ⟨h1, h2, h3⟩ := fs_one h
    rcases List.mem_cons.mp m with rfl | m
    · exact h1.mono (Nat.le_refl _) (by omega)
    · exact mem_fine (h2.mono (Nat.le_refl _) (by omega)) m
def MvV (K : PySem.W.Frag) (c : Addr) (H : Hp) (v : V) : Prop := ∃ d, DV K c H v d ∧ Fine 3 6 d ∧ d.canLay0 = true
theorem mv_of {K : PySem.W.Frag} {c : Addr} {H : Hp} {v : V} {d : PyData} {k n : Nat} (h : DV K c H v d) (f : Fine k n d) (m : moveD d = true) : MvV K c H v := by
  obtain ⟨b1, b2⟩ := mv_bd m
  exact ⟨d, h, ⟨f.sh, by omega, f.lf, by omega⟩, can_mv m⟩
section
variable {P : Program} {w : World} {K : PySem.W.Frag} {mg : Str → Option Value} {base : Heap}
/-- as as_of, with what the values are -/
theorem as_ofM {c : Addr} {H : Hp} {k n : Nat} : ∀ (ps : List PyData) (zs : List V), DVs K c H zs (fixDs ps) → FineS k n (fixDs ps) → (∀ p ∈ ps, pairB (fixD p) = true) → ∃ (bs : List Addr) (as : List (V × V)), zs = bs.map V.ref ∧ bs.length = as.length ∧ (∀ (i : Nat) (e : Addr) (p : V × V), bs[i]? = some e → as[i]? = some p → AnsV K H e p) ∧ ∀ p ∈ as, MvV K c H p.1 ∧ MvV K c H p.2
  | [], _, h, _, _ => by
    simp only [fixDs] at h
    cases h; exact ⟨[], [], rfl, rfl, fun i e p h => by simp at h, fun p h => nomatch h⟩
  | p :: ps, _, h, f, ok => by
    simp only [fixDs] at h f
    obtain ⟨f1, f2, f3⟩ := fs_one f
    cases h with
    | cons h1 h2 =>
      obtain ⟨bs, as, rfl, hl, hh, hm⟩ := as_ofM (k := k) (n := n) ps _ h2 (f2.mono (Nat.le_refl _) (by omega)) fun q hq => ok q (List.mem_cons_of_mem _ hq)
      obtain ⟨a, x, y, d1, d2, rfl, s1, hx, hy, b1, i1⟩ := twoOf h1 (ok p List.mem_cons_self)
      obtain ⟨m1, b2⟩ := Bool.and_eq_true_iff.mp b1
      have g1 := it_fine i1 f1
      obtain ⟨l, x2, y2, d3, d4, rfl, s2, hx2, hy2, b3, i2⟩ := twoOf hy b2
      obtain ⟨m2, b4⟩ := Bool.and_eq_true_iff.mp b3
      have g2 := it_fine i2 (mem_fine g1 (by simp))
      obtain ⟨z, rfl, s3, _⟩ := emptyOf hy2 b4
      refine ⟨a :: bs, (x, x2) :: as, rfl, by rw [List.length_cons, List.length_cons, hl], fun i e p he hp => ?_, fun p hp => ?_⟩
      · match i, he, hp with
        | 0, he, hp => simp at he hp; subst he hp; exact ⟨l, z, s1, s2, s3⟩
        | i + 1, he, hp => exact hh i e p (by simpa using he) (by simpa using hp)
      · rcases List.mem_cons.mp hp with rfl | hp
        · exact ⟨mv_of hx (mem_fine g1 (by simp)) m1, mv_of hx2 (mem_fine g2 (by simp)) m2⟩
        · exact hm p hp
theorem bk_ofM {c : Addr} {H : Hp} {v : V} {d : PyData} {k n : Nat} (h : DV K c H v (fixD d)) (f : Fine k n (fixD d)) (hk : k ≤ 60) (hn : n ≤ 500) (b : bookD (fixD d) = true) : ∃ x as, BkW K c H v x as ∧ as.length ≤ n ∧ MvV K c H x ∧ ∀ p ∈ as, MvV K c H p.1 ∧ MvV K c H p.2 := by
  obtain ⟨a, x, y, p, q, rfl, s1, hx, hy, b1, e1⟩ := twoOf h b
  obtain ⟨m1, b2⟩ := Bool.and_eq_true_iff.mp b1
  have b2 : allD pairB (fixD q) = true := b2
  have g1 := it_fine e1 f
  cases e2 : itemsD (fixD q) with
  | none => rw [allD_no e2] at b2; cases b2
  | some es =>
    rw [allD_some e2] at b2
    have g2 := it_fine e2 (mem_fine g1 (by simp))
    obtain ⟨b', zs, ps, rfl, s2, rfl, r⟩ := tupOf hy e2
    have hq : fixD q = .tuple (fixDs ps) := by
      cases q with
      | list xs => show PyData.tuple (fixDs xs) = _; rw [show fixDs xs = fixDs ps from Option.some.inj e2]
      | tuple xs => show PyData.tuple (fixDs xs) = _; rw [show fixDs xs = fixDs ps from Option.some.inj e2]
      | _ => cases e2
    obtain ⟨bs, as, rfl, hl, hh, hm⟩ := as_ofM ps zs r g2 fun p hp => List.all_eq_true.mp b2 _ (by rw [fixDs_map]; exact List.mem_map_of_mem hp)
    have l1 : as.length = (fixDs ps).length := by rw [← hl, ← r.len, List.length_map]
    have few := (fine_slims (fixDs ps) (Nat.le_trans g2.bk (by omega))).1
    exact ⟨x, as, ⟨a, b', bs, fixDs ps, rfl, s1, s2, hl, hh, by rw [← hq]; exact hy, l1.symm, can_all (fun _ => can_pair) _ b2, Nat.le_trans g2.dp hk⟩, by rw [l1]; exact Nat.le_trans few g2.bk, mv_of hx (mem_fine g1 (by simp)) m1, hm⟩
/-! refusals -/
def rowMv (K : PySem.W.Frag) (c : Addr) (H : Hp) : Row → Prop
  | .bare x => MvV K c H x
  | .ans x y ls => MvV K c H x ∧ MvV K c H y ∧ ∀ l ∈ ls, MvV K c H l
theorem ls_ofM {c : Addr} {H : Hp} {k n : Nat} : ∀ (ps : List PyData) (zs : List V), DVs K c H zs (fixDs ps) → FineS k n (fixDs ps) → (∀ p ∈ ps, lastBookD (fixD p) = true) → ∃ (gs : List Addr) (ls : List V), zs = gs.map V.ref ∧ gs.length = ls.length ∧ (∀ (i : Nat) (q : Addr) (l : V), gs[i]? = some q → ls[i]? = some l → ∃ z, SqT K H q [l, .ref z] ∧ SqT K H z []) ∧ ∀ l ∈ ls, MvV K c H l
  | [], _, h, _, _ => by
    simp only [fixDs] at h
    cases h; exact ⟨[], [], rfl, rfl, fun i e p h => by simp at h, fun p h => nomatch h⟩
  | p :: ps, _, h, f, ok => by
    simp only [fixDs] at h f
    obtain ⟨f1, f2, f3⟩ := fs_one f
    cases h with
    | cons h1 h2 =>
      obtain ⟨bs, as, rfl, hl, hh, hm⟩ := ls_ofM (k := k) (n := n) ps _ h2 (f2.mono (Nat.le_refl _) (by omega)) fun q hq => ok q (List.mem_cons_of_mem _ hq)
      obtain ⟨a, x, y, d1, d2, rfl, s1, hx, hy, b1, i1⟩ := twoOf h1 (ok p List.mem_cons_self)
      obtain ⟨m1, b2⟩ := Bool.and_eq_true_iff.mp b1
      obtain ⟨z, rfl, s3, _⟩ := emptyOf hy b2
      refine ⟨a :: bs, x :: as, rfl, by rw [List.length_cons, List.length_cons, hl], fun i e p he hp => ?_, fun l hl => ?_⟩
      · match i, he, hp with
        | 0, he, hp => simp at he hp; subst he hp; exact ⟨z, s1, s3⟩
        | i + 1, he, hp => exact hh i e p (by simpa using he) (by simpa using hp)
      · rcases List.mem_cons.mp hl with rfl | hl
        · exact mv_of hx (mem_fine (it_fine i1 f1) (by simp)) m1
        · exact hm l hl
/-- the number of rows is held by the bulk -/
theorem row_ofM {c : Addr} {H : Hp} {v : V} {d : PyData} {k : Nat} (h : DV K c H v (fixD d)) (f : Fine k (fixD d).bulk (fixD d)) (b : lastBookD (fixD d) = true ∨ rowD (fixD d) = true) : ∃ e r, v = .ref e ∧ RowV K H e r ∧ rowMv K c H r ∧ r.rows.length ≤ (fixD d).bulk + 1 ∧ ∀ x y ls, r = .ans x y ls → ls.length ≤ (fixD d).bulk := by
  rcases b with b | b
  · obtain ⟨a, x, y, p, q, rfl, s1, hx, hy, b1, i1⟩ := twoOf h b
    obtain ⟨m1, b2⟩ := Bool.and_eq_true_iff.mp b1
    obtain ⟨z, rfl, s3, _⟩ := emptyOf hy b2
    exact ⟨a, .bare x, rfl, ⟨_, s1, .inr ⟨z, rfl, s3⟩⟩, mv_of hx (mem_fine (it_fine i1 f) (by simp)) m1, Nat.le_add_left _ _, fun _ _ _ z => nomatch z⟩
  · obtain ⟨a, x, y, p, q, rfl, s1, hx, hy, b1, e1⟩ := twoOf h b
    obtain ⟨m1, b2⟩ := Bool.and_eq_true_iff.mp b1
    have g1 := it_fine e1 f
    have mx := mv_of hx (mem_fine g1 (by simp)) m1
    unfold replyD at b2
    cases bn : isNoD (fixD q) with
    | true =>
      have : y = .non := by
        have := isNo_iff hy
        rw [bn] at this
        exact of_decide_eq_true this
      exact ⟨a, .bare x, rfl, ⟨_, s1, .inl this⟩, mx, Nat.le_add_left _ _, fun _ _ _ z => nomatch z⟩
    | false =>
      rw [bn, Bool.false_or] at b2
      obtain ⟨r, y1, y2, p1, p2, rfl, s2, hy1, hy2, b3, e3⟩ := twoOf hy b2
      obtain ⟨m2, b4⟩ := Bool.and_eq_true_iff.mp b3
      have g2 := it_fine e3 (mem_fine g1 (by simp))
      unfold lastRefD at b4
      cases e4 : itemsD (fixD p2) with
      | none => rw [allD_no e4] at b4; cases b4
      | some es =>
        rw [allD_some e4] at b4
        have g3 := it_fine e4 (mem_fine g2 (by simp))
        obtain ⟨g, zs, ps, rfl, s3, rfl, rr⟩ := tupOf hy2 e4
        obtain ⟨gs, ls, rfl, hl, hh, hm⟩ := ls_ofM ps zs rr g3 fun p hp => List.all_eq_true.mp b4 _ (by rw [fixDs_map]; exact List.mem_map_of_mem hp)
        have l1 : ls.length = (fixDs ps).length := by rw [← hl, ← rr.len, List.length_map]
        have lb : ∀ ds : List PyData, ds.length ≤ PyData.bulkAll ds := fun ds => by
          induction ds with
          | nil => exact Nat.zero_le _
          | cons d ds ih => rw [PyData.bulkAll, List.length_cons]; omega
        have few : ls.length ≤ (fixD d).bulk := by rw [l1]; exact Nat.le_trans (lb _) g3.bk
        refine ⟨a, .ans x y1 ls, rfl, ⟨r, g, gs, s1, s2, s3, hl, hh⟩, ⟨mx, mv_of hy1 (mem_fine g2 (by simp)) m2, hm⟩, ?_, fun _ _ _ z => by cases z; exact few⟩
        show ((onV ls).map _).length ≤ _
        rw [List.length_map]
        unfold onV
        split
        · exact Nat.le_add_left _ _
        · rw [List.length_map]; omega
theorem rows_ofM {c : Addr} {H : Hp} {k : Nat} : ∀ (ps : List PyData) (zs : List V), DVs K c H zs (fixDs ps) → FineS k (PyData.bulkAll (fixDs ps)) (fixDs ps) → (∀ p ∈ ps, lastBookD (fixD p) = true ∨ rowD (fixD p) = true) → ∃ (es : List Addr) (rs : List Row), zs = es.map V.ref ∧ es.length = rs.length ∧ (∀ (i : Nat) (e : Addr) (r : Row), es[i]? = some e → rs[i]? = some r → RowV K H e r) ∧ (∀ r ∈ rs, rowMv K c H r) ∧ (rs.flatMap Row.rows).length ≤ PyData.bulkAll (fixDs ps) ∧ ∀ x y ls, Row.ans x y ls ∈ rs → ls.length ≤ PyData.bulkAll (fixDs ps)
  | [], _, h, _, _ => by
    simp only [fixDs] at h
    cases h; exact ⟨[], [], rfl, rfl, fun i e p h => by simp at h, (fun _ h => nomatch h), Nat.zero_le _, fun _ _ _ h => nomatch h⟩
  | p :: ps, _, h, f, ok => by
    simp only [fixDs] at h f ⊢
    obtain ⟨f1, f2, f3⟩ := fs_one f
    cases h with
    | cons h1 h2 =>
      obtain ⟨es, rs, rfl, hl, hh, hm, hc, h3⟩ := rows_ofM (k := k) ps _ h2 f2 fun q hq => ok q (List.mem_cons_of_mem _ hq)
      obtain ⟨e, r, rfl, hr, mr, lr, hls⟩ := row_ofM h1 f1 (ok p List.mem_cons_self)
      simp only [PyData.bulkAll]
      refine ⟨e :: es, r :: rs, rfl, by rw [List.length_cons, List.length_cons, hl], fun i e' r' he hr' => ?_, fun q hq => ?_, ?_, fun x y ls hm => ?_⟩
      · match i, he, hr' with
        | 0, he, hr' => simp at he hr'; subst he hr'; exact hr
        | i + 1, he, hr' => exact hh i e' r' (by simpa using he) (by simpa using hr')
      · rcases List.mem_cons.mp hq with rfl | hq
        · exact mr
        · exact hm q hq
      · rw [List.flatMap_cons, List.length_append]; omega
      · rcases List.mem_cons.mp hm with hm | hm
        · have := hls x y ls hm.symm; omega
        · have := h3 x y ls hm; omega
theorem rf_ofM {c : Addr} {H : Hp} {v : V} {d : PyData} {k n : Nat} (h : DV K c H v (fixD d)) (f : Fine k n (fixD d)) (hn : n ≤ 500) (b : refD (fixD d) = true) : ∃ rs, RefV K H v rs ∧ rs.length ≤ 1000 ∧ (∀ x y ls, Row.ans x y ls ∈ rs → ls.length ≤ 1000) ∧ (∀ r ∈ rs, rowMv K c H r) ∧ (rs.flatMap Row.rows).length ≤ n := by
  rw [ref_eq] at b
  cases e : itemsD (fixD d) with
  | none =>
    unfold lastRefD at b
    rw [allD_no e, allD_no e] at b; cases b
  | some es =>
    unfold lastRefD at b
    rw [allD_some e, allD_some e] at b
    have g := it_fine e f
    obtain ⟨a, zs, ps, rfl, s, rfl, r⟩ := tupOf h e
    have g' : FineS k (PyData.bulkAll (fixDs ps)) (fixDs ps) := ⟨g.sh, g.dp, g.lf, Nat.le_refl _⟩
    have hb := g.bk
    have few := (fine_slims (fixDs ps) (by omega)).1
    obtain ⟨es, rs, rfl, hl, hh, hm, hc, h3⟩ := rows_ofM ps zs r g' fun p hp => by
      have hm : fixD p ∈ fixDs ps := by rw [fixDs_map]; exact List.mem_map_of_mem hp
      rcases Bool.or_eq_true_iff.mp b with b | b
      · exact .inl (List.all_eq_true.mp b _ hm)
      · exact .inr (List.all_eq_true.mp b _ hm)
    have l1 : rs.length = (fixDs ps).length := by rw [← hl, ← r.len, List.length_map]
    exact ⟨rs, ⟨a, es, rfl, s, hl, hh⟩, by omega, fun x y ls hm => by have := h3 x y ls hm; omega, hm, by omega⟩
/-! rows as data -/
theorem vs_dv {c : Addr} {H : Hp} : ∀ vs : List V, (∀ v ∈ vs, MvV K c H v) → ∃ ds, DVs K c H vs ds ∧ FineS 3 (7 * vs.length) ds ∧ PyData.canLayAll0 ds = true
  | [], _ => ⟨[], .nil, FineS.nil, rfl⟩
  | v :: vs, h => by
    obtain ⟨d, hd, f, cn⟩ := h v List.mem_cons_self
    obtain ⟨ds, hds, fs, cs⟩ := vs_dv vs fun w hw => h w (List.mem_cons_of_mem _ hw)
    exact ⟨d :: ds, .cons hd hds, (FineS.cons f fs).mono (Nat.le_refl _) (by rw [List.length_cons]; omega), by rw [PyData.canLayAll0, cn, cs]; rfl⟩
theorem rows_dv {c : Addr} {H : Hp} : ∀ vss : List (List V), (∀ vs ∈ vss, vs.length ≤ 3 ∧ ∀ v ∈ vs, MvV K c H v) → ∃ dss : List PyData, FineS 4 (22 * vss.length) dss ∧ PyData.canLayAll0 dss = true ∧ ∀ (H' : Hp) (ts : List Addr), Same H H' → ts.length = vss.length → (∀ (i : Nat) (q : Addr) (vs : List V), ts[i]? = some q → vss[i]? = some vs → q ≠ c ∧ H' q = some (.tup vs)) → DVs K c H' (ts.map V.ref) dss
  | [], _ => ⟨[], FineS.nil, rfl, fun H' ts _ hl _ => by rw [List.length_eq_zero_iff.mp hl]; exact .nil⟩
  | vs :: vss, h => by
    obtain ⟨l3, hv⟩ := h vs List.mem_cons_self
    obtain ⟨ds, hds, fs, cs⟩ := vs_dv vs hv
    obtain ⟨dss, fss, css, k⟩ := rows_dv vss fun w hw => h w (List.mem_cons_of_mem _ hw)
    refine ⟨.tuple ds :: dss, (FineS.cons (Fine.tuple fs) fss).mono (Nat.le_refl _) (by rw [List.length_cons]; omega), by rw [PyData.canLayAll0, show PyData.canLay0 (.tuple ds) = true from cs, css]; rfl, fun H' ts s hl ht => ?_⟩
    match ts, hl with
    | t :: ts, hl =>
      obtain ⟨n, hq⟩ := ht 0 t vs rfl rfl
      exact .cons (.tup n (.of hq) (hds.up (.of s))) (k H' ts s (by simpa using hl) fun i q ws hq hw => ht (i + 1) q ws (by simpa using hq) (by simpa using hw))
/-- what courses and the law's ways answer, as data -/
theorem rowsAt_dv {c : Addr} {H : Hp} {vss : List (List V)} (hc : H c ≠ none) (h : ∀ vs ∈ vss, vs.length ≤ 3 ∧ ∀ v ∈ vs, MvV K c H v) (few : vss.length ≤ 500) : ∃ d, Fine 5 11000 d ∧ d.canLay0 = true ∧ ∀ H0 H' r, Same H H0 → Same H H' → RowsAt H0 H' r vss → (∃ t, r = .ref t) ∧ DV K c H' r d := by
  obtain ⟨dss, fs, cs, k⟩ := rows_dv vss h
  refine ⟨.tuple dss, (Fine.tuple fs).mono (by decide) (by omega), cs, fun H0 H' r s0 s ⟨t, ts, e, nt, ht, hl, hh⟩ => ?_⟩
  have nc : ∀ {q : Addr}, H0 q = none → q ≠ c := fun {q} n z => by
    cases hx : H c with
    | none => exact hc hx
    | some o => rw [z, s0 _ _ hx] at n; cases n
  subst e
  exact ⟨⟨t, rfl⟩, .tup (nc nt) (.of ht) (k H' ts s hl fun i q vs hq hv => ⟨nc (hh i q vs hq hv).1, (hh i q vs hq hv).2⟩)⟩
theorem bkRows_ok {c : Addr} {H : Hp} {x : V} {as : List (V × V)} (hx : MvV K c H x) (ha : ∀ p ∈ as, MvV K c H p.1 ∧ MvV K c H p.2) : (∀ vs ∈ bkRows x as, vs.length ≤ 3 ∧ ∀ v ∈ vs, MvV K c H v) ∧ (bkRows x as).length ≤ as.length + 1 := by
  unfold bkRows
  split
  · refine ⟨fun vs h => ?_, Nat.le_add_left _ _⟩
    rw [List.mem_singleton.mp h]
    exact ⟨(by simp), fun v hv => by rw [List.mem_singleton.mp hv]; exact hx⟩
  · refine ⟨fun vs h => ?_, by rw [List.length_map]; omega⟩
    obtain ⟨p, hp, rfl⟩ := List.mem_map.mp h
    refine ⟨(by simp), fun v hv => ?_⟩
    simp only [List.mem_cons, List.not_mem_nil, or_false] at hv
    rcases hv with rfl | rfl | rfl
    · exact hx
    · exact (ha p hp).1
    · exact (ha p hp).2
theorem rfRows_ok {c : Addr} {H : Hp} {rs : List Row} (h : ∀ r ∈ rs, rowMv K c H r) : ∀ vs ∈ rs.flatMap Row.rows, vs.length ≤ 3 ∧ ∀ v ∈ vs, MvV K c H v := fun vs hv => by
  obtain ⟨r, hr, hvs⟩ := List.mem_flatMap.mp hv
  have m := h r hr
  cases r with
  | bare x =>
    rw [List.mem_singleton.mp (show vs ∈ [[x]] from hvs)]
    exact ⟨(by simp), fun v hv => by rw [List.mem_singleton.mp hv]; exact m⟩
  | ans x y ls =>
    obtain ⟨c', hc', rfl⟩ := List.mem_map.mp (show vs ∈ (onV ls).map fun c => x :: y :: c from hvs)
    have lc := onV_len hc'
    refine ⟨by show c'.length + 2 ≤ 3; omega, fun v hv => ?_⟩
    simp only [List.mem_cons] at hv
    rcases hv with rfl | rfl | hv
    · exact m.1
    · exact m.2.1
    · unfold onV at hc'
      split at hc'
      · rw [List.mem_singleton.mp hc'] at hv; cases hv
      · obtain ⟨l, hl, rfl⟩ := List.mem_map.mp hc'
        rw [List.mem_singleton.mp hv]
        exact m.2.2 l hl
end
end K39

set_option Elab.async false
set_option linter.all false
set_option maxRecDepth 100000
set_option maxHeartbeats 4000000
namespace K39
open PySem PySem.Spec PyProof.Rows L2 Gs
theorem fs_map {k n : Nat} : ∀ {ds : List PyData}, (∀ d ∈ ds, Fine k n d) → FineS k ((n + 1) * ds.length) ds
  | [], _ => FineS.nil
  | d :: ds, h => (FineS.cons (h d List.mem_cons_self) (fs_map fun e he => h e (List.mem_cons_of_mem _ he))).mono (Nat.le_refl _) (by rw [List.length_cons, Nat.mul_add]; omega)
theorem can_map : ∀ {ds : List PyData}, (∀ d ∈ ds, d.canLay0 = true) → PyData.canLayAll0 ds = true
  | [], _ => rfl
  | d :: ds, h => by rw [PyData.canLayAll0, h d List.mem_cons_self, can_map fun e he => h e (List.mem_cons_of_mem _ he)]; rfl
theorem two_ok {k n m : Nat} {a b : PyData} (ha : Fine k n a ∧ a.canLay0 = true) (hb : Fine k m b ∧ b.canLay0 = true) : Fine (k + 1) (n + 1 + (m + 1)) (.tuple [a, b]) ∧ PyData.canLay0 (.tuple [a, b]) = true :=
  ⟨(Fine.tuple (FineS.cons ha.1 (fine1 hb.1))).mono (Nat.le_refl _) (by omega), by show PyData.canLayAll0 [a, b] = true; simp [PyData.canLayAll0, ha.2, hb.2]⟩
theorem nil_ok {k n : Nat} : Fine (k + 1) n (.tuple []) ∧ PyData.canLay0 (.tuple []) = true := ⟨Fine.tuple FineS.nil, rfl⟩
theorem sq_ok {d : PyData} (h : SqOk d) : (Fine 1 2 d ∧ d.canLay0 = true) ∧ squareD d = true := by
  obtain ⟨i, j, rfl, hi, hj⟩ := h
  have w : ∀ z : Int, z.natAbs < 2 ^ 200 → z.natAbs < 2 ^ 1000 := fun z h => Nat.lt_of_lt_of_le h (Nat.pow_le_pow_right (by decide) (by decide))
  exact ⟨two_ok (k := 0) (n := 0) (m := 0) ⟨.int (w i hi), rfl⟩ ⟨.int (w j hj), rfl⟩, rfl⟩
theorem mv_ok {d : PyData} (h : MvOk d) : (Fine 2 6 d ∧ d.canLay0 = true) ∧ moveD d = true := by
  obtain ⟨a, b, rfl, ha, hb⟩ := h
  exact ⟨two_ok (sq_ok ha).1 (sq_ok hb).1, by rw [show moveD (.tuple [a, b]) = (squareD a && squareD b) from rfl, (sq_ok ha).2, (sq_ok hb).2]; rfl⟩
def Sm (d : PyData) : Prop := Fine 7 140 d ∧ d.canLay0 = true
theorem bk_ok {d : PyData} (h : BkOk d) : Sm d ∧ bookD d = true := by
  obtain ⟨m, ps, rfl, hm, hl, hp⟩ := h
  have h1 : ∀ p ∈ ps, Fine 4 16 (bkD p) ∧ (bkD p).canLay0 = true := fun p hpp => by
    obtain ⟨p1, p2⟩ := hp p hpp
    have a := two_ok (k := 2) (mv_ok p2).1 (nil_ok (k := 1) (n := 0))
    exact two_ok (k := 3) ⟨(mv_ok p1).1.1.mono (by decide) (Nat.le_refl _), (mv_ok p1).1.2⟩ a
  have fa : Fine 5 68 (.tuple (ps.map bkD)) := (Fine.tuple (fs_map (k := 4) (n := 16) fun d hd => by obtain ⟨p, hp, rfl⟩ := List.mem_map.mp hd; exact (h1 p hp).1)).mono (Nat.le_refl _) (by rw [List.length_map]; omega)
  have ca : PyData.canLay0 (.tuple (ps.map bkD)) = true := can_map (ds := ps.map bkD) fun d hd => by obtain ⟨p, hp, rfl⟩ := List.mem_map.mp hd; exact (h1 p hp).2
  have fb := two_ok (k := 5) ⟨(mv_ok hm).1.1.mono (by decide) (Nat.le_refl _), (mv_ok hm).1.2⟩ ⟨fa, ca⟩
  refine ⟨⟨fb.1.mono (by decide) (by decide), fb.2⟩, ?_⟩
  rw [show bookD (bookE m ps) = (moveD m && (ps.map bkD).all pairB) from rfl, (mv_ok hm).2, Bool.true_and, List.all_map]
  refine List.all_eq_true.mpr fun p hpp => ?_
  show (moveD p.1 && lastBookD (.tuple [p.2, .tuple []])) = true
  rw [(mv_ok (hp p hpp).1).2, show lastBookD (.tuple [p.2, .tuple []]) = (moveD p.2 && true) from rfl, (mv_ok (hp p hpp).2).2]; rfl
theorem rf_ok {d : PyData} (h : RfOk d) : Sm d := by
  obtain ⟨rs, rfl, hl, hr⟩ := h
  have h1 : ∀ r ∈ rs, Fine 6 43 r ∧ r.canLay0 = true := fun r hrr => by
    obtain ⟨m, q, rfl, hm, hq⟩ := hr r hrr
    have hq2 : Fine 5 35 q ∧ q.canLay0 = true := by
      rcases hq with rfl | rfl | ⟨y, ls, rfl, hy, hl3, hls⟩
      · exact ⟨.non, rfl⟩
      · exact nil_ok
      · have h2 : ∀ l ∈ ls, Fine 3 8 (bareD l) ∧ (bareD l).canLay0 = true := fun l hll => two_ok (k := 2) (mv_ok (hls l hll)).1 (nil_ok (k := 1) (n := 0))
        have fa : Fine 4 27 (.tuple (ls.map bareD)) := (Fine.tuple (fs_map (k := 3) (n := 8) fun d hd => by obtain ⟨p, hp, rfl⟩ := List.mem_map.mp hd; exact (h2 p hp).1)).mono (Nat.le_refl _) (by rw [List.length_map]; omega)
        have ca : PyData.canLay0 (.tuple (ls.map bareD)) = true := can_map (ds := ls.map bareD) fun d hd => by obtain ⟨p, hp, rfl⟩ := List.mem_map.mp hd; exact (h2 p hp).2
        exact two_ok (k := 4) ⟨(mv_ok hy).1.1.mono (by decide) (Nat.le_refl _), (mv_ok hy).1.2⟩ ⟨fa, ca⟩
    exact two_ok (k := 5) (m := 35) ⟨(mv_ok hm).1.1.mono (by decide) (Nat.le_refl _), (mv_ok hm).1.2⟩ hq2
  exact ⟨(Fine.tuple (fs_map (k := 6) (n := 43) fun d hd => (h1 d hd).1)).mono (by decide) (by omega), can_map fun d hd => (h1 d hd).2⟩
mutual
theorem cnt_le : ∀ d : PyData, cntD d ≤ d.bulk + 1
  | .list ds => by have := cnts_le ds; simp only [cntD, PyData.bulk]; omega
  | .tuple ds => by have := cnts_le ds; simp only [cntD, PyData.bulk]; omega
  | .none => Nat.zero_le _
  | .bool _ => Nat.zero_le _
  | .int _ => Nat.zero_le _
  | .str _ => Nat.zero_le _
  | .dict _ => Nat.zero_le _
theorem cnts_le : ∀ ds : List PyData, cntDs ds ≤ PyData.bulkAll ds
  | [] => Nat.zero_le _
  | d :: ds => by
    have h1 := cnt_le d
    have h2 := cnts_le ds
    simp only [cntDs, PyData.bulkAll]; omega
end
/-! fixed data is told alike -/
theorem items_fix (d : PyData) : itemsD (fixD d) = (itemsD d).map fixDs := by cases d <;> rfl
theorem two_fix {f : PyData → PyData → Bool} {d : PyData} (h : ∀ a b, f (fixD a) (fixD b) = f a b) : twoD f (fixD d) = twoD f d := by
  unfold twoD
  rw [items_fix]
  match itemsD d with
  | none => rfl
  | some [] => rfl
  | some [_] => rfl
  | some [a, b] => exact h a b
  | some (_ :: _ :: _ :: _) => rfl
theorem all_fix {f : PyData → Bool} {d : PyData} (h : ∀ a, f (fixD a) = f a) : allD f (fixD d) = allD f d := by
  unfold allD
  rw [items_fix]
  match itemsD d with
  | none => rfl
  | some ds =>
    show (fixDs ds).all f = ds.all f
    rw [fixDs_map, List.all_map]
    congr 1; funext a; exact h a
theorem int_fix (d : PyData) : isInt (fixD d) = isInt d := by cases d <;> rfl
theorem sq_fix (d : PyData) : squareD (fixD d) = squareD d := two_fix fun a b => by rw [int_fix, int_fix]
theorem mv_fix (d : PyData) : moveD (fixD d) = moveD d := two_fix fun a b => by rw [sq_fix, sq_fix]
theorem br_fix (d : PyData) : branchD (fixD d) = branchD d := two_fix fun a _ => mv_fix a
theorem emp_fix (d : PyData) : emptyD (fixD d) = emptyD d := by
  unfold emptyD
  rw [items_fix]
  match itemsD d with
  | none => rfl
  | some [] => rfl
  | some (_ :: _) => rfl
theorem last_fix (d : PyData) : lastBookD (fixD d) = lastBookD d := two_fix fun a b => by rw [mv_fix, emp_fix]
theorem pair_fix (d : PyData) : pairB (fixD d) = pairB d := two_fix fun a b => by rw [mv_fix, last_fix]
theorem bk_fix (d : PyData) : bookD (fixD d) = bookD d := two_fix fun a b => by rw [mv_fix, show allD (twoD fun x y => moveD x && lastBookD y) (fixD b) = allD (twoD fun x y => moveD x && lastBookD y) b from all_fix pair_fix]
theorem lref_fix (d : PyData) : lastRefD (fixD d) = lastRefD d := all_fix last_fix
theorem rep_fix (d : PyData) : replyD (fixD d) = replyD d := by
  unfold replyD
  rw [two_fix fun a b => by rw [mv_fix, lref_fix]]
  have : isNoD (fixD d) = isNoD d := by cases d <;> rfl
  rw [this]
theorem row_fix (d : PyData) : rowD (fixD d) = rowD d := two_fix fun x y => by rw [mv_fix, rep_fix]
theorem ref_fix (d : PyData) : refD (fixD d) = refD d := by
  rw [ref_eq, ref_eq, lref_fix, all_fix row_fix]
section
variable {P : Program} {w : World} {K : PySem.W.Frag} {mg : Str → Option Value} {base : Heap}
theorem repAny {c : Addr} {H : Hp} {v : V} {d : PyData} {k n : Nat} (h : DV K c H v d) (f : Fine k n d) (hk : k ≤ 60) (hn : n ≤ 15000) : ∃ z : Str, ∀ (H' : Hp) (Q : VK), DV K c H' v d → Q (.str z) H' → rRepr K [v] H' Q ∨ rReprI [v] H' Q ∨ rReprS [v] H' Q := by
  have ct : ∀ a : Addr, v = .ref a → ∃ z : Str, ∀ (H' : Hp) (Q : VK), DV K c H' v d → Q (.str z) H' → rRepr K [v] H' Q ∨ rReprI [v] H' Q ∨ rReprS [v] H' Q := fun a e => by
    subst e
    exact ⟨d.shown, fun H' Q h q => .inl ⟨c, a, d, rfl, h, f.sh, Nat.le_trans f.dp hk, f.fits hn, q⟩⟩
  cases h with
  | non => exact ⟨"None", fun H' Q _ q => .inr (.inr (.inl ⟨rfl, q⟩))⟩
  | bl b => exact ⟨if b then "True" else "False", fun H' Q _ q => .inr (.inl (.inr ⟨b, rfl, q⟩))⟩
  | int i => exact ⟨toString i, fun H' Q _ q => .inr (.inl (.inl ⟨i, rfl, by have := f.sh; simpa only [PyData.showable, decide_eq_true_eq] using this, q⟩))⟩
  | str x => exact ⟨reprText x, fun H' Q _ q => .inr (.inr (.inr ⟨x, rfl, f.fits hn, q⟩))⟩
  | lst n s r => exact ct _ rfl
  | tup n s r => exact ct _ rfl
  | dic n s r => exact ct _ rfl
  | dct n s z => exact ct _ rfl
theorem repPaper : ∃ z : Str, ∀ (H' : Hp) (Q : VK), Q (.str z) H' → rRepr K [.str "paper"] H' Q ∨ rReprI [.str "paper"] H' Q ∨ rReprS [.str "paper"] H' Q :=
  ⟨reprText "paper", fun H' Q q => .inr (.inr (.inr ⟨"paper", rfl, by decide +kernel, q⟩))⟩
def RepOk2 (K : PySem.W.Frag) (e : Addr) (H : Hp) (t : Addr) (d : PyData) : Prop := DV K e H (.ref t) d ∧ d.showable = true ∧ d.depth ≤ 60 ∧ d.shown.length ≤ sizeLine
theorem bools_ok (bs : List Bool) : Fine 1 bs.length (.list (bs.map PyData.bool)) := Fine.list (fine_bools bs)
theorem dv_bools {c : Addr} {H : Hp} : ∀ bs : List Bool, DVs K c H (bs.map V.bl) (bs.map PyData.bool)
  | [] => .nil
  | b :: bs => .cons (.bl b) (dv_bools bs)
/-- what is heard of a Won, of an Unwon, and what the law tells -/
theorem won_heard (T : Tx K mg) {c x dx p : Addr} {H : Hp} {u : V} {d : PyData} {n : Nat} (hc : H c ≠ none) (hx : H x = some (.ins T.c_Won dx [("word", .str "won"), ("parts", .ref p), ("book", u)])) (hd : DV K c H u (fixD d)) (f : Fine 20 n (fixD d)) (hn : n ≤ 400) :
    (bookD (fixD d) = false ∧ ∀ (H' : Hp) (Q : VK), Same H H' → (∀ H'', Same H' H'' → Q (.str "paper") H'') → spHe T [.ref x] H' Q E0) ∨
    (bookD (fixD d) = true ∧ ∃ dd, Fine 5 11000 dd ∧ dd.canLay0 = true ∧ (∀ (H' : Hp) (Q : VK), Same H H' → (∀ t H'', Same H' H'' → DV K c H'' (.ref t) dd → Q (.ref t) H'') → spHe T [.ref x] H' Q E0) ∧
      ∀ (H' : Hp) (Q : VK), Same H H' → (∀ t H'', Same H' H'' → DV K c H'' (.ref t) dd → Q (.ref t) H'') → spWa T [.ref x] H' Q E0) := by
  have sl : slimD (fixD d) = true := fine_slim _ (Nat.le_trans f.bk (by omega))
  cases b : bookD (fixD d) with
  | false =>
    refine .inl ⟨rfl, fun H' Q s q => ⟨_, rfl, fun H1 s1 => ⟨_, rfl, .inr (.inl ⟨x, dx, p, u, c, fixD d, rfl, (s.trans s1) _ _ hx, hd.up (.of (s.trans s1)), sl, .inl ⟨b, fun d' H2 h1 h2 h3 => ⟨rfl, d', rfl, h3, fun H3 s3 => q H3 ((s1.trans h2).trans s3)⟩⟩⟩)⟩⟩⟩
  | true =>
    obtain ⟨xx, as, bw, few, hxx, hp⟩ := bk_ofM hd f (by decide) (by omega) b
    obtain ⟨ok, len⟩ := bkRows_ok hxx hp
    obtain ⟨dd, fd, cd, kd⟩ := rowsAt_dv (vss := bkRows xx as) hc ok (by omega)
    refine .inr ⟨rfl, dd, fd, cd, fun H' Q s q => ⟨_, rfl, fun H1 s1 => ⟨_, rfl, .inr (.inl ⟨x, dx, p, u, c, fixD d, rfl, (s.trans s1) _ _ hx, hd.up (.of (s.trans s1)), sl, .inr ⟨b, xx, as, bw.v.same (s.trans s1), by omega, fun H2 r s2 hr => ?_⟩⟩)⟩⟩, fun H' Q s q => ?_⟩
    · obtain ⟨H0, s0, ra⟩ := hr
      obtain ⟨⟨t, e⟩, dv⟩ := kd H0 H2 r ((s.trans s1).trans s0) ((s.trans s1).trans s2) ra
      subst e
      exact q t H2 (s1.trans s2) dv
    · obtain ⟨ba, b2, bs, es, e, g1, g2, g3, g4, g5, g6, g7, g8⟩ := bw
      refine ⟨x, dx, p, u, rfl, .inl ⟨s _ _ hx, c, xx, as, ⟨ba, b2, bs, es, e, s.seqT g1, s.seqT g2, g3, fun i e p he hp => by obtain ⟨l, z, a1, a2, a3⟩ := g4 i e p he hp; exact ⟨l, z, s.seqT a1, s.seqT a2, s.seqT a3⟩, g5.up (.of s), g6, g7, g8⟩, by omega, fun H2 r s2 ra => ?_⟩⟩
      obtain ⟨⟨t, e⟩, dv⟩ := kd H' H2 r s (s.trans s2) ra
      subst e
      exact q t H2 s2 dv
theorem unwon_heard (T : Tx K mg) {c x dx p : Addr} {H : Hp} {u : V} {d : PyData} {n : Nat} (hc : H c ≠ none) (hx : H x = some (.ins T.c_Unwon dx [("word", .str "unwon"), ("parts", .ref p), ("replies", u)])) (hd : DV K c H u (fixD d)) (f : Fine 20 n (fixD d)) (hn : n ≤ 400) :
    (refD (fixD d) = false ∧ ∀ (H' : Hp) (Q : VK), Same H H' → (∀ H'', Same H' H'' → Q (.str "paper") H'') → spHe T [.ref x] H' Q E0) ∨
    (refD (fixD d) = true ∧ ∃ dd, Fine 5 11000 dd ∧ dd.canLay0 = true ∧ (∀ (H' : Hp) (Q : VK), Same H H' → (∀ t H'', Same H' H'' → DV K c H'' (.ref t) dd → Q (.ref t) H'') → spHe T [.ref x] H' Q E0) ∧
      ∀ (H' : Hp) (Q : VK), Same H H' → (∀ t H'', Same H' H'' → DV K c H'' (.ref t) dd → Q (.ref t) H'') → spWa T [.ref x] H' Q E0) := by
  have sl : slimD (fixD d) = true := fine_slim _ (Nat.le_trans f.bk (by omega))
  cases b : refD (fixD d) with
  | false =>
    refine .inl ⟨rfl, fun H' Q s q => ⟨_, rfl, fun H1 s1 => ⟨_, rfl, .inr (.inr ⟨x, dx, p, u, c, fixD d, rfl, (s.trans s1) _ _ hx, hd.up (.of (s.trans s1)), sl, .inl ⟨b, fun d' H2 h1 h2 h3 => ⟨rfl, d', rfl, h3, fun H3 s3 => q H3 ((s1.trans h2).trans s3)⟩⟩⟩)⟩⟩⟩
  | true =>
    obtain ⟨rs, rv, few, few2, hm, len⟩ := rf_ofM hd f (by omega) b
    obtain ⟨dd, fd, cd, kd⟩ := rowsAt_dv (vss := rs.flatMap Row.rows) hc (rfRows_ok hm) (by omega)
    refine .inr ⟨rfl, dd, fd, cd, fun H' Q s q => ⟨_, rfl, fun H1 s1 => ⟨_, rfl, .inr (.inr ⟨x, dx, p, u, c, fixD d, rfl, (s.trans s1) _ _ hx, hd.up (.of (s.trans s1)), sl, .inr ⟨b, rs, rv.same (s.trans s1), few, few2, fun H2 r s2 hr => ?_⟩⟩)⟩⟩, fun H' Q s q => ?_⟩
    · obtain ⟨H0, s0, ra⟩ := hr
      obtain ⟨⟨t, e⟩, dv⟩ := kd H0 H2 r ((s.trans s1).trans s0) ((s.trans s1).trans s2) ra
      subst e
      exact q t H2 (s1.trans s2) dv
    · refine ⟨x, dx, p, u, rfl, .inr ⟨s _ _ hx, rs, rv.same s, few, few2, fun H2 r s2 ra => ?_⟩⟩
      obtain ⟨⟨t, e⟩, dv⟩ := kd H' H2 r s (s.trans s2) ra
      subst e
      exact q t H2 s2 dv
theorem dep_map {f : PyData → PyData} {k : Nat} : ∀ {es : List PyData}, (∀ e ∈ es, (f e).depth ≤ k) → PyData.depthAll (es.map f) ≤ k
  | [], _ => Nat.zero_le _
  | e :: es, h => by
    have h1 := h e List.mem_cons_self
    have h2 := dep_map (f := f) (k := k) (es := es) fun q hq => h q (List.mem_cons_of_mem _ hq)
    simp only [List.map_cons, PyData.depthAll]; omega
def MvD (K : PySem.W.Frag) (c : Addr) (H : Hp) (v : V) (d : PyData) : Prop := DV K c H v d ∧ Fine 3 6 d ∧ d.canLay0 = true
theorem mvd_of {K : PySem.W.Frag} {c : Addr} {H : Hp} {v : V} {d : PyData} {k n : Nat} (h : DV K c H v d) (f : Fine k n d) (m : moveD d = true) : MvD K c H v d := by
  obtain ⟨b1, b2⟩ := mv_bd m
  exact ⟨h, ⟨f.sh, by omega, f.lf, by omega⟩, can_mv m⟩
def pairD2 (e : PyData) : PyData × PyData := match itemsD e with
  | some [a, l] => (a, match itemsD l with
    | some (x :: _) => x
    | _ => .none)
  | _ => (.none, .none)
def bkCD (m : PyData) (es : List PyData) : PyData := if es = [] then .tuple [.tuple [m]] else .tuple (es.map fun e => .tuple [m, (pairD2 e).1, (pairD2 e).2])
theorem as_ofD {c : Addr} {H : Hp} {k n : Nat} : ∀ (ps : List PyData) (zs : List V), DVs K c H zs (fixDs ps) → FineS k n (fixDs ps) → (∀ p ∈ ps, pairB (fixD p) = true) → ∃ (bs : List Addr) (as : List (V × V)), zs = bs.map V.ref ∧ bs.length = as.length ∧ (∀ (i : Nat) (e : Addr) (p : V × V), bs[i]? = some e → as[i]? = some p → AnsV K H e p) ∧ ∀ (i : Nat) (q : V × V) (e : PyData), as[i]? = some q → (fixDs ps)[i]? = some e → MvD K c H q.1 (pairD2 e).1 ∧ MvD K c H q.2 (pairD2 e).2
  | [], _, h, _, _ => by
    simp only [fixDs] at h
    cases h; exact ⟨[], [], rfl, rfl, fun i e p h => by simp at h, fun i q e h => by simp at h⟩
  | p :: ps, _, h, f, ok => by
    simp only [fixDs] at h f
    obtain ⟨f1, f2, f3⟩ := fs_one f
    cases h with
    | cons h1 h2 =>
      obtain ⟨bs, as, rfl, hl, hh, hm⟩ := as_ofD (k := k) (n := n) ps _ h2 (f2.mono (Nat.le_refl _) (by omega)) fun q hq => ok q (List.mem_cons_of_mem _ hq)
      obtain ⟨a, x, y, d1, d2, rfl, s1, hx, hy, b1, i1⟩ := twoOf h1 (ok p List.mem_cons_self)
      obtain ⟨m1, b2⟩ := Bool.and_eq_true_iff.mp b1
      have g1 := it_fine i1 f1
      obtain ⟨l, x2, y2, d3, d4, rfl, s2, hx2, hy2, b3, i2⟩ := twoOf hy b2
      obtain ⟨m2, b4⟩ := Bool.and_eq_true_iff.mp b3
      have g2 := it_fine i2 (mem_fine g1 (by simp))
      obtain ⟨z, rfl, s3, _⟩ := emptyOf hy2 b4
      refine ⟨a :: bs, (x, x2) :: as, rfl, by rw [List.length_cons, List.length_cons, hl], fun i e p he hp => ?_, fun i q e hq he => ?_⟩
      · match i, he, hp with
        | 0, he, hp => simp at he hp; subst he hp; exact ⟨l, z, s1, s2, s3⟩
        | i + 1, he, hp => exact hh i e p (by simpa using he) (by simpa using hp)
      · match i, hq, he with
        | 0, hq, he =>
          simp [fixDs] at hq he
          subst hq he
          have pe : pairD2 (fixD p) = (fixD d1, fixD d3) := by unfold pairD2; rw [i1]; simp only [i2]
          rw [pe]
          exact ⟨mvd_of hx (mem_fine g1 (by simp)) m1, mvd_of hx2 (mem_fine g2 (by simp)) m2⟩
        | i + 1, hq, he => exact hm i q e (by simpa using hq) (by simpa [fixDs] using he)

/-- what courses answers of a book, told of its data alone -/
theorem won_co (T : Tx K mg) {c x dx p : Addr} {H : Hp} {u : V} {d m an : PyData} {es : List PyData} {n : Nat} (hc : H c ≠ none) (hx : H x = some (.ins T.c_Won dx [("word", .str "won"), ("parts", .ref p), ("book", u)])) (hd : DV K c H u (fixD d)) (f : Fine 20 n (fixD d)) (hn : n ≤ 400) (b : bookD (fixD d) = true) (e1 : itemsD (fixD d) = some [m, an]) (e2 : itemsD an = some es) :
    (bkCD m es).canLay0 = true ∧ (bkCD m es).depth ≤ 60 ∧ (∀ (H' : Hp) (Q : VK) (E : XK), Same H H' → (∀ t H'', Same H' H'' → DV K c H'' (.ref t) (bkCD m es) → Q (.ref t) H'') → spCo T [.ref x] H' Q E) ∧
      ∀ (H' : Hp) (Q : VK), Same H H' → (∀ t H'', Same H' H'' → DV K c H'' (.ref t) (bkCD m es) → Q (.ref t) H'') → spWa T [.ref x] H' Q E0 := by
  have sl : slimD (fixD d) = true := fine_slim _ (Nat.le_trans f.bk (by omega))
  obtain ⟨a, xx, y, p0, q0, rfl, s1, hxx, hy, b1, e3⟩ := twoOf hd b
  rw [e1] at e3; cases e3
  obtain ⟨m1, b2⟩ := Bool.and_eq_true_iff.mp b1
  have b2 : allD pairB (fixD q0) = true := b2
  rw [allD_some e2] at b2
  have g1 := it_fine e1 f
  have g2 := it_fine e2 (mem_fine g1 (by simp))
  obtain ⟨b', zs, ps, rfl, s2, rfl, r⟩ := tupOf hy e2
  have hq : fixD q0 = .tuple (fixDs ps) := by
    cases q0 with
    | list xs => show PyData.tuple (fixDs xs) = _; rw [show fixDs xs = fixDs ps from Option.some.inj e2]
    | tuple xs => show PyData.tuple (fixDs xs) = _; rw [show fixDs xs = fixDs ps from Option.some.inj e2]
    | _ => cases e2
  obtain ⟨bs, as, rfl, hl, hh, hm⟩ := as_ofD ps zs r g2 fun p hp => List.all_eq_true.mp b2 _ (by rw [fixDs_map]; exact List.mem_map_of_mem hp)
  have l1 : as.length = (fixDs ps).length := by rw [← hl, ← r.len, List.length_map]
  have few := (fine_slims (fixDs ps) (Nat.le_trans g2.bk (by omega))).1
  have hb := g2.bk
  have mx := mvd_of hxx (mem_fine g1 (by simp)) m1
  have bw : BkW K c H (.ref a) xx as := ⟨a, b', bs, fixDs ps, rfl, s1, s2, hl, hh, by rw [← hq]; exact hy, l1.symm, can_all (fun _ => can_pair) _ b2, Nat.le_trans g2.dp (by decide)⟩
  have row3 : ∀ e ∈ fixDs ps, (Fine 3 6 (pairD2 e).1 ∧ (pairD2 e).1.canLay0 = true) ∧ (Fine 3 6 (pairD2 e).2 ∧ (pairD2 e).2.canLay0 = true) := fun e he => by
    obtain ⟨i, hi⟩ := List.mem_iff_getElem?.mp he
    have hi2 := (List.getElem?_eq_some_iff.mp hi).1
    obtain ⟨h1, h2⟩ := hm i _ e (List.getElem?_eq_getElem (by omega)) hi
    exact ⟨h1.2, h2.2⟩
  have can : (bkCD (fixD p0) (fixDs ps)).canLay0 = true ∧ (bkCD (fixD p0) (fixDs ps)).depth ≤ 60 := by
    have mf := mx.2.1.dp
    have mc := mx.2.2
    unfold bkCD
    split
    · exact ⟨by show PyData.canLayAll0 [.tuple [fixD p0]] = true; simp [PyData.canLayAll0, PyData.canLay0, mc], by simp only [PyData.depth, PyData.depthAll]; omega⟩
    · refine ⟨can_map fun z hz => ?_, ?_⟩
      · obtain ⟨e, he, rfl⟩ := List.mem_map.mp hz
        obtain ⟨h1, h2⟩ := row3 e he
        show PyData.canLayAll0 [fixD p0, (pairD2 e).1, (pairD2 e).2] = true
        simp [PyData.canLayAll0, mc, h1.2, h2.2]
      · have : PyData.depthAll ((fixDs ps).map fun e => PyData.tuple [fixD p0, (pairD2 e).1, (pairD2 e).2]) ≤ 5 := by
          generalize fixDs ps = es at row3
          exact dep_map fun e he => by
            obtain ⟨h1, h2⟩ := row3 e he
            have := h1.1.dp
            have := h2.1.dp
            simp only [PyData.depth, PyData.depthAll]; omega
        simp only [PyData.depth]; omega
  have kd : ∀ H0 H' r, Same H H0 → Same H H' → RowsAt H0 H' r (bkRows xx as) → (∃ t, r = .ref t) ∧ DV K c H' r (bkCD (fixD p0) (fixDs ps)) := by
    rintro H0 H' r s0 s ⟨t, ts, rfl, nt, ht, hlt, hht⟩
    have nc : ∀ {q : Addr}, H0 q = none → q ≠ c := fun {q} n z => by
      cases hx : H c with
      | none => exact hc hx
      | some o => rw [z, s0 _ _ hx] at n; cases n
    refine ⟨⟨t, rfl⟩, ?_⟩
    unfold bkCD
    unfold bkRows at hlt hht
    by_cases ea : as = []
    · have ep : fixDs ps = [] := List.length_eq_zero_iff.mp (by rw [← l1, ea]; rfl)
      rw [if_pos ep]
      rw [if_pos ea] at hlt hht
      match ts, hlt with
      | [q], _ =>
        obtain ⟨n1, h1⟩ := hht 0 q _ rfl rfl
        exact .tup (nc nt) (.of ht) (.cons (.tup (nc n1) (.of h1) (.cons (mx.1.up (.of s)) .nil)) .nil)
    · have ep : fixDs ps ≠ [] := fun z => ea (List.length_eq_zero_iff.mp (by rw [l1, z]; rfl))
      rw [if_neg ep]
      rw [if_neg ea] at hlt hht
      refine .tup (nc nt) (.of ht) (DVs.of_at (by rw [List.length_map, List.length_map, hlt, List.length_map, l1]) fun i w hw z hz => ?_)
      rw [List.getElem?_map] at hw hz
      obtain ⟨q, hq', rfl⟩ := Option.map_eq_some_iff.mp hw
      obtain ⟨e, he, rfl⟩ := Option.map_eq_some_iff.mp hz
      have hi2 := (List.getElem?_eq_some_iff.mp he).1
      have hai : as[i]? = some as[i] := List.getElem?_eq_getElem (by omega)
      obtain ⟨n1, h1⟩ := hht i q _ hq' (by rw [List.getElem?_map, hai]; rfl)
      obtain ⟨m2, m3⟩ := hm i _ e hai he
      exact .tup (nc n1) (.of h1) (.cons (mx.1.up (.of s)) (.cons (m2.1.up (.of s)) (.cons (m3.1.up (.of s)) .nil)))
  refine ⟨can.1, can.2, fun H' Q E s q => ⟨_, rfl, .inr (.inl ⟨x, dx, p, _, c, fixD d, rfl, s _ _ hx, hd.up (.of s), sl, .inr ⟨b, xx, as, bw.v.same s, by omega, fun H2 r s2 hr => ?_⟩⟩)⟩, fun H' Q s q => ?_⟩
  · obtain ⟨H0, s0, ra⟩ := hr
    obtain ⟨⟨t, e⟩, dv⟩ := kd H0 H2 r (s.trans s0) (s.trans s2) ra
    subst e
    exact q t H2 s2 dv
  · obtain ⟨ba, b2, bs, es, e, g1, g2, g3, g4, g5, g6, g7, g8⟩ := bw
    refine ⟨x, dx, p, _, rfl, .inl ⟨s _ _ hx, c, xx, as, ⟨ba, b2, bs, es, e, s.seqT g1, s.seqT g2, g3, fun i e p he hp => by obtain ⟨l, z, a1, a2, a3⟩ := g4 i e p he hp; exact ⟨l, z, s.seqT a1, s.seqT a2, s.seqT a3⟩, g5.up (.of s), g6, g7, g8⟩, by omega, fun H2 r s2 ra => ?_⟩⟩
    obtain ⟨⟨t, e⟩, dv⟩ := kd H' H2 r s (s.trans s2) ra
    subst e
    exact q t H2 s2 dv
def spLaw (K : PySem.W.Frag) : Sp := fun vs H Q _ => ∃ (a : Addr) (ns : List Int), vs = [.ref a] ∧ SqL K H a (ns.map V.int) ∧ ns.length ≤ 63 ∧ ∀ H', Q (.bl true) H'
theorem G_law (T : Tx K mg) : FnG P w K mg base CX0 100 T.a_law T.d_law ["script"] (spLaw K) := by
  refine fun_okG T.F_law sc_law (fun vs H Q E h => ?_) (fun cdv A outer s H vs Q E hr hg h => ?_)
  · obtain ⟨a, ns, rfl, _⟩ := h; rfl
  obtain ⟨a, ns, rfl, hS, hlen, k⟩ := h
  refine ⟨_, (pss_cons (ps_set (i := 1) sc_law.nd rfl (Or.inl rfl) (pe_call (O__law_satchel T) (hr.mono (by decide)) (by rfl) T.m__law_satchel T.F__law_satchel.kp T.b__law_satchel .nil pass0 (pa_cons (pv 0) pa_nil)))
      (pss_cons (ps_for PassesOwn.never rfl (pi_range1 (by rfl) T.z_range (pa_cons pe_int pa_nil)) (pg_name (i := 2) sc_law.nd rfl (Or.inl rfl)) (pss_cons (ps_par (i := 3) (j := 4) rfl sc_law.nd rfl rfl (by decide) rfl rfl (pa_cons (pe_call (O__law_book T) (hr.mono (by decide)) (by rfl) T.m__law_book T.F__law_book.kp T.b__law_book .nil pass0 (pa_cons (pv 1) pa_nil)) (pa_cons (pe_call (O__law_refusal T) (hr.mono (by decide)) (by rfl) T.m__law_refusal T.F__law_refusal.kp T.b__law_refusal .nil pass0 (pa_cons (pv 1) pa_nil)) pa_nil)) (by rfl))
      (pss_cons (ps_if (pt_not (pt_val (pe_call (O__law_papers_right T) (hr.mono (by decide)) (by rfl) T.m__law_papers_right T.F__law_papers_right.kp T.b__law_papers_right .nil pass0 (pa_cons (pv 3) (pa_cons (pv 4) pa_nil))))) (pss_one (ps_ret pe_bl)) pss_nil)
      (pss_one (ps_for PassesOwn.never rfl (pi_tup (pe_tup (pa_cons (pv 3) (pa_cons (pv 4) (pa_cons (pe_call (O__law_bent T) (hr.mono (by decide)) (by rfl) T.m__law_bent T.F__law_bent.kp T.b__law_bent .nil pass0 (pa_cons (pv 1) (pa_cons (pv 3) (pa_cons pe_int pa_nil)))) (pa_cons (pe_call (O__law_bent T) (hr.mono (by decide)) (by rfl) T.m__law_bent T.F__law_bent.kp T.b__law_bent .nil pass0 (pa_cons (pv 1) (pa_cons (pv 4) (pa_cons pe_int pa_nil)))) pa_nil)))))) (pg_name (i := 5) sc_law.nd rfl (Or.inl rfl)) (pss_cons (ps_set (i := 6) sc_law.nd rfl (Or.inl rfl) (pe_lst (pa_cons (pe_call (O__law_form T) (hr.mono (by decide)) (by rfl) T.m__law_form T.F__law_form.kp T.b__law_form .nil pass0 (pa_cons (pv 5) (pa_cons pe_str (pa_cons pe_int pa_nil)))) (pa_cons (pe_or (pe_call (O__law_are_forms T) (hr.mono (by decide)) (by rfl) T.m__law_are_forms T.F__law_are_forms.kp T.b__law_are_forms .nil pass0 (pa_cons (pv 5) (pa_cons pe_str (pa_cons pe_int pa_nil)))) (pe_one (pe_call (O__law_are_forms T) (hr.mono (by decide)) (by rfl) T.m__law_are_forms T.F__law_are_forms.kp T.b__law_are_forms .nil pass0 (pa_cons (pv 5) (pa_cons pe_str (pa_cons pe_int pa_nil)))))) pa_nil))))
      (pss_cons (ps_set (i := 7) sc_law.nd rfl (Or.inl rfl) (pe_call (O__law_listed T) (hr.mono (by decide)) (by rfl) T.m__law_listed T.F__law_listed.kp T.b__law_listed .nil pass0 (pa_cons (pv 1) (pa_cons (pv 5) pa_nil))))
      (pss_cons (ps_set (i := 8) sc_law.nd rfl (Or.inl rfl) (pe_callB (cr_or (call_repr hr hg) (cr_or call_reprI call_reprS)) (by rfl) T.z_repr (by decide +kernel) (pa_cons (pv 7) pa_nil)))
      (pss_cons (ps_set (i := 9) sc_law.nd rfl (Or.inl rfl) (pe_lst (pa_cons (pe_call (O_is_book T) (hr.mono (by decide)) (by rfl) T.m_is_book T.F_is_book.kp T.b_is_book .nil pass0 (pa_cons (pv 7) pa_nil)) (pa_cons (pe_call (O_is_refusal T) (hr.mono (by decide)) (by rfl) T.m_is_refusal T.F_is_refusal.kp T.b_is_refusal .nil pass0 (pa_cons (pv 7) pa_nil)) (pa_cons (pg_callK0 (FnG.of (O_is_book T)) (hr.mono (by decide)) hg (by rfl) T.m_is_book T.F_is_book.kp T.kb_is_book pass0 (pk_cons (pv 5) pk_nil)) (pa_cons (pg_callK0 (FnG.of (O_is_refusal T)) (hr.mono (by decide)) hg (by rfl) T.m_is_refusal T.F_is_refusal.kp T.kb_is_refusal pass0 (pk_cons (pv 5) pk_nil)) pa_nil))))))
      (pss_cons (ps_if (PW.pt (pw_or (pt_cmpR op_ne (pe_callB (call_repr hr hg) (by rfl) T.z_repr (by decide +kernel) (pa_cons (pv 9) pa_nil)) (pe_callB (call_repr hr hg) (by rfl) T.z_repr (by decide +kernel) (pa_cons (pe_op op_cat (pv 6) (pv 6)) pa_nil)) (nomark _)) (pw_or1 (pt_cmpR op_ne (pe_callB (cr_or (call_repr hr hg) (cr_or call_reprI call_reprS)) (by rfl) T.z_repr (by decide +kernel) (pa_cons (pv 7) pa_nil)) (pv 8) (nomark _))))) (pss_one (ps_ret pe_bl)) pss_nil)
      (pss_one (ps_for PassesOwn.never rfl (pi_tup (pe_tup (pa_cons (pe_tup (pa_cons (pe_make T.mk_Won (O_Won___init__ T 40) (hr.mono (by decide)) (by rfl) T.m_Won T.b_Won___init__ .nil pass0 (pa_cons (pv 7) pa_nil)) (pa_cons (pe_ix ix_list (pv 6) pe_int (fun _ _ => rfl)) pa_nil))) (pa_cons (pe_tup (pa_cons (pe_make T.mk_Unwon (O_Unwon___init__ T 40) (hr.mono (by decide)) (by rfl) T.m_Unwon T.b_Unwon___init__ .nil pass0 (pa_cons (pv 7) pa_nil)) (pa_cons (pe_ix ix_list (pv 6) pe_int (fun _ _ => rfl)) pa_nil))) pa_nil)))) (pg_tup rfl (pgs_cons (pg_name (i := 10) sc_law.nd rfl (Or.inl rfl)) (pgs_cons (pg_name (i := 11) sc_law.nd rfl (Or.inl rfl)) pgs_nil))) (pss_one (ps_if (pt_cmpR op_ne (pe_callB (cr_or (call_repr hr hg) (cr_or call_reprI call_reprS)) (by rfl) T.z_repr (by decide +kernel) (pa_cons (pe_call (O__law_heard T) (hr.mono (by decide)) (by rfl) T.m__law_heard T.F__law_heard.kp T.b__law_heard .nil pass0 (pa_cons (pv 10) pa_nil)) pa_nil)) (pe_callB (cr_or (call_repr hr hg) (cr_or call_reprI call_reprS)) (by rfl) T.z_repr (by decide +kernel) (pa_cons (pe_ifExp (pt_val (pv 11)) (pe_call (O__law_ways T) (hr.mono (by decide)) (by rfl) T.m__law_ways T.F__law_ways.kp T.b__law_ways .nil pass0 (pa_cons (pv 10) pa_nil)) pe_str) pa_nil)) (nomark _)) (pss_one (ps_ret pe_bl)) pss_nil))))))))))))))
      (pss_cons (ps_set (i := 12) sc_law.nd rfl (Or.inl rfl) (pe_call (O__law_one T) (hr.mono (by decide)) (by rfl) T.m__law_one T.F__law_one.kp T.b__law_one .nil pass0 (pa_cons (pv 1) (pa_cons (pe_lst (pa_cons pe_non (pa_cons pe_int (pa_cons pe_str (pa_cons (pe_tup pa_nil) (pa_cons (StX.pe_makeR T.mk_Paper (R_Paper___init__ T 40) (hr.mono (by decide)) (by rfl) T.m_Paper pass0 (pa_cons pe_str (pa_cons (pv 3) pa_nil))) (pa_cons (StX.pe_makeR T.mk_Denial (R_Denial___init__ T 40) (hr.mono (by decide)) (by rfl) T.m_Denial pass0 (pa_cons pe_str (pa_cons (pv 4) pa_nil))) (pa_cons (pe_lst (pa_cons (pe_make T.mk_Won (O_Won___init__ T 40) (hr.mono (by decide)) (by rfl) T.m_Won T.b_Won___init__ .nil pass0 (pa_cons (pv 3) pa_nil)) pa_nil)) (pa_cons (pv 3) pa_nil))))))))) pa_nil))))
      (pss_one (ps_ret (pe_and (pe_cmpR op_eq (pe_call (O__law_heard T) (hr.mono (by decide)) (by rfl) T.m__law_heard T.F__law_heard.kp T.b__law_heard .nil pass0 (pa_cons (pv 12) pa_nil)) pe_str (nomark _)) (pe_one (pe_cmpR (op_eqD hr.units) (pg_callK0 (FnG.of (O_courses T)) (hr.mono (by decide)) hg (by rfl) T.m_courses T.F_courses.kp T.kb_courses (pX LamX.takes0 (fun _ _ _ _ h => h)) (pk_cons (pe_make T.mk_Won (O_Won___init__ T 40) (hr.mono (by decide)) (by rfl) T.m_Won T.b_Won___init__ .nil pass0 (pa_cons (pv 3) pa_nil)) pk_nil)) (pe_call (O__law_ways T) (hr.mono (by decide)) (by rfl) T.m__law_ways T.F__law_ways.kp T.b__law_ways .nil pass0 (pa_cons (pe_make T.mk_Won (O_Won___init__ T 40) (hr.mono (by decide)) (by rfl) T.m_Won T.b_Won___init__ .nil pass0 (pa_cons (pv 3) pa_nil)) pa_nil)) (nomark _))))))))), ?_⟩
  refine ⟨_, rfl, a, ns, rfl, hS, hlen, fun c l H1 hc hl x1 b1 => ?_⟩
  dsimp only [gName]
  refine ⟨_, rfl, by decide, by decide, ?_⟩
  refine for_it (walk_range (lo := 0) (n := 5)) (fun i σ H' => (∃ t2 t3 t4 t5 t6 t7 t8 t9 t10 t11 : Option V, σ = [some (.ref a), some (.ref c), t2, t3, t4, t5, t6, t7, t8, t9, t10, t11, none] ∧ (0 < i → ∃ vb vr db dr, t3 = some vb ∧ t4 = some vr ∧ TV H' vb db ∧ BkOk db ∧ TV H' vr dr ∧ RfOk dr)) ∧ Bag c l (5000 * i) H') ⟨⟨_, _, _, _, _, _, _, _, _, _, rfl, fun z => absurd z (by decide)⟩, b1⟩ (fun _ _ _ _ _ => trivial) ?_ ?_
  rotate_left
  · rintro σ H2 ⟨⟨t2, t3, t4, t5, t6, t7, t8, t9, t10, t11, rfl, h34⟩, b2⟩
    obtain ⟨vb, vr, db, dr, rfl, rfl, tb, ob, tr, or⟩ := h34 (by decide)
    dsimp only
    obtain ⟨⟨fb, cb⟩, bkb⟩ := bk_ok ob
    obtain ⟨fr, cr⟩ := rf_ok or
    obtain ⟨cs2, hcs2⟩ := bag_lst b2
    have nc2 : H2 c ≠ none := by rw [hcs2]; exact fun z => nomatch z
    have hk : ∀ {H' : Hp}, Same H2 H' → H' c ≠ none := fun {H'} s z => by rw [s _ _ hcs2] at z; cases z
    have dvb : DV K c H2 vb db := LV.dv trivial hcs2 _ _ tb
    have dvr : DV K c H2 vr dr := LV.dv trivial hcs2 _ _ tr
    have slb : slimD db = true := fine_slim _ (Nat.le_trans fb.bk (by decide))
    have slr : slimD dr = true := fine_slim _ (Nat.le_trans fr.bk (by decide))
    have dpb : deepD db ≤ 40 := Nat.le_trans (deep_le db) (Nat.le_trans fb.dp (by decide))
    have dpr : deepD dr ≤ 40 := Nat.le_trans (deep_le dr) (Nat.le_trans fr.dp (by decide))
    refine ⟨_, rfl, szl rfl, fun q1 hq1 => ?_⟩
    have s1 : Same H2 (upd H2 q1 (.tup [])) := same_new hq1
    have g1 : upd H2 q1 (.tup []) q1 = some (.tup []) := upd_same
    generalize upd H2 q1 _ = A1 at s1 g1 ⊢
    refine ⟨_, rfl, fun x1 e1 a1 bb1 c1 => ?_⟩
    refine mk_ds (pc_Paper T) (hk s1) (rest := [vb]) (ds := [db]) (.cons (dvb.up (.of s1)) .nil) (by simp [slimDs, slb]) (by simp [deepDs]; omega) (by simp) a1 bb1 c1 fun A2 t2 y2 s2 p2 n2 h2 d2 => ?_
    have s12 := s1.trans s2
    refine ⟨_, rfl, fun x2 e2 a2 bb2 c2 => ?_⟩
    refine mk_ds (pc_Denial T) (hk s12) (rest := [vr]) (ds := [dr]) (.cons (dvr.up (.of s12)) .nil) (by simp [slimDs, slr]) (by simp [deepDs]; omega) (by simp) a2 bb2 c2 fun A3 t3 y3 s3 p3 n3 h3 d3 => ?_
    have s13 := s12.trans s3
    refine ⟨_, rfl, fun x3 e3 a3 bb3 c3 => ?_⟩
    refine mk_one (pc_Won T) (hk s13) (dvb.up (.of s13)) slb dpb a3 bb3 c3 fun A4 t4 y4 s4 p4 n4 h4 d4 => ?_
    refine ⟨szl rfl, fun q2 hq2 => ?_⟩
    have s5 : Same A4 (upd A4 q2 (.lst [.ref x3])) := same_new hq2
    have g5 : upd A4 q2 (.lst [.ref x3]) q2 = some (.lst [.ref x3]) := upd_same
    generalize upd A4 q2 _ = A5 at s5 g5 ⊢
    have s14 := s13.trans s4
    have s15 := s14.trans s5
    refine ⟨_, rfl, szl rfl, fun po hpo => ?_⟩
    have b5 := b2.same s15
    have npo := b5.ne hpo
    have s6 : Same A5 (upd A5 po (.lst [.non, .int 5, .str "won", .ref q1, .ref x1, .ref x2, .ref q2, vb])) := same_new hpo
    have g6 : upd A5 po (.lst [.non, .int 5, .str "won", .ref q1, .ref x1, .ref x2, .ref q2, vb]) po = some (.lst [.non, .int 5, .str "won", .ref q1, .ref x1, .ref x2, .ref q2, vb]) := upd_same
    have b6 := b5.same s6
    generalize upd A5 po _ = A6 at s6 g6 b6 ⊢
    have s16 := s15.trans s6
    refine ⟨c, l, po, 5000 * 5, _, rfl, b6, by decide, npo, .of g6, by simp, szl2 rfl, fun i v H7 hi b7 x7 => ?_⟩
    dsimp only [gName, List.set]
    have nec : ∀ {q : Addr} {o : HO}, A6 q = some o → (∀ xs, o ≠ .lst xs) → H7 q = some o := fun {q o} h n => x7 _ _ (fun z => by rw [z, s16 _ _ hcs2] at h; cases h; exact n _ rfl) h
    have nq2 : q2 ≠ c := fun z => by rw [z, s14 _ _ hcs2] at hq2; cases hq2
    obtain ⟨dp1, hp1⟩ := p2.2
    obtain ⟨dp2, hp2⟩ := p3.2
    obtain ⟨ab, xb, eb, hab⟩ : ∃ ab xb, vb = .ref ab ∧ H2 ab = some (.tup xb) := by
      obtain ⟨m, ps, rfl, _⟩ := ob
      cases tb with
      | tup s r => exact ⟨_, _, rfl, s⟩
    have odd : ∃ t, (∀ H1, Same H7 H1 → TyX K H1 v t) ∧ PySem.W.kitOne K t (.ref T.c_Won) = some false ∧ PySem.W.kitOne K t (.ref T.c_Unwon) = some false := by
      match i, hi with
      | 0, hi => cases hi; exact ⟨_, fun _ _ => .base .non, T.kt _ (by simp) "NoneType" (by simp), T.kt _ (by simp) "NoneType" (by simp)⟩
      | 1, hi => cases hi; exact ⟨_, fun _ _ => .base (.int _), T.kt _ (by simp) "int" (by simp), T.kt _ (by simp) "int" (by simp)⟩
      | 2, hi => cases hi; exact ⟨_, fun _ _ => .base (.str _), T.kt _ (by simp) "str" (by simp), T.kt _ (by simp) "str" (by simp)⟩
      | 3, hi =>
        cases hi
        have h := nec (((((s2.trans s3).trans s4).trans s5).trans s6) _ _ g1) (fun _ z => nomatch z)
        exact ⟨_, fun H1 s => ty_sqt (.of (s _ _ h)), T.kt _ (by simp) "tuple" (by simp), T.kt _ (by simp) "tuple" (by simp)⟩
      | 4, hi =>
        cases hi
        have h := nec ((((s3.trans s4).trans s5).trans s6) _ _ hp1) (fun _ z => nomatch z)
        exact ⟨_, fun H1 s => T.ty_Paper.ty (s _ _ h), T.kw_Paper, T.ku_Paper⟩
      | 5, hi =>
        cases hi
        have h := nec (((s4.trans s5).trans s6) _ _ hp2) (fun _ z => nomatch z)
        exact ⟨_, fun H1 s => T.ty_Denial.ty (s _ _ h), T.kw_Denial, T.ku_Denial⟩
      | 6, hi =>
        cases hi
        have h := x7 _ _ nq2 (s6 _ _ g5)
        exact ⟨_, fun H1 s => ty_sql (.of (s _ _ h)), T.kt _ (by simp) "list" (by simp), T.kt _ (by simp) "list" (by simp)⟩
      | 7, hi =>
        cases hi
        have h := nec (s16 _ _ hab) (fun _ z => nomatch z)
        subst eb
        exact ⟨_, fun H1 s => ty_sqt (.of (s _ _ h)), T.kt _ (by simp) "tuple" (by simp), T.kt _ (by simp) "tuple" (by simp)⟩
      | i + 8, hi => simp at hi
    obtain ⟨tt, ht, kw, ku⟩ := odd
    have he : ∀ (Q : VK), (∀ H'', Same H7 H'' → Q (.str "paper") H'') → spHe T [v] H7 Q E0 := fun Q q => ⟨_, rfl, fun H1 sx => ⟨_, rfl, .inl ⟨tt, ht H1 sx, kw, ku, fun d' H2' z1 z2 z3 => ⟨rfl, d', rfl, z3, fun H3' z4 => q _ ((sx.trans z2).trans z4)⟩⟩⟩⟩
    refine ⟨_, rfl, ?_⟩
    dsimp only [tNil]
    refine he _ fun H8 s8 => ?_
    refine ⟨rfl, _, rfl, ?_⟩
    rw [d_self]
    refine iteT ?_
    have x28 : Ext c H2 H8 := ((Ext.of s16).trans x7).trans (.of s8)
    have dvb8 := dvb.up x28
    obtain ⟨cs8, hcs8⟩ := bag_lst (b7.same s8)
    have nc8 : H8 c ≠ none := by rw [hcs8]; exact fun z => nomatch z
    have ff : Fine 20 140 (fixD db) := fb.fix.mono (by decide) (Nat.le_refl _)
    have bkf : bookD (fixD db) = true := by rw [bk_fix]; exact bkb
    obtain ⟨mm, an, es, i1, i2⟩ : ∃ m an es, itemsD (fixD db) = some [m, an] ∧ itemsD an = some es := by
      obtain ⟨m, ps, rfl, _⟩ := ob
      exact ⟨_, _, _, rfl, rfl⟩
    refine ⟨_, rfl, fun x4 e4 a4 bb4 c4 => ?_⟩
    refine mk_one (pc_Won T) nc8 dvb8 slb dpb a4 bb4 c4 fun H9 t9 y9 s9 p9 n9 h9 d9 => ?_
    obtain ⟨dx9, hx9⟩ := p9.2
    have nc9 : H9 c ≠ none := by rw [s9 _ _ hcs8]; exact fun z => nomatch z
    obtain ⟨can, dep, co, _⟩ := won_co T nc9 hx9 d9 ff (by decide) bkf i1 i2
    refine ⟨rfl, rfl, ?_⟩
    refine co H9 _ _ (Same.refl _) fun t10 H10 s10 dv10 => ?_
    refine ⟨_, rfl, fun x5 e5 a5 bb5 c5 => ?_⟩
    have s910 := s9.trans s10
    have nc10 : H10 c ≠ none := by rw [s910 _ _ hcs8]; exact fun z => nomatch z
    refine mk_one (pc_Won T) nc10 (dvb8.up (.of s910)) slb dpb a5 bb5 c5 fun H11 t11 y11 s11 p11 n11 h11 d11 => ?_
    obtain ⟨dx11, hx11⟩ := p11.2
    have nc11 : H11 c ≠ none := by rw [s11 _ _ (s910 _ _ hcs8)]; exact fun z => nomatch z
    obtain ⟨_, _, _, wa⟩ := won_co T nc11 hx11 d11 ff (by decide) bkf i1 i2
    refine wa H11 _ (Same.refl _) fun t12 H12 s12 dv12 => ?_
    have sh : SeqAt.shaped (bkCD mm es) = true := by
      unfold SeqAt.shaped
      rw [can, Bool.true_and, decide_eq_true_eq]; omega
    refine ⟨bkCD mm es, bkCD mm es, (dv10.up (.of (s11.trans s12))).dp _ _ can, dv12.dp _ _ can, sh, sh, ?_⟩
    rw [SeqAt.eqv_refl _ can]
    exact k _
  rintro i x σ H2 H2' hi ⟨⟨t2, t3, t4, t5, t6, t7, t8, t9, t10, t11, rfl, _⟩, b2⟩ ⟨rfl, rfl⟩
  have hi : i < 5 := hi
  dsimp only [gName]
  refine ⟨_, rfl, c, l, _, rfl, b2, by omega, fun vb db H3 tb ob b3 x3 => ?_⟩
  refine ⟨_, rfl, c, l, _, rfl, b3, by omega, fun vr dr H4 tr or b4 x4 => ?_⟩
  refine ⟨_, _, rfl, ?_⟩
  dsimp only
  have tb := tb.bag b3 x4
  obtain ⟨smb, _⟩ := bk_ok ob
  have smr := rf_ok or
  obtain ⟨cs4, hcs4⟩ := bag_lst b4
  have hc4 : H4 c ≠ none := by rw [hcs4]; exact fun z => nomatch z
  refine ⟨_, rfl, _, rfl, c, vb, vr, db, dr, rfl, hc4, LV.dv trivial hcs4 _ _ tb, LV.dv trivial hcs4 _ _ tr, ⟨smb.1.mono (by decide) (by decide), smb.2⟩, ⟨smr.1.mono (by decide) (by decide), smr.2⟩, fun H5 s5 => ⟨_, rfl, iteF ?_⟩⟩
  dsimp only [tNext]
  have tb := tb.same s5
  have tr := tr.same s5
  have b5 := b4.same s5
  refine ⟨_, rfl, _, rfl, _, rfl, _, rfl, c, l, _, vb, db, 7, 140, 4, rfl, by decide, by decide, b5, tb, smb.2, smb.1, by decide, by decide, by omega, by decide, fun v3 d3 H6 tv3 f3 b6 x6 => ?_⟩
  have tb := tb.bag b5 x6
  have tr := tr.bag b5 x6
  refine ⟨_, rfl, _, rfl, c, l, _, vr, dr, 7, 140, 4, rfl, by decide, by decide, b6, tr, smr.2, smr.1, by decide, by decide, by omega, by decide, fun v4 d4 H7 tv4 f4 b7 x7 => ?_⟩
  have tb := tb.bag b6 x7
  have tr := tr.bag b6 x7
  have tv3 := tv3.bag b6 x7
  refine ⟨szl rfl, fun pq hpq => ⟨pq, rfl, ⟨_, .of upd_same⟩, ?_⟩⟩
  have s8 : Same H7 (upd H7 pq (.tup [vb, vr, v3, v4])) := same_new hpq
  have g8 : upd H7 pq (.tup [vb, vr, v3, v4]) pq = some (.tup [vb, vr, v3, v4]) := upd_same
  have npq := b7.ne hpq
  have b8 := b7.same s8
  have tb := tb.same s8
  have tr := tr.same s8
  have tv3 := tv3.same s8
  have tv4 := tv4.same s8
  clear hpq
  generalize upd H7 pq _ = H8 at s8 g8 b8 tb tr tv3 tv4 ⊢
  have all4 : ∀ (j : Nat) (y : V), [vb, vr, v3, v4][j]? = some y → ∀ H', TV H' vb db → TV H' vr dr → TV H' v3 d3 → TV H' v4 d4 → ∃ dy, TV H' y dy ∧ Fine 11 340 dy := fun j y hy H' a1 a2 a3 a4 => by
    match j, hy with
    | 0, hy => cases hy; exact ⟨db, a1, smb.1.mono (by decide) (by decide)⟩
    | 1, hy => cases hy; exact ⟨dr, a2, smr.1.mono (by decide) (by decide)⟩
    | 2, hy => cases hy; exact ⟨d3, a3, f3⟩
    | 3, hy => cases hy; exact ⟨d4, a4, f4⟩
    | j + 4, hy => simp at hy
  generalize hM : 5000 * i + 60 + 100 + 4 * 10 + 4 + 4 * 10 + 4 = M at b8
  refine for_it (walk_tup (K := K) (a := pq) (xs := [vb, vr, v3, v4])) (fun j σ H' => (∃ t5 t6 t7 t8 t9 t10 t11 : Option V, σ = [some (.ref a), some (.ref c), some (.int (0 + (i : Int))), some vb, some vr, t5, t6, t7, t8, t9, t10, t11, none]) ∧ (TV H' vb db ∧ TV H' vr dr ∧ TV H' v3 d3 ∧ TV H' v4 d4) ∧ H' pq = some (.tup [vb, vr, v3, v4]) ∧ Bag c l (M + 400 * j) H') ⟨⟨_, _, _, _, _, _, _, rfl⟩, ⟨tb, tr, tv3, tv4⟩, g8, b8⟩ (fun j σ H' _ h => .of h.2.2.1) ?_ ?_
  rotate_left
  · rintro σ H9 ⟨⟨t5, t6, t7, t8, t9, t10, t11, rfl⟩, ⟨tb, tr, _, _⟩, _, b9⟩
    exact ⟨⟨_, _, _, _, _, _, _, _, _, _, rfl, fun _ => ⟨vb, vr, db, dr, rfl, rfl, tb, ob, tr, or⟩⟩, b9.mono (by show M + 400 * 4 ≤ _; omega)⟩
  clear tb tr tv3 tv4 b8 g8
  rintro j y σ H9 H9' hj ⟨⟨t5, t6, t7, t8, t9, t10, t11, rfl⟩, ⟨tb, tr, tv3, tv4⟩, g9, b9⟩ ⟨rfl, hy⟩
  have hj : j < 4 := hj
  obtain ⟨dy, ty, fy⟩ := all4 j y hy H9' tb tr tv3 tv4
  dsimp only [gName, List.set]
  obtain ⟨cs9, hcs9⟩ := bag_lst b9
  have nc9 : H9' c ≠ none := by rw [hcs9]; exact fun z => nomatch z
  have slY : slimD dy = true := fine_slim _ (Nat.le_trans fy.bk (by decide))
  have dpY : deepD dy ≤ 20 := Nat.le_trans (deep_le dy) (Nat.le_trans fy.dp (by decide))
  have dvY : DV K c H9' y dy := LV.dv trivial hcs9 _ _ ty
  -- due
  refine ⟨_, rfl, c, y, dy, "book", 1, bookD, rfl, dvY, slY, .inr (.inr (.inr ⟨rfl, rfl, rfl, rfl⟩)), fun HA sA => ?_⟩
  refine te_cut (te := tOrV _ _) (fun v H' => v = .bl (refD dy) ∧ Same HA H') (fun Q' kq => ?_) (fun v HB hv => ?_)
  · refine ⟨_, rfl, c, y, dy, "bare", 0, lastRefD, rfl, dvY.up (.of sA), slY, .inl ⟨rfl, rfl, rfl⟩, fun HB sB => ⟨_, rfl, ?_⟩⟩
    rw [ref_eq] at kq
    refine iteB (fun e => ?_) (fun e => ?_)
    · rw [e] at kq; exact kq _ _ ⟨rfl, sB⟩
    · rw [e, Bool.false_or] at kq
      exact ⟨_, rfl, c, y, dy, "row", 0, allD rowD, rfl, dvY.up (.of (sA.trans sB)), slY, .inr ⟨rfl, rfl, rfl, rfl⟩, fun HC sC => kq _ _ ⟨rfl, sB.trans sC⟩⟩
  obtain ⟨rfl, sB⟩ := hv
  refine ⟨szl rfl, fun pd hpd => ?_⟩
  have sD : Same HB (upd HB pd (.lst [.bl (bookD dy), .bl (refD dy)])) := same_new hpd
  have gD : upd HB pd (.lst [.bl (bookD dy), .bl (refD dy)]) pd = some (.lst [.bl (bookD dy), .bl (refD dy)]) := upd_same
  have s9D := (sA.trans sB).trans sD
  have b10 := b9.same s9D
  have npd := (b9.same (sA.trans sB)).ne hpd
  generalize upd HB pd _ = HD at sD gD s9D b10 ⊢
  dsimp only [gName, List.set]
  clear sA sB sD hpd
  have ty := ty.same s9D
  have tb := tb.same s9D
  have tr := tr.same s9D
  have tv3 := tv3.same s9D
  have tv4 := tv4.same s9D
  have g9 := s9D _ _ g9
  -- listed
  have cnt := cnt_le dy
  have fyb := fy.bk
  refine ⟨_, rfl, _, rfl, c, l, _, y, dy, rfl, b10, ty, dpY, slY, by omega, fun v' d' HE fx lv bE xE => ?_⟩
  obtain ⟨csD, hcsD⟩ := bag_lst b10
  have ty := ty.bag b10 xE
  have tb := tb.bag b10 xE
  have tr := tr.bag b10 xE
  have tv3 := tv3.bag b10 xE
  have tv4 := tv4.bag b10 xE
  have g9 := xE _ _ npq g9
  have gD := xE _ _ npd gD
  obtain ⟨csE, hcsE⟩ := bag_lst bE
  have ncE : HE c ≠ none := by rw [hcsE]; exact fun z => nomatch z
  have dv' : DV K c HE v' d' := LV.dv ⟨_, hcsD⟩ hcsE _ _ lv
  have dvy : DV K c HE y dy := LV.dv trivial hcsE _ _ ty
  have fd' : Fine 11 340 d' := by
    obtain ⟨a1, a2, a3, a4, _⟩ := fix_same d'
    obtain ⟨c1, c2, c3, c4, _⟩ := fix_same dy
    rw [fx] at a1 a2 a3 a4
    exact ⟨(a1.symm.trans c1).trans fy.sh, Nat.le_trans (Nat.le_of_eq (a2.symm.trans c2)) fy.dp, (a3.symm.trans c3).trans fy.lf, Nat.le_trans (Nat.le_of_eq (a4.symm.trans c4)) fy.bk⟩
  have sl' : slimD d' = true := fine_slim _ (Nat.le_trans fd'.bk (by decide))
  have dp' : deepD d' ≤ 40 := Nat.le_trans (deep_le d') (Nat.le_trans fd'.dp (by decide))
  have eb : bookD d' = bookD dy := by rw [← bk_fix d', fx, bk_fix]
  have er : refD d' = refD dy := by rw [← ref_fix d', fx, ref_fix]
  dsimp only [gName, List.set]
  -- kept
  obtain ⟨z1, hz1⟩ := repAny dv' fd' (by decide) (by decide)
  refine ⟨_, rfl, ?_⟩
  dsimp only [tNil]
  refine hz1 HE _ dv' ?_
  dsimp only [gName, List.set]
  -- told
  refine ⟨_, rfl, c, v', d', rfl, dv', sl', fun HF sF => ?_⟩
  refine ⟨_, rfl, c, v', d', rfl, dv'.up (.of sF), sl', fun HG sG => ?_⟩
  refine ⟨_, rfl, rfl, rfl, c, y, dy, rfl, dvy.up (.of (sF.trans sG)), slY, fun HH sH => ?_⟩
  refine ⟨_, rfl, rfl, rfl, c, y, dy, rfl, dvy.up (.of ((sF.trans sG).trans sH)), slY, fun HI sI => ?_⟩
  rw [eb, er]
  refine ⟨szl rfl, fun pt hpt => ?_⟩
  have sEI := ((sF.trans sG).trans sH).trans sI
  have sJ : Same HI (upd HI pt (.lst [.bl (bookD dy), .bl (refD dy), .bl (bookD dy), .bl (refD dy)])) := same_new hpt
  have gJ : upd HI pt (.lst [.bl (bookD dy), .bl (refD dy), .bl (bookD dy), .bl (refD dy)]) pt = some (.lst [.bl (bookD dy), .bl (refD dy), .bl (bookD dy), .bl (refD dy)]) := upd_same
  have npt := (bE.same sEI).ne hpt
  have sEJ := sEI.trans sJ
  generalize upd HI pt _ = HJ at sJ gJ sEJ ⊢
  dsimp only [gName, List.set]
  have bl4 : ∀ (H : Hp) (p : Addr), p ≠ c → H p = some (.lst [.bl (bookD dy), .bl (refD dy), .bl (bookD dy), .bl (refD dy)]) → RepOk2 K c H p (.list ([bookD dy, refD dy, bookD dy, refD dy].map PyData.bool)) := fun H p n h => by
    have f1 := bools_ok [bookD dy, refD dy, bookD dy, refD dy]
    exact ⟨.lst n (.of h) (dv_bools [bookD dy, refD dy, bookD dy, refD dy]), f1.sh, Nat.le_trans f1.dp (by decide), f1.fits (by show 4 ≤ 15000; decide)⟩
  obtain ⟨q1, q2, q3, q4⟩ := bl4 HJ pt npt gJ
  refine ⟨_, rfl, c, pt, _, rfl, q1, q2, q3, q4, ?_⟩
  refine ⟨_, rfl, _, rfl, pd, pd, _, _, rfl, rfl, sEJ _ _ gD, sEJ _ _ gD, szl rfl, fun pu hpu => ?_⟩
  have sK : Same HJ (upd HJ pu (.lst ([.bl (bookD dy), .bl (refD dy)] ++ [.bl (bookD dy), .bl (refD dy)]))) := same_new hpu
  have npu := (bE.same sEJ).ne hpu
  obtain ⟨q5, q6, q7, q8⟩ := bl4 (upd HJ pu (.lst ([.bl (bookD dy), .bl (refD dy)] ++ [.bl (bookD dy), .bl (refD dy)]))) pu npu upd_same
  refine ⟨c, pu, _, rfl, q5, q6, q7, q8, rfl, _, rfl, ?_⟩
  rw [nd_self]
  refine iteF ?_
  have sEK := sEJ.trans sK
  clear q1 q2 q3 q4 q5 q6 q7 q8 gJ bl4
  refine ⟨_, rfl, ?_⟩
  dsimp only [tNil]
  refine hz1 _ _ (dv'.up (.of sEK)) ?_
  refine ⟨_, rfl, rfl, _, rfl, ?_⟩
  rw [nd_self]
  refine iteF ?_
  dsimp only [tNext]
  have gDK := sEK _ _ gD
  generalize upd HJ pu _ = HK at sK sEK gDK ⊢
  have dvK := dv'.up (.of sEK)
  have ncK : HK c ≠ none := by rw [sEK _ _ hcsE]; exact fun z => nomatch z
  refine ⟨_, rfl, fun x1 e1 a1 b1 c1 => ?_⟩
  refine mk_one (pc_Won T) ncK dvK sl' dp' a1 b1 c1 fun HL t1 y1 s1 p1 n1 h1 d1 => ?_
  refine ⟨_, rfl, pd, _, 0, .bl (bookD dy), rfl, rfl, .of (s1 _ _ gDK), atI_nat (j := 0) rfl, szl rfl, fun pa hpa => ?_⟩
  have s2 : Same HL (upd HL pa (.tup [.ref x1, .bl (bookD dy)])) := same_new hpa
  have ga : upd HL pa (.tup [.ref x1, .bl (bookD dy)]) pa = some (.tup [.ref x1, .bl (bookD dy)]) := upd_same
  generalize upd HL pa _ = HM at s2 ga ⊢
  have s12 := s1.trans s2
  have ncM : HM c ≠ none := by rw [s12 _ _ (sEK _ _ hcsE)]; exact fun z => nomatch z
  refine ⟨_, rfl, fun x2 e2 a2 b2 c2 => ?_⟩
  refine mk_one (pc_Unwon T) ncM (dvK.up (.of s12)) sl' dp' a2 b2 c2 fun HN t2 y2 s3 p2 n2 h2 d2 => ?_
  refine ⟨_, rfl, pd, _, 1, .bl (refD dy), rfl, rfl, .of ((s12.trans s3) _ _ gDK), atI_nat (j := 1) rfl, szl rfl, fun pb hpb => ?_⟩
  have s4 : Same HN (upd HN pb (.tup [.ref x2, .bl (refD dy)])) := same_new hpb
  have gb : upd HN pb (.tup [.ref x2, .bl (refD dy)]) pb = some (.tup [.ref x2, .bl (refD dy)]) := upd_same
  generalize upd HN pb _ = HO' at s4 gb ⊢
  refine ⟨szl rfl, fun pc hpc => ⟨pc, rfl, ⟨_, .of upd_same⟩, ?_⟩⟩
  have s5 : Same HO' (upd HO' pc (.tup [.ref pa, .ref pb])) := same_new hpc
  have gc : upd HO' pc (.tup [.ref pa, .ref pb]) pc = some (.tup [.ref pa, .ref pb]) := upd_same
  generalize upd HO' pc _ = HZ at s5 gc ⊢
  have s45 := s4.trans s5
  have s35 := s3.trans s45
  have ga := s35 _ _ ga
  have gb := s5 _ _ gb
  have sKZ := s12.trans s35
  have p1 := p1.same (s2.trans s35)
  have d1 := d1.up (.of (s2.trans s35))
  have p2 := p2.same s45
  have d2 := d2.up (.of s45)
  have ncZ : HZ c ≠ none := by rw [sKZ _ _ (sEK _ _ hcsE)]; exact fun z => nomatch z
  have sEZ := sEK.trans sKZ
  obtain ⟨dx1, hx1⟩ := p1.2
  obtain ⟨dx2, hx2⟩ := p2.2
  have ff : Fine 20 340 (fixD d') := fd'.fix.mono (by decide) (Nat.le_refl _)
  have w1 := won_heard T ncZ hx1 d1 ff (by decide)
  have w2 := unwon_heard T ncZ hx2 d2 ff (by decide)
  rw [bk_fix, eb] at w1
  rw [ref_fix, er] at w2
  obtain ⟨zp, hzp⟩ := repPaper (K := K)
  refine for_it (walk_tup (K := K) (a := pc) (xs := [.ref pa, .ref pb])) (fun j2 σ H' => (∃ t10 t11 : Option V, σ = [some (.ref a), some (.ref c), some (.int (0 + (i : Int))), some vb, some vr, some y, some (.ref pd), some v', some (.str z1), some (.ref pt), t10, t11, none]) ∧ Same HZ H') ⟨⟨_, _, rfl⟩, Same.refl _⟩ (fun j2 σ H' _ h => .of (h.2 _ _ gc)) ?_ ?_
  rotate_left
  · rintro σ H' ⟨⟨t10, t11, rfl⟩, s⟩
    have st := sEZ.trans s
    refine ⟨⟨_, _, _, _, _, _, _, rfl⟩, ⟨tb.same st, tr.same st, tv3.same st, tv4.same st⟩, st _ _ g9, (bE.same st).mono (by rw [Nat.mul_add]; omega)⟩
  have core : ∀ (x : Addr) (b : Bool) (H' : Hp) (Q' : Bool → Hp → Prop) (σ2 : L2.St), ((b = false ∧ ∀ (H' : Hp) (Q : VK), Same HZ H' → (∀ H'', Same H' H'' → Q (.str "paper") H'') → spHe T [.ref x] H' Q E0) ∨
    (b = true ∧ ∃ dd, Fine 5 11000 dd ∧ dd.canLay0 = true ∧ (∀ (H' : Hp) (Q : VK), Same HZ H' → (∀ t H'', Same H' H'' → DV K c H'' (.ref t) dd → Q (.ref t) H'') → spHe T [.ref x] H' Q E0) ∧
      ∀ (H' : Hp) (Q : VK), Same HZ H' → (∀ t H'', Same H' H'' → DV K c H'' (.ref t) dd → Q (.ref t) H'') → spWa T [.ref x] H' Q E0)) → Same HZ H' → σ2[10]? = some (some (.ref x)) → σ2[11]? = some (some (.bl b)) → (∀ H'', Same H' H'' → Q' false H'') →
      tTest (tOp rNe (tCB (fun xs H_1 Q => rRepr K xs H_1 Q ∨ rReprI xs H_1 Q ∨ rReprS xs H_1 Q) (tCons (tCall (spHe T) [] E0 (tCons (tVar 10) tNil)) tNil))
        (tCB (fun xs H_1 Q => rRepr K xs H_1 Q ∨ rReprI xs H_1 Q ∨ rReprS xs H_1 Q) (tCons (tIf (tB (tVar 11)) (tCall (spWa T) [] E0 (tCons (tVar 10) tNil)) (tC (.str "paper"))) tNil))) σ2 H' Q' := by
    intro x b H' Q' σ2 w s h10 h11 kj
    rcases w with ⟨rfl, hf⟩ | ⟨rfl, dd, fdd, cdd, hf, wf⟩
    · refine ⟨_, h10, ?_⟩
      refine hf H' _ s fun H2 s2 => ?_
      refine hzp H2 _ ?_
      refine ⟨_, h11, _, rfl, iteF ?_⟩
      refine hzp H2 _ ?_
      refine ⟨rfl, _, rfl, ?_⟩
      rw [nd_self]
      exact kj H2 s2
    · refine ⟨_, h10, ?_⟩
      refine hf H' _ s fun t2 H2 s2 dv2 => ?_
      refine .inl ⟨c, t2, dd, rfl, dv2, fdd.sh, Nat.le_trans fdd.dp (by decide), fdd.fits (by decide), ?_⟩
      refine ⟨_, h11, _, rfl, iteT ⟨_, h10, ?_⟩⟩
      refine wf H2 _ (s.trans s2) fun t3 H3 s3 dv3 => ?_
      refine .inl ⟨c, t3, dd, rfl, dv3, fdd.sh, Nat.le_trans fdd.dp (by decide), fdd.fits (by decide), ?_⟩
      refine ⟨rfl, _, rfl, ?_⟩
      rw [nd_self]
      exact kj H3 (s2.trans s3)
  rintro j2 w' σ H' H'' hj2 ⟨⟨t10, t11, rfl⟩, s⟩ ⟨rfl, hw⟩
  match j2, hw with
  | 0, hw =>
    cases hw
    refine ⟨pa, _, rfl, .of (s _ _ ga), rfl, _, _, rfl, _, _, rfl, rfl, ?_⟩
    dsimp only [List.set]
    refine core x1 (bookD dy) H'' _ _ w1 s rfl rfl fun H3 s3 => ?_
    exact iteF ⟨⟨_, _, rfl⟩, s.trans s3⟩
  | 1, hw =>
    cases hw
    refine ⟨pb, _, rfl, .of (s _ _ gb), rfl, _, _, rfl, _, _, rfl, rfl, ?_⟩
    dsimp only [List.set]
    refine core x2 (refD dy) H'' _ _ w2 s rfl rfl fun H3 s3 => ?_
    exact iteF ⟨⟨_, _, rfl⟩, s.trans s3⟩
  | j2 + 2, hw => simp at hw
end
end K39

set_option Elab.async false
set_option linter.all false
set_option maxRecDepth 100000
set_option maxHeartbeats 4000000
namespace K39
open PySem PySem.Spec PyProof.Rows L2 Gs
section
variable {K : PySem.W.Frag}
theorem cls_by {S : Addr} {t : Value} {b : Bool} (h2 : PySem.W.isClsIn K S = true) (h3 : PySem.W.typeIn K (.ref S) = some (.type "type")) (h4 : PySem.W.subIn K t (.ref S) = some b) : PySem.W.kitCls K t (.ref S) = some b := by
  have h2' : (PySem.W.clsIn K S).isSome = true := h2
  show (if ((PySem.W.clsIn K S).isSome && PySem.W.typeIn K (.ref S) == some (.type "type")) = true then PySem.W.subIn K t (.ref S) else none) = some b
  rw [h2', h3]
  exact h4
theorem exm_by {C S : Addr} {b : Bool} (h1 : PySem.W.subIn K (.ref S) (.type "BaseException") = some true) (h2 : PySem.W.isClsIn K S = true) (h3 : PySem.W.typeIn K (.ref S) = some (.type "type")) (h4 : PySem.W.subIn K (.ref C) (.ref S) = some b) :
    PySem.W.exmOne K (.ref C) (.ref S) = some b := by
  have e1 : (PySem.W.subIn K (.ref S) (.type "BaseException") == some true) = true := by rw [h1] <;> rfl
  show (if (PySem.W.subIn K (.ref S) (.type "BaseException") == some true) = true then PySem.W.kitCls K (.ref C) (.ref S) else none) = some b
  rw [if_pos e1]
  exact cls_by h2 h3 h4
end
def nfB (K : PySem.W.Frag) (l m : List Addr) : Bool := l.all fun a => m.all fun b => PySem.W.notFirst K b (.ref a)
theorem nfB_of {K : PySem.W.Frag} {l m : List Addr} (h : nfB K l m = true) : ∀ a ∈ l, ∀ b ∈ m, PySem.W.notFirst K b (.ref a) = true := fun a ha b hb => List.all_eq_true.mp (List.all_eq_true.mp h a ha) b hb
def ktB (K : PySem.W.Frag) (cs : List Addr) (ts : List String) : Bool := cs.all fun C => ts.all fun t => PySem.W.subIn K (.type t) (.ref C) == some false
theorem ktB_of {K : PySem.W.Frag} {cs : List Addr} {ts : List String} (i : ∀ C ∈ cs, PySem.W.isClsIn K C = true) (t : ∀ C ∈ cs, PySem.W.typeIn K (.ref C) = some (.type "type")) (h : ktB K cs ts = true) : ∀ C ∈ cs, ∀ x ∈ ts, PySem.W.kitOne K (.type x) (.ref C) = some false := fun C hC x hx =>
  kit_tr (i C hC) (t C hC) (beq_iff_eq.mp (List.all_eq_true.mp (List.all_eq_true.mp h C hC) x hx))
theorem all_mk {l : PySem.W.OpenLaw} {w : World} {K : PySem.W.Frag} {h : Heap} {mg : Str → Option Value} {fa : Addr} (X : K.In h) (G : h.Ns mainGlobals mg) (hfa : mg "law" = some (.ref fa))
    {cAPaper : Addr} {cADenial : Addr} {cAWon : Addr} {cAUnwon : Addr} {cAFieldError : Addr} {nmFieldError qFieldError : Str} {NFieldError : Addr} {bsFieldError bmFieldError : List Value} {snFieldError : List Str} {subFieldError : List Value} {abFieldError : Bool} {colFieldError : Option Bool} {ddFieldError : Option Addr} {m0FieldError m1FieldError m2FieldError m3FieldError m5FieldError : Option Value} {cABadPaper : Addr} {nmBadPaper qBadPaper : Str} {NBadPaper : Addr} {bsBadPaper bmBadPaper : List Value} {snBadPaper : List Str} {subBadPaper : List Value} {abBadPaper : Bool} {colBadPaper : Option Bool} {ddBadPaper : Option Addr} {m0BadPaper m1BadPaper m2BadPaper m3BadPaper m5BadPaper : Option Value} {f0 : Addr} {od0 an0 : Option Addr} {sl0 : Array (Option Value)} {oc0 kV0 dc0 pm0 ct0 : Value} {cd0 : Value} {f1 : Addr} {od1 an1 : Option Addr} {sl1 : Array (Option Value)} {oc1 kV1 dc1 pm1 ct1 : Value} {cd1 : Value} {f2 : Addr} {od2 an2 : Option Addr} {sl2 : Array (Option Value)} {oc2 kV2 dc2 pm2 ct2 : Value} {cd2 : Value} {f3 : Addr} {od3 an3 : Option Addr} {sl3 : Array (Option Value)} {oc3 kV3 dc3 pm3 ct3 : Value} {cd3 : Value} {f4 : Addr} {od4 an4 : Option Addr} {sl4 : Array (Option Value)} {oc4 kV4 dc4 pm4 ct4 : Value} {cd4 : Value} {f5 : Addr} {od5 an5 : Option Addr} {sl5 : Array (Option Value)} {oc5 kV5 dc5 pm5 ct5 : Value} {cd5 : Value} {f6 : Addr} {od6 an6 : Option Addr} {sl6 : Array (Option Value)} {oc6 kV6 dc6 pm6 ct6 : Value} {cd6 : Value} {f7 : Addr} {od7 an7 : Option Addr} {sl7 : Array (Option Value)} {oc7 kV7 dc7 pm7 ct7 : Value} {cd7 : Value} {f8 : Addr} {od8 an8 : Option Addr} {sl8 : Array (Option Value)} {oc8 kV8 dc8 pm8 ct8 : Value} {cd8 : Value} {f9 : Addr} {od9 an9 : Option Addr} {sl9 : Array (Option Value)} {oc9 kV9 dc9 pm9 ct9 : Value} {cd9 : Value} {f10 : Addr} {od10 an10 : Option Addr} {sl10 : Array (Option Value)} {oc10 kV10 dc10 pm10 ct10 : Value} {cd10 : Value} {f11 : Addr} {od11 an11 : Option Addr} {sl11 : Array (Option Value)} {oc11 kV11 dc11 pm11 ct11 : Value} {cd11 : Value} {f12 : Addr} {od12 an12 : Option Addr} {sl12 : Array (Option Value)} {oc12 kV12 dc12 pm12 ct12 : Value} {cd12 : Value} {f13 : Addr} {od13 an13 : Option Addr} {sl13 : Array (Option Value)} {oc13 kV13 dc13 pm13 ct13 : Value} {cd13 : Value} {f14 : Addr} {od14 an14 : Option Addr} {sl14 : Array (Option Value)} {oc14 kV14 dc14 pm14 ct14 : Value} {cd14 : Value} {f15 : Addr} {od15 an15 : Option Addr} {sl15 : Array (Option Value)} {oc15 kV15 dc15 pm15 ct15 : Value} {cd15 : Value} {f16 : Addr} {od16 an16 : Option Addr} {sl16 : Array (Option Value)} {oc16 kV16 dc16 pm16 ct16 : Value} {cd16 : Value} {f17 : Addr} {od17 an17 : Option Addr} {sl17 : Array (Option Value)} {oc17 kV17 dc17 pm17 ct17 : Value} {cd17 : Value} {f18 : Addr} {od18 an18 : Option Addr} {sl18 : Array (Option Value)} {oc18 kV18 dc18 pm18 ct18 : Value} {cd18 : Value} {f19 : Addr} {od19 an19 : Option Addr} {sl19 : Array (Option Value)} {oc19 kV19 dc19 pm19 ct19 : Value} {cd19 : Value} {f20 : Addr} {od20 an20 : Option Addr} {sl20 : Array (Option Value)} {oc20 kV20 dc20 pm20 ct20 : Value} {cd20 : Value} {f21 : Addr} {od21 an21 : Option Addr} {sl21 : Array (Option Value)} {oc21 kV21 dc21 pm21 ct21 : Value} {cd21 : Value} {f22 : Addr} {od22 an22 : Option Addr} {sl22 : Array (Option Value)} {oc22 kV22 dc22 pm22 ct22 : Value} {cd22 : Value} {f23 : Addr} {od23 an23 : Option Addr} {sl23 : Array (Option Value)} {oc23 kV23 dc23 pm23 ct23 : Value} {cd23 : Value} {f24 : Addr} {od24 an24 : Option Addr} {sl24 : Array (Option Value)} {oc24 kV24 dc24 pm24 ct24 : Value} {cd24 : Value} {f25 : Addr} {od25 an25 : Option Addr} {sl25 : Array (Option Value)} {oc25 kV25 dc25 pm25 ct25 : Value} {cd25 : Value} {f26 : Addr} {od26 an26 : Option Addr} {sl26 : Array (Option Value)} {oc26 kV26 dc26 pm26 ct26 : Value} {cd26 : Value} {f27 : Addr} {od27 an27 : Option Addr} {sl27 : Array (Option Value)} {oc27 kV27 dc27 pm27 ct27 : Value} {cd27 : Value} {f28 : Addr} {od28 an28 : Option Addr} {sl28 : Array (Option Value)} {oc28 kV28 dc28 pm28 ct28 : Value} {cd28 : Value} {f29 : Addr} {od29 an29 : Option Addr} {sl29 : Array (Option Value)} {oc29 kV29 dc29 pm29 ct29 : Value} {cd29 : Value} {f30 : Addr} {od30 an30 : Option Addr} {sl30 : Array (Option Value)} {oc30 kV30 dc30 pm30 ct30 : Value} {cd30 : Value} {f31 : Addr} {od31 an31 : Option Addr} {sl31 : Array (Option Value)} {oc31 kV31 dc31 pm31 ct31 : Value} {cd31 : Value} {f32 : Addr} {od32 an32 : Option Addr} {sl32 : Array (Option Value)} {oc32 kV32 dc32 pm32 ct32 : Value} {cd32 : Value} {f33 : Addr} {od33 an33 : Option Addr} {sl33 : Array (Option Value)} {oc33 kV33 dc33 pm33 ct33 : Value} {cd33 : Value} {f34 : Addr} {od34 an34 : Option Addr} {sl34 : Array (Option Value)} {oc34 kV34 dc34 pm34 ct34 : Value} {cd34 : Value} {f35 : Addr} {od35 an35 : Option Addr} {sl35 : Array (Option Value)} {oc35 kV35 dc35 pm35 ct35 : Value} {cd35 : Value} {f36 : Addr} {od36 an36 : Option Addr} {sl36 : Array (Option Value)} {oc36 kV36 dc36 pm36 ct36 : Value} {cd36 : Value} {f37 : Addr} {od37 an37 : Option Addr} {sl37 : Array (Option Value)} {oc37 kV37 dc37 pm37 ct37 : Value} {cd37 : Value} {f38 : Addr} {od38 an38 : Option Addr} {sl38 : Array (Option Value)} {oc38 kV38 dc38 pm38 ct38 : Value} {cd38 : Value} {f39 : Addr} {od39 an39 : Option Addr} {sl39 : Array (Option Value)} {oc39 kV39 dc39 pm39 ct39 : Value} {cd39 : Value} {f40 : Addr} {od40 an40 : Option Addr} {sl40 : Array (Option Value)} {oc40 kV40 dc40 pm40 ct40 : Value} {cd40 : Value} {f41 : Addr} {od41 an41 : Option Addr} {sl41 : Array (Option Value)} {oc41 kV41 dc41 pm41 ct41 : Value} {cd41 : Value} {f42 : Addr} {od42 an42 : Option Addr} {sl42 : Array (Option Value)} {oc42 kV42 dc42 pm42 ct42 : Value} {cd42 : Value} {f43 : Addr} {od43 an43 : Option Addr} {sl43 : Array (Option Value)} {oc43 kV43 dc43 pm43 ct43 : Value} {cd43 : Value} {f44 : Addr} {od44 an44 : Option Addr} {sl44 : Array (Option Value)} {oc44 kV44 dc44 pm44 ct44 : Value} {cd44 : Value} {f45 : Addr} {od45 an45 : Option Addr} {sl45 : Array (Option Value)} {oc45 kV45 dc45 pm45 ct45 : Value} {cd45 : Value} 
    (aCPaper : PySem.W.nsIn K mainGlobals "Paper" = some (some (.ref cAPaper)))
    (pgPaper : PySem.W.plainGet K cAPaper Str.empty = true)
    (hdPaper : PySem.W.hasDictIn K cAPaper = true)
    (poPaper : PySem.W.plainOver K cAPaper = true)
    (saPaper : PySem.W.findIn K (.ref cAPaper) "__setattr__" = some (some (.builtin "object.__setattr__")))
    (mkPaper : PySem.W.makesIn K cAPaper = true)
    (kcPaper : PySem.W.keepIn K (.ref cAPaper) = true)
    (nFPaper_word : PySem.W.findIn K (.ref cAPaper) "word" = some none)
    (nFPaper_parts : PySem.W.findIn K (.ref cAPaper) "parts" = some none)
    (aCDenial : PySem.W.nsIn K mainGlobals "Denial" = some (some (.ref cADenial)))
    (pgDenial : PySem.W.plainGet K cADenial Str.empty = true)
    (hdDenial : PySem.W.hasDictIn K cADenial = true)
    (poDenial : PySem.W.plainOver K cADenial = true)
    (saDenial : PySem.W.findIn K (.ref cADenial) "__setattr__" = some (some (.builtin "object.__setattr__")))
    (mkDenial : PySem.W.makesIn K cADenial = true)
    (kcDenial : PySem.W.keepIn K (.ref cADenial) = true)
    (nFDenial_word : PySem.W.findIn K (.ref cADenial) "word" = some none)
    (nFDenial_parts : PySem.W.findIn K (.ref cADenial) "parts" = some none)
    (aCWon : PySem.W.nsIn K mainGlobals "Won" = some (some (.ref cAWon)))
    (pgWon : PySem.W.plainGet K cAWon Str.empty = true)
    (hdWon : PySem.W.hasDictIn K cAWon = true)
    (poWon : PySem.W.plainOver K cAWon = true)
    (saWon : PySem.W.findIn K (.ref cAWon) "__setattr__" = some (some (.builtin "object.__setattr__")))
    (mkWon : PySem.W.makesIn K cAWon = true)
    (kcWon : PySem.W.keepIn K (.ref cAWon) = true)
    (nFWon_word : PySem.W.findIn K (.ref cAWon) "word" = some none)
    (nFWon_parts : PySem.W.findIn K (.ref cAWon) "parts" = some none)
    (nFWon_book : PySem.W.findIn K (.ref cAWon) "book" = some none)
    (aCUnwon : PySem.W.nsIn K mainGlobals "Unwon" = some (some (.ref cAUnwon)))
    (pgUnwon : PySem.W.plainGet K cAUnwon Str.empty = true)
    (hdUnwon : PySem.W.hasDictIn K cAUnwon = true)
    (poUnwon : PySem.W.plainOver K cAUnwon = true)
    (saUnwon : PySem.W.findIn K (.ref cAUnwon) "__setattr__" = some (some (.builtin "object.__setattr__")))
    (mkUnwon : PySem.W.makesIn K cAUnwon = true)
    (kcUnwon : PySem.W.keepIn K (.ref cAUnwon) = true)
    (nFUnwon_word : PySem.W.findIn K (.ref cAUnwon) "word" = some none)
    (nFUnwon_parts : PySem.W.findIn K (.ref cAUnwon) "parts" = some none)
    (nFUnwon_replies : PySem.W.findIn K (.ref cAUnwon) "replies" = some none)
    (aCFieldError : PySem.W.nsIn K mainGlobals "FieldError" = some (some (.ref cAFieldError)))
    (xLFieldError : K.lookup cAFieldError = some (excClassObj nmFieldError qFieldError cAFieldError NFieldError bsFieldError bmFieldError true snFieldError subFieldError abFieldError colFieldError ddFieldError m0FieldError m1FieldError m2FieldError m3FieldError m5FieldError "ValueError.__new__"))
    (rfFieldError : PySem.HandSPX.refsVE bmFieldError = true)
    (saFieldError : PySem.W.findIn K (.ref cAFieldError) "__setattr__" = some (some (.builtin "object.__setattr__")))
    (eCFieldError : PySem.W.subIn K (.ref cAFieldError) (.type "BaseException") = some true)
    (tCFieldError : PySem.W.typeIn K (.ref cAFieldError) = some (.type "type"))
    (kcFieldError : PySem.W.keepIn K (.ref cAFieldError) = true)
    (hdFieldError : PySem.W.hasDictIn K cAFieldError = true)
    (iCFieldError : PySem.W.isClsIn K cAFieldError = true)
    (gaFieldError : PySem.W.findIn K (.ref cAFieldError) "__getattribute__" = some (some (.builtin "BaseException.__getattribute__")))
    (ggFieldError : PySem.W.findIn K (.ref cAFieldError) "__getattr__" = some none)
    (aCBadPaper : PySem.W.nsIn K mainGlobals "BadPaper" = some (some (.ref cABadPaper)))
    (xLBadPaper : K.lookup cABadPaper = some (excClassObj nmBadPaper qBadPaper cABadPaper NBadPaper bsBadPaper bmBadPaper true snBadPaper subBadPaper abBadPaper colBadPaper ddBadPaper m0BadPaper m1BadPaper m2BadPaper m3BadPaper m5BadPaper "ValueError.__new__"))
    (rfBadPaper : PySem.HandSPX.refsVE bmBadPaper = true)
    (saBadPaper : PySem.W.findIn K (.ref cABadPaper) "__setattr__" = some (some (.builtin "object.__setattr__")))
    (eCBadPaper : PySem.W.subIn K (.ref cABadPaper) (.type "BaseException") = some true)
    (tCBadPaper : PySem.W.typeIn K (.ref cABadPaper) = some (.type "type"))
    (kcBadPaper : PySem.W.keepIn K (.ref cABadPaper) = true)
    (hdBadPaper : PySem.W.hasDictIn K cABadPaper = true)
    (iCBadPaper : PySem.W.isClsIn K cABadPaper = true)
    (gaBadPaper : PySem.W.findIn K (.ref cABadPaper) "__getattribute__" = some (some (.builtin "BaseException.__getattribute__")))
    (ggBadPaper : PySem.W.findIn K (.ref cABadPaper) "__getattr__" = some none)
    (noBadPaper_part : PySem.W.findIn K (.ref cABadPaper) "part" = some none)
    (xmBadPaper_BadPaper : PySem.W.subIn K (.ref cABadPaper) (.ref cABadPaper) = some true)
    (a0 : PySem.W.nsIn K mainGlobals "is_integer" = some (some (.ref f0)))
    (l0 : K.lookup f0 = some ⟨oc0, od0, .func (PySem.W.fnOf "is_integer" "is_integer" (defArgs s_is_integer) (defBody s_is_integer) (defScope s_is_integer) .none kV0 dc0 pm0 an0 cd0 ct0), sl0⟩)
    (c0 : PySem.W.codeIn K cd0 "is_integer" = true)
    (k0 : PySem.W.keepIn K (.ref f0) = true)
    (a1 : PySem.W.nsIn K mainGlobals "is_list" = some (some (.ref f1)))
    (l1 : K.lookup f1 = some ⟨oc1, od1, .func (PySem.W.fnOf "is_list" "is_list" (defArgs s_is_list) (defBody s_is_list) (defScope s_is_list) .none kV1 dc1 pm1 an1 cd1 ct1), sl1⟩)
    (c1 : PySem.W.codeIn K cd1 "is_list" = true)
    (k1 : PySem.W.keepIn K (.ref f1) = true)
    (a2 : PySem.W.nsIn K mainGlobals "is_square" = some (some (.ref f2)))
    (l2 : K.lookup f2 = some ⟨oc2, od2, .func (PySem.W.fnOf "is_square" "is_square" (defArgs s_is_square) (defBody s_is_square) (defScope s_is_square) .none kV2 dc2 pm2 an2 cd2 ct2), sl2⟩)
    (c2 : PySem.W.codeIn K cd2 "is_square" = true)
    (k2 : PySem.W.keepIn K (.ref f2) = true)
    (a3 : PySem.W.nsIn K mainGlobals "is_move" = some (some (.ref f3)))
    (l3 : K.lookup f3 = some ⟨oc3, od3, .func (PySem.W.fnOf "is_move" "is_move" (defArgs s_is_move) (defBody s_is_move) (defScope s_is_move) .none kV3 dc3 pm3 an3 cd3 ct3), sl3⟩)
    (c3 : PySem.W.codeIn K cd3 "is_move" = true)
    (k3 : PySem.W.keepIn K (.ref f3) = true)
    (a4 : PySem.W.findIn K (.ref cABadPaper) "__init__" = some (some (.ref f4)))
    (t4 : PySem.W.typeIn K (.ref f4) = some (.type "function"))
    (l4 : K.lookup f4 = some ⟨oc4, od4, .func (PySem.W.fnOf "__init__" "BadPaper.__init__" (defArgs s_BadPaper___init__) (defBody s_BadPaper___init__) (defScope s_BadPaper___init__) .none kV4 dc4 pm4 an4 cd4 ct4), sl4⟩)
    (c4 : PySem.W.codeIn K cd4 "BadPaper.__init__" = true)
    (k4 : PySem.W.keepIn K (.ref f4) = true)
    (a5 : PySem.W.nsIn K mainGlobals "fixed" = some (some (.ref f5)))
    (l5 : K.lookup f5 = some ⟨oc5, od5, .func (PySem.W.fnOf "fixed" "fixed" (defArgs s_fixed) (defBody s_fixed) (defScope s_fixed) .none kV5 dc5 pm5 an5 cd5 ct5), sl5⟩)
    (c5 : PySem.W.codeIn K cd5 "fixed" = true)
    (k5 : PySem.W.keepIn K (.ref f5) = true)
    (a6 : PySem.W.findIn K (.ref cAPaper) "__init__" = some (some (.ref f6)))
    (t6 : PySem.W.typeIn K (.ref f6) = some (.type "function"))
    (l6 : K.lookup f6 = some ⟨oc6, od6, .func (PySem.W.fnOf "__init__" "Paper.__init__" (defArgs s_Paper___init__) (defBody s_Paper___init__) (defScope s_Paper___init__) .none kV6 dc6 pm6 an6 cd6 ct6), sl6⟩)
    (c6 : PySem.W.codeIn K cd6 "Paper.__init__" = true)
    (k6 : PySem.W.keepIn K (.ref f6) = true)
    (a7 : PySem.W.findIn K (.ref cAPaper) "__eq__" = some (some (.ref f7)))
    (t7 : PySem.W.typeIn K (.ref f7) = some (.type "function"))
    (l7 : K.lookup f7 = some ⟨oc7, od7, .func (PySem.W.fnOf "__eq__" "Paper.__eq__" (defArgs s_Paper___eq__) (defBody s_Paper___eq__) (defScope s_Paper___eq__) .none kV7 dc7 pm7 an7 cd7 ct7), sl7⟩)
    (c7 : PySem.W.codeIn K cd7 "Paper.__eq__" = true)
    (k7 : PySem.W.keepIn K (.ref f7) = true)
    (a8 : PySem.W.findIn K (.ref cAPaper) "__bool__" = some (some (.ref f8)))
    (t8 : PySem.W.typeIn K (.ref f8) = some (.type "function"))
    (l8 : K.lookup f8 = some ⟨oc8, od8, .func (PySem.W.fnOf "__bool__" "Paper.__bool__" (defArgs s_Paper___bool__) (defBody s_Paper___bool__) (defScope s_Paper___bool__) .none kV8 dc8 pm8 an8 cd8 ct8), sl8⟩)
    (c8 : PySem.W.codeIn K cd8 "Paper.__bool__" = true)
    (k8 : PySem.W.keepIn K (.ref f8) = true)
    (a9 : PySem.W.findIn K (.ref cADenial) "__init__" = some (some (.ref f9)))
    (t9 : PySem.W.typeIn K (.ref f9) = some (.type "function"))
    (l9 : K.lookup f9 = some ⟨oc9, od9, .func (PySem.W.fnOf "__init__" "Denial.__init__" (defArgs s_Denial___init__) (defBody s_Denial___init__) (defScope s_Denial___init__) .none kV9 dc9 pm9 an9 cd9 ct9), sl9⟩)
    (c9 : PySem.W.codeIn K cd9 "Denial.__init__" = true)
    (k9 : PySem.W.keepIn K (.ref f9) = true)
    (a10 : PySem.W.findIn K (.ref cADenial) "__eq__" = some (some (.ref f10)))
    (t10 : PySem.W.typeIn K (.ref f10) = some (.type "function"))
    (l10 : K.lookup f10 = some ⟨oc10, od10, .func (PySem.W.fnOf "__eq__" "Denial.__eq__" (defArgs s_Denial___eq__) (defBody s_Denial___eq__) (defScope s_Denial___eq__) .none kV10 dc10 pm10 an10 cd10 ct10), sl10⟩)
    (c10 : PySem.W.codeIn K cd10 "Denial.__eq__" = true)
    (k10 : PySem.W.keepIn K (.ref f10) = true)
    (a11 : PySem.W.findIn K (.ref cADenial) "__bool__" = some (some (.ref f11)))
    (t11 : PySem.W.typeIn K (.ref f11) = some (.type "function"))
    (l11 : K.lookup f11 = some ⟨oc11, od11, .func (PySem.W.fnOf "__bool__" "Denial.__bool__" (defArgs s_Denial___bool__) (defBody s_Denial___bool__) (defScope s_Denial___bool__) .none kV11 dc11 pm11 an11 cd11 ct11), sl11⟩)
    (c11 : PySem.W.codeIn K cd11 "Denial.__bool__" = true)
    (k11 : PySem.W.keepIn K (.ref f11) = true)
    (a12 : PySem.W.nsIn K mainGlobals "is_same_paper" = some (some (.ref f12)))
    (l12 : K.lookup f12 = some ⟨oc12, od12, .func (PySem.W.fnOf "is_same_paper" "is_same_paper" (defArgs s_is_same_paper) (defBody s_is_same_paper) (defScope s_is_same_paper) .none kV12 dc12 pm12 an12 cd12 ct12), sl12⟩)
    (c12 : PySem.W.codeIn K cd12 "is_same_paper" = true)
    (k12 : PySem.W.keepIn K (.ref f12) = true)
    (a13 : PySem.W.findIn K (.ref cAWon) "__init__" = some (some (.ref f13)))
    (t13 : PySem.W.typeIn K (.ref f13) = some (.type "function"))
    (l13 : K.lookup f13 = some ⟨oc13, od13, .func (PySem.W.fnOf "__init__" "Won.__init__" (defArgs s_Won___init__) (defBody s_Won___init__) (defScope s_Won___init__) .none kV13 dc13 pm13 an13 cd13 ct13), sl13⟩)
    (c13 : PySem.W.codeIn K cd13 "Won.__init__" = true)
    (k13 : PySem.W.keepIn K (.ref f13) = true)
    (a14 : PySem.W.findIn K (.ref cAUnwon) "__init__" = some (some (.ref f14)))
    (t14 : PySem.W.typeIn K (.ref f14) = some (.type "function"))
    (l14 : K.lookup f14 = some ⟨oc14, od14, .func (PySem.W.fnOf "__init__" "Unwon.__init__" (defArgs s_Unwon___init__) (defBody s_Unwon___init__) (defScope s_Unwon___init__) .none kV14 dc14 pm14 an14 cd14 ct14), sl14⟩)
    (c14 : PySem.W.codeIn K cd14 "Unwon.__init__" = true)
    (k14 : PySem.W.keepIn K (.ref f14) = true)
    (a15 : PySem.W.nsIn K mainGlobals "is_book" = some (some (.ref f15)))
    (l15 : K.lookup f15 = some ⟨oc15, od15, .func (PySem.W.fnOf "is_book" "is_book" (defArgs s_is_book) (defBody s_is_book) (defScope s_is_book) .none kV15 dc15 pm15 an15 cd15 ct15), sl15⟩)
    (c15 : PySem.W.codeIn K cd15 "is_book" = true)
    (k15 : PySem.W.keepIn K (.ref f15) = true)
    (a16 : PySem.W.nsIn K mainGlobals "is_refusal" = some (some (.ref f16)))
    (l16 : K.lookup f16 = some ⟨oc16, od16, .func (PySem.W.fnOf "is_refusal" "is_refusal" (defArgs s_is_refusal) (defBody s_is_refusal) (defScope s_is_refusal) .none kV16 dc16 pm16 an16 cd16 ct16), sl16⟩)
    (c16 : PySem.W.codeIn K cd16 "is_refusal" = true)
    (k16 : PySem.W.keepIn K (.ref f16) = true)
    (a17 : PySem.W.nsIn K mainGlobals "courses" = some (some (.ref f17)))
    (l17 : K.lookup f17 = some ⟨oc17, od17, .func (PySem.W.fnOf "courses" "courses" (defArgs s_courses) (defBody s_courses) (defScope s_courses) .none kV17 dc17 pm17 an17 cd17 ct17), sl17⟩)
    (c17 : PySem.W.codeIn K cd17 "courses" = true)
    (k17 : PySem.W.keepIn K (.ref f17) = true)
    (a18 : PySem.W.nsIn K mainGlobals "is_branch" = some (some (.ref f18)))
    (l18 : K.lookup f18 = some ⟨oc18, od18, .func (PySem.W.fnOf "is_branch" "is_branch" (defArgs s_is_branch) (defBody s_is_branch) (defScope s_is_branch) .none kV18 dc18 pm18 an18 cd18 ct18), sl18⟩)
    (c18 : PySem.W.codeIn K cd18 "is_branch" = true)
    (k18 : PySem.W.keepIn K (.ref f18) = true)
    (a19 : PySem.W.nsIn K mainGlobals "is_empty" = some (some (.ref f19)))
    (l19 : K.lookup f19 = some ⟨oc19, od19, .func (PySem.W.fnOf "is_empty" "is_empty" (defArgs s_is_empty) (defBody s_is_empty) (defScope s_is_empty) .none kV19 dc19 pm19 an19 cd19 ct19), sl19⟩)
    (c19 : PySem.W.codeIn K cd19 "is_empty" = true)
    (k19 : PySem.W.keepIn K (.ref f19) = true)
    (a20 : PySem.W.nsIn K mainGlobals "is_last_book" = some (some (.ref f20)))
    (l20 : K.lookup f20 = some ⟨oc20, od20, .func (PySem.W.fnOf "is_last_book" "is_last_book" (defArgs s_is_last_book) (defBody s_is_last_book) (defScope s_is_last_book) .none kV20 dc20 pm20 an20 cd20 ct20), sl20⟩)
    (c20 : PySem.W.codeIn K cd20 "is_last_book" = true)
    (k20 : PySem.W.keepIn K (.ref f20) = true)
    (a21 : PySem.W.nsIn K mainGlobals "is_last_refusal" = some (some (.ref f21)))
    (l21 : K.lookup f21 = some ⟨oc21, od21, .func (PySem.W.fnOf "is_last_refusal" "is_last_refusal" (defArgs s_is_last_refusal) (defBody s_is_last_refusal) (defScope s_is_last_refusal) .none kV21 dc21 pm21 an21 cd21 ct21), sl21⟩)
    (c21 : PySem.W.codeIn K cd21 "is_last_refusal" = true)
    (k21 : PySem.W.keepIn K (.ref f21) = true)
    (a22 : PySem.W.nsIn K mainGlobals "is_reply" = some (some (.ref f22)))
    (l22 : K.lookup f22 = some ⟨oc22, od22, .func (PySem.W.fnOf "is_reply" "is_reply" (defArgs s_is_reply) (defBody s_is_reply) (defScope s_is_reply) .none kV22 dc22 pm22 an22 cd22 ct22), sl22⟩)
    (c22 : PySem.W.codeIn K cd22 "is_reply" = true)
    (k22 : PySem.W.keepIn K (.ref f22) = true)
    (a23 : PySem.W.nsIn K mainGlobals "is_won_paper" = some (some (.ref f23)))
    (l23 : K.lookup f23 = some ⟨oc23, od23, .func (PySem.W.fnOf "is_won_paper" "is_won_paper" (defArgs s_is_won_paper) (defBody s_is_won_paper) (defScope s_is_won_paper) .none kV23 dc23 pm23 an23 cd23 ct23), sl23⟩)
    (c23 : PySem.W.codeIn K cd23 "is_won_paper" = true)
    (k23 : PySem.W.keepIn K (.ref f23) = true)
    (a24 : PySem.W.nsIn K mainGlobals "is_unwon_paper" = some (some (.ref f24)))
    (l24 : K.lookup f24 = some ⟨oc24, od24, .func (PySem.W.fnOf "is_unwon_paper" "is_unwon_paper" (defArgs s_is_unwon_paper) (defBody s_is_unwon_paper) (defScope s_is_unwon_paper) .none kV24 dc24 pm24 an24 cd24 ct24), sl24⟩)
    (c24 : PySem.W.codeIn K cd24 "is_unwon_paper" = true)
    (k24 : PySem.W.keepIn K (.ref f24) = true)
    (a25 : PySem.W.nsIn K mainGlobals "has_book" = some (some (.ref f25)))
    (l25 : K.lookup f25 = some ⟨oc25, od25, .func (PySem.W.fnOf "has_book" "has_book" (defArgs s_has_book) (defBody s_has_book) (defScope s_has_book) .none kV25 dc25 pm25 an25 cd25 ct25), sl25⟩)
    (c25 : PySem.W.codeIn K cd25 "has_book" = true)
    (k25 : PySem.W.keepIn K (.ref f25) = true)
    (a26 : PySem.W.nsIn K mainGlobals "has_refusal" = some (some (.ref f26)))
    (l26 : K.lookup f26 = some ⟨oc26, od26, .func (PySem.W.fnOf "has_refusal" "has_refusal" (defArgs s_has_refusal) (defBody s_has_refusal) (defScope s_has_refusal) .none kV26 dc26 pm26 an26 cd26 ct26), sl26⟩)
    (c26 : PySem.W.codeIn K cd26 "has_refusal" = true)
    (k26 : PySem.W.keepIn K (.ref f26) = true)
    (a27 : PySem.W.nsIn K mainGlobals "courses_of_book" = some (some (.ref f27)))
    (l27 : K.lookup f27 = some ⟨oc27, od27, .func (PySem.W.fnOf "courses_of_book" "courses_of_book" (defArgs s_courses_of_book) (defBody s_courses_of_book) (defScope s_courses_of_book) .none kV27 dc27 pm27 an27 cd27 ct27), sl27⟩)
    (c27 : PySem.W.codeIn K cd27 "courses_of_book" = true)
    (k27 : PySem.W.keepIn K (.ref f27) = true)
    (a28 : PySem.W.nsIn K mainGlobals "courses_of_refusal" = some (some (.ref f28)))
    (l28 : K.lookup f28 = some ⟨oc28, od28, .func (PySem.W.fnOf "courses_of_refusal" "courses_of_refusal" (defArgs s_courses_of_refusal) (defBody s_courses_of_refusal) (defScope s_courses_of_refusal) .none kV28 dc28 pm28 an28 cd28 ct28), sl28⟩)
    (c28 : PySem.W.codeIn K cd28 "courses_of_refusal" = true)
    (k28 : PySem.W.keepIn K (.ref f28) = true)
    (a29 : PySem.W.nsIn K mainGlobals "_law_satchel" = some (some (.ref f29)))
    (l29 : K.lookup f29 = some ⟨oc29, od29, .func (PySem.W.fnOf "_law_satchel" "_law_satchel" (defArgs s__law_satchel) (defBody s__law_satchel) (defScope s__law_satchel) .none kV29 dc29 pm29 an29 cd29 ct29), sl29⟩)
    (c29 : PySem.W.codeIn K cd29 "_law_satchel" = true)
    (k29 : PySem.W.keepIn K (.ref f29) = true)
    (a30 : PySem.W.nsIn K mainGlobals "_law_fetch" = some (some (.ref f30)))
    (l30 : K.lookup f30 = some ⟨oc30, od30, .func (PySem.W.fnOf "_law_fetch" "_law_fetch" (defArgs s__law_fetch) (defBody s__law_fetch) (defScope s__law_fetch) .none kV30 dc30 pm30 an30 cd30 ct30), sl30⟩)
    (c30 : PySem.W.codeIn K cd30 "_law_fetch" = true)
    (k30 : PySem.W.keepIn K (.ref f30) = true)
    (a31 : PySem.W.nsIn K mainGlobals "_law_one" = some (some (.ref f31)))
    (l31 : K.lookup f31 = some ⟨oc31, od31, .func (PySem.W.fnOf "_law_one" "_law_one" (defArgs s__law_one) (defBody s__law_one) (defScope s__law_one) .none kV31 dc31 pm31 an31 cd31 ct31), sl31⟩)
    (c31 : PySem.W.codeIn K cd31 "_law_one" = true)
    (k31 : PySem.W.keepIn K (.ref f31) = true)
    (a32 : PySem.W.nsIn K mainGlobals "_law_square" = some (some (.ref f32)))
    (l32 : K.lookup f32 = some ⟨oc32, od32, .func (PySem.W.fnOf "_law_square" "_law_square" (defArgs s__law_square) (defBody s__law_square) (defScope s__law_square) .none kV32 dc32 pm32 an32 cd32 ct32), sl32⟩)
    (c32 : PySem.W.codeIn K cd32 "_law_square" = true)
    (k32 : PySem.W.keepIn K (.ref f32) = true)
    (a33 : PySem.W.nsIn K mainGlobals "_law_move" = some (some (.ref f33)))
    (l33 : K.lookup f33 = some ⟨oc33, od33, .func (PySem.W.fnOf "_law_move" "_law_move" (defArgs s__law_move) (defBody s__law_move) (defScope s__law_move) .none kV33 dc33 pm33 an33 cd33 ct33), sl33⟩)
    (c33 : PySem.W.codeIn K cd33 "_law_move" = true)
    (k33 : PySem.W.keepIn K (.ref f33) = true)
    (a34 : PySem.W.nsIn K mainGlobals "_law_book" = some (some (.ref f34)))
    (l34 : K.lookup f34 = some ⟨oc34, od34, .func (PySem.W.fnOf "_law_book" "_law_book" (defArgs s__law_book) (defBody s__law_book) (defScope s__law_book) .none kV34 dc34 pm34 an34 cd34 ct34), sl34⟩)
    (c34 : PySem.W.codeIn K cd34 "_law_book" = true)
    (k34 : PySem.W.keepIn K (.ref f34) = true)
    (a35 : PySem.W.nsIn K mainGlobals "_law_refusal" = some (some (.ref f35)))
    (l35 : K.lookup f35 = some ⟨oc35, od35, .func (PySem.W.fnOf "_law_refusal" "_law_refusal" (defArgs s__law_refusal) (defBody s__law_refusal) (defScope s__law_refusal) .none kV35 dc35 pm35 an35 cd35 ct35), sl35⟩)
    (c35 : PySem.W.codeIn K cd35 "_law_refusal" = true)
    (k35 : PySem.W.keepIn K (.ref f35) = true)
    (a36 : PySem.W.nsIn K mainGlobals "_law_listed" = some (some (.ref f36)))
    (l36 : K.lookup f36 = some ⟨oc36, od36, .func (PySem.W.fnOf "_law_listed" "_law_listed" (defArgs s__law_listed) (defBody s__law_listed) (defScope s__law_listed) .none kV36 dc36 pm36 an36 cd36 ct36), sl36⟩)
    (c36 : PySem.W.codeIn K cd36 "_law_listed" = true)
    (k36 : PySem.W.keepIn K (.ref f36) = true)
    (a37 : PySem.W.nsIn K mainGlobals "_law_bent" = some (some (.ref f37)))
    (l37 : K.lookup f37 = some ⟨oc37, od37, .func (PySem.W.fnOf "_law_bent" "_law_bent" (defArgs s__law_bent) (defBody s__law_bent) (defScope s__law_bent) .none kV37 dc37 pm37 an37 cd37 ct37), sl37⟩)
    (c37 : PySem.W.codeIn K cd37 "_law_bent" = true)
    (k37 : PySem.W.keepIn K (.ref f37) = true)
    (a38 : PySem.W.nsIn K mainGlobals "_law_is_integer" = some (some (.ref f38)))
    (l38 : K.lookup f38 = some ⟨oc38, od38, .func (PySem.W.fnOf "_law_is_integer" "_law_is_integer" (defArgs s__law_is_integer) (defBody s__law_is_integer) (defScope s__law_is_integer) .none kV38 dc38 pm38 an38 cd38 ct38), sl38⟩)
    (c38 : PySem.W.codeIn K cd38 "_law_is_integer" = true)
    (k38 : PySem.W.keepIn K (.ref f38) = true)
    (a39 : PySem.W.nsIn K mainGlobals "_law_is_move" = some (some (.ref f39)))
    (l39 : K.lookup f39 = some ⟨oc39, od39, .func (PySem.W.fnOf "_law_is_move" "_law_is_move" (defArgs s__law_is_move) (defBody s__law_is_move) (defScope s__law_is_move) .none kV39 dc39 pm39 an39 cd39 ct39), sl39⟩)
    (c39 : PySem.W.codeIn K cd39 "_law_is_move" = true)
    (k39 : PySem.W.keepIn K (.ref f39) = true)
    (a40 : PySem.W.nsIn K mainGlobals "_law_form" = some (some (.ref f40)))
    (l40 : K.lookup f40 = some ⟨oc40, od40, .func (PySem.W.fnOf "_law_form" "_law_form" (defArgs s__law_form) (defBody s__law_form) (defScope s__law_form) .none kV40 dc40 pm40 an40 cd40 ct40), sl40⟩)
    (c40 : PySem.W.codeIn K cd40 "_law_form" = true)
    (k40 : PySem.W.keepIn K (.ref f40) = true)
    (a41 : PySem.W.nsIn K mainGlobals "_law_are_forms" = some (some (.ref f41)))
    (l41 : K.lookup f41 = some ⟨oc41, od41, .func (PySem.W.fnOf "_law_are_forms" "_law_are_forms" (defArgs s__law_are_forms) (defBody s__law_are_forms) (defScope s__law_are_forms) .none kV41 dc41 pm41 an41 cd41 ct41), sl41⟩)
    (c41 : PySem.W.codeIn K cd41 "_law_are_forms" = true)
    (k41 : PySem.W.keepIn K (.ref f41) = true)
    (a42 : PySem.W.nsIn K mainGlobals "_law_ways" = some (some (.ref f42)))
    (l42 : K.lookup f42 = some ⟨oc42, od42, .func (PySem.W.fnOf "_law_ways" "_law_ways" (defArgs s__law_ways) (defBody s__law_ways) (defScope s__law_ways) .none kV42 dc42 pm42 an42 cd42 ct42), sl42⟩)
    (c42 : PySem.W.codeIn K cd42 "_law_ways" = true)
    (k42 : PySem.W.keepIn K (.ref f42) = true)
    (a43 : PySem.W.nsIn K mainGlobals "_law_heard" = some (some (.ref f43)))
    (l43 : K.lookup f43 = some ⟨oc43, od43, .func (PySem.W.fnOf "_law_heard" "_law_heard" (defArgs s__law_heard) (defBody s__law_heard) (defScope s__law_heard) .none kV43 dc43 pm43 an43 cd43 ct43), sl43⟩)
    (c43 : PySem.W.codeIn K cd43 "_law_heard" = true)
    (k43 : PySem.W.keepIn K (.ref f43) = true)
    (a44 : PySem.W.nsIn K mainGlobals "_law_papers_right" = some (some (.ref f44)))
    (l44 : K.lookup f44 = some ⟨oc44, od44, .func (PySem.W.fnOf "_law_papers_right" "_law_papers_right" (defArgs s__law_papers_right) (defBody s__law_papers_right) (defScope s__law_papers_right) .none kV44 dc44 pm44 an44 cd44 ct44), sl44⟩)
    (c44 : PySem.W.codeIn K cd44 "_law_papers_right" = true)
    (k44 : PySem.W.keepIn K (.ref f44) = true)
    (a45 : PySem.W.nsIn K mainGlobals "law" = some (some (.ref f45)))
    (l45 : K.lookup f45 = some ⟨oc45, od45, .func (PySem.W.fnOf "law" "law" (defArgs s_law) (defBody s_law) (defScope s_law) .none kV45 dc45 pm45 an45 cd45 ct45), sl45⟩)
    (c45 : PySem.W.codeIn K cd45 "law" = true)
    (k45 : PySem.W.keepIn K (.ref f45) = true)
    (z0 : PySem.W.nsIn K mainGlobals "isinstance" = some none)
    (z1 : PySem.W.nsIn K mainGlobals "int" = some none)
    (z2 : PySem.W.nsIn K mainGlobals "bool" = some none)
    (z3 : PySem.W.nsIn K mainGlobals "list" = some none)
    (z4 : PySem.W.nsIn K mainGlobals "tuple" = some none)
    (z5 : PySem.W.nsIn K mainGlobals "len" = some none)
    (z6 : PySem.W.nsIn K mainGlobals "abs" = some none)
    (z7 : PySem.W.nsIn K mainGlobals "range" = some none)
    (z8 : PySem.W.nsIn K mainGlobals "repr" = some none)
    (z9 : PySem.W.nsIn K mainGlobals "all" = some none)
    (z10 : PySem.W.nsIn K mainGlobals "ValueError" = some none)
    (hn1 : PySem.W.specialIn K (.builtin "object.__class__") "__get__" = some (some (.builtin "getset_descriptor.__get__")))
    (tk1 : PySem.W.takesIn K (.builtin "object.__class__") = some true)
    (haPaper : PySem.W.findIn K (.ref cAPaper) "__class__" = some (some (.builtin "object.__class__")))
    (moPaper : PySem.W.mroIn K cAPaper (.type "object") = some true)
    (tCPaper : PySem.W.typeIn K (.ref cAPaper) = some (.type "type"))
    (iCPaper : PySem.W.isClsIn K cAPaper = true)
    (rdPaper : PySem.W.readsIn K cAPaper (.type "type") = true)
    (cnPaper : PySem.W.nameIn K cAPaper "Paper" = true)
    (cpPaper : PySem.W.plainGet K cAPaper "__class__" = true)
    (fcPaper : PySem.W.findCls K (.ref cAPaper) (.type "type") "__name__" = some (.get (.builtin "getset_descriptor.__get__") (.builtin "type.__name__") (.ref cAPaper) (.type "type")))
    (boPaper : PySem.W.findIn K (.ref cAPaper) "__bool__" = some (some (.ref f8)))
    (eqPaper : PySem.W.findIn K (.ref cAPaper) "__eq__" = some (some (.ref f7)))
    (nePaper : PySem.W.findIn K (.ref cAPaper) "__ne__" = some (some (.builtin "object.__ne__")))
    (sdPaper : PySem.W.subIn K (.ref cAPaper) (.ref cADenial) = some false)
    (ndPaper : (Value.ref cAPaper == Value.ref cADenial) = false)
    (swPaper : PySem.W.subIn K (.ref cAPaper) (.ref cAWon) = some false)
    (nwPaper : (Value.ref cAPaper == Value.ref cAWon) = false)
    (suPaper : PySem.W.subIn K (.ref cAPaper) (.ref cAUnwon) = some false)
    (nuPaper : (Value.ref cAPaper == Value.ref cAUnwon) = false)
    (haDenial : PySem.W.findIn K (.ref cADenial) "__class__" = some (some (.builtin "object.__class__")))
    (moDenial : PySem.W.mroIn K cADenial (.type "object") = some true)
    (tCDenial : PySem.W.typeIn K (.ref cADenial) = some (.type "type"))
    (iCDenial : PySem.W.isClsIn K cADenial = true)
    (rdDenial : PySem.W.readsIn K cADenial (.type "type") = true)
    (cnDenial : PySem.W.nameIn K cADenial "Denial" = true)
    (cpDenial : PySem.W.plainGet K cADenial "__class__" = true)
    (fcDenial : PySem.W.findCls K (.ref cADenial) (.type "type") "__name__" = some (.get (.builtin "getset_descriptor.__get__") (.builtin "type.__name__") (.ref cADenial) (.type "type")))
    (boDenial : PySem.W.findIn K (.ref cADenial) "__bool__" = some (some (.ref f11)))
    (eqDenial : PySem.W.findIn K (.ref cADenial) "__eq__" = some (some (.ref f10)))
    (neDenial : PySem.W.findIn K (.ref cADenial) "__ne__" = some (some (.builtin "object.__ne__")))
    (spDenial : PySem.W.subIn K (.ref cADenial) (.ref cAPaper) = some true)
    (npDenial : (Value.ref cADenial == Value.ref cAPaper) = false)
    (swDenial : PySem.W.subIn K (.ref cADenial) (.ref cAWon) = some false)
    (nwDenial : (Value.ref cADenial == Value.ref cAWon) = false)
    (suDenial : PySem.W.subIn K (.ref cADenial) (.ref cAUnwon) = some false)
    (nuDenial : (Value.ref cADenial == Value.ref cAUnwon) = false)
    (haWon : PySem.W.findIn K (.ref cAWon) "__class__" = some (some (.builtin "object.__class__")))
    (moWon : PySem.W.mroIn K cAWon (.type "object") = some true)
    (tCWon : PySem.W.typeIn K (.ref cAWon) = some (.type "type"))
    (iCWon : PySem.W.isClsIn K cAWon = true)
    (rdWon : PySem.W.readsIn K cAWon (.type "type") = true)
    (cnWon : PySem.W.nameIn K cAWon "Won" = true)
    (cpWon : PySem.W.plainGet K cAWon "__class__" = true)
    (fcWon : PySem.W.findCls K (.ref cAWon) (.type "type") "__name__" = some (.get (.builtin "getset_descriptor.__get__") (.builtin "type.__name__") (.ref cAWon) (.type "type")))
    (boWon : PySem.W.findIn K (.ref cAWon) "__bool__" = some (some (.ref f8)))
    (eqWon : PySem.W.findIn K (.ref cAWon) "__eq__" = some (some (.ref f7)))
    (neWon : PySem.W.findIn K (.ref cAWon) "__ne__" = some (some (.builtin "object.__ne__")))
    (spWon : PySem.W.subIn K (.ref cAWon) (.ref cAPaper) = some true)
    (npWon : (Value.ref cAWon == Value.ref cAPaper) = false)
    (sdWon : PySem.W.subIn K (.ref cAWon) (.ref cADenial) = some false)
    (ndWon : (Value.ref cAWon == Value.ref cADenial) = false)
    (suWon : PySem.W.subIn K (.ref cAWon) (.ref cAUnwon) = some false)
    (nuWon : (Value.ref cAWon == Value.ref cAUnwon) = false)
    (haUnwon : PySem.W.findIn K (.ref cAUnwon) "__class__" = some (some (.builtin "object.__class__")))
    (moUnwon : PySem.W.mroIn K cAUnwon (.type "object") = some true)
    (tCUnwon : PySem.W.typeIn K (.ref cAUnwon) = some (.type "type"))
    (iCUnwon : PySem.W.isClsIn K cAUnwon = true)
    (rdUnwon : PySem.W.readsIn K cAUnwon (.type "type") = true)
    (cnUnwon : PySem.W.nameIn K cAUnwon "Unwon" = true)
    (cpUnwon : PySem.W.plainGet K cAUnwon "__class__" = true)
    (fcUnwon : PySem.W.findCls K (.ref cAUnwon) (.type "type") "__name__" = some (.get (.builtin "getset_descriptor.__get__") (.builtin "type.__name__") (.ref cAUnwon) (.type "type")))
    (boUnwon : PySem.W.findIn K (.ref cAUnwon) "__bool__" = some (some (.ref f11)))
    (eqUnwon : PySem.W.findIn K (.ref cAUnwon) "__eq__" = some (some (.ref f10)))
    (neUnwon : PySem.W.findIn K (.ref cAUnwon) "__ne__" = some (some (.builtin "object.__ne__")))
    (spUnwon : PySem.W.subIn K (.ref cAUnwon) (.ref cAPaper) = some true)
    (npUnwon : (Value.ref cAUnwon == Value.ref cAPaper) = false)
    (sdUnwon : PySem.W.subIn K (.ref cAUnwon) (.ref cADenial) = some true)
    (ndUnwon : (Value.ref cAUnwon == Value.ref cADenial) = false)
    (swUnwon : PySem.W.subIn K (.ref cAUnwon) (.ref cAWon) = some false)
    (nwUnwon : (Value.ref cAUnwon == Value.ref cAWon) = false)
    (sgPaper : PySem.W.specialIn K (.ref cAPaper) "__getattribute__" = some (some (.builtin "type.__getattribute__")))
    (fiPaper : PySem.W.findCls K (.ref cAPaper) (.type "type") "__init__" = some (.val (.ref f6)))
    (sgDenial : PySem.W.specialIn K (.ref cADenial) "__getattribute__" = some (some (.builtin "type.__getattribute__")))
    (fiDenial : PySem.W.findCls K (.ref cADenial) (.type "type") "__init__" = some (.val (.ref f9)))
    (ktB1 : ktB K [cAWon, cAUnwon, cAPaper] ["NoneType", "bool", "int", "str", "list", "tuple", "dict"] = true)
    (nfB1 : nfB K [cAPaper, cADenial, cAWon, cAUnwon] [cAWon, cAUnwon] = true) :
    ∃ fd : FuncData, (∀ (s : Shared) (v : Value), BindsTo s fd ⟨[v], []⟩ [("script", v)]) ∧ ∀ base : Heap, K.In base → base.Ns mainGlobals mg → FnG l.prog w K mg base CX0 100 fa fd ["script"] (spLaw K) := by
  let T : Tx K mg := {
      c_Paper := cAPaper,
      m_Paper := PySem.W.mg_of X G aCPaper,
      cl_Paper := ⟨pgPaper, hdPaper, poPaper, saPaper⟩,
      nF_Paper_word := nFPaper_word,
      nF_Paper_parts := nFPaper_parts,
      mk_Paper := ⟨mkPaper, a6, isFn_of t6, kcPaper⟩,
      c_Denial := cADenial,
      m_Denial := PySem.W.mg_of X G aCDenial,
      cl_Denial := ⟨pgDenial, hdDenial, poDenial, saDenial⟩,
      nF_Denial_word := nFDenial_word,
      nF_Denial_parts := nFDenial_parts,
      mk_Denial := ⟨mkDenial, a9, isFn_of t9, kcDenial⟩,
      c_Won := cAWon,
      m_Won := PySem.W.mg_of X G aCWon,
      cl_Won := ⟨pgWon, hdWon, poWon, saWon⟩,
      nF_Won_word := nFWon_word,
      nF_Won_parts := nFWon_parts,
      nF_Won_book := nFWon_book,
      mk_Won := ⟨mkWon, a13, isFn_of t13, kcWon⟩,
      c_Unwon := cAUnwon,
      m_Unwon := PySem.W.mg_of X G aCUnwon,
      cl_Unwon := ⟨pgUnwon, hdUnwon, poUnwon, saUnwon⟩,
      nF_Unwon_word := nFUnwon_word,
      nF_Unwon_parts := nFUnwon_parts,
      nF_Unwon_replies := nFUnwon_replies,
      mk_Unwon := ⟨mkUnwon, a14, isFn_of t14, kcUnwon⟩,
      c_FieldError := cAFieldError,
      m_FieldError := PySem.W.mg_of X G aCFieldError,
      ox_FieldError := ⟨⟨_, _, _, _, _, _, _, _, _, _, _, _, _, _, _, xLFieldError, rfFieldError⟩, saFieldError, eCFieldError, tCFieldError, kcFieldError⟩,
      xf_FieldError := ⟨gaFieldError, ggFieldError, eCFieldError, hdFieldError⟩,
      c_BadPaper := cABadPaper,
      m_BadPaper := PySem.W.mg_of X G aCBadPaper,
      ox_BadPaper := ⟨⟨_, _, _, _, _, _, _, _, _, _, _, _, _, _, _, xLBadPaper, rfBadPaper⟩, saBadPaper, eCBadPaper, tCBadPaper, kcBadPaper⟩,
      xf_BadPaper := ⟨gaBadPaper, ggBadPaper, eCBadPaper, hdBadPaper⟩,
      no_BadPaper_part := noBadPaper_part,
      ic_BadPaper := a4,
      ti_BadPaper := t4,
      xm_BadPaper_BadPaper := exm_by eCBadPaper iCBadPaper tCBadPaper xmBadPaper_BadPaper,
      a_is_integer := f0,
      d_is_integer := _,
      F_is_integer := fun_mk (st := s_is_integer) l0 c0 k0,
      m_is_integer := PySem.W.mg_of X G a0,
      b_is_integer := (fun_mk (st := s_is_integer) l0 c0 k0).binds (ps := ["value"]) fun _ _ _ _ _ _ us hl => match us, hl with | [_], _ => rfl,
      a_is_list := f1,
      d_is_list := _,
      F_is_list := fun_mk (st := s_is_list) l1 c1 k1,
      m_is_list := PySem.W.mg_of X G a1,
      b_is_list := (fun_mk (st := s_is_list) l1 c1 k1).binds (ps := ["value"]) fun _ _ _ _ _ _ us hl => match us, hl with | [_], _ => rfl,
      a_is_square := f2,
      d_is_square := _,
      F_is_square := fun_mk (st := s_is_square) l2 c2 k2,
      m_is_square := PySem.W.mg_of X G a2,
      b_is_square := (fun_mk (st := s_is_square) l2 c2 k2).binds (ps := ["value"]) fun _ _ _ _ _ _ us hl => match us, hl with | [_], _ => rfl,
      a_is_move := f3,
      d_is_move := _,
      F_is_move := fun_mk (st := s_is_move) l3 c3 k3,
      m_is_move := PySem.W.mg_of X G a3,
      b_is_move := (fun_mk (st := s_is_move) l3 c3 k3).binds (ps := ["value"]) fun _ _ _ _ _ _ us hl => match us, hl with | [_], _ => rfl,
      a_BadPaper___init__ := f4,
      d_BadPaper___init__ := _,
      F_BadPaper___init__ := fun_mk (st := s_BadPaper___init__) l4 c4 k4,
      b_BadPaper___init__ := (fun_mk (st := s_BadPaper___init__) l4 c4 k4).binds (ps := ["self", "part"]) fun _ _ _ _ _ _ us hl => match us, hl with | [_, _], _ => rfl,
      a_fixed := f5,
      d_fixed := _,
      F_fixed := fun_mk (st := s_fixed) l5 c5 k5,
      m_fixed := PySem.W.mg_of X G a5,
      b_fixed := (fun_mk (st := s_fixed) l5 c5 k5).binds (ps := ["value"]) fun _ _ _ _ _ _ us hl => match us, hl with | [_], _ => rfl,
      a_Paper___init__ := f6,
      d_Paper___init__ := _,
      F_Paper___init__ := fun_mk (st := s_Paper___init__) l6 c6 k6,
      a_Paper___eq__ := f7,
      d_Paper___eq__ := _,
      F_Paper___eq__ := fun_mk (st := s_Paper___eq__) l7 c7 k7,
      b_Paper___eq__ := (fun_mk (st := s_Paper___eq__) l7 c7 k7).binds (ps := ["self", "other"]) fun _ _ _ _ _ _ us hl => match us, hl with | [_, _], _ => rfl,
      a_Paper___bool__ := f8,
      d_Paper___bool__ := _,
      F_Paper___bool__ := fun_mk (st := s_Paper___bool__) l8 c8 k8,
      b_Paper___bool__ := (fun_mk (st := s_Paper___bool__) l8 c8 k8).binds (ps := ["self"]) fun _ _ _ _ _ _ us hl => match us, hl with | [_], _ => rfl,
      a_Denial___init__ := f9,
      d_Denial___init__ := _,
      F_Denial___init__ := fun_mk (st := s_Denial___init__) l9 c9 k9,
      a_Denial___eq__ := f10,
      d_Denial___eq__ := _,
      F_Denial___eq__ := fun_mk (st := s_Denial___eq__) l10 c10 k10,
      b_Denial___eq__ := (fun_mk (st := s_Denial___eq__) l10 c10 k10).binds (ps := ["self", "other"]) fun _ _ _ _ _ _ us hl => match us, hl with | [_, _], _ => rfl,
      a_Denial___bool__ := f11,
      d_Denial___bool__ := _,
      F_Denial___bool__ := fun_mk (st := s_Denial___bool__) l11 c11 k11,
      b_Denial___bool__ := (fun_mk (st := s_Denial___bool__) l11 c11 k11).binds (ps := ["self"]) fun _ _ _ _ _ _ us hl => match us, hl with | [_], _ => rfl,
      a_is_same_paper := f12,
      d_is_same_paper := _,
      F_is_same_paper := fun_mk (st := s_is_same_paper) l12 c12 k12,
      m_is_same_paper := PySem.W.mg_of X G a12,
      b_is_same_paper := (fun_mk (st := s_is_same_paper) l12 c12 k12).binds (ps := ["paper", "other"]) fun _ _ _ _ _ _ us hl => match us, hl with | [_, _], _ => rfl,
      a_Won___init__ := f13,
      d_Won___init__ := _,
      F_Won___init__ := fun_mk (st := s_Won___init__) l13 c13 k13,
      b_Won___init__ := (fun_mk (st := s_Won___init__) l13 c13 k13).binds (ps := ["self", "book"]) fun _ _ _ _ _ _ us hl => match us, hl with | [_, _], _ => rfl,
      a_Unwon___init__ := f14,
      d_Unwon___init__ := _,
      F_Unwon___init__ := fun_mk (st := s_Unwon___init__) l14 c14 k14,
      b_Unwon___init__ := (fun_mk (st := s_Unwon___init__) l14 c14 k14).binds (ps := ["self", "replies"]) fun _ _ _ _ _ _ us hl => match us, hl with | [_, _], _ => rfl,
      a_is_book := f15,
      d_is_book := _,
      F_is_book := fun_mk (st := s_is_book) l15 c15 k15,
      m_is_book := PySem.W.mg_of X G a15,
      b_is_book := (fun_mk (st := s_is_book) l15 c15 k15).binds (ps := ["value"]) fun _ _ _ _ _ _ us hl => match us, hl with | [_], _ => rfl,
      a_is_refusal := f16,
      d_is_refusal := _,
      F_is_refusal := fun_mk (st := s_is_refusal) l16 c16 k16,
      m_is_refusal := PySem.W.mg_of X G a16,
      b_is_refusal := (fun_mk (st := s_is_refusal) l16 c16 k16).binds (ps := ["value"]) fun _ _ _ _ _ _ us hl => match us, hl with | [_], _ => rfl,
      a_courses := f17,
      d_courses := _,
      F_courses := fun_mk (st := s_courses) l17 c17 k17,
      m_courses := PySem.W.mg_of X G a17,
      b_courses := (fun_mk (st := s_courses) l17 c17 k17).binds (ps := ["paper"]) fun _ _ _ _ _ _ us hl => match us, hl with | [_], _ => rfl,
      a_is_branch := f18,
      d_is_branch := _,
      F_is_branch := fun_mk (st := s_is_branch) l18 c18 k18,
      m_is_branch := PySem.W.mg_of X G a18,
      b_is_branch := (fun_mk (st := s_is_branch) l18 c18 k18).binds (ps := ["value"]) fun _ _ _ _ _ _ us hl => match us, hl with | [_], _ => rfl,
      a_is_empty := f19,
      d_is_empty := _,
      F_is_empty := fun_mk (st := s_is_empty) l19 c19 k19,
      m_is_empty := PySem.W.mg_of X G a19,
      b_is_empty := (fun_mk (st := s_is_empty) l19 c19 k19).binds (ps := ["value"]) fun _ _ _ _ _ _ us hl => match us, hl with | [_], _ => rfl,
      a_is_last_book := f20,
      d_is_last_book := _,
      F_is_last_book := fun_mk (st := s_is_last_book) l20 c20 k20,
      m_is_last_book := PySem.W.mg_of X G a20,
      b_is_last_book := (fun_mk (st := s_is_last_book) l20 c20 k20).binds (ps := ["value"]) fun _ _ _ _ _ _ us hl => match us, hl with | [_], _ => rfl,
      a_is_last_refusal := f21,
      d_is_last_refusal := _,
      F_is_last_refusal := fun_mk (st := s_is_last_refusal) l21 c21 k21,
      m_is_last_refusal := PySem.W.mg_of X G a21,
      b_is_last_refusal := (fun_mk (st := s_is_last_refusal) l21 c21 k21).binds (ps := ["value"]) fun _ _ _ _ _ _ us hl => match us, hl with | [_], _ => rfl,
      a_is_reply := f22,
      d_is_reply := _,
      F_is_reply := fun_mk (st := s_is_reply) l22 c22 k22,
      m_is_reply := PySem.W.mg_of X G a22,
      b_is_reply := (fun_mk (st := s_is_reply) l22 c22 k22).binds (ps := ["value"]) fun _ _ _ _ _ _ us hl => match us, hl with | [_], _ => rfl,
      a_is_won_paper := f23,
      d_is_won_paper := _,
      F_is_won_paper := fun_mk (st := s_is_won_paper) l23 c23 k23,
      m_is_won_paper := PySem.W.mg_of X G a23,
      b_is_won_paper := (fun_mk (st := s_is_won_paper) l23 c23 k23).binds (ps := ["value"]) fun _ _ _ _ _ _ us hl => match us, hl with | [_], _ => rfl,
      a_is_unwon_paper := f24,
      d_is_unwon_paper := _,
      F_is_unwon_paper := fun_mk (st := s_is_unwon_paper) l24 c24 k24,
      m_is_unwon_paper := PySem.W.mg_of X G a24,
      b_is_unwon_paper := (fun_mk (st := s_is_unwon_paper) l24 c24 k24).binds (ps := ["value"]) fun _ _ _ _ _ _ us hl => match us, hl with | [_], _ => rfl,
      a_has_book := f25,
      d_has_book := _,
      F_has_book := fun_mk (st := s_has_book) l25 c25 k25,
      m_has_book := PySem.W.mg_of X G a25,
      b_has_book := (fun_mk (st := s_has_book) l25 c25 k25).binds (ps := ["value"]) fun _ _ _ _ _ _ us hl => match us, hl with | [_], _ => rfl,
      a_has_refusal := f26,
      d_has_refusal := _,
      F_has_refusal := fun_mk (st := s_has_refusal) l26 c26 k26,
      m_has_refusal := PySem.W.mg_of X G a26,
      b_has_refusal := (fun_mk (st := s_has_refusal) l26 c26 k26).binds (ps := ["value"]) fun _ _ _ _ _ _ us hl => match us, hl with | [_], _ => rfl,
      a_courses_of_book := f27,
      d_courses_of_book := _,
      F_courses_of_book := fun_mk (st := s_courses_of_book) l27 c27 k27,
      m_courses_of_book := PySem.W.mg_of X G a27,
      b_courses_of_book := (fun_mk (st := s_courses_of_book) l27 c27 k27).binds (ps := ["book"]) fun _ _ _ _ _ _ us hl => match us, hl with | [_], _ => rfl,
      a_courses_of_refusal := f28,
      d_courses_of_refusal := _,
      F_courses_of_refusal := fun_mk (st := s_courses_of_refusal) l28 c28 k28,
      m_courses_of_refusal := PySem.W.mg_of X G a28,
      b_courses_of_refusal := (fun_mk (st := s_courses_of_refusal) l28 c28 k28).binds (ps := ["replies"]) fun _ _ _ _ _ _ us hl => match us, hl with | [_], _ => rfl,
      a__law_satchel := f29,
      d__law_satchel := _,
      F__law_satchel := fun_mk (st := s__law_satchel) l29 c29 k29,
      m__law_satchel := PySem.W.mg_of X G a29,
      b__law_satchel := (fun_mk (st := s__law_satchel) l29 c29 k29).binds (ps := ["script"]) fun _ _ _ _ _ _ us hl => match us, hl with | [_], _ => rfl,
      a__law_fetch := f30,
      d__law_fetch := _,
      F__law_fetch := fun_mk (st := s__law_fetch) l30 c30 k30,
      m__law_fetch := PySem.W.mg_of X G a30,
      b__law_fetch := (fun_mk (st := s__law_fetch) l30 c30 k30).binds (ps := ["satchel", "many"]) fun _ _ _ _ _ _ us hl => match us, hl with | [_, _], _ => rfl,
      a__law_one := f31,
      d__law_one := _,
      F__law_one := fun_mk (st := s__law_one) l31 c31 k31,
      m__law_one := PySem.W.mg_of X G a31,
      b__law_one := (fun_mk (st := s__law_one) l31 c31 k31).binds (ps := ["satchel", "some"]) fun _ _ _ _ _ _ us hl => match us, hl with | [_, _], _ => rfl,
      a__law_square := f32,
      d__law_square := _,
      F__law_square := fun_mk (st := s__law_square) l32 c32 k32,
      m__law_square := PySem.W.mg_of X G a32,
      b__law_square := (fun_mk (st := s__law_square) l32 c32 k32).binds (ps := ["satchel"]) fun _ _ _ _ _ _ us hl => match us, hl with | [_], _ => rfl,
      a__law_move := f33,
      d__law_move := _,
      F__law_move := fun_mk (st := s__law_move) l33 c33 k33,
      m__law_move := PySem.W.mg_of X G a33,
      b__law_move := (fun_mk (st := s__law_move) l33 c33 k33).binds (ps := ["satchel"]) fun _ _ _ _ _ _ us hl => match us, hl with | [_], _ => rfl,
      a__law_book := f34,
      d__law_book := _,
      F__law_book := fun_mk (st := s__law_book) l34 c34 k34,
      m__law_book := PySem.W.mg_of X G a34,
      b__law_book := (fun_mk (st := s__law_book) l34 c34 k34).binds (ps := ["satchel"]) fun _ _ _ _ _ _ us hl => match us, hl with | [_], _ => rfl,
      a__law_refusal := f35,
      d__law_refusal := _,
      F__law_refusal := fun_mk (st := s__law_refusal) l35 c35 k35,
      m__law_refusal := PySem.W.mg_of X G a35,
      b__law_refusal := (fun_mk (st := s__law_refusal) l35 c35 k35).binds (ps := ["satchel"]) fun _ _ _ _ _ _ us hl => match us, hl with | [_], _ => rfl,
      a__law_listed := f36,
      d__law_listed := _,
      F__law_listed := fun_mk (st := s__law_listed) l36 c36 k36,
      m__law_listed := PySem.W.mg_of X G a36,
      b__law_listed := (fun_mk (st := s__law_listed) l36 c36 k36).binds (ps := ["satchel", "value"]) fun _ _ _ _ _ _ us hl => match us, hl with | [_, _], _ => rfl,
      a__law_bent := f37,
      d__law_bent := _,
      F__law_bent := fun_mk (st := s__law_bent) l37 c37 k37,
      m__law_bent := PySem.W.mg_of X G a37,
      b__law_bent := (fun_mk (st := s__law_bent) l37 c37 k37).binds (ps := ["satchel", "value", "deep"]) fun _ _ _ _ _ _ us hl => match us, hl with | [_, _, _], _ => rfl,
      a__law_is_integer := f38,
      d__law_is_integer := _,
      F__law_is_integer := fun_mk (st := s__law_is_integer) l38 c38 k38,
      m__law_is_integer := PySem.W.mg_of X G a38,
      b__law_is_integer := (fun_mk (st := s__law_is_integer) l38 c38 k38).binds (ps := ["value"]) fun _ _ _ _ _ _ us hl => match us, hl with | [_], _ => rfl,
      a__law_is_move := f39,
      d__law_is_move := _,
      F__law_is_move := fun_mk (st := s__law_is_move) l39 c39 k39,
      m__law_is_move := PySem.W.mg_of X G a39,
      b__law_is_move := (fun_mk (st := s__law_is_move) l39 c39 k39).binds (ps := ["value"]) fun _ _ _ _ _ _ us hl => match us, hl with | [_], _ => rfl,
      a__law_form := f40,
      d__law_form := _,
      F__law_form := fun_mk (st := s__law_form) l40 c40 k40,
      m__law_form := PySem.W.mg_of X G a40,
      b__law_form := (fun_mk (st := s__law_form) l40 c40 k40).binds (ps := ["value", "word", "deep"]) fun _ _ _ _ _ _ us hl => match us, hl with | [_, _, _], _ => rfl,
      a__law_are_forms := f41,
      d__law_are_forms := _,
      F__law_are_forms := fun_mk (st := s__law_are_forms) l41 c41 k41,
      m__law_are_forms := PySem.W.mg_of X G a41,
      b__law_are_forms := (fun_mk (st := s__law_are_forms) l41 c41 k41).binds (ps := ["value", "word", "deep"]) fun _ _ _ _ _ _ us hl => match us, hl with | [_, _, _], _ => rfl,
      a__law_ways := f42,
      d__law_ways := _,
      F__law_ways := fun_mk (st := s__law_ways) l42 c42 k42,
      m__law_ways := PySem.W.mg_of X G a42,
      b__law_ways := (fun_mk (st := s__law_ways) l42 c42 k42).binds (ps := ["paper"]) fun _ _ _ _ _ _ us hl => match us, hl with | [_], _ => rfl,
      a__law_heard := f43,
      d__law_heard := _,
      F__law_heard := fun_mk (st := s__law_heard) l43 c43 k43,
      m__law_heard := PySem.W.mg_of X G a43,
      b__law_heard := (fun_mk (st := s__law_heard) l43 c43 k43).binds (ps := ["value"]) fun _ _ _ _ _ _ us hl => match us, hl with | [_], _ => rfl,
      a__law_papers_right := f44,
      d__law_papers_right := _,
      F__law_papers_right := fun_mk (st := s__law_papers_right) l44 c44 k44,
      m__law_papers_right := PySem.W.mg_of X G a44,
      b__law_papers_right := (fun_mk (st := s__law_papers_right) l44 c44 k44).binds (ps := ["book", "refusal"]) fun _ _ _ _ _ _ us hl => match us, hl with | [_, _], _ => rfl,
      a_law := f45,
      d_law := _,
      F_law := fun_mk (st := s_law) l45 c45 k45,
      m_law := PySem.W.mg_of X G a45,
      b_law := (fun_mk (st := s_law) l45 c45 k45).binds (ps := ["script"]) fun _ _ _ _ _ _ us hl => match us, hl with | [_], _ => rfl,
      z_isinstance := PySem.W.mg_none_of X G z0,
      z_int := PySem.W.mg_none_of X G z1,
      z_bool := PySem.W.mg_none_of X G z2,
      z_list := PySem.W.mg_none_of X G z3,
      z_tuple := PySem.W.mg_none_of X G z4,
      z_len := PySem.W.mg_none_of X G z5,
      z_abs := PySem.W.mg_none_of X G z6,
      z_range := PySem.W.mg_none_of X G z7,
      z_repr := PySem.W.mg_none_of X G z8,
      z_all := PySem.W.mg_none_of X G z9,
      z_ValueError := PySem.W.mg_none_of X G z10,
      cn_Paper := ⟨cnPaper, cpPaper, hdPaper, haPaper, hn1, tk1, moPaper, rdPaper, fcPaper⟩,
      cn_Denial := ⟨cnDenial, cpDenial, hdDenial, haDenial, hn1, tk1, moDenial, rdDenial, fcDenial⟩,
      cn_Won := ⟨cnWon, cpWon, hdWon, haWon, hn1, tk1, moWon, rdWon, fcWon⟩,
      cn_Unwon := ⟨cnUnwon, cpUnwon, hdUnwon, haUnwon, hn1, tk1, moUnwon, rdUnwon, fcUnwon⟩,
      ty_Paper := ⟨⟨pgPaper, hdPaper, poPaper, saPaper⟩, haPaper, hn1, tk1, moPaper⟩,
      ty_Denial := ⟨⟨pgDenial, hdDenial, poDenial, saDenial⟩, haDenial, hn1, tk1, moDenial⟩,
      ty_Won := ⟨⟨pgWon, hdWon, poWon, saWon⟩, haWon, hn1, tk1, moWon⟩,
      ty_Unwon := ⟨⟨pgUnwon, hdUnwon, poUnwon, saUnwon⟩, haUnwon, hn1, tk1, moUnwon⟩,
      kp_Paper := (by simp [PySem.W.kitOne]),
      kp_Denial := kit_rr iCPaper tCPaper spDenial npDenial,
      kp_Won := kit_rr iCPaper tCPaper spWon npWon,
      kp_Unwon := kit_rr iCPaper tCPaper spUnwon npUnwon,
      kd_Paper := kit_rr iCDenial tCDenial sdPaper ndPaper,
      kd_Denial := (by simp [PySem.W.kitOne]),
      kd_Won := kit_rr iCDenial tCDenial sdWon ndWon,
      kd_Unwon := kit_rr iCDenial tCDenial sdUnwon ndUnwon,
      kw_Paper := kit_rr iCWon tCWon swPaper nwPaper,
      kw_Denial := kit_rr iCWon tCWon swDenial nwDenial,
      kw_Won := (by simp [PySem.W.kitOne]),
      kw_Unwon := kit_rr iCWon tCWon swUnwon nwUnwon,
      ku_Paper := kit_rr iCUnwon tCUnwon suPaper nuPaper,
      ku_Denial := kit_rr iCUnwon tCUnwon suDenial nuDenial,
      ku_Won := kit_rr iCUnwon tCUnwon suWon nuWon,
      ku_Unwon := (by simp [PySem.W.kitOne]),
      fi_Paper := ⟨rdPaper, sgPaper, fiPaper, k6⟩,
      fi_Denial := ⟨rdDenial, sgDenial, fiDenial, k9⟩,
      ob_Paper := ⟨boPaper, isFn_of t8⟩,
      ob_Denial := ⟨boDenial, isFn_of t11⟩,
      ob_Won := ⟨boWon, isFn_of t8⟩,
      ob_Unwon := ⟨boUnwon, isFn_of t11⟩,
      oc_Paper := ⟨eqPaper, isFn_of t7, nePaper, moPaper⟩,
      oc_Denial := ⟨eqDenial, isFn_of t10, neDenial, moDenial⟩,
      oc_Won := ⟨eqWon, isFn_of t7, neWon, moWon⟩,
      oc_Unwon := ⟨eqUnwon, isFn_of t10, neUnwon, moUnwon⟩,
      kt := ktB_of (by simp [iCWon, iCUnwon, iCPaper]) (by simp [tCWon, tCUnwon, tCPaper]) ktB1,
      nf := nfB_of nfB1,
      kb_is_book := ⟨fun s us ws _ h1 h2 => match us, ws, h1, h2 with | [], [_], _, _ => .of_eq rfl, fun _ _ _ r => r⟩,
      kb_is_refusal := ⟨fun s us ws _ h1 h2 => match us, ws, h1, h2 with | [], [_], _, _ => .of_eq rfl, fun _ _ _ r => r⟩,
      kb_courses := ⟨fun s us ws _ h1 h2 => match us, ws, h1, h2 with | [], [_], _, _ => .of_eq rfl, fun _ _ _ r => r⟩,
      kb_Won := ⟨fun s us ws _ h1 h2 => match us, ws, h1, h2 with | [_], [_], _, _ => .of_eq rfl, fun r1 r2 => r1.append r2⟩,
      kb_Unwon := ⟨fun s us ws _ h1 h2 => match us, ws, h1, h2 with | [_], [_], _, _ => .of_eq rfl, fun r1 r2 => r1.append r2⟩ }
  have e : T.a_law = fa := by
    have := T.m_law.symm.trans hfa
    exact Value.ref.inj (Option.some.inj this)
  refine ⟨T.d_law, fun s v => .of_eq rfl, fun base _ _ => ?_⟩
  rw [← e]
  exact G_law T
end K39
open PySem PySem.W PyProof.Rows
set_option maxHeartbeats 0 in
theorem PySem.Challenge.cw_gapsame_k39_ways_on_of_books_and_refusal_holds : PySem.Challenge.rw_gapsame_k39_ways_on_of_books_and_refusal.Holds := by
  w_on; o_law; k_head; (case hw => w_witness2)
  k_fill
  refine Gs.walkG (l := PySem.Challenge.rw_gapsame_k39_ways_on_of_books_and_refusal) (k := 100) (x := "script") (sp := K39.spLaw) rfl rfl ⟨rfl, by decide, by decide⟩ (fun w h Y => PySem.W.kIn_of Y) ?F (fun K H a ns hl hS => ⟨a, ns, rfl, hS, hl, fun _ => rfl⟩)
  case F =>
    intro w mg fa h KX G hmg
    refine' K39.all_mk KX G hmg ?aCPaper ?pgPaper ?hdPaper ?poPaper ?saPaper ?mkPaper ?kcPaper ?nFPaper_word ?nFPaper_parts ?aCDenial ?pgDenial ?hdDenial ?poDenial ?saDenial ?mkDenial ?kcDenial ?nFDenial_word ?nFDenial_parts ?aCWon ?pgWon ?hdWon ?poWon ?saWon ?mkWon ?kcWon ?nFWon_word ?nFWon_parts ?nFWon_book ?aCUnwon ?pgUnwon ?hdUnwon ?poUnwon ?saUnwon ?mkUnwon ?kcUnwon ?nFUnwon_word ?nFUnwon_parts ?nFUnwon_replies ?aCFieldError ?xLFieldError ?rfFieldError ?saFieldError ?eCFieldError ?tCFieldError ?kcFieldError ?hdFieldError ?iCFieldError ?gaFieldError ?ggFieldError ?aCBadPaper ?xLBadPaper ?rfBadPaper ?saBadPaper ?eCBadPaper ?tCBadPaper ?kcBadPaper ?hdBadPaper ?iCBadPaper ?gaBadPaper ?ggBadPaper ?noBadPaper_part ?xmBadPaper_BadPaper ?a0 ?l0 ?c0 ?k0 ?a1 ?l1 ?c1 ?k1 ?a2 ?l2 ?c2 ?k2 ?a3 ?l3 ?c3 ?k3 ?a4 ?t4 ?l4 ?c4 ?k4 ?a5 ?l5 ?c5 ?k5 ?a6 ?t6 ?l6 ?c6 ?k6 ?a7 ?t7 ?l7 ?c7 ?k7 ?a8 ?t8 ?l8 ?c8 ?k8 ?a9 ?t9 ?l9 ?c9 ?k9 ?a10 ?t10 ?l10 ?c10 ?k10 ?a11 ?t11 ?l11 ?c11 ?k11 ?a12 ?l12 ?c12 ?k12 ?a13 ?t13 ?l13 ?c13 ?k13 ?a14 ?t14 ?l14 ?c14 ?k14 ?a15 ?l15 ?c15 ?k15 ?a16 ?l16 ?c16 ?k16 ?a17 ?l17 ?c17 ?k17 ?a18 ?l18 ?c18 ?k18 ?a19 ?l19 ?c19 ?k19 ?a20 ?l20 ?c20 ?k20 ?a21 ?l21 ?c21 ?k21 ?a22 ?l22 ?c22 ?k22 ?a23 ?l23 ?c23 ?k23 ?a24 ?l24 ?c24 ?k24 ?a25 ?l25 ?c25 ?k25 ?a26 ?l26 ?c26 ?k26 ?a27 ?l27 ?c27 ?k27 ?a28 ?l28 ?c28 ?k28 ?a29 ?l29 ?c29 ?k29 ?a30 ?l30 ?c30 ?k30 ?a31 ?l31 ?c31 ?k31 ?a32 ?l32 ?c32 ?k32 ?a33 ?l33 ?c33 ?k33 ?a34 ?l34 ?c34 ?k34 ?a35 ?l35 ?c35 ?k35 ?a36 ?l36 ?c36 ?k36 ?a37 ?l37 ?c37 ?k37 ?a38 ?l38 ?c38 ?k38 ?a39 ?l39 ?c39 ?k39 ?a40 ?l40 ?c40 ?k40 ?a41 ?l41 ?c41 ?k41 ?a42 ?l42 ?c42 ?k42 ?a43 ?l43 ?c43 ?k43 ?a44 ?l44 ?c44 ?k44 ?a45 ?l45 ?c45 ?k45 ?z0 ?z1 ?z2 ?z3 ?z4 ?z5 ?z6 ?z7 ?z8 ?z9 ?z10 ?hn1 ?tk1 ?haPaper ?moPaper ?tCPaper ?iCPaper ?rdPaper ?cnPaper ?cpPaper ?fcPaper ?boPaper ?eqPaper ?nePaper ?sdPaper ?ndPaper ?swPaper ?nwPaper ?suPaper ?nuPaper ?haDenial ?moDenial ?tCDenial ?iCDenial ?rdDenial ?cnDenial ?cpDenial ?fcDenial ?boDenial ?eqDenial ?neDenial ?spDenial ?npDenial ?swDenial ?nwDenial ?suDenial ?nuDenial ?haWon ?moWon ?tCWon ?iCWon ?rdWon ?cnWon ?cpWon ?fcWon ?boWon ?eqWon ?neWon ?spWon ?npWon ?sdWon ?ndWon ?suWon ?nuWon ?haUnwon ?moUnwon ?tCUnwon ?iCUnwon ?rdUnwon ?cnUnwon ?cpUnwon ?fcUnwon ?boUnwon ?eqUnwon ?neUnwon ?spUnwon ?npUnwon ?sdUnwon ?ndUnwon ?swUnwon ?nwUnwon ?sgPaper ?fiPaper ?sgDenial ?fiDenial ?ktB1 ?nfB1
    (case aCPaper => k_is)
    (case pgPaper => k_is)
    (case hdPaper => k_is)
    (case poPaper => k_is)
    (case saPaper => k_is)
    (case mkPaper => k_is)
    (case kcPaper => k_is)
    (case nFPaper_word => k_is)
    (case nFPaper_parts => k_is)
    (case aCDenial => k_is)
    (case pgDenial => k_is)
    (case hdDenial => k_is)
    (case poDenial => k_is)
    (case saDenial => k_is)
    (case mkDenial => k_is)
    (case kcDenial => k_is)
    (case nFDenial_word => k_is)
    (case nFDenial_parts => k_is)
    (case aCWon => k_is)
    (case pgWon => k_is)
    (case hdWon => k_is)
    (case poWon => k_is)
    (case saWon => k_is)
    (case mkWon => k_is)
    (case kcWon => k_is)
    (case nFWon_word => k_is)
    (case nFWon_parts => k_is)
    (case nFWon_book => k_is)
    (case aCUnwon => k_is)
    (case pgUnwon => k_is)
    (case hdUnwon => k_is)
    (case poUnwon => k_is)
    (case saUnwon => k_is)
    (case mkUnwon => k_is)
    (case kcUnwon => k_is)
    (case nFUnwon_word => k_is)
    (case nFUnwon_parts => k_is)
    (case nFUnwon_replies => k_is)
    (case aCFieldError => k_is)
    (case xLFieldError => k_is)
    (case rfFieldError => decide +kernel)
    (case saFieldError => k_is)
    (case eCFieldError => k_is)
    (case tCFieldError => k_is)
    (case kcFieldError => k_is)
    (case hdFieldError => k_is)
    (case iCFieldError => k_is)
    (case gaFieldError => k_is)
    (case ggFieldError => k_is)
    (case aCBadPaper => k_is)
    (case xLBadPaper => k_is)
    (case rfBadPaper => decide +kernel)
    (case saBadPaper => k_is)
    (case eCBadPaper => k_is)
    (case tCBadPaper => k_is)
    (case kcBadPaper => k_is)
    (case hdBadPaper => k_is)
    (case iCBadPaper => k_is)
    (case gaBadPaper => k_is)
    (case ggBadPaper => k_is)
    (case noBadPaper_part => k_is)
    (case xmBadPaper_BadPaper => k_is)
    (case a0 => k_is)
    (case l0 => k_is)
    (case c0 => k_is)
    (case k0 => k_is)
    (case a1 => k_is)
    (case l1 => k_is)
    (case c1 => k_is)
    (case k1 => k_is)
    (case a2 => k_is)
    (case l2 => k_is)
    (case c2 => k_is)
    (case k2 => k_is)
    (case a3 => k_is)
    (case l3 => k_is)
    (case c3 => k_is)
    (case k3 => k_is)
    (case a4 => k_is)
    (case t4 => k_is)
    (case l4 => k_is)
    (case c4 => k_is)
    (case k4 => k_is)
    (case a5 => k_is)
    (case l5 => k_is)
    (case c5 => k_is)
    (case k5 => k_is)
    (case a6 => k_is)
    (case t6 => k_is)
    (case l6 => k_is)
    (case c6 => k_is)
    (case k6 => k_is)
    (case a7 => k_is)
    (case t7 => k_is)
    (case l7 => k_is)
    (case c7 => k_is)
    (case k7 => k_is)
    (case a8 => k_is)
    (case t8 => k_is)
    (case l8 => k_is)
    (case c8 => k_is)
    (case k8 => k_is)
    (case a9 => k_is)
    (case t9 => k_is)
    (case l9 => k_is)
    (case c9 => k_is)
    (case k9 => k_is)
    (case a10 => k_is)
    (case t10 => k_is)
    (case l10 => k_is)
    (case c10 => k_is)
    (case k10 => k_is)
    (case a11 => k_is)
    (case t11 => k_is)
    (case l11 => k_is)
    (case c11 => k_is)
    (case k11 => k_is)
    (case a12 => k_is)
    (case l12 => k_is)
    (case c12 => k_is)
    (case k12 => k_is)
    (case a13 => k_is)
    (case t13 => k_is)
    (case l13 => k_is)
    (case c13 => k_is)
    (case k13 => k_is)
    (case a14 => k_is)
    (case t14 => k_is)
    (case l14 => k_is)
    (case c14 => k_is)
    (case k14 => k_is)
    (case a15 => k_is)
    (case l15 => k_is)
    (case c15 => k_is)
    (case k15 => k_is)
    (case a16 => k_is)
    (case l16 => k_is)
    (case c16 => k_is)
    (case k16 => k_is)
    (case a17 => k_is)
    (case l17 => k_is)
    (case c17 => k_is)
    (case k17 => k_is)
    (case a18 => k_is)
    (case l18 => k_is)
    (case c18 => k_is)
    (case k18 => k_is)
    (case a19 => k_is)
    (case l19 => k_is)
    (case c19 => k_is)
    (case k19 => k_is)
    (case a20 => k_is)
    (case l20 => k_is)
    (case c20 => k_is)
    (case k20 => k_is)
    (case a21 => k_is)
    (case l21 => k_is)
    (case c21 => k_is)
    (case k21 => k_is)
    (case a22 => k_is)
    (case l22 => k_is)
    (case c22 => k_is)
    (case k22 => k_is)
    (case a23 => k_is)
    (case l23 => k_is)
    (case c23 => k_is)
    (case k23 => k_is)
    (case a24 => k_is)
    (case l24 => k_is)
    (case c24 => k_is)
    (case k24 => k_is)
    (case a25 => k_is)
    (case l25 => k_is)
    (case c25 => k_is)
    (case k25 => k_is)
    (case a26 => k_is)
    (case l26 => k_is)
    (case c26 => k_is)
    (case k26 => k_is)
    (case a27 => k_is)
    (case l27 => k_is)
    (case c27 => k_is)
    (case k27 => k_is)
    (case a28 => k_is)
    (case l28 => k_is)
    (case c28 => k_is)
    (case k28 => k_is)
    (case a29 => k_is)
    (case l29 => k_is)
    (case c29 => k_is)
    (case k29 => k_is)
    (case a30 => k_is)
    (case l30 => k_is)
    (case c30 => k_is)
    (case k30 => k_is)
    (case a31 => k_is)
    (case l31 => k_is)
    (case c31 => k_is)
    (case k31 => k_is)
    (case a32 => k_is)
    (case l32 => k_is)
    (case c32 => k_is)
    (case k32 => k_is)
    (case a33 => k_is)
    (case l33 => k_is)
    (case c33 => k_is)
    (case k33 => k_is)
    (case a34 => k_is)
    (case l34 => k_is)
    (case c34 => k_is)
    (case k34 => k_is)
    (case a35 => k_is)
    (case l35 => k_is)
    (case c35 => k_is)
    (case k35 => k_is)
    (case a36 => k_is)
    (case l36 => k_is)
    (case c36 => k_is)
    (case k36 => k_is)
    (case a37 => k_is)
    (case l37 => k_is)
    (case c37 => k_is)
    (case k37 => k_is)
    (case a38 => k_is)
    (case l38 => k_is)
    (case c38 => k_is)
    (case k38 => k_is)
    (case a39 => k_is)
    (case l39 => k_is)
    (case c39 => k_is)
    (case k39 => k_is)
    (case a40 => k_is)
    (case l40 => k_is)
    (case c40 => k_is)
    (case k40 => k_is)
    (case a41 => k_is)
    (case l41 => k_is)
    (case c41 => k_is)
    (case k41 => k_is)
    (case a42 => k_is)
    (case l42 => k_is)
    (case c42 => k_is)
    (case k42 => k_is)
    (case a43 => k_is)
    (case l43 => k_is)
    (case c43 => k_is)
    (case k43 => k_is)
    (case a44 => k_is)
    (case l44 => k_is)
    (case c44 => k_is)
    (case k44 => k_is)
    (case a45 => k_is)
    (case l45 => k_is)
    (case c45 => k_is)
    (case k45 => k_is)
    (case z0 => k_is)
    (case z1 => k_is)
    (case z2 => k_is)
    (case z3 => k_is)
    (case z4 => k_is)
    (case z5 => k_is)
    (case z6 => k_is)
    (case z7 => k_is)
    (case z8 => k_is)
    (case z9 => k_is)
    (case z10 => k_is)
    (case hn1 => k_is)
    (case tk1 => k_is)
    (case haPaper => k_is)
    (case moPaper => k_is)
    (case tCPaper => k_is)
    (case iCPaper => k_is)
    (case rdPaper => k_is)
    (case cnPaper => kernel_rfl)
    (case cpPaper => k_is)
    (case fcPaper => k_is)
    (case boPaper => k_is)
    (case eqPaper => k_is)
    (case nePaper => k_is)
    (case sdPaper => k_is)
    (case ndPaper => decide)
    (case swPaper => k_is)
    (case nwPaper => decide)
    (case suPaper => k_is)
    (case nuPaper => decide)
    (case haDenial => k_is)
    (case moDenial => k_is)
    (case tCDenial => k_is)
    (case iCDenial => k_is)
    (case rdDenial => k_is)
    (case cnDenial => kernel_rfl)
    (case cpDenial => k_is)
    (case fcDenial => k_is)
    (case boDenial => k_is)
    (case eqDenial => k_is)
    (case neDenial => k_is)
    (case spDenial => k_is)
    (case npDenial => decide)
    (case swDenial => k_is)
    (case nwDenial => decide)
    (case suDenial => k_is)
    (case nuDenial => decide)
    (case haWon => k_is)
    (case moWon => k_is)
    (case tCWon => k_is)
    (case iCWon => k_is)
    (case rdWon => k_is)
    (case cnWon => kernel_rfl)
    (case cpWon => k_is)
    (case fcWon => k_is)
    (case boWon => k_is)
    (case eqWon => k_is)
    (case neWon => k_is)
    (case spWon => k_is)
    (case npWon => decide)
    (case sdWon => k_is)
    (case ndWon => decide)
    (case suWon => k_is)
    (case nuWon => decide)
    (case haUnwon => k_is)
    (case moUnwon => k_is)
    (case tCUnwon => k_is)
    (case iCUnwon => k_is)
    (case rdUnwon => k_is)
    (case cnUnwon => kernel_rfl)
    (case cpUnwon => k_is)
    (case fcUnwon => k_is)
    (case boUnwon => k_is)
    (case eqUnwon => k_is)
    (case neUnwon => k_is)
    (case spUnwon => k_is)
    (case npUnwon => decide)
    (case sdUnwon => k_is)
    (case ndUnwon => decide)
    (case swUnwon => k_is)
    (case nwUnwon => decide)
    (case sgPaper => k_is)
    (case fiPaper => k_is)
    (case sgDenial => k_is)
    (case fiDenial => k_is)
    (case ktB1 => kernel_rfl)
    (case nfB1 => kernel_rfl)

