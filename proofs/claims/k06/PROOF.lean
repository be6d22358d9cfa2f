import PyProof.Rows.All
import Wide.All
import OpenK.AllK
import Wide.FinOn
import HandS.ForMost
import HandS.IsInst
import HandS.Defaults
import HandS.Flow
import HandS.MakeKwOnly
import PyProof.ReprRoads
import HandS.Wide
import HandS.Walk
import PyProof.ReprBulk
import PyProof.Rows.ReprOcc
import HandS.SetBool
import HandS.TupSets
import HandS.More
import HandS.Iter
import HandS.ClsMeth
import KE.KCallOwn
import HandS.Exc
import HandS.ExcField
import HandS.TryMany
import HandS.WordsExc
import KE.KDictDisplayH
import HandS.DictTup
import HandS.Lambda
import HandS.ExcInit
import HandS.ExcIs
import HandS.EndTab
import KE.KDflt
import KE.SortKeyHeap
import KE.KSortKey
import HandS.SortKw
import HandS.Comp
import HandS.DictComp
import HandS.WideBits
import HandS.NoneIn
import HandS.FStr
import PySem.Challenge.RW_gapsame_k06_fields_and_bounds
import HandS.Strs
import HandS.SortRule
import HandS.SetKeys
import KE.GoesEnum
import KE.GoesMore
import HandS.Zip
import KE.KDictList
import PyProof.Rows.StrDouble
import PyProof.Rows.StrFin3
import HandS.Style
import HandS.Deep
import KE.KNestM
set_option Elab.async false
set_option linter.all false
set_option maxRecDepth 100000
set_option maxHeartbeats 4000000
/-! Layer G: calls under which no guard stands, so that repr tells the whole; data with dicts; what a bag of draws is. -/
namespace Gs
open PySem PySem.Spec PyProof.Rows L2

theorem szl {n : Nat} (h : Nat.ble n 1000 = true) : n ≤ sizeLine := Nat.le_trans (Nat.le_of_ble_eq_true h) (by decide)
theorem szl2 {n : Nat} (h : Nat.ble n 1000 = true) : n ≤ 1000 := Nat.le_of_ble_eq_true h
theorem szm {n : Nat} (h : n ≤ 1000) : n ≤ sizeLine := Nat.le_trans h (by decide)
theorem szs {n : Nat} (h : n < 1000) : n < sizeLine := Nat.lt_of_lt_of_le h (by decide)
/-! ### promises of defs that are entered with no guard -/
structure FnG (P : Program) (w : World) (K : PySem.W.Frag) (mg : Str → Option Value) (base : Heap) (CX : CXT) (k : Nat) (f : Addr)
    (fd : FuncData) (ps : List Str) (sp : Sp) : Prop where
  len : ∀ vs H Q E, sp vs H Q E → vs.length = ps.length
  run : ∀ (A : Around) (outer : List Env) (s : Shared) (H : Hp) (args : Args) (us : List Value) (vs : List V) (Q : VK) (E : XK),
    Room k A → A.guards = some [] → Env0 P w K mg base A outer s H → BindsTo s fd args (ps.zip us) → Vals vs us → sp vs H Q E →
      codeAny (model P w) A (.call (.ref f) args) (CR CX outer P w H s Q E) s
section
variable {P : Program} {w : World} {K : PySem.W.Frag} {mg : Str → Option Value} {base : Heap} {CX : CXT} {j k : Nat} {f : Addr} {fd : FuncData} {ps : List Str} {sp sp' : Sp}
theorem FnG.of (F : FnOk P w K mg base CX k f fd ps sp) : FnG P w K mg base CX k f fd ps sp :=
  ⟨F.len, fun A o s H args us vs Q E hr _ => F.run A o s H args us vs Q E hr⟩
theorem FnG.mono (F : FnG P w K mg base CX j f fd ps sp) (h : j ≤ k) : FnG P w K mg base CX k f fd ps sp :=
  ⟨F.len, fun A o s H args us vs Q E hr => F.run A o s H args us vs Q E (hr.mono h)⟩

theorem fn_ofG {name qual : Str} {params : Arguments} {body : List Stmt} {scope : Scope} {dV kV doc pm cdv ct oc : Value} {an od : Option Addr}
    {osl : Array (Option Value)} {N : List Str}
    (lk : K.lookup f = some ⟨oc, od, .func (PySem.W.fnOf name qual params body scope dV kV doc pm an cdv ct), osl⟩)
    (hcd : PySem.W.codeIn K cdv qual = true) (S : FnScope N ps scope)
    (len : ∀ vs H Q E, sp vs H Q E → vs.length = ps.length)
    (hb : ∀ (A : Around) (outer : List Env) (s : Shared) (H : Hp) (vs : List V) (Q : VK) (E : XK),
      Room k (A.deeper (envOfC qual scope s.heap.objs.size f cdv)) → (A.deeper (envOfC qual scope s.heap.objs.size f cdv)).guards = some [] → sp vs H Q E →
      ∃ t, PSs (cxOf CX P w K mg base N qual scope f cdv A outer s H E) body t ∧ t { nx := fun _ H' => Q .non H', rt := Q } (start N vs) H) :
    FnG P w K mg base CX (k + 1) f (PySem.W.fnOf name qual params body scope dV kV doc pm an cdv ct) ps sp := by
  refine ⟨len, fun A outer s H args us vs Q E hr hgd e0 hbind rv hsp => ?_⟩
  have hl : vs.length = ps.length := len _ _ _ _ hsp
  have kin : K.In s.heap := e0.mod.kin.keeps (fun b o e => (e0.bs b o e).1)
  have noL : s.heap.NoLimit := e0.mod.nolimit.keeps (fun b o e => (e0.bs b o e).1)
  have kinds : ∀ y ∈ ps.zip us, scope.names.lookup y.1 = some .local ∨
      (scope.names.lookup y.1 = some .cell ∧ ((cellsFrom (s.heap.objs.size + 1) scope.names []).lookup y.1).isSome = true) := by
    rintro ⟨n, v⟩ hy
    have hn := (List.of_mem_zip hy).1
    cases S.par n hn with
    | inl q => exact Or.inl q
    | inr q => exact Or.inr ⟨q, PySem.W.cellsFrom_some _ _ _ (Or.inl q)⟩
  refine codeAny_call_function hr.depth (kin _ _ lk) rfl S.co S.gen rfl (PySem.W.codeRec_of kin hcd) (hbind _ _ _ _ ?_)
  refine wpAny_newFunctionEnv_cells S.kind kinds (fun env he s1 x => ?_)
  subst he
  refine ⟨noL.keeps x.toInCall.keep, codeAny_func ?_⟩
  obtain ⟨t, ht, hq⟩ := hb A outer s H vs Q E (hr.deeper _) hgd hsp
  have I := inv_start (CX := CX) (f := f) (cd := cdv) (qual := qual) (E := E) S hr.hd e0 hl rv x
  refine wpAny_mono (ht.run [] s1 (start N vs) H _ I hq) (fun fl s' hs => ?_) (fun e s' hs => hs)
  have done : ∀ {σ' : L2.St} {H' : Hp} {v : V} {u : Value}, Inv (cxOf CX P w K mg base N qual scope f cdv A outer s H E) [] σ' H' s' →
      RelV v u → Q v H' → CE outer P w H s Q u s' := by
    intro σ' H' v u J r2 q2
    exact ⟨v, H', J.os, J.bare, J.base, J.hok, r2, q2⟩
  cases fl with
  | ret u => obtain ⟨v, σ', H', J, r2, q2⟩ := hs; exact done J r2 q2
  | next => obtain ⟨σ', H', J, q2⟩ := hs; exact done (v := V.non) (u := Value.none) J rfl q2
  | brk => obtain ⟨_, _, _, q2⟩ := hs; exact q2.elim
  | cont => obtain ⟨_, _, _, q2⟩ := hs; exact q2.elim

/-- a def of the text without defaults; it may let out what CX tells -/
theorem fun_okX {x qual : Str} {st : Stmt} {N : List Str} (F : Fun K x qual st f fd) (S : FnScope N ps (defScope st))
    (len : ∀ vs H Q E, sp vs H Q E → vs.length = ps.length)
    (hb : ∀ (cdv : Value) (A : Around) (outer : List Env) (s : Shared) (H : Hp) (vs : List V) (Q : VK) (E : XK),
      Room k (A.deeper (envOfC qual (defScope st) s.heap.objs.size f cdv)) → (A.deeper (envOfC qual (defScope st) s.heap.objs.size f cdv)).guards = some [] → sp vs H Q E →
      ∃ t, PSs (cxOf CX P w K mg base N qual (defScope st) f cdv A outer s H E) (defBody st) t ∧
        t { nx := fun _ H' => Q .non H', rt := Q } (start N vs) H) : FnG P w K mg base CX (k + 1) f fd ps sp := by
  obtain ⟨oc, od, kV, doc, pm, an, cdv, ct, osl, rfl, lk, hcd⟩ := F.ex
  exact fn_ofG lk hcd S len (fun A outer s H vs Q E hr hg hsp => hb cdv A outer s H vs Q E hr hg hsp)
/-- a def of the text without defaults; nothing is raised out of it -/
theorem fun_okG {x qual : Str} {st : Stmt} {N : List Str} (F : Fun K x qual st f fd) (S : FnScope N ps (defScope st))
    (len : ∀ vs H Q E, sp vs H Q E → vs.length = ps.length)
    (hb : ∀ (cdv : Value) (A : Around) (outer : List Env) (s : Shared) (H : Hp) (vs : List V) (Q : VK) (E : XK),
      Room k (A.deeper (envOfC qual (defScope st) s.heap.objs.size f cdv)) → (A.deeper (envOfC qual (defScope st) s.heap.objs.size f cdv)).guards = some [] → sp vs H Q E →
      ∃ t, PSs (cxOf CX0 P w K mg base N qual (defScope st) f cdv A outer s H E).nox (defBody st) t ∧
        t { nx := fun _ H' => Q .non H', rt := Q } (start N vs) H) : FnG P w K mg base CX0 (k + 1) f fd ps sp := by
  refine fun_okX F S len (fun cdv A outer s H vs Q E hr hg hsp => ?_)
  obtain ⟨t, h, q⟩ := hb cdv A outer s H vs Q E hr hg hsp
  exact ⟨t, h.nox, q⟩
end

section
variable {X : Cx} {CX : CXT} {k n : Nat} {f C : Addr} {fd : FuncData} {ps ks : List Str} {sp : Sp} {dvs : List V} {ds : List Value} {E : XK}
  {x : Str} {p pos : Pos} {e : Expr} {es : List Expr} {kws : List Keyword} {t tk : TA} {g : List Value → List Value → List Value} {gV : List V → List V → List V}
/-- how the parameters are bound by positional values and keywords (names ks) -/
structure KB (K : PySem.W.Frag) (fd : FuncData) (ps ks : List Str) (n : Nat) (g : List Value → List Value → List Value) (gV : List V → List V → List V) : Prop where
  to : ∀ (s : Shared) (us ws : List Value), K.In s.heap → us.length = n → ws.length = ks.length → BindsTo s fd ⟨us, ks.zip ws⟩ (ps.zip (g us ws))
  rel : ∀ {vs : List V} {us : List Value} {zs : List V} {ws : List Value}, vs.length = n → zs.length = ks.length → Vals vs us → Vals zs ws → Vals (gV vs zs) (g us ws)

theorem run_any {pins : List (Addr × Obj)} {σ : L2.St} {H : Hp} {s : Shared} {Q : VK} {us : List Value} {vs : List V} {vals : List Value} {kw : List (Str × Value)}
    (F : FnG X.prog X.w X.K X.mg X.base CX k f fd ps sp) (hr : Room k X.A) (hg : X.A.guards = some []) (hx : Passes CX X E)
    (I : Inv X pins σ H s) (b : BindsTo s fd ⟨vals, kw⟩ (ps.zip us)) (r : Vals vs us) (h : sp vs H Q E) :
    wpAny (model X.prog X.w) X.A (call (.ref f) vals kw) (EP X pins σ Q) X.xe s := by
  refine wpAny_call (codeAny_mono (F.run X.A X.stack s H ⟨vals, kw⟩ us vs Q E hr hg I.env0 b r h) (fun r' s' hq => ?_))
  match r', hq with
  | .error e, hq => exact hx pins σ H s e s' I hq
  | .ok (.ret u), hq => exact I.after hq
  | .ok .next, hq => exact hq.elim
  | .ok .brk, hq => exact hq.elim
  | .ok .cont, hq => exact hq.elim

/-- f(e, ..) -/
theorem pg_call (F : FnG X.prog X.w X.K X.mg X.base CX k f fd ps sp) (hr : Room k X.A) (hgd : X.A.guards = some []) (hg : Gl X x) (hm : X.mg x = some (.ref f))
    (hk : PySem.W.keepIn X.K (.ref f) = true) (hb : Binds X.K fd ps ds) (hd : Vals dvs ds) (hx : Passes CX X E)
    (ha : PA X (e :: es) t) (hdb : (x == ("__debug__" : Str)) = false := by decide) (he : starEach (e :: es) X.env = (false, eval e X.env) :: starEach es X.env := by rfl)
    (hpl : (backTo pos (starEach es X.env)).any (·.1) = false := by rfl) :
    PE X (.Call (.Name x p) (e :: es) [] pos) (tCall sp dvs E t) := by
  constructor
  intro pins s σ H Q I h
  refine wpAny_Call_Name_kw (ld_glob I hg hm ?_ hdb)
  refine PySem.W.callWith_K (h₀ := X.base) I.ok.mod.kin hk (thn (ha.run pos pins s σ H _ I h) fun us s1 ⟨vs, H1, I1, r, q⟩ => ⟨I1.kIn, ?_⟩) he hpl
  have r2 := r.append hd
  exact run_any (vals := us) (kw := []) F hr hgd hx I1 (hb s1 us I1.kIn (by rw [← r2.length]; exact F.len _ _ _ _ q)) r2 q
/-- f() -/
theorem pg_call0 (F : FnG X.prog X.w X.K X.mg X.base CX k f fd ps sp) (hr : Room k X.A) (hgd : X.A.guards = some []) (hg : Gl X x) (hm : X.mg x = some (.ref f))
    (hk : PySem.W.keepIn X.K (.ref f) = true) (hb : Binds X.K fd ps ds) (hd : Vals dvs ds) (hx : Passes CX X E)
    (hdb : (x == ("__debug__" : Str)) = false := by decide) : PE X (.Call (.Name x p) [] [] pos) (tCall sp dvs E tNil) := by
  constructor
  intro pins s σ H Q I h
  refine wpAny_Call_Name_kw (ld_glob I hg hm ?_ hdb)
  have h : sp ([] ++ dvs) H Q E := h
  have r2 : Vals ([] ++ dvs) ([] ++ ds) := Vals.append .nil hd
  exact PySem.W.callWith_K0 I.kIn hk (run_any (vals := []) (kw := []) F hr hgd hx I (hb s [] I.kIn (by rw [← r2.length]; exact F.len _ _ _ _ h)) r2 h)
def tCallG (n m : Nat) (sp : Sp) (gV : List V → List V → List V) (E : XK) (t tk : TA) : TE := fun σ H Q => t σ H fun vs H1 => tk σ H1 fun zs H2 =>
  vs.length = n ∧ zs.length = m ∧ sp (gV vs zs) H2 Q E
/-- f(e, .., k = v, ..) -/
theorem pg_callK (F : FnG X.prog X.w X.K X.mg X.base CX k f fd ps sp) (hr : Room k X.A) (hgd : X.A.guards = some []) (hg : Gl X x) (hm : X.mg x = some (.ref f))
    (hk : PySem.W.keepIn X.K (.ref f) = true) (hb : KB X.K fd ps ks n g gV) (hx : Passes CX X E)
    (ha : PA X (e :: es) t) (hkw : PK X kws tk) (hall : (backToKw pos (keywordEach kws X.env)).all (·.1.isSome) = true := by rfl)
    (hks : (backToKw pos (keywordEach kws X.env)).filterMap (·.1) = ks := by rfl)
    (hdb : (x == ("__debug__" : Str)) = false := by decide) (he : starEach (e :: es) X.env = (false, eval e X.env) :: starEach es X.env := by rfl)
    (hpl : ((backTo pos (starEach (e :: es) X.env)).any (·.1) || (backToKw pos (keywordEach kws X.env)).any (·.1.isNone)) = false := by rfl) :
    PE X (.Call (.Name x p) (e :: es) kws pos) (tCallG n ks.length sp gV E t tk) := by
  constructor
  intro pins s σ H Q I h
  refine wpAny_Call_Name_kw (ld_glob I hg hm ?_ hdb)
  refine PySem.W.callWith_KW (h₀ := X.base) I.ok.mod.kin hk hall (thn (ha.run pos pins s σ H _ I h) fun us s1 ⟨vs, H1, I1, r, q⟩ => ?_) hpl he
  refine thn (hkw.run pos pins s1 σ H1 _ I1 q) fun ws s2 ⟨zs, H2, I2, rz, l1, l2, q2⟩ => ⟨I2.kIn, ?_⟩
  rw [hks]
  exact run_any (vals := us) (kw := ks.zip ws) F hr hgd hx I2 (hb.to s2 us ws I2.kIn (r.length.symm.trans l1) (rz.length.symm.trans l2)) (hb.rel l1 l2 r rz) q2
end

/-- f(k = v, ..) -/
theorem pg_callK0 {X : Cx} {CX : CXT} {k : Nat} {f : Addr} {fd : FuncData} {ps ks : List Str} {sp : Sp} {E : XK} {x : Str} {p pos : Pos} {kws : List Keyword} {tk : TA}
    {g : List Value → List Value → List Value} {gV : List V → List V → List V}
    (F : FnG X.prog X.w X.K X.mg X.base CX k f fd ps sp) (hr : Room k X.A) (hgd : X.A.guards = some []) (hg : Gl X x) (hm : X.mg x = some (.ref f))
    (hk : PySem.W.keepIn X.K (.ref f) = true) (hb : KB X.K fd ps ks 0 g gV) (hx : Passes CX X E) (hkw : PK X kws tk)
    (hall : (backToKw pos (keywordEach kws X.env)).all (·.1.isSome) = true := by rfl)
    (hks : (backToKw pos (keywordEach kws X.env)).filterMap (·.1) = ks := by rfl)
    (hdb : (x == ("__debug__" : Str)) = false := by decide)
    (hpl : ((backTo pos (starEach [] X.env)).any (·.1) || (backToKw pos (keywordEach kws X.env)).any (·.1.isNone)) = false := by rfl) :
    PE X (.Call (.Name x p) [] kws pos) (tCallG 0 ks.length sp gV E tNil tk) := by
  constructor
  intro pins s σ H Q I h
  refine wpAny_Call_Name_kw (ld_glob I hg hm ?_ hdb)
  refine PySem.W.callWith_KW0 (h₀ := X.base) I.ok.mod.kin hk hall ?_ hpl
  refine thn (hkw.run pos pins s σ H _ I h) fun ws s2 ⟨zs, H2, I2, rz, l1, l2, q2⟩ => ⟨I2.kIn, ?_⟩
  rw [hks]
  exact run_any (vals := []) (kw := ks.zip ws) F hr hgd hx I2 (hb.to s2 [] ws I2.kIn rfl (rz.length.symm.trans l2)) (hb.rel l1 l2 .nil rz) q2

/-! ### data, dicts among it; c: one address that is no part of it (the bag of draws) -/
def Ext (c : Addr) (H H' : Hp) : Prop := ∀ b o, b ≠ c → H b = some o → H' b = some o
theorem Ext.refl {c : Addr} {H : Hp} : Ext c H H := fun _ _ _ h => h
theorem Ext.trans {c : Addr} {H H1 H2 : Hp} (a : Ext c H H1) (b : Ext c H1 H2) : Ext c H H2 := fun x o n h => b x o n (a x o n h)
theorem Ext.new {c p : Addr} {H : Hp} {o : HO} (h : H p = none) : Ext c H (upd H p o) := fun b u _ e => by
  rw [upd_ne (ne_of_none e h)]; exact e
theorem Ext.bag {c : Addr} {H : Hp} {o : HO} : Ext c H (upd H c o) := fun b u n e => by
  rw [upd_ne n]; exact e
/-- a thing that the first heap did not know may change -/
theorem Ext.own {c p : Addr} {H H' : Hp} {o : HO} (e : Ext c H H') (h : H p = none) : Ext c H (upd H' p o) := fun b u n x => by
  rw [upd_ne (ne_of_none x h)]; exact e b u n x
theorem Ext.rd {c a : Addr} {H H' : Hp} {u : HO} (e : Ext c H H') (n : a ≠ c) (h : Rd H a u) : Rd H' a u := by
  rcases h with h | ⟨o, h⟩
  · exact .inl (e _ _ n h)
  · exact .inr ⟨o, e _ _ n h⟩
theorem Ext.sqL {K : PySem.W.Frag} {c a : Addr} {H H' : Hp} {xs : List V} (e : Ext c H H') (n : a ≠ c) (h : SqL K H a xs) : SqL K H' a xs := by
  rcases h with h | h
  · exact .inl (e.rd n h)
  · exact .inr h
theorem Ext.sqT {K : PySem.W.Frag} {c a : Addr} {H H' : Hp} {xs : List V} (e : Ext c H H') (n : a ≠ c) (h : SqT K H a xs) : SqT K H' a xs := by
  rcases h with h | h
  · exact .inl (e.rd n h)
  · exact .inr h
mutual
inductive DV (K : PySem.W.Frag) (c : Addr) (H : Hp) : V → PyData → Prop
  | non : DV K c H .non .none
  | bl (b : Bool) : DV K c H (.bl b) (.bool b)
  | int (i : Int) : DV K c H (.int i) (.int i)
  | str (x : Str) : DV K c H (.str x) (.str x)
  | lst {a : Addr} {xs : List V} {ds : List PyData} : a ≠ c → SqL K H a xs → DVs K c H xs ds → DV K c H (.ref a) (.list ds)
  | tup {a : Addr} {xs : List V} {ds : List PyData} : a ≠ c → SqT K H a xs → DVs K c H xs ds → DV K c H (.ref a) (.tuple ds)
  | dic {a : Addr} {kvs : List (Key × V)} {ps : List (PyData × PyData)} : a ≠ c → H a = some (.dK kvs) → DKs K c H kvs ps → DV K c H (.ref a) (.dict ps)
  | dct {a : Addr} {kvs : List (List Key × V)} {ps : List (PyData × PyData)} : a ≠ c → H a = some (.dT kvs) → PyData.showable (.dict ps) = false → DV K c H (.ref a) (.dict ps)
inductive DVs (K : PySem.W.Frag) (c : Addr) (H : Hp) : List V → List PyData → Prop
  | nil : DVs K c H [] []
  | cons {v : V} {vs : List V} {d : PyData} {ds : List PyData} : DV K c H v d → DVs K c H vs ds → DVs K c H (v :: vs) (d :: ds)
inductive DKs (K : PySem.W.Frag) (c : Addr) (H : Hp) : List (Key × V) → List (PyData × PyData) → Prop
  | nil : DKs K c H [] []
  | cons {k : Key} {v : V} {r : List (Key × V)} {d e : PyData} {ps : List (PyData × PyData)} : DV K c H (kV k) d → DV K c H v e → DKs K c H r ps → DKs K c H ((k, v) :: r) ((d, e) :: ps)
end
section
variable {K : PySem.W.Frag} {c : Addr} {H H' : Hp}
mutual
theorem DV.ext (e : Ext c H H') : ∀ (d : PyData) (v : V), DV K c H v d → DV K c H' v d
  | .none, _, h => by cases h; exact .non
  | .bool _, _, h => by cases h; exact .bl _
  | .int _, _, h => by cases h; exact .int _
  | .str _, _, h => by cases h; exact .str _
  | .list ds, _, h => by
    cases h with
    | lst n s r => exact .lst n (e.sqL n s) (DVs.ext e ds _ r)
  | .tuple ds, _, h => by
    cases h with
    | tup n s r => exact .tup n (e.sqT n s) (DVs.ext e ds _ r)
  | .dict ps, _, h => by
    cases h with
    | dic n s r => exact .dic n (e _ _ n s) (DKs.ext e ps _ r)
    | dct n s z => exact .dct n (e _ _ n s) z
theorem DVs.ext (e : Ext c H H') : ∀ (ds : List PyData) (vs : List V), DVs K c H vs ds → DVs K c H' vs ds
  | [], _, h => by cases h; exact .nil
  | d :: ds, _, h => by
    cases h with
    | cons a b => exact .cons (DV.ext e d _ a) (DVs.ext e ds _ b)
theorem DKs.ext (e : Ext c H H') : ∀ (ps : List (PyData × PyData)) (vs : List (Key × V)), DKs K c H vs ps → DKs K c H' vs ps
  | [], _, h => by cases h; exact .nil
  | (d, f) :: ps, _, h => by
    cases h with
    | cons a b r => exact .cons (DV.ext e d _ a) (DV.ext e f _ b) (DKs.ext e ps _ r)
end
theorem DVs.len : ∀ {vs : List V} {ds : List PyData}, DVs K c H vs ds → vs.length = ds.length
  | _, _, .nil => rfl
  | _, _, .cons _ b => congrArg Nat.succ (DVs.len b)
theorem DVs.at : ∀ {vs : List V} {ds : List PyData} {i : Nat} {v : V}, DVs K c H vs ds → vs[i]? = some v → ∃ d, ds[i]? = some d ∧ DV K c H v d
  | _, _, i, _, .nil, h => by simp at h
  | _, _, 0, _, .cons a _, h => by simp at h; subst h; exact ⟨_, rfl, a⟩
  | _, _, i + 1, _, .cons _ b, h => by simpa using DVs.at b (by simpa using h)
theorem DVs.append : ∀ {vs ws : List V} {ds es : List PyData}, DVs K c H vs ds → DVs K c H ws es → DVs K c H (vs ++ ws) (ds ++ es)
  | _, _, _, _, .nil, h => h
  | _, _, _, _, .cons a b, h => .cons a (DVs.append b h)
end
section
variable {X : Cx} {pins : List (Addr × Obj)} {σ : L2.St} {H : Hp} {s : Shared} {c : Addr}
/-- what is known of a value that bears d, for its text -/
def Shows (X : Cx) (h : Heap) (u : Value) (d : PyData) : Prop := (∃ as, Reads h u d as) ∧ ∃ bs, ReadAtMost h d.depth bs ∧ ReprK X.prog X.w bs h d.depth u d.shown
def ShowsS (X : Cx) (h : Heap) (us : List Value) (ds : List PyData) : Prop := (∃ as, ReadsAll h us ds as) ∧
  ∃ bs, ReadAtMost h (PyData.depthAll ds) bs ∧ ReprAllK X.prog X.w bs h (PyData.depthAll ds) us (PyData.shownAll ds)
theorem ShowsS.nil {h : Heap} : ShowsS X h [] [] := ⟨⟨_, .nil⟩, [], (fun _ z => nomatch z), .nil⟩
theorem ShowsS.cons {h : Heap} {u : Value} {us : List Value} {d : PyData} {ds : List PyData} (a : Shows X h u d) (b : ShowsS X h us ds) : ShowsS X h (u :: us) (d :: ds) := by
  obtain ⟨⟨as, r⟩, bs, m, k⟩ := a
  obtain ⟨⟨as', r'⟩, bs', m', k'⟩ := b
  have l1 : d.depth ≤ PyData.depthAll (d :: ds) := by simp only [PyData.depthAll]; exact Nat.le_max_left _ _
  have l2 : PyData.depthAll ds ≤ PyData.depthAll (d :: ds) := by simp only [PyData.depthAll]; exact Nat.le_max_right _ _
  exact ⟨⟨_, .cons r r'⟩, bs ++ bs', (m.mono l1).append (m'.mono l2), .cons ((k.more fun _ z => List.mem_append_left _ z).level_le l1) (k'.more_le (fun _ z => List.mem_append_right _ z) l2)⟩
theorem dict_len {ps : List (PyData × PyData)} (h : (PyData.shown (.dict ps)).length ≤ sizeLine) : (∀ t ∈ PyData.shownAll (ps.map (·.1)), t.length ≤ sizeLine) ∧ ∀ t ∈ PyData.shownAll (ps.map (·.2)), t.length ≤ sizeLine := by
  have h' : (dictText (PyData.shownKv ps)).length ≤ sizeLine := by simpa only [PyData.shown] using h
  constructor
  · intro t ht
    obtain ⟨p, hp, hl⟩ := PyData.shownKv_key_le ps t ht
    exact Nat.le_trans hl (Nat.le_trans (dictText_mem_le hp) h')
  · intro t ht
    obtain ⟨p, hp, hl⟩ := PyData.shownKv_val_le ps t ht
    exact Nat.le_trans hl (Nat.le_trans (dictText_mem_le hp) h')
mutual
theorem DV.shows (I : Inv X pins σ H s) : ∀ (d : PyData) (v : V) (u : Value), DV X.K c H v d → L2.RelV v u → d.showable = true → d.shown.length ≤ sizeLine → Shows X s.heap u d
  | .none, _, _, h, r, _, _ => by
    cases h; cases r
    exact ⟨⟨_, .none⟩, [], (fun _ z => nomatch z), .of_is ReprIs.none _ _ _⟩
  | .bool b, _, _, h, r, _, _ => by
    cases h; cases r
    exact ⟨⟨_, .bool b⟩, [], (fun _ z => nomatch z), .of_is (ReprIs.bool b) _ _ _⟩
  | .int i, _, _, h, r, hs, _ => by
    cases h; obtain ⟨t, rfl⟩ := r
    exact ⟨⟨_, .int i t⟩, [], (fun _ z => nomatch z), .of_is (ReprIs.int t (by simpa [PyData.showable] using hs)) _ _ _⟩
  | .str x, _, _, h, r, _, hz => by
    cases h; obtain ⟨t, rfl⟩ := r
    exact ⟨⟨_, .str x t⟩, [], (fun _ z => nomatch z), .of_is (ReprIs.str x t (by simpa only [PyData.shown] using hz)) _ _ _⟩
  | .list ds, _, _, h, r, hs, hz => by
    cases h with
    | lst n hq ha =>
      cases r
      obtain ⟨its, rv, ⟨o, m, ho, hc, _, hd⟩, _⟩ := I.list hq
      have hz' : (listText (PyData.shownAll ds)).length ≤ sizeLine := by simpa only [PyData.shown] using hz
      obtain ⟨⟨as, rs⟩, bs, mb, kb⟩ := DVs.shows I ds _ its ha rv (by simpa [PyData.showable] using hs) (fun t ht => Nat.le_trans (listText_mem_le ht) hz')
      have rd : Reads s.heap (.ref _) (.list ds) _ := .list ho hc hd rs
      have lt : PyData.depthAll ds < (PyData.list ds).depth := by simp only [PyData.depth]; omega
      have out := not_mem_of_deeper rd lt mb
      refine ⟨⟨_, rd⟩, _, ReadAtMost.cons rd (Nat.le_of_lt lt) mb, ?_⟩
      simp only [PyData.depth, PyData.shown]
      match its, rs, kb, hd with
      | [], rs, _, hd =>
        cases rs
        simp only [PyData.shownAll, listText_nil]
        exact ReprK.listEmpty ho hc hd
      | x :: l, _, kb, hd => exact ReprK.list ho hc hd out (by simpa using kb.length_eq) (fun i y e => kb.item i y (by simpa using e))
  | .tuple ds, _, _, h, r, hs, hz => by
    cases h with
    | tup n hq ha =>
      cases r
      obtain ⟨its, rv, ⟨o, ho, hc, m, hd⟩, _⟩ := I.tuple hq
      have hz' : (tupleText (PyData.shownAll ds)).length ≤ sizeLine := by simpa only [PyData.shown] using hz
      obtain ⟨⟨as, rs⟩, bs, mb, kb⟩ := DVs.shows I ds _ its ha rv (by simpa [PyData.showable] using hs) (fun t ht => Nat.le_trans (tupleText_mem_le ht) hz')
      have rd : Reads s.heap (.ref _) (.tuple ds) _ := .tuple ho hc hd rs
      have lt : PyData.depthAll ds < (PyData.tuple ds).depth := by simp only [PyData.depth]; omega
      have out := not_mem_of_deeper rd lt mb
      refine ⟨⟨_, rd⟩, _, ReadAtMost.cons rd (Nat.le_of_lt lt) mb, ?_⟩
      simp only [PyData.depth, PyData.shown]
      exact ReprK.tuple ho hc hd out kb
  | .dict ps, _, _, h, r, hs, hz => by
    cases h with
    | dic n hq ha =>
      cases r
      obtain ⟨_, hsm, vs, kv, o, es, ep, ho, hx, hd, _, pr, _⟩ := I.hok _ _ hq
      obtain ⟨hs1, hs2⟩ := PyData.showableKv_split ps (by simpa [PyData.showable] using hs)
      obtain ⟨hz1, hz2⟩ := dict_len hz
      obtain ⟨⟨⟨as, r1⟩, b1, m1, k1⟩, ⟨as', r2⟩, b2, m2, k2⟩ := DKs.shows I ps _ es.toList vs ha kv pr hs1 hs2 hz1 hz2
      have rd : Reads s.heap (.ref _) (.dict ps) _ := .dict ho hx.1 hd r1 r2
      have lt : PyData.depthKv ps < (PyData.dict ps).depth := by simp only [PyData.depth]; omega
      have mb := (m1.mono (PyData.depthAll_keys_le ps)).append (m2.mono (PyData.depthAll_vals_le ps))
      have out := not_mem_of_deeper rd lt mb
      refine ⟨⟨_, rd⟩, _, ReadAtMost.cons rd (Nat.le_of_lt lt) mb, ?_⟩
      simp only [PyData.depth, PyData.shown, PyData.shownKv_eq]
      exact ReprK.dict ho hx.1 hd hsm out (.of_two es.toList _ _ (k1.more_le (fun _ z => List.mem_append_left _ z) (PyData.depthAll_keys_le ps))
        (k2.more_le (fun _ z => List.mem_append_right _ z) (PyData.depthAll_vals_le ps)))
    | dct n q z => rw [z] at hs; cases hs
theorem DVs.shows (I : Inv X pins σ H s) : ∀ (ds : List PyData) (vs : List V) (us : List Value), DVs X.K c H vs ds → L2.Vals vs us → PyData.showableAll ds = true → (∀ t ∈ PyData.shownAll ds, t.length ≤ sizeLine) → ShowsS X s.heap us ds
  | [], _, _, h, r, _, _ => by
    cases h; cases r
    exact .nil
  | d :: ds, _, _, h, r, hs, hz => by
    cases h with
    | cons h1 h2 =>
      cases r with
      | cons r1 r2 =>
        have hs' : d.showable = true ∧ PyData.showableAll ds = true := by simpa [PyData.showableAll] using hs
        simp only [PyData.shownAll] at hz
        exact .cons (DV.shows I d _ _ h1 r1 hs'.1 (hz _ List.mem_cons_self)) (DVs.shows I ds _ _ h2 r2 hs'.2 fun t ht => hz t (List.mem_cons_of_mem _ ht))
theorem DKs.shows (I : Inv X pins σ H s) : ∀ (ps : List (PyData × PyData)) (kvs : List (Key × V)) (es : List DictEntry) (vs : List (Key × Value)), DKs X.K c H kvs ps → KV kvs vs →
    Pairs (mixKind X.prog X.w) es vs → PyData.showableAll (ps.map (·.1)) = true → PyData.showableAll (ps.map (·.2)) = true →
    (∀ t ∈ PyData.shownAll (ps.map (·.1)), t.length ≤ sizeLine) → (∀ t ∈ PyData.shownAll (ps.map (·.2)), t.length ≤ sizeLine) →
    ShowsS X s.heap (es.map (·.key)) (ps.map (·.1)) ∧ ShowsS X s.heap (es.map (·.val)) (ps.map (·.2))
  | [], _, _, _, h, r, p, _, _, _, _ => by
    cases h; cases r; cases p
    exact ⟨.nil, .nil⟩
  | (d, f) :: ps, (k, v) :: kvs, e :: es', kv :: vs', h, r, p, hs1, hs2, hz1, hz2 => by
    cases h with
    | cons h1 h2 h3 =>
      cases r with
      | cons r1 r2 =>
        cases p with
        | cons p1 p2 p3 =>
          obtain ⟨e1, r1⟩ := r1
          have rk : L2.RelV (kV k) e.key := by
            have p1 : keyIs kv.1 e.key = true := p1
            rw [← e1] at p1
            rcases keyIs_shape p1 with ⟨i, t, q1, q2⟩ | ⟨z, t, q1, q2⟩
            · rw [q2]; simp only at q1; rw [q1]; exact ⟨t, rfl⟩
            · rw [q2]; simp only at q1; rw [q1]; exact ⟨t, rfl⟩
          have a1 : d.showable = true ∧ PyData.showableAll (ps.map (·.1)) = true := by simpa [PyData.showableAll] using hs1
          have a2 : f.showable = true ∧ PyData.showableAll (ps.map (·.2)) = true := by simpa [PyData.showableAll] using hs2
          simp only [List.map_cons, PyData.shownAll] at hz1 hz2
          obtain ⟨q3, q4⟩ := DKs.shows I ps _ es' vs' h3 r2 p3 a1.2 a2.2 (fun t ht => hz1 t (List.mem_cons_of_mem _ ht)) fun t ht => hz2 t (List.mem_cons_of_mem _ ht)
          exact ⟨.cons (DV.shows I d _ _ h1 rk a1.1 (hz1 _ List.mem_cons_self)) q3, .cons (DV.shows I f _ e.val h2 (by rw [p2]; exact r1) a2.1 (hz2 _ List.mem_cons_self)) q4⟩
  | (d, f) :: ps, [], _, _, h, r, p, _, _, _, _ => by cases h
  | (d, f) :: ps, _ :: _, [], _, h, r, p, _, _, _, _ => by cases p; cases r
  | (d, f) :: ps, _ :: _, _, [], h, r, p, _, _, _, _ => by cases r
end
/-- repr of data -/
def rRepr (K : PySem.W.Frag) : List V → Hp → VK → Prop := fun xs H Q => ∃ (c a : Addr) (d : PyData), xs = [.ref a] ∧ DV K c H (.ref a) d ∧ d.showable = true ∧ d.depth ≤ 60 ∧ d.shown.length ≤ sizeLine ∧ Q (.str d.shown) H
theorem call_repr {k : Nat} (hr : Room k X.A) (hg : X.A.guards = some []) : CallR X (.builtin "repr") (rRepr X.K) := by
  intro pins s σ H xs us Q I r h
  obtain ⟨c, a, d, rfl, hd, hs, hdp, hz, q⟩ := h
  match us, r with
  | [u], .cons r1 .nil =>
    cases (show u = Value.ref a from r1)
    have un := hr.units
    have un1 : X.A.units + 1 < cLine := by omega
    cases hd with
    | lst n hq ha =>
      rename_i vs ds
      obtain ⟨its, rv, ⟨o, m, ho, hc, _, hdt⟩, _⟩ := I.list hq
      have hz' : (listText (PyData.shownAll ds)).length ≤ sizeLine := by simpa only [PyData.shown] using hz
      obtain ⟨⟨as, rs⟩, bs, mb, kb⟩ := DVs.shows I ds _ its ha rv (by simpa [PyData.showable] using hs) (fun t ht => Nat.le_trans (listText_mem_le ht) hz')
      have rd : Reads s.heap (.ref a) (.list ds) _ := .list ho hc hdt rs
      have lt : PyData.depthAll ds < (PyData.list ds).depth := by simp only [PyData.depth]; omega
      have out := not_mem_of_deeper rd lt mb
      simp only [PyData.depth] at hdp
      simp only [PyData.shown] at q
      refine call_repr_slot un1 ⟨o, ho, hc⟩ F.slot_list_repr.toG ?_
      match its, rs, kb, hdt with
      | [], rs, _, hdt =>
        cases rs
        simp only [PyData.shownAll, listText_nil] at q
        exact call_list_repr_empty ⟨o, ho, hc⟩ ho hdt ⟨_, _, rfl, .str _, H, I.kept fun _ _ e => e, ⟨_, rfl⟩, q⟩
      | x :: l, _, kb, hdt =>
        exact call_list_reprK ho hc hdt out (by simpa using kb.length_eq) (fun i y e => kb.item i y (by simpa using e)) (A := X.A.in1) hg (fun b _ => Clear.nil b)
          (by show X.A.units + 1 + _ < cLine; omega) (fun _ _ e => e) (fun h' u tk hk => ⟨_, _, rfl, .str _, H, I.kept hk, ⟨u, rfl⟩, q⟩) hz'
    | tup n hq ha =>
      rename_i vs ds
      obtain ⟨its, rv, ⟨o, ho, hc, m, hdt⟩, _⟩ := I.tuple hq
      have hz' : (tupleText (PyData.shownAll ds)).length ≤ sizeLine := by simpa only [PyData.shown] using hz
      obtain ⟨⟨as, rs⟩, bs, mb, kb⟩ := DVs.shows I ds _ its ha rv (by simpa [PyData.showable] using hs) (fun t ht => Nat.le_trans (tupleText_mem_le ht) hz')
      have rd : Reads s.heap (.ref a) (.tuple ds) _ := .tuple ho hc hdt rs
      have lt : PyData.depthAll ds < (PyData.tuple ds).depth := by simp only [PyData.depth]; omega
      have out := not_mem_of_deeper rd lt mb
      simp only [PyData.depth] at hdp
      simp only [PyData.shown] at q
      exact call_repr_slot un1 ⟨o, ho, hc⟩ F.slot_tuple_repr (call_tuple_reprK ho hc hdt out kb (A := X.A.in1) hg (fun b _ => Clear.nil b)
          (by show X.A.units + 1 + _ < cLine; omega) (fun _ _ e => e) (fun h' u tk hk => ⟨_, _, rfl, .str _, H, I.kept hk, ⟨u, rfl⟩, q⟩) hz')
    | dic n hq ha =>
      rename_i kvs ps
      obtain ⟨_, hsm, vs, kv, o, es, ep, ho, hx, hdt, _, pr, _⟩ := I.hok _ _ hq
      obtain ⟨hs1, hs2⟩ := PyData.showableKv_split ps (by simpa [PyData.showable] using hs)
      obtain ⟨hz1, hz2⟩ := dict_len hz
      obtain ⟨⟨⟨as, r1⟩, b1, m1, k1⟩, ⟨as', r2⟩, b2, m2, k2⟩ := DKs.shows I ps _ es.toList vs ha kv pr hs1 hs2 hz1 hz2
      have rd : Reads s.heap (.ref a) (.dict ps) _ := .dict ho hx.1 hdt r1 r2
      have lt : PyData.depthKv ps < (PyData.dict ps).depth := by simp only [PyData.depth]; omega
      have mb := (m1.mono (PyData.depthAll_keys_le ps)).append (m2.mono (PyData.depthAll_vals_le ps))
      have out := not_mem_of_deeper rd lt mb
      simp only [PyData.depth] at hdp
      simp only [PyData.shown, PyData.shownKv_eq] at q hz
      exact call_repr_slot un1 ⟨o, ho, hx.1⟩ F.slot_dict_repr (call_dict_reprK ho hx.1 hdt hsm out (.of_two es.toList _ _ (k1.more_le (fun _ z => List.mem_append_left _ z) (PyData.depthAll_keys_le ps))
        (k2.more_le (fun _ z => List.mem_append_right _ z) (PyData.depthAll_vals_le ps))) (A := X.A.in1) hg (fun b _ => Clear.nil b)
          (by show X.A.units + 1 + _ < cLine; omega) (fun _ _ e => e) (fun h' u tk hk => ⟨_, _, rfl, .str _, H, I.kept hk, ⟨u, rfl⟩, q⟩) hz)
    | dct n hq z => rw [z] at hs; cases hs
end

/-! ### small facts of data -/
theorem dp_ints {K : PySem.W.Frag} {H : Hp} : ∀ ns : List Int, DpAll K H (ns.map V.int) (ns.map PyData.int)
  | [] => .nil
  | n :: ns => .cons (.int n) (dp_ints ns)
theorem dv_ints {K : PySem.W.Frag} {H : Hp} {c : Addr} : ∀ ns : List Int, DVs K c H (ns.map V.int) (ns.map PyData.int)
  | [] => .nil
  | n :: ns => .cons (.int n) (dv_ints ns)
theorem can_ints : ∀ ns : List Int, PyData.canLayAll0 (ns.map PyData.int) = true
  | [] => rfl
  | n :: ns => by
    show (PyData.canLay0 (.int n) && PyData.canLayAll0 (ns.map PyData.int)) = true
    rw [can_ints ns]; rfl
theorem depth_ints : ∀ ns : List Int, PyData.depthAll (ns.map PyData.int) ≤ 1
  | [] => by decide
  | n :: ns => by
    have := depth_ints ns
    simp only [List.map_cons, PyData.depthAll, PyData.depth]
    omega
theorem shaped_ints (ns : List Int) : SeqAt.shaped (.list (ns.map PyData.int)) = true := by
  unfold SeqAt.shaped
  have h := depth_ints ns
  have e : PyData.canLay0 (.list (ns.map PyData.int)) = true := by
    simp only [PyData.canLay0]; exact can_ints ns
  rw [e, Bool.true_and, decide_eq_true_eq]
  simp only [PyData.depth]
  omega
theorem eqv_nil (ds : List PyData) : PyData.eqv (.list ds) (.list []) = ds.isEmpty := by
  cases ds with
  | nil => simp [PyData.eqv, PyData.eqvAll]
  | cons d ds => simp [PyData.eqv, PyData.eqvAll]

theorem mix_bound {v pt A B C : Int} (v0 : 0 ≤ v) (v1 : v < 2147483648) (p0 : 0 ≤ pt) (p1 : pt ≤ 1000000) (a0 : 0 ≤ A) (a1 : A ≤ 1000000) (b0 : 0 ≤ B) (b1 : B ≤ 1000000) (c0 : 0 ≤ C) (c1 : C ≤ 1000000) :
    (v * (2 * pt + A) + B * pt * pt + C).natAbs < 2 ^ 64 := by
  have e1 : v * (2 * pt + A) ≤ 2147483648 * 3000000 := Int.mul_le_mul (by omega) (by omega) (by omega) (by omega)
  have e2 : 0 ≤ v * (2 * pt + A) := Int.mul_nonneg v0 (by omega)
  have e3 : B * pt ≤ 1000000 * 1000000 := Int.mul_le_mul b1 p1 p0 (by omega)
  have e4 : 0 ≤ B * pt := Int.mul_nonneg b0 p0
  have e5 : B * pt * pt ≤ 1000000 * 1000000 * 1000000 := Int.mul_le_mul e3 p1 p0 (by omega)
  have e6 : 0 ≤ B * pt * pt := Int.mul_nonneg e4 p0
  omega
theorem mul_pt {B pt : Int} (p0 : 0 ≤ pt) (p1 : pt ≤ 1000000) (b0 : 0 ≤ B) (b1 : B ≤ 1000000) : CMul (B * pt) pt := by
  have e3 : B * pt ≤ 1000000 * 1000000 := Int.mul_le_mul b1 p1 p0 (by omega)
  have e4 : 0 ≤ B * pt := Int.mul_nonneg b0 p0
  exact .inl ⟨by omega, by omega⟩
theorem at_mod {ns : List Int} {pt : Int} (h : ns ≠ []) (p0 : 0 ≤ pt) : ∃ v, atI (ns.map V.int) (pt % ((ns.map V.int).length : Int)) = some (.int v) := by
  have hl : 0 < (ns.map V.int).length := by
    rw [List.length_map]; exact List.length_pos_iff.mpr h
  have h1 := Int.emod_nonneg pt (show ((ns.map V.int).length : Int) ≠ 0 by omega)
  have h2 := Int.emod_lt_of_pos pt (show (0 : Int) < ((ns.map V.int).length : Int) by omega)
  obtain ⟨j, hj⟩ := Int.eq_ofNat_of_zero_le h1
  rw [hj] at h2 ⊢
  have hjl : j < ns.length := by rw [List.length_map] at h2; omega
  refine ⟨ns[j], atI_nat ?_⟩
  rw [List.getElem?_map, List.getElem?_eq_getElem hjl]; rfl
theorem emod_w {x M : Int} (h : 0 < M) (h2 : M ≤ 2147483648) : -(2 ^ 64) < x % M ∧ x % M < 2 ^ 64 := by
  have a := Int.emod_nonneg x (show M ≠ 0 by omega)
  have b := Int.emod_lt_of_pos x h
  omega
theorem emod_b {x M : Int} (h : 0 < M) (h2 : M ≤ 2147483648) : 0 ≤ x % M ∧ x % M < 2147483648 := by
  have a := Int.emod_nonneg x (show M ≠ 0 by omega)
  have b := Int.emod_lt_of_pos x h
  omega
/-- forget what a heap is, but for F -/
theorem gcut {Qd : Hp → Prop} {H : Hp} (F : Hp → Prop) (hF : F H) (h : ∀ H', F H' → Qd H') : Qd H := h H hF
theorem pos_lit {j : Int} (h : 0 < j) : 0 < j := h

section
variable {K : PySem.W.Frag} {c p : Addr} {H H' : Hp} {v : V} {d : PyData} {vs xs : List V} {ds : List PyData}
theorem DV.up (h : DV K c H v d) (e : Ext c H H') : DV K c H' v d := DV.ext e d v h
theorem DVs.up (h : DVs K c H vs ds) (e : Ext c H H') : DVs K c H' vs ds := DVs.ext e ds vs h
/-- a new list, a new tuple, a new dict -/
theorem new_lst (hp : H p = none) (n : p ≠ c) (h : DVs K c H xs ds) : DV K c (upd H p (.lst xs)) (.ref p) (.list ds) ∧ Ext c H (upd H p (.lst xs)) :=
  ⟨.lst n (.of upd_same) (h.up (Ext.new hp)), Ext.new hp⟩
theorem new_tup (hp : H p = none) (n : p ≠ c) (h : DVs K c H xs ds) : DV K c (upd H p (.tup xs)) (.ref p) (.tuple ds) ∧ Ext c H (upd H p (.tup xs)) :=
  ⟨.tup n (.of upd_same) (h.up (Ext.new hp)), Ext.new hp⟩
/-- [x if one of them] -/
theorem one_of {i : Nat} {v : V} {xs : List V} (h : xs[i]? = some v) : v ∈ xs := List.mem_of_getElem? h
end

theorem pi_or {X : Cx} {tg e : Expr} {w1 w2 : TI} (h1 : PI X tg e w1) (h2 : PI X tg e w2) : PI X tg e (fun σ H R => w1 σ H R ∨ w2 σ H R) :=
  ⟨fun pins s σ H R I h => h.elim (h1.run pins s σ H R I) (h2.run pins s σ H R I)⟩
theorem Ext.of {c : Addr} {H H' : Hp} (h : Same H H') : Ext c H H' := fun b o _ e => h b o e
theorem same_new {p : Addr} {H : Hp} {o : HO} (h : H p = none) : Same H (upd H p o) := fun b u e => by
  rw [upd_ne (ne_of_none e h)]; exact e
theorem same_own {p : Addr} {H H' : Hp} {o : HO} (e : Same H H') (h : H p = none) : Same H (upd H' p o) := fun b u x => by
  rw [upd_ne (ne_of_none x h)]; exact e b u x
/-! ### types of data -/
def tyN : PyData → String
  | .none => "NoneType" | .bool _ => "bool" | .int _ => "int" | .str _ => "str" | .list _ => "list" | .tuple _ => "tuple" | .dict _ => "dict"
theorem ty_of {K : PySem.W.Frag} {c : Addr} {H : Hp} {v : V} {d : PyData} (h : DV K c H v d) : TyX K H v (.type (tyN d)) := by
  cases h with
  | non => exact .base .non
  | bl b => exact .base (.bl b)
  | int i => exact .base (.int i)
  | str x => exact .base (.str x)
  | lst _ s _ =>
    rcases s with (s | ⟨o, s⟩) | ⟨o, its, n, e, q, _⟩
    · exact .base (.lst s)
    · exact .base (.frz s)
    · exact .kList e q
  | tup _ s _ =>
    rcases s with (s | ⟨o, s⟩) | ⟨o, its, n, e, q, _⟩
    · exact .base (.tup s)
    · exact .fTuple s
    · exact .kTuple e q
  | dic _ s _ => exact .base (.dK s)
  | dct _ s _ => exact .base (.dT s)
def isInt : PyData → Bool | .int _ => true | _ => false
def isSeq : PyData → Bool | .list _ => true | .tuple _ => true | _ => false
def isStr : PyData → Bool | .str _ => true | _ => false
theorem iteB {b : Bool} {A B : Prop} (h1 : b = true → A) (h2 : b = false → B) : if b = true then A else B := by
  cases b with
  | true => exact iteT (h1 rfl)
  | false => exact iteF (h2 rfl)
/-- a pair of two such things -/
def pairP (f : PyData → Bool) : PyData → Bool
  | .list [a, b] => f a && f b
  | .tuple [a, b] => f a && f b
  | _ => false
abbrev isSq : PyData → Bool := pairP isInt
abbrev isMv : PyData → Bool := pairP isSq
theorem pair_no {f : PyData → Bool} {ds : List PyData} (h : ds.length ≠ 2) : pairP f (.list ds) = false ∧ pairP f (.tuple ds) = false := by
  match ds, h with
  | [], _ => exact ⟨rfl, rfl⟩
  | [_], _ => exact ⟨rfl, rfl⟩
  | [_, _], h => exact absurd rfl h
  | _ :: _ :: _ :: _, _ => exact ⟨rfl, rfl⟩
theorem two_of {α : Type} {ds : List α} (h : ds.length = 2) : ∃ a b, ds = [a, b] := by
  match ds, h with
  | [a, b], _ => exact ⟨a, b, rfl⟩
theorem kI : ∀ d : PyData, kitB (tyN d) "int" = some (match d with | .int _ => true | .bool _ => true | _ => false)
  | .none => (by decide +kernel : kitB "NoneType" "int" = some false)
  | .bool _ => (by decide +kernel : kitB "bool" "int" = some true)
  | .int _ => (by decide +kernel : kitB "int" "int" = some true)
  | .str _ => (by decide +kernel : kitB "str" "int" = some false)
  | .list _ => (by decide +kernel : kitB "list" "int" = some false)
  | .tuple _ => (by decide +kernel : kitB "tuple" "int" = some false)
  | .dict _ => (by decide +kernel : kitB "dict" "int" = some false)
theorem kB : ∀ d : PyData, kitB (tyN d) "bool" = some (match d with | .bool _ => true | _ => false)
  | .none => (by decide +kernel : kitB "NoneType" "bool" = some false)
  | .bool _ => (by decide +kernel : kitB "bool" "bool" = some true)
  | .int _ => (by decide +kernel : kitB "int" "bool" = some false)
  | .str _ => (by decide +kernel : kitB "str" "bool" = some false)
  | .list _ => (by decide +kernel : kitB "list" "bool" = some false)
  | .tuple _ => (by decide +kernel : kitB "tuple" "bool" = some false)
  | .dict _ => (by decide +kernel : kitB "dict" "bool" = some false)
theorem kS : ∀ d : PyData, kitB (tyN d) "str" = some (isStr d)
  | .none => (by decide +kernel : kitB "NoneType" "str" = some false)
  | .bool _ => (by decide +kernel : kitB "bool" "str" = some false)
  | .int _ => (by decide +kernel : kitB "int" "str" = some false)
  | .str _ => (by decide +kernel : kitB "str" "str" = some true)
  | .list _ => (by decide +kernel : kitB "list" "str" = some false)
  | .tuple _ => (by decide +kernel : kitB "tuple" "str" = some false)
  | .dict _ => (by decide +kernel : kitB "dict" "str" = some false)
theorem kL : ∀ d : PyData, kitB (tyN d) "list" = some (match d with | .list _ => true | _ => false)
  | .none => (by decide +kernel : kitB "NoneType" "list" = some false)
  | .bool _ => (by decide +kernel : kitB "bool" "list" = some false)
  | .int _ => (by decide +kernel : kitB "int" "list" = some false)
  | .str _ => (by decide +kernel : kitB "str" "list" = some false)
  | .list _ => (by decide +kernel : kitB "list" "list" = some true)
  | .tuple _ => (by decide +kernel : kitB "tuple" "list" = some false)
  | .dict _ => (by decide +kernel : kitB "dict" "list" = some false)
theorem kT : ∀ d : PyData, kitB (tyN d) "tuple" = some (match d with | .tuple _ => true | _ => false)
  | .none => (by decide +kernel : kitB "NoneType" "tuple" = some false)
  | .bool _ => (by decide +kernel : kitB "bool" "tuple" = some false)
  | .int _ => (by decide +kernel : kitB "int" "tuple" = some false)
  | .str _ => (by decide +kernel : kitB "str" "tuple" = some false)
  | .list _ => (by decide +kernel : kitB "list" "tuple" = some false)
  | .tuple _ => (by decide +kernel : kitB "tuple" "tuple" = some true)
  | .dict _ => (by decide +kernel : kitB "dict" "tuple" = some false)
theorem kit_seq {K : PySem.W.Frag} (d : PyData) : PySem.W.kitAny K (.type (tyN d)) [.type "list", .type "tuple"] = some (isSeq d) := by
  have kl := kL d
  have kt := kT d
  cases d with
  | list _ => exact kitAny_cons (kit_ty kl) (fun h => nomatch h) (fun _ => rfl)
  | tuple _ => exact kitAny_cons (kit_ty kl) (fun _ => kitAny_cons (kit_ty kt) (fun h => nomatch h) (fun _ => rfl)) (fun h => nomatch h)
  | _ => exact kitAny_cons (kit_ty kl) (fun _ => kitAny_cons (kit_ty kt) (fun _ => rfl) (fun h => nomatch h)) (fun h => nomatch h)
/-- a def that tells yes or no of one thing, and changes nothing -/
def spB (K : PySem.W.Frag) (f : PyData → Bool) : Sp := fun vs H Q _ => ∃ (c : Addr) (v : V) (d : PyData), vs = [v] ∧ DV K c H v d ∧ ∀ H', Same H H' → Q (.bl (f d)) H'

/-! ### the bag of draws: at c a list of the list l of ints, the place, what is left of a great number -/
def Bag (c l : Addr) (n : Nat) (H : Hp) : Prop := ∃ (ns : List Int) (pt rest : Int), H c = some (.lst [.ref l, .int pt, .int rest]) ∧
  H l = some (.lst (ns.map V.int)) ∧ l ≠ c ∧ ns.length ≤ 60 ∧ 0 ≤ pt ∧ pt ≤ n ∧ 0 ≤ rest
theorem Bag.mono {c l : Addr} {n m : Nat} {H : Hp} (b : Bag c l n H) (h : n ≤ m) : Bag c l m H := by
  obtain ⟨ns, pt, rest, h1, h2, h3, h4, h5, h6, h7⟩ := b
  exact ⟨ns, pt, rest, h1, h2, h3, h4, h5, by omega, h7⟩
theorem Bag.new {c l p : Addr} {n : Nat} {H : Hp} {o : HO} (b : Bag c l n H) (h : H p = none) : Bag c l n (upd H p o) := by
  obtain ⟨ns, pt, rest, h1, h2, h3, h4, h5, h6, h7⟩ := b
  exact ⟨ns, pt, rest, by rw [upd_ne (ne_of_none h1 h)]; exact h1, by rw [upd_ne (ne_of_none h2 h)]; exact h2, h3, h4, h5, h6, h7⟩
/-- a thing that is neither of the two is written -/
theorem Bag.put {c l p : Addr} {n : Nat} {H : Hp} {o : HO} (b : Bag c l n H) (h : p ≠ c) (h' : p ≠ l) : Bag c l n (upd H p o) := by
  obtain ⟨ns, pt, rest, h1, h2, h3, h4, h5, h6, h7⟩ := b
  exact ⟨ns, pt, rest, by rw [upd_ne h.symm]; exact h1, by rw [upd_ne h'.symm]; exact h2, h3, h4, h5, h6, h7⟩
theorem Bag.ne {c l p : Addr} {n : Nat} {H : Hp} (b : Bag c l n H) (h : H p = none) : p ≠ c := by
  obtain ⟨ns, pt, rest, h1, _⟩ := b
  exact fun e => by rw [e, h1] at h; cases h
theorem Bag.ne2 {c l p : Addr} {n : Nat} {H : Hp} (b : Bag c l n H) (h : H p = none) : p ≠ l := by
  obtain ⟨ns, pt, rest, _, h1, _⟩ := b
  exact fun e => by rw [e, h1] at h; cases h
theorem Bag.same {c l : Addr} {n : Nat} {H H' : Hp} (b : Bag c l n H) (h : Same H H') : Bag c l n H' := by
  obtain ⟨ns, pt, rest, h1, h2, r⟩ := b
  exact ⟨ns, pt, rest, h _ _ h1, h _ _ h2, r⟩
end Gs

set_option Elab.async false
set_option linter.all false
set_option maxRecDepth 100000
set_option maxHeartbeats 4000000
namespace Gs
open PySem PySem.Spec PyProof.Rows L2
/-! ### data of known size: depth at most k, bulk at most n -/
structure Fine (k n : Nat) (d : PyData) : Prop where
  sh : d.showable = true
  dp : d.depth ≤ k
  lf : d.leavesShort 1100 = true
  bk : d.bulk ≤ n
structure FineS (k n : Nat) (ds : List PyData) : Prop where
  sh : PyData.showableAll ds = true
  dp : PyData.depthAll ds ≤ k
  lf : PyData.leavesShortAll 1100 ds = true
  bk : PyData.bulkAll ds ≤ n
section
variable {k k' n n' m : Nat} {d e : PyData} {ds es : List PyData}
theorem Fine.mono (h : Fine k n d) (a : k ≤ k') (b : n ≤ n') : Fine k' n' d := ⟨h.sh, Nat.le_trans h.dp a, h.lf, Nat.le_trans h.bk b⟩
theorem FineS.mono (h : FineS k n ds) (a : k ≤ k') (b : n ≤ n') : FineS k' n' ds := ⟨h.sh, Nat.le_trans h.dp a, h.lf, Nat.le_trans h.bk b⟩
theorem int_len {i : Int} (h : i.natAbs < 2 ^ 1000) : (PyData.shown (.int i)).length ≤ 1100 ∧ i.natAbs.log2 < 1920 := by
  have e : i.natAbs.log2 < 1000 := by
    by_cases z : i.natAbs = 0
    · rw [z]; decide
    · exact (Nat.log2_lt z).mpr h
  refine ⟨?_, by omega⟩
  have := int_text_length_le (a := i) (k := 1000) (by decide) e
  show (Str.ofString (toString i)).length ≤ 1100
  rw [PySem.ofString_length]; omega
theorem Fine.int {i : Int} (h : i.natAbs < 2 ^ 1000) : Fine k n (.int i) := by
  obtain ⟨a, b⟩ := int_len h
  refine ⟨?_, Nat.zero_le _, ?_, Nat.zero_le _⟩
  · simp only [PyData.showable, decide_eq_true_eq]; exact b
  · simp only [PyData.leavesShort, decide_eq_true_eq]; exact a
theorem Fine.non : Fine k n .none := ⟨rfl, Nat.zero_le _, rfl, Nat.zero_le _⟩
theorem Fine.bl {b : Bool} : Fine k n (.bool b) := ⟨rfl, Nat.zero_le _, rfl, Nat.zero_le _⟩
theorem Fine.str {x : Str} (h : ∀ c ∈ x.cps.toList, c < 16 ^ 8) (hn : x.length ≤ n) : Fine k n (.str x) := by
  refine ⟨rfl, Nat.zero_le _, ?_, hn⟩
  simp only [PyData.leavesShort, List.all_eq_true, decide_eq_true_eq]; exact h
theorem FineS.nil : FineS k n [] := ⟨rfl, Nat.zero_le _, rfl, Nat.zero_le _⟩
theorem FineS.cons (h : Fine k n d) (r : FineS k m ds) : FineS k (n + 1 + m) (d :: ds) := by
  refine ⟨?_, ?_, ?_, ?_⟩
  · simp only [PyData.showableAll, h.sh, r.sh, Bool.and_self]
  · have a := h.dp; have b := r.dp
    simp only [PyData.depthAll]; omega
  · simp only [PyData.leavesShortAll, h.lf, r.lf, Bool.and_self]
  · have a := h.bk; have b := r.bk
    simp only [PyData.bulkAll]; omega
theorem Fine.list (r : FineS k n ds) : Fine (k + 1) n (.list ds) := by
  refine ⟨?_, ?_, ?_, ?_⟩
  · simp only [PyData.showable]; exact r.sh
  · have b := r.dp; simp only [PyData.depth]; omega
  · simp only [PyData.leavesShort]; exact r.lf
  · simp only [PyData.bulk]; exact r.bk
theorem Fine.tuple (r : FineS k n ds) : Fine (k + 1) n (.tuple ds) := by
  refine ⟨?_, ?_, ?_, ?_⟩
  · simp only [PyData.showable]; exact r.sh
  · have b := r.dp; simp only [PyData.depth]; omega
  · simp only [PyData.leavesShort]; exact r.lf
  · simp only [PyData.bulk]; exact r.bk
theorem Fine.to_tuple (h : Fine k n (.list ds)) : Fine k n (.tuple ds) := by
  obtain ⟨a, b, c, d⟩ := h
  simp only [PyData.showable, PyData.depth, PyData.leavesShort, PyData.bulk] at a b c d
  refine ⟨?_, ?_, ?_, ?_⟩
  · simp only [PyData.showable]; exact a
  · simp only [PyData.depth]; exact b
  · simp only [PyData.leavesShort]; exact c
  · simp only [PyData.bulk]; exact d
theorem Fine.dict1 {a b : PyData} (h : Fine k n a) (g : Fine k m b) : Fine (k + 1) (n + m + 2) (.dict [(a, b)]) := by
  refine ⟨?_, ?_, ?_, ?_⟩
  · simp only [PyData.showable, PyData.showableKv, h.sh, g.sh, Bool.and_self]
  · have x := h.dp; have y := g.dp
    simp only [PyData.depth, PyData.depthKv]; omega
  · simp only [PyData.leavesShort, PyData.leavesShortKv, h.lf, g.lf, Bool.and_self]
  · have x := h.bk; have y := g.bk
    simp only [PyData.bulk, PyData.bulkKv]; omega
theorem Fine.dict2 {a b a' b' : PyData} (h : Fine k n a) (g : Fine k n b) (h' : Fine k n a') (g' : Fine k n b') : Fine (k + 1) (4 * n + 4) (.dict [(a, b), (a', b')]) := by
  refine ⟨?_, ?_, ?_, ?_⟩
  · simp only [PyData.showable, PyData.showableKv, h.sh, g.sh, h'.sh, g'.sh, Bool.and_self]
  · have x := h.dp; have y := g.dp; have x' := h'.dp; have y' := g'.dp
    simp only [PyData.depth, PyData.depthKv]; omega
  · simp only [PyData.leavesShort, PyData.leavesShortKv, h.lf, g.lf, h'.lf, g'.lf, Bool.and_self]
  · have x := h.bk; have y := g.bk; have x' := h'.bk; have y' := g'.bk
    simp only [PyData.bulk, PyData.bulkKv]; omega
theorem Fine.fits (h : Fine k n d) (hn : n ≤ 15000) : d.shown.length ≤ sizeLine := by
  have a := PyData.shown_le_bulk 1100 (by decide) d h.lf
  have b := h.bk
  have c : sizeLine = 16777216 := by decide
  have e : (1100 + 2) * d.bulk ≤ (1100 + 2) * 15000 := Nat.mul_le_mul_left _ (by omega)
  omega
/-- what a list of bools shows -/
theorem fine_bools : ∀ bs : List Bool, FineS 0 bs.length (bs.map PyData.bool)
  | [] => .nil
  | b :: bs => by
    have := FineS.cons (k := 0) (n := 0) (Fine.bl (b := b)) (fine_bools bs)
    exact this.mono (Nat.le_refl _) (by rw [List.length_cons]; omega)
theorem fine_ints : ∀ zs : List Int, (∀ z ∈ zs, z.natAbs < 2 ^ 1000) → FineS 0 zs.length (zs.map PyData.int)
  | [], _ => .nil
  | z :: zs, h => by
    have := FineS.cons (k := 0) (n := 0) (Fine.int (h z List.mem_cons_self)) (fine_ints zs fun y hy => h y (List.mem_cons_of_mem _ hy))
    exact this.mono (Nat.le_refl _) (by rw [List.length_cons]; omega)
end
section
variable {K : PySem.W.Frag} {c : Addr} {H : Hp}
theorem dv_bools : ∀ bs : List Bool, DVs K c H (bs.map V.bl) (bs.map PyData.bool)
  | [] => .nil
  | b :: bs => .cons (.bl b) (dv_bools bs)
end
/-- a text that Lean wrote has signs below 16 ^ 8 -/
theorem ofs_signs (s : String) : ∀ c ∈ (Str.ofString s).cps.toList, c < 16 ^ 8 := by
  rw [PyProof.Rows.signs_ofString]
  intro c hc
  obtain ⟨ch, _, rfl⟩ := List.mem_map.mp hc
  exact ch.val.toNat_lt
theorem fa_nil {k n : Nat} : ∀ d ∈ ([] : List PyData), Fine k n d := fun _ h => nomatch h
theorem fa_cons {k n : Nat} {d : PyData} {ds : List PyData} (h : Fine k n d) (r : ∀ e ∈ ds, Fine k n e) : ∀ e ∈ d :: ds, Fine k n e := fun e m => by
  rcases List.mem_cons.mp m with rfl | m
  · exact h
  · exact r e m
/-- a list of two, of three -/
theorem fine1 {k n : Nat} {a : PyData} (h : Fine k n a) : FineS k (n + 1) [a] := (FineS.cons h FineS.nil (m := 0)).mono (Nat.le_refl _) (by omega)
theorem fine2 {k n : Nat} {a b : PyData} (h : Fine k n a) (g : Fine k n b) : FineS k (2 * n + 2) [a, b] := (FineS.cons h (fine1 g)).mono (Nat.le_refl _) (by omega)
theorem fine3 {k n : Nat} {a b e : PyData} (h : Fine k n a) (g : Fine k n b) (f : Fine k n e) : FineS k (3 * n + 3) [a, b, e] := (FineS.cons h (fine2 g f)).mono (Nat.le_refl _) (by omega)
theorem fine_tos {k : Nat} {i : Int} (h : i.natAbs < 2 ^ 1000) : Fine k 1100 (.str (toString i)) := by
  refine .str (ofs_signs _) ?_
  exact (int_len h).1
theorem fine_lit {k : Nat} {x : String} (h : (Str.ofString x).length ≤ 100) : Fine k 100 (.str (Str.ofString x)) := .str (ofs_signs _) h
/-- x = e where e has one value whatever way it goes, and changes nothing that is known -/
theorem asg_val {te : TE} {tg : TG} {D : Ends} {σ : L2.St} {H : Hp} (v : V) (h1 : ∀ Q : VK, (∀ H', Same H H' → Q v H') → te σ H Q) (h2 : ∀ H', Same H H' → tg v σ H' D.nx) : tAsg te tg D σ H := h1 _ h2
theorem seq_asg {te : TE} {tg : TG} {r : TS} {D : Ends} {σ : L2.St} {H : Hp} (v : V) (h1 : ∀ Q : VK, (∀ H', Same H H' → Q v H') → te σ H Q) (h2 : ∀ H', Same H H' → tg v σ H' (r D)) : tSeq (tAsg te tg) r D σ H := h1 _ h2
end Gs

set_option Elab.async false
set_option linter.all false
set_option maxRecDepth 100000
set_option maxHeartbeats 4000000
namespace Gs
open PySem PySem.Spec PyProof.Rows L2
section
variable {P : Program} {w : World} {K : PySem.W.Frag} {mg mb : Str → Option Value} {CX : CXT} {k : Nat} {fa a : Addr} {fd : FuncData} {x : Str} {sp : Sp}
  {s₁ : Shared} {vs : List Value} {ns : List Int}
/-- the law's call, from what its def promises where no guard stands -/
theorem law_callG (KX : K.In s₁.heap) (hns : s₁.heap.Ns mainGlobals mg) (hb : s₁.heap.Ns builtinsNs mb) (hbb : ∀ x : Str, x ≠ "__name__" → mb x = bootBuiltins x)
    (hlim : s₁.heap.NoLimit) (hg : s₁.gens = #[]) (ha : s₁.heap.get? a = some { cls := .type "list", data := .seq vs.toArray }) (hi : IntsAre vs ns) (hl : ns.length ≤ sizeLine)
    (hr : Room k callerA) (F : ∀ base : Heap, K.In base → base.Ns mainGlobals mg → FnG P w K mg base CX k fa fd [x] sp)
    (hbind : ∀ (s : Shared) (u : Value), BindsTo s fd ⟨[u], []⟩ [(x, u)])
    (hsp : ∀ H : Hp, SqL K H a (ns.map V.int) → sp [.ref a] H (fun v _ => v = .bl true) fun _ _ _ => False)
    (hCX : ∀ H e s', CX [] H s₁ (fun _ _ _ => False) e s' → False) :
    codeAny (model P w) callerA (.call (.ref fa) ⟨[.ref a], []⟩)
      (fun r s' => r = .ok (.ret (.bool true)) ∧ OldK s₁.heap s'.heap ∧ s'.os = s₁.os ∧ AllBare s'.gens) s₁ := by
  have rv := vals_ints hi
  have nV := hi.length
  -- H knows nothing, or just the script, which is frozen
  have go : ∀ H : Hp, (∀ b, H b = none ∨ (b = a ∧ K.lookup b = none ∧ ∃ o ys, H b = some (.frz o (.lst ys)))) → SqL K H a (ns.map V.int) → HOk P w H s₁.heap →
      codeAny (model P w) callerA (.call (.ref fa) ⟨[.ref a], []⟩)
        (fun r s' => r = .ok (.ret (.bool true)) ∧ OldK s₁.heap s'.heap ∧ s'.os = s₁.os ∧ AllBare s'.gens) s₁ := by
    intro H hO hS hok
    have unk : ∀ {b : Addr} {o : Obj}, s₁.heap.get? b = some o → o.data ≠ .seq vs.toArray → H b = none := by
      intro b o e nd
      rcases hO b with q | ⟨q, _, _⟩
      · exact q
      · rw [q, ha] at e; cases e; exact absurd rfl nd
    have nsH : ∀ {b : Addr} {m : Str → Option Value}, s₁.heap.Ns b m → (hidT s₁.heap H).Ns b m := by
      rintro b m ⟨o, es, ep, e, d, r⟩
      exact ⟨o, es, ep, hidT_get e (unk e (by rw [d]; exact fun z => nomatch z)), d, r⟩
    have kH : K.In (hidT s₁.heap H) := by
      intro b o e
      refine hidT_get (KX b o e) ?_
      rcases hO b with q | ⟨_, q, _⟩
      · exact q
      · rw [q] at e; cases e
    have md : Mod K mg (hidT s₁.heap H) := by
      refine ⟨kH, nsH hns, ⟨mb, nsH hb, hbb⟩, ?_⟩
      obtain ⟨mc, h1, h2⟩ := hlim
      exact ⟨mc, nsH h1, h2⟩
    have e0 : Env0 P w K mg (hidT s₁.heap H) callerA [] s₁ H := by
      refine ⟨rfl, md, fun b o e => of_hidT e, Nat.le_of_eq (hidT_size _ _), trivial, ?_, hok, .of_eq hg⟩
      intro b hb
      exact absurd (show b ∈ ([] : List Addr) from hb) (List.not_mem_nil)
    have run := (F _ kH (nsH hns)).run callerA [] s₁ H ⟨[.ref a], []⟩ [.ref a] [.ref a] _ _ hr rfl e0 (hbind s₁ (.ref a)) (.cons rfl .nil) (hsp H hS)
    refine codeAny_mono run (fun r s' h => ?_)
    match r, h with
    | .error e, h => exact (hCX H e s' h).elim
    | .ok .next, h => exact h.elim
    | .ok .brk, h => exact h.elim
    | .ok .cont, h => exact h.elim
    | .ok (.ret u), h =>
      obtain ⟨v, H', os, bare, un, hok', r', q⟩ := h
      cases (show v = .bl true from q)
      cases (show u = Value.bool true from r')
      refine ⟨rfl, OldK.of_keep (fun b o e => ?_), os, bare⟩
      rcases hO b with q | ⟨_, _, ob, ys, q⟩
      · exact un.keep b o e q (fun z => absurd (show b ∈ ([] : List Addr) from z) List.not_mem_nil) List.not_mem_nil
      · obtain ⟨e1, _⟩ := hok b _ q
        obtain ⟨e2, _⟩ := hok' b _ (un.frzs b ob _ q)
        rw [e] at e1; cases e1; exact e2
  by_cases hk : K.lookup a = none
  · have at_a : (fun b => if b = a then some (HO.frz { cls := .type "list", data := .seq vs.toArray } (.lst (ns.map V.int))) else none : Hp) a = some (.frz { cls := .type "list", data := .seq vs.toArray } (.lst (ns.map V.int))) := if_pos rfl
    refine go (fun b => if b = a then some (.frz { cls := .type "list", data := .seq vs.toArray } (.lst (ns.map V.int))) else none) (fun b => ?_) (.inl (.inr ⟨_, at_a⟩)) (fun b u z => ?_)
    · by_cases e : b = a
      · exact .inr ⟨e, by rw [e]; exact hk, _, _, if_pos e⟩
      · exact .inl (if_neg e)
    · dsimp only at z
      by_cases e : b = a
      · rw [if_pos e] at z; cases z; subst e
        exact ⟨ha, by rw [List.length_map]; exact hl, vs, _, rv, ha⟩
      · rw [if_neg e] at z; cases z
  · obtain ⟨o, ho⟩ := Option.ne_none_iff_exists'.mp hk
    have e := KX a o ho
    rw [ha] at e; cases e
    refine go (fun _ => none) (fun _ => .inl rfl) (.inr ⟨_, vs.toArray, _, ho, rfl, rfl, rfl, ?_, by simpa using rv⟩) (fun b u z => nomatch z)
    rw [List.size_toArray, nV]; exact hl
end
/-- what the head leaves, from the law's promise -/
theorem walkG {l : PySem.W.OpenLaw} {k : Nat} {q : Program} {loose : List Str} {XP : (Str → Option Value) → Heap → Prop} {YP : World → Heap → Prop} {d : DefRec}
    {K : Params → PySem.W.Frag} {sp : PySem.W.Frag → Sp} {x : Str} (hn : l.most = some 63) (hdf : d.params.defaults = []) (hr : Room k callerA)
    (hY : ∀ (w : World) (h : Heap), YP w h → (K w.params).In h)
    (F : ∀ (w : World) (mg : Str → Option Value) (fa : Addr) (h : Heap), (K w.params).In h → h.Ns mainGlobals mg → mg d.name = some (.ref fa) →
      ∃ fd : FuncData, (∀ (s : Shared) (u : Value), BindsTo s fd ⟨[u], []⟩ [(x, u)]) ∧
        ∀ base : Heap, (K w.params).In base → base.Ns mainGlobals mg → FnG l.prog w (K w.params) mg base CX0 k fa fd [x] (sp (K w.params)))
    (hsp : ∀ (K : PySem.W.Frag) (H : Hp) (a : Addr) (ns : List Int), ns.length ≤ 63 → SqL K H a (ns.map V.int) → sp K [.ref a] H (fun v _ => v = .bl true) fun _ _ _ => False) :
    PySem.W.WalkO q loose XP YP l.row.toRowW d [] (fun f vs => PySem.call f vs) := by
  refine Att.attach_call hn hdf (fun w s₀ s₁ mg mb fa o pm cd doc a vs ns G Y ho hd hcd hmg hobj hints hlen hg => ?_)
  have KX := hY w _ Y
  obtain ⟨fd, hb, hF⟩ := F w mg fa _ KX G.T.g hmg
  exact law_callG KX G.T.g G.T.b G.T.builtins G.T.nolimit hg hobj hints (Nat.le_trans hlen (by decide)) hr hF hb (fun H hS => hsp _ H a ns hlen hS) (fun _ _ _ h => h)
end Gs

set_option Elab.async false
set_option linter.all false
set_option maxRecDepth 100000
set_option maxHeartbeats 4000000
/-! Layer G3: {elt for x in ..} whose elt is a tuple of ints. -/
namespace Gs
open PySem PySem.Spec PyProof.Rows L2
section
variable {X : Cx} {pins : List (Addr × Obj)} {σ : L2.St} {H : Hp} {s : Shared}
abbrev Tps := List (Addr × List Int)
/-- D.add(x), x a tuple of ints -/
theorem addT_ok {E : Value → Shared → Prop} {D x : Addr} {L : Tps} {k : List Int} {Q : Value → Shared → Prop} (I : Inv X pins σ H s) (hD : H D = some (SetTO X.prog X.w D L))
    (hL : ∀ p ∈ L, SqT X.K H p.1 (p.2.map V.int)) (hx : SqT X.K H x (k.map V.int)) (hu : X.A.units + 1 < cLine) (room : L.length + 1 < 64)
    (h : ∀ (L' : Tps) s', (k ∈ L.map (·.2) → L' = L) → (k ∉ L.map (·.2) → L'.Perm ((x, k) :: L)) → Inv X pins σ (upd H D (SetTO X.prog X.w D L')) s' → Q .none s') :
    wpAny (model X.prog X.w) X.A (call (.builtin "set.add") [.ref D, .ref x]) Q E s := by
  have R0 : SetT0 X.prog X.w s.heap D L := (I.hok D _ hD).1
  obtain ⟨es, ep, t, R⟩ := R0.full fun p hp => I.isT (hL p hp)
  obtain ⟨o, ho, hex, hd⟩ := R.ob
  have ty : s.TypeIs (.ref D) "set" := ⟨o, ho, hex.1⟩
  refine wpAny_call_entry F.slot_set_add ty F.entry_set_add ?_ (F.args_set_add_2 _ _)
  unfold Builtin.«set.add» Builtin.Frozenset.oneOther
  simp only [List.isEmpty_nil, bind_assoc]
  unfold Builtin.Frozenset.addrOf setAdd
  refine wpAny_bind (wpAny_pure ?_)
  try dsimp only
  refine wpAny_bind (wpAny_pure ?_)
  try dsimp only
  refine wpAny_bind ?_
  refine wpAny_holding ?_
  refine wpAny_bind (wpAny_pyHash_tuple (by show X.A.units + 1 < cLine; exact hu) (I.isT hx) ?_)
  refine add_at (s := { s with toks := s.toks + (k.length + 1) }) R (I.isT hx) (by show X.A.units + 1 < cLine; exact hu) room fun b h' L' es' ep' t' sb R' c1 c2 => ?_
  show wpAny _ _ (ret Value.none) _ _ _
  have there : ∃ u, h'.get? D = some u := by
    obtain ⟨o', ho', _⟩ := R'.ob
    exact ⟨o', ho'⟩
  have J := I.write (e := D) (t' := s.toks + (k.length + 1)) (x := D) (o := SetTO X.prog X.w D L') (by rw [hD]; trivial) (.inl rfl) (fun c u hc hu => (sb.2 c hc).trans hu) there (setTO_new R'.t0)
  exact wpAny_pure ⟨_, rfl, h L' _ c1 c2 J⟩
end
end Gs

set_option Elab.async false
set_option linter.all false
set_option maxRecDepth 100000
set_option maxHeartbeats 4000000
/-! Layer G4: a set comprehension over any kind of set object that adds by a rule of its own; its instance for tuples of ints; len of such a set. -/
namespace Gs
open PySem PySem.Spec PyProof.Rows L2 PpSet
/-- a kind of set objects: what stands at D, the fresh one, what adding a value asks and gives -/
structure SetKd (P : Program) (w : World) (K : PySem.W.Frag) (α : Type) where
  ob : Addr → α → HO
  zero : α
  fresh : ∀ (H : Hp) (h : Heap), ObjOk P w H (h.push { cls := .type "set", dict := none, data := .set #[] 0 (.fresh 0 0 (!w.params.followText "set-order")) }) h.objs.size (ob h.objs.size zero)
  adds : Addr → V → Hp → (Hp → Prop) → Prop
  rule : ∀ (Y : Cx), Y.prog = P → Y.w = w → Y.K = K → Y.A.units + 2 < cLine → ∀ (pins : List (Addr × Obj)) (σ : L2.St) (H : Hp) (s : Shared) (E : Value → Shared → Prop) (D : Addr) (y : V) (u : Value) (F : Hp → Prop), Inv Y pins σ H s → RelV y u → adds D y H F →
    wpAny (model P w) Y.A (call (.builtin "set.add") [.ref D, u]) (fun _ s' => ∃ H', Inv Y pins σ H' s' ∧ F H') E s
def tSetC {P : Program} {w : World} {K : PySem.W.Frag} {α : Type} (Z : SetKd P w K α) (wi : TI) (g : TG) (tt : TT) (te : TE) (vs : List Nat) : TE := fun σ H Q => wi σ H fun J H1 => ∀ D, H1 D = none →
  ∃ W : Nat → Nat → Hp → Prop, (∃ m, W 0 m (upd H1 D (Z.ob D Z.zero))) ∧ ∀ i m H, W i m H → (J.stop i H ∧ Q (.ref D) H) ∨
    (J.go i H ∧ ∃ Nx : Hp → Prop, (∀ H', Nx H' → ∃ m', m' < m ∧ W (i + 1) m' H') ∧ ∀ x H', J.yld i H x H' → g x (wipe σ vs) H' fun σ2 H2 => wipe σ2 vs = wipe σ vs ∧ tt σ2 H2 fun b H3 => if b = true then te σ2 H3 fun y H4 => Z.adds D y H4 Nx else Nx H3)
section
variable {X : Cx}
theorem setc_run {α : Type} {pins : List (Addr × Obj)} {s : Shared} {σ : L2.St} {H : Hp} {Q : VK} {elt tg iter : Expr} {ifs : List Expr} {scope : Scope} {own : List (PySem.Str × Nat)} {pos pos' : Pos} {wi : TI} {g : TG} {tt : TT} {te : TE} {use : Option (Value → Sem Unit)}
    {Qf : Value → Shared → Prop} (Z : SetKd X.prog X.w X.K α) (hu : X.A.units + 2 < cLine) (calm : X.calm = true) (nod : X.N.Nodup) (I : Inv X pins σ H s) (pi : PI X tg iter wi) (bok : BlkOk X.N X.env.scope scope own)
    (pg : ∀ (s : Shared) (H : Hp) (C : Addr) (cl : List (PySem.Str × Addr)) (fp : List Addr), PG (X.blk s H scope (compEnvC scope cl C X.env) fp) tg g)
    (pt : ∀ (s : Shared) (H : Hp) (C : Addr) (cl : List (PySem.Str × Addr)) (fp : List Addr), PTs (X.blk s H scope (compEnvC scope cl C X.env) fp) ifs tt)
    (pe : ∀ (s : Shared) (H : Hp) (C : Addr) (cl : List (PySem.Str × Addr)) (fp : List Addr), PE (X.blk s H scope (compEnvC scope cl C X.env) fp) elt te)
    (plain : ∀ x, foldedSetIterable iter X.env x = pure x) (h : tSetC Z wi g tt te (own.map (·.2)) σ H Q)
    (back : ∀ D C s' m H', Inv X pins σ H' s' → Q (.ref D) H' → s'.heap.Ns C m → FpOk X pins H' C → compPost (model X.prog X.w) X.A X.xe use Qf (.ref D) C (.ok .next) s') :
    wpAny (model X.prog X.w) X.A (comprehension (.SetComp elt [⟨tg, iter, ifs, 0⟩] scope pos) scope X.env pos' (newSet (.type "set")) false (eval iter X.env) use) Qf X.xe s := by
  have cells : ∀ q ∈ scope.names, q.2 = .free → ∃ c, X.env.cells.lookup q.1 = some c := by
    intro q hq e
    cases bok.free q hq e with
    | inl k => exact I.ok.has _ (Or.inl k)
    | inr k => exact I.ok.has _ (Or.inr k)
  refine wpAny_comprehension_free (use := use) rfl plain (closure_ok cells) bok.kind (fun q hq e => (bok.uniq q hq).trans (congrArg some e)) (thn (pi.run pins s σ H _ I h) fun _ s1 hx => thn hx fun _ s2 got => ?_)
  obtain ⟨it, fp, tn, J, H2, rfl, I2, T, st2, f2, q⟩ := got
  refine newSet_ok (newEnv_comp ?_)
  obtain ⟨D, hD⟩ : ∃ D, D = s2.heap.objs.size := ⟨_, rfl⟩
  have free : H2 D = none := I2.hok.fresh (by rw [hD]; exact Nat.le_refl _)
  obtain ⟨W, ⟨m0, w0⟩, turn⟩ := q D free
  obtain ⟨s3, hs3⟩ : ∃ s3 : Shared, s3 = { s2 with heap := s2.heap.push { cls := .type "set", dict := none, data := .set #[] 0 (.fresh 0 0 (!X.w.params.followText "set-order")) } } := ⟨_, rfl⟩
  have hp3 : ∀ b o, s2.heap.get? b = some o → s3.heap.get? b = some o := fun b o e => by rw [hs3]; exact Heap.get?_push_of_some _ e
  have sz3 : s3.heap.objs.size = s2.heap.objs.size + 1 := by rw [hs3]; exact Heap.size_push _ _
  have I3 : Inv X pins σ (upd H2 D (Z.ob D Z.zero)) s3 := by
    rw [hs3]
    refine I2.laid (t' := s2.toks) (fun b o e => Heap.get?_push_of_some _ e) (by rw [hD]; exact Nat.le_refl _) ?_
    rw [hD]
    exact Z.fresh _ _
  have below : ∀ b ∈ fp, b < s2.heap.objs.size := by
    intro b hb
    obtain ⟨o, e, _⟩ := T.obj _ _ st2 b hb
    exact Heap.lt_size e
  have fps : ∀ b ∈ fp, FpOk X pins (upd H2 D (Z.ob D Z.zero)) b ∧ b < s3.heap.objs.size := by
    intro b hb
    have lt := below b hb
    refine ⟨⟨(upd_ne (by rw [hD]; exact Nat.ne_of_lt lt)).trans (f2 b hb).1, (f2 b hb).2⟩, by rw [sz3]; exact Nat.lt_succ_of_lt lt⟩
  have st3 : tn 0 s3.heap := T.keep _ _ _ st2 fun b _ o e => hp3 b o e
  have I4 := block_start I3 bok nod fps
  have pg := pg s3 (upd H2 D (Z.ob D Z.zero)) s3.heap.objs.size (cellsFrom (s3.heap.objs.size + 1) scope.names (cloFrom X.env.cells scope.names [])) fp
  have pt := pt s3 (upd H2 D (Z.ob D Z.zero)) s3.heap.objs.size (cellsFrom (s3.heap.objs.size + 1) scope.names (cloFrom X.env.cells scope.names [])) fp
  have pe := pe s3 (upd H2 D (Z.ob D Z.zero)) s3.heap.objs.size (cellsFrom (s3.heap.objs.size + 1) scope.names (cloFrom X.env.cells scope.names [])) fp
  have fresh : ∀ b ∈ fp, (upd H2 D (Z.ob D Z.zero)) b = none := fun b hb => (fps b hb).1.1
  rw [← hD, ← hs3]
  show codeAny _ _ (.compStart (.SetComp elt [⟨tg, iter, ifs, 0⟩] scope pos) 0 (.ref it) (.ref D) (compEnvC scope (cellsFrom (s3.heap.objs.size + 1) scope.names (cloFrom X.env.cells scope.names [])) s3.heap.objs.size X.env)) (compPost (model X.prog X.w) X.A X.xe use Qf (.ref D) s3.heap.objs.size) _
  revert I4 pg pt pe
  generalize hce : compEnvC scope (cellsFrom (s3.heap.objs.size + 1) scope.names (cloFrom X.env.cells scope.names [])) s3.heap.objs.size X.env = ce
  intro I4 pg pt pe
  have loc : ce.locals = s3.heap.objs.size := by rw [← hce]; rfl
  generalize upd H2 D (Z.ob D Z.zero) = H3 at I3 I4 pg pt pe w0 fresh fps
  obtain ⟨s4, hs4⟩ : ∃ s4 : Shared, s4 = { s3 with heap := pushCells (s3.heap.push { cls := .type "dict", data := .dict #[] }) scope.names } := ⟨_, rfl⟩
  rw [← hs4] at I4 ⊢
  have st4 : tn 0 s4.heap := T.keep _ _ _ st3 fun b _ o e => by rw [hs4]; exact pushCells_keeps _ _ _ _ (Heap.get?_push_of_some _ e)
  have hold : ∀ {σ' : L2.St} {H' : Hp} {s' : Shared}, Inv (X.blk s3 H3 scope ce fp) [] σ' H' s' → (∀ b ∈ fp, H' b = none) → ∀ b ∈ fp, FpOk (X.blk s3 H3 scope ce fp) [] H' b := by
    intro σ' H' s' I' hn b hb
    exact ⟨hn b hb, (I'.ok.exf b hb).1, I'.ok.exfs b hb, .inl hb, fun x c e => (I'.ok.exf b hb).2 x c e, fun p hp => absurd (show p ∈ ([] : List (Addr × Obj)) ++ [] from hp) (by simp)⟩
  have loop : codeAny (model X.prog X.w) X.A (.compLoop (.SetComp elt [⟨tg, iter, ifs, 0⟩] scope pos) 0 (.ref it) (.ref D) ce) (compPost (model X.prog X.w) X.A X.xe use Qf (.ref D) s3.heap.objs.size) s4 := by
    refine compLoopS_any (fun n s' => ∃ i H', Inv (X.blk s3 H3 scope ce fp) [] (wipe σ (own.map (·.2))) H' s' ∧ tn i s'.heap ∧ (∀ b ∈ fp, H' b = none) ∧ W i n H') ?_ m0 ⟨0, H3, I4, st4, fresh, w0⟩
    rintro n s5 ⟨i, H5, I5, st5, n5, w5⟩
    cases turn i n H5 w5 with
    | inl fin =>
      obtain ⟨stop, qq⟩ := fin
      refine thnF (T.done (X.blk s3 H3 scope ce fp) rfl rfl rfl calm i [] s5 _ H5 (fun _ _ => False) I5 (hold I5 n5) st5 stop) fun r s6 ⟨hr, I6⟩ => ?_
      subst hr
      have I7 : Inv X pins σ H5 s6 := I3.call' (ch := fp) I6.os I6.base I6.hok I6.bare fun b hb => ⟨(fps b hb).1.2.2.2.1, (fps b hb).1.2.1, (fps b hb).1.2.2.2.2.1, (fps b hb).1.2.2.2.2.2⟩
      have gone : H5 s3.heap.objs.size = none := by
        have z : H5 ce.locals = none := I6.free
        rwa [loc] at z
      obtain ⟨m, hn, _⟩ := I6.loc
      have hn : s6.heap.Ns ce.locals m := hn
      rw [loc] at hn
      exact back D s3.heap.objs.size s6 m H5 I7 qq hn (I3.fpOk (Nat.le_refl _) gone)
    | inr more =>
      obtain ⟨go, Nx, hNx, step⟩ := more
      refine thnF (T.item (X.blk s3 H3 scope ce fp) rfl rfl rfl calm i [] s5 _ H5 (fun _ _ => False) I5 (hold I5 n5) st5 go) fun r s6 ⟨u, hr, h6⟩ => ?_
      subst hr
      refine thnF h6 fun _ s7 ⟨x, H7, I7, r7, y7, st7, n7⟩ => ?_
      have I7p := I7.pinned (hold I7 n7) (T.obj _ _ st7)
      refine thnF (pg.run _ s7 _ H7 x u _ I7p r7 (step x H7 y7)) fun _ s8 ⟨σ8, H8, I8, hw8, q8⟩ => ?_
      refine thnF (pt.run _ s8 σ8 H8 _ I8 q8) fun b s9 ⟨H9, I9, q9⟩ => ?_
      have again : ∀ {s' : Shared} {H' : Hp}, Inv (X.blk s3 H3 scope ce fp) ([] ++ pinsAt fp s7.heap) σ8 H' s' → Nx H' →
          ∃ m, m < n ∧ ∃ i H', Inv (X.blk s3 H3 scope ce fp) [] (wipe σ (own.map (·.2))) H' s' ∧ tn i s'.heap ∧ (∀ b ∈ fp, H' b = none) ∧ W i m H' := by
        intro s' H' I' nx
        obtain ⟨m', hm, w'⟩ := hNx H' nx
        have pinned : ∀ b ∈ fp, ∀ o, s7.heap.get? b = some o → s'.heap.get? b = some o ∧ H' b = none := by
          intro b hb o e
          have z := I'.pin (b, o) (List.mem_append_right _ (List.mem_append_right _ (mem_pinsAt hb e)))
          exact ⟨z.1, z.2.1⟩
        refine ⟨m', hm, i + 1, H', (I'.unpinned (pins := [])).weak (by rw [← hw8, wipe_length]) (fun j v e => ?_), T.keep _ _ _ st7 (fun b hb o e => (pinned b hb o e).1), (fun b hb => ?_), w'⟩
        · rw [← hw8] at e
          exact (wipe_some e).1
        · obtain ⟨o, e, _⟩ := T.obj _ _ st7 b hb
          exact (pinned b hb o e).2
      cases b with
      | false =>
        rw [if_neg Bool.false_ne_true] at q9 ⊢
        exact again I9 q9
      | true =>
        rw [if_pos rfl] at q9 ⊢
        refine thnF (pe.run _ s9 σ8 H9 _ I9 q9) fun z s10 ⟨yv, H10, I10, r10, ad⟩ => ?_
        refine wpAny_mono (Z.rule (X.blk s3 H3 scope ce fp) rfl rfl rfl hu _ σ8 H10 s10 _ D yv z Nx I10 r10 ad) (fun _ s11 ⟨H11, I11, nx⟩ => again I11 nx) fun _ _ e => e
  exact codeAny_compStart_set loop (T.self X.A 0 _ _ _ st4 loop)
/-- {elt for tg in iter ..} -/
theorem pe_setc {α : Type} {elt tg iter : Expr} {ifs : List Expr} {scope : Scope} {own : List (PySem.Str × Nat)} {pos : Pos} {wi : TI} {g : TG} {tt : TT} {te : TE} (Z : SetKd X.prog X.w X.K α) (hu : X.A.units + 2 < cLine) (calm : X.calm = true) (nod : X.N.Nodup)
    (pi : PI X tg iter wi) (bok : BlkOk X.N X.env.scope scope own) (pg : ∀ (s : Shared) (H : Hp) (C : Addr) (cl : List (PySem.Str × Addr)) (fp : List Addr), PG (X.blk s H scope (compEnvC scope cl C X.env) fp) tg g)
    (pt : ∀ (s : Shared) (H : Hp) (C : Addr) (cl : List (PySem.Str × Addr)) (fp : List Addr), PTs (X.blk s H scope (compEnvC scope cl C X.env) fp) ifs tt)
    (pe : ∀ (s : Shared) (H : Hp) (C : Addr) (cl : List (PySem.Str × Addr)) (fp : List Addr), PE (X.blk s H scope (compEnvC scope cl C X.env) fp) elt te) (plain : ∀ x, foldedSetIterable iter X.env x = pure x := by intro _; rfl) :
    PE X (.SetComp elt [⟨tg, iter, ifs, 0⟩] scope pos) (tSetC Z wi g tt te (own.map (·.2))) := by
  constructor
  intro pins s σ H Q I h
  rw [eval_SetComp]
  refine setc_run Z hu calm nod I pi bok pg pt pe plain h fun D C s' m H' I' q hn f => ⟨m, hn, fun h2 sb => ?_⟩
  obtain ⟨f0, f1, f2, f3, f4, f5⟩ := f
  exact ⟨.ref D, H', I'.turned (t' := s'.toks) (fun b o hb e => (sb.2 b hb).trans e) f0 f1 f3 f4 f5, rfl, q⟩
end
end Gs
namespace Gs
open PySem PySem.Spec PyProof.Rows L2 PpSet
/-- sets of tuples of ints -/
def tupKd (P : Program) (w : World) (K : PySem.W.Frag) : SetKd P w K Tps where
  ob := fun D L => SetTO P w D L
  zero := []
  fresh := fun H h => setTO_new (setTR_fresh (Heap.get?_push_size _ rfl)).t0
  adds := fun D y H F => ∃ (x : Addr) (k : List Int) (L : Tps), y = .ref x ∧ H D = some (SetTO P w D L) ∧ (∀ p ∈ L, SqT K H p.1 (p.2.map V.int)) ∧ SqT K H x (k.map V.int) ∧ L.length + 1 < 64 ∧
    ∀ L' : Tps, (k ∈ L.map (·.2) → L' = L) → (k ∉ L.map (·.2) → L'.Perm ((x, k) :: L)) → F (upd H D (SetTO P w D L'))
  rule := by
    rintro Y rfl rfl rfl hu pins σ H s E D y u F I r ⟨x, k, L, rfl, hD, hL, hx, room, q⟩
    cases (show u = Value.ref x from r)
    exact addT_ok I hD hL hx (by omega) room fun L' s' c1 c2 J => ⟨_, J, q L' c1 c2⟩
def rLenT (K : PySem.W.Frag) (P : Program) (w : World) : List V → Hp → VK → Prop := fun xs H Q => ∃ (a : Addr) (L : Tps), xs = [.ref a] ∧ H a = some (SetTO P w a L) ∧ (∀ p ∈ L, SqT K H p.1 (p.2.map V.int)) ∧ Q (.int L.length) H
theorem call_lenT {X : Cx} : CallR X (.builtin "len") (rLenT X.K X.prog X.w) := by
  intro pins s σ H xs us Q I r h
  obtain ⟨a, L, rfl, ha, hL, q⟩ := h
  rw [Vals.ref1 r]
  have R0 : SetT0 X.prog X.w s.heap a L := (I.hok a _ ha).1
  obtain ⟨es, ep, t, R⟩ := R0.full fun p hp => I.isT (hL p hp)
  obtain ⟨o, ho, hex, hd⟩ := R.ob
  have hn := R.size
  have few := R.few
  exact call_len_set ho hex hd R.fits (by rw [hn]; omega) ⟨.int L.length, H, I.tok _, ⟨_, by rw [hn]⟩, q⟩
end Gs

set_option Elab.async false
set_option linter.all false
set_option maxRecDepth 100000
set_option maxHeartbeats 4000000
/-! Layer G5: a written dict with text keys, walked. -/
namespace Gs
open PySem PySem.Spec PyProof.Rows L2
/-- at d: a written dict that holds kvs, in this order -/
structure WD (K : PySem.W.Frag) (w : World) (d : Addr) (kvs : List (Str × V)) : Prop where
  ex : ∃ (es : Array DictEntry) (n : Nat), KDict K w d es n ∧ es.size = kvs.length ∧ ∀ (i : Nat) k v, kvs[i]? = some (k, v) → ∃ en t, es[i]? = some en ∧ en.key = .str k t ∧ RelV v en.val
def Itw (ks : List Str) : It := ⟨fun i _ => i < ks.length, fun i H x H' => H' = H ∧ ∃ k, ks[i]? = some k ∧ x = .str k, fun i _ => ks.length ≤ i⟩
section
variable {P : Program} {w : World} {K : PySem.W.Frag} {tg : Expr} {d : Addr} {es : Array DictEntry} {n : Nat} {ks : List Str}
theorem turn_wkeys (it : Addr) (D : KDict K w d es n) (hz : es.size = ks.length) (hk : ∀ (i : Nat) k, ks[i]? = some k → ∃ en t, es[i]? = some en ∧ en.key = .str k t) :
    Turn P w K tg (Itw ks) [it] it (fun i h => h.IsKeyIter it d i ks.length n) where
  mem := List.mem_cons_self
  obj := by
    intro i h st b hb
    obtain rfl : b = it := List.mem_singleton.mp hb
    obtain ⟨oi, e, c, dd⟩ := st
    exact ⟨oi, e, fun v z => by rw [dd] at z; cases z⟩
  keep := fun i h h' st k => st.at fun oi e => k it List.mem_cons_self oi e
  item := by
    rintro X rfl rfl rfl hc i pins s σ H E I hf st hi
    obtain ⟨f0, f1, f2, f3, f4, f5⟩ := hf it List.mem_cons_self
    have hi : i < ks.length := hi
    obtain ⟨en, t, hen, hkey⟩ := hk i _ (List.getElem?_eq_getElem hi)
    refine next_key_item st (I.kIn _ _ D.at_) rfl hz hen fun h' st' sb => ?_
    have I1 : Inv X pins σ H { s with heap := h' } := I.turned (t' := s.toks) (fun b ob hb e => (sb.2 b hb).trans e) f0 f1 f3 f4 f5
    obtain ⟨oi, e, c, dd⟩ := id st'
    exact ⟨en.key, rfl, go_of (s := { s with heap := h' }) e c dd (by decide) ⟨.str ks[i], H, I1, ⟨t, hkey⟩, ⟨rfl, _, List.getElem?_eq_getElem hi, rfl⟩, st', fun b hb => (hf b hb).1⟩⟩
  done := by
    rintro X rfl rfl rfl hc i pins s σ H E I hf st hi
    obtain ⟨f0, f1, f2, f3, f4, f5⟩ := hf it List.mem_cons_self
    exact next_key_end (I.ok.hd hc) st (I.kIn _ _ D.at_) rfl hz hi fun h' eb => ⟨rfl, I.turned (t' := s.toks) (fun b ob hb e => eb b ob hb e) f0 f1 f3 f4 f5⟩
  self := fun A i s Q E st h => wpAny_pyIter_keyiter st h
def iWKeys (K : PySem.W.Frag) (w : World) (td : TE) : TI := fun σ H R => td σ H fun x H1 => ∃ d kvs, x = .ref d ∧ WD K w d kvs ∧ R (Itw (kvs.map (·.1))) H1
/-- for k in D, D a written dict -/
theorem pi_wkeys {X : Cx} {e : Expr} {td : TE} (he : PE X e td) : PI X tg e (iWKeys X.K X.w td) := by
  constructor
  intro pins s σ H R I h
  refine thn (he.run pins s σ H _ I h) fun u s1 ⟨x, H1, I1, rx, d, kvs, ex, ⟨es, n, D, hz, hk⟩, q⟩ => ?_
  subst ex
  obtain rfl : u = Value.ref d := rx
  have hz : es.size = (kvs.map (·.1)).length := by rw [hz, List.length_map]
  have hk : ∀ (i : Nat) k, (kvs.map (·.1))[i]? = some k → ∃ en t, es[i]? = some en ∧ en.key = .str k t := by
    intro i k e
    rw [List.getElem?_map] at e
    cases z : kvs[i]? with
    | none => rw [z] at e; cases e
    | some q =>
      rw [z] at e
      obtain ⟨en, t, h1, h2, _⟩ := hk i q.1 q.2 z
      cases e
      exact ⟨en, t, h1, h2⟩
  refine iter_keys D.low (I1.kIn _ _ D.at_) ⟨rfl, rfl, rfl⟩ rfl (pi_one (tk := s1.toks) I1 _ (turn_wkeys _ D hz hk) ⟨_, Heap.get?_push_size _ rfl, rfl, ?_⟩ q)
  rw [hz] <;> rfl
theorem walk_wkeys {ks : List Str} : Walk (Itw ks) ks.length (fun _ => True) (fun i H x H' => H' = H ∧ ∃ k, ks[i]? = some k ∧ x = .str k) :=
  ⟨fun i H hi _ => hi, fun H _ => Nat.le_refl _, fun i H x H' _ _ y => y⟩
theorem isStr_str {k z : Str} {t : Tok} : (Value.str k t).isStr z = decide (k = z) := by
  show (k == z) = _
  by_cases h : k = z
  · subst h; simp
  · rw [decide_eq_false h]; simpa using h
/-- what it tells of a key -/
theorem WD.tells {kvs : List (Str × V)} (D : WD K w d kvs) (z : Str) : (∃ (i : Nat) (v : V) (u : Value), kvs[i]? = some (z, v) ∧ PySem.W.nsIn K d z = some (some u) ∧ RelV v u) ∨ ((∀ v, (z, v) ∉ kvs) ∧ PySem.W.nsIn K d z = some none) := by
  obtain ⟨es, n, ⟨at_, lit, low⟩, hz, hk⟩ := D.ex
  have e0 : PySem.W.nsIn K d z = (match es.toList.find? (·.key.isStr z) with
      | some e => some (some e.val)
      | none => if es.toList.any (·.refKey) then none else some none) := by
    unfold PySem.W.nsIn
    rw [at_] <;> rfl
  cases hf : es.toList.find? (·.key.isStr z) with
  | some e =>
    left
    have hm := List.mem_of_find?_eq_some hf
    have hq := List.find?_some hf
    obtain ⟨i, hi⟩ := List.getElem?_of_mem hm
    rw [Array.getElem?_toList] at hi
    have hl : i < kvs.length := by
      have : i < es.size := (Array.getElem?_eq_some_iff.mp hi).1
      omega
    obtain ⟨en, t, h1, h2, h3⟩ := hk i kvs[i].1 kvs[i].2 (List.getElem?_eq_getElem hl)
    rw [hi] at h1
    cases h1
    have hq : e.key.isStr z = true := hq
    rw [h2, isStr_str] at hq
    have ez : kvs[i].1 = z := of_decide_eq_true hq
    refine ⟨i, kvs[i].2, e.val, by rw [List.getElem?_eq_getElem hl, ← ez], ?_, h3⟩
    rw [e0, hf]
  | none =>
    right
    refine ⟨fun v hm => ?_, ?_⟩
    · obtain ⟨i, hi⟩ := List.getElem?_of_mem hm
      obtain ⟨en, t, h1, h2, h3⟩ := hk i z v hi
      have := List.find?_eq_none.mp hf en (by
        rw [← Array.getElem?_toList] at h1
        exact List.mem_of_getElem? h1)
      rw [h2, isStr_str] at this
      exact this (decide_eq_true rfl)
    · rw [e0, hf]
      have : es.toList.any (·.refKey) = false := by
        rw [List.any_eq_false]
        intro e he
        obtain ⟨x, t, h1, _⟩ := lit.all e he
        unfold DictEntry.refKey
        rw [h1]
        exact Bool.false_ne_true
      rw [this] <;> rfl
end
end Gs
namespace Gs
open PySem PySem.Spec PyProof.Rows L2
theorem pg_or {X : Cx} {e : Expr} {t u : TG} (h1 : PG X e t) (h2 : PG X e u) : PG X e (fun v σ H Q => t v σ H Q ∨ u v σ H Q) :=
  ⟨fun pins s σ H v w Q I r h => h.elim (fun h => h1.run pins s σ H v w Q I r h) fun h => h2.run pins s σ H v w Q I r h⟩
end Gs

set_option Elab.async false
set_option linter.all false
set_option maxRecDepth 100000
set_option maxHeartbeats 4000000
/-! Layer G12: == and != by an own __eq__ whatever it answers; str by an own __str__; a staticmethod off its class. -/
namespace Gs
open PySem PySem.Spec PyProof.Rows L2
theorem rel_ref (a : Addr) : L2.RelV (.ref a) (.ref a) := rfl
theorem rel_bl (b : Bool) : L2.RelV (.bl b) (.bool b) := rfl
theorem rel_str (z : Str) (t : Tok) : L2.RelV (.str z) (.str z t) := ⟨t, rfl⟩
theorem rel_ni {v : V} : ¬ L2.RelV v Value.notImplemented := by
  cases v <;> intro h
  · cases h
  · cases h
  · obtain ⟨_, h⟩ := h; cases h
  · obtain ⟨_, h⟩ := h; cases h
  · obtain ⟨_, h⟩ := h; cases h
  · obtain ⟨_, h⟩ := h; cases h
  · cases h
  · cases h
section
variable {X : Cx} {CX : CXT} {k : Nat} {C f : Addr} {fd : FuncData} {ps : List Str} {sp : Sp} {E : XK}
/-- a def that is called below the running body, its promise told there -/
theorem run_sub {A : Around} {pins : List (Addr × Obj)} {σ : L2.St} {H : Hp} {s : Shared} {Q : VK} {us : List Value} {vs : List V} (F : FnOk X.prog X.w X.K X.mg X.base CX k f fd ps sp)
    (hr : Room k A) (hA : A.frames = X.A.frames) (hb : Binds X.K fd ps []) (hx : Passes CX X E) (I : Inv X pins σ H s) (r : Vals vs us) (h : sp vs H Q E) :
    wpAny (model X.prog X.w) A (call (.ref f) us) (EP X pins σ Q) X.xe s := by
  have n : us.length = ps.length := r.length.symm.trans (F.len _ _ _ _ h)
  have b := hb s us I.kIn (by rw [List.append_nil]; exact n)
  rw [List.append_nil] at b
  have z := I.env0
  have z' : Env0 X.prog X.w X.K X.mg X.base A X.stack s H := ⟨by rw [hA]; exact z.frames, z.mod, z.bs, z.bsz, z.funs, z.frf, z.hok, z.bare⟩
  refine wpAny_call (codeAny_mono (F.run A X.stack s H ⟨us, []⟩ us vs Q E hr z' b r h) (fun q s' hq => ?_))
  match q, hq with
  | .error e, hq => exact hx pins σ H s e s' I hq
  | .ok (.ret u), hq => exact I.after hq
  | .ok .next, hq => exact hq.elim
  | .ok .brk, hq => exact hq.elim
  | .ok .cont, hq => exact hq.elim
/-- what an own class needs that == goes by its own def -/
structure OwnC (K : PySem.W.Frag) (C e : Addr) : Prop where
  eq : PySem.W.findIn K (.ref C) "__eq__" = some (some (.ref e))
  fe : PySem.W.isFn K (.ref e) = true
  ne : PySem.W.findIn K (.ref C) "__ne__" = some (some (.builtin "object.__ne__"))
  mo : PySem.W.mroIn K C (.type "object") = some true
/-- what an own class needs that str goes by its own def -/
structure OwnS (K : PySem.W.Frag) (C g : Addr) : Prop where
  st : PySem.W.findIn K (.ref C) "__str__" = some (some (.ref g))
  fs : PySem.W.isFn K (.ref g) = true
/-- what an own class needs that its instances are looked at by isinstance -/
structure TyC (K : PySem.W.Frag) (C : Addr) : Prop where
  cl : Cls K C
  ha : PySem.W.findIn K (.ref C) "__class__" = some (some (.builtin "object.__class__"))
  hn : PySem.W.specialIn K (.builtin "object.__class__") "__get__" = some (some (.builtin "getset_descriptor.__get__"))
  tk : PySem.W.takesIn K (.builtin "object.__class__") = some true
  mo : PySem.W.mroIn K C (.type "object") = some true
theorem TyC.ty {K : PySem.W.Frag} {C a dx : Addr} {fs : List (Str × V)} {H : Hp} (h : TyC K C) (e : H a = some (.ins C dx fs)) : TyX K H (.ref a) (.ref C) := .base (.ins e h.cl h.ha h.hn h.tk h.mo)
theorem nf_own {K : PySem.W.Frag} {C : Addr} : PySem.W.notFirst K C (.ref C) = true := by simp [PySem.W.notFirst]
def rOwn (K : PySem.W.Frag) (C : Addr) (sp : Sp) (E : XK) : R2 := fun x y H Q => ∃ (a dx : Addr) (fs : List (Str × V)) (t : Value), x = .ref a ∧ H a = some (.ins C dx fs) ∧ TyX K H y t ∧
  PySem.W.notFirst K C t = true ∧ sp [.ref a, y] H Q E
theorem op_eqOwn (O : OwnC X.K C f) (F : FnOk X.prog X.w X.K X.mg X.base CX k f fd ps sp) (hr : Room k X.A) (hb : Binds X.K fd ps []) (hx : Passes CX X E) : OpR X (compareOp .Eq) (rOwn X.K C sp E) := by
  intro pins s σ H x y v u Q I rx ry h
  obtain ⟨a, dx, fs, t, rfl, ha, ty, nf, q⟩ := h
  cases (show v = Value.ref a from rx)
  obtain ⟨_, J0, _⟩ := ins_get I.hok ha
  obtain ⟨_, J, _⟩ := J0.look
  obtain ⟨_, hF⟩ := I.fr
  obtain ⟨_, kx, hp, _⟩ := kit_of I ry ty
  refine PySem.W.cmp_K (op := .Eq) (tb := t) hr.units0 hF I.ok.mod.kin J (kx.ty _ _ I.kIn hp) nf O.eq O.fe ?_
  refine wpAny_mono (run_sub F hr rfl hb hx I (.cons (rel_ref a) (.cons ry .nil)) q) (fun z s' hz => ?_) fun _ _ e => e
  obtain ⟨v', H', I', rv, qq⟩ := hz
  cases z with
  | notImplemented => exact (rel_ni rv).elim
  | _ => exact ⟨v', H', I', rv, qq⟩
/-! the slot object.__ne__, off an own class -/
section
variable {prog : Program} {w : World} {M : Model} {A : Around} {EE : Value → Shared → Prop} {s : Shared} {K : PySem.W.Frag} {x e : Addr} {b tb : Value} {ox : Obj} {od : Option Obj}
theorem ne_entry (hu : A.units < cLine) (X : K.In s.heap) (I : PySem.W.InstAt s.heap x ox C od) (O : OwnC K C e) {Q : Fin → Shared → Prop}
    (h : wpAny (model prog w) A (call (.ref e) [.ref x, b]) (fun v s' => ∃ r, v = .bool r ∧ Q (.done (.ret (.bool (!r)))) s') EE s) :
    wpAny (model prog w) A (Builtin.«object.__ne__» ⟨[.ref x, b], []⟩) Q EE s := by
  have step : wpAny (model prog w) A (callSpecialIfBound? (.ref x) (Str.ofString "__eq__") [b]) (fun r s' => ∃ t, r = some (.bool t) ∧ Q (.done (.ret (.bool (!t)))) s') EE s :=
    PySem.W.ifBound_K X I O.eq O.fe (wpAny_mono h (fun v s' ⟨r, ev, q⟩ => ⟨r, by rw [ev], q⟩) fun _ _ z => z)
  unfold Builtin.«object.__ne__»
  repeat (first
    | with_reducible refine wpAny_cRoomFor hu ?_
    | (refine wpAny_bind (m := callSpecialIfBound? (.ref x) (Str.ofString "__eq__") [b]) (wpAny_mono step (fun r s' hr => by
        obtain ⟨t, rfl, q⟩ := hr
        repeat (first | exact q | exact wpAny_pure q | exact wpAny_truthy_bool q | (refine wpAny_bind (m := truthy (.bool _)) (wpAny_truthy_bool ?_)) | wp_step)) fun _ _ z => z))
    | wp_step)
theorem ne_bound {args : List Value} {Q : Option Value → Shared → Prop} (X : K.In s.heap) (I : PySem.W.InstAt s.heap x ox C od) (O : OwnC K C e)
    (h : wpAny M A (call (.builtin "object.__ne__") (.ref x :: args)) (fun v => Q (some v)) EE s) : wpAny M A (callSpecialIfBound? (.ref x) "__ne__" args) Q EE s := by
  have rest : wpAny M A (call (.builtin "object.__ne__") ([.ref x] ++ args) >>= fun v => pure (some v)) Q EE s := wpAny_bind (wpAny_mono h (fun _ _ z => wpAny_pure z) fun _ _ z => z)
  simp only [callSpecialIfBound?, bindSpecialIfBound?]
  refine wpAny_holding (wpAny_bind (wpAny_bind (wpAny_bind (I.type.here ((PySem.W.looks_findIn X O.ne).here ?_)))))
  refine wpAny_bind (wpAny_askSetting (wpAny_ite ?_))
  split
  · exact wpAny_bind (wpAny_of_eq (F.cmp_object.ne.bind _) (wpAny_pure (by exact rest)))
  · exact wpAny_tryCatch (wpAny_bind (wpAny_of_eq (F.cmp_object.ne.bind _) (wpAny_pure (by exact rest))))
theorem ne_rich {L : Addr} {h₀ : Heap} {m : Str → Option Value} (hu : A.units + 1 < cLine) (X : K.In s.heap) (I : PySem.W.InstAt s.heap x ox C od) (O : OwnC K C e)
    (hb : PySem.W.Looks (model prog w) s.heap (typeOf b) tb) (hn : PySem.W.notFirst K C tb = true) {Q : Value → Shared → Prop}
    (h : wpAny (model prog w) A.in1 (call (.ref e) [.ref x, b]) (fun v s' => ∃ r, v = .bool r ∧ Q (.bool (!r)) s') EE s) :
    wpAny (model prog w) A (richCompare .NotEq (.ref x) b) Q EE s := by
  have one : wpAny (model prog w) A (tryCompare (.ref x) "__ne__" b) (fun r s' => ∃ v, r = some v ∧ Q v s') EE s := by
    unfold tryCompare
    refine wpAny_bind (ne_bound X I O ?_)
    refine wpAny_call (codeAny_call_builtin F.cmp_object.ne.plain F.cmpEntry_ne (PySem.W.check_slot F.cmpKind_ne F.cmpSplit_ne (I.type.andThen (PySem.W.looks_mroIn X O.mo)) (F.cmpArgs_ne _ _) ?_))
    refine ne_entry (A := A.in1) hu X I O (wpAny_mono h (fun v s' hv => ?_) fun _ _ z => z)
    obtain ⟨r, rfl, q⟩ := hv
    exact ⟨r, rfl, wpAny_pure ⟨_, rfl, q⟩⟩
  unfold richCompare
  simp only [oneThing_ref]
  refine wpAny_holding (wpAny_bind (wpAny_cRoomFor (Nat.lt_of_succ_lt hu) ?_))
  refine wpAny_bind (I.type.here (wpAny_bind (hb.here ?_)))
  split
  · rename_i q
    have no : PySem.W.subIn K tb (.ref C) = some false := (Bool.or_eq_true_iff.mp hn).elim (fun z => absurd q (by rw [beq_iff_eq.mp z]; simp)) beq_iff_eq.mp
    refine wpAny_bind ((PySem.W.looks_subIn X no).here ?_)
    rw [if_neg Bool.false_ne_true]
    exact wpAny_bind (wpAny_mono one (fun r s' ⟨v, er, hv⟩ => by subst er; exact wpAny_pure hv) fun _ _ z => z)
  · refine wpAny_bind (wpAny_pure ?_)
    rw [if_neg Bool.false_ne_true]
    exact wpAny_bind (wpAny_mono one (fun r s' ⟨v, er, hv⟩ => by subst er; exact wpAny_pure hv) fun _ _ z => z)
end
theorem op_neOwn (O : OwnC X.K C f) (F : FnOk X.prog X.w X.K X.mg X.base CX k f fd ps sp) (hr : Room (k + 1) X.A) (hb : Binds X.K fd ps []) (hx : Passes CX X E) :
    OpR X (compareOp .NotEq) fun x y H Q => rOwn X.K C sp E x y H fun v H' => ∃ b, v = .bl b ∧ Q (.bl (!b)) H' := by
  intro pins s σ H x y v u Q I rx ry h
  obtain ⟨a, dx, fs, t, rfl, ha, ty, nf, q⟩ := h
  cases (show v = Value.ref a from rx)
  obtain ⟨_, J0, _⟩ := ins_get I.hok ha
  obtain ⟨_, J, _⟩ := J0.look
  obtain ⟨_, kx, hp, _⟩ := kit_of I ry ty
  refine ne_rich (h₀ := X.base) (L := 0) (m := X.mg) (by have := hr.units; omega) I.kIn J O (kx.ty _ _ I.kIn hp) nf ?_
  refine wpAny_mono (run_sub (A := X.A.in1) F hr.in1 rfl hb hx I (.cons (rel_ref a) (.cons ry .nil)) q) (fun z s' hz => ?_) fun _ _ e => e
  obtain ⟨v', H', I', rv, b, rfl, qq⟩ := hz
  exact ⟨b, rv, .bl (!b), H', I', rel_bl _, qq⟩
/-- str(o) -/
def rStrO (C : Addr) (sp : Sp) (E : XK) : List V → Hp → VK → Prop := fun xs H Q => ∃ (a dx : Addr) (fs : List (Str × V)), xs = [.ref a] ∧ H a = some (.ins C dx fs) ∧ sp [.ref a] H (fun v H' => ∃ z, v = .str z ∧ Q v H') E
theorem call_strO (O : OwnS X.K C f) (F : FnOk X.prog X.w X.K X.mg X.base CX k f fd ps sp) (hr : Room (k + 2) X.A) (hb : Binds X.K fd ps []) (hx : Passes CX X E) : CallR X (.type "str") (rStrO C sp E) := by
  intro pins s σ H xs us Q I r h
  obtain ⟨a, dx, fs, rfl, ha, q⟩ := h
  obtain ⟨u, rfl, ru⟩ := r.one
  cases (show u = Value.ref a from ru)
  obtain ⟨_, J0, _⟩ := ins_get I.hok ha
  obtain ⟨_, J, _⟩ := J0.look
  refine PySem.W.kso_call hr.in1.in1.units0 I.kIn J O.st O.fs ?_
  refine wpAny_mono (run_sub (A := X.A.in1.in1) F hr.in1.in1 rfl hb hx I (.cons (rel_ref a) .nil) q) (fun z s' hz => ?_) fun _ _ e => e
  obtain ⟨v', H', I', rv, y, rfl, qq⟩ := hz
  obtain ⟨t, rfl⟩ := rv
  exact ⟨.str y, H', I', rel_str y t, qq⟩
/-- what a class needs that C.m is a staticmethod around the def at g -/
structure StaC (K : PySem.W.Frag) (C : Addr) (m : Str) (g : Addr) : Prop where
  ex : ∃ (mc : Value) (p : Addr) (rest : List Value), PySem.W.readsIn K C mc = true ∧ PySem.W.specialIn K (.ref C) "__getattribute__" = some (some (.builtin "type.__getattribute__")) ∧ PySem.W.typeIn K (.ref C) = some mc ∧
    PySem.W.findCls K (.ref C) mc m = some (.get (.builtin "staticmethod.__get__") (.ref p) .none (.ref C)) ∧ PySem.W.recIn K p "staticmethod" = some (.ref g :: rest)
  kp : PySem.W.keepIn K (.ref g) = true
section
variable {pins : List (Addr × Obj)} {σ : L2.St} {H : Hp} {s : Shared} {g : Addr} {m x : Str} {p pos apos : Pos} {e : Expr} {es : List Expr} {kws : List Keyword} {t tk : TA} {pl : Sem Bool} {ks : List Str}
  {gg : List Value → List Value → List Value} {gV : List V → List V → List V}
theorem get_sta {A : Around} {EE : Value → Shared → Prop} {Q : Value × List Value → Shared → Prop} (I : Inv X pins σ H s) (Z : StaC X.K C m g) (h : ∀ s', Inv X pins σ H s' → Q (.ref g, []) s') :
    wpAny (model X.prog X.w) A (getMethod (.ref C) m pl) Q EE s := by
  obtain ⟨mc, p, rest, r1, r2, r3, r4, r5⟩ := Z.ex
  obtain ⟨_, hF⟩ := I.fr
  exact PySem.W.method_of_cls hF I.ok.mod.kin r2 (PySem.W.cls_sm hF I.ok.mod.kin r3 r1 r4 r5 rfl (h _ (I.tok _)))
/-- C.m(e, ..) -/
theorem pe_sta (Z : StaC X.K C m f) (F : FnOk X.prog X.w X.K X.mg X.base CX k f fd ps sp) (hr : Room k X.A) (hg : Gl X x) (hm : X.mg x = some (.ref C)) (hb : Binds X.K fd ps []) (hx : Passes CX X E) (ha : PA X (e :: es) t)
    (hdb : (x == ("__debug__" : Str)) = false := by decide) (he : starEach (e :: es) X.env = (false, eval e X.env) :: starEach es X.env := by rfl)
    (hpl : ((backTo pos (starEach (e :: es) X.env)).any (·.1) || (backToKw pos (keywordEach [] X.env)).any (·.1.isNone)) = false := by rfl)
    (hpl2 : (backTo pos (starEach es X.env)).any (·.1) = false := by rfl)
    (ht : eval (.Call (.Attribute (.Name x p) m apos) (e :: es) [] pos) X.env = (do
      let ov ← eval (.Name x p) X.env
      standAt apos.atName
      let (f, first) ← holding [ov] (getMethod ov m pl)
      callWith pos f first (backTo pos (starEach (e :: es) X.env)) (backToKw pos (keywordEach [] X.env))) := by rfl) :
    PE X (.Call (.Attribute (.Name x p) m apos) (e :: es) [] pos) (tCall sp [] E t) := by
  refine ⟨fun pins s σ H Q I h => ?_⟩
  refine PySem.W.methodCall_KW (pl := pl) (ld_glob I hg hm ?_ hdb) ht
  refine get_sta I Z fun s0 I0 => ?_
  refine PySem.W.callWith_K (h₀ := X.base) I.ok.mod.kin Z.kp (thn (ha.run pos pins s0 σ H _ I0 h) fun us s1 ⟨vs, H1, I1, r, q⟩ => ⟨I1.kIn, ?_⟩) he hpl2
  exact run_fn F hr hb .nil hx I1 r q
/-- C.m(k = v, ..) -/
theorem pe_staK (Z : StaC X.K C m f) (F : FnOk X.prog X.w X.K X.mg X.base CX k f fd ps sp) (hr : Room k X.A) (hg : Gl X x) (hm : X.mg x = some (.ref C)) (hb : KBn X.K fd ps 0 ks gg gV) (hx : Passes CX X E) (hkw : PK X kws tk)
    (hall : (backToKw pos (keywordEach kws X.env)).all (·.1.isSome) = true := by rfl) (hks : (backToKw pos (keywordEach kws X.env)).filterMap (·.1) = ks := by rfl) (hdb : (x == ("__debug__" : Str)) = false := by decide)
    (hpl : ((backTo pos (starEach [] X.env)).any (·.1) || (backToKw pos (keywordEach kws X.env)).any (·.1.isNone)) = false := by rfl)
    (ht : eval (.Call (.Attribute (.Name x p) m apos) [] kws pos) X.env = (do
      let ov ← eval (.Name x p) X.env
      standAt apos.atName
      let (f, first) ← holding [ov] (getMethod ov m pl)
      callWith pos f first (backTo pos (starEach [] X.env)) (backToKw pos (keywordEach kws X.env))) := by rfl) :
    PE X (.Call (.Attribute (.Name x p) m apos) [] kws pos) (tCallN 0 ks.length sp gV E tNil tk) := by
  refine ⟨fun pins s σ H Q I h => ?_⟩
  refine PySem.W.methodCall_KW (pl := pl) (ld_glob I hg hm ?_ hdb) ht
  refine get_sta I Z fun s0 I0 => ?_
  refine PySem.W.callWith_KW0 (h₀ := X.base) I.ok.mod.kin Z.kp hall ?_ hpl
  refine thn (hkw.run pos pins s0 σ H _ I0 h) fun ws s2 ⟨zs, H2, I2, rz, l1, l2, q2⟩ => ⟨I2.kIn, ?_⟩
  rw [hks]
  exact run_fnN (us := []) (vs := []) F hr hb hx I2 .nil rz rfl l2 q2
end
end
end Gs

set_option Elab.async false
set_option linter.all false
set_option maxRecDepth 100000
set_option maxHeartbeats 4000000
/-! Layer G13: several except clauses, some with a name; a written dict with one tuple as its key. -/
namespace Gs
open PySem PySem.Spec PyProof.Rows L2
/-- a way of catching: from what is wished behind, what is wished of an exception -/
abbrev Catch := Ends → WX → WX
/-- what one clause wishes: nm: the slot of its name, if it has one -/
def oneC (n : Nat) (K : PySem.W.Frag) (c : Value) (nm : Option Nat) (ts : Addr → Value → Option Addr → TS) (rest : Catch) : Catch := fun D W cls d σ H => ∃ b, PySem.W.exmOne K cls c = some b ∧
  (b = true → σ.length = n → ∀ a, H a = none → match nm with
    | none => ts a cls d D σ H
    | some i => ts a cls d { nx := fun σ' H' => D.nx (σ'.set i none) H', rt := D.rt, bk := fun σ' H' => D.bk (σ'.set i none) H', ct := fun σ' H' => D.ct (σ'.set i none) H' } (σ.set i (some (.ref a))) H) ∧
  (b = false → rest D W cls d σ H)
/-- the clauses and what they wish -/
inductive Cls5 (X : Cx) : List ExceptHandler → Catch → Prop
  | done : Cls5 X [] (fun _ W => W)
  | bare {x : Str} {c : Value} {ts : Addr → Value → Option Addr → TS} {b₀ : Stmt} {su : List Stmt} {q q' : Pos} {more : List ExceptHandler} {rest : Catch} (nc : Names X x c)
      (body : ∀ (a : Addr) (ob : Obj) (cls : Value) (d : Option Addr) (pn : List (Addr × Obj)), Zc cls d ob → (∃ vs, ob.data = .fields vs) → PSs (X.suite a ((a, ob) :: pn)) (b₀ :: su) (ts a cls d)) (r : Cls5 X more rest) :
      Cls5 X (.ExceptHandler (some (.Name x q)) none (b₀ :: su) q' :: more) (oneC X.N.length X.K c none ts rest)
  | as {x n : Str} {i : Nat} {c : Value} {ts : Addr → Value → Option Addr → TS} {b₀ : Stmt} {su : List Stmt} {q q' : Pos} {more : List ExceptHandler} {rest : Catch} (nc : Names X x c) (hN : X.N.Nodup) (hi : X.N[i]? = some n) (ln : X.env.kindOf n = some .local)
      (body : ∀ (a : Addr) (ob : Obj) (cls : Value) (d : Option Addr) (pn : List (Addr × Obj)), Zc cls d ob → (∃ vs, ob.data = .fields vs) → PSs (X.suite a ((a, ob) :: pn)) (b₀ :: su) (ts a cls d)) (r : Cls5 X more rest) :
      Cls5 X (.ExceptHandler (some (.Name x q)) (some n) (b₀ :: su) q' :: more) (oneC X.N.length X.K c (some i) ts rest)
section
variable {X : Cx} {pins : List (Addr × Obj)} {σ : L2.St} {H : Hp} {D : Ends}
/-- the end of a suite: back in the def's own context -/
theorem suite_back {a : Addr} {q : Addr × Obj} {f : Flow} {s : Shared} (ok : X.Ok) (h : SP (X.suite a (q :: (X.pn ++ pins))) [] D f s) : SP X pins D f s := by
  cases f with
  | next => obtain ⟨σ', H', S, z⟩ := h; exact ⟨σ', H', S.unsuite ok, z⟩
  | brk => obtain ⟨σ', H', S, z⟩ := h; exact ⟨σ', H', S.unsuite ok, z⟩
  | cont => obtain ⟨σ', H', S, z⟩ := h; exact ⟨σ', H', S.unsuite ok, z⟩
  | ret u => obtain ⟨v, σ', H', S, rv, z⟩ := h; exact ⟨v, σ', H', S.unsuite ok, rv, z⟩
/-- try: body, except .. as ..: .., several -/
theorem ps_try5 {body : List Stmt} {h₀ : ExceptHandler} {hds : List ExceptHandler} {pos : Pos} {tb : WX → TS} {W₀ : WX} {C : Catch} (hs : X.stack = X.env :: X.outer) (hf : X.env.frame = some X.env.locals) (tk : Takes X W₀)
    (hb : ∀ (W : WX) (pn : List (Addr × Obj)) (xe : Value → Shared → Prop), Takes (X.tr pn xe) W → PassesOwn (model X.prog X.w) X.A X.env xe → PSs (X.tr pn xe) body (tb W))
    (hc : Cls5 X (h₀ :: hds) C) : PS X (.Try body (h₀ :: hds) [] [] pos) (fun D σ H => tb (C D W₀) D σ H) := by
  refine ⟨fun pins s σ H D I h => ?_⟩
  have ok := I.ok
  have frm : X.A.frames = some (X.env :: X.outer) := by rw [ok.frames, hs]
  refine wpAny_Try_except (wpAny_mono ((hb (C D W₀) (X.pn ++ pins) (fun e s₁ => wpAny (model X.prog X.w) X.A (noteFrame e X.env) (fun _ s₂ => wpAny (model X.prog X.w) X.A (setFlight e none)
    (fun _ s₃ => wpAny (model X.prog X.w) X.A (handleBy e X.env (h₀ :: hds)) (SP X pins D) X.xe s₃) X.xe s₂) X.xe s₁) (fun u s₁ caught => ?_) PassesOwn.looking).run [] s σ H D (I.toTry _) h) (fun f s₁ hsp => ?_) (fun _ _ z => z))
  rotate_left
  · cases f with
    | next => obtain ⟨σ', H', J, z⟩ := hsp; exact wpAny_execs_nil ⟨σ', H', J.ofTry ok, z⟩
    | brk => obtain ⟨σ', H', J, z⟩ := hsp; exact ⟨σ', H', J.ofTry ok, z⟩
    | cont => obtain ⟨σ', H', J, z⟩ := hsp; exact ⟨σ', H', J.ofTry ok, z⟩
    | ret u => obtain ⟨v, σ', H', J, rv, z⟩ := hsp; exact ⟨v, σ', H', J.ofTry ok, rv, z⟩
  obtain ⟨a, B, sI, pins', σ', H', cls, d, rfl, J', nb, up, sky, na, os, ag, wish⟩ := caught
  have J : Inv X pins σ' H' sI := J'.ofTry ok
  have sky : Sky B (X.env :: X.outer) a (Zc cls d) X.env.locals s₁.heap := by rw [← hs]; exact sky
  show wpAny (model X.prog X.w) X.A (noteFrame (.ref a) X.env) _ _ _
  refine Sky.land Zc.steady frm hf sky fun h₃ fl up₃ => ?_
  have up₃ := up.trans up₃
  obtain ⟨ob, vs, hob, hz, hd⟩ := fl.there
  have apart : ∀ {g : Heap} {o : Obj} {us : Array Value}, g.FunFrames B (X.env :: X.outer) → g.get? a = some o → o.data = .fields us → a ∉ frs (X.env :: X.outer) := by
    intro g o us ff e de hm
    obtain ⟨_, o', e', no⟩ := ff.mem hm
    rw [e] at e'
    cases e'
    exact no _ de
  have nfr := apart fl.2.2.1 hob hd
  have nL : a ≠ X.env.locals := fun z => nfr (List.mem_filterMap.mpr ⟨X.env, List.mem_cons_self, by rw [hf, z]⟩)
  have nF : a ∉ X.fs := fun hm => by
    obtain ⟨e, he, z⟩ := List.mem_filterMap.mp hm
    exact nfr (List.mem_filterMap.mpr ⟨e, List.mem_cons_of_mem _ he, z⟩)
  have J₃ : Inv X pins σ' H' { s₁ with heap := h₃ } := J.landed nb fl.1 up₃ os ag
  have S₃ := J₃.suite hob hd na nL nF
  have looks : PySem.W.Looks (model X.prog X.w) h₃ (typeOf (.ref a)) cls := fun A Q E s k z => wpAny_typeOf_ref (k _ _ hob) (by rw [hz.1]; exact z)
  -- the class that a clause names
  have named : ∀ {x : Str} {c : Value} {q : Pos} {Q : Value → Shared → Prop} {E : Value → Shared → Prop}, Names X x c → Q c { s₁ with heap := h₃ } →
      wpAny (model X.prog X.w) (X.A.mark (some (.ref a))) (eval (.Name x q) X.env) Q E { s₁ with heap := h₃ } := by
    intro x c q Q E nc hq
    obtain ⟨hg, dbg, m | ⟨m, boot, nn⟩⟩ := nc
    · exact ld_glob (X := X.suite a ((a, ob) :: (X.pn ++ pins))) S₃ hg m hq dbg
    · exact ld_blt (X := X.suite a ((a, ob) :: (X.pn ++ pins))) S₃ hg m boot hq nn dbg
  have all : ∀ {hds' : List ExceptHandler} {C' : Catch}, Cls5 X hds' C' → C' D W₀ cls d σ' H' →
      wpAny (model X.prog X.w) X.A (handleBy (.ref a) X.env hds') (SP X pins D) X.xe { s₁ with heap := h₃ } := by
    intro hds' C' hc'
    induction hc' with
    | done =>
      intro wish
      refine wpAny_handleBy_nil ?_
      obtain ⟨_, _, _, oe, us, T, oT, ts', he, _, hde, h1, _⟩ := id fl
      unfold PySem.passOn
      refine wpAny_bind (wpAny_field he hde h1 ?_)
      rw [if_neg (by simp)]
      have fin : wpAny (model X.prog X.w) X.A (setFlight (.ref a) X.env.frame) (fun _ s₄ => wpAny (model X.prog X.w) X.A (throw (.ref a) : Sem Flow) (SP X pins D) X.xe s₄) X.xe { s₁ with heap := h₃ } := by
        rw [hf]
        refine HandSPX.setFlight_upZ fl fun h₄ sk up₄ => wpAny_throw (tk _ _ ?_)
        exact ⟨a, B, sI, pins, σ', H', cls, d, rfl, J, nb, up₃.trans up₄, .inr (.inr (by rw [hs]; exact sk)), na, os, ag, wish⟩
      first
        | exact wpAny_bind (wpAny_pure (wpAny_bind fin))
        | exact wpAny_bind fin
    | bare nc body r ih =>
      intro wish
      obtain ⟨b, hb1, yes, no⟩ := wish
      refine wpAny_handleBy_cons (codeAny_handlers_test ?_) (by intro z; cases z)
      refine named nc ((PySem.W.exm_one (M := model X.prog X.w) J₃.kIn looks hb1).here ?_)
      cases b with
      | false => exact ih (no rfl)
      | true =>
        refine codeAny_handlers_suite ?_
        refine HandSPX.lands_againZ fl fun h₄ fl₄ up₄ => ?_
        obtain ⟨ob4, us4, e4, z4, d4⟩ := fl₄.there
        have J₄ : Inv X pins σ' H' { s₁ with heap := h₄ } := J.landed nb fl₄.1 (up₃.trans up₄) os ag
        have S₄ := J₄.suite e4 d4 na nL nF
        exact wpAny_mono ((body a ob4 cls d (X.pn ++ pins) z4 ⟨_, d4⟩).run [] _ _ H' _ S₄ (yes rfl J.len a na)) (fun f s6 hsp => suite_back ok hsp) (fun _ _ z => z.elim)
    | as nc hN hi ln body r ih =>
      rename_i x n i c ts b₀ su q q' more rest
      intro wish
      obtain ⟨b, hb1, yes, no⟩ := wish
      refine wpAny_handleBy_cons (codeAny_handlers_test ?_) (by intro z; cases z)
      refine named nc ((PySem.W.exm_one (M := model X.prog X.w) J₃.kIn looks hb1).here ?_)
      cases b with
      | false => exact ih (no rfl)
      | true =>
        refine codeAny_handlers_suite_as ?_
        refine HandSPX.lands_againZ fl fun h₄ fl₄ up₄ => ?_
        obtain ⟨ob4, us4, e4, z4, d4⟩ := fl₄.there
        have J₄ : Inv X pins σ' H' { s₁ with heap := h₄ } := J.landed nb fl₄.1 (up₃.trans up₄) os ag
        have S₄ := J₄.suite e4 d4 na nL nF
        have gone : ∀ {σ6 : L2.St} {H6 : Hp} {s6 : Shared} {Q : Shared → Prop}, Inv X pins σ6 H6 s6 → (∀ s7, Inv X pins (σ6.set i none) H6 s7 → Q s7) →
            wpAny (model X.prog X.w) X.A (do bindName X.env n .none; unbindBehindTheSuite X.env n q') (fun _ s7 => Q s7) X.xe s6 := fun S6 hq => gone_ok S6 hN hi ln hq
        refine store_ok (X := X.suite a ((a, ob4) :: (X.pn ++ pins))) (v := .ref a) S₄ hN hi (.inl ln) rfl (fun s5 S5 => ?_) (.inr ln)
        refine wpAny_mono ((body a ob4 cls d (X.pn ++ pins) z4 ⟨_, d4⟩).run [] s5 _ H' _ S5 (yes rfl J.len a na)) (fun f s6 hsp => ?_) (fun _ _ z => z.elim)
        cases f with
        | next => obtain ⟨σ6, H6, S6, z⟩ := hsp; exact gone (S6.unsuite ok) fun s7 J7 => ⟨_, _, J7, z⟩
        | brk => obtain ⟨σ6, H6, S6, z⟩ := hsp; exact gone (S6.unsuite ok) fun s7 J7 => ⟨_, _, J7, z⟩
        | cont => obtain ⟨σ6, H6, S6, z⟩ := hsp; exact gone (S6.unsuite ok) fun s7 J7 => ⟨_, _, J7, z⟩
        | ret u => obtain ⟨v, σ6, H6, S6, rv, z⟩ := hsp; exact gone (S6.unsuite ok) fun s7 J7 => ⟨_, _, _, J7, rv, z⟩
  exact all hc wish
end
/-! ### {(a, b): v} -/
def tDispT (tk tv : TE) : TE := fun σ H Q => ∀ p, H p = none → tk σ (upd H p (.dT [])) fun x H1 => tv σ H1 fun y H2 => ∃ (b : Addr) (k : List Key), x = .ref b ∧ H2 b = some (.tup (k.map kV)) ∧ H2 p = some (.dT []) ∧ Q (.ref p) (upd H2 p (.dT [(k, y)]))
theorem pe_dispT {X : Cx} {pos : Pos} {k v : Expr} {tk tv : TE} (hu : X.A.units + 1 < cLine) (hk : PE X k tk) (hv : PE X v tv) : PE X (.Dict [some k] [v] pos) (tDispT tk tv) := by
  refine ⟨fun pins s σ H Q I h => ?_⟩
  have free := I.hok.fresh (Nat.le_refl s.heap.objs.size)
  have I1 := I.laid (a := s.heap.objs.size) (o := .dT []) (h' := s.heap.push { cls := .type "dict", data := .dict #[] }) (t' := s.toks) (fun _ _ z => Heap.get?_push_of_some _ z) (Nat.le_refl _) (dt_empty s.heap I.big)
  have n1 := pairTrees_length [some k] [v] X.env pos rfl rfl
  have n1 : (pairTrees [some k] [v] X.env pos).length = 1 := n1
  rw [arm_eval_Dict, zip_pairTrees [some k] [v] X.env pos rfl rfl, dictDisplay_pairs _ (fun z => by rw [z] at n1; cases n1) (by rw [n1]; decide)]
  refine wpAny_bind (wpAny_standAt (wpAny_bind (wpAny_subDictH (knd := tupleKind (mixKind X.prog X.w)) (Q := fun d s' => wpAny (model X.prog X.w) X.A (pure (Value.ref d)) (EP X pins σ Q) X.xe s') (Nat.lt_of_succ_lt hu) (by rw [n1]; decide) ?_)))
  refine pairTrees_cons_walk (thn (hk.run pins _ σ _ _ I1 (h _ free)) fun u s1 ⟨x, H1, J1, rx, q1⟩ => thn (hv.run pins s1 σ H1 _ J1 q1) fun r s2 ⟨y, H2, J2, ry, b, ks, ex, hb, hp, q⟩ => pairTrees_nil_walk ?_)
  subst ex
  cases (show u = Value.ref b from rx)
  obtain ⟨_, hd, xs, rel, dd⟩ := dt_of J2.hok hp
  cases rel
  have is := key_of J2.hok hb
  refine ⟨[(ks, b, r)], ⟨rfl, rfl, is, True.intro⟩, dd, fun h' tk' ⟨ob, es, ep, g1, g2, g3, g4, g5, g6⟩ sb => wpAny_pure ⟨.ref s.heap.objs.size, _, ?_, rel_ref _, q⟩⟩
  have nb : b ≠ s.heap.objs.size := ne_of hb hp (fun z => nomatch z)
  refine d_write J2 (by rw [hp]; exact True.intro) sb ⟨ob, g1⟩ ⟨Nat.le_trans (show 1 ≤ 1000 by decide) (by decide), hd, [(ks, b, r)], .cons ⟨rfl, ?_, ry⟩ .nil, ob, es, ep, g1, g2, g3, g4, g6⟩
  rw [upd_ne nb]
  exact hb
end Gs

set_option Elab.async false
set_option linter.all false
set_option maxRecDepth 100000
set_option maxHeartbeats 4000000
/-! Layer G15: exceptions as values: made by place and by keywords, caught and kept; their fields, isinstance of them. -/
namespace PySem
namespace HandSPK
open HandSPX
open Builtin Builtin.ObjectAttr
section
variable {M : Model} {A : Around} {E : Value → Shared → Prop} {h : Heap} {g : Array GenState} {d : Drawn} {t : Nat} {os : OsState}
variable {nm q : Str} {C N : Addr} {bs bm bmB : List Value} {hdct : Bool} {sn : List Str} {sub : List Value} {ab : Bool} {col : Option Bool} {dd : Option Addr} {k0 k1 k2 k3 k5 : Option Value} {B newId initId : String}
theorem check_new_ownK (F : ExcBaseFacts B newId initId bmB) (hT : ∀ X : String, bm.contains (.type X) = bmB.contains (.type X)) {rest : List Value} {kw : List (Str × Value)} {Q : Unit → Shared → Prop}
    (hC : h.get? C = some (excClassObj nm q C N bs bm hdct sn sub ab col dd k0 k1 k2 k3 k5 newId)) (hq : Q () ⟨h, g, d, t, os⟩) : wpAny M A (checkBuiltinCall newId ⟨.ref C :: rest, kw⟩) Q E ⟨h, g, d, t, os⟩ := by
  have hcont : (Value.ref C :: bm).contains (.type B) = true := by rw [List.contains_cons, hT, F.hasB, Bool.or_true]
  have hstar := F.noStar
  simp only [checkBuiltinCall, F.newKind, F.newSplit, F.newRow]
  repeat (first | refine wpAny_loadPart_at hC ?_ | (refine wpAny_isSubtype_exc hC ?_; rw [hcont]) | refine wpAny_staticBase_exc hC ?_ | refine wpAny_madeBy_exc hC ?_ | simp only [bne_self_eq_false, Bool.false_eq_true, if_false] | wp_step)
  exact hq
theorem check_callK {kw : List (Str × Value)} {rest : List Value} {Q : Unit → Shared → Prop} {newId : String} (hC : h.get? C = some (excClassObj nm q C N bs bm hdct sn sub ab col dd k0 k1 k2 k3 k5 newId))
    (hq : Q () ⟨h, g, d, t, os⟩) : wpAny M A (checkBuiltinCall "type.__call__" ⟨.ref C :: rest, kw⟩) Q E ⟨h, g, d, t, os⟩ := by
  have f3 := tc_sub
  have hT : (⟨h, g, d, t, os⟩ : Shared).TypeIs (.ref C) "type" := ⟨_, hC, rfl⟩
  simp only [checkBuiltinCall, tc_kind, tc_split]
  repeat (any_goals (first | assumption | with_reducible refine wpAny_loadPart_at hC ?_ | with_reducible refine wpAny_onRaise ?_ | with_reducible refine wpAny_map ?_ | wp_step))
end
section
variable {prog : Program} {w : World} {A : Around} {E : Value → Shared → Prop} {R : Result → Shared → Prop} {h : Heap} {g : Array GenState} {d : Drawn} {t : Nat} {os : OsState}
variable {nm q : Str} {C N : Addr} {bs bm bmB : List Value} {hdct : Bool} {sn : List Str} {sub : List Value} {ab : Bool} {col : Option Bool} {dd : Option Addr} {k0 k1 k2 k3 k5 : Option Value} {B newId initId : String}
theorem new_ownK (F : ExcBaseFacts B newId initId bmB) (hT : ∀ X : String, bm.contains (.type X) = bmB.contains (.type X)) {rest : List Value} {kw : List (Str × Value)}
    (hC : h.get? C = some (excClassObj nm q C N bs bm hdct sn sub ab col dd k0 k1 k2 k3 k5 newId))
    (hq : R (.ok (.ret (.ref (h.objs.size + 1)))) ⟨(h.push { cls := .type "tuple", data := .seq rest.toArray }).push
      { cls := .ref C, data := .fields #[.ref h.objs.size, .none, .none, .none, .bool false, .none] }, g, d, t, os⟩) (hrest : rest.length ≤ sizeLine) :
    codeAny (model prog w) A (.builtin newId ⟨.ref C :: rest, kw⟩) R ⟨h, g, d, t, os⟩ := by
  have hends := F.ends
  have hcB : (Value.ref C :: bm).contains (.type B) = true := by rw [List.contains_cons, hT, F.hasB, Bool.or_true]
  have hcA : (Value.ref C :: bm).contains (.type "AttributeError") = false := by rw [List.contains_cons, hT, F.noAttr]; rfl
  have hcN : (Value.ref C :: bm).contains (.type "NameError") = false := by rw [List.contains_cons, hT, F.noName]; rfl
  refine codeAny_builtinAt F.entry ?_
  unfold Builtin.«BaseException.__new__»
  refine wpAt_bind ?_
  show wpAt _ _ _ (stack >>= _) _ _ _
  refine wpAt_bind (wpAt_stack fun p below => wpAt_of_wpAny ?_)
  wp_walk
  refine wpAt_of_wpAny ?_
  rw [F.owner]
  repeat (first | with_reducible refine wpAny_madeHere_exc F.canon hC ?_ | with_reducible refine wpAny_loadPart_at hC ?_ | (with_reducible refine wpAny_isSubtype_exc hC ?_; first | rw [hcB] | rw [hcA] | rw [hcN]) | wp_step)
  show R _ _
  rw [Heap.size_push]
  exact hq
theorem type_call_ownK (F : ExcBaseFacts B newId initId bmB) (hT : ∀ X : String, bm.contains (.type X) = bmB.contains (.type X)) {rest : List Value} {kw : List (Str × Value)} {fI : Addr} {Q : Fin → Shared → Prop}
    (hC : h.get? C = some (excClassObj nm q C N bs bm hdct sn sub ab col dd k0 k1 k2 k3 k5 newId))
    (hi : W.Looks (model prog w) h (typeLookup (.ref C) "__init__") (some (.ref fI))) (hb : ∀ self, W.Looks (model prog w) h (bindSpecial (.ref fI) self) (.ref fI, [self])) (hrest : rest.length ≤ sizeLine)
    (hq : codeAny (model prog w) A (.call (.ref fI) ⟨.ref (h.objs.size + 1) :: rest, kw⟩)
      (fun r s' => match r with | .ok (.ret v) => v = .none ∧ Q (.done (.ret (.ref (h.objs.size + 1)))) s' | .ok _ => False | .error e => E e s')
      ⟨(h.push (W.kdv_tup rest)).push (excO C h.objs.size), g, d, t, os⟩) :
    wpAny (model prog w) A (Builtin.«type.__call__» ⟨.ref C :: rest, kw⟩) Q E ⟨h, g, d, t, os⟩ := by
  repeat (first | with_reducible refine wpAny_loadPart_at hC ?_ | with_reducible refine wpAny_madeBy_exc hC ?_ | wp_step)
  refine codeAny_call_builtin_code (Code.quiet_builtin _ F.quiet) (check_new_ownK F hT hC ?_)
  refine new_ownK F hT hC ?_ hrest
  show wpAny _ _ _ _ _ _
  have k : ∀ b o, h.get? b = some o → ((h.push (W.kdv_tup rest)).push (excO C h.objs.size)).get? b = some o := fun b o e => Heap.get?_push_of_some _ (Heap.get?_push_of_some _ e)
  have hC₁ := k _ _ hC
  have hget : ((h.push (W.kdv_tup rest)).push (excO C h.objs.size)).get? (h.objs.size + 1) = some (excO C h.objs.size) := by heap_get
  have hcC : (Value.ref C :: bm).contains (.ref C) = true := by simp
  have i1 := hi.keeps k
  have b1 := (hb (.ref (h.objs.size + 1))).keeps k
  unfold isInstance
  repeat (first | with_reducible refine wpAny_loadPart_at hget ?_ | (with_reducible refine wpAny_isSubtype_exc hC₁ ?_; rw [hcC]) | wp_step)
  show wpAny _ _ (typeLookup (.ref C) _) _ _ _
  refine i1.at ?_
  refine wpAny_holding (wpAny_bind (b1.at ?_))
  refine wpAny_bind (wpAny_call (codeAny_mono hq fun r s' z => ?_))
  rcases r with e | (v | _ | _ | _) <;> first | exact z | exact z.elim | skip
  obtain ⟨rfl, z⟩ := z
  first
    | exact wpAny_pure (wpAny_pure z)
    | (wp_walk; exact z)
theorem call_ownK (F : ExcBaseFacts B newId initId bmB) (hT : ∀ X : String, bm.contains (.type X) = bmB.contains (.type X)) {rest : List Value} {kw : List (Str × Value)} {fI : Addr}
    (hC : h.get? C = some (excClassObj nm q C N bs bm hdct sn sub ab col dd k0 k1 k2 k3 k5 newId))
    (hi : W.Looks (model prog w) h (typeLookup (.ref C) "__init__") (some (.ref fI))) (hb : ∀ self, W.Looks (model prog w) h (bindSpecial (.ref fI) self) (.ref fI, [self])) (hrest : rest.length ≤ sizeLine)
    (hq : codeAny (model prog w) (A.under (.builtin "type.__call__" ⟨.ref C :: rest, kw⟩)) (.call (.ref fI) ⟨.ref (h.objs.size + 1) :: rest, kw⟩) (W.InitBack (h.objs.size + 1) R)
      ⟨(h.push (W.kdv_tup rest)).push (excO C h.objs.size), g, d, t, os⟩) :
    codeAny (model prog w) A (.call (.ref C) ⟨rest, kw⟩) R ⟨h, g, d, t, os⟩ := by
  have f1 := tc_lookup
  have f2 := tc_bind (.ref C)
  have hTy : (⟨h, g, d, t, os⟩ : Shared).TypeIs (.ref C) "type" := ⟨_, hC, rfl⟩
  refine codeAny_of_tree ?_
  show wpAny _ _ (callAny (.ref C) _) _ _ _
  repeat (any_goals (first | assumption | with_reducible refine wpAny_loadPart_at hC ?_ | wp_step))
  refine ⟨rfl, ?_⟩
  refine codeAny_call_builtin_at (Code.quiet_builtin _ (by decide +kernel)) entry_typeCall (check_callK hC (type_call_ownK F hT hC hi hb hrest ?_))
  refine codeAny_mono hq fun r s' z => ?_
  rcases r with e | (v | _ | _ | _) <;> exact z
end
end HandSPK
end PySem

set_option Elab.async false
set_option linter.all false
set_option maxRecDepth 100000
set_option maxHeartbeats 4000000
/-! Layer G16: exceptions as values, told over the abstract heap. -/
namespace PySem.W
open PySem PySem.Spec PySem.Calls PyProof.Rows
section
variable {prog : Program} {w : World} {A : Around} {E : Value → Shared → Prop} {s : Shared} {K : Frag} {x D : Addr} {ox : Obj} {od : Option Obj}
theorem findObj_dataV {C : Addr} {name : Str} {a g : Value} (hc : (clsIn K C).isSome = true) (ha : findIn K (.ref C) name = some (some a)) (hg : specialIn K a "__get__" = some (some g)) (ht : takesIn K a = some true) : findObj K C od name = some (.bind g a) := by
  obtain ⟨cd, hc⟩ := Option.isSome_iff_exists.mp hc
  unfold findObj
  rw [hc, Option.bind_some, ha, Option.bind_some]
  simp [hg, ht]
theorem kin_classV {Q : Option Value → Shared → Prop} (hga : findIn K (.ref D) "__getattribute__" = some (some (.builtin "BaseException.__getattribute__"))) (hgt : findIn K (.ref D) "__getattr__" = some none) (hsub : subIn K (.ref D) (.type "BaseException") = some true)
    (hdct : hasDictIn K D = true) (ha : findIn K (.ref D) "__class__" = some (some (.builtin "object.__class__")))
    (hn : specialIn K (.builtin "object.__class__") "__get__" = some (some (.builtin "getset_descriptor.__get__"))) (htk : takesIn K (.builtin "object.__class__") = some true) (hm : mroIn K D (.type "object") = some true)
    (X : K.In s.heap) (I : InstAt s.heap x ox D od) (h : Q (some (.ref D)) { s with toks := s.toks + 1 }) : wpAny (model prog w) A (getAttr? (.ref x) "__class__") Q E s := by
  have hf : findObj K D od "__class__" = some (.bind (.builtin "getset_descriptor.__get__") (.builtin "object.__class__")) := findObj_dataV (by obtain ⟨cd, hc, _⟩ := any_some hdct; rw [hc]; rfl) ha hn htk
  obtain ⟨hp, g, d, t, os⟩ := s
  have L0 := I.type (M := model prog w)
  have L1 := looks_findIn (M := model prog w) X hga
  have L2 := looks_findIn (M := model prog w) X hgt
  have L3 := looks_find (M := model prog w) X I hf
  have sub : Looks (model prog w) hp (isInstance (.ref x) (.type "BaseException")) true := L0.andThen (looks_subIn X hsub)
  have hx0 : (false && onTheHeap (Value.builtin "BaseException.__getattribute__")) = false := rfl
  have hx2 : (Value.builtin "BaseException.__getattribute__" == Value.builtin "object.__getattribute__") = false := by decide +kernel
  have hx1 : (onTheHeap (Value.ref D) && Value.builtin "BaseException.__getattribute__" == Value.builtin "object.__getattribute__") = false := by rw [hx2]; rfl
  unfold getAttr? getAttrBy? getAttrBy
  refine wpAny_bind (wpAny_mkText (wpAny_bind (wpAny_attempt (wpAny_holding (wpAny_bind (L0.at (wpAny_bind (L1.at ?_))))))))
  show wpAny _ _ (if (onTheHeap (Value.ref D) && Value.builtin "BaseException.__getattribute__" == Value.builtin "object.__getattribute__") = true then _ else _) _ _ _
  rw [hx1, if_neg Bool.false_ne_true]
  unfold getAttrByItsOwn hookBefore
  refine wpAny_bind ?_
  rw [if_pos (show onTheHeap (Value.ref D) = true from rfl)]
  refine L2.at ?_
  refine wpAny_bind (wpAny_attempt (wpAny_holding ?_))
  unfold callGetattribute
  rw [hx0, if_neg Bool.false_ne_true]
  unfold boundAndCalled
  rw [PySem.F.excAttr_ValueError.ga.bind (.ref x)]
  refine wpAny_bind (wpAny_pure ?_)
  show wpAny _ _ (call (.builtin "BaseException.__getattribute__") [.ref x, .str "__class__" t]) _ _ _
  refine wpAny_call (codeAny_call_builtin PySem.F.excAttr_ValueError.ga.plain PySem.F.entry_bexc_ga ?_)
  refine @check_slot (model prog w) _ _ ⟨hp, g, d, t + 1, os⟩ "BaseException.__getattribute__" "BaseException" "__getattribute__" (.ref x) [.str "__class__" t] [] _ (by decide +kernel) (by decide +kernel) sub (PySem.F.args_bexc_ga (.ref x) (.str "__class__" t)) ?_
  unfold Builtin.«object.__getattribute__»
  refine wpAny_bind (wpAny_of_eq (a := ((Value.ref x : Value), [Value.str "__class__" t])) (by first | rfl | (simp only [slotArgs]; rfl)) ?_)
  refine wpAny_bind (wpAny_pure (wpAny_bind (L0.at (wpAny_bind (L3.at ?_)))))
  show wpAny _ _ (holding [Value.builtin "object.__class__"] (call (.builtin "getset_descriptor.__get__") [.builtin "object.__class__", .ref x, .ref D]) >>= ret) _ _ _
  refine wpAny_bind (wpAny_holding (wpAny_call (class_get (s := ⟨hp, g, d, t + 1, os⟩) (ox := ox) (od := od) X I hm ?_)))
  refine wpAny_pure ?_
  show wpAny _ _ (handedOut (.ref D)) _ _ _
  rw [handedOut_of (v := .ref D) rfl]
  first
    | exact wpAny_pure (wpAny_pure h)
    | exact wpAny_pure h
    | exact wpAny_pure (wpAny_bind (wpAny_pure (wpAny_pure h)))
theorem kitx_excV (hga : findIn K (.ref D) "__getattribute__" = some (some (.builtin "BaseException.__getattribute__"))) (hgt : findIn K (.ref D) "__getattr__" = some none) (hsub : subIn K (.ref D) (.type "BaseException") = some true) (hdct : hasDictIn K D = true) (ha : findIn K (.ref D) "__class__" = some (some (.builtin "object.__class__")))
    (hn : specialIn K (.builtin "object.__class__") "__get__" = some (some (.builtin "getset_descriptor.__get__"))) (htk : takesIn K (.builtin "object.__class__") = some true) (hm : mroIn K D (.type "object") = some true) :
    KitX K (.ref x) (.ref D) (fun h => InstAt h x ox D od) where
  ty := fun _ _ _ I => I.type
  it := fun _ _ X _ => by
    obtain ⟨cdD, hcD, _⟩ := any_some hdct
    unfold clsIn at hcD
    split at hcD
    · rename_i c' d' cd' sl' ho
      intro A' Q' E' s' k q
      unfold isType loadHead
      exact wpAny_bind (wpAny_loadPart (k _ _ (X _ _ ho)) (wpAny_pure q))
    · cases hcD
  ne := fun h tp dd its n sl X htp => by
    obtain ⟨cdD, hcD, _⟩ := any_some hdct
    refine Bool.eq_false_iff.mpr fun q => ?_
    have e : D = tp := Value.ref.inj (beq_iff_eq.mp q)
    subst e
    unfold clsIn at hcD
    split at hcD
    · rename_i c' d' cd' sl' ho
      have z := (X _ _ ho).symm.trans htp
      cases z
    · cases hcD
  ca := fun X I k => kin_classV hga hgt hsub hdct ha hn htk hm X I k
end
end PySem.W
namespace Gs
open PySem PySem.Spec PyProof.Rows L2
/-- at a: an exception of the class cls that was caught, its dict d -/
def exv (a : Addr) (cls : Value) (d : Option Addr) : HO := .ext fun h => ∃ ob, h.get? a = some ob ∧ Zc cls d ob ∧ ∃ vs, ob.data = .fields vs
theorem exv_ok {P : Program} {w : World} {H : Hp} {h : Heap} {a : Addr} {cls : Value} {d : Option Addr} {ob : Obj} (e : h.get? a = some ob) (z : Zc cls d ob) (f : ∃ vs, ob.data = .fields vs) : ObjOk P w H h a (exv a cls d) :=
  ⟨⟨ob, e, z, f⟩, ⟨_, e⟩, fun h1 h2 y k => by obtain ⟨o, q, r⟩ := y; exact ⟨o, k _ q, r⟩⟩
/-- an exception of the class at C, its dict: made or caught -/
def ExA (H : Hp) (a C : Addr) (d : Option Addr) : Prop := H a = some (exv a (.ref C) d) ∨ H a = some (exo a C d)
def ExD (H : Hp) (dd : Addr) (fs : List (Str × V)) : Prop := H dd = some (.xd fs) ∨ H dd = some (exd dd fs)
/-- an exception with its fields, or without any -/
def ExI (H : Hp) (a C : Addr) (fs : Option (List (Str × V))) : Prop := match fs with
  | none => ExA H a C none
  | some l => ∃ dd, ExA H a C (some dd) ∧ ExD H dd l
theorem ExA.same {H H' : Hp} {a C : Addr} {d : Option Addr} (h : ExA H a C d) (e : Same H H') : ExA H' a C d := h.elim (fun z => .inl (e _ _ z)) fun z => .inr (e _ _ z)
theorem ExD.same {H H' : Hp} {a : Addr} {d : List (Str × V)} (h : ExD H a d) (e : Same H H') : ExD H' a d := h.elim (fun z => .inl (e _ _ z)) fun z => .inr (e _ _ z)
theorem ExI.same {H H' : Hp} {a C : Addr} {fs : Option (List (Str × V))} (h : ExI H a C fs) (e : Same H H') : ExI H' a C fs := by
  cases fs with
  | none => exact ExA.same h e
  | some l => obtain ⟨dd, x, y⟩ := h; exact ⟨dd, x.same e, y.same e⟩
/-- two heaps that agree on what is no list, no tuple, no dict, no instance: exceptions stay -/
def SameX (H H' : Hp) : Prop := ∀ b (φ : Heap → Prop), H b = some (.ext φ) → H' b = some (.ext φ)
def SameD (H H' : Hp) : Prop := ∀ b fs, H b = some (.xd fs) → H' b = some (.xd fs)
theorem ExI.ext {H H' : Hp} {a C : Addr} {fs : Option (List (Str × V))} (h : ExI H a C fs) (e : SameX H H') (e2 : SameD H H') : ExI H' a C fs := by
  have x : ∀ {d}, ExA H a C d → ExA H' a C d := fun z => z.elim (fun z => .inl (e _ _ z)) fun z => .inr (e _ _ z)
  cases fs with
  | none => exact x h
  | some l =>
    obtain ⟨dd, y, z⟩ := h
    exact ⟨dd, x y, z.elim (fun z => .inl (e2 _ _ z)) fun z => .inr (e _ _ z)⟩
section
variable {X : Cx} {pins : List (Addr × Obj)} {σ : L2.St} {H : Hp} {s : Shared}
theorem ExA.at_ {a C : Addr} {d : Option Addr} (I : Inv X pins σ H s) (h : ExA H a C d) : ∃ ob, s.heap.get? a = some ob ∧ Zc (.ref C) d ob ∧ ∃ vs, ob.data = .fields vs := by
  rcases h with h | h
  · have x : ObjOk X.prog X.w H s.heap a (exv a (.ref C) d) := I.hok _ _ h
    exact x.1
  · obtain ⟨t1, e⟩ := exo_at I.hok h
    exact ⟨_, e, ⟨rfl, rfl⟩, _, rfl⟩
theorem ExD.at_ {dd : Addr} {fs : List (Str × V)} (I : Inv X pins σ H s) (h : ExD H dd fs) : ∃ mA, s.heap.Ns1 dd mA ∧ ∀ f, RelO (fs.lookup f) (mA f) := by
  rcases h with h | h
  · have x : ObjOk X.prog X.w H s.heap dd (.xd fs) := I.hok _ _ h
    exact x
  · exact exd_at I.hok h
theorem ExI.inst {a C : Addr} {fs : Option (List (Str × V))} (I : Inv X pins σ H s) (h : ExI H a C fs) : ∃ ob od, PySem.W.InstAt s.heap a ob C od := by
  cases fs with
  | none =>
    obtain ⟨ob, e, ⟨z1, z2⟩, vs, hd⟩ := ExA.at_ I h
    exact ⟨ob, none, e, z1, by unfold PySem.W.notCls; rw [hd] <;> rfl, by rw [z2] <;> trivial⟩
  | some l =>
    obtain ⟨dd, h1, h2⟩ := h
    obtain ⟨ob, e, ⟨z1, z2⟩, vs, hd⟩ := h1.at_ I
    obtain ⟨mA, hns, _⟩ := h2.at_ I
    obtain ⟨od, ho, _⟩ := lookIn_ns hns
    exact ⟨ob, some od, e, z1, by unfold PySem.W.notCls; rw [hd] <;> rfl, by rw [z2]; exact ho⟩
/-- e.f -/
def tFv (K : PySem.W.Frag) (f : Str) (te : TE) : TE := fun σ H Q => te σ H fun x H1 => ∃ (a C : Addr) (fs : List (Str × V)) (v : V), x = .ref a ∧ XfC K C ∧ PySem.W.findIn K (.ref C) f = some none ∧ ExI H1 a C (some fs) ∧ fs.lookup f = some v ∧ Q v H1
theorem pe_fv {e : Expr} {te : TE} {pos : Pos} {n : Str} (he : PE X e te) (hb : attributeBase e n X.env (eval e X.env) = eval e X.env := by rfl) : PE X (.Attribute e n pos) (tFv X.K n te) := by
  refine ⟨fun pins s σ H Q I h => ?_⟩
  refine attr_of hb (thn (he.run pins s σ H _ I h) fun u s1 hh => ?_)
  obtain ⟨x, H1, I1, rx, a, C, fs, v, ex, T, hno, ⟨dd, h1, h2⟩, l, q⟩ := hh
  subst ex
  obtain rfl : u = Value.ref a := rx
  obtain ⟨ob, e, ⟨z1, z2⟩, vs, hd⟩ := h1.at_ I1
  obtain ⟨mA, hns, hr⟩ := h2.at_ I1
  obtain ⟨od, ho, hl⟩ := lookIn_ns hns
  obtain ⟨u, hu, ru⟩ := RelO.some_of (v := v) (o := mA n) (by rw [← l]; exact hr n)
  have J : PySem.W.InstAt s1.heap a ob C (some od) := ⟨e, z1, by unfold PySem.W.notCls; rw [hd] <;> rfl, by rw [z2]; exact ho⟩
  exact HandSPX.exc_get I1.kIn J T.ga T.gg T.exC (PySem.W.findObj_own T.hdC hno rfl (by rw [hl, hu])) (handed_of ru) ⟨v, H1, I1.tok _, ru, q⟩
/-- isinstance(e, c) -/
def rIsV (K : PySem.W.Frag) : List V → Hp → VK → Prop := fun xs H Q => ∃ (a C : Addr) (fs : Option (List (Str × V))) (c : V) (u : Value) (b : Bool), xs = [.ref a, c] ∧ ExI H a C fs ∧ ExcC K C ∧ ClsV c u ∧ PySem.W.kitOne K (.ref C) u = some b ∧ Q (.bl b) H
theorem call_isV : CallR X (.builtin "isinstance") (rIsV X.K) := by
  intro pins s σ H xs us Q I r h
  obtain ⟨a, C, fs, c, u, b, rfl, hi, Z, k, e, q⟩ := h
  obtain ⟨u1, u2, rfl, r1, r2⟩ := vals2 r
  cases (show u1 = Value.ref a from r1)
  have e2 := k.eq r2
  subst e2
  obtain ⟨ob, od, J⟩ := hi.inst I
  exact PySem.W.kia_one (PySem.W.kitx_excV Z.hg Z.hk Z.hs Z.hd Z.ha Z.hn Z.ht Z.hm) I.kIn J e (fun z => nomatch z) fun tk => ⟨.bl b, H, I.tok tk, rfl, q⟩
/-- isinstance(e, (c, ..)) -/
def rIsVT (K : PySem.W.Frag) : List V → Hp → VK → Prop := fun xs H Q => ∃ (a C : Addr) (fs : Option (List (Str × V))) (tp : Addr) (cs : List V) (us : List Value) (b : Bool), xs = [.ref a, .ref tp] ∧ ExI H a C fs ∧ ExcC K C ∧ H tp = some (.tup cs) ∧ Paired ClsV cs us ∧
  PySem.W.kitAny K (.ref C) us = some b ∧ Q (.bl b) H
theorem call_isVT : CallR X (.builtin "isinstance") (rIsVT X.K) := by
  intro pins s σ H xs us Q I r h
  obtain ⟨a, C, fs, tp, cs, ws, b, rfl, hi, Z, hT, k, e, q⟩ := h
  obtain ⟨u1, u2, rfl, r1, r2⟩ := vals2 r
  cases (show u1 = Value.ref a from r1)
  cases (show u2 = Value.ref tp from r2)
  obtain ⟨ob, od, J⟩ := hi.inst I
  obtain ⟨_, its, rv, o, h1, h2, n, h3⟩ := (show ObjOk X.prog X.w H s.heap tp (.tup cs) from I.hok tp _ hT)
  have e3 := ClsV.all k rv
  subst e3
  obtain ⟨oc, od', dt, sl⟩ := o
  simp only at h2 h3
  subst h2 h3
  exact PySem.W.kia_tup (PySem.W.kitx_excV Z.hg Z.hk Z.hs Z.hd Z.ha Z.hn Z.ht Z.hm) I.kIn J h1 e (fun z => nomatch z) fun tk => ⟨.bl b, H, I.tok tk, rfl, q⟩
end
/-! ### C(e, ..), C(k = v, ..) as a value -/
def tMkV (C : Addr) (sp : Sp) (ta : TA) : TE := fun σ H Q => ta σ H fun vs H1 => vs.length ≤ 1000 ∧ ∀ a, H1 a = none → sp (.ref a :: vs) (upd H1 a (exo a C none)) (fun v H2 => v = .non ∧ Q (.ref a) H2) (fun _ _ _ => False)
def tMkVK (C : Addr) (sp : Sp) (gV : List V → List V → List V) (m : Nat) (tk : TA) : TE := fun σ H Q => tk σ H fun zs H1 => zs.length = m ∧ ∀ a, H1 a = none → sp (gV [.ref a] zs) (upd H1 a (exo a C none)) (fun v H2 => v = .non ∧ Q (.ref a) H2) (fun _ _ _ => False)
section
variable {X : Cx} {CX : CXT} {x : Str} {C fI : Addr} {k : Nat} {fd : FuncData} {ps ks : List Str} {sp : Sp} {p pos : Pos} {e : Expr} {es : List Expr} {kws : List Keyword} {t tk : TA} {g : List Value → List Value → List Value} {gV : List V → List V → List V}
theorem run_exv {pins : List (Addr × Obj)} {σ : L2.St} {H : Hp} {s : Shared} {Q : VK} {us : List Value} {kw : List (Str × Value)} {all : Addr → List V} {alls : Value → List Value} (T : OexC X.K C) (iC : PySem.W.findIn X.K (.ref C) "__init__" = some (some (.ref fI))) (tI : PySem.W.typeIn X.K (.ref fI) = some (.type "function"))
    (F1 : FnOk X.prog X.w X.K X.mg X.base CX k fI fd ps sp) (hr : Room (k + 1) X.A) (hx : Passes CX X (fun _ _ _ => False)) (I : Inv X pins σ H s) (hus : us.length ≤ sizeLine)
    (hb : ∀ (s : Shared) (a : Addr), X.K.In s.heap → BindsTo s fd ⟨.ref a :: us, kw⟩ (ps.zip (alls (.ref a)))) (hv : ∀ a, Vals (all a) (alls (.ref a)))
    (h : ∀ a, H a = none → sp (all a) (upd H a (exo a C none)) (fun v H2 => v = .non ∧ Q (.ref a) H2) (fun _ _ _ => False)) :
    wpAny (model X.prog X.w) X.A (call (.ref C) us kw) (EP X pins σ Q) X.xe s := by
  obtain ⟨nm, q, N, bs, bm, sn, sub, ab, col, dd, k0, k1, k2, k3, k5, hC, hbm⟩ := T.cls
  obtain ⟨hp, gg, dr, tk, os⟩ := s
  have hsz : hp.objs.size ≤ hp.objs.size + 1 := Nat.le_succ _
  have hn : H (hp.objs.size + 1) = none := I.hok.fresh hsz
  have hq := h (hp.objs.size + 1) hn
  have kk : ∀ b o, hp.get? b = some o → ((hp.push (PySem.W.kdv_tup us)).push (PySem.HandSPX.excO C hp.objs.size)).get? b = some o := fun b o e => Heap.get?_push_of_some _ (Heap.get?_push_of_some _ e)
  have hget : ((hp.push (PySem.W.kdv_tup us)).push (PySem.HandSPX.excO C hp.objs.size)).get? (hp.objs.size + 1) = some (PySem.HandSPX.excO C hp.objs.size) := by heap_get
  have I2 : Inv X pins σ (upd H (hp.objs.size + 1) (exo (hp.objs.size + 1) C none)) ⟨(hp.push (PySem.W.kdv_tup us)).push (PySem.HandSPX.excO C hp.objs.size), gg, dr, tk, os⟩ :=
    I.laid (t' := tk) (a := hp.objs.size + 1) (o := exo (hp.objs.size + 1) C none) (h' := (hp.push (PySem.W.kdv_tup us)).push (PySem.HandSPX.excO C hp.objs.size)) kk hsz (exo_ok hget)
  refine wpAny_call (PySem.HandSPK.call_ownK F.excBase_ValueError (fun Y => PySem.HandSPX.refsVE_contains Y bm hbm) (I.kIn _ _ hC) (PySem.W.looks_findIn I.kIn iC) (fun self => PySem.W.bind_fn I.kIn self tI) hus
    (codeAny_mono (F1.run _ X.stack _ _ ⟨Value.ref (hp.objs.size + 1) :: us, kw⟩ (alls (.ref (hp.objs.size + 1))) _ _ (fun _ _ _ => False) (hr.make C us kw) (I2.env0.make C us kw) (hb _ _ I2.kIn) (hv _) hq) fun r s' hq' => ?_))
  cases r with
  | error er => exact hx pins σ _ _ er s' I2 hq'
  | ok fl =>
    cases fl with
    | ret u =>
      obtain ⟨v, H', I3, rv, ev, q3⟩ := I2.after hq'
      subst ev
      exact ⟨rv, ⟨V.ref (hp.objs.size + 1), H', I3, rfl, q3⟩⟩
    | next => exact False.elim hq'
    | brk => exact False.elim hq'
    | cont => exact False.elim hq'
theorem pe_exv (T : OexC X.K C) (iC : PySem.W.findIn X.K (.ref C) "__init__" = some (some (.ref fI))) (tI : PySem.W.typeIn X.K (.ref fI) = some (.type "function"))
    (F1 : FnOk X.prog X.w X.K X.mg X.base CX k fI fd ps sp) (hr : Room (k + 1) X.A) (hb : Binds X.K fd ps []) (hx : Passes CX X (fun _ _ _ => False)) (hg : Gl X x) (hm : X.mg x = some (.ref C)) (ha : PA X (e :: es) t)
    (hdb : (x == ("__debug__" : Str)) = false := by decide) (he : starEach (e :: es) X.env = (false, eval e X.env) :: starEach es X.env := by rfl) (hpl : (backTo pos (starEach es X.env)).any (·.1) = false := by rfl) :
    PE X (.Call (.Name x p) (e :: es) [] pos) (tMkV C sp t) := by
  refine ⟨fun pins s σ H Q I h => ?_⟩
  refine wpAny_Call_Name_kw (ld_glob I hg hm ?_ hdb)
  refine PySem.W.callWith_K (h₀ := X.base) I.ok.mod.kin T.kC (thn (ha.run pos pins s σ H _ I h) fun us s1 ⟨vs, H1, I1, r1, hz, q1⟩ => ⟨I1.kIn, ?_⟩) he hpl
  have hus : us.length ≤ sizeLine := by
    rw [← Paired.length r1, sizeLine_eq]
    omega
  have hl : (us.length + 1) = ps.length := by
    have z := F1.len _ _ _ _ (q1 _ (I1.hok.fresh (Nat.le_refl s1.heap.objs.size)))
    rw [← z, List.length_cons, r1.length]
  refine run_exv (kw := []) (all := fun a => .ref a :: vs) (alls := fun a => a :: us) T iC tI F1 hr hx I1 hus (fun s a kin => ?_) (fun a => .cons rfl r1) q1
  have b := hb s (.ref a :: us) kin (by rw [List.append_nil]; exact hl)
  rw [List.append_nil] at b
  exact b
theorem pe_exv0 (T : OexC X.K C) (iC : PySem.W.findIn X.K (.ref C) "__init__" = some (some (.ref fI))) (tI : PySem.W.typeIn X.K (.ref fI) = some (.type "function"))
    (F1 : FnOk X.prog X.w X.K X.mg X.base CX k fI fd ps sp) (hr : Room (k + 1) X.A) (hb : Binds X.K fd ps []) (hx : Passes CX X (fun _ _ _ => False)) (hg : Gl X x) (hm : X.mg x = some (.ref C))
    (hdb : (x == ("__debug__" : Str)) = false := by decide) : PE X (.Call (.Name x p) [] [] pos) (tMkV C sp tNil) := by
  refine ⟨fun pins s σ H Q I h => ?_⟩
  refine wpAny_Call_Name_kw (ld_glob I hg hm ?_ hdb)
  have h : ([] : List V).length ≤ 1000 ∧ ∀ a, H a = none → sp (.ref a :: []) (upd H a (exo a C none)) (fun v H2 => v = .non ∧ Q (.ref a) H2) (fun _ _ _ => False) := h
  refine PySem.W.callWith_K0 I.kIn T.kC ?_
  have hl : 1 = ps.length := (F1.len _ _ _ _ (h.2 _ (I.hok.fresh (Nat.le_refl s.heap.objs.size)))).symm ▸ rfl
  refine run_exv (kw := []) (us := []) (all := fun a => [.ref a]) (alls := fun a => [a]) T iC tI F1 hr hx I (Nat.zero_le _) (fun s a kin => ?_) (fun a => .cons rfl .nil) h.2
  have b := hb s [.ref a] kin (by rw [List.append_nil]; exact hl)
  rw [List.append_nil] at b
  exact b
theorem pe_exvK (T : OexC X.K C) (iC : PySem.W.findIn X.K (.ref C) "__init__" = some (some (.ref fI))) (tI : PySem.W.typeIn X.K (.ref fI) = some (.type "function"))
    (F1 : FnOk X.prog X.w X.K X.mg X.base CX k fI fd ps sp) (hr : Room (k + 1) X.A) (hb : KB X.K fd ps ks 1 g gV) (hx : Passes CX X (fun _ _ _ => False)) (hg : Gl X x) (hm : X.mg x = some (.ref C)) (hkw : PK X kws tk)
    (hall : (backToKw pos (keywordEach kws X.env)).all (·.1.isSome) = true := by rfl)
    (hks : (backToKw pos (keywordEach kws X.env)).filterMap (·.1) = ks := by rfl) (hdb : (x == ("__debug__" : Str)) = false := by decide)
    (hpl : ((backTo pos (starEach [] X.env)).any (·.1) || (backToKw pos (keywordEach kws X.env)).any (·.1.isNone)) = false := by rfl) :
    PE X (.Call (.Name x p) [] kws pos) (tMkVK C sp gV ks.length tk) := by
  refine ⟨fun pins s σ H Q I h => ?_⟩
  refine wpAny_Call_Name_kw (ld_glob I hg hm ?_ hdb)
  refine PySem.W.callWith_KW0 (h₀ := X.base) I.ok.mod.kin T.kC hall ?_ hpl
  refine thn (hkw.run pos pins s σ H _ I h) fun ws s2 ⟨zs, H2, I2, rz, l1, l2⟩ => ⟨I2.kIn, ?_⟩
  rw [hks]
  exact run_exv (us := []) (kw := ks.zip ws) (all := fun a => gV [.ref a] zs) (alls := fun a => g [a] ws) T iC tI F1 hr hx I2 (Nat.zero_le _) (fun s a kin => hb.to s [.ref a] ws kin rfl (rz.length.symm.trans l1)) (fun a => hb.rel (vs := [.ref a]) rfl l1 (.cons rfl .nil) rz) l2
end
end Gs

set_option Elab.async false
set_option linter.all false
set_option maxRecDepth 100000
set_option maxHeartbeats 4000000
/-! Layer G17: an exception that is caught and kept; an own class's __init__ that is ValueError's. -/
namespace Gs
open PySem PySem.Spec PyProof.Rows L2
section
variable {X : Cx} {pins : List (Addr × Obj)} {σ : L2.St} {H : Hp} {s : Shared} {D : Ends}
theorem ext_own {φ : Heap → Prop} {x : Addr} : HO.ext φ ≠ .own x := fun z => nomatch z
/-- what was pinned is tracked from now on -/
theorem inv_track {a : Addr} {ob : Obj} {u : HO} (I : Inv X ((a, ob) :: pins) σ H s) (hx : X.ex = []) (hn : X.s_0.heap.get? a = none) (hp : ∀ p ∈ X.pn ++ pins, p.1 ≠ a) (ok : ObjOk X.prog X.w (upd H a u) s.heap a u) : Inv X pins σ (upd H a u) s := by
  obtain ⟨q1, q2, q3, q4, q5⟩ := I.pin (a, ob) (List.mem_append_right _ List.mem_cons_self)
  have q1 : s.heap.get? a = some ob := q1
  have q2 : H a = none := q2
  have q3 : a ≠ X.env.locals := q3
  have q5 : ∀ v, ob.data ≠ .cell v := q5
  refine ⟨I.ok, I.os, I.bare, ?_, I.loc, I.cell, ?_, fun x c e => ?_, fun p hm => ?_, fun b o e => ?_, I.len⟩
  · refine ⟨I.base.keep, I.base.slot, fun b o e n hb => ?_, I.base.there, fun b xs e => ?_, fun b o v e => ?_, fun b ps e => ?_⟩
    · have nb : b ≠ a := fun z => by rw [z, hn] at e; cases e
      rw [upd_ne nb]; exact I.base.free b o e n hb
    · have z := I.base.tups b xs e
      rw [upd_ne (ne_of_none z q2)]; exact z
    · have z := I.base.frzs b o v e
      rw [upd_ne (ne_of_none z q2)]; exact z
    · obtain ⟨m, z⟩ := I.base.tbls b ps e
      exact ⟨m, by rw [upd_ne (ne_of_none z q2)]; exact z⟩
  · rw [upd_ne (Ne.symm q3)]; exact I.free
  · have nc : c ≠ a := fun z => by
      obtain ⟨v, hv⟩ := I.cell x c e
      obtain ⟨o, e1, e2⟩ := hv
      rw [z, q1] at e1; cases e1
      exact q5 _ e2
    rw [upd_ne nc]; exact I.freeC x c e
  · have hm' : p ∈ X.pn ++ (a, ob) :: pins := (List.mem_append.mp hm).elim (fun z => List.mem_append_left _ z) fun z => List.mem_append_right _ (List.mem_cons_of_mem _ z)
    obtain ⟨r1, r2, r3, r4, r5⟩ := I.pin p hm'
    exact ⟨r1, by rw [upd_ne (hp p hm)]; exact r2, r3, r4, r5⟩
  · by_cases hb : b = a
    · subst hb
      rw [upd_same] at e; cases e
      exact ok
    · rw [upd_ne hb] at e
      exact (I.hok b o e).stay (fun c v _ r => r) (fun c r => by rw [upd_ne (ne_of_none r q2)]; exact r) fun c xs r => by rw [upd_ne (ne_of_none r q2)]; exact r
/-- what the clause wishes: n slots, i that of the name -/
def oneK (n : Nat) (K : PySem.W.Frag) (c : Value) (i : Nat) (ts : Addr → Value → Option Addr → TS) : Catch := fun D W cls d σ H => ∃ b, PySem.W.exmOne K cls c = some b ∧
  (b = true → σ.length = n → ∀ a, H a = none → ts a cls d { nx := fun σ' H' => D.nx (σ'.set i none) (upd H' a (exv a cls d)), rt := fun v H' => D.rt v (upd H' a (exv a cls d)), bk := fun σ' H' => D.bk (σ'.set i none) (upd H' a (exv a cls d)), ct := fun σ' H' => D.ct (σ'.set i none) (upd H' a (exv a cls d)) } (σ.set i (some (.ref a))) H) ∧ (b = false → W cls d σ H)
/-- try: body, except .. as ..: .., the exception kept -/
theorem ps_tryK {body : List Stmt} {pos : Pos} {tb : WX → TS} {W₀ : WX} {x n : Str} {i : Nat} {c : Value} {ts : Addr → Value → Option Addr → TS} {b₀ : Stmt} {su : List Stmt} {q q' : Pos} (hs : X.stack = X.env :: X.outer) (hf : X.env.frame = some X.env.locals) (hex : X.ex = []) (tk : Takes X W₀)
    (hb : ∀ (W : WX) (pn : List (Addr × Obj)) (xe : Value → Shared → Prop), Takes (X.tr pn xe) W → PassesOwn (model X.prog X.w) X.A X.env xe → PSs (X.tr pn xe) body (tb W))
    (nc : Names X x c) (hN : X.N.Nodup) (hi : X.N[i]? = some n) (ln : X.env.kindOf n = some .local)
    (hsu : ∀ (a : Addr) (ob : Obj) (cls : Value) (d : Option Addr) (pn : List (Addr × Obj)), Zc cls d ob → (∃ vs, ob.data = .fields vs) → PSs (X.suite a ((a, ob) :: pn)) (b₀ :: su) (ts a cls d)) :
    PS X (.Try body [.ExceptHandler (some (.Name x q)) (some n) (b₀ :: su) q'] [] [] pos) (fun D σ H => tb (oneK X.N.length X.K c i ts D W₀) D σ H) := by
  refine ⟨fun pins s σ H D I h => ?_⟩
  have ok := I.ok
  have frm : X.A.frames = some (X.env :: X.outer) := by rw [ok.frames, hs]
  refine wpAny_Try_except (wpAny_mono ((hb (oneK X.N.length X.K c i ts D W₀) (X.pn ++ pins) (fun e s₁ => wpAny (model X.prog X.w) X.A (noteFrame e X.env) (fun _ s₂ => wpAny (model X.prog X.w) X.A (setFlight e none)
    (fun _ s₃ => wpAny (model X.prog X.w) X.A (handleBy e X.env [.ExceptHandler (some (.Name x q)) (some n) (b₀ :: su) q']) (SP X pins D) X.xe s₃) X.xe s₂) X.xe s₁) (fun u s₁ caught => ?_) PassesOwn.looking).run [] s σ H D (I.toTry _) h) (fun f s₁ hsp => ?_) (fun _ _ z => z))
  rotate_left
  · cases f with
    | next => obtain ⟨σ', H', J, z⟩ := hsp; exact wpAny_execs_nil ⟨σ', H', J.ofTry ok, z⟩
    | brk => obtain ⟨σ', H', J, z⟩ := hsp; exact ⟨σ', H', J.ofTry ok, z⟩
    | cont => obtain ⟨σ', H', J, z⟩ := hsp; exact ⟨σ', H', J.ofTry ok, z⟩
    | ret u => obtain ⟨v, σ', H', J, rv, z⟩ := hsp; exact ⟨v, σ', H', J.ofTry ok, rv, z⟩
  obtain ⟨a, B, sI, pins', σ', H', cls, d, rfl, J', nb, up, sky, na, os, ag, wish⟩ := caught
  have J : Inv X pins σ' H' sI := J'.ofTry ok
  have sky : Sky B (X.env :: X.outer) a (Zc cls d) X.env.locals s₁.heap := by rw [← hs]; exact sky
  show wpAny (model X.prog X.w) X.A (noteFrame (.ref a) X.env) _ _ _
  refine Sky.land Zc.steady frm hf sky fun h₃ fl up₃ => ?_
  have up₃ := up.trans up₃
  obtain ⟨ob, vs, hob, hz, hd⟩ := fl.there
  have apart : ∀ {g : Heap} {o : Obj} {us : Array Value}, g.FunFrames B (X.env :: X.outer) → g.get? a = some o → o.data = .fields us → a ∉ frs (X.env :: X.outer) := by
    intro g o us ff e de hm
    obtain ⟨_, o', e', no⟩ := ff.mem hm
    rw [e] at e'
    cases e'
    exact no _ de
  have nfr := apart fl.2.2.1 hob hd
  have nL : a ≠ X.env.locals := fun z => nfr (List.mem_filterMap.mpr ⟨X.env, List.mem_cons_self, by rw [hf, z]⟩)
  have nF : a ∉ X.fs := fun hm => by
    obtain ⟨e, he, z⟩ := List.mem_filterMap.mp hm
    exact nfr (List.mem_filterMap.mpr ⟨e, List.mem_cons_of_mem _ he, z⟩)
  -- the exception is new
  have nI : sI.heap.get? a = none := by
    cases e : sI.heap.get? a with
    | none => rfl
    | some o =>
      have z := nb a o e (by rw [hs]; exact nfr)
      rw [fl.2.1] at z; cases z
  have n0 : X.s_0.heap.get? a = none := by
    cases e : X.s_0.heap.get? a with
    | none => rfl
    | some o =>
      obtain ⟨o', z⟩ := J.base.there a o e (by rw [hex]; exact List.not_mem_nil)
      rw [nI] at z; cases z
  have np : ∀ p ∈ X.pn ++ pins, p.1 ≠ a := fun p hp z => by
    have y := (J.pin p hp).1
    rw [z, nI] at y; cases y
  have J₃ : Inv X pins σ' H' { s₁ with heap := h₃ } := J.landed nb fl.1 up₃ os ag
  have S₃ := J₃.suite hob hd na nL nF
  have looks : PySem.W.Looks (model X.prog X.w) h₃ (typeOf (.ref a)) cls := fun A Q E s k z => wpAny_typeOf_ref (k _ _ hob) (by rw [hz.1]; exact z)
  -- the class that a clause names
  have named : ∀ {x : Str} {c : Value} {q : Pos} {Q : Value → Shared → Prop} {E : Value → Shared → Prop}, Names X x c → Q c { s₁ with heap := h₃ } →
      wpAny (model X.prog X.w) (X.A.mark (some (.ref a))) (eval (.Name x q) X.env) Q E { s₁ with heap := h₃ } := by
    intro x c q Q E nc hq
    obtain ⟨hg, dbg, m | ⟨m, boot, nn⟩⟩ := nc
    · exact ld_glob (X := X.suite a ((a, ob) :: (X.pn ++ pins))) S₃ hg m hq dbg
    · exact ld_blt (X := X.suite a ((a, ob) :: (X.pn ++ pins))) S₃ hg m boot hq nn dbg
  obtain ⟨b, hb1, yes, no⟩ := wish
  refine wpAny_handleBy_cons (codeAny_handlers_test ?_) (by intro z; cases z)
  refine named nc ((PySem.W.exm_one (M := model X.prog X.w) J₃.kIn looks hb1).here ?_)
  cases b with
  | false =>
    have wish := no rfl
    refine wpAny_handleBy_nil ?_
    obtain ⟨_, _, _, oe, us, T, oT, ts', he, _, hde, h1, _⟩ := id fl
    unfold PySem.passOn
    refine wpAny_bind (wpAny_field he hde h1 ?_)
    rw [if_neg (by simp)]
    have fin : wpAny (model X.prog X.w) X.A (setFlight (.ref a) X.env.frame) (fun _ s₄ => wpAny (model X.prog X.w) X.A (throw (.ref a) : Sem Flow) (SP X pins D) X.xe s₄) X.xe { s₁ with heap := h₃ } := by
      rw [hf]
      refine HandSPX.setFlight_upZ fl fun h₄ sk up₄ => wpAny_throw (tk _ _ ?_)
      exact ⟨a, B, sI, pins, σ', H', cls, d, rfl, J, nb, up₃.trans up₄, .inr (.inr (by rw [hs]; exact sk)), na, os, ag, wish⟩
    first
      | exact wpAny_bind (wpAny_pure (wpAny_bind fin))
      | exact wpAny_bind fin
  | true =>
    refine codeAny_handlers_suite_as ?_
    refine HandSPX.lands_againZ fl fun h₄ fl₄ up₄ => ?_
    obtain ⟨ob4, us4, e4, z4, d4⟩ := fl₄.there
    have J₄ : Inv X pins σ' H' { s₁ with heap := h₄ } := J.landed nb fl₄.1 (up₃.trans up₄) os ag
    have S₄ := J₄.suite e4 d4 na nL nF
    -- behind the suite: pinned, the name gone, then tracked
    have gone : ∀ {σ6 : L2.St} {H6 : Hp} {s6 : Shared} {Q : Shared → Prop}, Inv (X.suite a ((a, ob4) :: (X.pn ++ pins))) [] σ6 H6 s6 → (∀ s7, Inv X pins (σ6.set i none) (upd H6 a (exv a cls d)) s7 → Q s7) →
        wpAny (model X.prog X.w) X.A (do bindName X.env n .none; unbindBehindTheSuite X.env n q') (fun _ s7 => Q s7) X.xe s6 := by
      intro σ6 H6 s6 Q S6 hq
      have P6 : Inv X ((a, ob4) :: pins) σ6 H6 s6 := (S6.unsuite ok).pins_of fun p hp => by
        rcases List.mem_cons.mp hp with e | e
        · subst e
          exact S6.pin (a, ob4) (List.mem_append_left _ List.mem_cons_self)
        · exact (S6.unsuite ok).pin p (List.mem_append_right _ e)
      refine gone_ok P6 hN hi ln fun s7 J7 => hq s7 (inv_track J7 hex n0 np ?_)
      have e7 := (J7.pin (a, ob4) (List.mem_append_right _ List.mem_cons_self)).1
      exact exv_ok e7 z4 ⟨_, d4⟩
    refine store_ok (X := X.suite a ((a, ob4) :: (X.pn ++ pins))) (v := .ref a) S₄ hN hi (.inl ln) rfl (fun s5 S5 => ?_) (.inr ln)
    refine wpAny_mono ((hsu a ob4 cls d (X.pn ++ pins) z4 ⟨_, d4⟩).run [] s5 _ H' _ S5 (yes rfl J.len a na)) (fun f s6 hsp => ?_) (fun _ _ z => z.elim)
    cases f with
    | next => obtain ⟨σ6, H6, S6, z⟩ := hsp; exact gone S6 fun s7 J7 => ⟨_, _, J7, z⟩
    | brk => obtain ⟨σ6, H6, S6, z⟩ := hsp; exact gone S6 fun s7 J7 => ⟨_, _, J7, z⟩
    | cont => obtain ⟨σ6, H6, S6, z⟩ := hsp; exact gone S6 fun s7 J7 => ⟨_, _, J7, z⟩
    | ret u => obtain ⟨v, σ6, H6, S6, rv, z⟩ := hsp; exact gone S6 fun s7 J7 => ⟨_, _, _, J7, rv, z⟩
end
/-! ### B.__init__(self, ..), B an own class whose __init__ is ValueError's -/
structure BInit (K : PySem.W.Frag) (C : Addr) : Prop where
  rd : PySem.W.readsIn K C (.type "type") = true
  ga : PySem.W.specialIn K (.ref C) "__getattribute__" = some (some (.builtin "type.__getattribute__"))
  at_ : PySem.W.findCls K (.ref C) (.type "type") "__init__" = some (.val (.builtin "ValueError.__init__"))
theorem pe_finit {X : Cx} {x : Str} {C : Addr} {e : Expr} {es : List Expr} {ta : TA} {p1 p2 pos : Pos} {pl : Sem Bool} (hg : Gl X x) (hm : X.mg x = some (.ref C)) (Z : BInit X.K C) (ha : PA X (e :: es) ta) (hdb : (x == ("__debug__" : Str)) = false := by decide)
    (hc : eval (.Call (.Attribute (.Name x p1) "__init__" p2) (e :: es) [] pos) X.env = (do
      let ov ← eval (.Name x p1) X.env
      standAt p2.atName
      let (f, first) ← holding [ov] (getMethod ov "__init__" pl)
      callWith pos f first (backTo pos (starEach (e :: es) X.env)) (backToKw pos (keywordEach [] X.env))) := by rfl)
    (he : starEach (e :: es) X.env = (false, eval e X.env) :: starEach es X.env := by rfl) (hpl : (backTo pos (starEach es X.env)).any (·.1) = false := by rfl) :
    PE X (.Call (.Attribute (.Name x p1) "__init__" p2) (e :: es) [] pos) (tVeI X.K ta) := by
  refine ⟨fun pins s σ H Q I h => ?_⟩
  refine PySem.W.methodCall_KW (ld_glob I hg hm ?_ hdb) hc
  refine PySem.W.method_cls I.kIn Z.ga (PySem.W.cls_value I.kIn Z.rd Z.at_ rfl ?_)
  show wpAny _ _ (callWith pos (Value.builtin "ValueError.__init__") [] (backTo pos (starEach (e :: es) X.env)) []) _ _ _
  refine PyProof.Rows.callWith_method1 (thn (ha.run pos pins _ σ H _ (I.tok _) h) fun us s1 ⟨vs, H1, I1, r1, a, C, ws, ev, hl, T, ea, q⟩ => ?_) he hpl
  subst ev
  cases r1 with
  | @cons _ u0 _ ur ra rw' =>
    obtain rfl : u0 = Value.ref a := ra
    have hlen : ur.length ≤ sizeLine := by
      rw [← Paired.length rw', sizeLine_eq]
      omega
    exact oinit_ok T I1 ea hlen fun s' J => ⟨.non, H1, J, rfl, q⟩
end Gs

set_option Elab.async false
set_option linter.all false
set_option maxRecDepth 100000
set_option maxHeartbeats 4000000
namespace Gs
open PySem PySem.Spec PyProof.Rows L2
theorem tabs_none {P : Addr} {q : Str} {H : Hp} (h : H P = some (.tbl #[])) : LamX.Tabs [(P, q)] H := fun p hp => by
  rw [List.mem_singleton.mp hp]
  exact LamX.TabS.nil h
section
variable {P : Program} {w : World} {K : PySem.W.Frag} {mg mb : Str → Option Value} {CX : CXT} {k : Nat} {fa a cc T : Addr} {fd : FuncData} {x : Str} {sp : Sp}
  {s₁ : Shared} {vs : List Value} {ns : List Int}
/-- the law's call where one code object has an empty table -/
theorem law_callGT (KX : K.In s₁.heap) (hns : s₁.heap.Ns mainGlobals mg) (hb : s₁.heap.Ns builtinsNs mb) (hbb : ∀ x : Str, x ≠ "__name__" → mb x = bootBuiltins x)
    (hlim : s₁.heap.NoLimit) (hg : s₁.gens = #[]) (hT : s₁.heap.get? T = some { cls := .none, data := .fields #[] }) (nT : K.lookup T = none) (C : PySem.W.CodeHd s₁.heap cc T)
    (hbm : ∃ (bm : Addr) (ob : Obj), mg "__builtins__" = some (.ref bm) ∧ bm ≠ builtinsNs ∧ s₁.heap.get? bm = some ob ∧ ob.cls = .type "module" ∧ ob.dict = some builtinsNs ∧ ob.data = .plain)
    (ha : s₁.heap.get? a = some { cls := .type "list", data := .seq vs.toArray }) (hi : IntsAre vs ns) (hl : ns.length ≤ sizeLine)
    (hr : Room k callerA) (F : ∀ base : Heap, K.In base → base.Ns mainGlobals mg → LamX.TabB base mg cc T → FnG P w K mg base CX k fa fd [x] sp)
    (hbind : ∀ (s : Shared) (u : Value), BindsTo s fd ⟨[u], []⟩ [(x, u)])
    (hsp : ∀ H : Hp, H T = some (.tbl #[]) → SqL K H a (ns.map V.int) → sp [.ref a] H (fun v _ => v = .bl true) fun _ _ _ => False)
    (hCX : ∀ H e s', CX [] H s₁ (fun _ _ _ => False) e s' → False) :
    codeAny (model P w) callerA (.call (.ref fa) ⟨[.ref a], []⟩)
      (fun r s' => r = .ok (.ret (.bool true)) ∧ OldK s₁.heap s'.heap ∧ s'.os = s₁.os ∧ AllBare s'.gens) s₁ := by
  have rv := vals_ints hi
  have nV := hi.length
  have aT : a ≠ T := fun z => by rw [z, hT] at ha; cases ha
  -- H knows the table, and perhaps the script, which is frozen
  have go : ∀ H : Hp, (∀ b, H b = none ∨ (b = a ∧ K.lookup b = none ∧ ∃ o ys, H b = some (.frz o (.lst ys))) ∨ b = T) → H T = some (.tbl #[]) → SqL K H a (ns.map V.int) → HOk P w H s₁.heap →
      codeAny (model P w) callerA (.call (.ref fa) ⟨[.ref a], []⟩)
        (fun r s' => r = .ok (.ret (.bool true)) ∧ OldK s₁.heap s'.heap ∧ s'.os = s₁.os ∧ AllBare s'.gens) s₁ := by
    intro H hO hHT hS hok
    have unk : ∀ {b : Addr} {o : Obj}, s₁.heap.get? b = some o → o.data ≠ .seq vs.toArray → o.data ≠ .fields #[] → H b = none := by
      intro b o e nd nf
      rcases hO b with q | ⟨q, _, _⟩ | q
      · exact q
      · rw [q, ha] at e; cases e; exact absurd rfl nd
      · rw [q, hT] at e; cases e; exact absurd rfl nf
    have hid : ∀ {b : Addr} {o : Obj}, s₁.heap.get? b = some o → o.data ≠ .seq vs.toArray → o.data ≠ .fields #[] → (hidT s₁.heap H).get? b = some o := fun e n1 n2 => hidT_get e (unk e n1 n2)
    have nsH : ∀ {b : Addr} {m : Str → Option Value}, s₁.heap.Ns b m → (hidT s₁.heap H).Ns b m := by
      rintro b m ⟨o, es, ep, e, d, r⟩
      exact ⟨o, es, ep, hid e (by rw [d]; exact fun z => nomatch z) (by rw [d]; exact fun z => nomatch z), d, r⟩
    have kH : K.In (hidT s₁.heap H) := by
      intro b o e
      refine hidT_get (KX b o e) ?_
      rcases hO b with q | ⟨_, q, _⟩ | q
      · exact q
      · rw [q] at e; cases e
      · rw [q, nT] at e; cases e
    have md : Mod K mg (hidT s₁.heap H) := by
      refine ⟨kH, nsH hns, ⟨mb, nsH hb, hbb⟩, ?_⟩
      obtain ⟨mc, h1, h2⟩ := hlim
      exact ⟨mc, nsH h1, h2⟩
    have e0 : Env0 P w K mg (hidT s₁.heap H) callerA [] s₁ H := by
      refine ⟨rfl, md, fun b o e => of_hidT e, Nat.le_of_eq (hidT_size _ _), trivial, ?_, hok, .of_eq hg⟩
      intro b hb
      exact absurd (show b ∈ ([] : List Addr) from hb) (List.not_mem_nil)
    have ngT : mainGlobals ≠ T := fun z => by
      obtain ⟨o, es, ep, e, d, _⟩ := hns
      rw [z, hT] at e; cases e; cases d
    have TB : LamX.TabB (hidT s₁.heap H) mg cc T := by
      refine ⟨?_, ?_, ngT⟩
      · obtain ⟨o, us, file, tf, flags, tg, inF, text, tt, e1, r1, r2, r3, rest⟩ := C
        refine ⟨o, us, file, tf, flags, tg, inF, text, tt, hid e1 (by rw [r2]; exact fun z => nomatch z) (fun z => ?_), r1, r2, r3, rest⟩
        rw [r2] at z; cases z; simp at r3
      · obtain ⟨bm, ob, b1, b2, b3, b4, b5, b6⟩ := hbm
        refine ⟨bm, ob, b1, b2, fun z => ?_, fun z => ?_, hid b3 (by rw [b6]; exact fun z => nomatch z) (by rw [b6]; exact fun z => nomatch z), b4, b5, b6⟩
        · obtain ⟨o, es, ep, e, d, _⟩ := hns
          rw [z, e] at b3; cases b3
          rw [d] at b6; cases b6
        · rw [z, hT] at b3; cases b3; cases b6
    have run := (F _ kH (nsH hns) TB).run callerA [] s₁ H ⟨[.ref a], []⟩ [.ref a] [.ref a] _ _ hr rfl e0 (hbind s₁ (.ref a)) (.cons rfl .nil) (hsp H hHT hS)
    refine codeAny_mono run (fun r s' h => ?_)
    match r, h with
    | .error e, h => exact (hCX H e s' h).elim
    | .ok .next, h => exact h.elim
    | .ok .brk, h => exact h.elim
    | .ok .cont, h => exact h.elim
    | .ok (.ret u), h =>
      obtain ⟨v, H', os, bare, un, hok', r', q⟩ := h
      cases (show v = .bl true from q)
      cases (show u = Value.bool true from r')
      obtain ⟨more, hm⟩ := un.tbls T #[] hHT
      have gT : s'.heap.get? T = some { cls := .none, data := .fields (#[] ++ more) } := hok' T _ hm
      have keep : ∀ b o, b ≠ T → s₁.heap.get? b = some o → s'.heap.get? b = some o := fun b o nb e => by
        rcases hO b with q | ⟨_, _, ob, ys, q⟩ | q
        · exact un.keep b o e q (fun z => absurd (show b ∈ ([] : List Addr) from z) List.not_mem_nil) List.not_mem_nil
        · obtain ⟨e1, _⟩ := hok b _ q
          obtain ⟨e2, _⟩ := hok' b _ (un.frzs b ob _ q)
          rw [e] at e1; cases e1; exact e2
        · exact absurd q nb
      refine ⟨rfl, ⟨fun b o e => ?_, fun b o e => ?_⟩, os, bare⟩
      · by_cases nb : b = T
        · subst nb
          rw [hT] at e; cases e
          exact .inr (.inl ⟨(C.tab hT).isCodeTable, rfl, #[], more, rfl, gT⟩)
        · exact .inl (keep b o nb e)
      · by_cases nb : b = T
        · rw [nb]; exact ⟨_, gT⟩
        · exact ⟨o, keep b o nb e⟩
  by_cases hk : K.lookup a = none
  · have at_T : (fun b => if b = T then some (HO.tbl #[]) else if b = a then some (HO.frz { cls := .type "list", data := .seq vs.toArray } (.lst (ns.map V.int))) else none : Hp) T = some (.tbl #[]) := if_pos rfl
    have at_a : (fun b => if b = T then some (HO.tbl #[]) else if b = a then some (HO.frz { cls := .type "list", data := .seq vs.toArray } (.lst (ns.map V.int))) else none : Hp) a = some (.frz { cls := .type "list", data := .seq vs.toArray } (.lst (ns.map V.int))) := (if_neg aT).trans (if_pos rfl)
    refine go (fun b => if b = T then some (HO.tbl #[]) else if b = a then some (HO.frz { cls := .type "list", data := .seq vs.toArray } (.lst (ns.map V.int))) else none) (fun b => ?_) at_T (.inl (.inr ⟨_, at_a⟩)) (fun b u z => ?_)
    · by_cases e : b = T
      · exact .inr (.inr e)
      · by_cases e2 : b = a
        · refine .inr (.inl ⟨e2, by rw [e2]; exact hk, _, _, (if_neg e).trans (if_pos e2)⟩)
        · exact .inl ((if_neg e).trans (if_neg e2))
    · dsimp only at z
      by_cases e : b = T
      · rw [if_pos e] at z; cases z; rw [e]; exact hT
      · rw [if_neg e] at z
        by_cases e2 : b = a
        · rw [if_pos e2] at z; cases z; rw [e2]
          exact ⟨ha, by rw [List.length_map]; exact hl, vs, _, rv, ha⟩
        · rw [if_neg e2] at z; cases z
  · obtain ⟨o, ho⟩ := Option.ne_none_iff_exists'.mp hk
    have e := KX a o ho
    rw [ha] at e; cases e
    refine go (fun b => if b = T then some (.tbl #[]) else none) (fun b => ?_) (if_pos rfl) (.inr ⟨_, vs.toArray, _, ho, rfl, rfl, rfl, ?_, by simpa using rv⟩) (fun b u z => ?_)
    · by_cases e : b = T
      · exact .inr (.inr e)
      · exact .inl (if_neg e)
    · rw [List.size_toArray, nV]; exact hl
    · dsimp only at z
      by_cases e : b = T
      · rw [if_pos e] at z; cases z; rw [e]; exact hT
      · rw [if_neg e] at z; cases z
end
/-- what the head leaves, from the law's promise; one code object has a table -/
theorem walkGT {l : PySem.W.OpenLaw} {k : Nat} {q : Program} {loose : List Str} {XP : (Str → Option Value) → Heap → Prop} {YP : World → Heap → Prop} {d : DefRec}
    {K : Params → PySem.W.Frag} {sp : PySem.W.Frag → Sp} {x : Str} {T : Addr} (hn : l.most = some 63) (hdf : d.params.defaults = []) (hr : Room k callerA)
    (hY : ∀ (w : World) (h : Heap), YP w h → (K w.params).In h) (hT : ∀ (w : World) (h : Heap), YP w h → h.get? T = some { cls := .none, data := .fields #[] })
    (F : ∀ (w : World) (mg : Str → Option Value) (fa : Addr) (h : Heap), (K w.params).In h → h.Ns mainGlobals mg → mg d.name = some (.ref fa) →
      ∃ (fd : FuncData) (cc : Addr), (∀ (s : Shared) (u : Value), BindsTo s fd ⟨[u], []⟩ [(x, u)]) ∧ (K w.params).lookup T = none ∧ PySem.W.codeHdIn (K w.params) cc T = true ∧
        ∀ base : Heap, (K w.params).In base → base.Ns mainGlobals mg → LamX.TabB base mg cc T → FnG l.prog w (K w.params) mg base CX0 k fa fd [x] (sp (K w.params)))
    (hsp : ∀ (K : PySem.W.Frag) (H : Hp) (a : Addr) (ns : List Int), ns.length ≤ 63 → H T = some (.tbl #[]) → SqL K H a (ns.map V.int) → sp K [.ref a] H (fun v _ => v = .bl true) fun _ _ _ => False) :
    PySem.W.WalkO q loose XP YP l.row.toRowW d [] (fun f vs => PySem.call f vs) := by
  refine Att.attach_call hn hdf (fun w s₀ s₁ mg mb fa o pm cd doc a vs ns G Y ho hd hcd hmg hobj hints hlen hg => ?_)
  have KX := hY w _ Y
  obtain ⟨fd, cc, hb, nT, hc, hF⟩ := F w mg fa _ KX G.T.g hmg
  exact law_callGT KX G.T.g G.T.b G.T.builtins G.T.nolimit hg (hT w _ Y) nT (PySem.W.codeHd_of_K KX hc) G.T.bmain hobj hints (Nat.le_trans hlen (by decide)) hr hF hb (fun H hHT hS => hsp _ H a ns hlen hHT hS) (fun _ _ _ h => h)
end Gs

set_option Elab.async false
set_option linter.all false
set_option maxRecDepth 100000
set_option maxHeartbeats 4000000
/-! Layer G18: a lambda whose parameters have written defaults (ints), handed to a def, called without arguments. -/
namespace Gs
open PySem PySem.Spec PyProof.Rows L2
open LamX (Tabs TabB TabS CodeO ExtN inv_table among_app codeO_ne GivesTo run_ofS lamEnv lamCx)
/-- the lambda's object: its defaults at t -/
abbrev lamD (qual : Str) (params : Arguments) (body : Expr) (scope : Scope) (clos : List (Str × Addr)) (t : Addr) (doc pm : Value) (c' : Addr) (ctv : Value) : Obj := PySem.W.kdv_obj "<lambda>" qual params (.expr body) scope clos (.ref t) doc pm c' ctv
section
variable {X : Cx} {pins : List (Addr × Obj)} {σ : L2.St} {H HZ : Hp} {s s1 : Shared}
/-- the defaults are evaluated to dv, nothing else changes -/
def DefV (params : Arguments) (env : Env) (M : Model) (A : Around) (ns : List Int) : Prop :=
  params.kw_defaults = [] ∧ ∀ (s : Shared) (Q : List Value → Shared → Prop) (E : Value → Shared → Prop), (∀ dv tk, IntsAre dv ns → Q dv { s with toks := tk }) → wpAny M A (evalAll (evalEach params.defaults env)) Q E s
theorem lam_make3 {T : List (Addr × Str)} {c P : Addr} {params : Arguments} {body : Expr} {scope : Scope} {pos : Pos} {ns : List Int} {E : Value → Shared → Prop} {Q : Value → Shared → Prop} (I : Inv X pins σ H s) (TB : TabB X.base X.mg c P) (hcode : X.env.code = .ref c)
    (hm : (P, X.env.qual ++ "<lambda>") ∈ T) (hu : ∀ p ∈ T, p.1 = P → p.2 = X.env.qual ++ "<lambda>") (hT : Tabs T H) (hne : params.defaults.isEmpty = false) (hns : ns ≠ []) (hnz : ns.length ≤ 100) (hdef : DefV params X.env (model X.prog X.w) X.A ns) (hfree : ∀ y ∈ scope.names, y.2 = .free → ∃ c, X.env.cells.lookup y.1 = some c)
    (h : ∀ (f c' t : Addr) (dv : List Value) (doc pm ctv : Value) (H1 : Hp) (s' : Shared), Inv X pins σ H1 s' → ExtN H H1 → Tabs T H1 → IntsAre dv ns → s'.heap.get? t = some (PySem.W.kdv_tup dv) → H1 t = none → t ∉ frs X.stack →
      s'.heap.get? f = some (lamD (X.env.qual ++ "<lambda>") params body scope (cloFrom X.env.cells scope.names []) t doc pm c' ctv) → H1 f = none → f ∉ frs X.stack → H1 c' = some (CodeO c' (X.env.qual ++ "<lambda>")) → Q (.ref f) s') :
    wpAny (model X.prog X.w) X.A (eval (.Lambda params body scope pos) X.env) Q E s := by
  refine PySem.W.kdv_lam hne hdef.1 (hdef.2 _ _ _ fun dv tk0 hi => ?_)
  have I0 : Inv X pins σ H { s with toks := tk0 } := I.tok _
  have nofr0 : ∀ f, s.heap.objs.size ≤ f → f ∉ frs X.stack := fun f hf z => by
    rcases List.mem_cons.mp (I.stkSub _ z) with e | e
    · have h1 := I.lt
      rw [← e] at h1
      exact Nat.lt_irrefl _ (Nat.lt_of_lt_of_le h1 hf)
    · exact I.nofs hf e
  rw [makeFunction_eq]
  have dne : dv.isEmpty = false := by
    have l := hi.length
    cases dv with
    | nil => exact absurd (List.length_eq_zero_iff.mp l.symm) hns
    | cons _ _ => rfl
  simp only [List.zip_nil_right, List.filterMap_nil, List.isEmpty_nil, if_true, pure_bind, dne, Bool.false_eq_true, if_false]
  refine wpAny_bind (wpAny_newTextTuple ?_)
  have I1 : Inv X pins σ H { s with heap := s.heap.push (PySem.W.kdv_tup dv), toks := tk0 } := I.kept fun b o e => Heap.get?_push_of_some _ e
  have tn : H s.heap.objs.size = none := I.hok.fresh (Nat.le_refl _)
  have tg : (s.heap.push (PySem.W.kdv_tup dv)).get? s.heap.objs.size = some (PySem.W.kdv_tup dv) := Heap.get?_push_size _ rfl
  have tf := nofr0 s.heap.objs.size (Nat.le_refl _)
  obtain ⟨s0, hs0⟩ : ∃ s0 : Shared, s0 = { s with heap := s.heap.push (PySem.W.kdv_tup dv), toks := tk0 } := ⟨_, rfl⟩
  have sz0 : s.heap.objs.size < s0.heap.objs.size := by rw [hs0]; show _ < (s.heap.push _).objs.size; rw [Heap.size_push]; exact Nat.lt_succ_self _
  have tg : s0.heap.get? s.heap.objs.size = some (PySem.W.kdv_tup dv) := by rw [hs0]; exact tg
  rw [← hs0] at I1
  show wpAny _ _ _ _ _ { s with heap := s.heap.push (PySem.W.kdv_tup dv), toks := tk0 }
  rw [← hs0]
  clear hs0 I0
  obtain ⟨ps, hP, ht, ha⟩ := hT _ hm
  have bP : s0.heap.BuiltinsAt X.mg P := TB.bm.keeps I1.bk
  have hP' : s0.heap.get? P = some { cls := .none, data := .fields ps } := I1.hok P _ hP
  have nofr : ∀ f, s0.heap.objs.size ≤ f → f ∉ frs X.stack := fun f hf z => nofr0 f (Nat.le_trans (Nat.le_of_lt sz0) hf) z
  cases hc : codeAmong pos ps.toList with
  | none =>
    refine PySem.W.kdv_makeTail (mg := X.mg) (c := c) (P := P) (ps := ps) (closure_ok hfree) I1.ok.glob (I1.mod.glob.keeps I1.bk) hcode (TB.code.keeps I1.bk) hP' ht hc TB.gP bP fun c' ctv doc h' tk hx hge hlt hrec htb => ?_
    obtain ⟨c2, oc, vs, t, e2, hoc, hd, hv⟩ := hrec
    cases e2
    have hsz : s0.heap.objs.size ≤ h'.objs.size := Nat.le_trans hge (Nat.le_of_lt hlt)
    have nC : H c' = none := I1.hok.fresh hge
    have J1 := inv_table (t' := tk) (more := #[rawInt pos.line, rawInt pos.col, .ref c']) (h' := h'.push (lamD (X.env.qual ++ "<lambda>") params body scope (cloFrom X.env.cells scope.names []) s.heap.objs.size doc ((X.mg "__name__").getD .none) c' ctv)) I1 hP
      (fun b o hb e => Heap.get?_push_of_some _ (hx b o hb e)) (Heap.get?_push_of_some _ htb) hge ⟨oc, vs, t, Heap.get?_push_of_some _ hoc, hd, hv⟩
    have hE : ExtN H (upd (upd H P (.tbl (ps ++ #[rawInt pos.line, rawInt pos.col, .ref c']))) c' (CodeO c' (X.env.qual ++ "<lambda>"))) := fun b o e n => by
      rw [upd_ne (ne_of_none e nC), upd_ne (fun z => n ps (Option.some.inj (e.symm.trans (by rw [z]; exact hP))))]
      exact e
    have eL : (ps ++ #[rawInt pos.line, rawInt pos.col, .ref c']).toList = ps.toList ++ [rawInt pos.line, rawInt pos.col, .ref c'] := by simp
    have ntP : s.heap.objs.size ≠ P := fun z => by rw [z, hP] at tn; cases tn
    have ntc : s.heap.objs.size ≠ c' := Nat.ne_of_lt (Nat.lt_of_lt_of_le sz0 hge)
    refine h h'.objs.size c' s.heap.objs.size dv doc ((X.mg "__name__").getD .none) ctv _ _ J1 hE (fun p hp => ?_) hi (Heap.get?_push_of_some _ (hx _ _ ntP tg)) (by rw [upd_ne ntc, upd_ne ntP]; exact tn) tf (Heap.get?_push_size _ rfl) ?_ (nofr _ hsz) upd_same
    · by_cases hb : p.1 = P
      · rw [hu p hp hb, hb]
        refine ⟨_, by rw [upd_ne (ne_of_none hP nC), upd_same], by rw [eL]; exact PySem.TriplesOk_snoc _ _ _ _ ht, fun p' cv hcv => ?_⟩
        rw [eL] at hcv
        rcases among_app _ ht hcv with z | z
        · obtain ⟨c0, e1, e2⟩ := ha p' cv z
          exact ⟨c0, e1, hE _ _ e2 codeO_ne⟩
        · exact ⟨c', z, upd_same⟩
      · obtain ⟨ps', a1, a2, a3⟩ := hT p hp
        refine ⟨ps', by rw [upd_ne (ne_of_none a1 nC), upd_ne hb]; exact a1, a2, fun p' cv hcv => ?_⟩
        obtain ⟨c0, e1, e2⟩ := a3 p' cv hcv
        exact ⟨c0, e1, hE _ _ e2 codeO_ne⟩
    · have n1 : h'.objs.size ≠ c' := Nat.ne_of_gt hlt
      have n2 : h'.objs.size ≠ P := Nat.ne_of_gt (Nat.lt_of_lt_of_le (Heap.lt_size hP') hsz)
      rw [upd_ne n1, upd_ne n2]
      exact I1.hok.fresh hsz
  | some cv =>
    obtain ⟨c', e, hco⟩ := ha pos cv hc
    subst e
    refine PySem.W.kdv_makeTailHit (mg := X.mg) (c := c) (P := P) (ps := ps) (closure_ok hfree) I1.ok.glob (I1.mod.glob.keeps I1.bk) hcode (TB.code.keeps I1.bk) hP' ht hc bP fun ctv doc h' tk hx hsz => ?_
    have J1 : Inv X pins σ H { s0 with heap := h'.push (lamD (X.env.qual ++ "<lambda>") params body scope (cloFrom X.env.cells scope.names []) s.heap.objs.size doc ((X.mg "__name__").getD .none) c' ctv), toks := tk } := I1.kept fun b o e => Heap.get?_push_of_some _ (hx b o e)
    exact h h'.objs.size c' s.heap.objs.size dv doc ((X.mg "__name__").getD .none) ctv H _ J1 (ExtN.refl H) hT hi (Heap.get?_push_of_some _ (hx _ _ tg)) tn tf (Heap.get?_push_size _ rfl) (I1.hok.fresh hsz) (nofr _ hsz) hco
/-- parameters ps, none of them a name of the maker's slots; captured names and globals else -/
structure LamP (N ps : List Str) (sc scope : Scope) : Prop where
  kind : scope.kind = .function
  co : scope.isCoroutine = false
  gen : scope.isGenerator = false
  cell : ∀ y ∈ scope.names, y.2 ≠ .cell
  own : ∀ y ∈ scope.names, y.2 = .local → y.1 ∉ N
  par : ∀ y ∈ ps, scope.names.lookup y = some .local
  free : ∀ y ∈ scope.names, y.2 = .free → sc.names.lookup y.1 = some .cell ∨ sc.names.lookup y.1 = some .free
def lamPB (N ps : List Str) (sc scope : Scope) : Bool :=
  decide (scope.kind = .function) && !scope.isCoroutine && !scope.isGenerator && (scope.names.all fun y => !decide (y.2 = .cell) && (!decide (y.2 = .local) || !decide (y.1 ∈ N)) && (!decide (y.2 = .free) || decide (sc.names.lookup y.1 = some .cell) || decide (sc.names.lookup y.1 = some .free))) && ps.all fun y => decide (scope.names.lookup y = some .local)
theorem lamP_by {N ps : List Str} {sc scope : Scope} (h : lamPB N ps sc scope = true) : LamP N ps sc scope := by
  unfold lamPB at h
  simp only [Bool.and_eq_true, Bool.or_eq_true, Bool.not_eq_true', decide_eq_true_eq, decide_eq_false_iff_not, List.all_eq_true] at h
  obtain ⟨⟨⟨⟨h1, h2⟩, h3⟩, h4⟩, h5⟩ := h
  refine ⟨h1, h2, h3, fun y hy => (h4 y hy).1.1, fun y hy e => ?_, h5, fun y hy e => ?_⟩
  · rcases (h4 y hy).1.2 with z | z
    · exact absurd e z
    · exact z
  · rcases (h4 y hy).2 with (z | z) | z
    · exact absurd e z
    · exact .inl z
    · exact .inr z
theorem LamP.has {ps : List Str} {scope : Scope} (L : LamP X.N ps X.env.scope scope) (ok : X.Ok) : ∀ y ∈ scope.names, y.2 = .free → ∃ c, X.env.cells.lookup y.1 = some c := fun y hy e => by
  rcases L.free y hy e with k | k
  · exact ok.has _ (.inl k)
  · exact ok.has _ (.inr k)
theorem lam_start3 {A : Around} {outer : List Env} {E : XK} {scope : Scope} {ps : List Str} {binds : List (Str × Value)} {f c' : Addr} {h₁ : Heap} {tk : Nat} (I : Inv X pins σ H s) (L : LamP X.N ps X.env.scope scope) (e0 : Env0 X.prog X.w X.K X.mg X.base A outer s1 HZ) (hd : A.handled = none)
    (un : Un (frs X.stack) [] H HZ s.heap s1.heap) (hns : h₁.Ns s1.heap.objs.size fun y => binds.reverse.lookup y) (kp : ∀ b o, s1.heap.get? b = some o → h₁.get? b = some o) :
    Inv (lamCx X A outer s1 HZ E scope f c') [] σ HZ { s1 with heap := h₁, toks := tk } := by
  have hfree := L.has I.ok
  have cm : ∀ {y c}, (cloFrom X.env.cells scope.names []).lookup y = some c → X.env.cells.lookup y = some c := fun {y c} e => by
    rcases cloFrom_mem (PySem.mem_of_lookup e) with hm | ⟨h1, h2⟩
    · cases hm
    · obtain ⟨c1, hc⟩ := hfree _ h1 rfl
      have hc : X.env.cells.lookup y = some c1 := hc
      have e2 : c = c1 := by
        rw [h2, hc] <;> rfl
      rw [e2]
      exact hc
  have look : ∀ {y}, scope.names.lookup y = some .free → ∃ c, (cloFrom X.env.cells scope.names []).lookup y = some c := fun {y} hl => by
    have hy : (y, NameKind.free) ∈ scope.names := PySem.mem_of_lookup hl
    exact mem_lookup (cloFrom_has (cells := X.env.cells) (acc := []) hy)
  have cellK : ∀ {c : Addr} {v : Option Value}, H c = none → s.heap.IsCell c v → h₁.IsCell c v := fun {c v} n ⟨o, ho, hd⟩ => by
    obtain ⟨sl, q⟩ := un.any ho n (by simp)
    exact ⟨_, kp _ _ q, hd⟩
  have noA : ∀ b : Addr, b ∉ (lamCx X A outer s1 HZ E scope f c').ex := fun b z => absurd (show b ∈ ([] : List Addr) from z) (by simp)
  refine ⟨⟨e0.mod, L.kind, rfl, rfl, Nat.le_refl _, fun y z c e1 e2 => I.ok.inj y z c (cm e1) (cm e2), fun y hy => ?_, fun y c z _ => ?_, fun _ => hd, Around.frames_deeper e0.frames, .inr ⟨rfl, rfl⟩, fun b z => absurd z (noA b), e0.bs, e0.bsz, fun b _ _ => noA b,
      fun b z => absurd z (noA b), e0.funs, e0.frf⟩,
    rfl, e0.bare, Un.kept kp, ⟨_, hns, fun i y v e1 e2 e3 => ?_⟩, fun y c e => ?_, e0.hok.fresh (Nat.le_refl _), fun y c e => ?_, fun q hq => absurd (show q ∈ ([] : List (Addr × Obj)) ++ [] from hq) (by simp), e0.hok.kept kp, I.len⟩
  · have hy : scope.names.lookup y = some .cell ∨ scope.names.lookup y = some .free := hy
    rcases hy with hy | hy
    · exact absurd rfl (L.cell _ (PySem.mem_of_lookup hy))
    · exact look hy
  · have z : false = true := z
    cases z
  · have e3 : Vis scope y := e3
    have e1 : X.N[i]? = some y := e1
    rcases e3 with k | k | k
    · exact absurd (List.mem_of_getElem? e1) (L.own _ (PySem.mem_of_lookup k) rfl)
    · exact absurd rfl (L.cell _ (PySem.mem_of_lookup k))
    · obtain ⟨m, hn, hl⟩ := I.loc
      have hvis : Vis X.env.scope y := (L.free _ (PySem.mem_of_lookup k) rfl).elim (fun k => .inr (.inl k)) (fun k => .inr (.inr k))
      obtain ⟨w', r, q⟩ := hl i y v e1 e2 hvis
      obtain ⟨c2, h2⟩ := look k
      refine ⟨w', r, .inr ⟨.inr k, c2, h2, ?_⟩⟩
      have c1 := cm h2
      rcases q with ⟨k', _⟩ | ⟨_, c3, e', z⟩
      · have k' : X.env.scope.names.lookup y = some .local := k'
        rcases L.free _ (PySem.mem_of_lookup k) rfl with k2 | k2 <;> rw [show X.env.scope.names.lookup y = _ from k2] at k' <;> cases k'
      · rw [c1] at e'
        cases e'
        exact cellK (I.freeC y _ c1) z
  · obtain ⟨w', z⟩ := I.cell y c (cm e)
    exact ⟨w', cellK (I.freeC y c (cm e)) z⟩
  · obtain ⟨v, o, ho, hd⟩ := I.cell y c (cm e)
    exact un.free c o ho (I.freeC y c (cm e)) (by simp)
/-- how the lambda's parameters are bound by its defaults alone -/
def BindD (params : Arguments) (body : Expr) (scope : Scope) (ps : List Str) (n : Nat) : Prop := ∀ (q : Str) (cl : List (Str × Addr)) (t : Addr) (doc pm cv ctv : Value),
  ∃ k, bindArgs (PySem.W.kdv_fn "<lambda>" q params (.expr body) scope cl (.ref t) doc pm cv ctv) ⟨[], []⟩ = seqItems? (.ref t) >>= k ∧ ∀ dv : List Value, dv.length = n → k (some dv.toArray) = pure (ps.zip dv)
theorem pe_act3 {CXg : CXT} {Eg : XK} {Ng : List Str} {qg : Str} {sg : Scope} {g f c' t : Addr} {cdg doc pm ctv : Value} {params : Arguments} {body : Expr} {scope : Scope} {ps : List Str} {dv : List Value} {k i : Nat} {a : Str} {pn : List (Addr × Obj)} {xe : Value → Shared → Prop} {W : WX} {E : XK} {tb : TE} {p1 p2 : Pos}
    (I : Inv X pins σ H s) (L : LamP X.N ps X.env.scope scope) (ht : s.heap.get? t = some (PySem.W.kdv_tup dv)) (htn : H t = none) (htr : t ∉ frs X.stack)
    (hf : s.heap.get? f = some (lamD (X.env.qual ++ "<lambda>") params body scope (cloFrom X.env.cells scope.names []) t doc pm c' ctv)) (hfn : H f = none) (hfr : f ∉ frs X.stack) (hbind : BindD params body scope ps dv.length)
    (tk : Takes ((cxOf CXg X.prog X.w X.K X.mg X.base Ng qg sg g cdg X.A X.stack s H Eg).tr pn xe) W) (hW : ∀ cls d σ' H', E cls d H' → W cls d σ' H') (hr : Room (k + 1) (X.A.deeper (envOfC qg sg s.heap.objs.size g cdg)))
    (hbody : ∀ (A : Around) (outer : List Env) (s : Shared) (H : Hp), Room k (A.deeper (lamEnv X scope s.heap.objs.size f c')) → PE (lamCx X A outer s H E scope f c') body tb)
    (hN : Ng[i]? = some a) (hv : Vis sg a) (hd : (a == ("__debug__" : Str)) = false := by decide) (hcd : (a == ("__classdict__" : Str)) = false := by decide) :
    PE ((cxOf CXg X.prog X.w X.K X.mg X.base Ng qg sg g cdg X.A X.stack s H Eg).tr pn xe) (.Call (.Name a p1) [] [] p2)
      (fun σZ HZ Q => σZ[i]? = some (some (.ref f)) ∧ HZ c' = some (CodeO c' (X.env.qual ++ "<lambda>")) ∧ tb σ HZ Q) := by
  refine ⟨fun pinsZ sZ σZ HZ Q IZ h => ?_⟩
  obtain ⟨hs, hc, hq0⟩ := h
  refine wpAny_Call_Name_kw (thn ((pe_var (pos := p1) (i := i) hN hv hd hcd).run pinsZ sZ σZ HZ (fun v H1 => v = .ref f ∧ H1 = HZ) IZ ⟨.ref f, hs, rfl, rfl⟩) fun u s1 ⟨v, H1, I1, r1, q1⟩ => ?_)
  obtain ⟨ev, eH⟩ := q1
  subst ev
  rw [eH] at I1
  obtain rfl : u = Value.ref f := r1
  have nx : ∀ b : Addr, b ∉ ([] : List Addr) := fun b z => nomatch z
  have of1 : s1.heap.get? f = some (lamD (X.env.qual ++ "<lambda>") params body scope (cloFrom X.env.cells scope.names []) t doc pm c' ctv) := I1.base.keep f _ hf hfn hfr (nx f)
  have ot1 : s1.heap.get? t = some (PySem.W.kdv_tup dv) := I1.base.keep t _ ht htn htr (nx t)
  refine PySem.W.callWith_F0 ⟨_, _, _, _, of1⟩ ?_
  have un : Un (frs X.stack) [] H HZ s.heap s1.heap := I1.base
  obtain ⟨⟨oc, vs, t0, hoc, hdc, hvc⟩, _, _⟩ := I1.hok c' _ hc
  obtain ⟨kk, hb1, hb2⟩ := hbind (X.env.qual ++ "<lambda>") (cloFrom X.env.cells scope.names []) t doc pm (.ref c') ctv
  have hb : BindsTo s1 (PySem.W.kdv_fn "<lambda>" (X.env.qual ++ "<lambda>") params (.expr body) scope (cloFrom X.env.cells scope.names []) (.ref t) doc pm (.ref c') ctv) ⟨[], []⟩ (ps.zip dv) := BindsTo.of_defaults rfl ot1 rfl hb1 (hb2 dv rfl)
  have rc : codeAny (model X.prog X.w) (X.A.deeper (envOfC qg sg s.heap.objs.size g cdg)) (.call (.ref f) ⟨[], []⟩) (CR (L2.CX X.prog X.w) (envOfC qg sg s.heap.objs.size g cdg :: X.stack) X.prog X.w HZ s1 Q E) s1 := by
    refine PySem.W.kla_callFunE hr.depth of1 rfl L.co L.gen rfl ⟨c', oc, vs, t0, rfl, hoc, hdc, hvc⟩ (hb _ _ _ _ ?_)
    refine wpAny_newFunctionEnv (fun y hy => L.cell y hy) (fun y hy => L.par _ (List.of_mem_zip hy).1) (fun h₁ hns hsb => ⟨I1.nolimit.fresh _ hsb, ?_⟩) L.kind
    show codeAny _ _ (.expr body (lamEnv X scope s1.heap.objs.size f c')) _ _
    have kp : ∀ b o, s1.heap.get? b = some o → h₁.get? b = some o := fun b o e => hsb.extBut b o (Nat.ne_of_lt (Heap.lt_size e)) (Heap.get?_push_of_some _ e)
    have J : Inv (lamCx X (X.A.deeper (envOfC qg sg s.heap.objs.size g cdg)) (envOfC qg sg s.heap.objs.size g cdg :: X.stack) s1 HZ E scope f c') [] σ HZ { s1 with heap := h₁, toks := s1.toks + (ps.zip dv).length } :=
      lam_start3 I L I1.env0 hr.hd un hns kp
    refine PySem.W.kla_codeExpr (wpAny_mono ((hbody _ _ s1 HZ (hr.deeper _)).run [] _ _ HZ Q J hq0) (fun v s' hq => ?_) fun e s' hq => hq)
    obtain ⟨w', H', J', rv, q⟩ := hq
    exact ⟨w', H', J'.os, J'.bare, J'.base, J'.hok, rv, q⟩
  have hx : Passes (L2.CX X.prog X.w) ((cxOf CXg X.prog X.w X.K X.mg X.base Ng qg sg g cdg X.A X.stack s H Eg).tr pn xe) E := passes_call tk hW
  refine wpAny_call (codeAny_mono rc fun r s' hq => ?_)
  cases r with
  | error e => exact hx pinsZ σZ HZ s1 e s' I1 hq
  | ok fl =>
    cases fl with
    | ret u => exact I1.after hq
    | next => exact False.elim hq
    | brk => exact False.elim hq
    | cont => exact False.elim hq
/-- x(lambda p = n, ..: body) -/
theorem pe_lamcallD {T : List (Addr × Str)} {TT : (XK → Hp → VK → Prop) → Hp → VK → Prop} {x a : Str} {g c P : Addr} {k : Nat} {pg : Arguments} {bg : List Stmt} {sg : Scope} {dV kV doc pm cdv ct oc : Value} {an od : Option Addr} {osl : Array (Option Value)} {Ng : List Str}
    {params : Arguments} {body : Expr} {scope : Scope} {ps : List Str} {ns : List Int} {t : XK → TE} {p lpos pos : Pos} (hg : Gl X x) (hm : X.mg x = some (.ref g)) (hk : PySem.W.keepIn X.K (.ref g) = true)
    (lk : X.K.lookup g = some ⟨oc, od, .func (PySem.W.fnOf x x pg bg sg dV kV doc pm an cdv ct), osl⟩) (hcg : PySem.W.codeIn X.K cdv x = true) (hb : L2.Binds X.K (PySem.W.fnOf x x pg bg sg dV kV doc pm an cdv ct) [a] []) (Sg : FnScope Ng [a] sg) (hNg : Ng[0]? = some a) (hva : Vis sg a)
    (hG : GivesTo X Ng x sg g cdv bg a (X.env.qual ++ "<lambda>") TT)
    (TB : TabB X.base X.mg c P) (hcode : X.env.code = .ref c) (hmT : (P, X.env.qual ++ "<lambda>") ∈ T) (hu : ∀ p ∈ T, p.1 = P → p.2 = X.env.qual ++ "<lambda>") (hr : Room (k + 2) X.A) (L : LamP X.N ps X.env.scope scope)
    (hne : params.defaults.isEmpty = false) (hns : ns ≠ []) (hnz : ns.length ≤ 100) (hdef : DefV params X.env (model X.prog X.w) X.A ns) (hbind : BindD params body scope ps ns.length)
    (hbody : ∀ (A : Around) (outer : List Env) (s : Shared) (H : Hp) (E : XK) (f c' : Addr), Room k (A.deeper (lamEnv X scope s.heap.objs.size f c')) → PE (lamCx X A outer s H E scope f c') body (t E))
    (hdb : (x == ("__debug__" : Str)) = false := by decide) (hd : (a == ("__debug__" : Str)) = false := by decide) (hcd : (a == ("__classdict__" : Str)) = false := by decide) :
    PE X (.Call (.Name x p) [.Lambda params body scope lpos] [] pos) (LamX.tLam T TT t) := by
  refine ⟨fun pins s σ H Q I h => ?_⟩
  obtain ⟨hT, h⟩ := h
  refine wpAny_Call_Name_kw (ld_glob I hg hm ?_ hdb)
  refine PySem.W.callWith_K (h₀ := X.base) I.ok.mod.kin hk ?_ (by rfl) (by rfl)
  show wpAny _ _ (spliced ((false, eval (.Lambda params body scope lpos) X.env) :: backTo pos (starEach [] X.env))) _ _ s
  refine Calls.spliced_cons (lam_make3 I TB hcode hmT hu hT hne hns hnz hdef (L.has I.ok) fun f c' td dv doc' pm' ctv H1 s' I1 eN T1 hi htd htn htr hf hfn hfr hco => ?_)
  refine Calls.spliced_nil ⟨I1.kIn, ?_⟩
  have hl : dv.length = ns.length := hi.length
  have rc : codeAny (model X.prog X.w) X.A (.call (.ref g) ⟨[.ref f], []⟩) (CR C8.CX0 X.stack X.prog X.w H1 s' Q C8.E0) s' := by
    refine run_ofS (N := Ng) (ps := [a]) (us := [.ref f]) (vs := [.ref f]) lk hcg Sg hr I1.env0 (hb s' [.ref f] I1.kIn rfl) (.cons rfl .nil) rfl fun hr' => ?_
    obtain ⟨t', ht', hq'⟩ := hG f c' s' H1 Q (fun E H' Q' => t E σ H' Q') (fun W pn xe E p1 p2 tk hW => pe_act3 (i := 0) I1 L htd htn htr hf hfn hfr (by rw [hl]; exact hbind) tk hW hr' (fun A outer s H hr2 => hbody A outer s H E f c' hr2) hNg hva hd hcd) hco (h H1 eN T1)
    exact ⟨t', ht'.nox, hq'⟩
  refine wpAny_call (codeAny_mono rc fun r s2 hq => ?_)
  cases r with
  | error e => exact (show False from hq).elim
  | ok fl =>
    cases fl with
    | ret u => exact I1.after hq
    | next => exact False.elim hq
    | brk => exact False.elim hq
    | cont => exact False.elim hq
/-- one default, a written int -/
theorem defV_one {params : Arguments} {env : Env} {M : Model} {A : Around} {n : Int} {j : Nat} {q : Pos} (hk : params.kw_defaults = []) (hd : params.defaults = [.Constant (.int n) j q]) : DefV params env M A [n] := by
  refine ⟨hk, fun s Q E h => ?_⟩
  rw [hd]
  exact PySem.W.kdv_all1 (wpAny_Constant_int (PySem.W.kdv_all0 (h [_] _ (.cons _ _ .nil))))
end
end Gs

set_option Elab.async false
set_option linter.all false
set_option maxRecDepth 100000
set_option maxHeartbeats 4000000
/-! Layer G19: sorted(xs, key=lambda p: p.f) of instances of an own class whose field is a text. -/
namespace Gs
open PySem PySem.Spec PyProof.Rows L2
open LamX (Tabs TabB TabS CodeO ExtN inv_table among_app codeO_ne)
/-- the lambda's call: the field -/
theorem key_call {prog : Program} {w : World} {A : Around} {s : Shared} {K : PySem.W.Frag} {f c' x C dx : Addr} {mA : Str → Option Value} {z q p fld : Str} {t : Tok} {params : Arguments} {scope : Scope} {pm ctv : Value} {q1 q2 : Pos}
    (hroom : A.depth < recursionLimit) (X : K.In s.heap) (hf : s.heap.get? f = some (PySem.W.kla_obj "<lambda>" q params (.Attribute (.Name p q1) fld q2) scope [] pm c' ctv)) (hk : scope.kind = .function) (hco : scope.isCoroutine = false) (hgen : scope.isGenerator = false)
    (hcell : ∀ y ∈ scope.names, y.2 ≠ .cell) (hpar : scope.names.lookup p = some .local) (hcd : ∃ (oc : Obj) (vs : Array Value) (t : Tok), s.heap.get? c' = some oc ∧ oc.data = .fields vs ∧ vs[1]? = some (.str q t))
    (hbind : bindArgs (PySem.W.kla_fn "<lambda>" q params (.Attribute (.Name p q1) fld q2) scope [] pm (.ref c') ctv) ⟨[.ref x], []⟩ = pure [(p, .ref x)]) (hlim : s.heap.NoLimit) (hdb : (p == ("__debug__" : Str)) = false)
    (O : ObjM s.heap x dx C mA) (c : Cls K C) (n : NoAttr K C fld) (hu : mA fld = some (.str z t)) :
    wpAny (model prog w) A (call (.ref f) [.ref x]) (PySem.W.KeyPure (.str z) s) (fun _ _ => False) s := by
  obtain ⟨oc, vs, t0, hoc, hdc, hvc⟩ := hcd
  refine wpAny_call (PySem.W.kla_callFunE hroom hf rfl hco hgen rfl ⟨c', oc, vs, t0, rfl, hoc, hdc, hvc⟩ ?_)
  rw [hbind]
  refine wpAny_pure (wpAny_newFunctionEnv hcell (fun y hy => by rw [List.mem_singleton.mp hy]; exact hpar) (fun h₁ hns hsb => ⟨hlim.fresh _ hsb, ?_⟩) hk)
  have kp : ∀ b o, s.heap.get? b = some o → h₁.get? b = some o := fun b o e => hsb.extBut b o (Nat.ne_of_lt (Heap.lt_size e)) (Heap.get?_push_of_some _ e)
  show codeAny _ _ (.expr _ (PySem.W.envX q scope s.heap.objs.size f (.ref c') [])) _ _
  refine PySem.W.kla_codeExpr (attr_of rfl (wpAny_Name (wpAny_loadName_local (v := .ref x) hk hpar hns (by simp [List.lookup]) ?_) hdb))
  obtain ⟨ob, hn1, ne⟩ := O
  refine get_map (X.keeps kp) ⟨kp _ _ ob, hn1.at fun o e => kp _ _ e, ne⟩ (c.get fld) c.hd n hu rfl ?_
  exact ⟨h₁, _, rfl, kp, .str z t⟩
/-- a lambda as a value: nothing captured, no defaults -/
def lamF (f c' : Addr) (q : Str) (params : Arguments) (body : Expr) (scope : Scope) : HO := .ext fun h => ∃ pm ctv : Value, h.get? f = some (PySem.W.kla_obj "<lambda>" q params body scope [] pm c' ctv)
def tLamV (T : List (Addr × Str)) (q : Str) (params : Arguments) (body : Expr) (scope : Scope) : TE := fun σ H Q => Tabs T H ∧ ∀ f c' H1, ExtN H H1 → Tabs T H1 → H1 f = none → H1 c' = some (CodeO c' q) → Q (.ref f) (upd H1 f (lamF f c' q params body scope))
section
variable {X : Cx} {pins : List (Addr × Obj)} {σ : L2.St} {H : Hp} {s : Shared}
/-- a new object of the heap that nothing knew is tracked -/
theorem inv_note {s0 : Shared} {H0 : Hp} {a : Addr} {ob : Obj} {u : HO} (I0 : Inv X pins σ H0 s0) (hx : X.ex = []) (ha : s0.heap.objs.size ≤ a) (I : Inv X pins σ H s) (e : s.heap.get? a = some ob) (hn : H a = none) (hf : a ∉ frs X.stack) (hc : ∀ v, ob.data ≠ .cell v)
    (ok : ObjOk X.prog X.w (upd H a u) s.heap a u) : Inv X pins σ (upd H a u) s := by
  have out : ∀ {b : Addr} {o : Obj}, s0.heap.get? b = some o → b ≠ a := fun {b o} z => Nat.ne_of_lt (Nat.lt_of_lt_of_le (Heap.lt_size z) ha)
  have n0 : X.s_0.heap.get? a = none := by
    cases q : X.s_0.heap.get? a with
    | none => rfl
    | some o =>
      obtain ⟨o', z⟩ := I0.base.there a o q (by rw [hx]; exact List.not_mem_nil)
      exact absurd rfl (out z)
  have np : ∀ p ∈ X.pn ++ pins, p.1 ≠ a := fun p hp => out (I0.pin p hp).1
  have nL : a ≠ X.env.locals := fun z => by
    have := I0.lt
    rw [← z] at this
    exact absurd (Nat.lt_of_lt_of_le this ha) (Nat.lt_irrefl _)
  refine inv_track (ob := ob) (I.pins_of (pins' := (a, ob) :: pins) fun p hp => ?_) hx n0 np ok
  rcases List.mem_cons.mp hp with z | z
  · subst z
    exact ⟨e, hn, nL, I0.nofs ha, hc⟩
  · exact I.pin p (List.mem_append_right _ z)
theorem pe_lamV {T : List (Addr × Str)} {c P : Addr} {params : Arguments} {body : Expr} {scope : Scope} {pos : Pos} (hx : X.ex = []) (TB : TabB X.base X.mg c P) (hcode : X.env.code = .ref c)
    (hm : (P, X.env.qual ++ "<lambda>") ∈ T) (hu : ∀ p ∈ T, p.1 = P → p.2 = X.env.qual ++ "<lambda>") (hdef : defaultsOf params X.env = ([], [])) (hfree : ∀ y ∈ scope.names, y.2 ≠ .free) :
    PE X (.Lambda params body scope pos) (tLamV T (X.env.qual ++ "<lambda>") params body scope) := by
  refine ⟨fun pins s σ H Q I h => ?_⟩
  obtain ⟨hT, h⟩ := h
  have clo : cloFrom X.env.cells scope.names [] = [] := by
    cases e : cloFrom X.env.cells scope.names [] with
    | nil => rfl
    | cons y l =>
      have hy : y ∈ cloFrom X.env.cells scope.names [] := by rw [e]; exact List.mem_cons_self
      rcases cloFrom_mem (show (y.1, y.2) ∈ _ from hy) with z | ⟨z, _⟩
      · cases z
      · exact absurd rfl (hfree _ z)
  obtain ⟨ps, hP, ht, ha⟩ := hT _ hm
  refine PySem.W.kla_eval hdef ?_
  have bP : s.heap.BuiltinsAt X.mg P := TB.bm.keeps I.bk
  have hP' : s.heap.get? P = some { cls := .none, data := .fields ps } := I.hok P _ hP
  have nofr : ∀ f, s.heap.objs.size ≤ f → f ∉ frs X.stack := fun f hf z => by
    rcases List.mem_cons.mp (I.stkSub _ z) with e | e
    · have h1 := I.lt
      rw [← e] at h1
      exact Nat.lt_irrefl _ (Nat.lt_of_lt_of_le h1 hf)
    · exact I.nofs hf e
  have hfr : ∀ y ∈ scope.names, y.2 = .free → ∃ c, X.env.cells.lookup y.1 = some c := fun y hy e => absurd e (hfree y hy)
  have fin : ∀ {H1 : Hp} {s' : Shared} {f c' : Addr} {pm ctv : Value}, s.heap.objs.size ≤ f → Inv X pins σ H1 s' → ExtN H H1 → Tabs T H1 → s'.heap.get? f = some (PySem.W.kla_obj "<lambda>" (X.env.qual ++ "<lambda>") params body scope [] pm c' ctv) → H1 f = none → H1 c' = some (CodeO c' (X.env.qual ++ "<lambda>")) →
      EP X pins σ Q (.ref f) s' := fun {H1 s' f c' pm ctv} hf I1 eN T1 e n hc => by
    refine ⟨.ref f, _, inv_note (u := lamF f c' (X.env.qual ++ "<lambda>") params body scope) I hx hf I1 e n (nofr _ hf) (fun v z => nomatch z) ⟨⟨pm, ctv, e⟩, ⟨_, e⟩, fun h1 h2 ⟨a, b, z⟩ k => ⟨a, b, k _ z⟩⟩, rfl, h f c' H1 eN T1 n hc⟩
  cases hc : codeAmong pos ps.toList with
  | none =>
    refine PySem.W.kla_makeFunction (mg := X.mg) (c := c) (P := P) (ps := ps) (closure_ok hfr) I.ok.glob (I.mod.glob.keeps I.bk) hcode (TB.code.keeps I.bk) hP' ht hc TB.gP bP fun c' ctv h' tk hx' hge hlt hrec htb => ?_
    obtain ⟨c2, oc, vs, t, e2, hoc, hd, hv⟩ := hrec
    cases e2
    have hsz : s.heap.objs.size ≤ h'.objs.size := Nat.le_trans hge (Nat.le_of_lt hlt)
    have nC : H c' = none := I.hok.fresh hge
    rw [clo]
    have I1 := inv_table (t' := tk) (more := #[rawInt pos.line, rawInt pos.col, .ref c']) (h' := h'.push (PySem.W.kla_obj "<lambda>" (X.env.qual ++ "<lambda>") params body scope [] ((X.mg "__name__").getD .none) c' ctv)) I hP
      (fun b o hb e => Heap.get?_push_of_some _ (hx' b o hb e)) (Heap.get?_push_of_some _ htb) hge ⟨oc, vs, t, Heap.get?_push_of_some _ hoc, hd, hv⟩
    have hE : ExtN H (upd (upd H P (.tbl (ps ++ #[rawInt pos.line, rawInt pos.col, .ref c']))) c' (CodeO c' (X.env.qual ++ "<lambda>"))) := fun b o e n => by
      rw [upd_ne (ne_of_none e nC), upd_ne (fun z => n ps (Option.some.inj (e.symm.trans (by rw [z]; exact hP))))]
      exact e
    have eL : (ps ++ #[rawInt pos.line, rawInt pos.col, .ref c']).toList = ps.toList ++ [rawInt pos.line, rawInt pos.col, .ref c'] := by simp
    refine fin hsz I1 hE (fun p hp => ?_) (Heap.get?_push_size _ rfl) ?_ upd_same
    · by_cases hb : p.1 = P
      · rw [hu p hp hb, hb]
        refine ⟨_, by rw [upd_ne (ne_of_none hP nC), upd_same], by rw [eL]; exact PySem.TriplesOk_snoc _ _ _ _ ht, fun p' cv hcv => ?_⟩
        rw [eL] at hcv
        rcases among_app _ ht hcv with z | z
        · obtain ⟨c0, e1, e2⟩ := ha p' cv z
          exact ⟨c0, e1, hE _ _ e2 codeO_ne⟩
        · exact ⟨c', z, upd_same⟩
      · obtain ⟨ps', a1, a2, a3⟩ := hT p hp
        refine ⟨ps', by rw [upd_ne (ne_of_none a1 nC), upd_ne hb]; exact a1, a2, fun p' cv hcv => ?_⟩
        obtain ⟨c0, e1, e2⟩ := a3 p' cv hcv
        exact ⟨c0, e1, hE _ _ e2 codeO_ne⟩
    · have n1 : h'.objs.size ≠ c' := Nat.ne_of_gt hlt
      have n2 : h'.objs.size ≠ P := Nat.ne_of_gt (Nat.lt_of_lt_of_le (Heap.lt_size hP') hsz)
      rw [upd_ne n1, upd_ne n2]
      exact I.hok.fresh hsz
  | some cv =>
    obtain ⟨c', e, hco⟩ := ha pos cv hc
    subst e
    refine PySem.W.kla_makeFunctionHit (mg := X.mg) (c := c) (P := P) (ps := ps) (closure_ok hfr) I.ok.glob (I.mod.glob.keeps I.bk) hcode (TB.code.keeps I.bk) hP' ht hc bP fun ctv h' tk hx' hsz => ?_
    rw [clo]
    have I1 : Inv X pins σ H { s with heap := h'.push (PySem.W.kla_obj "<lambda>" (X.env.qual ++ "<lambda>") params body scope [] ((X.mg "__name__").getD .none) c' ctv), toks := tk } := I.kept fun b o e => Heap.get?_push_of_some _ (hx' b o e)
    exact fin hsz I1 (ExtN.refl H) hT (Heap.get?_push_size _ rfl) (I.hok.fresh hsz) hco
/-- items by their texts, ascending -/
def sortF (bs : List (Addr × Str)) : List (Addr × Str) := bs.mergeSort (PySem.W.dataLe false fun b => PyData.str b.2)
/-- what the lambda's scope must be -/
structure KeyS (params : Arguments) (p fld : Str) (q1 q2 : Pos) (scope : Scope) : Prop where
  kind : scope.kind = .function
  co : scope.isCoroutine = false
  gen : scope.isGenerator = false
  cell : ∀ y ∈ scope.names, y.2 ≠ .cell
  par : scope.names.lookup p = some .local
  bind : ∀ (q : Str) (pm c' ctv x : Value), bindArgs (PySem.W.kla_fn "<lambda>" q params (.Attribute (.Name p q1) fld q2) scope [] pm c' ctv) ⟨[x], []⟩ = pure [(p, x)]
  dbg : (p == ("__debug__" : Str)) = false
def rSortF (K : PySem.W.Frag) (q : Str) (params : Arguments) (p fld : Str) (q1 q2 : Pos) (scope : Scope) : List V → List V → Hp → VK → Prop := fun xs zs H Q => ∃ (l f c' : Addr) (bs : List (Addr × Str)), xs = [.ref l] ∧ zs = [.ref f] ∧ SqL K H l (bs.map fun b => .ref b.1) ∧
  (∀ b ∈ bs, ∃ C dx fs, H b.1 = some (.ins C dx fs) ∧ Cls K C ∧ NoAttr K C fld ∧ fs.lookup fld = some (.str b.2)) ∧ H f = some (lamF f c' q params (.Attribute (.Name p q1) fld q2) scope) ∧ H c' = some (CodeO c' q) ∧
  ∀ P, H P = none → Q (.ref P) (upd H P (.lst ((sortF bs).map fun b => .ref b.1)))
theorem each_refs : ∀ {bs : List (Addr × Str)} {us : List Value}, Vals (bs.map fun b => V.ref b.1) us → PySem.W.EachIs (fun (v : Value) (b : Addr × Str) => v = .ref b.1) us bs
  | [], _, h => by cases h; exact .nil
  | b :: bs, _, h => by
    cases h with
    | cons r t => exact .cons r (each_refs t)
theorem vals_refs : ∀ {bs : List (Addr × Str)} {us : List Value}, PySem.W.EachIs (fun (v : Value) (b : Addr × Str) => v = .ref b.1) us bs → Vals (bs.map fun b => V.ref b.1) us
  | [], _, h => by cases h; exact .nil
  | b :: bs, _, h => by
    cases h with
    | cons r t => exact .cons r (vals_refs t)
theorem cr_sortF {q p fld : Str} {params : Arguments} {q1 q2 : Pos} {scope : Scope} (hr : Room 3 X.A) (Z : KeyS params p fld q1 q2 scope) : CallRK X (.builtin "sorted") ["key"] (rSortF X.K q params p fld q1 q2 scope) := by
  intro pins s σ H xs zs us ws Q I r rz h
  obtain ⟨l, f, c', bs, rfl, rfl, hS, hb, hF, hC, k⟩ := h
  obtain ⟨u, rfl, ru⟩ := r.one
  obtain ⟨w', rfl, rw'⟩ := rz.one
  cases (show u = Value.ref l from ru)
  cases (show w' = Value.ref f from rw')
  obtain ⟨its, rv, hl, hz⟩ := I.list hS
  have lb : its.length = bs.length := by rw [← rv.length, List.length_map]
  obtain ⟨⟨pm, ctv, hf⟩, _, _⟩ := (show ObjOk X.prog X.w H s.heap f (lamF f c' q params (.Attribute (.Name p q1) fld q2) scope) from I.hok f _ hF)
  obtain ⟨⟨oc, vs, t, hoc, hd, hv⟩, _, _⟩ := (show ObjOk X.prog X.w H s.heap c' (CodeO c' q) from I.hok c' _ hC)
  have un := hr.units
  refine PySem.W.sorted_key_data (β := Addr × Str) (R := fun v b => v = .ref b.1) (b := false) (fun b => PyData.str b.2) hl.isList (each_refs rv) (fun d hd d' hd' => ?_) (.inr fun d hd => ?_) (by rw [← lb]; rw [← rv.length]; exact hz)
    (fun x _ => by show X.A.units + 2 + 0 < cLine; omega) (ksk_s1 _ _) (fun x => ksk_l1 _ _) (fun x => ksk_t1 _ _) (fun v x hR hx h tk kp => ?_) (fun out c h' tk kp fresh hD hlen he => ?_)
  · obtain ⟨x, _, rfl⟩ := List.mem_map.mp hd
    obtain ⟨y, _, rfl⟩ := List.mem_map.mp hd'
    rfl
  · obtain ⟨x, _, rfl⟩ := List.mem_map.mp hd
    exact ⟨(fun z => nomatch z), (fun xs z => nomatch z)⟩
  · subst hR
    obtain ⟨C, dx, fs, e, cl, na, lf⟩ := hb x hx
    obtain ⟨mA, ⟨ob, hn1, ne⟩, rel, _⟩ := ins_get I.hok e
    obtain ⟨u, hu, ru⟩ := RelO.some_of (v := .str x.2) (o := mA fld) (by rw [← lf]; exact rel fld)
    obtain ⟨t2, rfl⟩ := ru
    refine key_call (s := { s with heap := h, toks := tk }) hr.in1.in1.depth (I.kIn.keeps kp) (kp _ _ hf) Z.kind Z.co Z.gen Z.cell Z.par ⟨oc, vs, t, kp _ _ hoc, hd, hv⟩ (Z.bind _ _ _ _ _) (I.nolimit.keeps kp) Z.dbg ⟨kp _ _ ob, hn1.at fun o z => kp _ _ z, ne⟩ cl na hu
  · have hlen2 : (sortF bs).length = bs.length := by unfold sortF; exact List.length_mergeSort _
    refine ⟨.ref _, upd H (s.heap.objs.size + 1) (.lst ((sortF bs).map fun b => .ref b.1)), I.laid (t' := tk) kp (Nat.le_succ _) ⟨?_, out, c, vals_refs he, hD⟩, rfl, k _ (I.hok.fresh (Nat.le_succ _))⟩
    rw [List.length_map, hlen2, ← lb, ← rv.length]; exact hz
end
end Gs

set_option Elab.async false
set_option linter.all false
set_option maxRecDepth 100000
set_option maxHeartbeats 4000000
namespace K6
open PySem PySem.Spec PyProof.Rows L2 Gs
theorem szM {n : Nat} (h : n ≤ 1000000) : n ≤ sizeLine := Nat.le_trans h (by decide)
theorem szK {n : Nat} (h : n < 1000001) : n < sizeLine := Nat.lt_of_lt_of_le h (by decide)
def top (i : Nat) : Stmt := PySem.Challenge.pw_gapsame_k06_fields_and_bounds.main.body.getD i (.Pass ⟨0, 0, 0, 0⟩)
abbrev s_is_integer : Stmt := top 4
abbrev n_is_integer : List Str := ["value"]
theorem sc_is_integer : FnScope n_is_integer ["value"] (defScope s_is_integer) := ⟨rfl, rfl, rfl, by decide +kernel, rfl, by decide +kernel, by decide +kernel⟩
abbrev s_is_within : Stmt := top 5
abbrev n_is_within : List Str := ["value", "least", "most"]
theorem sc_is_within : FnScope n_is_within ["value", "least", "most"] (defScope s_is_within) := ⟨rfl, rfl, rfl, by decide +kernel, rfl, by decide +kernel, by decide +kernel⟩
abbrev s_is_list : Stmt := top 6
abbrev n_is_list : List Str := ["value"]
theorem sc_is_list : FnScope n_is_list ["value"] (defScope s_is_list) := ⟨rfl, rfl, rfl, by decide +kernel, rfl, by decide +kernel, by decide +kernel⟩
abbrev s_is_square : Stmt := top 7
abbrev n_is_square : List Str := ["value"]
theorem sc_is_square : FnScope n_is_square ["value"] (defScope s_is_square) := ⟨rfl, rfl, rfl, by decide +kernel, rfl, by decide +kernel, by decide +kernel⟩
abbrev s_is_name : Stmt := top 8
abbrev n_is_name : List Str := ["value", "sign"]
theorem sc_is_name : FnScope n_is_name ["value"] (defScope s_is_name) := ⟨rfl, rfl, rfl, by decide +kernel, rfl, by decide +kernel, by decide +kernel⟩
abbrev s_BadNumber___init__ : Stmt := inClass (top 11) 0
abbrev n_BadNumber___init__ : List Str := ["self", "part"]
theorem sc_BadNumber___init__ : FnScope n_BadNumber___init__ ["self", "part"] (defScope s_BadNumber___init__) := ⟨rfl, rfl, rfl, by decide +kernel, rfl, by decide +kernel, by decide +kernel⟩
abbrev s_BadSquare___init__ : Stmt := inClass (top 12) 0
abbrev n_BadSquare___init__ : List Str := ["self", "part"]
theorem sc_BadSquare___init__ : FnScope n_BadSquare___init__ ["self", "part"] (defScope s_BadSquare___init__) := ⟨rfl, rfl, rfl, by decide +kernel, rfl, by decide +kernel, by decide +kernel⟩
abbrev s_BadKind___init__ : Stmt := inClass (top 13) 0
abbrev n_BadKind___init__ : List Str := ["self", "part"]
theorem sc_BadKind___init__ : FnScope n_BadKind___init__ ["self", "part"] (defScope s_BadKind___init__) := ⟨rfl, rfl, rfl, by decide +kernel, rfl, by decide +kernel, by decide +kernel⟩
abbrev s_BadGame___init__ : Stmt := inClass (top 14) 0
abbrev n_BadGame___init__ : List Str := ["self", "part"]
theorem sc_BadGame___init__ : FnScope n_BadGame___init__ ["self", "part"] (defScope s_BadGame___init__) := ⟨rfl, rfl, rfl, by decide +kernel, rfl, by decide +kernel, by decide +kernel⟩
abbrev s_Misfit___init__ : Stmt := inClass (top 16) 0
abbrev n_Misfit___init__ : List Str := ["self", "part"]
theorem sc_Misfit___init__ : FnScope n_Misfit___init__ ["self", "part"] (defScope s_Misfit___init__) := ⟨rfl, rfl, rfl, by decide +kernel, rfl, by decide +kernel, by decide +kernel⟩
abbrev s_Kind___init__ : Stmt := inClass (top 29) 0
abbrev n_Kind___init__ : List Str := ["self", "name", "leaps", "rides", "is_lord", "leap", "ride"]
theorem sc_Kind___init__ : FnScope n_Kind___init__ ["self", "name", "leaps", "rides", "is_lord"] (defScope s_Kind___init__) := ⟨rfl, rfl, rfl, by decide +kernel, rfl, by decide +kernel, by decide +kernel⟩
abbrev s_are_leaps : Stmt := top 30
abbrev n_are_leaps : List Str := ["value", "leap"]
theorem sc_are_leaps : FnScope n_are_leaps ["value"] (defScope s_are_leaps) := ⟨rfl, rfl, rfl, by decide +kernel, rfl, by decide +kernel, by decide +kernel⟩
abbrev s_is_leap : Stmt := top 31
abbrev n_is_leap : List Str := ["value", "across", "up"]
theorem sc_is_leap : FnScope n_is_leap ["value"] (defScope s_is_leap) := ⟨rfl, rfl, rfl, by decide +kernel, rfl, by decide +kernel, by decide +kernel⟩
abbrev s_is_leap_part : Stmt := top 32
abbrev n_is_leap_part : List Str := ["value"]
theorem sc_is_leap_part : FnScope n_is_leap_part ["value"] (defScope s_is_leap_part) := ⟨rfl, rfl, rfl, by decide +kernel, rfl, by decide +kernel, by decide +kernel⟩
abbrev s_are_rides : Stmt := top 33
abbrev n_are_rides : List Str := ["value", "ride"]
theorem sc_are_rides : FnScope n_are_rides ["value"] (defScope s_are_rides) := ⟨rfl, rfl, rfl, by decide +kernel, rfl, by decide +kernel, by decide +kernel⟩
abbrev s_is_ride : Stmt := top 34
abbrev n_is_ride : List Str := ["value"]
theorem sc_is_ride : FnScope n_is_ride ["value"] (defScope s_is_ride) := ⟨rfl, rfl, rfl, by decide +kernel, rfl, by decide +kernel, by decide +kernel⟩
abbrev s_Game___init__ : Stmt := inClass (top 43) 0
abbrev n_Game___init__ : List Str := ["self", "kinds", "edges", "goal", "kind", "across", "up"]
theorem sc_Game___init__ : FnScope n_Game___init__ ["self", "kinds", "edges", "goal"] (defScope s_Game___init__) := ⟨rfl, rfl, rfl, by decide +kernel, rfl, by decide +kernel, by decide +kernel⟩
abbrev s_on_field : Stmt := top 44
abbrev n_on_field : List Str := ["game", "square"]
theorem sc_on_field : FnScope n_on_field ["game", "square"] (defScope s_on_field) := ⟨rfl, rfl, rfl, by decide +kernel, rfl, by decide +kernel, by decide +kernel⟩
abbrev s_longest : Stmt := top 45
abbrev n_longest : List Str := ["game"]
theorem sc_longest : FnScope n_longest ["game"] (defScope s_longest) := ⟨rfl, rfl, rfl, by decide +kernel, rfl, by decide +kernel, by decide +kernel⟩
abbrev s_bound : Stmt := top 46
abbrev n_bound : List Str := ["game", "m"]
theorem sc_bound : FnScope n_bound ["game", "m"] (defScope s_bound) := ⟨rfl, rfl, rfl, by decide +kernel, rfl, by decide +kernel, by decide +kernel⟩
abbrev s_need_game : Stmt := top 47
abbrev n_need_game : List Str := ["value"]
theorem sc_need_game : FnScope n_need_game ["value"] (defScope s_need_game) := ⟨rfl, rfl, rfl, by decide +kernel, rfl, by decide +kernel, by decide +kernel⟩
abbrev s_are_kinds : Stmt := top 48
abbrev n_are_kinds : List Str := ["value", "kind"]
theorem sc_are_kinds : FnScope n_are_kinds ["value"] (defScope s_are_kinds) := ⟨rfl, rfl, rfl, by decide +kernel, rfl, by decide +kernel, by decide +kernel⟩
abbrev s_are_edges : Stmt := top 49
abbrev n_are_edges : List Str := ["value", "edge", "left", "right", "low", "high"]
theorem sc_are_edges : FnScope n_are_edges ["value"] (defScope s_are_edges) := ⟨rfl, rfl, rfl, by decide +kernel, rfl, by decide +kernel, by decide +kernel⟩
abbrev s_is_not_above : Stmt := top 50
abbrev n_is_not_above : List Str := ["least", "most"]
theorem sc_is_not_above : FnScope n_is_not_above ["least", "most"] (defScope s_is_not_above) := ⟨rfl, rfl, rfl, by decide +kernel, rfl, by decide +kernel, by decide +kernel⟩
abbrev s_is_goal : Stmt := top 51
abbrev n_is_goal : List Str := ["kinds", "edges", "value", "word", "words", "kind", "sides", "side", "edge"]
theorem sc_is_goal : FnScope n_is_goal ["kinds", "edges", "value"] (defScope s_is_goal) := ⟨rfl, rfl, rfl, by decide +kernel, rfl, by decide +kernel, by decide +kernel⟩
abbrev s_is_between : Stmt := top 52
abbrev n_is_between : List Str := ["edges", "square", "left", "right", "low", "high", "column", "row"]
theorem sc_is_between : FnScope n_is_between ["edges", "square"] (defScope s_is_between) := ⟨rfl, rfl, rfl, by decide +kernel, rfl, by decide +kernel, by decide +kernel⟩
abbrev s__law_flask : Stmt := top 61
abbrev n__law_flask : List Str := ["script", "cell"]
theorem sc__law_flask : FnScope n__law_flask ["script"] (defScope s__law_flask) := ⟨rfl, rfl, rfl, by decide +kernel, rfl, by decide +kernel, by decide +kernel⟩
abbrev s__law_pour : Stmt := top 62
abbrev n__law_pour : List Str := ["flask", "many", "left", "turn", "cell", "mixed"]
theorem sc__law_pour : FnScope n__law_pour ["flask", "many"] (defScope s__law_pour) := ⟨rfl, rfl, rfl, by decide +kernel, rfl, by decide +kernel, by decide +kernel⟩
abbrev s__law_sip : Stmt := top 63
abbrev n__law_sip : List Str := ["flask", "some"]
theorem sc__law_sip : FnScope n__law_sip ["flask", "some"] (defScope s__law_sip) := ⟨rfl, rfl, rfl, by decide +kernel, rfl, by decide +kernel, by decide +kernel⟩
abbrev s__law_name : Stmt := top 64
abbrev n__law_name : List Str := ["flask", "taken", "letters", "word", "turn", "first"]
theorem sc__law_name : FnScope n__law_name ["flask", "taken"] (defScope s__law_name) := ⟨rfl, rfl, rfl, by decide +kernel, rfl, by decide +kernel, by decide +kernel⟩
abbrev s__law_kind : Stmt := top 65
abbrev n__law_kind : List Str := ["flask", "taken", "is_lord", "name", "left", "leaps", "at", "turn", "rides", "word"]
theorem sc__law_kind : FnScope n__law_kind ["flask", "taken", "is_lord"] (defScope s__law_kind) := ⟨rfl, rfl, rfl, by decide +kernel, rfl, by decide +kernel, by decide +kernel⟩
abbrev s__law_kinds : Stmt := top 66
abbrev n__law_kinds : List Str := ["flask", "many", "kinds", "turn", "kind"]
theorem sc__law_kinds : FnScope n__law_kinds ["flask", "many"] (defScope s__law_kinds) := ⟨rfl, rfl, rfl, by decide +kernel, rfl, by decide +kernel, by decide +kernel⟩
abbrev s__law_made : Stmt := top 67
abbrev n__law_made : List Str := ["kinds", "name", "leaps", "rides", "is_lord"]
theorem sc__law_made : FnScope n__law_made ["kinds"] (defScope s__law_made) := ⟨rfl, rfl, rfl, by decide +kernel, rfl, by decide +kernel, by decide +kernel⟩
abbrev s__law_far : Stmt := top 68
abbrev n__law_far : List Str := ["flask", "small"]
theorem sc__law_far : FnScope n__law_far ["flask"] (defScope s__law_far) := ⟨rfl, rfl, rfl, by decide +kernel, rfl, by decide +kernel, by decide +kernel⟩
abbrev s__law_edges : Stmt := top 69
abbrev n__law_edges : List Str := ["flask", "found", "turn", "low", "wide"]
theorem sc__law_edges : FnScope n__law_edges ["flask"] (defScope s__law_edges) := ⟨rfl, rfl, rfl, by decide +kernel, rfl, by decide +kernel, by decide +kernel⟩
abbrev s__law_goal : Stmt := top 70
abbrev n__law_goal : List Str := ["flask", "kinds", "edges", "sides", "side", "edge", "plain", "way", "kind"]
theorem sc__law_goal : FnScope n__law_goal ["flask", "kinds", "edges"] (defScope s__law_goal) := ⟨rfl, rfl, rfl, by decide +kernel, rfl, by decide +kernel, by decide +kernel⟩
abbrev s__law_heard : Stmt := top 71
abbrev n__law_heard : List Str := ["ask", "caught", "error", "rows", "words", "word", "is_so"]
theorem sc__law_heard : FnScope n__law_heard ["ask"] (defScope s__law_heard) := ⟨rfl, rfl, rfl, by decide +kernel, rfl, by decide +kernel, by decide +kernel⟩
abbrev s__law_near : Stmt := top 72
abbrev n__law_near : List Str := ["flask", "edges", "some", "edge"]
theorem sc__law_near : FnScope n__law_near ["flask", "edges"] (defScope s__law_near) := ⟨rfl, rfl, rfl, by decide +kernel, rfl, by decide +kernel, by decide +kernel⟩
abbrev s_law : Stmt := top 73
abbrev n_law : List Str := ["script", "flask", "turn", "kinds", "edges", "game", "lap", "column", "row", "due", "square", "numbers", "name", "leaps", "rides", "is_lord", "across", "up", "m", "none", "odd", "bad", "heard", "runner"]
theorem sc_law : FnScope n_law ["script"] (defScope s_law) := ⟨rfl, rfl, rfl, by decide +kernel, rfl, by decide +kernel, by decide +kernel⟩
structure Tx (K : PySem.W.Frag) (mg : Str → Option Value) (w : World) where
  t_E : Addr
  s_E : ∀ H, SqT K H t_E []
  t_N4 : Addr
  s_N4 : ∀ H, SqT K H t_N4 [.non, .non, .non, .non]
  t_H1 : Addr
  s_H1 : ∀ H, SqT K H t_H1 [.str "hold"]
  c_Kind : Addr
  c_Game : Addr
  c_FieldError : Addr
  c_BadNumber : Addr
  c_BadSquare : Addr
  c_BadKind : Addr
  c_BadGame : Addr
  c_Misfit : Addr
  c_BadPosition : Addr
  c_NoName : Addr
  a_is_integer : Addr
  d_is_integer : FuncData
  F_is_integer : Fun K "is_integer" "is_integer" s_is_integer a_is_integer d_is_integer
  m_is_integer : mg "is_integer" = some (.ref a_is_integer)
  b_is_integer : Binds K d_is_integer ["value"] []
  a_is_within : Addr
  d_is_within : FuncData
  F_is_within : Fun K "is_within" "is_within" s_is_within a_is_within d_is_within
  m_is_within : mg "is_within" = some (.ref a_is_within)
  b_is_within : Binds K d_is_within ["value", "least", "most"] []
  a_is_list : Addr
  d_is_list : FuncData
  F_is_list : Fun K "is_list" "is_list" s_is_list a_is_list d_is_list
  m_is_list : mg "is_list" = some (.ref a_is_list)
  b_is_list : Binds K d_is_list ["value"] []
  a_is_square : Addr
  d_is_square : FuncData
  F_is_square : Fun K "is_square" "is_square" s_is_square a_is_square d_is_square
  m_is_square : mg "is_square" = some (.ref a_is_square)
  b_is_square : Binds K d_is_square ["value"] []
  a_is_name : Addr
  d_is_name : FuncData
  F_is_name : Fun K "is_name" "is_name" s_is_name a_is_name d_is_name
  m_is_name : mg "is_name" = some (.ref a_is_name)
  b_is_name : Binds K d_is_name ["value"] []
  a_BadNumber___init__ : Addr
  d_BadNumber___init__ : FuncData
  F_BadNumber___init__ : Fun K "__init__" "BadNumber.__init__" s_BadNumber___init__ a_BadNumber___init__ d_BadNumber___init__
  b_BadNumber___init__ : Binds K d_BadNumber___init__ ["self", "part"] []
  a_BadSquare___init__ : Addr
  d_BadSquare___init__ : FuncData
  F_BadSquare___init__ : Fun K "__init__" "BadSquare.__init__" s_BadSquare___init__ a_BadSquare___init__ d_BadSquare___init__
  b_BadSquare___init__ : Binds K d_BadSquare___init__ ["self", "part"] []
  a_BadKind___init__ : Addr
  d_BadKind___init__ : FuncData
  F_BadKind___init__ : Fun K "__init__" "BadKind.__init__" s_BadKind___init__ a_BadKind___init__ d_BadKind___init__
  b_BadKind___init__ : Binds K d_BadKind___init__ ["self", "part"] []
  a_BadGame___init__ : Addr
  d_BadGame___init__ : FuncData
  F_BadGame___init__ : Fun K "__init__" "BadGame.__init__" s_BadGame___init__ a_BadGame___init__ d_BadGame___init__
  b_BadGame___init__ : Binds K d_BadGame___init__ ["self", "part"] []
  a_Misfit___init__ : Addr
  d_Misfit___init__ : FuncData
  F_Misfit___init__ : Fun K "__init__" "Misfit.__init__" s_Misfit___init__ a_Misfit___init__ d_Misfit___init__
  b_Misfit___init__ : Binds K d_Misfit___init__ ["self", "part"] []
  a_Kind___init__ : Addr
  d_Kind___init__ : FuncData
  F_Kind___init__ : FunD K "__init__" "Kind.__init__" (defArgs s_Kind___init__) (defBody s_Kind___init__) (defScope s_Kind___init__) [.ref t_E, .bl false] [] a_Kind___init__ d_Kind___init__
  a_are_leaps : Addr
  d_are_leaps : FuncData
  F_are_leaps : Fun K "are_leaps" "are_leaps" s_are_leaps a_are_leaps d_are_leaps
  m_are_leaps : mg "are_leaps" = some (.ref a_are_leaps)
  b_are_leaps : Binds K d_are_leaps ["value"] []
  a_is_leap : Addr
  d_is_leap : FuncData
  F_is_leap : Fun K "is_leap" "is_leap" s_is_leap a_is_leap d_is_leap
  m_is_leap : mg "is_leap" = some (.ref a_is_leap)
  b_is_leap : Binds K d_is_leap ["value"] []
  a_is_leap_part : Addr
  d_is_leap_part : FuncData
  F_is_leap_part : Fun K "is_leap_part" "is_leap_part" s_is_leap_part a_is_leap_part d_is_leap_part
  m_is_leap_part : mg "is_leap_part" = some (.ref a_is_leap_part)
  b_is_leap_part : Binds K d_is_leap_part ["value"] []
  a_are_rides : Addr
  d_are_rides : FuncData
  F_are_rides : Fun K "are_rides" "are_rides" s_are_rides a_are_rides d_are_rides
  m_are_rides : mg "are_rides" = some (.ref a_are_rides)
  b_are_rides : Binds K d_are_rides ["value"] []
  a_is_ride : Addr
  d_is_ride : FuncData
  F_is_ride : Fun K "is_ride" "is_ride" s_is_ride a_is_ride d_is_ride
  m_is_ride : mg "is_ride" = some (.ref a_is_ride)
  b_is_ride : Binds K d_is_ride ["value"] []
  a_Game___init__ : Addr
  d_Game___init__ : FuncData
  F_Game___init__ : FunD K "__init__" "Game.__init__" (defArgs s_Game___init__) (defBody s_Game___init__) (defScope s_Game___init__) [.ref t_N4, .ref t_H1] [] a_Game___init__ d_Game___init__
  a_on_field : Addr
  d_on_field : FuncData
  F_on_field : Fun K "on_field" "on_field" s_on_field a_on_field d_on_field
  m_on_field : mg "on_field" = some (.ref a_on_field)
  b_on_field : Binds K d_on_field ["game", "square"] []
  a_longest : Addr
  d_longest : FuncData
  F_longest : Fun K "longest" "longest" s_longest a_longest d_longest
  m_longest : mg "longest" = some (.ref a_longest)
  b_longest : Binds K d_longest ["game"] []
  a_bound : Addr
  d_bound : FuncData
  F_bound : Fun K "bound" "bound" s_bound a_bound d_bound
  m_bound : mg "bound" = some (.ref a_bound)
  b_bound : Binds K d_bound ["game", "m"] []
  a_need_game : Addr
  d_need_game : FuncData
  F_need_game : Fun K "need_game" "need_game" s_need_game a_need_game d_need_game
  m_need_game : mg "need_game" = some (.ref a_need_game)
  b_need_game : Binds K d_need_game ["value"] []
  a_are_kinds : Addr
  d_are_kinds : FuncData
  F_are_kinds : Fun K "are_kinds" "are_kinds" s_are_kinds a_are_kinds d_are_kinds
  m_are_kinds : mg "are_kinds" = some (.ref a_are_kinds)
  b_are_kinds : Binds K d_are_kinds ["value"] []
  a_are_edges : Addr
  d_are_edges : FuncData
  F_are_edges : Fun K "are_edges" "are_edges" s_are_edges a_are_edges d_are_edges
  m_are_edges : mg "are_edges" = some (.ref a_are_edges)
  b_are_edges : Binds K d_are_edges ["value"] []
  a_is_not_above : Addr
  d_is_not_above : FuncData
  F_is_not_above : Fun K "is_not_above" "is_not_above" s_is_not_above a_is_not_above d_is_not_above
  m_is_not_above : mg "is_not_above" = some (.ref a_is_not_above)
  b_is_not_above : Binds K d_is_not_above ["least", "most"] []
  a_is_goal : Addr
  d_is_goal : FuncData
  F_is_goal : Fun K "is_goal" "is_goal" s_is_goal a_is_goal d_is_goal
  m_is_goal : mg "is_goal" = some (.ref a_is_goal)
  b_is_goal : Binds K d_is_goal ["kinds", "edges", "value"] []
  a_is_between : Addr
  d_is_between : FuncData
  F_is_between : Fun K "is_between" "is_between" s_is_between a_is_between d_is_between
  m_is_between : mg "is_between" = some (.ref a_is_between)
  b_is_between : Binds K d_is_between ["edges", "square"] []
  a__law_flask : Addr
  d__law_flask : FuncData
  F__law_flask : Fun K "_law_flask" "_law_flask" s__law_flask a__law_flask d__law_flask
  m__law_flask : mg "_law_flask" = some (.ref a__law_flask)
  b__law_flask : Binds K d__law_flask ["script"] []
  a__law_pour : Addr
  d__law_pour : FuncData
  F__law_pour : Fun K "_law_pour" "_law_pour" s__law_pour a__law_pour d__law_pour
  m__law_pour : mg "_law_pour" = some (.ref a__law_pour)
  b__law_pour : Binds K d__law_pour ["flask", "many"] []
  a__law_sip : Addr
  d__law_sip : FuncData
  F__law_sip : Fun K "_law_sip" "_law_sip" s__law_sip a__law_sip d__law_sip
  m__law_sip : mg "_law_sip" = some (.ref a__law_sip)
  b__law_sip : Binds K d__law_sip ["flask", "some"] []
  a__law_name : Addr
  d__law_name : FuncData
  F__law_name : Fun K "_law_name" "_law_name" s__law_name a__law_name d__law_name
  m__law_name : mg "_law_name" = some (.ref a__law_name)
  b__law_name : Binds K d__law_name ["flask", "taken"] []
  a__law_kind : Addr
  d__law_kind : FuncData
  F__law_kind : Fun K "_law_kind" "_law_kind" s__law_kind a__law_kind d__law_kind
  m__law_kind : mg "_law_kind" = some (.ref a__law_kind)
  b__law_kind : Binds K d__law_kind ["flask", "taken", "is_lord"] []
  a__law_kinds : Addr
  d__law_kinds : FuncData
  F__law_kinds : Fun K "_law_kinds" "_law_kinds" s__law_kinds a__law_kinds d__law_kinds
  m__law_kinds : mg "_law_kinds" = some (.ref a__law_kinds)
  b__law_kinds : Binds K d__law_kinds ["flask", "many"] []
  a__law_made : Addr
  d__law_made : FuncData
  F__law_made : Fun K "_law_made" "_law_made" s__law_made a__law_made d__law_made
  m__law_made : mg "_law_made" = some (.ref a__law_made)
  b__law_made : Binds K d__law_made ["kinds"] []
  a__law_far : Addr
  d__law_far : FuncData
  F__law_far : Fun K "_law_far" "_law_far" s__law_far a__law_far d__law_far
  m__law_far : mg "_law_far" = some (.ref a__law_far)
  b__law_far : Binds K d__law_far ["flask"] []
  a__law_edges : Addr
  d__law_edges : FuncData
  F__law_edges : Fun K "_law_edges" "_law_edges" s__law_edges a__law_edges d__law_edges
  m__law_edges : mg "_law_edges" = some (.ref a__law_edges)
  b__law_edges : Binds K d__law_edges ["flask"] []
  a__law_goal : Addr
  d__law_goal : FuncData
  F__law_goal : Fun K "_law_goal" "_law_goal" s__law_goal a__law_goal d__law_goal
  m__law_goal : mg "_law_goal" = some (.ref a__law_goal)
  b__law_goal : Binds K d__law_goal ["flask", "kinds", "edges"] []
  a__law_heard : Addr
  d__law_heard : FuncData
  F__law_heard : Fun K "_law_heard" "_law_heard" s__law_heard a__law_heard d__law_heard
  m__law_heard : mg "_law_heard" = some (.ref a__law_heard)
  b__law_heard : Binds K d__law_heard ["ask"] []
  a__law_near : Addr
  d__law_near : FuncData
  F__law_near : Fun K "_law_near" "_law_near" s__law_near a__law_near d__law_near
  m__law_near : mg "_law_near" = some (.ref a__law_near)
  b__law_near : Binds K d__law_near ["flask", "edges"] []
  a_law : Addr
  d_law : FuncData
  F_law : Fun K "law" "law" s_law a_law d_law
  m_law : mg "law" = some (.ref a_law)
  b_law : Binds K d_law ["script"] []
  m_Kind : mg "Kind" = some (.ref c_Kind)
  cl_Kind : Cls K c_Kind
  nF_Kind_name : NoAttr K c_Kind "name"
  nF_Kind_leaps : NoAttr K c_Kind "leaps"
  nF_Kind_rides : NoAttr K c_Kind "rides"
  nF_Kind_is_lord : NoAttr K c_Kind "is_lord"
  mk_Kind : Mk K c_Kind a_Kind___init__
  m_Game : mg "Game" = some (.ref c_Game)
  cl_Game : Cls K c_Game
  nF_Game_kinds : NoAttr K c_Game "kinds"
  nF_Game_edges : NoAttr K c_Game "edges"
  nF_Game_goal : NoAttr K c_Game "goal"
  nF_Game_table : NoAttr K c_Game "table"
  nF_Game_farthest : NoAttr K c_Game "farthest"
  mk_Game : Mk K c_Game a_Game___init__
  m_FieldError : mg "FieldError" = some (.ref c_FieldError)
  ox_FieldError : OexC K c_FieldError
  xf_FieldError : XfC K c_FieldError
  m_BadNumber : mg "BadNumber" = some (.ref c_BadNumber)
  ox_BadNumber : OexC K c_BadNumber
  ic_BadNumber : PySem.W.findIn K (.ref c_BadNumber) "__init__" = some (some (.ref a_BadNumber___init__))
  ti_BadNumber : PySem.W.typeIn K (.ref a_BadNumber___init__) = some (.type "function")
  xf_BadNumber : XfC K c_BadNumber
  no_BadNumber_part : PySem.W.findIn K (.ref c_BadNumber) "part" = some none
  m_BadSquare : mg "BadSquare" = some (.ref c_BadSquare)
  ox_BadSquare : OexC K c_BadSquare
  ic_BadSquare : PySem.W.findIn K (.ref c_BadSquare) "__init__" = some (some (.ref a_BadSquare___init__))
  ti_BadSquare : PySem.W.typeIn K (.ref a_BadSquare___init__) = some (.type "function")
  xf_BadSquare : XfC K c_BadSquare
  no_BadSquare_part : PySem.W.findIn K (.ref c_BadSquare) "part" = some none
  m_BadKind : mg "BadKind" = some (.ref c_BadKind)
  ox_BadKind : OexC K c_BadKind
  ic_BadKind : PySem.W.findIn K (.ref c_BadKind) "__init__" = some (some (.ref a_BadKind___init__))
  ti_BadKind : PySem.W.typeIn K (.ref a_BadKind___init__) = some (.type "function")
  xf_BadKind : XfC K c_BadKind
  no_BadKind_part : PySem.W.findIn K (.ref c_BadKind) "part" = some none
  m_BadGame : mg "BadGame" = some (.ref c_BadGame)
  ox_BadGame : OexC K c_BadGame
  ic_BadGame : PySem.W.findIn K (.ref c_BadGame) "__init__" = some (some (.ref a_BadGame___init__))
  ti_BadGame : PySem.W.typeIn K (.ref a_BadGame___init__) = some (.type "function")
  xf_BadGame : XfC K c_BadGame
  no_BadGame_part : PySem.W.findIn K (.ref c_BadGame) "part" = some none
  m_Misfit : mg "Misfit" = some (.ref c_Misfit)
  ox_Misfit : OexC K c_Misfit
  ic_Misfit : PySem.W.findIn K (.ref c_Misfit) "__init__" = some (some (.ref a_Misfit___init__))
  ti_Misfit : PySem.W.typeIn K (.ref a_Misfit___init__) = some (.type "function")
  xf_Misfit : XfC K c_Misfit
  no_Misfit_part : PySem.W.findIn K (.ref c_Misfit) "part" = some none
  m_BadPosition : mg "BadPosition" = some (.ref c_BadPosition)
  ox_BadPosition : OexC K c_BadPosition
  xf_BadPosition : XfC K c_BadPosition
  m_NoName : mg "NoName" = some (.ref c_NoName)
  ox_NoName : OexC K c_NoName
  xf_NoName : XfC K c_NoName
  xm_BadGame_FieldError : PySem.W.exmOne K (.ref c_BadGame) (.ref c_FieldError) = some true
  xm_BadSquare_FieldError : PySem.W.exmOne K (.ref c_BadSquare) (.ref c_FieldError) = some true
  xm_BadNumber_FieldError : PySem.W.exmOne K (.ref c_BadNumber) (.ref c_FieldError) = some true
  z_isinstance : mg "isinstance" = none
  z_int : mg "int" = none
  z_bool : mg "bool" = none
  z_list : mg "list" = none
  z_tuple : mg "tuple" = none
  z_len : mg "len" = none
  z_str : mg "str" = none
  z_all : mg "all" = none
  z_sorted : mg "sorted" = none
  z_set : mg "set" = none
  z_abs : mg "abs" = none
  z_range : mg "range" = none
  z_repr : mg "repr" = none
  z_max : mg "max" = none
  z_zip : mg "zip" = none
  ty_Kind : Gs.TyC K c_Kind
  ty_Game : Gs.TyC K c_Game
  kk_Kind : PySem.W.kitOne K (.ref c_Kind) (.ref c_Kind) = some true
  kk_Game : PySem.W.kitOne K (.ref c_Game) (.ref c_Game) = some true
  kn_Game : ∀ t ∈ (["list", "str", "NoneType", "int", "bool", "tuple", "dict"] : List String), PySem.W.kitOne K (.type t) (.ref c_Game) = some false
  b5_Kind : Binds K d_Kind___init__ ["self", "name", "leaps", "rides", "is_lord"] []
  b4_Game : Binds K d_Game___init__ ["self", "kinds", "edges", "goal"] []
  kb_on_field : Gs.KB K d_on_field ["game", "square"] ["square", "game"] 0 (fun _ ws => ws.reverse) (fun _ zs => zs.reverse)
  kb_longest : Gs.KB K d_longest ["game"] ["game"] 0 (fun _ ws => ws) (fun _ zs => zs)
  kb_bound : Gs.KB K d_bound ["game", "m"] ["m", "game"] 0 (fun _ ws => ws.reverse) (fun _ zs => zs.reverse)
  kk : ∀ (i j : Nat) (a b : Addr), ([c_BadGame, c_BadPosition, c_BadSquare, c_BadNumber, c_Misfit, c_NoName] : List Addr)[i]? = some a → ([c_BadGame, c_BadPosition, c_BadSquare, c_BadNumber, c_Misfit, c_NoName] : List Addr)[j]? = some b → PySem.W.kitOne K (.ref b) (.ref a) = some (decide (i = j))
  xc : ∀ a ∈ ([c_BadGame, c_BadPosition, c_BadSquare, c_BadNumber, c_Misfit, c_NoName] : List Addr), ExcC K a
  g_LETTERS : ∃ t, mg "LETTERS" = some (.str "abcdefghijklmnopqrstuvwxyz" t)
  g_LONGEST : ∃ t, mg "LONGEST_NAME" = some (.int 8 t)
  g_LEAP : ∃ t, mg "LONGEST_LEAP" = some (.int 3 t)
  g_MK : ∃ t, mg "MOST_KINDS" = some (.int 8 t)
  g_MD : ∃ t, mg "MOST_DOUBLINGS" = some (.int 12 t)
  t_B : Addr
  g_B : mg "BARRED_NAMES" = some (.ref t_B)
  s_B : ∀ H, SqT K H t_B [.str "lord", .str "leaps", .str "rides", .str "stone"]
  t_SD : Addr
  g_SD : mg "SIDES" = some (.ref t_SD)
  s_SD : ∀ H, SqT K H t_SD [.str "left", .str "right", .str "low", .str "high"]
  t_S : Addr
  g_S : mg "STEPS" = some (.ref t_S)
  t_R : Addr
  t_L : Addr
  t_U : Addr
  t_D : Addr
  s_R : ∀ H, SqT K H t_R [.int 1, .int 0]
  s_L : ∀ H, SqT K H t_L [.int (-1), .int 0]
  s_U : ∀ H, SqT K H t_U [.int 0, .int 1]
  s_D : ∀ H, SqT K H t_D [.int 0, .int (-1)]
  w_S : WD K w t_S [("right", .ref t_R), ("left", .ref t_L), ("up", .ref t_U), ("down", .ref t_D)]
end K6

set_option Elab.async false
set_option linter.all false
set_option maxRecDepth 100000
set_option maxHeartbeats 4000000
namespace K6
open PySem PySem.Spec PyProof.Rows L2 Gs
section
variable {P : Program} {w : World} {K : PySem.W.Frag} {mg : Str → Option Value} {base : Heap}
theorem spB_len {f : PyData → Bool} {n : Str} : ∀ (vs : List V) (H : Hp) (Q : VK) (E : XK), spB K f vs H Q E → vs.length = [n].length := by
  rintro vs H Q E ⟨c, v, d, rfl, _⟩; rfl
theorem O_is_integer (T : Tx K mg w) : FnOk P w K mg base CX0 1 T.a_is_integer T.d_is_integer ["value"] (spB K isInt) := by
  refine T.F_is_integer.ok sc_is_integer spB_len (fun cdv A outer s H vs Q E hr h => ?_)
  obtain ⟨c, v, d, rfl, hd, k⟩ := h
  refine ⟨_, (pss_one (ps_ret (pe_and (pe_callB call_isi (by rfl) T.z_isinstance (by decide +kernel) (pa_cons (pv 0) (pa_cons (pe_bltn (v := .ty "int") (u := .type "int") (by rfl) T.z_int (by decide +kernel) rfl) pa_nil))) (pe_one (pe_not (pe_callB call_isi (by rfl) T.z_isinstance (by decide +kernel) (pa_cons (pv 0) (pa_cons (pe_bltn (v := .ty "bool") (u := .type "bool") (by rfl) T.z_bool (by decide +kernel) rfl) pa_nil)))))))), ?_⟩
  refine ⟨_, rfl, _, .ty "int", .type (tyN _), .type "int", _, rfl, .ty _, ty_of hd, kit_ty (kI _), _, rfl, ?_⟩
  have k := k H (Same.refl H)
  cases d with
  | int i => exact iteT ⟨_, rfl, _, .ty "bool", .type (tyN _), .type "bool", _, rfl, .ty _, ty_of hd, kit_ty (kB _), _, rfl, k⟩
  | bool i => exact iteT ⟨_, rfl, _, .ty "bool", .type (tyN _), .type "bool", _, rfl, .ty _, ty_of hd, kit_ty (kB _), _, rfl, k⟩
  | _ => exact iteF k
theorem O_is_list (T : Tx K mg w) : FnOk P w K mg base CX0 1 T.a_is_list T.d_is_list ["value"] (spB K isSeq) := by
  refine T.F_is_list.ok sc_is_list spB_len (fun cdv A outer s H vs Q E hr h => ?_)
  obtain ⟨c, v, d, rfl, hd, k⟩ := h
  refine ⟨_, (pss_one (ps_ret (pe_callB call_isiT (by rfl) T.z_isinstance (by decide +kernel) (pa_cons (pv 0) (pa_cons (pe_tup (pa_cons (pe_bltn (v := .ty "list") (u := .type "list") (by rfl) T.z_list (by decide +kernel) rfl) (pa_cons (pe_bltn (v := .ty "tuple") (u := .type "tuple") (by rfl) T.z_tuple (by decide +kernel) rfl) pa_nil))) pa_nil))))), ?_⟩
  refine ⟨_, rfl, szl rfl, fun p hp => ?_⟩
  have hd1 := hd.up (Ext.new hp (o := .tup [.ty "list", .ty "tuple"]))
  exact ⟨v, _, [.ty "list", .ty "tuple"], .type (tyN _), [.type "list", .type "tuple"], isSeq _, rfl, upd_same, .cons (.ty _) (.cons (.ty _) .nil), ty_of hd1, kit_seq _, k _ (same_new hp)⟩
/-- whether an integer lies within -/
def inB (lo hi : Option Int) : PyData → Bool
  | .int z => (match lo with | none => true | some l => decide (l ≤ z)) && (match hi with | none => true | some u => decide (z ≤ u))
  | _ => false
def oV : Option Int → V
  | none => .non
  | some i => .int i
def spWithin (K : PySem.W.Frag) : Sp := fun vs H Q _ => ∃ (c : Addr) (v : V) (d : PyData) (lo hi : Option Int), vs = [v, oV lo, oV hi] ∧ DV K c H v d ∧ ∀ H', Same H H' → Q (.bl (inB lo hi d)) H'
theorem O_is_within (T : Tx K mg w) : FnOk P w K mg base CX0 2 T.a_is_within T.d_is_within ["value", "least", "most"] (spWithin K) := by
  refine T.F_is_within.ok sc_is_within (fun vs H Q E h => ?_) (fun cdv A outer s H vs Q E hr h => ?_)
  · obtain ⟨c, v, d, lo, hi, rfl, _⟩ := h; rfl
  obtain ⟨c, v, d, lo, hi, rfl, hd, k⟩ := h
  refine ⟨_, (pss_cons (ps_if (pt_not (pt_val (pe_call (O_is_integer T) (hr.mono (by decide)) (by rfl) T.m_is_integer T.F_is_integer.kp T.b_is_integer .nil pass0 (pa_cons (pv 0) pa_nil)))) (pss_one (ps_ret pe_bl)) pss_nil)
      (pss_cons (ps_if (PW.pt (pw_and (pt_cmpR op_notN (pv 1) pe_non (nomark _)) (pw_and1 (pt_cmpR op_lt (pv 0) (pv 1) (nomark _))))) (pss_one (ps_ret pe_bl)) pss_nil)
      (pss_one (ps_ret (pe_or (pe_cmpR op_isN (pv 2) pe_non (nomark _)) (pe_one (pe_cmpR op_le (pv 0) (pv 2) (nomark _)))))))), ?_⟩
  refine ⟨_, rfl, c, v, d, rfl, hd, fun H1 s1 => ⟨_, rfl, ?_⟩⟩
  have k := k H1 s1
  cases hd with
  | int z =>
    refine iteF ?_
    cases lo with
    | none =>
      refine ⟨_, rfl, rfl, _, rfl, iteF ?_⟩
      cases hi with
      | none => exact ⟨_, rfl, rfl, _, rfl, k⟩
      | some u => exact ⟨_, rfl, rfl, _, rfl, _, rfl, _, rfl, _, _, rfl, rfl, k⟩
    | some l =>
      refine ⟨_, rfl, rfl, _, rfl, iteT ⟨_, rfl, _, rfl, _, _, rfl, rfl, _, rfl, ?_⟩⟩
      refine ite2 (fun e => ?_) (fun e => ?_)
      · have e := of_decide_eq_true e
        have : inB (some l) hi (.int z) = false := by
          show (decide (l ≤ z) && _) = false
          rw [decide_eq_false (by omega)]; rfl
        rw [this] at k
        exact k
      · have e : ¬ z < l := fun x => e (decide_eq_true x)
        have el : decide (l ≤ z) = true := decide_eq_true (by omega)
        cases hi with
        | none =>
          have : inB (some l) none (.int z) = true := by
            show (decide (l ≤ z) && true) = true
            rw [el]; rfl
          rw [this] at k
          exact ⟨_, rfl, rfl, _, rfl, k⟩
        | some u =>
          have : inB (some l) (some u) (.int z) = decide (z ≤ u) := by
            show (decide (l ≤ z) && decide (z ≤ u)) = _
            rw [el]; rfl
          rw [this] at k
          exact ⟨_, rfl, rfl, _, rfl, _, rfl, _, rfl, _, _, rfl, rfl, k⟩
  | _ => exact iteT k
def letters : Str := "abcdefghijklmnopqrstuvwxyz"
def barred : List V := [.str "lord", .str "leaps", .str "rides", .str "stone"]
def isNameS (x : Str) : Bool := decide (1 ≤ x.length) && decide (x.length ≤ 8) && (!inV (.str x) barred) && x.cps.toList.all fun c => decide (c ∈ letters.cps.toList)
def isNm : PyData → Bool
  | .str x => isNameS x
  | _ => false
def spName (K : PySem.W.Frag) : Sp := fun vs H Q _ => ∃ (c : Addr) (v : V) (d : PyData), vs = [v] ∧ DV K c H v d ∧ (∀ x, d = .str x → x.length ≤ 1000000) ∧ ∀ H', Same H H' → Q (.bl (isNm d)) H'
theorem all_take {α : Type} (p : α → Bool) (xs : List α) : ((xs.map p).map V.bl) = xs.map (fun x => V.bl (p x)) := by rw [List.map_map]; rfl
theorem O_is_name (T : Tx K mg w) : FnOk P w K mg base CX0 1 T.a_is_name T.d_is_name ["value"] (spName K) := by
  refine T.F_is_name.ok sc_is_name (fun vs H Q E h => ?_) (fun cdv A outer s H vs Q E hr h => ?_)
  · obtain ⟨c, v, d, rfl, _⟩ := h; rfl
  obtain ⟨c, v, d, rfl, hd, hz, k⟩ := h
  obtain ⟨tL, hL⟩ := T.g_LETTERS
  obtain ⟨tN, hN⟩ := T.g_LONGEST
  refine ⟨_, (pss_cons (ps_if (PW.pt (pw_or (pt_not (pt_val (pe_callB call_isi (by rfl) T.z_isinstance (by decide +kernel) (pa_cons (pv 0) (pa_cons (pe_bltn (v := .ty "str") (u := .type "str") (by rfl) T.z_str (by decide +kernel) rfl) pa_nil))))) (pw_or1 (pt_not (pt_chain op_le op_le pe_int (pe_callB call_len_str (by rfl) T.z_len (by decide +kernel) (pa_cons (pv 0) pa_nil)) (pe_glob (v := .int 8) (by rfl) hN ⟨_, rfl⟩)))))) (pss_one (ps_ret pe_bl)) pss_nil)
      (pss_one (ps_ret (pe_and (pe_cmpR op_notIn_seq (pv 0) (pe_glob (v := .ref T.t_B) (by rfl) T.g_B rfl) (by rfl)) (pe_one (pe_callB (cr_all rfl) (by rfl) T.z_all (by decide +kernel) (pa_cons (pe_lc (own := [("sign", 1)]) (g := (gName 1)) rfl sc_is_name.nd (pi_str (pv 0)) (blkOk_by (N := n_is_name) (sc := defScope s_is_name) (by decide +kernel)) (fun _ _ _ _ _ => (pg_name (i := 1) sc_is_name.nd rfl (Or.inl rfl))) (fun _ _ _ _ _ => pts_nil) (fun _ _ _ _ _ => (pe_cmpR op_in_sign (pv 1) (pe_glob (v := .str "abcdefghijklmnopqrstuvwxyz") (by rfl) hL ⟨_, rfl⟩) (by rfl)))) pa_nil))))))), ?_⟩
  refine ⟨_, rfl, _, .ty "str", .type (tyN _), .type "str", _, rfl, .ty _, ty_of hd, kit_ty (kS _), _, rfl, ?_⟩
  cases hd with
  | str x =>
    have hz : x.length ≤ 1000000 := hz x rfl
    refine iteF ?_
    refine ⟨_, rfl, _, rfl, szM hz, _, _, rfl, rfl, _, rfl, ?_⟩
    refine iteB (fun e1 => ?_) (fun e1 => ?_)
    rotate_left
    · refine ⟨_, rfl, ?_⟩
      have := k H (Same.refl H)
      have e : isNm (.str x) = false := by
        show isNameS x = false
        unfold isNameS
        rw [decide_eq_false (fun z => by have := of_decide_eq_false e1; omega)]; rfl
      rw [e] at this
      exact iteT this
    refine ⟨_, _, rfl, rfl, _, rfl, ?_⟩
    have e1 := of_decide_eq_true e1
    refine iteB (fun e2 => ?_) (fun e2 => ?_)
    · have := k H (Same.refl H)
      have e : isNm (.str x) = false := by
        show isNameS x = false
        unfold isNameS
        rw [decide_eq_false (fun z : x.length ≤ 8 => by
          have e2 : (!decide ((x.length : Int) ≤ 8)) = true := e2
          rw [decide_eq_true (by omega)] at e2; cases e2), Bool.and_false]; rfl
      rw [e] at this
      exact this
    have e3 : x.length ≤ 8 := by
      have e2 : (!decide ((x.length : Int) ≤ 8)) = false := e2
      by_cases z : (x.length : Int) ≤ 8
      · omega
      · rw [decide_eq_false z] at e2; cases e2
    -- value not in BARRED_NAMES and all(..)
    refine ⟨_, rfl, T.t_B, _, rfl, .inr (T.s_B H), rfl, rfl, _, rfl, ?_⟩
    refine iteB (fun e4 => ?_) (fun e4 => ?_)
    rotate_left
    · have := k H (Same.refl H)
      have e : isNm (.str x) = false := by
        show isNameS x = false
        unfold isNameS
        have e4 : (!inV (.str x) barred) = false := e4
        rw [e4, Bool.and_false]; rfl
      rw [e] at this
      exact this
    have e4 : (!inV (.str x) barred) = true := e4
    refine ⟨_, rfl, x, rfl, fun D hD => ?_⟩
    refine lc_it walk_str (fun i H' => H' D = some (.lst ((x.cps.toList.take i).map fun c => .bl (decide (c ∈ letters.cps.toList)))) ∧ Same H H') ⟨upd_same, same_new hD⟩ (fun _ _ _ _ => trivial) ?_ ?_
    · rintro i z H1 H2 hi ⟨h1, h2⟩ ⟨rfl, cp, hc, rfl⟩
      refine ⟨rfl, ?_⟩
      refine ⟨_, rfl, cp, _, rfl, rfl, _, h1, ?_, ?_, ?_⟩
      · rw [List.length_map]
        refine szK (Nat.lt_of_le_of_lt (List.length_take_le ..) ?_)
        have : i < x.length := hi
        omega
      · have hc : x.cps.toList[i]? = some cp := by rw [Array.getElem?_toList]; exact hc
        rw [upd_same, List.take_add_one, hc, List.map_append]; rfl
      · exact same_own h2 hD
    · rintro H1 ⟨h1, h2⟩
      have eall : x.cps.toList.take x.cps.size = x.cps.toList := List.take_of_length_le (by simp)
      rw [eall] at h1
      refine ⟨D, x.cps.toList.map (fun c => decide (c ∈ letters.cps.toList)), rfl, .of (by rw [all_take]; exact h1), ?_⟩
      have := k H1 h2
      have e : isNm (.str x) = ((x.cps.toList.map (fun c => decide (c ∈ letters.cps.toList))).all id) := by
        show isNameS x = _
        unfold isNameS
        rw [decide_eq_true (show 1 ≤ x.length by omega), decide_eq_true e3, e4, List.all_map]; rfl
      rw [e] at this
      exact this
  | _ => exact iteT (k H (Same.refl H))
end
end K6

set_option Elab.async false
set_option linter.all false
set_option maxRecDepth 100000
set_option maxHeartbeats 4000000
namespace K6
open PySem PySem.Spec PyProof.Rows L2 Gs
section
variable {P : Program} {w : World} {K : PySem.W.Frag} {mg : Str → Option Value} {base : Heap}
/-- an own error's __init__ with one field -/
def spErr (C : Addr) (f : Str) : Sp := fun vs H Q _ => ∃ (a : Addr) (v : V), vs = [.ref a, v] ∧ H a = some (exo a C none) ∧
  ∀ d, H d = none → d ≠ a → Q .non (upd (upd H d (exd d [(f, v)])) a (exo a C (some d)))
/-- .. with two fields -/
def spErr2 (C : Addr) (f g : Str) : Sp := fun vs H Q _ => ∃ (a : Addr) (v u : V), vs = [.ref a, v, u] ∧ H a = some (exo a C none) ∧
  ∀ d, H d = none → d ≠ a → Q .non (upd (upd (upd H d (exd d [(f, v)])) a (exo a C (some d))) d (exd d [(g, u), (f, v)]))
theorem same_err {H : Hp} {a d : Addr} {fs : List (Str × V)} {H2 : Hp} (ha : H a = none) (hd : H d = none) (h2 : ∀ b, b ≠ a → b ≠ d → H2 b = H b) : Same H (upd (del H2 a) d (.xd fs)) := fun b o e => by
  have na := ne_of_none e ha
  have nd := ne_of_none e hd
  rw [upd_ne nd, del_ne na, h2 b na nd]; exact e
/-- C(v) raised, its __init__ as above -/
theorem mk_err {C : Addr} {f : Str} {v : V} {H : Hp} {Q : XK} (h : ∀ d H', H d = none → Same H H' → H' d = some (.xd [(f, v)]) → Q (.ref C) (some d) H') : ∀ a, H a = none →
    spErr C f (.ref a :: ([v] ++ [])) (upd H a (exo a C none)) (fun x H2 => x = .non ∧ ∃ (d : Addr) (fs : List (Str × V)), H2 a = some (exo a C (some d)) ∧ H2 d = some (exd d fs) ∧ H d = none ∧ Q (.ref C) (some d) (upd (del H2 a) d (.xd fs))) (fun _ _ _ => False) := by
  intro a ha
  refine ⟨a, v, rfl, upd_same, fun d hd nda => ⟨rfl, d, _, upd_same, by rw [upd_ne nda, upd_same], ?_, ?_⟩⟩
  · rwa [upd_ne nda] at hd
  · rw [upd_ne nda] at hd
    refine h d _ hd (same_err ha hd fun b n1 n2 => by rw [upd_ne n1, upd_ne n2, upd_ne n1]) upd_same
theorem mk_err2 {C : Addr} {f g : Str} {v u : V} {H : Hp} {Q : XK} (h : ∀ d H', H d = none → Same H H' → H' d = some (.xd [(g, u), (f, v)]) → Q (.ref C) (some d) H') : ∀ a, H a = none →
    spErr2 C f g (.ref a :: ([v, u] ++ [])) (upd H a (exo a C none)) (fun x H2 => x = .non ∧ ∃ (d : Addr) (fs : List (Str × V)), H2 a = some (exo a C (some d)) ∧ H2 d = some (exd d fs) ∧ H d = none ∧ Q (.ref C) (some d) (upd (del H2 a) d (.xd fs))) (fun _ _ _ => False) := by
  intro a ha
  refine ⟨a, v, u, rfl, upd_same, fun d hd nda => ⟨rfl, d, _, by rw [upd_ne (Ne.symm nda), upd_same], upd_same, ?_, ?_⟩⟩
  · rwa [upd_ne nda] at hd
  · rw [upd_ne nda] at hd
    refine h d _ hd (same_err ha hd fun b n1 n2 => by rw [upd_ne n2, upd_ne n1, upd_ne n2, upd_ne n1]) upd_same
theorem O_BadNumber___init__ (T : Tx K mg w) : FnOk P w K mg base CX0 1 T.a_BadNumber___init__ T.d_BadNumber___init__ ["self", "part"] (spErr T.c_BadNumber "part") := by
  refine T.F_BadNumber___init__.ok sc_BadNumber___init__ (fun vs H Q E h => ?_) (fun cdv A outer s H vs Q E hr h => ?_)
  · obtain ⟨a, v, rfl, _⟩ := h; rfl
  obtain ⟨a, v, rfl, ha, k⟩ := h
  refine ⟨_, (pss_one (ps_ost (pv 0) (pv 1))), ?_⟩
  exact ⟨_, rfl, _, rfl, a, _, rfl, T.ox_BadNumber, T.no_BadNumber_part, .inl ⟨ha, fun d hd nd => k d hd nd⟩⟩
theorem O_BadSquare___init__ (T : Tx K mg w) : FnOk P w K mg base CX0 1 T.a_BadSquare___init__ T.d_BadSquare___init__ ["self", "part"] (spErr T.c_BadSquare "part") := by
  refine T.F_BadSquare___init__.ok sc_BadSquare___init__ (fun vs H Q E h => ?_) (fun cdv A outer s H vs Q E hr h => ?_)
  · obtain ⟨a, v, rfl, _⟩ := h; rfl
  obtain ⟨a, v, rfl, ha, k⟩ := h
  refine ⟨_, (pss_one (ps_ost (pv 0) (pv 1))), ?_⟩
  exact ⟨_, rfl, _, rfl, a, _, rfl, T.ox_BadSquare, T.no_BadSquare_part, .inl ⟨ha, fun d hd nd => k d hd nd⟩⟩
theorem O_BadKind___init__ (T : Tx K mg w) : FnOk P w K mg base CX0 1 T.a_BadKind___init__ T.d_BadKind___init__ ["self", "part"] (spErr T.c_BadKind "part") := by
  refine T.F_BadKind___init__.ok sc_BadKind___init__ (fun vs H Q E h => ?_) (fun cdv A outer s H vs Q E hr h => ?_)
  · obtain ⟨a, v, rfl, _⟩ := h; rfl
  obtain ⟨a, v, rfl, ha, k⟩ := h
  refine ⟨_, (pss_one (ps_ost (pv 0) (pv 1))), ?_⟩
  exact ⟨_, rfl, _, rfl, a, _, rfl, T.ox_BadKind, T.no_BadKind_part, .inl ⟨ha, fun d hd nd => k d hd nd⟩⟩
theorem O_BadGame___init__ (T : Tx K mg w) : FnOk P w K mg base CX0 1 T.a_BadGame___init__ T.d_BadGame___init__ ["self", "part"] (spErr T.c_BadGame "part") := by
  refine T.F_BadGame___init__.ok sc_BadGame___init__ (fun vs H Q E h => ?_) (fun cdv A outer s H vs Q E hr h => ?_)
  · obtain ⟨a, v, rfl, _⟩ := h; rfl
  obtain ⟨a, v, rfl, ha, k⟩ := h
  refine ⟨_, (pss_one (ps_ost (pv 0) (pv 1))), ?_⟩
  exact ⟨_, rfl, _, rfl, a, _, rfl, T.ox_BadGame, T.no_BadGame_part, .inl ⟨ha, fun d hd nd => k d hd nd⟩⟩
theorem O_Misfit___init__ (T : Tx K mg w) : FnOk P w K mg base CX0 1 T.a_Misfit___init__ T.d_Misfit___init__ ["self", "part"] (spErr T.c_Misfit "part") := by
  refine T.F_Misfit___init__.ok sc_Misfit___init__ (fun vs H Q E h => ?_) (fun cdv A outer s H vs Q E hr h => ?_)
  · obtain ⟨a, v, rfl, _⟩ := h; rfl
  obtain ⟨a, v, rfl, ha, k⟩ := h
  refine ⟨_, (pss_one (ps_ost (pv 0) (pv 1))), ?_⟩
  exact ⟨_, rfl, _, rfl, a, _, rfl, T.ox_Misfit, T.no_Misfit_part, .inl ⟨ha, fun d hd nd => k d hd nd⟩⟩
end
end K6

set_option Elab.async false
set_option linter.all false
set_option maxRecDepth 100000
set_option maxHeartbeats 4000000
namespace K6
open PySem PySem.Spec PyProof.Rows L2 Gs
section
variable {P : Program} {w : World} {K : PySem.W.Frag} {mg : Str → Option Value} {base : Heap}
def lpart : PyData → Bool := inB (some (-3)) (some 3)
def isZ : PyData → Bool
  | .int z => decide (z = 0)
  | _ => false
def lpair : PyData → PyData → Bool := fun a b => lpart a && lpart b && !(isZ a && isZ b)
def isLeap : PyData → Bool
  | .list [a, b] => lpair a b
  | .tuple [a, b] => lpair a b
  | _ => false
theorem leap_no {ds : List PyData} (h : ds.length ≠ 2) : isLeap (.list ds) = false ∧ isLeap (.tuple ds) = false := by
  match ds with
  | [] => exact ⟨rfl, rfl⟩
  | [_] => exact ⟨rfl, rfl⟩
  | [_, _] => exact absurd rfl h
  | _ :: _ :: _ :: _ => exact ⟨rfl, rfl⟩
theorem O_is_leap_part (T : Tx K mg w) : FnOk P w K mg base CX0 3 T.a_is_leap_part T.d_is_leap_part ["value"] (spB K lpart) := by
  refine T.F_is_leap_part.ok sc_is_leap_part spB_len (fun cdv A outer s H vs Q E hr h => ?_)
  obtain ⟨c, v, d, rfl, hd, k⟩ := h
  obtain ⟨tG, hG⟩ := T.g_LEAP
  refine ⟨_, (pss_one (ps_ret (pe_call (O_is_within T) (hr.mono (by decide)) (by rfl) T.m_is_within T.F_is_within.kp T.b_is_within .nil pass0 (pa_cons (pv 0) (pa_cons (pe_un un_neg (pe_glob (v := .int 3) (by rfl) hG ⟨_, rfl⟩)) (pa_cons (pe_glob (v := .int 3) (by rfl) hG ⟨_, rfl⟩) pa_nil)))))), ?_⟩
  exact ⟨_, rfl, _, rfl, c, v, d, some (-3), some 3, rfl, hd, k⟩
def steps4 : List Str := ["right", "left", "up", "down"]
def isRide : PyData → Bool
  | .str x => decide (x ∈ steps4)
  | _ => false
theorem step_in (T : Tx K mg w) (z : Str) : ∃ r, PySem.W.nsIn K T.t_S z = some r ∧ r.isSome = decide (z ∈ steps4) := by
  rcases T.w_S.tells z with ⟨i, v, u, h1, h2, _⟩ | ⟨h1, h2⟩
  · refine ⟨_, h2, ?_⟩
    have hm : z ∈ steps4 := by
      have := List.mem_map_of_mem (f := Prod.fst) (List.mem_of_getElem? h1)
      exact this
    rw [decide_eq_true hm]; rfl
  · refine ⟨_, h2, ?_⟩
    have hm : ¬ z ∈ steps4 := fun hm => by
      have hm : z ∈ ([("right", V.ref T.t_R), ("left", .ref T.t_L), ("up", .ref T.t_U), ("down", .ref T.t_D)] : List (Str × V)).map Prod.fst := hm
      obtain ⟨⟨a, v⟩, h3, rfl⟩ := List.mem_map.mp hm
      exact h1 v h3
    rw [decide_eq_false hm]; rfl
theorem O_is_ride (T : Tx K mg w) : FnOk P w K mg base CX0 1 T.a_is_ride T.d_is_ride ["value"] (spB K isRide) := by
  refine T.F_is_ride.ok sc_is_ride spB_len (fun cdv A outer s H vs Q E hr h => ?_)
  obtain ⟨c, v, d, rfl, hd, k⟩ := h
  obtain ⟨es, nS, DS, _, _⟩ := T.w_S.ex
  refine ⟨_, (pss_one (ps_ret (pe_and (pe_callB call_isi (by rfl) T.z_isinstance (by decide +kernel) (pa_cons (pv 0) (pa_cons (pe_bltn (v := .ty "str") (u := .type "str") (by rfl) T.z_str (by decide +kernel) rfl) pa_nil))) (pe_one (pe_cmpR (op_in_kd DS) (pv 0) (pe_glob (v := .ref T.t_S) (by rfl) T.g_S rfl) (by rfl)))))), ?_⟩
  refine ⟨_, rfl, _, .ty "str", .type (tyN _), .type "str", _, rfl, .ty _, ty_of hd, kit_ty (kS _), _, rfl, ?_⟩
  have k := k H (Same.refl H)
  cases hd with
  | str x =>
    obtain ⟨r, hr1, hr2⟩ := step_in T x
    refine iteT ⟨_, rfl, x, r, rfl, rfl, hr1, ?_⟩
    rw [hr2]; exact k
  | _ => exact iteF k
theorem lpart_int {c : Addr} {H : Hp} {v : V} {d : PyData} (h : DV K c H v d) (e : lpart d = true) : ∃ i, v = .int i ∧ d = .int i := by
  cases h with
  | int i => exact ⟨i, rfl, rfl⟩
  | _ => cases e
theorem O_is_leap (T : Tx K mg w) : FnOk P w K mg base CX0 4 T.a_is_leap T.d_is_leap ["value"] (spB K isLeap) := by
  refine T.F_is_leap.ok sc_is_leap spB_len (fun cdv A outer s H vs Q E hr h => ?_)
  obtain ⟨c, v, d, rfl, hd, k⟩ := h
  refine ⟨_, (pss_cons (ps_if (PW.pt (pw_or (pt_not (pt_val (pe_call (O_is_list T) (hr.mono (by decide)) (by rfl) T.m_is_list T.F_is_list.kp T.b_is_list .nil pass0 (pa_cons (pv 0) pa_nil)))) (pw_or1 (pt_cmpR op_ne (pe_callB call_len (by rfl) T.z_len (by decide +kernel) (pa_cons (pv 0) pa_nil)) pe_int (nomark _))))) (pss_one (ps_ret pe_bl)) pss_nil)
      (pss_cons (ps_asg (pv 0) (pg_or (pg_unl rfl (pgs_cons (pg_name (i := 1) sc_is_leap.nd rfl (Or.inl rfl)) (pgs_cons (pg_name (i := 2) sc_is_leap.nd rfl (Or.inl rfl)) pgs_nil))) (pg_tup rfl (pgs_cons (pg_name (i := 1) sc_is_leap.nd rfl (Or.inl rfl)) (pgs_cons (pg_name (i := 2) sc_is_leap.nd rfl (Or.inl rfl)) pgs_nil)))))
      (pss_one (ps_ret (pe_and (pe_call (O_is_leap_part T) (hr.mono (by decide)) (by rfl) T.m_is_leap_part T.F_is_leap_part.kp T.b_is_leap_part .nil pass0 (pa_cons (pv 1) pa_nil)) (pe_and (pe_call (O_is_leap_part T) (hr.mono (by decide)) (by rfl) T.m_is_leap_part T.F_is_leap_part.kp T.b_is_leap_part .nil pass0 (pa_cons (pv 2) pa_nil)) (pe_one (pe_or (pe_cmpR op_ne (pv 1) pe_int (nomark _)) (pe_one (pe_cmpR op_ne (pv 2) pe_int (nomark _))))))))))), ?_⟩
  refine ⟨_, rfl, c, v, d, rfl, hd, fun H1 s1 => ⟨_, rfl, ?_⟩⟩
  have hd1 := hd.up (Ext.of s1)
  replace k := fun H' s2 => k H' (s1.trans s2)
  cases hd1 with
  | @lst a xs ds na hs hv =>
    refine iteF ⟨_, rfl, _, _, rfl, .inl ⟨xs, hs, rfl⟩, rfl, _, rfl, ?_⟩
    refine iteB (fun e => ?_) (fun e => ?_)
    · have e2 : ds.length ≠ 2 := fun z => by
        have e : (!decide (V.int xs.length = V.int 2)) = true := e
        rw [hv.len, z] at e; cases e
      have := k H1 (Same.refl H1)
      rw [(leap_no e2).1] at this
      exact this
    · have e2 : xs.length = 2 := by
        have e : (!decide (V.int xs.length = V.int 2)) = false := e
        have e : decide (V.int xs.length = V.int 2) = true := by simpa using e
        have := V.int.inj (of_decide_eq_true e); omega
      obtain ⟨x, y, rfl⟩ := two_of e2
      cases hv with
      | cons hx hv =>
      cases hv with
      | cons hy hv =>
      cases hv with
      | nil =>
      rename_i dx dy
      refine ⟨_, rfl, .inl ⟨a, _, rfl, hs, rfl, _, _, rfl, _, _, rfl, rfl, ?_⟩⟩
      refine ⟨_, rfl, c, x, dx, rfl, hx, fun H2 s2 => ⟨_, rfl, ?_⟩⟩
      have hy2 := hy.up (Ext.of (c := c) s2)
      refine iteB (fun e3 => ?_) (fun e3 => ?_)
      rotate_left
      · have := k H2 s2
        simp only [isLeap, lpair, e3, Bool.false_and] at this
        exact this
      refine ⟨_, rfl, c, y, dy, rfl, hy2, fun H3 s3 => ⟨_, rfl, ?_⟩⟩
      refine iteB (fun e4 => ?_) (fun e4 => ?_)
      rotate_left
      · have := k H3 (s2.trans s3)
        simp only [isLeap, lpair, e3, e4, Bool.true_and, Bool.false_and] at this
        exact this
      obtain ⟨i, rfl, rfl⟩ := lpart_int hx e3
      obtain ⟨j, rfl, rfl⟩ := lpart_int hy2 e4
      have := k H3 (s2.trans s3)
      simp only [isLeap, lpair, e3, e4, Bool.true_and] at this
      refine ⟨_, rfl, rfl, _, rfl, ?_⟩
      refine iteB (fun e5 => ?_) (fun e5 => ?_)
      · have e5 : (!decide (V.int i = V.int 0)) = true := e5
        have : isZ (.int i) = false := by
          show decide (i = 0) = false
          refine decide_eq_false fun z => ?_
          rw [z] at e5; cases e5
        simp only [this, Bool.false_and, Bool.not_false] at *
        exact ‹Q (V.bl true) H3›
      · have e5 : (!decide (V.int i = V.int 0)) = false := e5
        have e6 : decide (V.int i = V.int 0) = true := by simpa using e5
        have e7 : isZ (.int i) = true := by
          show decide (i = 0) = true
          exact decide_eq_true (V.int.inj (of_decide_eq_true e6))
        rw [e7, Bool.true_and] at this
        refine ⟨_, rfl, rfl, ?_⟩
        have e8 : (!decide (V.int j = V.int 0)) = !isZ (.int j) := by
          show _ = !decide (j = 0)
          rw [show decide (V.int j = V.int 0) = decide (j = 0) from decide_eq_decide.mpr ⟨V.int.inj, congrArg V.int⟩]
        rw [← e8] at this
        exact this
  | @tup a xs ds na hs hv =>
    refine iteF ⟨_, rfl, _, _, rfl, .inr ⟨xs, hs, rfl⟩, rfl, _, rfl, ?_⟩
    refine iteB (fun e => ?_) (fun e => ?_)
    · have e2 : ds.length ≠ 2 := fun z => by
        have e : (!decide (V.int xs.length = V.int 2)) = true := e
        rw [hv.len, z] at e; cases e
      have := k H1 (Same.refl H1)
      rw [(leap_no e2).2] at this
      exact this
    · have e2 : xs.length = 2 := by
        have e : (!decide (V.int xs.length = V.int 2)) = false := e
        have e : decide (V.int xs.length = V.int 2) = true := by simpa using e
        have := V.int.inj (of_decide_eq_true e); omega
      obtain ⟨x, y, rfl⟩ := two_of e2
      cases hv with
      | cons hx hv =>
      cases hv with
      | cons hy hv =>
      cases hv with
      | nil =>
      rename_i dx dy
      refine ⟨_, rfl, .inr ⟨a, _, rfl, hs, rfl, _, _, rfl, _, _, rfl, rfl, ?_⟩⟩
      refine ⟨_, rfl, c, x, dx, rfl, hx, fun H2 s2 => ⟨_, rfl, ?_⟩⟩
      have hy2 := hy.up (Ext.of (c := c) s2)
      refine iteB (fun e3 => ?_) (fun e3 => ?_)
      rotate_left
      · have := k H2 s2
        simp only [isLeap, lpair, e3, Bool.false_and] at this
        exact this
      refine ⟨_, rfl, c, y, dy, rfl, hy2, fun H3 s3 => ⟨_, rfl, ?_⟩⟩
      refine iteB (fun e4 => ?_) (fun e4 => ?_)
      rotate_left
      · have := k H3 (s2.trans s3)
        simp only [isLeap, lpair, e3, e4, Bool.true_and, Bool.false_and] at this
        exact this
      obtain ⟨i, rfl, rfl⟩ := lpart_int hx e3
      obtain ⟨j, rfl, rfl⟩ := lpart_int hy2 e4
      have := k H3 (s2.trans s3)
      simp only [isLeap, lpair, e3, e4, Bool.true_and] at this
      refine ⟨_, rfl, rfl, _, rfl, ?_⟩
      refine iteB (fun e5 => ?_) (fun e5 => ?_)
      · have e5 : (!decide (V.int i = V.int 0)) = true := e5
        have : isZ (.int i) = false := by
          show decide (i = 0) = false
          refine decide_eq_false fun z => ?_
          rw [z] at e5; cases e5
        simp only [this, Bool.false_and, Bool.not_false] at *
        exact ‹Q (V.bl true) H3›
      · have e5 : (!decide (V.int i = V.int 0)) = false := e5
        have e6 : decide (V.int i = V.int 0) = true := by simpa using e5
        have e7 : isZ (.int i) = true := by
          show decide (i = 0) = true
          exact decide_eq_true (V.int.inj (of_decide_eq_true e6))
        rw [e7, Bool.true_and] at this
        refine ⟨_, rfl, rfl, ?_⟩
        have e8 : (!decide (V.int j = V.int 0)) = !isZ (.int j) := by
          show _ = !decide (j = 0)
          rw [show decide (V.int j = V.int 0) = decide (j = 0) from decide_eq_decide.mpr ⟨V.int.inj, congrArg V.int⟩]
        rw [← e8] at this
        exact this
  | non => exact iteT (k H1 (Same.refl H1))
  | bl => exact iteT (k H1 (Same.refl H1))
  | int => exact iteT (k H1 (Same.refl H1))
  | str => exact iteT (k H1 (Same.refl H1))
  | dic => exact iteT (k H1 (Same.refl H1))
  | dct => exact iteT (k H1 (Same.refl H1))
end
end K6

set_option Elab.async false
set_option linter.all false
set_option maxRecDepth 100000
set_option maxHeartbeats 4000000
/-! Layer G6: walks of set comprehensions; what the size of a set tells. -/
namespace Gs
open PySem PySem.Spec PyProof.Rows L2
theorem sc_it {P : Program} {w : World} {K : PySem.W.Frag} {α : Type} {Z : SetKd P w K α} {J : It} {n : Nat} {G : Hp → Prop} {Y : Nat → Hp → V → Hp → Prop} (wk : Walk J n G Y) {g : TG} {tt : TT} {te : TE} {vs : List Nat} {σ : L2.St} {H1 : Hp} {D : Addr} {Qd : Hp → Prop}
    (Pv : Nat → Hp → Prop) (h0 : Pv 0 (upd H1 D (Z.ob D Z.zero))) (hG : ∀ i H, i ≤ n → Pv i H → G H)
    (hs : ∀ i x H H', i < n → Pv i H → Y i H x H' → g x (wipe σ vs) H' fun σ2 H2 => wipe σ2 vs = wipe σ vs ∧ tt σ2 H2 fun b H3 => if b = true then te σ2 H3 fun y H4 => Z.adds D y H4 (Pv (i + 1)) else Pv (i + 1) H3)
    (hd : ∀ H, Pv n H → Qd H) :
    ∃ W : Nat → Nat → Hp → Prop, (∃ m, W 0 m (upd H1 D (Z.ob D Z.zero))) ∧ ∀ i m H, W i m H → (J.stop i H ∧ Qd H) ∨
      (J.go i H ∧ ∃ Nx : Hp → Prop, (∀ H', Nx H' → ∃ m', m' < m ∧ W (i + 1) m' H') ∧ ∀ x H', J.yld i H x H' → g x (wipe σ vs) H' fun σ2 H2 => wipe σ2 vs = wipe σ vs ∧ tt σ2 H2 fun b H3 => if b = true then te σ2 H3 fun y H4 => Z.adds D y H4 Nx else Nx H3) := by
  refine ⟨fun i m H => m = n - i ∧ i ≤ n ∧ Pv i H, ⟨n, (Nat.sub_zero n).symm, Nat.zero_le _, h0⟩, ?_⟩
  rintro i m H ⟨rfl, hi, p⟩
  have q := hG i H hi p
  rcases Nat.lt_or_ge i n with lt | ge
  · exact .inr ⟨wk.goes i H lt q, Pv (i + 1), fun H' p' => ⟨n - (i + 1), by omega, rfl, lt, p'⟩, fun x H' y => hs i x H H' lt p (wk.yields i H x H' lt q y)⟩
  · obtain rfl : i = n := Nat.le_antisymm hi ge
    exact .inl ⟨wk.stops H q, hd H p⟩
section
variable {α : Type} [DecidableEq α]
theorem nodup_le : ∀ (l D : List α), l.Nodup → (∀ x ∈ l, x ∈ D) → l.length ≤ D.length
  | [], _, _, _ => Nat.zero_le _
  | x :: l, D, hn, hs => by
    have hx : x ∈ D := hs x List.mem_cons_self
    have hn' := List.nodup_cons.mp hn
    have := nodup_le l (D.erase x) hn'.2 fun y hy => (List.mem_erase_of_ne (fun e : y = x => hn'.1 (e ▸ hy))).mpr (hs y (List.mem_cons_of_mem _ hy))
    have e := List.length_erase_of_mem hx
    have : 0 < D.length := List.length_pos_of_mem hx
    simp only [List.length_cons]
    omega
theorem dup_lt : ∀ (D : List α), ¬ D.Nodup → ∃ D' : List α, D'.length < D.length ∧ ∀ x ∈ D, x ∈ D'
  | [], h => absurd List.nodup_nil h
  | x :: D, h => by
    by_cases hx : x ∈ D
    · refine ⟨D, Nat.lt_succ_self _, fun y hy => ?_⟩
      rcases List.mem_cons.mp hy with e | hy
      · rw [e]; exact hx
      · exact hy
    · obtain ⟨D', h1, h2⟩ := dup_lt D fun hn => h (List.nodup_cons.mpr ⟨hx, hn⟩)
      refine ⟨x :: D', Nat.succ_lt_succ h1, fun y hy => ?_⟩
      rcases List.mem_cons.mp hy with e | hy
      · rw [e]; exact List.mem_cons_self
      · exact List.mem_cons_of_mem _ (h2 y hy)
/-- the members of D once each are as many as D if none stands twice in D -/
theorem size_tells {l D : List α} (hn : l.Nodup) (hm : ∀ x, x ∈ l ↔ x ∈ D) : decide ((l.length : Int) = (D.length : Int)) = decide D.Nodup := by
  refine decide_eq_decide.mpr ⟨fun e => ?_, fun e => ?_⟩
  · refine Decidable.byContradiction fun h => ?_
    obtain ⟨D', h1, h2⟩ := dup_lt D h
    have := nodup_le l D' hn fun x hx => h2 x ((hm x).mp hx)
    omega
  · have a := nodup_le l D hn fun x hx => (hm x).mp hx
    have b := nodup_le D l e fun x hx => (hm x).mpr hx
    omega
end
end Gs
theorem L2.Same.seqT {K : PySem.W.Frag} {H H' : L2.Hp} {a : PySem.Addr} {xs : List L2.V} (e : L2.Same H H') (h : L2.SqT K H a xs) : L2.SqT K H' a xs := by
  rcases h with (h | ⟨o, h⟩) | h
  · exact .inl (.inl (e _ _ h))
  · exact .inl (.inr ⟨o, e _ _ h⟩)
  · exact .inr h
namespace Gs
open PySem PySem.Spec PyProof.Rows L2
/-- a tuple stands while a set is changed -/
theorem seqT_set {P : Program} {w : World} {K : PySem.W.Frag} {H : Hp} {S b : Addr} {L : Tps} {o : HO} {zs : List V} (hS : H S = some (SetTO P w S L)) (h : SqT K H b zs) : SqT K (upd H S o) b zs := by
  rcases h with (h | ⟨q, h⟩) | h
  · refine .inl (.inl ?_)
    rw [upd_ne (fun e => by rw [e, hS] at h; cases h)]; exact h
  · refine .inl (.inr ⟨q, ?_⟩)
    rw [upd_ne (fun e => by rw [e, hS] at h; cases h)]; exact h
  · exact .inr h
end Gs

set_option Elab.async false
set_option linter.all false
set_option maxRecDepth 100000
set_option maxHeartbeats 4000000
namespace K6
open PySem PySem.Spec PyProof.Rows L2 Gs
section
variable {P : Program} {w : World} {K : PySem.W.Frag} {mg : Str → Option Value} {base : Heap}
theorem hu_two {A : Around} {k : Nat} (hr : Room k A) : A.units + 2 < cLine := Nat.lt_of_le_of_lt (Nat.add_le_add_left (by decide : 2 ≤ 64) _) hr.units
def rTupOf (K : PySem.W.Frag) : List V → Hp → VK → Prop := fun vs H R => ∃ a zs, vs = [V.ref a] ∧ ((SqL K H a zs ∧ ∀ q, H q = none → R (.ref q) (upd H q (.tup zs))) ∨ (SqT K H a zs ∧ R (.ref a) H))
/-- the two numbers of a leap -/
def lkey : PyData → List Int
  | .list [.int a, .int b] => [a, b]
  | .tuple [.int a, .int b] => [a, b]
  | _ => []
def leapsOk (ds : List PyData) : Bool := ds.all isLeap && decide ((ds.map lkey).Nodup)
def areLeaps : PyData → Bool
  | .list ds => leapsOk ds
  | .tuple ds => leapsOk ds
  | _ => false
def few : PyData → Prop
  | .list ds => ds.length ≤ 62
  | .tuple ds => ds.length ≤ 62
  | _ => True
def spFew (K : PySem.W.Frag) (f : PyData → Bool) : Sp := fun vs H Q _ => ∃ (c : Addr) (v : V) (d : PyData), vs = [v] ∧ DV K c H v d ∧ few d ∧ ∀ H', Same H H' → Q (.bl (f d)) H'
theorem leap_is {c : Addr} {H : Hp} {v : V} {d : PyData} (h : DV K c H v d) (e : isLeap d = true) : ∃ (b : Addr) (ys : List V) (p q : Int), v = .ref b ∧ ((SqL K H b ys ∧ ys = [V.int p, V.int q]) ∨ (SqT K H b ys ∧ ys = [V.int p, V.int q])) ∧ lkey d = [p, q] := by
  cases h with
  | @lst b ys ds n hs hv =>
    have h2 : ds.length = 2 := Decidable.byContradiction fun z => by rw [(leap_no z).1] at e; cases e
    obtain ⟨dx, dy, rfl⟩ := two_of h2
    cases hv with
    | cons hx hv =>
    cases hv with
    | cons hy hv =>
    cases hv with
    | nil =>
      have e : (lpart dx && lpart dy && !(isZ dx && isZ dy)) = true := e
      rw [Bool.and_eq_true, Bool.and_eq_true] at e
      obtain ⟨i, rfl, rfl⟩ := lpart_int hx e.1.1
      obtain ⟨j, rfl, rfl⟩ := lpart_int hy e.1.2
      exact ⟨b, _, i, j, rfl, .inl ⟨hs, rfl⟩, rfl⟩
  | @tup b ys ds n hs hv =>
    have h2 : ds.length = 2 := Decidable.byContradiction fun z => by rw [(leap_no z).2] at e; cases e
    obtain ⟨dx, dy, rfl⟩ := two_of h2
    cases hv with
    | cons hx hv =>
    cases hv with
    | cons hy hv =>
    cases hv with
    | nil =>
      have e : (lpart dx && lpart dy && !(isZ dx && isZ dy)) = true := e
      rw [Bool.and_eq_true, Bool.and_eq_true] at e
      obtain ⟨i, rfl, rfl⟩ := lpart_int hx e.1.1
      obtain ⟨j, rfl, rfl⟩ := lpart_int hy e.1.2
      exact ⟨b, _, i, j, rfl, .inr ⟨hs, rfl⟩, rfl⟩
  | non => cases e
  | bl => cases e
  | int => cases e
  | str => cases e
  | dic => cases e
  | dct => cases e
theorem O_are_leaps (T : Tx K mg w) : FnOk P w K mg base CX0 5 T.a_are_leaps T.d_are_leaps ["value"] (spFew K areLeaps) := by
  refine T.F_are_leaps.ok sc_are_leaps (fun vs H Q E h => ?_) (fun cdv A outer s H vs Q E hr h => ?_)
  · obtain ⟨c, v, d, rfl, _⟩ := h; rfl
  obtain ⟨c, v, d, rfl, hd, hf, k⟩ := h
  refine ⟨_, (pss_cons (ps_if (PW.pt (pw_or (pt_not (pt_val (pe_call (O_is_list T) (hr.mono (by decide)) (by rfl) T.m_is_list T.F_is_list.kp T.b_is_list .nil pass0 (pa_cons (pv 0) pa_nil)))) (pw_or1 (pt_not (pt_val (pe_callB (cr_all rfl) (by rfl) T.z_all (by decide +kernel) (pa_cons (pe_lc (own := [("leap", 1)]) (g := (gName 1)) rfl sc_are_leaps.nd (pi_or (pi_list (pv 0)) (pi_tup (pv 0))) (blkOk_by (N := n_are_leaps) (sc := defScope s_are_leaps) (by decide +kernel)) (fun _ _ _ _ _ => (pg_name (i := 1) sc_are_leaps.nd rfl (Or.inl rfl))) (fun _ _ _ _ _ => pts_nil) (fun _ _ _ _ _ => (pe_call (O_is_leap T) (hr.mono (by decide)) (by rfl) T.m_is_leap T.F_is_leap.kp T.b_is_leap .nil pass0 (pa_cons (pv 1) pa_nil)))) pa_nil))))))) (pss_one (ps_ret pe_bl)) pss_nil)
      (pss_one (ps_ret (pe_cmpR op_eq (pe_callB call_lenT (by rfl) T.z_len (by decide +kernel) (pa_cons (pe_setc (own := [("leap", 1)]) (g := (gName 1)) (tupKd P w K) (hu_two hr) rfl sc_are_leaps.nd (pi_or (pi_list (pv 0)) (pi_tup (pv 0))) (blkOk_by (N := n_are_leaps) (sc := defScope s_are_leaps) (by decide +kernel)) (fun _ _ _ _ _ => (pg_name (i := 1) sc_are_leaps.nd rfl (Or.inl rfl))) (fun _ _ _ _ _ => pts_nil) (fun _ _ _ _ _ => (pe_callTy (T := "tuple") (r := rTupOf K) call_tuple_of (by rfl) T.z_tuple (by decide +kernel) (pa_cons (pv 1) pa_nil)))) pa_nil)) (pe_callB call_len (by rfl) T.z_len (by decide +kernel) (pa_cons (pv 0) pa_nil)) (nomark _))))), ?_⟩
  refine ⟨_, rfl, c, v, d, rfl, hd, fun H1 s1 => ⟨_, rfl, ?_⟩⟩
  have hd1 := hd.up (Ext.of s1)
  replace k := fun H' s2 => k H' (s1.trans s2)
  cases hd1 with
  | @lst a xs ds na hs hv =>
    have hf : ds.length ≤ 62 := hf
    have hl := hv.len
    refine iteF (.inl ⟨_, rfl, a, rfl, ⟨_, hs⟩, fun D hD => ?_⟩)
    refine lc_it (walk_list (K := K) (a := a) (xs := xs)) (fun i H' => Same H1 H' ∧ H' D = some (.lst ((ds.take i).map fun d => .bl (isLeap d)))) ⟨same_new hD, upd_same⟩ (fun i H' _ h => h.1.seq hs) ?_ ?_
    · rintro i x H2 H3 hi ⟨s2, hD2⟩ ⟨rfl, hx⟩
      refine ⟨rfl, ?_⟩
      obtain ⟨d, hdi, hdx⟩ := hv.at hx
      refine ⟨_, rfl, c, x, d, rfl, hdx.up (Ext.of s2), fun H4 s4 => ⟨_, s4 _ _ hD2, ?_, ?_, ?_⟩⟩
      · rw [List.length_map]
        exact szK (by have := List.length_take_le' i ds; omega)
      · exact same_own (s2.trans s4) hD
      · rw [upd_same, List.take_add_one, hdi, List.map_append]; rfl
    rintro H2 ⟨s2, hD2⟩
    rw [hl, List.take_length] at hD2
    refine ⟨D, ds.map isLeap, rfl, .of (by rw [List.map_map]; exact hD2), _, rfl, ?_⟩
    rw [show (ds.map isLeap).all id = ds.all isLeap by rw [List.all_map]; rfl]
    refine iteB (fun e => ?_) (fun e => ?_)
    · have e : (!ds.all isLeap) = true := e
      have e0 : ds.all isLeap = false := by simpa using e
      have := k H2 s2
      rw [show areLeaps (.list ds) = false by show leapsOk ds = false; unfold leapsOk; rw [e0]; rfl] at this
      exact this
    have e : (!ds.all isLeap) = false := e
    have e0 : ds.all isLeap = true := by simpa using e
    have hs2 := s2.seq hs
    replace hv : DVs K c H2 xs ds := hv.up (Ext.of s2)
    refine .inl ⟨_, rfl, a, rfl, ⟨_, hs2⟩, fun S hS => ?_⟩
    refine sc_it (walk_list (K := K) (a := a) (xs := xs)) (fun i H' => Same H2 H' ∧ ∃ L : Tps, H' S = some (SetTO P w S L) ∧ (∀ p ∈ L, SqT K H' p.1 (p.2.map V.int)) ∧ L.length ≤ i ∧ (L.map (·.2)).Nodup ∧
      ∀ q, q ∈ L.map (·.2) ↔ q ∈ (ds.take i).map lkey) ⟨same_new hS, [], upd_same, (fun p h => by cases h), Nat.le_refl _, List.nodup_nil, fun q => Iff.rfl⟩ (fun i H' _ h => h.1.seq hs2) ?_ ?_
    · rintro i x H3 H4 hi ⟨s3, L, hL, hT, hlen, hnd, hmem⟩ ⟨rfl, hx⟩
      refine ⟨rfl, ?_⟩
      obtain ⟨d, hdi, hdx⟩ := hv.at hx
      have hdx := hdx.up (Ext.of s3)
      have hle : isLeap d = true := List.all_eq_true.mp e0 d (List.mem_of_getElem? hdi)
      obtain ⟨b, ys, p, q, rfl, hb, hkey⟩ := leap_is hdx hle
      have step : ∀ (t : Addr) (H5 : Hp), Same H2 H5 → H5 S = some (SetTO P w S L) → (∀ p ∈ L, SqT K H5 p.1 (p.2.map V.int)) → SqT K H5 t [V.int p, V.int q] →
          (tupKd P w K).adds S (.ref t) H5 (fun H' => Same H2 H' ∧ ∃ L : Tps, H' S = some (SetTO P w S L) ∧ (∀ p ∈ L, SqT K H' p.1 (p.2.map V.int)) ∧ L.length ≤ i + 1 ∧ (L.map (·.2)).Nodup ∧
            ∀ q, q ∈ L.map (·.2) ↔ q ∈ (ds.take (i + 1)).map lkey) := by
        intro t H5 s5 hL5 hT5 ht
        refine ⟨t, [p, q], L, rfl, hL5, hT5, ht, by have hi : i < xs.length := hi; omega, fun L' c1 c2 => ?_⟩
        have key : ∀ z, z ∈ (ds.take (i + 1)).map lkey ↔ z = [p, q] ∨ z ∈ L.map (·.2) := fun z => by
          rw [List.take_add_one, hdi, List.map_append, List.mem_append, ← hmem z]
          show _ ∨ z ∈ [lkey d] ↔ _
          rw [hkey, List.mem_singleton]
          exact Or.comm
        have keep : ∀ b zs, SqT K H5 b zs → SqT K (upd H5 S (SetTO P w S L')) b zs := fun b zs h => seqT_set hL5 h
        refine ⟨same_own s5 hS, L', upd_same, ?_⟩
        by_cases hm : [p, q] ∈ L.map (·.2)
        · rw [c1 hm]
          refine ⟨fun r hr => by rw [← c1 hm]; exact keep _ _ (hT5 r hr), Nat.le_succ_of_le hlen, hnd, fun z => ?_⟩
          rw [key z]
          exact ⟨.inr, fun h => h.elim (fun e => by rw [e]; exact hm) id⟩
        · have pm := c2 hm
          refine ⟨fun r hr => ?_, by rw [pm.length_eq]; exact Nat.succ_le_succ hlen, ?_, fun z => ?_⟩
          · rcases List.mem_cons.mp (pm.mem_iff.mp hr) with e | hr
            · rw [e]; exact keep _ _ ht
            · exact keep _ _ (hT5 r hr)
          · rw [(pm.map (·.2)).nodup_iff]
            exact List.nodup_cons.mpr ⟨hm, hnd⟩
          · rw [key z, (pm.map (·.2)).mem_iff]
            show z ∈ [p, q] :: L.map (·.2) ↔ _
            rw [List.mem_cons]
      refine ⟨_, rfl, b, ys, rfl, ?_⟩
      rcases hb with ⟨hb, rfl⟩ | ⟨hb, rfl⟩
      · refine .inl ⟨hb, fun t ht => ?_⟩
        have st : Same H4 (upd H4 t (.tup [V.int p, V.int q])) := same_new ht
        exact step t _ (s3.trans st) (st _ _ hL) (fun r hr => st.seqT (hT r hr)) (.of upd_same)
      · exact .inr ⟨hb, step b H4 s3 hL hT hb⟩
    · rintro H3 ⟨s3, L, hL, hT, hlen, hnd, hmem⟩
      rw [hl, List.take_length] at hmem
      refine ⟨S, L, rfl, hL, hT, _, rfl, _, _, rfl, .inl ⟨_, s3.seq hs2, rfl⟩, rfl, ?_⟩
      have := k H3 (s2.trans s3)
      rw [show areLeaps (.list ds) = decide (V.int L.length = V.int xs.length) by
        show leapsOk ds = _
        unfold leapsOk
        rw [e0, Bool.true_and, ← size_tells hnd hmem, hl]
        rw [List.length_map, List.length_map]
        exact decide_eq_decide.mpr ⟨fun z => congrArg V.int z, fun z => V.int.inj z⟩] at this
      exact this
  | @tup a xs ds na hs hv =>
    have hf : ds.length ≤ 62 := hf
    have hl := hv.len
    refine iteF (.inr ⟨_, rfl, a, rfl, ⟨_, hs⟩, fun D hD => ?_⟩)
    refine lc_it (walk_tup (K := K) (a := a) (xs := xs)) (fun i H' => Same H1 H' ∧ H' D = some (.lst ((ds.take i).map fun d => .bl (isLeap d)))) ⟨same_new hD, upd_same⟩ (fun i H' _ h => h.1.seqT hs) ?_ ?_
    · rintro i x H2 H3 hi ⟨s2, hD2⟩ ⟨rfl, hx⟩
      refine ⟨rfl, ?_⟩
      obtain ⟨d, hdi, hdx⟩ := hv.at hx
      refine ⟨_, rfl, c, x, d, rfl, hdx.up (Ext.of s2), fun H4 s4 => ⟨_, s4 _ _ hD2, ?_, ?_, ?_⟩⟩
      · rw [List.length_map]
        exact szK (by have := List.length_take_le' i ds; omega)
      · exact same_own (s2.trans s4) hD
      · rw [upd_same, List.take_add_one, hdi, List.map_append]; rfl
    rintro H2 ⟨s2, hD2⟩
    rw [hl, List.take_length] at hD2
    refine ⟨D, ds.map isLeap, rfl, .of (by rw [List.map_map]; exact hD2), _, rfl, ?_⟩
    rw [show (ds.map isLeap).all id = ds.all isLeap by rw [List.all_map]; rfl]
    refine iteB (fun e => ?_) (fun e => ?_)
    · have e : (!ds.all isLeap) = true := e
      have e0 : ds.all isLeap = false := by simpa using e
      have := k H2 s2
      rw [show areLeaps (.tuple ds) = false by show leapsOk ds = false; unfold leapsOk; rw [e0]; rfl] at this
      exact this
    have e : (!ds.all isLeap) = false := e
    have e0 : ds.all isLeap = true := by simpa using e
    have hs2 := s2.seqT hs
    replace hv : DVs K c H2 xs ds := hv.up (Ext.of s2)
    refine .inr ⟨_, rfl, a, rfl, ⟨_, hs2⟩, fun S hS => ?_⟩
    refine sc_it (walk_tup (K := K) (a := a) (xs := xs)) (fun i H' => Same H2 H' ∧ ∃ L : Tps, H' S = some (SetTO P w S L) ∧ (∀ p ∈ L, SqT K H' p.1 (p.2.map V.int)) ∧ L.length ≤ i ∧ (L.map (·.2)).Nodup ∧
      ∀ q, q ∈ L.map (·.2) ↔ q ∈ (ds.take i).map lkey) ⟨same_new hS, [], upd_same, (fun p h => by cases h), Nat.le_refl _, List.nodup_nil, fun q => Iff.rfl⟩ (fun i H' _ h => h.1.seqT hs2) ?_ ?_
    · rintro i x H3 H4 hi ⟨s3, L, hL, hT, hlen, hnd, hmem⟩ ⟨rfl, hx⟩
      refine ⟨rfl, ?_⟩
      obtain ⟨d, hdi, hdx⟩ := hv.at hx
      have hdx := hdx.up (Ext.of s3)
      have hle : isLeap d = true := List.all_eq_true.mp e0 d (List.mem_of_getElem? hdi)
      obtain ⟨b, ys, p, q, rfl, hb, hkey⟩ := leap_is hdx hle
      have step : ∀ (t : Addr) (H5 : Hp), Same H2 H5 → H5 S = some (SetTO P w S L) → (∀ p ∈ L, SqT K H5 p.1 (p.2.map V.int)) → SqT K H5 t [V.int p, V.int q] →
          (tupKd P w K).adds S (.ref t) H5 (fun H' => Same H2 H' ∧ ∃ L : Tps, H' S = some (SetTO P w S L) ∧ (∀ p ∈ L, SqT K H' p.1 (p.2.map V.int)) ∧ L.length ≤ i + 1 ∧ (L.map (·.2)).Nodup ∧
            ∀ q, q ∈ L.map (·.2) ↔ q ∈ (ds.take (i + 1)).map lkey) := by
        intro t H5 s5 hL5 hT5 ht
        refine ⟨t, [p, q], L, rfl, hL5, hT5, ht, by have hi : i < xs.length := hi; omega, fun L' c1 c2 => ?_⟩
        have key : ∀ z, z ∈ (ds.take (i + 1)).map lkey ↔ z = [p, q] ∨ z ∈ L.map (·.2) := fun z => by
          rw [List.take_add_one, hdi, List.map_append, List.mem_append, ← hmem z]
          show _ ∨ z ∈ [lkey d] ↔ _
          rw [hkey, List.mem_singleton]
          exact Or.comm
        have keep : ∀ b zs, SqT K H5 b zs → SqT K (upd H5 S (SetTO P w S L')) b zs := fun b zs h => seqT_set hL5 h
        refine ⟨same_own s5 hS, L', upd_same, ?_⟩
        by_cases hm : [p, q] ∈ L.map (·.2)
        · rw [c1 hm]
          refine ⟨fun r hr => by rw [← c1 hm]; exact keep _ _ (hT5 r hr), Nat.le_succ_of_le hlen, hnd, fun z => ?_⟩
          rw [key z]
          exact ⟨.inr, fun h => h.elim (fun e => by rw [e]; exact hm) id⟩
        · have pm := c2 hm
          refine ⟨fun r hr => ?_, by rw [pm.length_eq]; exact Nat.succ_le_succ hlen, ?_, fun z => ?_⟩
          · rcases List.mem_cons.mp (pm.mem_iff.mp hr) with e | hr
            · rw [e]; exact keep _ _ ht
            · exact keep _ _ (hT5 r hr)
          · rw [(pm.map (·.2)).nodup_iff]
            exact List.nodup_cons.mpr ⟨hm, hnd⟩
          · rw [key z, (pm.map (·.2)).mem_iff]
            show z ∈ [p, q] :: L.map (·.2) ↔ _
            rw [List.mem_cons]
      refine ⟨_, rfl, b, ys, rfl, ?_⟩
      rcases hb with ⟨hb, rfl⟩ | ⟨hb, rfl⟩
      · refine .inl ⟨hb, fun t ht => ?_⟩
        have st : Same H4 (upd H4 t (.tup [V.int p, V.int q])) := same_new ht
        exact step t _ (s3.trans st) (st _ _ hL) (fun r hr => st.seqT (hT r hr)) (.of upd_same)
      · exact .inr ⟨hb, step b H4 s3 hL hT hb⟩
    · rintro H3 ⟨s3, L, hL, hT, hlen, hnd, hmem⟩
      rw [hl, List.take_length] at hmem
      refine ⟨S, L, rfl, hL, hT, _, rfl, _, _, rfl, .inr ⟨_, s3.seqT hs2, rfl⟩, rfl, ?_⟩
      have := k H3 (s2.trans s3)
      rw [show areLeaps (.tuple ds) = decide (V.int L.length = V.int xs.length) by
        show leapsOk ds = _
        unfold leapsOk
        rw [e0, Bool.true_and, ← size_tells hnd hmem, hl]
        rw [List.length_map, List.length_map]
        exact decide_eq_decide.mpr ⟨fun z => congrArg V.int z, fun z => V.int.inj z⟩] at this
      exact this
  | non => exact iteT (k H1 (Same.refl H1))
  | bl => exact iteT (k H1 (Same.refl H1))
  | int => exact iteT (k H1 (Same.refl H1))
  | str => exact iteT (k H1 (Same.refl H1))
  | dic => exact iteT (k H1 (Same.refl H1))
  | dct => exact iteT (k H1 (Same.refl H1))
end
end K6

set_option Elab.async false
set_option linter.all false
set_option maxRecDepth 100000
set_option maxHeartbeats 4000000
/-! Layer G7: len(set(xs)), xs a list or a tuple of texts, any of them more than once. -/
namespace Gs
open PySem PySem.Spec PyProof.Rows
section
variable {prog : Program} {w : World} {A : Around} {R : Result → Shared → Prop} {I : Addr} {fp wr : List Addr} {G : Array GenState → Array GenState → Prop} {n : Nat} {P : Nat → Value → Prop} {St : Nat → Shared → Prop}
/-- the set at S holds the texts L -/
def TxS (prog : Program) (w : World) (h : Heap) (S : Addr) (xs L : List Str) : Prop := h.SetOf (PySem.strKind prog w) S (fun z => decide (z ∈ L)) L.length ∧ L.Nodup ∧ L.length ≤ xs.length ∧ ∀ z, z ∈ L ↔ z ∈ xs
theorem TxS.keeps {h h' : Heap} {S : Addr} {xs L : List Str} (t : TxS prog w h S xs L) (k : ∀ o, h.get? S = some o → h'.get? S = some o) : TxS prog w h' S xs L := by
  obtain ⟨⟨o, es, ep, tb, ho, rest⟩, q⟩ := t
  exact ⟨⟨o, es, ep, tb, k o ho, rest⟩, q⟩
theorem loop_tx (W : WalksS prog w A.in1 I fp wr G n P St) (S : Addr) (nS : S ∉ fp) (xs : List Str) (hx : xs.length = n) (val : ∀ i v, P i v → ∃ t, v = .str (xs.getD i Str.empty) t) (few : n + 1 < scanBound) :
    ∀ (k i : Nat) (s : Shared), n - i = k → i ≤ n → St i s → (∃ L, TxS prog w s.heap S (xs.take i) L) → (∀ s' L, Moved (S :: wr) G s s' → TxS prog w s'.heap S xs L → R (.ok (.ret .none)) s') →
      codeAny (model prog w) A (.builtin "set.update.loop" ⟨[.ref S, .ref I], []⟩) R s := by
  have nW : S ∉ wr := fun h => nS (W.sub _ h)
  have more : ∀ b ∈ wr, b ∈ S :: wr := fun b hb => .tail _ hb
  intro k
  induction k with
  | zero =>
    rintro i s hk hi st ⟨L, hL⟩ hR
    obtain rfl : i = n := by omega
    refine codeAny_builtin PyProof.Rows.F.entry_set_update_loop ?_
    rw [Around.under_plainId PyProof.Rows.F.plain_set_update_loop _]
    show wpAny _ A.in1 (pyNext (.ref I) >>= _) _ _ s
    refine wpAny_bind (W.done s _ _ st fun s' mv => ?_)
    show wpAny _ A.in1 (ret Value.none) _ _ s'
    rw [← hx, List.take_length] at hL
    exact wpAny_pure (hR s' L (mv.mono more) (hL.keeps fun o e => mv.heap S o nW e))
  | succ k ih =>
    rintro i s hk hi st ⟨L, hL⟩ hR
    have lt : i < n := by omega
    refine codeAny_builtin PyProof.Rows.F.entry_set_update_loop ?_
    rw [Around.under_plainId PyProof.Rows.F.plain_set_update_loop _]
    show wpAny _ A.in1 (pyNext (.ref I) >>= _) _ _ s
    refine wpAny_bind (W.item i s _ _ lt st fun v s' hP st' mv => ?_)
    obtain ⟨t, rfl⟩ := val i v hP
    obtain ⟨hS, nd, hl, hm⟩ := hL.keeps (h' := s'.heap) fun o e => mv.heap S o nW e
    generalize hz : xs.getD i Str.empty = z
    have hzi : xs[i]? = some z := by
      have e : xs[i]? = some xs[i] := List.getElem?_eq_getElem (by omega)
      rw [e, ← hz, List.getD_eq_getElem?_getD, e]; rfl
    have hli : L.length ≤ i := Nat.le_trans hl (List.length_take_le _ _)
    show wpAny _ A.in1 (holding [Value.str z t] (setAdd S (.str z t)) >>= _) _ _ s'
    refine wpAny_bind (wpAny_holding ?_)
    unfold setAdd
    refine wpAny_holding ?_
    refine wpAny_bind ((PySem.strKind prog w).pyHash (k := z) (strKind_is _ _ _ _) ?_)
    refine wpAny_setAddHashed_of (knd := PySem.strKind prog w) (s := { s' with toks := s'.toks + 1 }) (strKind_is _ _ _ _) rfl hS (by omega) fun h' same hS2 => ?_
    have next : ∃ L', TxS prog w h' S (xs.take (i + 1)) L' := by
      have mem : ∀ y, y ∈ xs.take (i + 1) ↔ y ∈ L ∨ y = z := fun y => by
        rw [List.take_add_one, hzi, List.mem_append, hm y]
        show _ ∨ y ∈ [z] ↔ _
        rw [List.mem_singleton]
      have len : (xs.take (i + 1)).length = i + 1 := by rw [List.length_take]; omega
      by_cases hin : z ∈ L
      · refine ⟨L, SetOf_congr hS2 (fun y => ?_) (by rw [if_pos (decide_eq_true hin)]), nd, by omega, fun y => ?_⟩
        · by_cases e : y = z
          · subst e; simp [hin]
          · simp [e]
        · rw [mem y]; exact ⟨.inl, fun h => h.elim id fun e => by rw [e]; exact hin⟩
      · refine ⟨L ++ [z], SetOf_congr hS2 (fun y => ?_) ?_, ?_, ?_, fun y => ?_⟩
        · by_cases e : y = z
          · subst e; simp
          · simp [e]
        · rw [if_neg (by simpa using hin), List.length_append]; rfl
        · rw [List.nodup_append]
          exact ⟨nd, by simp, fun a ha b hb e => hin (by rw [← List.mem_singleton.mp hb, ← e]; exact ha)⟩
        · rw [List.length_append, len]; exact Nat.succ_le_succ hli
        · rw [mem y, List.mem_append, List.mem_singleton]
    refine wpAny_pure ⟨plainId_quiet PyProof.Rows.F.plain_set_update_loop _, ih (i + 1) _ (by omega) lt (W.frame _ s' _ _ st' (Nat.le_succ _) fun b hb o e => ?_) next fun s2 L2 mv2 hL2 => ?_⟩
    · exact (same.2 b fun h : b = S => nS (by rw [← h]; exact hb)).trans e
    · exact hR s2 L2 (Moved.trans W.gtrans ((mv.mono more).then_heap (Nat.le_succ _) fun b o hb e => (same.2 b fun h : b = S => hb (by rw [h]; exact .head _)).trans e) mv2) hL2
end
/-- a new empty set -/
abbrev set0 (led : Bool) : Obj := { cls := .type "set", dict := none, data := .set #[] 0 (.fresh 0 0 led) }
section
variable {prog : Program} {w : World} {A : Around} {E : Value → Shared → Prop} {s : Shared}
set_option maxHeartbeats 4000000 in
theorem set_tx_list {l : Addr} {items : Array Value} {xs : List Str} {Q : Value → Shared → Prop} (hh : A.handled = none) (hl : s.heap.IsList l items) (hi : StrsAre items.toList xs) (few : xs.length + 1 < scanBound)
    (h : ∀ (h' : Heap) (tk : Nat) L, TxS prog w h' s.heap.objs.size xs L → (∀ b o, b < s.heap.objs.size → s.heap.get? b = some o → h'.get? b = some o) → Q (.ref s.heap.objs.size) { s with heap := h', toks := tk }) :
    wpAny (model prog w) A (call (.type "set") [.ref l]) Q E s := by
  obtain ⟨c, tl, hmro⟩ := PySem.F.called_set.mro
  have made := PySem.F.called_set.made
  have sub := PySem.F.called_set.sub
  have nt := PySem.F.called_set.notType
  have cc := PySem.F.called_set.canCreate
  have tc := PySem.F.typeCall_set_1 (.ref l)
  refine wpAny_call (codeAny_of_tree ?_)
  show wpAny _ _ (callAny (.type "set") _) _ _ _
  refine wpAny_pure ⟨Code.quiet_builtin _ (by decide +kernel), codeAny_builtin PySem.F.entry_type_call ?_⟩
  rw [Around.under_plain (weight_type_call_type "set" [.ref l] []) rfl]
  repeat (any_goals (first | assumption | wp_step))
  refine codeAny_mono (code_set_new_1 (.ref l) (E := E) (Q₁ := fun obj s₁ => ∃ led : Bool, obj = .ref s.heap.objs.size ∧ s₁ = { s with heap := s.heap.push (set0 led) }) fun led => ⟨led, rfl, rfl⟩) fun r s₁ hr => ?_
  cases r with
  | error e => exact hr
  | ok fl =>
    cases fl with
    | next => exact hr.elim
    | brk => exact hr.elim
    | cont => exact hr.elim
    | ret obj =>
      obtain ⟨led, rfl, rfl⟩ := hr
      have hS : (s.heap.push (set0 led)).get? s.heap.objs.size = some (set0 led) := Heap.get?_push_size _ rfl
      have hT : Shared.TypeIs { s with heap := s.heap.push (set0 led) } (.ref s.heap.objs.size) "set" := ⟨_, hS, rfl⟩
      have li := PySem.F.called_set.init.lookup
      have bi := PySem.F.called_set.init.bind (.ref s.heap.objs.size)
      repeat (any_goals (first | assumption | wp_step))
      refine codeAny_mono (codeAny_call_builtin (R := wants (fun r s₂ => r = .none ∧ ∃ h' tk L, s₂ = { s with heap := h', toks := tk } ∧ TxS prog w h' s.heap.objs.size xs L ∧ ∀ b o, b < s.heap.objs.size → s.heap.get? b = some o → h'.get? b = some o) E)
        PySem.F.called_set.init.plain PySem.F.entry_set_init (check_set_init_1 hT ?_)) fun r₂ s₂ hr₂ => ?_
      · obtain ⟨⟨ocls, odict, odata, oslots⟩, hol, hcl, nl, hdl⟩ := hl
        dsimp only at hcl hdl
        subst hcl hdl
        have hol' : (s.heap.push (set0 led)).get? l = some { cls := .type "list", dict := odict, data := .seq items nl, slots := oslots } := Heap.get?_push_of_some _ hol
        have s1 := PySem.F.sub_list_set
        have s2 := PySem.F.sub_list_frozenset
        have s3 : (Value.type "list" == Value.type "dict") = false := by decide
        have hl1 : (s.heap.push (set0 led)).IsList l items := ⟨_, hol', rfl, nl, rfl⟩
        unfold Builtin.«set.__init__» noKeywords Builtin.Frozenset.updateFrom
        generalize hPI : pyIter = PI
        wp_walk
        subst hPI
        refine wpAny_pyIter_list hl1 ?_
        refine wpAny_bind (wpAny_runValue ?_)
        have lS : l < s.heap.objs.size := Heap.lt_size hol
        have nI : l ≠ (s.heap.push (set0 led)).objs.size := by
          rw [Heap.size_push]
          exact Nat.ne_of_lt (Nat.lt_succ_of_lt lS)
        have nF : s.heap.objs.size ∉ [(s.heap.push (set0 led)).objs.size, l] := by
          rw [Heap.size_push, List.mem_cons, List.mem_singleton]
          rintro (e | e)
          · exact Nat.ne_of_lt (Nat.lt_succ_self _) e
          · exact Nat.ne_of_gt lS e
        have hx : xs.length = items.size := (Array.length_toList ▸ StrsAre.len_eq hi).symm
        refine loop_tx ((Walks.list (by simp [hh]) _ l nI items).toS) s.heap.objs.size nF xs hx (fun i v hv => SS.strs_at hi i v ((Array.getElem?_toList ..).trans hv)) (by omega) (items.size - 0) 0 _ (by omega) (Nat.zero_le _)
          ⟨⟨_, Heap.get?_push_size _ rfl, rfl, rfl⟩, hl1.push _⟩ ⟨[], ?_, List.nodup_nil, Nat.zero_le _, fun z => Iff.rfl⟩ fun s' L mv hL => ?_
        · refine SetOf_congr ((setObjOf_fresh (knd := PySem.strKind prog w) led).setOf (Heap.get?_push_of_some _ hS) (by unfold scanBound; omega)) (fun z => ?_) rfl
          simp
        · obtain ⟨h', g', d', tk', os'⟩ := s'
          have e1 : g' = s.gens := mv.gens
          have e2 : d' = s.drawn := mv.drawn
          have e3 : os' = s.os := mv.os
          subst e1 e2 e3
          show wpAny _ _ _ _ _ _
          refine wpAny_pure ?_
          show wpAny _ _ (ret Value.none) _ _ _
          refine wpAny_pure ⟨rfl, h', tk', L, rfl, hL, fun b o hb e => mv.heap b o ?_ (Heap.get?_push_of_some _ (Heap.get?_push_of_some _ e))⟩
          rw [Heap.size_push, List.mem_cons, List.mem_singleton]
          rintro (z | z)
          · exact Nat.ne_of_lt hb z
          · exact Nat.ne_of_lt (Nat.lt_succ_of_lt hb) z
      · cases r₂ with
        | error e => exact hr₂
        | ok fl₂ =>
          cases fl₂ with
          | next => exact hr₂.elim
          | brk => exact hr₂.elim
          | cont => exact hr₂.elim
          | ret r =>
            obtain ⟨rfl, h', tk, L, rfl, hL, keep⟩ := hr₂
            repeat (any_goals (first | assumption | wp_step))
            exact h _ _ L hL keep
set_option maxHeartbeats 4000000 in
theorem set_tx_tuple {l : Addr} {items : Array Value} {xs : List Str} {Q : Value → Shared → Prop} (hh : A.handled = none) (hl : s.heap.IsTuple l items) (hi : StrsAre items.toList xs) (few : xs.length + 1 < scanBound)
    (h : ∀ (h' : Heap) (tk : Nat) L, TxS prog w h' s.heap.objs.size xs L → (∀ b o, b < s.heap.objs.size → s.heap.get? b = some o → h'.get? b = some o) → Q (.ref s.heap.objs.size) { s with heap := h', toks := tk }) :
    wpAny (model prog w) A (call (.type "set") [.ref l]) Q E s := by
  obtain ⟨c, tl, hmro⟩ := PySem.F.called_set.mro
  have made := PySem.F.called_set.made
  have sub := PySem.F.called_set.sub
  have nt := PySem.F.called_set.notType
  have cc := PySem.F.called_set.canCreate
  have tc := PySem.F.typeCall_set_1 (.ref l)
  refine wpAny_call (codeAny_of_tree ?_)
  show wpAny _ _ (callAny (.type "set") _) _ _ _
  refine wpAny_pure ⟨Code.quiet_builtin _ (by decide +kernel), codeAny_builtin PySem.F.entry_type_call ?_⟩
  rw [Around.under_plain (weight_type_call_type "set" [.ref l] []) rfl]
  repeat (any_goals (first | assumption | wp_step))
  refine codeAny_mono (code_set_new_1 (.ref l) (E := E) (Q₁ := fun obj s₁ => ∃ led : Bool, obj = .ref s.heap.objs.size ∧ s₁ = { s with heap := s.heap.push (set0 led) }) fun led => ⟨led, rfl, rfl⟩) fun r s₁ hr => ?_
  cases r with
  | error e => exact hr
  | ok fl =>
    cases fl with
    | next => exact hr.elim
    | brk => exact hr.elim
    | cont => exact hr.elim
    | ret obj =>
      obtain ⟨led, rfl, rfl⟩ := hr
      have hS : (s.heap.push (set0 led)).get? s.heap.objs.size = some (set0 led) := Heap.get?_push_size _ rfl
      have hT : Shared.TypeIs { s with heap := s.heap.push (set0 led) } (.ref s.heap.objs.size) "set" := ⟨_, hS, rfl⟩
      have li := PySem.F.called_set.init.lookup
      have bi := PySem.F.called_set.init.bind (.ref s.heap.objs.size)
      repeat (any_goals (first | assumption | wp_step))
      refine codeAny_mono (codeAny_call_builtin (R := wants (fun r s₂ => r = .none ∧ ∃ h' tk L, s₂ = { s with heap := h', toks := tk } ∧ TxS prog w h' s.heap.objs.size xs L ∧ ∀ b o, b < s.heap.objs.size → s.heap.get? b = some o → h'.get? b = some o) E)
        PySem.F.called_set.init.plain PySem.F.entry_set_init (check_set_init_1 hT ?_)) fun r₂ s₂ hr₂ => ?_
      · obtain ⟨⟨ocls, odict, odata, oslots⟩, hol, hcl, nl, hdl⟩ := hl
        dsimp only at hcl hdl
        subst hcl hdl
        have hol' : (s.heap.push (set0 led)).get? l = some { cls := .type "tuple", dict := odict, data := .seq items nl, slots := oslots } := Heap.get?_push_of_some _ hol
        have s1 := PySem.F.sub_tuple_set
        have s2 := PySem.F.sub_tuple_frozenset
        have s3 : (Value.type "tuple" == Value.type "dict") = false := by decide
        have hl1 : (s.heap.push (set0 led)).IsTuple l items := ⟨_, hol', rfl, nl, rfl⟩
        unfold Builtin.«set.__init__» noKeywords Builtin.Frozenset.updateFrom
        generalize hPI : pyIter = PI
        wp_walk
        subst hPI
        refine wpAny_pyIter_tuple hl1 ?_
        refine wpAny_bind (wpAny_runValue ?_)
        have lS : l < s.heap.objs.size := Heap.lt_size hol
        have nI : l ≠ (s.heap.push (set0 led)).objs.size := by
          rw [Heap.size_push]
          exact Nat.ne_of_lt (Nat.lt_succ_of_lt lS)
        have nF : s.heap.objs.size ∉ [(s.heap.push (set0 led)).objs.size, l] := by
          rw [Heap.size_push, List.mem_cons, List.mem_singleton]
          rintro (e | e)
          · exact Nat.ne_of_lt (Nat.lt_succ_self _) e
          · exact Nat.ne_of_gt lS e
        have hx : xs.length = items.size := (Array.length_toList ▸ StrsAre.len_eq hi).symm
        refine loop_tx ((Walks.tuple (by simp [hh]) _ l nI items).toS) s.heap.objs.size nF xs hx (fun i v hv => SS.strs_at hi i v ((Array.getElem?_toList ..).trans hv)) (by omega) (items.size - 0) 0 _ (by omega) (Nat.zero_le _)
          ⟨⟨_, Heap.get?_push_size _ rfl, rfl, rfl⟩, hl1.push _⟩ ⟨[], ?_, List.nodup_nil, Nat.zero_le _, fun z => Iff.rfl⟩ fun s' L mv hL => ?_
        · refine SetOf_congr ((setObjOf_fresh (knd := PySem.strKind prog w) led).setOf (Heap.get?_push_of_some _ hS) (by unfold scanBound; omega)) (fun z => ?_) rfl
          simp
        · obtain ⟨h', g', d', tk', os'⟩ := s'
          have e1 : g' = s.gens := mv.gens
          have e2 : d' = s.drawn := mv.drawn
          have e3 : os' = s.os := mv.os
          subst e1 e2 e3
          show wpAny _ _ _ _ _ _
          refine wpAny_pure ?_
          show wpAny _ _ (ret Value.none) _ _ _
          refine wpAny_pure ⟨rfl, h', tk', L, rfl, hL, fun b o hb e => mv.heap b o ?_ (Heap.get?_push_of_some _ (Heap.get?_push_of_some _ e))⟩
          rw [Heap.size_push, List.mem_cons, List.mem_singleton]
          rintro (z | z)
          · exact Nat.ne_of_lt hb z
          · exact Nat.ne_of_lt (Nat.lt_succ_of_lt hb) z
      · cases r₂ with
        | error e => exact hr₂
        | ok fl₂ =>
          cases fl₂ with
          | next => exact hr₂.elim
          | brk => exact hr₂.elim
          | cont => exact hr₂.elim
          | ret r =>
            obtain ⟨rfl, h', tk, L, rfl, hL, keep⟩ := hr₂
            repeat (any_goals (first | assumption | wp_step))
            exact h _ _ L hL keep
end
end Gs
namespace Gs
open PySem PySem.Spec PyProof.Rows L2
section
variable {X : Cx}
def tLenTx (K : PySem.W.Frag) (ta : TE) : TE := fun σ H Q => ta σ H fun x H1 => ∃ (l : Addr) (xs : List Str), x = .ref l ∧ (SqL K H1 l (xs.map V.str) ∨ SqT K H1 l (xs.map V.str)) ∧ xs.length ≤ 1000 ∧
  ∀ L : List Str, L.Nodup → (∀ z, z ∈ L ↔ z ∈ xs) → Q (.int L.length) H1
theorem pe_lenTx {a : Expr} {ta : TE} {p p2 q pos : Pos} (hc : X.calm = true) (hg : Gl X "len") (hm : X.mg "len" = none) (hg2 : Gl X "set") (hm2 : X.mg "set" = none) (ha : PE X a ta)
    (na : starEach [a] X.env = (false, eval a X.env) :: starEach [] X.env := by rfl) : PE X (.Call (.Name "len" p) [.Call (.Name "set" p2) [a] [] q] [] pos) (tLenTx X.K ta) := by
  constructor
  intro pins s σ H Q I h
  refine Call_ (ld_blt I hg hm boot_len ?_)
  refine callWith_builtin1 (args_cons ?_ rfl) rfl rfl
  refine Call_ (ld_blt I hg2 hm2 boot_set ?_)
  refine callWith_type1 (args_cons (thn (ha.run pins s σ H _ I h) fun v s1 ⟨x, H1, I1, r1, l, xs, ex, hq, hz, k⟩ => args_nil ?_) na) na rfl
  subst ex
  cases r1
  have fin : ∀ (h' : Heap) (tk : Nat) (L : List Str), TxS X.prog X.w h' s1.heap.objs.size xs L → (∀ b o, b < s1.heap.objs.size → s1.heap.get? b = some o → h'.get? b = some o) →
      wpAny (model X.prog X.w) X.A (spliced (backTo pos (starEach [] X.env))) (fun vs s₂ => wpAny (model X.prog X.w) X.A (call (.builtin "len") (Value.ref s1.heap.objs.size :: vs)) (EP X pins σ Q) X.xe s₂) X.xe { s1 with heap := h', toks := tk } := by
    rintro h' tk L ⟨⟨o, es, ep, t, ho, hex, hd, _, _, _, hf, hn⟩, nd, hl, hm⟩ keep
    refine args_nil ?_
    have I2 : Inv X pins σ H1 { s1 with heap := h', toks := tk } := I1.kept fun b o e => keep b o (Heap.lt_size e) e
    exact call_len_set ho hex hd hf (by rw [hn]; omega) ⟨.int L.length, H1, I2.tok _, ⟨_, by rw [hn]⟩, k L nd hm⟩
  rcases hq with hq | hq
  · obtain ⟨its, r, pl, _⟩ := I1.list hq
    exact set_tx_list (I1.ok.hd hc) pl.isList (by simpa using strsAre_of r) (by unfold scanBound; omega) fin
  · obtain ⟨its, r, pl, _⟩ := I1.tuple hq
    exact set_tx_tuple (I1.ok.hd hc) (by obtain ⟨o, e1, e2, m, e3⟩ := pl; exact ⟨o, e1, e2, m, e3⟩) (by simpa using strsAre_of r) (by unfold scanBound; omega) fin
end
end Gs

set_option Elab.async false
set_option linter.all false
set_option maxRecDepth 100000
set_option maxHeartbeats 4000000
namespace K6
open PySem PySem.Spec PyProof.Rows L2 Gs
section
variable {P : Program} {w : World} {K : PySem.W.Frag} {mg : Str → Option Value} {base : Heap}
def rkey : PyData → Str
  | .str x => x
  | _ => Str.empty
def ridesOk (ds : List PyData) : Bool := ds.all isRide && decide ((ds.map rkey).Nodup)
def areRides : PyData → Bool
  | .list ds => ridesOk ds
  | .tuple ds => ridesOk ds
  | _ => false
theorem rides_are {c : Addr} {H : Hp} : ∀ {xs : List V} {ds : List PyData}, DVs K c H xs ds → ds.all isRide = true → xs = (ds.map rkey).map V.str
  | _, [], h, _ => by cases h; rfl
  | _, d :: ds, h, e => by
    rw [List.all_cons, Bool.and_eq_true] at e
    cases h with
    | cons hx hv =>
      have r := rides_are hv e.2
      have e1 := e.1
      cases hx with
      | str x => rw [List.map_cons, List.map_cons, ← r]; rfl
      | non => cases e1
      | bl => cases e1
      | int => cases e1
      | lst => cases e1
      | tup => cases e1
      | dic => cases e1
      | dct => cases e1
theorem O_are_rides (T : Tx K mg w) : FnOk P w K mg base CX0 5 T.a_are_rides T.d_are_rides ["value"] (spFew K areRides) := by
  refine T.F_are_rides.ok sc_are_rides (fun vs H Q E h => ?_) (fun cdv A outer s H vs Q E hr h => ?_)
  · obtain ⟨c, v, d, rfl, _⟩ := h; rfl
  obtain ⟨c, v, d, rfl, hd, hf, k⟩ := h
  refine ⟨_, (pss_cons (ps_if (PW.pt (pw_or (pt_not (pt_val (pe_call (O_is_list T) (hr.mono (by decide)) (by rfl) T.m_is_list T.F_is_list.kp T.b_is_list .nil pass0 (pa_cons (pv 0) pa_nil)))) (pw_or1 (pt_not (pt_val (pe_callB (cr_all rfl) (by rfl) T.z_all (by decide +kernel) (pa_cons (pe_lc (own := [("ride", 1)]) (g := (gName 1)) rfl sc_are_rides.nd (pi_or (pi_list (pv 0)) (pi_tup (pv 0))) (blkOk_by (N := n_are_rides) (sc := defScope s_are_rides) (by decide +kernel)) (fun _ _ _ _ _ => (pg_name (i := 1) sc_are_rides.nd rfl (Or.inl rfl))) (fun _ _ _ _ _ => pts_nil) (fun _ _ _ _ _ => (pe_call (O_is_ride T) (hr.mono (by decide)) (by rfl) T.m_is_ride T.F_is_ride.kp T.b_is_ride .nil pass0 (pa_cons (pv 1) pa_nil)))) pa_nil))))))) (pss_one (ps_ret pe_bl)) pss_nil)
      (pss_one (ps_ret (pe_cmpR op_eq (pe_lenTx rfl (by rfl) T.z_len (by rfl) T.z_set (pv 0)) (pe_callB call_len (by rfl) T.z_len (by decide +kernel) (pa_cons (pv 0) pa_nil)) (nomark _))))), ?_⟩
  refine ⟨_, rfl, c, v, d, rfl, hd, fun H1 s1 => ⟨_, rfl, ?_⟩⟩
  have hd1 := hd.up (Ext.of s1)
  replace k := fun H' s2 => k H' (s1.trans s2)
  cases hd1 with
  | @lst a xs ds na hs hv =>
    have hf : ds.length ≤ 62 := hf
    have hl := hv.len
    refine iteF (.inl ⟨_, rfl, a, rfl, ⟨_, hs⟩, fun D hD => ?_⟩)
    refine lc_it (walk_list (K := K) (a := a) (xs := xs)) (fun i H' => Same H1 H' ∧ H' D = some (.lst ((ds.take i).map fun d => .bl (isRide d)))) ⟨same_new hD, upd_same⟩ (fun i H' _ h => h.1.seq hs) ?_ ?_
    · rintro i x H2 H3 hi ⟨s2, hD2⟩ ⟨rfl, hx⟩
      refine ⟨rfl, ?_⟩
      obtain ⟨d, hdi, hdx⟩ := hv.at hx
      refine ⟨_, rfl, c, x, d, rfl, hdx.up (Ext.of s2), fun H4 s4 => ⟨_, s4 _ _ hD2, ?_, ?_, ?_⟩⟩
      · rw [List.length_map]
        exact szK (by have := List.length_take_le' i ds; omega)
      · exact same_own (s2.trans s4) hD
      · rw [upd_same, List.take_add_one, hdi, List.map_append]; rfl
    rintro H2 ⟨s2, hD2⟩
    rw [hl, List.take_length] at hD2
    refine ⟨D, ds.map isRide, rfl, .of (by rw [List.map_map]; exact hD2), _, rfl, ?_⟩
    rw [show (ds.map isRide).all id = ds.all isRide by rw [List.all_map]; rfl]
    refine iteB (fun e => ?_) (fun e => ?_)
    · have e : (!ds.all isRide) = true := e
      have e0 : ds.all isRide = false := by simpa using e
      have := k H2 s2
      rw [show areRides (.list ds) = false by show ridesOk ds = false; unfold ridesOk; rw [e0]; rfl] at this
      exact this
    have e : (!ds.all isRide) = false := e
    have e0 : ds.all isRide = true := by simpa using e
    have hs2 := s2.seq hs
    have ex := rides_are (hv.up (Ext.of s2)) e0
    refine ⟨_, rfl, a, ds.map rkey, rfl, .inl (by rw [← ex]; exact hs2), by rw [List.length_map]; omega, fun L nd hm => ?_⟩
    refine ⟨_, rfl, _, _, rfl, .inl ⟨_, hs2, rfl⟩, rfl, ?_⟩
    have := k H2 s2
    rw [show areRides (.list ds) = decide (V.int L.length = V.int xs.length) by
      show ridesOk ds = _
      unfold ridesOk
      rw [e0, Bool.true_and, ← size_tells nd hm, hl]
      rw [List.length_map]
      exact decide_eq_decide.mpr ⟨fun z => congrArg V.int z, fun z => V.int.inj z⟩] at this
    exact this
  | @tup a xs ds na hs hv =>
    have hf : ds.length ≤ 62 := hf
    have hl := hv.len
    refine iteF (.inr ⟨_, rfl, a, rfl, ⟨_, hs⟩, fun D hD => ?_⟩)
    refine lc_it (walk_tup (K := K) (a := a) (xs := xs)) (fun i H' => Same H1 H' ∧ H' D = some (.lst ((ds.take i).map fun d => .bl (isRide d)))) ⟨same_new hD, upd_same⟩ (fun i H' _ h => h.1.seqT hs) ?_ ?_
    · rintro i x H2 H3 hi ⟨s2, hD2⟩ ⟨rfl, hx⟩
      refine ⟨rfl, ?_⟩
      obtain ⟨d, hdi, hdx⟩ := hv.at hx
      refine ⟨_, rfl, c, x, d, rfl, hdx.up (Ext.of s2), fun H4 s4 => ⟨_, s4 _ _ hD2, ?_, ?_, ?_⟩⟩
      · rw [List.length_map]
        exact szK (by have := List.length_take_le' i ds; omega)
      · exact same_own (s2.trans s4) hD
      · rw [upd_same, List.take_add_one, hdi, List.map_append]; rfl
    rintro H2 ⟨s2, hD2⟩
    rw [hl, List.take_length] at hD2
    refine ⟨D, ds.map isRide, rfl, .of (by rw [List.map_map]; exact hD2), _, rfl, ?_⟩
    rw [show (ds.map isRide).all id = ds.all isRide by rw [List.all_map]; rfl]
    refine iteB (fun e => ?_) (fun e => ?_)
    · have e : (!ds.all isRide) = true := e
      have e0 : ds.all isRide = false := by simpa using e
      have := k H2 s2
      rw [show areRides (.tuple ds) = false by show ridesOk ds = false; unfold ridesOk; rw [e0]; rfl] at this
      exact this
    have e : (!ds.all isRide) = false := e
    have e0 : ds.all isRide = true := by simpa using e
    have hs2 := s2.seqT hs
    have ex := rides_are (hv.up (Ext.of s2)) e0
    refine ⟨_, rfl, a, ds.map rkey, rfl, .inr (by rw [← ex]; exact hs2), by rw [List.length_map]; omega, fun L nd hm => ?_⟩
    refine ⟨_, rfl, _, _, rfl, .inr ⟨_, hs2, rfl⟩, rfl, ?_⟩
    have := k H2 s2
    rw [show areRides (.tuple ds) = decide (V.int L.length = V.int xs.length) by
      show ridesOk ds = _
      unfold ridesOk
      rw [e0, Bool.true_and, ← size_tells nd hm, hl]
      rw [List.length_map]
      exact decide_eq_decide.mpr ⟨fun z => congrArg V.int z, fun z => V.int.inj z⟩] at this
    exact this
  | non => exact iteT (k H1 (Same.refl H1))
  | bl => exact iteT (k H1 (Same.refl H1))
  | int => exact iteT (k H1 (Same.refl H1))
  | str => exact iteT (k H1 (Same.refl H1))
  | dic => exact iteT (k H1 (Same.refl H1))
  | dct => exact iteT (k H1 (Same.refl H1))
end
end K6

set_option Elab.async false
set_option linter.all false
set_option maxRecDepth 100000
set_option maxHeartbeats 4000000
/-! Layer G8: sorted(xs), xs a list of pairs of ints that stand anywhere (tracked, locked or written). -/
namespace Gs
open PySem PySem.Spec PyProof.Rows L2
theorem perm_pre {α β : Type} {f : α → β} {m out : List β} (h : m.Perm out) : ∀ ks : List α, m = ks.map f → ∃ ls : List α, ls.Perm ks ∧ out = ls.map f := by
  induction h with
  | nil =>
    intro ks e
    exact ⟨[], by rw [List.map_eq_nil_iff.mp e.symm], rfl⟩
  | cons x _ ih =>
    intro ks e
    cases ks with
    | nil => cases e
    | cons k ks =>
      obtain ⟨e1, e2⟩ := List.cons.inj e
      obtain ⟨ls, h1, h2⟩ := ih ks e2
      exact ⟨k :: ls, h1.cons k, by rw [h2, e1]; rfl⟩
  | swap x y l =>
    intro ks e
    match ks, e with
    | k1 :: k2 :: ks, e =>
      obtain ⟨e1, e2⟩ := List.cons.inj e
      obtain ⟨e3, e4⟩ := List.cons.inj e2
      exact ⟨k2 :: k1 :: ks, List.Perm.swap k1 k2 ks, by rw [e1, e3, e4]; rfl⟩
  | trans _ _ ih1 ih2 =>
    intro ks e
    obtain ⟨ls, h1, h2⟩ := ih1 ks e
    obtain ⟨ms, h3, h4⟩ := ih2 ls h2
    exact ⟨ms, h3.trans h1, h4⟩
def rSortT (K : PySem.W.Frag) : List V → Hp → VK → Prop := fun vs H Q => ∃ (a : Addr) (ks : List (Addr × Int × Int)), vs = [V.ref a] ∧ SqL K H a (ks.map fun p => V.ref p.1) ∧ (∀ p ∈ ks, SqT K H p.1 [.int p.2.1, .int p.2.2]) ∧
  ∀ (ls : List (Addr × Int × Int)) p, ls.Perm ks → ls.Pairwise (fun x y => SrtO.lexB y.2 x.2 = false) → H p = none → Q (.ref p) (upd H p (.lst (ls.map fun p => V.ref p.1)))
section
variable {X : Cx}
theorem cr_sortT : CallR X (.builtin "sorted") (rSortT X.K) := by
  intro pins s σ H vs us Q I r h
  obtain ⟨a, ks, rfl, hs, hx, q⟩ := h
  have inj : ∀ p ∈ ks, ∀ q ∈ ks, p.1 = q.1 → p.2 = q.2 := by
    intro p hp q hq e
    obtain ⟨its1, r1, ⟨o1, ho1, _, n1, hd1⟩, _⟩ := I.tuple (hx p hp)
    obtain ⟨its2, r2, ⟨o2, ho2, _, n2, hd2⟩, _⟩ := I.tuple (hx q hq)
    rw [e, ho2] at ho1
    cases ho1
    rw [hd1] at hd2
    have e2 : its1 = its2 := by
      have := (Data.seq.inj hd2).1
      simpa using this
    subst e2
    obtain ⟨u1, u2, e3, ⟨t1, h1⟩, ⟨t2, h2⟩⟩ := vals2 r1
    obtain ⟨v1, v2, e4, ⟨t3, h3⟩, ⟨t4, h4⟩⟩ := vals2 r2
    subst e3 h1 h2
    have e5 := (List.cons.inj e4).1.trans h3
    have e6 := (List.cons.inj (List.cons.inj e4).2).1.trans h4
    exact Prod.ext (Value.int.inj e5).1 (Value.int.inj e6).1
  obtain ⟨its, rv, hl, hz⟩ := I.list hs
  obtain ⟨u, rfl, ru⟩ := vals1 r
  obtain rfl : u = Value.ref a := ru
  have eits : its = ks.map fun p => Value.ref p.1 := by
    clear hs hx inj q hz hl
    induction ks generalizing its with
    | nil => cases rv; rfl
    | cons p ks ih =>
      cases rv with
      | cons r1 r2 =>
        cases r1
        rw [ih _ r2]; rfl
  -- the pair that an address tells
  obtain ⟨k, hk⟩ : ∃ k : Value → Int × Int, ∀ p ∈ ks, k (.ref p.1) = p.2 := by
    refine ⟨fun v => match ks.find? (fun p => Value.ref p.1 == v) with | some p => p.2 | none => (0, 0), fun p hp => ?_⟩
    show (match ks.find? (fun q => Value.ref q.1 == Value.ref p.1) with | some q => q.2 | none => (0, 0)) = p.2
    cases e : ks.find? (fun q => Value.ref q.1 == Value.ref p.1) with
    | none => exact absurd (List.find?_eq_none.mp e p hp) (by simp)
    | some q =>
      have hq := List.find?_some e
      have e1 : q.1 = p.1 := Value.ref.inj (eq_of_beq hq)
      exact inj q (List.mem_of_find?_eq_some e) p hp e1
  refine SrtO.sorted_pairsO (k := k) hl.isList (by rw [← rv.length]; exact hz) (fun v hv => ?_) fun h' d out h1 h2 kp hd hn => ?_
  · rw [eits] at hv
    obtain ⟨p, hp, rfl⟩ := List.mem_map.mp hv
    obtain ⟨its2, r2, ⟨o, ho, hc, n, hdt⟩, _⟩ := I.tuple (hx p hp)
    obtain ⟨u1, u2, e3, ri, rj⟩ := vals2 r2
    obtain ⟨t1, rfl⟩ := ri
    obtain ⟨t2, rfl⟩ := rj
    subst e3
    rw [hk p hp]
    exact ⟨p.1, o, t1, t2, n, rfl, ho, hc, hdt⟩
  · rw [eits] at h2
    obtain ⟨n, hn⟩ := hn
    obtain ⟨ls, hls, rfl⟩ : ∃ ls : List (Addr × Int × Int), ls.Perm ks ∧ out = ls.map fun p => Value.ref p.1 := by
      exact perm_pre h2.perm.symm ks rfl
    have hv : Vals (ls.map fun p => V.ref p.1) (ls.map fun p => Value.ref p.1) := by
      clear h1 h2 kp hn hls
      induction ls with
      | nil => exact .nil
      | cons p ls ih => exact .cons rfl ih
    refine ⟨.ref d, upd H d (.lst (ls.map fun p => V.ref p.1)), I.laid (t' := s.toks) kp hd ⟨?_, _, n, hv, hn⟩, rfl, q ls d hls ?_ (I.hok.fresh hd)⟩
    · rw [List.length_map, hls.length_eq, ← List.length_map (f := fun p => V.ref p.1) (as := ks)]
      exact hz
    · have h1 := List.pairwise_map.mp h1
      refine h1.imp_of_mem fun {x y} hx hy e => ?_
      have e : SrtO.lexB (k (.ref y.1)) (k (.ref x.1)) = false := e
      rw [hk x (hls.mem_iff.mp hx), hk y (hls.mem_iff.mp hy)] at e
      exact e
end
end Gs

set_option Elab.async false
set_option linter.all false
set_option maxRecDepth 100000
set_option maxHeartbeats 4000000
/-! Layer G9: all but instances stay. -/
namespace Gs
open PySem PySem.Spec PyProof.Rows L2
def ExtI (H H' : Hp) : Prop := ∀ b o, H b = some o → (∀ C dx fs, o ≠ .ins C dx fs) → H' b = some o
theorem ExtI.refl {H : Hp} : ExtI H H := fun _ _ h _ => h
theorem ExtI.of {H H' : Hp} (s : Same H H') : ExtI H H' := fun b o h _ => s b o h
theorem ExtI.trans {H H1 H2 : Hp} (a : ExtI H H1) (b : ExtI H1 H2) : ExtI H H2 := fun c o h n => b c o (a c o h n) n
theorem ExtI.put {H : Hp} {x C dx : Addr} {fs : List (Str × V)} {o : HO} (hx : H x = some (.ins C dx fs)) : ExtI H (upd H x o) := fun b u h n => by
  rw [upd_ne (fun e => n C dx fs (by rw [e, hx] at h; exact (Option.some.inj h).symm))]
  exact h
theorem ExtI.put' {H : Hp} {x C dx : Addr} {fs : List (Str × V)} {H' : Hp} (hx : H x = some (.ins C dx fs)) (e : Ext x H H') : ExtI H H' := fun b u h n =>
  e b u (fun z => n C dx fs (by rw [z, hx] at h; exact (Option.some.inj h).symm)) h
theorem ExtI.sqL {K : PySem.W.Frag} {H H' : Hp} {a : Addr} {xs : List V} (e : ExtI H H') (h : SqL K H a xs) : SqL K H' a xs := by
  rcases h with (h | ⟨o, h⟩) | h
  · exact .inl (.inl (e _ _ h fun _ _ _ z => by cases z))
  · exact .inl (.inr ⟨o, e _ _ h fun _ _ _ z => by cases z⟩)
  · exact .inr h
theorem ExtI.sqT {K : PySem.W.Frag} {H H' : Hp} {a : Addr} {xs : List V} (e : ExtI H H') (h : SqT K H a xs) : SqT K H' a xs := by
  rcases h with (h | ⟨o, h⟩) | h
  · exact .inl (.inl (e _ _ h fun _ _ _ z => by cases z))
  · exact .inl (.inr ⟨o, e _ _ h fun _ _ _ z => by cases z⟩)
  · exact .inr h
section
variable {K : PySem.W.Frag} {c : Addr} {H H' : Hp}
mutual
theorem dv_i (e : ExtI H H') : ∀ (d : PyData) (v : V), DV K c H v d → DV K c H' v d
  | .none, _, h => by cases h; exact .non
  | .bool _, _, h => by cases h; exact .bl _
  | .int _, _, h => by cases h; exact .int _
  | .str _, _, h => by cases h; exact .str _
  | .list ds, _, h => by
    cases h with
    | lst n s r => exact .lst n (e.sqL s) (dvs_i e ds _ r)
  | .tuple ds, _, h => by
    cases h with
    | tup n s r => exact .tup n (e.sqT s) (dvs_i e ds _ r)
  | .dict ps, _, h => by
    cases h with
    | dic n s r => exact .dic n (e _ _ s fun _ _ _ z => by cases z) (dks_i e ps _ r)
    | dct n s z => exact .dct n (e _ _ s fun _ _ _ z => by cases z) z
theorem dvs_i (e : ExtI H H') : ∀ (ds : List PyData) (vs : List V), DVs K c H vs ds → DVs K c H' vs ds
  | [], _, h => by cases h; exact .nil
  | d :: ds, _, h => by
    cases h with
    | cons a b => exact .cons (dv_i e d _ a) (dvs_i e ds _ b)
theorem dks_i (e : ExtI H H') : ∀ (ps : List (PyData × PyData)) (vs : List (Key × V)), DKs K c H vs ps → DKs K c H' vs ps
  | [], _, h => by cases h; exact .nil
  | (d, f) :: ps, _, h => by
    cases h with
    | cons a b r => exact .cons (dv_i e d _ a) (dv_i e f _ b) (dks_i e ps _ r)
end
end
theorem DV.upI {K : PySem.W.Frag} {c : Addr} {H H' : Hp} {v : V} {d : PyData} (h : DV K c H v d) (e : ExtI H H') : DV K c H' v d := dv_i e d v h
theorem DVs.upI {K : PySem.W.Frag} {c : Addr} {H H' : Hp} {vs : List V} {ds : List PyData} (h : DVs K c H vs ds) (e : ExtI H H') : DVs K c H' vs ds := dvs_i e ds vs h
end Gs

set_option Elab.async false
set_option linter.all false
set_option maxRecDepth 100000
set_option maxHeartbeats 4000000
namespace K6
open PySem PySem.Spec PyProof.Rows L2 Gs
section
variable {P : Program} {w : World} {K : PySem.W.Frag} {mg : Str → Option Value} {base : Heap}
def isBl : PyData → Bool
  | .bool _ => true
  | _ => false
def seqOf : PyData → List PyData
  | .list ds => ds
  | .tuple ds => ds
  | _ => []
def truth : PyData → Bool
  | .bool b => b
  | _ => false
/-- what is wrong first with a kind's parts: is it a misfit, and which part -/
def kindBad (dn dl dr dq : PyData) : Option (Bool × Str) :=
  if isNm dn = false then some (false, "name") else
  if areLeaps dl = false then some (false, "leaps") else
  if areRides dr = false then some (false, "rides") else
  if isBl dq = false then some (false, "is_lord") else
  if (truth dq && !(seqOf dr).isEmpty) = true then some (true, "rides") else
  if ((seqOf dl).isEmpty && (seqOf dr).isEmpty) = true then some (true, "leaps") else none
def pairOf (d : PyData) : Int × Int := match lkey d with | [a, b] => (a, b) | _ => (0, 0)
def ridesOf (dr : PyData) : List Str := steps4.filter fun z => decide (z ∈ (seqOf dr).map rkey)
def kdF (vn : V) (tl tr : Addr) (vq : V) : List (Str × V) := [("name", vn), ("leaps", .ref tl), ("rides", .ref tr), ("is_lord", vq)]
def spKind (K : PySem.W.Frag) (C DB DM : Addr) : Sp := fun vs H Q E => ∃ (x dx c : Addr) (vn vl vr vq : V) (dn dl dr dq : PyData), vs = [.ref x, vn, vl, vr, vq] ∧ H x = some (.ins C dx []) ∧
  DV K c H vn dn ∧ DV K c H vl dl ∧ DV K c H vr dr ∧ DV K c H vq dq ∧ (∀ z, dn = .str z → z.length ≤ 1000000) ∧ few dl ∧ few dr ∧
  (∀ m p, kindBad dn dl dr dq = some (m, p) → ∀ d H', H d = none → Same H H' → H' d = some (.xd [("part", .str p)]) → E (.ref (if m = true then DM else DB)) (some d) H') ∧
  (kindBad dn dl dr dq = none → ∀ tl tr (ls : List (Addr × Int × Int)) H', Ext x H H' → H' x = some (.ins C dx (kdF vn tl tr vq)) → SqT K H' tl (ls.map fun p => V.ref p.1) → (∀ p ∈ ls, SqT K H' p.1 [.int p.2.1, .int p.2.2]) →
    (ls.map (·.2)).Perm ((seqOf dl).map pairOf) → ls.Pairwise (fun a b => SrtO.lexB b.2 a.2 = false) → SqT K H' tr ((ridesOf dr).map V.str) → Q .non H')
/-- a list or a tuple that bears ds -/
def Seq (K : PySem.W.Frag) (H : Hp) (a : Addr) (xs : List V) : Prop := SqL K H a xs ∨ SqT K H a xs
theorem seq_of_leaps {c : Addr} {H : Hp} {v : V} {d : PyData} (h : DV K c H v d) (e : areLeaps d = true) : ∃ (a : Addr) (xs : List V), v = .ref a ∧ Seq K H a xs ∧ DVs K c H xs (seqOf d) := by
  cases h with
  | lst n s r => exact ⟨_, _, rfl, .inl s, r⟩
  | tup n s r => exact ⟨_, _, rfl, .inr s, r⟩
  | _ => cases e
theorem seq_of_rides {c : Addr} {H : Hp} {v : V} {d : PyData} (h : DV K c H v d) (e : areRides d = true) : ∃ (a : Addr) (xs : List V), v = .ref a ∧ Seq K H a xs ∧ DVs K c H xs (seqOf d) := by
  cases h with
  | lst n s r => exact ⟨_, _, rfl, .inl s, r⟩
  | tup n s r => exact ⟨_, _, rfl, .inr s, r⟩
  | _ => cases e
theorem leaps_all {d : PyData} (h : areLeaps d = true) : (seqOf d).all isLeap = true := by
  cases d with
  | list ds => exact (Bool.and_eq_true_iff.mp (show (ds.all isLeap && decide ((ds.map lkey).Nodup)) = true from h)).1
  | tuple ds => exact (Bool.and_eq_true_iff.mp (show (ds.all isLeap && decide ((ds.map lkey).Nodup)) = true from h)).1
  | _ => rfl
theorem few_len {d : PyData} (h : few d) : (seqOf d).length ≤ 62 := by
  cases d with
  | list ds => exact h
  | tuple ds => exact h
  | _ => exact Nat.zero_le _
theorem rides_all {d : PyData} (h : areRides d = true) : (seqOf d).all isRide = true := by
  cases d with
  | list ds => exact (Bool.and_eq_true_iff.mp (show (ds.all isRide && decide ((ds.map rkey).Nodup)) = true from h)).1
  | tuple ds => exact (Bool.and_eq_true_iff.mp (show (ds.all isRide && decide ((ds.map rkey).Nodup)) = true from h)).1
  | _ => rfl
/-- a list or a tuple is walked -/
theorem pi_seq_rd {a : Addr} {xs : List V} {σ : L2.St} {H : Hp} {R : It → Hp → Prop} {i : Nat} (hv : σ[i]? = some (some (.ref a))) (hs : Seq K H a xs)
    (h : ∀ (J : It) (G : Hp → Prop), (∀ H', ExtI H H' → G H') → Walk J xs.length G (YAt xs) → R J H) : iList K (tVar i) σ H R ∨ iTup K (tVar i) σ H R := by
  rcases hs with hs | hs
  · exact .inl ⟨_, hv, a, rfl, ⟨xs, hs⟩, h _ _ (fun H' e => e.sqL hs) walk_list⟩
  · exact .inr ⟨_, hv, a, rfl, ⟨xs, hs⟩, h _ _ (fun H' e => e.sqT hs) walk_tup⟩
/-- a tuple stands while a list is changed -/
theorem seqT_lst {H : Hp} {S b : Addr} {ys : List V} {o : HO} {zs : List V} (hS : H S = some (.lst ys)) (h : SqT K H b zs) : SqT K (upd H S o) b zs := by
  rcases h with (h | ⟨q, h⟩) | h
  · refine .inl (.inl ?_)
    rw [upd_ne (fun e => by rw [e, hS] at h; cases h)]; exact h
  · refine .inl (.inr ⟨q, ?_⟩)
    rw [upd_ne (fun e => by rw [e, hS] at h; cases h)]; exact h
  · exact .inr h
theorem inV_str (z : Str) (l : List Str) : inV (.str z) (l.map V.str) = decide (z ∈ l) := by
  unfold inV
  rw [List.any_map]
  induction l with
  | nil => rfl
  | cons a l ih =>
    rw [List.any_cons, ih]
    show ((a == z) || decide (z ∈ l)) = decide (z ∈ a :: l)
    by_cases h : z = a
    · subst h; simp
    · have : (a == z) = false := by simpa [beq_iff_eq] using fun e : a = z => h e.symm
      rw [this, Bool.false_or]
      exact decide_eq_decide.mpr ⟨List.mem_cons_of_mem _, fun m => (List.mem_cons.mp m).elim (fun e => absurd e h) id⟩
theorem all_flat (l : List Str) : (l.map V.str).all flatV = true := by
  rw [List.all_map]
  exact List.all_eq_true.mpr fun _ _ => rfl
theorem if_sh {q : Bool} {A F : Prop} (c : Prop) (hf : c → F) (hx : (c → F) → q = true → A) (hq : q = false → c) : if q = true then A else F := by
  cases q with
  | true => exact hx hf rfl
  | false => exact hf (hq rfl)
theorem O_Kind___init__ (T : Tx K mg w) : FnOk P w K mg base (L2.CX P w) 6 T.a_Kind___init__ T.d_Kind___init__ ["self", "name", "leaps", "rides", "is_lord"] (spKind K T.c_Kind T.c_BadKind T.c_Misfit) := by
  refine T.F_Kind___init__.ok sc_Kind___init__ (fun vs H Q E h => ?_) (fun cdv A outer s H vs Q E hr h => ?_)
  · obtain ⟨x, dx, c, vn, vl, vr, vq, dn, dl, dr, dq, rfl, _⟩ := h; rfl
  obtain ⟨x, dx, c, vn, vl, vr, vq, dn, dl, dr, dq, rfl, hx, hn, hl, hrd, hq, hz, hfl, hfr, kb, kg⟩ := h
  refine ⟨_, (pss_cons (ps_if (pt_not (pt_val (pe_call (O_is_name T) (hr.mono (by decide)) (by rfl) T.m_is_name T.F_is_name.kp T.b_is_name .nil pass0 (pa_cons (pv 1) pa_nil)))) (pss_one (ps_raise rfl (takes_of rfl rfl rfl rfl) (pmk_oex T.ox_BadKind T.ic_BadKind T.ti_BadKind (O_BadKind___init__ T) (hr.mono (by decide)) T.b_BadKind___init__ .nil pass0 (by rfl) T.m_BadKind (pa_cons pe_str pa_nil)))) pss_nil)
      (pss_cons (ps_if (pt_not (pt_val (pe_call (O_are_leaps T) (hr.mono (by decide)) (by rfl) T.m_are_leaps T.F_are_leaps.kp T.b_are_leaps .nil pass0 (pa_cons (pv 2) pa_nil)))) (pss_one (ps_raise rfl (takes_of rfl rfl rfl rfl) (pmk_oex T.ox_BadKind T.ic_BadKind T.ti_BadKind (O_BadKind___init__ T) (hr.mono (by decide)) T.b_BadKind___init__ .nil pass0 (by rfl) T.m_BadKind (pa_cons pe_str pa_nil)))) pss_nil)
      (pss_cons (ps_if (pt_not (pt_val (pe_call (O_are_rides T) (hr.mono (by decide)) (by rfl) T.m_are_rides T.F_are_rides.kp T.b_are_rides .nil pass0 (pa_cons (pv 3) pa_nil)))) (pss_one (ps_raise rfl (takes_of rfl rfl rfl rfl) (pmk_oex T.ox_BadKind T.ic_BadKind T.ti_BadKind (O_BadKind___init__ T) (hr.mono (by decide)) T.b_BadKind___init__ .nil pass0 (by rfl) T.m_BadKind (pa_cons pe_str pa_nil)))) pss_nil)
      (pss_cons (ps_if (pt_not (pt_val (pe_callB call_isi (by rfl) T.z_isinstance (by decide +kernel) (pa_cons (pv 4) (pa_cons (pe_bltn (v := .ty "bool") (u := .type "bool") (by rfl) T.z_bool (by decide +kernel) rfl) pa_nil))))) (pss_one (ps_raise rfl (takes_of rfl rfl rfl rfl) (pmk_oex T.ox_BadKind T.ic_BadKind T.ti_BadKind (O_BadKind___init__ T) (hr.mono (by decide)) T.b_BadKind___init__ .nil pass0 (by rfl) T.m_BadKind (pa_cons pe_str pa_nil)))) pss_nil)
      (pss_cons (ps_if (PW.pt (pw_and (pt_val (pv 4)) (pw_and1 (pt_cmpR op_gt (pe_callB call_len (by rfl) T.z_len (by decide +kernel) (pa_cons (pv 3) pa_nil)) pe_int (nomark _))))) (pss_one (ps_raise rfl (takes_of rfl rfl rfl rfl) (pmk_oex T.ox_Misfit T.ic_Misfit T.ti_Misfit (O_Misfit___init__ T) (hr.mono (by decide)) T.b_Misfit___init__ .nil pass0 (by rfl) T.m_Misfit (pa_cons pe_str pa_nil)))) pss_nil)
      (pss_cons (ps_if (PW.pt (pw_and (pt_cmpR op_eq (pe_callB call_len (by rfl) T.z_len (by decide +kernel) (pa_cons (pv 2) pa_nil)) pe_int (nomark _)) (pw_and1 (pt_cmpR op_eq (pe_callB call_len (by rfl) T.z_len (by decide +kernel) (pa_cons (pv 3) pa_nil)) pe_int (nomark _))))) (pss_one (ps_raise rfl (takes_of rfl rfl rfl rfl) (pmk_oex T.ox_Misfit T.ic_Misfit T.ti_Misfit (O_Misfit___init__ T) (hr.mono (by decide)) T.b_Misfit___init__ .nil pass0 (by rfl) T.m_Misfit (pa_cons pe_str pa_nil)))) pss_nil)
      (pss_cons (ps_fld (pv 0) (pv 1) rfl)
      (pss_cons (ps_fld (pv 0) (pe_callTy (T := "tuple") (r := rTupOf K) call_tuple_of (by rfl) T.z_tuple (by decide +kernel) (pa_cons (pe_callB cr_sortT (by rfl) T.z_sorted (by decide +kernel) (pa_cons (pe_lc (own := [("leap", 5)]) (g := (gName 5)) rfl sc_Kind___init__.nd (pi_or (pi_list (pv 2)) (pi_tup (pv 2))) (blkOk_by (N := n_Kind___init__) (sc := defScope s_Kind___init__) (by decide +kernel)) (fun _ _ _ _ _ => (pg_name (i := 5) sc_Kind___init__.nd rfl (Or.inl rfl))) (fun _ _ _ _ _ => pts_nil) (fun _ _ _ _ _ => (pe_callTy (T := "tuple") (r := rTupOf K) call_tuple_of (by rfl) T.z_tuple (by decide +kernel) (pa_cons (pv 5) pa_nil)))) pa_nil)) pa_nil)) rfl)
      (pss_cons (ps_fld (pv 0) (pe_callTy (T := "tuple") (r := rTupOf K) call_tuple_of (by rfl) T.z_tuple (by decide +kernel) (pa_cons (pe_lc (own := [("ride", 6)]) (g := (gName 6)) rfl sc_Kind___init__.nd (pi_wkeys (pe_glob (v := .ref T.t_S) (by rfl) T.g_S rfl)) (blkOk_by (N := n_Kind___init__) (sc := defScope s_Kind___init__) (by decide +kernel)) (fun _ _ _ _ _ => (pg_name (i := 6) sc_Kind___init__.nd rfl (Or.inl rfl))) (fun _ _ _ _ _ => pts_one (pt_cmpR (r := rIn K false) op_in_seq (pv 6) (pv 3) (by rfl))) (fun _ _ _ _ _ => (pv 6))) pa_nil)) rfl)
      (pss_one (ps_fld (pv 0) (pv 4) rfl))))))))))), ?_⟩
  have bad : ∀ m p H1, kindBad dn dl dr dq = some (m, p) → Same H H1 → ∀ d H', H1 d = none → Same H1 H' → H' d = some (.xd [("part", .str p)]) → E (.ref (if m = true then T.c_Misfit else T.c_BadKind)) (some d) H' :=
    fun m p H1 e s1 d H' h1 h2 h3 => kb m p e d H' (s1.free h1) (s1.trans h2) h3
  clear kb
  -- the name
  refine ⟨_, rfl, c, vn, dn, rfl, hn, hz, fun H1 s1 => ⟨_, rfl, ?_⟩⟩
  refine iteB (fun e => ?_) (fun e => ?_)
  · have e0 : isNm dn = false := by simpa using e
    refine ⟨Nat.le_of_ble_eq_true rfl, mk_err fun d H' h1 h2 h3 => ?_⟩
    exact bad false "name" H1 (by unfold kindBad; rw [if_pos e0]) s1 d H' h1 h2 h3
  have e1 : isNm dn = true := by simpa using e
  clear e
  -- the leaps
  refine ⟨_, rfl, c, vl, dl, rfl, hl.up (Ext.of s1), hfl, fun H2 t2 => ⟨_, rfl, ?_⟩⟩
  have s2 := s1.trans t2
  clear t2
  refine iteB (fun e => ?_) (fun e => ?_)
  · have e0 : areLeaps dl = false := by simpa using e
    refine ⟨Nat.le_of_ble_eq_true rfl, mk_err fun d H' h1 h2 h3 => ?_⟩
    exact bad false "leaps" H2 (by unfold kindBad; rw [if_neg (by rw [e1]; decide), if_pos e0]) s2 d H' h1 h2 h3
  have e2 : areLeaps dl = true := by simpa using e
  clear e
  -- the rides
  refine ⟨_, rfl, c, vr, dr, rfl, hrd.up (Ext.of s2), hfr, fun H3 t3 => ⟨_, rfl, ?_⟩⟩
  have s3 := s2.trans t3
  clear t3
  refine iteB (fun e => ?_) (fun e => ?_)
  · have e0 : areRides dr = false := by simpa using e
    refine ⟨Nat.le_of_ble_eq_true rfl, mk_err fun d H' h1 h2 h3 => ?_⟩
    exact bad false "rides" H3 (by unfold kindBad; rw [if_neg (by rw [e1]; decide), if_neg (by rw [e2]; decide), if_pos e0]) s3 d H' h1 h2 h3
  have e3 : areRides dr = true := by simpa using e
  clear e
  -- is_lord
  have hq3 := hq.up (Ext.of s3)
  refine ⟨_, rfl, _, .ty "bool", .type (tyN _), .type "bool", _, rfl, .ty _, ty_of hq3, kit_ty (kB _), _, rfl, ?_⟩
  refine iteB (fun e => ?_) (fun e => ?_)
  · have e0 : isBl dq = false := by cases dq <;> first | rfl | cases e
    refine ⟨Nat.le_of_ble_eq_true rfl, mk_err fun d H' h1 h2 h3 => ?_⟩
    exact bad false "is_lord" H3 (by unfold kindBad; rw [if_neg (by rw [e1]; decide), if_neg (by rw [e2]; decide), if_neg (by rw [e3]; decide), if_pos e0]) s3 d H' h1 h2 h3
  have e4 : isBl dq = true := by cases dq <;> first | rfl | cases e
  clear e
  obtain ⟨q, rfl, rfl⟩ : ∃ q : Bool, vq = .bl q ∧ dq = .bool q := by
    cases hq3 with
    | bl q => exact ⟨q, rfl, rfl⟩
    | _ => cases e4
  have step : kindBad dn dl dr (.bool q) = if (q && !(seqOf dr).isEmpty) = true then some (true, ("rides" : Str)) else if ((seqOf dl).isEmpty && (seqOf dr).isEmpty) = true then some (true, ("leaps" : Str)) else none := by
    unfold kindBad
    rw [if_neg (by rw [e1]; decide), if_neg (by rw [e2]; decide), if_neg (by rw [e3]; decide), if_neg (fun z : isBl (.bool q) = false => by cases z)]; rfl
  have hl3 := hl.up (Ext.of s3)
  have hr3 := hrd.up (Ext.of s3)
  -- both are lists or tuples
  obtain ⟨al, xl, rfl, hsl, hvl⟩ := seq_of_leaps hl3 e2
  obtain ⟨ar, xr, rfl, hsr, hvr⟩ := seq_of_rides hr3 e3
  have lr := hvr.len
  have ll := hvl.len
  have em : ∀ {ds : List PyData} {n : Nat}, n = ds.length → ds.isEmpty = decide (n = 0) := fun {ds n} h => by
    subst h
    cases ds <;> simp
  rw [step] at bad kg
  -- a lord that rides
  refine ⟨_, rfl, _, rfl, ?_⟩
  refine if_sh ((q && !(seqOf dr).isEmpty) = false) (fun c1 => ?_) (fun F e => ?_) (fun e => by rw [e]; rfl)
  rotate_left
  · refine ⟨_, rfl, _, xr.length, rfl, hsr.imp (fun h => ⟨xr, h, rfl⟩) (fun h => ⟨xr, h, rfl⟩), _, _, rfl, rfl, _, rfl, ?_⟩
    refine iteB (fun e5 => ?_) (fun e5 => F ?_)
    · have e5 := of_decide_eq_true e5
      refine ⟨Nat.le_of_ble_eq_true rfl, mk_err fun d H' h1 h2 h3 => ?_⟩
      refine bad true "rides" H3 ?_ s3 d H' h1 h2 h3
      rw [if_pos]
      rw [e, em lr, decide_eq_false (by omega)]; rfl
    · have e5 := of_decide_eq_false e5
      rw [em lr, decide_eq_true (by omega)]; simp
  rw [if_neg (by rw [c1]; decide)] at bad kg
  -- neither leaps nor rides
  refine ⟨_, rfl, _, xl.length, rfl, hsl.imp (fun h => ⟨xl, h, rfl⟩) (fun h => ⟨xl, h, rfl⟩), rfl, _, rfl, ?_⟩
  refine if_sh (((seqOf dl).isEmpty && (seqOf dr).isEmpty) = false) (fun c2 => ?_) (fun F e => ?_) (fun e => ?_)
  rotate_left
  · refine ⟨_, rfl, _, xr.length, rfl, hsr.imp (fun h => ⟨xr, h, rfl⟩) (fun h => ⟨xr, h, rfl⟩), rfl, _, rfl, ?_⟩
    have e6 : xl.length = 0 := by have := V.int.inj (of_decide_eq_true e); omega
    refine iteB (fun e5 => ?_) (fun e5 => F ?_)
    · have e5 := V.int.inj (of_decide_eq_true e5)
      refine ⟨Nat.le_of_ble_eq_true rfl, mk_err fun d H' h1 h2 h3 => ?_⟩
      refine bad true "leaps" H3 ?_ s3 d H' h1 h2 h3
      rw [if_pos]
      rw [em ll, em lr, decide_eq_true e6, decide_eq_true (by omega)]; rfl
    · have e5 : ¬ xr.length = 0 := fun z => (of_decide_eq_false e5) (by rw [z]; rfl)
      rw [em ll, em lr, decide_eq_true e6, decide_eq_false e5]; rfl
  · have e5 : ¬ xl.length = 0 := fun z => (of_decide_eq_false e) (by rw [z]; rfl)
    rw [em ll, decide_eq_false e5]; rfl
  rw [if_neg (by rw [c2]; decide)] at kg
  replace kg := kg rfl
  clear bad c1 c2 em
  have a2 : (seqOf dl).all isLeap = true := leaps_all e2
  have a3 : (seqOf dr).all isRide = true := rides_all e3
  have exr := rides_are hvr a3
  have hx3 := s3 _ _ hx
  have x3 : Ext x H H3 := Ext.of s3
  have fl := few_len hfl
  clear hl hrd hn hq hq3 hl3 hr3 hfl hfr
  -- self.name
  refine ⟨_, rfl, _, rfl, x, _, dx, _, rfl, hx3, T.cl_Kind, T.nF_Kind_name, Nat.le_of_ble_eq_true rfl, ?_⟩
  have h4 : upd H3 x (.ins T.c_Kind dx [("name", vn)]) x = some (.ins T.c_Kind dx [("name", vn)]) := upd_same
  have i4 : ExtI H3 (upd H3 x (.ins T.c_Kind dx [("name", vn)])) := ExtI.put hx3
  have x4 : Ext x H (upd H3 x (.ins T.c_Kind dx [("name", vn)])) := x3.trans Ext.bag
  change tSeq _ _ _ _ (upd H3 x (.ins T.c_Kind dx [("name", vn)]))
  generalize upd H3 x (.ins T.c_Kind dx [("name", vn)]) = H4 at h4 i4 x4 ⊢
  have hsl4 : Seq K H4 al xl := hsl.imp i4.sqL i4.sqT
  have hsr4 : Seq K H4 ar xr := hsr.imp i4.sqL i4.sqT
  have hvl4 := hvl.upI i4
  clear hsl hsr hvl hvr x3 hx3 i4
  -- self.leaps
  refine pi_seq_rd (a := al) (xs := xl) rfl hsl4 (fun J G hG W => fun D hD => ?_)
  refine lc_it W (fun i H' => Same H4 H' ∧ ∃ ls : List (Addr × Int × Int), ls.length = i ∧ H' D = some (.lst (ls.map fun p => V.ref p.1)) ∧ (∀ p ∈ ls, SqT K H' p.1 [.int p.2.1, .int p.2.2]) ∧ ls.map (·.2) = ((seqOf dl).take i).map pairOf)
    ⟨same_new hD, [], rfl, upd_same, (fun p h => by cases h), rfl⟩ (fun i H' _ h => hG H' (ExtI.of h.1)) ?_ ?_
  · rintro i v H5 H6 hi ⟨s5, ls, hlen, hD5, hT, hmap⟩ ⟨rfl, hv⟩
    refine ⟨rfl, ?_⟩
    obtain ⟨d, hdi, hdx⟩ := hvl4.at hv
    have hle : isLeap d = true := List.all_eq_true.mp a2 d (List.mem_of_getElem? hdi)
    obtain ⟨b, ys, p, q', rfl, hb, hkey⟩ := leap_is (hdx.up (Ext.of s5)) hle
    have few' : ls.length < sizeLine := by
      have : i < xl.length := hi
      have hi2 := (List.getElem?_eq_some_iff.mp hdi).1
      exact Nat.lt_of_lt_of_le (show ls.length < 1000000 by omega) (by decide)
    have step : ∀ (t : Addr) (H7 : Hp), Same H4 H7 → H7 D = some (.lst (ls.map fun p => V.ref p.1)) → (∀ p ∈ ls, SqT K H7 p.1 [.int p.2.1, .int p.2.2]) → SqT K H7 t [.int p, .int q'] →
        ∃ acc, H7 D = some (.lst acc) ∧ acc.length < sizeLine ∧ (Same H4 (upd H7 D (.lst (acc ++ [V.ref t]))) ∧ ∃ ls : List (Addr × Int × Int), ls.length = i + 1 ∧ upd H7 D (.lst (acc ++ [V.ref t])) D = some (.lst (ls.map fun p => V.ref p.1)) ∧
          (∀ p ∈ ls, SqT K (upd H7 D (.lst (acc ++ [V.ref t]))) p.1 [.int p.2.1, .int p.2.2]) ∧ ls.map (·.2) = ((seqOf dl).take (i + 1)).map pairOf) := by
      intro t H7 s7 hD7 hT7 ht
      have keep : ∀ b zs, SqT K H7 b zs → SqT K (upd H7 D (.lst (ls.map (fun p => V.ref p.1) ++ [V.ref t]))) b zs := fun b zs h => seqT_lst hD7 h
      refine ⟨_, hD7, by rw [List.length_map]; exact few', same_own s7 hD, ls ++ [(t, p, q')], by rw [List.length_append, hlen]; rfl, by rw [upd_same, List.map_append]; rfl, fun r hr => ?_, ?_⟩
      · rcases List.mem_append.mp hr with hr | hr
        · exact keep _ _ (hT7 r hr)
        · rw [List.mem_singleton.mp hr]; exact keep _ _ ht
      · rw [List.map_append, hmap, List.take_add_one, hdi, List.map_append]
        show _ ++ [(p, q')] = _ ++ [pairOf d]
        unfold pairOf
        rw [hkey]
    refine ⟨_, rfl, b, ys, rfl, ?_⟩
    rcases hb with ⟨hb, rfl⟩ | ⟨hb, rfl⟩
    · refine .inl ⟨hb, fun t ht => ?_⟩
      have st : Same H6 (upd H6 t (.tup [.int p, .int q'])) := same_new ht
      exact step t _ (s5.trans st) (st _ _ hD5) (fun r hr => st.seqT (hT r hr)) (.of upd_same)
    · exact .inr ⟨hb, step b H6 s5 hD5 hT hb⟩
  rintro H5 ⟨s5, ks, hlen, hD5, hT, hmap⟩
  rw [hvl4.len, List.take_length] at hmap
  refine ⟨D, ks, rfl, .of hD5, hT, fun ls tp perm pw hp => ⟨tp, _, rfl, .inl ⟨.of upd_same, fun tl htl => ?_⟩⟩⟩
  have sp : Same H5 (upd H5 tp (.lst (ls.map fun p => V.ref p.1))) := same_new hp
  have st : Same (upd H5 tp (.lst (ls.map fun p => V.ref p.1))) (upd (upd H5 tp (.lst (ls.map fun p => V.ref p.1))) tl (.tup (ls.map fun p => V.ref p.1))) := same_new htl
  have s6 := s5.trans (sp.trans st)
  have hT6 : ∀ p ∈ ls, SqT K (upd (upd H5 tp (.lst (ls.map fun p => V.ref p.1))) tl (.tup (ls.map fun p => V.ref p.1))) p.1 [.int p.2.1, .int p.2.2] := fun p h => (sp.trans st).seqT (hT p (perm.mem_iff.mp h))
  have htl6 : SqT K (upd (upd H5 tp (.lst (ls.map fun p => V.ref p.1))) tl (.tup (ls.map fun p => V.ref p.1))) tl (ls.map fun p => V.ref p.1) := .of upd_same
  have hmap6 : (ls.map (·.2)).Perm ((seqOf dl).map pairOf) := by rw [← hmap]; exact perm.map _
  clear hT hmap perm hlen hD5 hD W hG hvl4 sp st s5
  generalize upd (upd H5 tp _) tl _ = H6 at s6 hT6 htl6 ⊢
  have h6 := s6 _ _ h4
  refine ⟨_, rfl, x, _, dx, _, rfl, h6, T.cl_Kind, T.nF_Kind_leaps, Nat.le_of_ble_eq_true rfl, ?_⟩
  have h7 : upd H6 x (.ins T.c_Kind dx [("name", vn), ("leaps", .ref tl)]) x = some (.ins T.c_Kind dx [("name", vn), ("leaps", .ref tl)]) := upd_same
  have i7 : ExtI H6 (upd H6 x (.ins T.c_Kind dx [("name", vn), ("leaps", .ref tl)])) := ExtI.put h6
  have x7 : Ext x H (upd H6 x (.ins T.c_Kind dx [("name", vn), ("leaps", .ref tl)])) := (x4.trans (Ext.of s6)).trans Ext.bag
  change tSeq _ _ _ _ (upd H6 x (.ins T.c_Kind dx [("name", vn), ("leaps", .ref tl)]))
  generalize upd H6 x (.ins T.c_Kind dx [("name", vn), ("leaps", .ref tl)]) = H7 at h7 i7 x7 ⊢
  have hT7 : ∀ p ∈ ls, SqT K H7 p.1 [.int p.2.1, .int p.2.2] := fun p h => i7.sqT (hT6 p h)
  have htl7 := i7.sqT htl6
  have hsr7 : Seq K H7 ar xr := (hsr4.imp (fun h => i7.sqL (s6.seq h)) fun h => i7.sqT (s6.seqT h))
  clear hT6 htl6 hsr4 hsl4 h6 h4 x4 s6 i7
  -- self.rides
  refine ⟨T.t_S, _, rfl, T.w_S, fun D hD => ?_⟩
  refine lc_it walk_wkeys (fun i H' => Same H7 H' ∧ H' D = some (.lst (((steps4.take i).filter fun z => decide (z ∈ (seqOf dr).map rkey)).map V.str))) ⟨same_new hD, upd_same⟩ (fun _ _ _ _ => trivial) ?_ ?_
  · rintro i v H8 H9 hi ⟨s8, hD8⟩ ⟨rfl, z, hz4, rfl⟩
    have hz4 : steps4[i]? = some z := hz4
    refine ⟨rfl, ?_⟩
    refine ⟨_, rfl, _, rfl, ar, xr, rfl, hsr7.imp s8.seq s8.seqT, rfl, ?_, _, rfl, ?_⟩
    · rw [exr]; exact all_flat _
    have e : inV (.str z) xr = decide (z ∈ (seqOf dr).map rkey) := by rw [exr]; exact inV_str _ _
    have f1 : ([z] : List Str).filter (fun z => decide (z ∈ (seqOf dr).map rkey)) = if decide (z ∈ (seqOf dr).map rkey) = true then [z] else [] := by
      rw [List.filter_cons]; rfl
    have nx : steps4.take (i + 1) = steps4.take i ++ [z] := by rw [List.take_add_one, hz4]; rfl
    refine iteB (fun e5 => ?_) (fun e5 => ?_)
    · have e5 : inV (.str z) xr = true := e5
      rw [e] at e5
      refine ⟨_, rfl, _, hD8, ?_, same_own s8 hD, ?_⟩
      · rw [List.length_map]
        exact szK (by have h1 := List.length_filter_le (fun z => decide (z ∈ (seqOf dr).map rkey)) (steps4.take i); have h2 := List.length_take_le' i steps4; have : steps4.length = 4 := rfl; omega)
      · rw [upd_same, nx, List.filter_append, List.map_append, f1, if_pos e5]; rfl
    · have e5 : inV (.str z) xr = false := e5
      rw [e] at e5
      refine ⟨s8, ?_⟩
      rw [nx, List.filter_append, f1, if_neg (by rw [e5]; decide)]
      rw [List.append_nil]; exact hD8
  rintro H8 ⟨s8, hD8⟩
  have hD8 : H8 D = some (.lst ((ridesOf dr).map V.str)) := hD8
  refine ⟨D, _, rfl, .inl ⟨.of hD8, fun tr htr => ?_⟩⟩
  have st : Same H8 (upd H8 tr (.tup ((ridesOf dr).map V.str))) := same_new htr
  have htr9 : SqT K (upd H8 tr (.tup ((ridesOf dr).map V.str))) tr ((ridesOf dr).map V.str) := .of upd_same
  have s9 := s8.trans st
  clear hD8 s8 st hD hsr7
  generalize upd H8 tr _ = H9 at s9 htr9 ⊢
  have h9 := s9 _ _ h7
  refine ⟨_, rfl, x, _, dx, _, rfl, h9, T.cl_Kind, T.nF_Kind_rides, Nat.le_of_ble_eq_true rfl, ?_⟩
  have h10 : upd H9 x (.ins T.c_Kind dx [("name", vn), ("leaps", .ref tl), ("rides", .ref tr)]) x = some (.ins T.c_Kind dx [("name", vn), ("leaps", .ref tl), ("rides", .ref tr)]) := upd_same
  have i10 : ExtI H9 (upd H9 x (.ins T.c_Kind dx [("name", vn), ("leaps", .ref tl), ("rides", .ref tr)])) := ExtI.put h9
  have x10 : Ext x H (upd H9 x (.ins T.c_Kind dx [("name", vn), ("leaps", .ref tl), ("rides", .ref tr)])) := (x7.trans (Ext.of s9)).trans Ext.bag
  -- self.is_lord
  refine ⟨_, rfl, _, rfl, x, _, dx, _, rfl, h10, T.cl_Kind, T.nF_Kind_is_lord, Nat.le_of_ble_eq_true rfl, ?_⟩
  have i11 := i10.trans (ExtI.put h10 (o := .ins T.c_Kind dx (kdF vn tl tr (.bl q))))
  refine kg tl tr ls _ (x10.trans Ext.bag) upd_same (i11.sqT (s9.seqT htl7)) (fun p h => i11.sqT (s9.seqT (hT7 p h))) hmap6 pw (i11.sqT htr9)
end
end K6

set_option Elab.async false
set_option linter.all false
set_option maxRecDepth 100000
set_option maxHeartbeats 4000000
namespace K6
open PySem PySem.Spec PyProof.Rows L2 Gs
section
variable {P : Program} {w : World} {K : PySem.W.Frag} {mg : Str → Option Value} {base : Heap}
theorem O_is_square (T : Tx K mg w) : FnOk P w K mg base CX0 2 T.a_is_square T.d_is_square ["value"] (spB K (pairP isInt)) := by
  refine T.F_is_square.ok sc_is_square spB_len (fun cdv A outer s H vs Q E hr h => ?_)
  obtain ⟨c, v, d, rfl, hd, k⟩ := h
  refine ⟨_, (pss_one (ps_ret (pe_and (pe_call (O_is_list T) (hr.mono (by decide)) (by rfl) T.m_is_list T.F_is_list.kp T.b_is_list .nil pass0 (pa_cons (pv 0) pa_nil)) (pe_and (pe_cmpR op_eq (pe_callB call_len (by rfl) T.z_len (by decide +kernel) (pa_cons (pv 0) pa_nil)) pe_int (nomark _)) (pe_and (pe_call (O_is_integer T) (hr.mono (by decide)) (by rfl) T.m_is_integer T.F_is_integer.kp T.b_is_integer .nil pass0 (pa_cons (pe_ix ix_seq (pv 0) pe_int (fun _ _ => rfl)) pa_nil)) (pe_one (pe_call (O_is_integer T) (hr.mono (by decide)) (by rfl) T.m_is_integer T.F_is_integer.kp T.b_is_integer .nil pass0 (pa_cons (pe_ix ix_seq (pv 0) pe_int (fun _ _ => rfl)) pa_nil)))))))), ?_⟩
  refine ⟨_, rfl, c, v, d, rfl, hd, fun H1 s1 => ⟨_, rfl, ?_⟩⟩
  have hd1 := hd.up (Ext.of s1)
  cases hd1 with
  | @lst a xs ds na hs hv =>
    refine iteT ⟨_, rfl, _, _, rfl, .inl ⟨xs, hs, rfl⟩, rfl, _, rfl, ?_⟩
    refine ite2 (fun e => ?_) (fun e => ?_)
    · have e2 : xs.length = 2 := by
        have := V.int.inj (of_decide_eq_true e); omega
      obtain ⟨x, y, rfl⟩ := two_of e2
      cases hv with
      | cons hx hv =>
      cases hv with
      | cons hy hv =>
      cases hv with
      | nil =>
      rename_i dx dy
      refine ⟨_, rfl, .inl ⟨a, _, 0, x, rfl, rfl, hs, rfl, c, x, dx, rfl, hx, fun H2 s2 => ⟨_, rfl, ?_⟩⟩⟩
      have hs2 := (Ext.of (c := c) s2).sqL na hs
      have hy2 := hy.up (Ext.of s2)
      refine iteB (fun e => ?_) (fun e => ?_)
      rotate_left
      · have := k H2 (s1.trans s2)
        simp only [pairP, e, Bool.false_and] at this
        exact this
      · refine ⟨_, rfl, .inl ⟨a, _, 1, y, rfl, rfl, hs2, rfl, c, y, dy, rfl, hy2, fun H3 s3 => ?_⟩⟩
        have := k H3 ((s1.trans s2).trans s3)
        simp only [pairP, e, Bool.true_and] at this
        exact this
    · have e2 : ds.length ≠ 2 := fun z => e (decide_eq_true (by rw [hv.len, z]; rfl))
      have := k H1 s1
      rw [(pair_no e2).1] at this
      exact this
  | @tup a xs ds na hs hv =>
    refine iteT ⟨_, rfl, _, _, rfl, .inr ⟨xs, hs, rfl⟩, rfl, _, rfl, ?_⟩
    refine ite2 (fun e => ?_) (fun e => ?_)
    · have e2 : xs.length = 2 := by
        have := V.int.inj (of_decide_eq_true e); omega
      obtain ⟨x, y, rfl⟩ := two_of e2
      cases hv with
      | cons hx hv =>
      cases hv with
      | cons hy hv =>
      cases hv with
      | nil =>
      rename_i dx dy
      refine ⟨_, rfl, .inr (.inl ⟨a, _, 0, x, rfl, rfl, hs, rfl, c, x, dx, rfl, hx, fun H2 s2 => ⟨_, rfl, ?_⟩⟩)⟩
      have hs2 := (Ext.of (c := c) s2).sqT na hs
      have hy2 := hy.up (Ext.of s2)
      refine iteB (fun e => ?_) (fun e => ?_)
      rotate_left
      · have := k H2 (s1.trans s2)
        simp only [pairP, e, Bool.false_and] at this
        exact this
      · refine ⟨_, rfl, .inr (.inl ⟨a, _, 1, y, rfl, rfl, hs2, rfl, c, y, dy, rfl, hy2, fun H3 s3 => ?_⟩)⟩
        have := k H3 ((s1.trans s2).trans s3)
        simp only [pairP, e, Bool.true_and] at this
        exact this
    · have e2 : ds.length ≠ 2 := fun z => e (decide_eq_true (by rw [hv.len, z]; rfl))
      have := k H1 s1
      rw [(pair_no e2).2] at this
      exact this
  | non => exact iteF (k H1 s1)
  | bl => exact iteF (k H1 s1)
  | int => exact iteF (k H1 s1)
  | str => exact iteF (k H1 s1)
  | dic => exact iteF (k H1 s1)
  | dct => exact iteF (k H1 s1)
/-- where both are told, the one is not above the other -/
def leO : Option Int → Option Int → Bool
  | some l, some u => decide (l ≤ u)
  | _, _ => true

theorem O_is_not_above (T : Tx K mg w) : FnOk P w K mg base CX0 1 T.a_is_not_above T.d_is_not_above ["least", "most"] (fun vs H Q _ => ∃ lo hi : Option Int, vs = [oV lo, oV hi] ∧ Q (.bl (leO lo hi)) H) := by
  refine T.F_is_not_above.ok sc_is_not_above (fun vs H Q E h => ?_) (fun cdv A outer s H vs Q E hr h => ?_)
  · obtain ⟨lo, hi, rfl, _⟩ := h; rfl
  obtain ⟨lo, hi, rfl, k⟩ := h
  refine ⟨_, (pss_one (ps_ret (pe_or (pe_cmpR op_isN (pv 0) pe_non (nomark _)) (pe_or (pe_cmpR op_isN (pv 1) pe_non (nomark _)) (pe_one (pe_cmpR op_le (pv 0) (pv 1) (nomark _))))))), ?_⟩
  cases lo with
  | none => exact ⟨_, rfl, rfl, _, rfl, k⟩
  | some l =>
    cases hi with
    | none => exact ⟨_, rfl, rfl, _, rfl, _, rfl, rfl, _, rfl, k⟩
    | some u => exact ⟨_, rfl, rfl, _, rfl, _, rfl, rfl, _, rfl, _, rfl, _, rfl, _, _, rfl, rfl, k⟩

def oD : Option Int → PyData
  | none => .none
  | some i => .int i
theorem dv_oV {c : Addr} {H : Hp} : ∀ a : Option Int, DV K c H (oV a) (oD a)
  | none => .non
  | some i => .int i
theorem dv_seq {c l : Addr} {H : Hp} {xs : List V} {ds : List PyData} (n : l ≠ c) (h : Seq K H l xs) (r : DVs K c H xs ds) : ∃ d, DV K c H (.ref l) d ∧ isSeq d = true := by
  rcases h with h | h
  · exact ⟨_, .lst n h r, rfl⟩
  · exact ⟨_, .tup n h r, rfl⟩
theorem ne_succ (l : Addr) : l ≠ l + 1 := Nat.ne_of_lt (Nat.lt_succ_self _)
def spEdges (K : PySem.W.Frag) : Sp := fun vs H Q _ => ∃ (l : Addr) (a b c d : Option Int), vs = [.ref l] ∧ Seq K H l [oV a, oV b, oV c, oV d] ∧ ∀ H', Same H H' → Q (.bl (leO a b && leO c d)) H'
theorem O_are_edges (T : Tx K mg w) : FnOk P w K mg base CX0 2 T.a_are_edges T.d_are_edges ["value"] (spEdges K) := by
  refine T.F_are_edges.ok sc_are_edges (fun vs H Q E h => ?_) (fun cdv A outer s H vs Q E hr h => ?_)
  · obtain ⟨l, a, b, c, d, rfl, _⟩ := h; rfl
  obtain ⟨l, a, b, c, d, rfl, hs, k⟩ := h
  refine ⟨_, (pss_cons (ps_if (PW.pt (pw_or (pt_not (pt_val (pe_call (O_is_list T) (hr.mono (by decide)) (by rfl) T.m_is_list T.F_is_list.kp T.b_is_list .nil pass0 (pa_cons (pv 0) pa_nil)))) (pw_or1 (pt_cmpR op_ne (pe_callB call_len_seq (by rfl) T.z_len (by decide +kernel) (pa_cons (pv 0) pa_nil)) (pe_callB call_len_seq (by rfl) T.z_len (by decide +kernel) (pa_cons (pe_glob (v := .ref T.t_SD) (by rfl) T.g_SD rfl) pa_nil)) (nomark _))))) (pss_one (ps_ret pe_bl)) pss_nil)
      (pss_cons (ps_if (pt_not (pt_val (pe_callB (cr_all rfl) (by rfl) T.z_all (by decide +kernel) (pa_cons (pe_lc (own := [("edge", 1)]) (g := (gName 1)) rfl sc_are_edges.nd (pi_or (pi_list (pv 0)) (pi_tup (pv 0))) (blkOk_by (N := n_are_edges) (sc := defScope s_are_edges) (by decide +kernel)) (fun _ _ _ _ _ => (pg_name (i := 1) sc_are_edges.nd rfl (Or.inl rfl))) (fun _ _ _ _ _ => pts_nil) (fun _ _ _ _ _ => (pe_or (pe_cmpR op_isN (pv 1) pe_non (nomark _)) (pe_one (pe_call (O_is_integer T) (hr.mono (by decide)) (by rfl) T.m_is_integer T.F_is_integer.kp T.b_is_integer .nil pass0 (pa_cons (pv 1) pa_nil)))))) pa_nil)))) (pss_one (ps_ret pe_bl)) pss_nil)
      (pss_cons (ps_asg (pv 0) (pg_or (pg_unl rfl (pgs_cons (pg_name (i := 2) sc_are_edges.nd rfl (Or.inl rfl)) (pgs_cons (pg_name (i := 3) sc_are_edges.nd rfl (Or.inl rfl)) (pgs_cons (pg_name (i := 4) sc_are_edges.nd rfl (Or.inl rfl)) (pgs_cons (pg_name (i := 5) sc_are_edges.nd rfl (Or.inl rfl)) pgs_nil))))) (pg_tup rfl (pgs_cons (pg_name (i := 2) sc_are_edges.nd rfl (Or.inl rfl)) (pgs_cons (pg_name (i := 3) sc_are_edges.nd rfl (Or.inl rfl)) (pgs_cons (pg_name (i := 4) sc_are_edges.nd rfl (Or.inl rfl)) (pgs_cons (pg_name (i := 5) sc_are_edges.nd rfl (Or.inl rfl)) pgs_nil)))))))
      (pss_one (ps_ret (pe_and (pe_call (O_is_not_above T) (hr.mono (by decide)) (by rfl) T.m_is_not_above T.F_is_not_above.kp T.b_is_not_above .nil pass0 (pa_cons (pv 2) (pa_cons (pv 3) pa_nil))) (pe_one (pe_call (O_is_not_above T) (hr.mono (by decide)) (by rfl) T.m_is_not_above T.F_is_not_above.kp T.b_is_not_above .nil pass0 (pa_cons (pv 4) (pa_cons (pv 5) pa_nil)))))))))), ?_⟩
  obtain ⟨dd, hd, hq⟩ := dv_seq (ds := [oD a, oD b, oD c, oD d]) (ne_succ l) hs (.cons (dv_oV _) (.cons (dv_oV _) (.cons (dv_oV _) (.cons (dv_oV _) .nil))))
  refine ⟨_, rfl, _, _, dd, rfl, hd, fun H1 s1 => ⟨_, rfl, ?_⟩⟩
  rw [hq]
  have hs1 : Seq K H1 l _ := hs.imp s1.seq s1.seqT
  refine iteF ⟨_, rfl, _, _, rfl, hs1, _, _, rfl, .inr (T.s_SD H1), rfl, _, rfl, iteF ?_⟩
  refine pi_seq_rd (a := l) rfl hs1 (fun J G hG W => fun D hD => ?_)
  have walked : ∀ (i : Nat) (x : V), ([oV a, oV b, oV c, oV d] : List V)[i]? = some x → i < 4 ∧ ∃ e : Option Int, x = oV e := fun i x h => by
    match i, h with
    | 0, h => cases h; exact ⟨by omega, _, rfl⟩
    | 1, h => cases h; exact ⟨by omega, _, rfl⟩
    | 2, h => cases h; exact ⟨by omega, _, rfl⟩
    | 3, h => cases h; exact ⟨by omega, _, rfl⟩
    | _ + 4, h => cases h
  refine lc_it W (fun i H' => Same H1 H' ∧ H' D = some (.lst ((List.replicate i true).map V.bl))) ⟨same_new hD, upd_same⟩ (fun i H' _ h => hG H' (ExtI.of h.1)) ?_ ?_
  · rintro i x H2 H3 hi ⟨s2, hD2⟩ ⟨rfl, hx⟩
    refine ⟨rfl, ?_⟩
    obtain ⟨hi4, e, rfl⟩ := walked i x hx
    have fin : ∀ H4, Same H3 H4 → ∃ acc, H4 D = some (.lst acc) ∧ acc.length < sizeLine ∧ Same H1 (upd H4 D (.lst (acc ++ [V.bl true]))) ∧ upd H4 D (.lst (acc ++ [V.bl true])) D = some (.lst ((List.replicate (i + 1) true).map V.bl)) := fun H4 s4 => by
      refine ⟨_, s4 _ _ hD2, ?_, same_own (s2.trans s4) hD, ?_⟩
      · rw [List.length_map, List.length_replicate]
        exact szK (by omega)
      · rw [upd_same, List.replicate_succ', List.map_append]; rfl
    cases e with
    | none => exact ⟨_, rfl, rfl, _, rfl, fin H3 (Same.refl H3)⟩
    | some z =>
      refine ⟨_, rfl, rfl, _, rfl, _, rfl, l, V.int z, PyData.int z, rfl, .int z, fun H4 s4 => ?_⟩
      exact fin H4 s4
  rintro H2 ⟨s2, hD2⟩
  refine ⟨D, List.replicate 4 true, rfl, .of hD2, _, rfl, iteF ?_⟩
  have s3 := s1.trans s2
  have hs2 : Seq K H2 l _ := hs.imp s3.seq s3.seqT
  rcases hs2 with h2 | h2
  · refine ⟨_, rfl, .inl ⟨l, _, rfl, h2, rfl, _, _, rfl, _, _, rfl, _, _, rfl, _, _, rfl, rfl, ?_⟩⟩
    refine ⟨_, rfl, _, rfl, a, b, rfl, _, rfl, ?_⟩
    have k := k H2 s3
    refine iteB (fun e => ⟨_, rfl, _, rfl, c, d, rfl, ?_⟩) (fun e => ?_)
    · rw [e] at k; exact k
    · rw [e] at k; exact k
  · refine ⟨_, rfl, .inr ⟨l, _, rfl, h2, rfl, _, _, rfl, _, _, rfl, _, _, rfl, _, _, rfl, rfl, ?_⟩⟩
    refine ⟨_, rfl, _, rfl, a, b, rfl, _, rfl, ?_⟩
    have k := k H2 s3
    refine iteB (fun e => ⟨_, rfl, _, rfl, c, d, rfl, ?_⟩) (fun e => ?_)
    · rw [e] at k; exact k
    · rw [e] at k; exact k
/-- whether a square lies within the edges -/
def inE (a b c d : Option Int) (x y : Int) : Bool := leO a (some x) && (leO (some x) b && (leO c (some y) && leO (some y) d))
theorem or_lo {σ : L2.St} {H : Hp} {Q : VK} {i j : Nat} {a : Option Int} {y : Int} (h1 : σ[i]? = some (some (oV a))) (h2 : σ[j]? = some (some (.int y))) (q : Q (.bl (leO a (some y))) H) :
    tOrV (tOp (fun x y H Q => y = V.non ∧ Q (V.bl (decide (x = V.non))) H) (tVar i) (tC V.non)) (tOp (rI0 fun i j => V.bl (decide (i ≤ j))) (tVar i) (tVar j)) σ H Q := by
  cases a with
  | none => exact ⟨_, h1, rfl, _, rfl, q⟩
  | some l => exact ⟨_, h1, rfl, _, rfl, _, h1, _, h2, _, _, rfl, rfl, q⟩
theorem or_hi {σ : L2.St} {H : Hp} {Q : VK} {i j : Nat} {a : Option Int} {y : Int} (h1 : σ[i]? = some (some (oV a))) (h2 : σ[j]? = some (some (.int y))) (q : Q (.bl (leO (some y) a)) H) :
    tOrV (tOp (fun x y H Q => y = V.non ∧ Q (V.bl (decide (x = V.non))) H) (tVar i) (tC V.non)) (tOp (rI0 fun i j => V.bl (decide (i ≤ j))) (tVar j) (tVar i)) σ H Q := by
  cases a with
  | none => exact ⟨_, h1, rfl, _, rfl, q⟩
  | some l => exact ⟨_, h1, rfl, _, rfl, _, h2, _, h1, _, _, rfl, rfl, q⟩
theorem and_v {σ : L2.St} {H : Hp} {Q : VK} {ta tb : TE} {p q : Bool} (h1 : ∀ Q' : VK, Q' (.bl p) H → ta σ H Q') (h2 : ∀ Q' : VK, Q' (.bl q) H → tb σ H Q') (k : Q (.bl (p && q)) H) : tAndV ta tb σ H Q :=
  h1 _ ⟨_, rfl, iteB (fun e => h2 _ (by rw [e] at k; exact k)) (fun e => by rw [e] at k; exact k)⟩
def spBetween (K : PySem.W.Frag) : Sp := fun vs H Q _ => ∃ (t l : Addr) (a b c d : Option Int) (x y : Int), vs = [.ref t, .ref l] ∧ SqT K H t [oV a, oV b, oV c, oV d] ∧ Seq K H l [.int x, .int y] ∧ Q (.bl (inE a b c d x y)) H
theorem O_is_between (T : Tx K mg w) : FnOk P w K mg base CX0 1 T.a_is_between T.d_is_between ["edges", "square"] (spBetween K) := by
  refine T.F_is_between.ok sc_is_between (fun vs H Q E h => ?_) (fun cdv A outer s H vs Q E hr h => ?_)
  · obtain ⟨t, l, a, b, c, d, x, y, rfl, _⟩ := h; rfl
  obtain ⟨t, l, a, b, c, d, x, y, rfl, ht, hl, k⟩ := h
  refine ⟨_, (pss_cons (ps_asg (pv 0) (pg_tup rfl (pgs_cons (pg_name (i := 2) sc_is_between.nd rfl (Or.inl rfl)) (pgs_cons (pg_name (i := 3) sc_is_between.nd rfl (Or.inl rfl)) (pgs_cons (pg_name (i := 4) sc_is_between.nd rfl (Or.inl rfl)) (pgs_cons (pg_name (i := 5) sc_is_between.nd rfl (Or.inl rfl)) pgs_nil))))))
      (pss_cons (ps_asg (pv 1) (pg_or (pg_unl rfl (pgs_cons (pg_name (i := 6) sc_is_between.nd rfl (Or.inl rfl)) (pgs_cons (pg_name (i := 7) sc_is_between.nd rfl (Or.inl rfl)) pgs_nil))) (pg_tup rfl (pgs_cons (pg_name (i := 6) sc_is_between.nd rfl (Or.inl rfl)) (pgs_cons (pg_name (i := 7) sc_is_between.nd rfl (Or.inl rfl)) pgs_nil)))))
      (pss_one (ps_ret (pe_and (pe_or (pe_cmpR op_isN (pv 2) pe_non (nomark _)) (pe_one (pe_cmpR op_le (pv 2) (pv 6) (nomark _)))) (pe_and (pe_or (pe_cmpR op_isN (pv 3) pe_non (nomark _)) (pe_one (pe_cmpR op_le (pv 6) (pv 3) (nomark _)))) (pe_and (pe_or (pe_cmpR op_isN (pv 4) pe_non (nomark _)) (pe_one (pe_cmpR op_le (pv 4) (pv 7) (nomark _)))) (pe_one (pe_or (pe_cmpR op_isN (pv 5) pe_non (nomark _)) (pe_one (pe_cmpR op_le (pv 7) (pv 5) (nomark _)))))))))))), ?_⟩
  refine ⟨_, rfl, t, _, rfl, ht, rfl, _, _, rfl, _, _, rfl, _, _, rfl, _, _, rfl, rfl, ?_⟩
  rcases hl with h2 | h2
  · refine ⟨_, rfl, .inl ⟨l, _, rfl, h2, rfl, _, _, rfl, _, _, rfl, rfl, ?_⟩⟩
    exact and_v (fun Q' q => or_lo rfl rfl q) (fun Q' q => and_v (fun Q' q => or_hi rfl rfl q) (fun Q' q => and_v (fun Q' q => or_lo rfl rfl q) (fun Q' q => or_hi rfl rfl q) q) q) k
  · refine ⟨_, rfl, .inr ⟨l, _, rfl, h2, rfl, _, _, rfl, _, _, rfl, rfl, ?_⟩⟩
    exact and_v (fun Q' q => or_lo rfl rfl q) (fun Q' q => and_v (fun Q' q => or_hi rfl rfl q) (fun Q' q => and_v (fun Q' q => or_lo rfl rfl q) (fun Q' q => or_hi rfl rfl q) q) q) k
end
end K6

set_option Elab.async false
set_option linter.all false
set_option maxRecDepth 100000
set_option maxHeartbeats 4000000
/-! Layer G20: set comprehensions of ints and texts; len of such a set. -/
namespace Gs
open PySem PySem.Spec PyProof.Rows L2
abbrev SK := (Key → Bool) × Nat
def keyKd (P : Program) (w : World) (K : PySem.W.Frag) : SetKd P w K SK where
  ob := fun D z => SetK P w D z.1 z.2
  zero := (fun _ => false, 0)
  fresh := fun H h => setK_new ⟨_, #[], 0, _, Heap.get?_push_size _ rfl, ⟨rfl, rfl, rfl⟩, rfl, (fun e he => by simp at he), (fun k => by simp), (by decide), (by rfl), rfl⟩
  adds := fun D y H F => ∃ (k : Key) (S : Key → Bool) (n : Nat), y = kV k ∧ H D = some (SetK P w D S n) ∧ n + 1 < scanBound ∧ F (upd H D (SetK P w D (fun j => S j || decide (j = k)) (if S k = true then n else n + 1)))
  rule := by
    rintro Y rfl rfl rfl hu pins σ H s E D y u F I r ⟨k, S, n, rfl, hD, room, q⟩
    refine call_set_add (kV_is r) (key_scan r) (setK_get I hD) room fun h' sb new => ?_
    have he : ∃ u, h'.get? D = some u := by
      have ⟨o, _, _, _, ho, _⟩ := new
      exact ⟨o, ho⟩
    exact ⟨_, I.write (e := D) (t' := s.toks + 1) (by rw [hD]; trivial) (.inl rfl) (fun b u hb hu => (sb.2 b hb).trans hu) he (setK_new new), q⟩
def rLenK (P : Program) (w : World) : List V → Hp → VK → Prop := fun xs H Q => ∃ (a : Addr) (S : Key → Bool) (n : Nat), xs = [.ref a] ∧ H a = some (SetK P w a S n) ∧ n < 1000000 ∧ Q (.int n) H
theorem call_lenK {X : Cx} : CallR X (.builtin "len") (rLenK X.prog X.w) := by
  intro pins s σ H xs us Q I r h
  obtain ⟨a, S, n, rfl, ha, hz, q⟩ := h
  rw [Vals.ref1 r]
  obtain ⟨o, es, ep, t, ho, hex, hd, h1, h2, h3, h4, h5⟩ := setK_get I ha
  exact call_len_set ho hex hd h4 (by omega) ⟨.int n, H, I.tok _, ⟨_, by rw [h5]⟩, q⟩
end Gs

set_option Elab.async false
set_option linter.all false
set_option maxRecDepth 100000
set_option maxHeartbeats 4000000
/-! Layer G21: zip of a list or a tuple with a list or a tuple. -/
namespace Gs
open PySem PySem.Spec PyProof.Rows L2
/-- a list (false) or a tuple (true) -/
def SqB (K : PySem.W.Frag) : Bool → Hp → Addr → List V → Prop
  | false, H, a, xs => SqL K H a xs
  | true, H, a, xs => SqT K H a xs
def ObB (h : Heap) : Bool → Addr → Array Value → Prop
  | false, l, xs => h.IsList l xs
  | true, l, xs => h.IsTuple l xs
def ItB (h : Heap) : Bool → Addr → Addr → Nat → Prop
  | false, it, l, i => h.IsListIter it l i
  | true, it, l, i => h.IsTupleIter it l i
theorem drawsB {prog : Program} {w : World} {A : Around} (hh : A.handled = none) (t : Bool) (it l : Addr) (hne : l ≠ it) (items : Array Value) :
    Draws prog w A it [it, l] items.size (fun i v => items[i]? = some v) (fun i h => ItB h t it l i ∧ ObB h t l items) := by
  cases t with
  | false => exact Draws.list hh it l hne items
  | true => exact Draws.tuple hh it l hne items
theorem ItB.at {h h' : Heap} {t : Bool} {it l : Addr} {i : Nat} (x : ItB h t it l i) (k : ∀ o, h.get? it = some o → h'.get? it = some o) : ItB h' t it l i := by
  cases t with
  | false => exact Heap.IsListIter.at x k
  | true => exact Heap.IsTupleIter.at x k
theorem ItB.ob {h : Heap} {t : Bool} {it l : Addr} {i : Nat} (x : ItB h t it l i) : ∃ o, h.get? it = some o ∧ ∀ v, o.data ≠ .cell v := by
  cases t with
  | false => obtain ⟨o, e, _, d⟩ := x; exact ⟨o, e, fun v q => by rw [d] at q; cases q⟩
  | true => obtain ⟨o, e, _, d⟩ := x; exact ⟨o, e, fun v q => by rw [d] at q; cases q⟩
def obB (t : Bool) (l : Addr) : Obj := if t = true then { cls := .type "tuple_iterator", data := .fields #[.ref l, .int 0 0] } else { cls := .type "list_iterator", data := .fields #[.ref l, .int 0 0] }
theorem beginsB (t : Bool) (l : Addr) (items : Array Value) : Begins (.ref l) (obB t l) fun h => ObB h t l items := by
  cases t with
  | false => exact begins_list l items
  | true => exact begins_tuple l items
theorem itB_new {h : Heap} {t : Bool} {it l : Addr} (e : h.get? it = some (obB t l)) : ItB h t it l 0 := by
  cases t with
  | false => exact ⟨_, e, rfl, rfl⟩
  | true => exact ⟨_, e, rfl, rfl⟩
section
variable {X : Cx} {pins : List (Addr × Obj)} {σ : L2.St} {H : Hp} {s : Shared}
theorem Inv.sqB {t : Bool} {a : Addr} {xs : List V} (I : Inv X pins σ H s) (h : SqB X.K t H a xs) : ∃ its : List Value, Vals xs its ∧ ObB s.heap t a its.toArray ∧ a < s.heap.objs.size := by
  cases t with
  | false =>
    obtain ⟨its, rv, p, _⟩ := I.list h
    exact ⟨its, rv, p.isList, p.lt⟩
  | true =>
    obtain ⟨its, rv, p, _⟩ := I.tuple h
    obtain ⟨o, ho, _⟩ := id p
    exact ⟨its, rv, p, Heap.lt_size ho⟩
theorem Inv.sqB_inj {t : Bool} {a : Addr} {xs ys : List V} (I : Inv X pins σ H s) (h : SqB X.K t H a xs) (h2 : SqB X.K t H a ys) : xs = ys := by
  cases t with
  | false => exact I.list_inj h h2
  | true => exact I.tuple_inj h h2
end
/-- the sequences at a and b as they stand at each turn, the items in new pairs -/
def ItzM (K : PySem.W.Frag) (t u : Bool) (a b : Addr) : It :=
  ⟨fun i H => ∃ (xs ys : List V) (x y : V), SqB K t H a xs ∧ SqB K u H b ys ∧ xs[i]? = some x ∧ ys[i]? = some y,
    fun i H v H' => ∃ T x y, v = .ref T ∧ H T = none ∧ H' = upd H T (.tup [x, y]) ∧ (∀ xs, SqB K t H a xs → xs[i]? = some x) ∧ ∀ ys, SqB K u H b ys → ys[i]? = some y,
    fun i H => ∃ xs ys : List V, SqB K t H a xs ∧ SqB K u H b ys ∧ i ≤ xs.length ∧ i ≤ ys.length ∧ (i = xs.length ∨ i = ys.length)⟩
theorem turn_zipM {P : Program} {w : World} {K : PySem.W.Frag} {elts : List Expr} {kk : Nat} {tpos : Pos} {t u : Bool} {a b z TI TO i1 i2 : Addr} (D : ZipSep2 z TI TO i1 i2 [i1, a] [i2, b]) (n1 : a ≠ i1) (n2 : b ≠ i2) :
    Turn P w K (.Tuple elts kk tpos) (ItzM K t u a b) [z, TI, TO, i1, i2] z (fun i h => IsZip h z TI TO .none ∧ IsTupOf2 h TI (.ref i1) (.ref i2) ∧ (∃ x y, IsTupOf2 h TO x y) ∧ ItB h t i1 a i ∧ ItB h u i2 b i) where
  mem := by simp
  obj := fun i h st c hc => by
    obtain ⟨hz, hTI, ⟨x, y, hTO⟩, h1, h2⟩ := st
    have e' : c = z ∨ c = TI ∨ c = TO ∨ c = i1 ∨ c = i2 := by simpa using hc
    rcases e' with q | q | q | q | q
    · rw [q]; exact ⟨_, hz, fun v q => nomatch q⟩
    · rw [q]; exact ⟨_, hTI, fun v q => nomatch q⟩
    · rw [q]; exact ⟨_, hTO, fun v q => nomatch q⟩
    · rw [q]; exact h1.ob
    · rw [q]; exact h2.ob
  keep := fun i h h' st k => by
    obtain ⟨hz, hTI, ⟨x, y, hTO⟩, h1, h2⟩ := st
    exact ⟨k z (by simp) _ hz, k TI (by simp) _ hTI, ⟨x, y, k TO (by simp) _ hTO⟩, h1.at fun o q => k i1 (by simp) o q, h2.at fun o q => k i2 (by simp) o q⟩
  item := by
    rintro X rfl rfl rfl hc i pins s σ H E I hf ⟨hz, hTI, ⟨x0, y0, hTO⟩, h1, h2⟩ ⟨xs, ys, x, y, hqx, hqy, hx, hy⟩
    obtain ⟨its, rv, p, _⟩ := Inv.sqB I hqx
    obtain ⟨its2, rv2, p2, _⟩ := Inv.sqB I hqy
    have l1 : its.length = xs.length := rv.length.symm
    have l2 : its2.length = ys.length := rv2.length.symm
    obtain ⟨v1, hu, ru⟩ := rv.get hx
    obtain ⟨v2, hu2, ru2⟩ := rv2.get hy
    have hzl : z < s.heap.objs.size := Heap.lt_size hz
    have g1 := (List.getElem?_eq_some_iff.mp hx).1
    have g2 := (List.getElem?_eq_some_iff.mp hy).1
    refine wpAny_pyNext_zipD2_item D (drawsB (A := X.A.in1) (show X.A.in1.handled = none from I.ok.hd hc) t i1 a n1 its.toArray) (drawsB (A := X.A.in1) (show X.A.in1.handled = none from I.ok.hd hc) u i2 b n2 its2.toArray) hz hTI hTO ⟨h1, p⟩ ⟨h2, p2⟩ (by simp; omega) (by simp; omega) fun x1 x2 h' tk e1 e2 z' TO' st1 st2 hT hsz hk => ?_
    have e1 : its.toArray[i]? = some x1 := e1
    have e2 : its2.toArray[i]? = some x2 := e2
    have e1 : v1 = x1 := by
      have q : its[i]? = some x1 := by simpa using e1
      rw [hu] at q; exact Option.some.inj q
    have e2 : v2 = x2 := by
      have q : its2[i]? = some x2 := by simpa using e2
      rw [hu2] at q; exact Option.some.inj q
    subst e1 e2
    refine ⟨_, rfl, wpAny_letOwnedTupleGo_zip (s := { s with heap := h', toks := tk }) z' fun h'' z'' sb => ?_⟩
    have hT2 : h''.get? s.heap.objs.size = some { cls := .type "tuple", data := .seq #[v1, v2] } := (sb.2 _ (Nat.ne_of_gt hzl)).trans hT
    have new : ObjOk X.prog X.w (upd H s.heap.objs.size (.tup [x, y])) h'' s.heap.objs.size (.tup [x, y]) :=
      ⟨by show 2 ≤ sizeLine; decide, [v1, v2], .cons ru (.cons ru2 .nil), ⟨_, hT2, rfl, _, rfl⟩⟩
    have I1 : Inv X pins σ (upd H s.heap.objs.size (.tup [x, y])) { s with heap := h'', toks := tk } :=
      I.turnedNew (t' := tk) (ch := [z, TI, TO, i1, i2]) (fun c o hb q => (sb.2 c (fun q' => hb (by simp [q']))).trans (hk c o (fun q' => hb (by simp [q'])) (fun q' => hb (by simp [q'])) (fun q' => hb (by simp [q'])) (fun q' => hb (by simp [q'])) q)) hf (Nat.le_refl _) new
    have ni1 : i1 ≠ z := fun q => D.zf1 (by rw [← q]; simp)
    have ni2 : i2 ≠ z := fun q => D.zf2 (by rw [← q]; simp)
    refine ⟨.ref s.heap.objs.size, _, I1, rfl, ⟨_, x, y, rfl, I.hok.fresh (Nat.le_refl _), rfl, fun l hl => by rw [Inv.sqB_inj I hl hqx]; exact hx, fun l hl => by rw [Inv.sqB_inj I hl hqy]; exact hy⟩, ⟨z'', ?_, ⟨v1, v2, ?_⟩, ?_, ?_⟩, fun c hcm => ?_⟩
    · exact (sb.2 _ D.TIz).trans (hk _ _ D.TIz D.TITO D.TIi1 D.TIi2 hTI)
    · exact (sb.2 _ D.TOz).trans TO'
    · exact st1.1.at fun o q => (sb.2 _ ni1).trans q
    · exact st2.1.at fun o q => (sb.2 _ ni2).trans q
    · have hlt : c < s.heap.objs.size := by
        have e' : c = z ∨ c = TI ∨ c = TO ∨ c = i1 ∨ c = i2 := by simpa using hcm
        rcases e' with q | q | q | q | q
        · rw [q]; exact hzl
        · rw [q]; exact Heap.lt_size hTI
        · rw [q]; exact Heap.lt_size hTO
        · rw [q]; obtain ⟨_, e1, _⟩ := h1.ob; exact Heap.lt_size e1
        · rw [q]; obtain ⟨_, e2, _⟩ := h2.ob; exact Heap.lt_size e2
      rw [upd_ne (Nat.ne_of_lt hlt)]
      exact (hf c hcm).1
  done := by
    rintro X rfl rfl rfl hc i pins s σ H E I hf ⟨hz, hTI, ⟨x0, y0, hTO⟩, h1, h2⟩ ⟨xs, ys, hqx, hqy, m1, m2, hend⟩
    obtain ⟨its, rv, p, _⟩ := Inv.sqB I hqx
    obtain ⟨its2, rv2, p2, _⟩ := Inv.sqB I hqy
    have l1 : its.length = xs.length := rv.length.symm
    have l2 : its2.length = ys.length := rv2.length.symm
    exact wpAny_pyNext_zipD2_end D (drawsB (A := X.A.in1) (show X.A.in1.handled = none from I.ok.hd hc) t i1 a n1 its.toArray) (drawsB (A := X.A.in1) (show X.A.in1.handled = none from I.ok.hd hc) u i2 b n2 its2.toArray) hz hTI hTO ⟨h1, p⟩ ⟨h2, p2⟩ (by simp; omega) (by simp; omega) (by simp; omega) fun h' tk hk =>
      ⟨rfl, I.turnedL (t' := tk) (ch := [z, TI, TO, i1, i2]) (fun c o hb q => hk c o (fun q' => hb (by simp [q'])) (fun q' => hb (by simp [q'])) (fun q' => hb (by simp [q'])) (fun q' => hb (by simp [q'])) q) hf⟩
  self := fun A i s Q E st h => wpAny_pyIter_zip st.1 h
def iZipM (K : PySem.W.Frag) (ta : TA) : TI := fun σ H R => ta σ H fun vs H1 => ∃ a b t u xs ys, vs = [.ref a, .ref b] ∧ SqB K t H1 a xs ∧ SqB K u H1 b ys ∧ R (ItzM K t u a b) H1
theorem pi_zipM {X : Cx} {e e2 : Expr} {ta : TA} {p pos tpos : Pos} {elts : List Expr} {kk : Nat} (hg : Gl X "zip") (hm : X.mg "zip" = none) (ha : PA X [e, e2] ta)
    (hs : starEach [e, e2] X.env = (false, eval e X.env) :: starEach [e2] X.env := by rfl) (hpl : (backTo pos (starEach [e2] X.env)).any (·.1) = false := by rfl) :
    PI X (.Tuple elts kk tpos) (.Call (.Name "zip" p) [e, e2] [] pos) (iZipM X.K ta) := by
  refine ⟨fun pins s σ H R I h => ?_⟩
  refine Call_ (ld_blt I hg hm PyProof.Rows.boot_zip (PyProof.Rows.callWith_type1 (thn (ha.run pos pins s σ H _ I h) fun us s1 ⟨vs, H1, I1, r1, q1⟩ => ?_) hs hpl))
  obtain ⟨a, b, t, u, xs, ys, ex, hqx, hqy, q⟩ := q1
  subst ex
  cases r1 with
  | cons r rr =>
    cases rr with
    | cons r' rr =>
      cases rr
      cases r
      cases r'
      obtain ⟨its, rv, p1, a1⟩ := Inv.sqB I1 hqx
      obtain ⟨its2, rv2, p2, a2⟩ := Inv.sqB I1 hqy
      refine zip_begins2 (beginsB t a its.toArray) (beginsB u b its2.toArray) p1 p2 fun h' hz hTI hTO h1 h2 hsz hk => wpAny_pyIter_zip hz ?_
      have fresh5 : ∀ c, c ∈ [s1.heap.objs.size + 4, s1.heap.objs.size + 2, s1.heap.objs.size + 3, s1.heap.objs.size, s1.heap.objs.size + 1] → FpOk X pins H1 c := fun c hcm => by
        have hle : s1.heap.objs.size ≤ c := by
          simp only [List.mem_cons, List.not_mem_nil, or_false] at hcm
          rcases hcm with z | z | z | z | z
          · rw [z]; exact Nat.le_add_right _ _
          · rw [z]; exact Nat.le_add_right _ _
          · rw [z]; exact Nat.le_add_right _ _
          · rw [z]; exact Nat.le_refl _
          · rw [z]; exact Nat.le_add_right _ _
        exact I1.fpOk hle (I1.hok.fresh hle)
      have I2 : Inv X pins σ H1 { s1 with heap := h' } := I1.kept (t' := s1.toks) hk
      exact ⟨s1.heap.objs.size + 4, [s1.heap.objs.size + 4, s1.heap.objs.size + 2, s1.heap.objs.size + 3, s1.heap.objs.size, s1.heap.objs.size + 1], _, _, H1, rfl, I2,
        turn_zipM (zip_sep2 (fp1 := [a]) (fp2 := [b]) (fun c hc => by rw [List.mem_singleton.mp hc]; exact a1) (fun c hc => by rw [List.mem_singleton.mp hc]; exact a2)) (Nat.ne_of_lt a1) (Nat.ne_of_lt (Nat.lt_succ_of_lt a2)), ⟨hz, hTI, ⟨_, _, hTO⟩, itB_new h1, itB_new h2⟩, fresh5, q⟩
/-- two sequences of one length that stand -/
theorem walk_zipM {K : PySem.W.Frag} {t u : Bool} {a b : Addr} {xs ys : List V} (hl : xs.length = ys.length) : Walk (ItzM K t u a b) xs.length (fun H => SqB K t H a xs ∧ SqB K u H b ys) (fun i H v H' => ∃ T x y, v = .ref T ∧ H T = none ∧ H' = upd H T (.tup [x, y]) ∧ xs[i]? = some x ∧ ys[i]? = some y) where
  goes := fun i H hi g => ⟨xs, ys, xs[i], ys[i]'(by omega), g.1, g.2, by simp [hi], by simp⟩
  stops := fun H g => ⟨xs, ys, g.1, g.2, Nat.le_refl _, by omega, .inl rfl⟩
  yields := fun i H x H' hi g h => by
    obtain ⟨T, x, y, h1, h2, h3, h4, h5⟩ := h
    exact ⟨T, x, y, h1, h2, h3, h4 _ g.1, h5 _ g.2⟩
theorem pe_fldK {X : Cx} {K : PySem.W.Frag} {e : Expr} {te : TE} {pos : Pos} {n : Str} (eK : X.K = K) (he : PE X e te) (hb : attributeBase e n X.env (eval e X.env) = eval e X.env := by rfl) : PE X (.Attribute e n pos) (tFld K te n) := by
  subst eK; exact pe_fld he hb
end Gs

set_option Elab.async false
set_option linter.all false
set_option maxRecDepth 100000
set_option maxHeartbeats 4000000
namespace K6
open PySem PySem.Spec PyProof.Rows L2 Gs
section
variable {P : Program} {w : World} {K : PySem.W.Frag} {mg : Str → Option Value} {base : Heap}
/-- at k a kind -/
def KindAt (K : PySem.W.Frag) (C : Addr) (H : Hp) (k : Addr) (z : Str) (ps : List (Int × Int)) (rs : List Str) (q : Bool) : Prop :=
  ∃ (dx tl tr : Addr) (ls : List (Addr × Int × Int)), H k = some (.ins C dx (kdF (.str z) tl tr (.bl q))) ∧ SqT K H tl (ls.map fun p => V.ref p.1) ∧ (∀ p ∈ ls, SqT K H p.1 [.int p.2.1, .int p.2.2]) ∧ ls.map (·.2) = ps ∧ SqT K H tr (rs.map V.str)
theorem KindAt.same {C : Addr} {H H' : Hp} {k : Addr} {z : Str} {ps : List (Int × Int)} {rs : List Str} {q : Bool} (h : KindAt K C H k z ps rs q) (s : Same H H') : KindAt K C H' k z ps rs q := by
  obtain ⟨dx, tl, tr, ls, h1, h2, h3, h4, h5⟩ := h
  exact ⟨dx, tl, tr, ls, s _ _ h1, s.seqT h2, fun p hp => s.seqT (h3 p hp), h4, s.seqT h5⟩
structure KdT where
  a : Addr
  z : Str
  ps : List (Int × Int)
  rs : List Str
  q : Bool
/-- kinds stand -/
def KAs (K : PySem.W.Frag) (C : Addr) (H : Hp) (ks : List KdT) : Prop := ∀ k ∈ ks, KindAt K C H k.a k.z k.ps k.rs k.q
theorem KAs.same {C : Addr} {H H' : Hp} {ks : List KdT} (h : KAs K C H ks) (s : Same H H') : KAs K C H' ks := fun k hk => (h k hk).same s
abbrev refsK (ks : List KdT) : List V := ks.map fun k => V.ref k.a
theorem ty_seq {H : Hp} {l : Addr} {xs : List V} (h : Seq K H l xs) : ∃ d, isSeq d = true ∧ TyX K H (.ref l) (.type (tyN d)) := by
  rcases h with s | s
  · refine ⟨.list [], rfl, ?_⟩
    rcases s with (s | ⟨o, s⟩) | ⟨o, its, n, e, q, _⟩
    · exact .base (.lst s)
    · exact .base (.frz s)
    · exact .kList e q
  · refine ⟨.tuple [], rfl, ?_⟩
    rcases s with (s | ⟨o, s⟩) | ⟨o, its, n, e, q, _⟩
    · exact .base (.tup s)
    · exact .fTuple s
    · exact .kTuple e q
def spSeqT (K : PySem.W.Frag) : Sp := fun vs H Q _ => ∃ (l : Addr) (xs : List V), vs = [.ref l] ∧ Seq K H l xs ∧ ∀ H', Same H H' → Q (.bl true) H'
theorem O_is_listS (T : Tx K mg w) : FnOk P w K mg base CX0 1 T.a_is_list T.d_is_list ["value"] (spSeqT K) := by
  refine T.F_is_list.ok sc_is_list (fun vs H Q E h => ?_) (fun cdv A outer s H vs Q E hr h => ?_)
  · obtain ⟨l, xs, rfl, _⟩ := h; rfl
  obtain ⟨l, xs, rfl, hs, k⟩ := h
  refine ⟨_, (pss_one (ps_ret (pe_callB call_isiT (by rfl) T.z_isinstance (by decide +kernel) (pa_cons (pv 0) (pa_cons (pe_tup (pa_cons (pe_bltn (v := .ty "list") (u := .type "list") (by rfl) T.z_list (by decide +kernel) rfl) (pa_cons (pe_bltn (v := .ty "tuple") (u := .type "tuple") (by rfl) T.z_tuple (by decide +kernel) rfl) pa_nil))) pa_nil))))), ?_⟩
  refine ⟨_, rfl, szl rfl, fun p hp => ?_⟩
  have st : Same H (upd H p (.tup [.ty "list", .ty "tuple"])) := same_new hp
  obtain ⟨d, hq, ty⟩ := ty_seq (hs.imp st.seq st.seqT)
  refine ⟨.ref l, _, [.ty "list", .ty "tuple"], .type (tyN d), [.type "list", .type "tuple"], isSeq d, rfl, upd_same, .cons (.ty _) (.cons (.ty _) .nil), ty, kit_seq _, ?_⟩
  rw [hq]
  exact k _ st
def spKinds (K : PySem.W.Frag) (C : Addr) : Sp := fun vs H Q _ => ∃ (l : Addr) (ks : List KdT), vs = [.ref l] ∧ SqL K H l (refsK ks) ∧ KAs K C H ks ∧ 1 ≤ ks.length ∧ ks.length ≤ 8 ∧ (ks.map (·.z)).Nodup ∧ ∀ H', Same H H' → Q (.bl true) H'
theorem O_are_kinds (T : Tx K mg w) : FnOk P w K mg base CX0 3 T.a_are_kinds T.d_are_kinds ["value"] (spKinds K T.c_Kind) := by
  refine T.F_are_kinds.ok sc_are_kinds (fun vs H Q E h => ?_) (fun cdv A outer s H vs Q E hr h => ?_)
  · obtain ⟨l, ks, rfl, _⟩ := h; rfl
  obtain ⟨l, ks, rfl, hs, hk, z1, z8, nd, k⟩ := h
  obtain ⟨tK, hMK⟩ := T.g_MK
  refine ⟨_, (pss_cons (ps_if (PW.pt (pw_or (pt_not (pt_val (pe_call (O_is_listS T) (hr.mono (by decide)) (by rfl) T.m_is_list T.F_is_list.kp T.b_is_list .nil pass0 (pa_cons (pv 0) pa_nil)))) (pw_or1 (pt_not (pt_chain op_le op_le pe_int (pe_callB call_len_seq (by rfl) T.z_len (by decide +kernel) (pa_cons (pv 0) pa_nil)) (pe_glob (v := .int 8) (by rfl) hMK ⟨_, rfl⟩)))))) (pss_one (ps_ret pe_bl)) pss_nil)
      (pss_cons (ps_if (pt_not (pt_val (pe_callB (cr_all rfl) (by rfl) T.z_all (by decide +kernel) (pa_cons (pe_lc (own := [("kind", 1)]) (g := (gName 1)) rfl sc_are_kinds.nd (pi_list (pv 0)) (blkOk_by (N := n_are_kinds) (sc := defScope s_are_kinds) (by decide +kernel)) (fun _ _ _ _ _ => (pg_name (i := 1) sc_are_kinds.nd rfl (Or.inl rfl))) (fun _ _ _ _ _ => pts_nil) (fun _ _ _ _ _ => (pe_callB (r := rIsi K) call_isi (by rfl) T.z_isinstance (by decide +kernel) (pa_cons (pv 1) (pa_cons (pe_glob (v := .ref T.c_Kind) (by rfl) T.m_Kind rfl) pa_nil))))) pa_nil)))) (pss_one (ps_ret pe_bl)) pss_nil)
      (pss_one (ps_ret (pe_cmpR op_eq (pe_callB (r := rLenK P w) call_lenK (by rfl) T.z_len (by decide +kernel) (pa_cons (pe_setc (own := [("kind", 1)]) (g := (gName 1)) (keyKd P w K) (hu_two hr) rfl sc_are_kinds.nd (pi_list (pv 0)) (blkOk_by (N := n_are_kinds) (sc := defScope s_are_kinds) (by decide +kernel)) (fun _ _ _ _ _ => (pg_name (i := 1) sc_are_kinds.nd rfl (Or.inl rfl))) (fun _ _ _ _ _ => pts_nil) (fun _ _ _ _ _ => (pe_fldK (K := K) rfl (pv 1)))) pa_nil)) (pe_callB call_len_seq (by rfl) T.z_len (by decide +kernel) (pa_cons (pv 0) pa_nil)) (nomark _)))))), ?_⟩
  have len : (refsK ks).length = ks.length := List.length_map ..
  refine ⟨_, rfl, l, _, rfl, .inl hs, fun H1 s1 => ⟨_, rfl, iteF ?_⟩⟩
  have hs1 := s1.seq hs
  have hk1 := hk.same s1
  refine ⟨_, rfl, _, _, rfl, .inl hs1, ?_⟩
  refine ⟨_, _, rfl, rfl, _, rfl, ?_⟩
  rw [len]
  refine iteB (fun _ => ?_) (fun e => absurd (of_decide_eq_false e) (by omega))
  refine ⟨_, _, rfl, rfl, _, rfl, ?_⟩
  refine iteB (fun e => ?_) (fun _ => ?_)
  · have e : (!decide ((ks.length : Int) ≤ 8)) = true := e
    rw [decide_eq_true (by omega)] at e; cases e
  refine ⟨_, rfl, _, rfl, ⟨_, hs1⟩, fun D hD => ?_⟩
  refine lc_it (walk_list (K := K) (a := l) (xs := refsK ks)) (fun i H' => Same H1 H' ∧ H' D = some (.lst ((List.replicate i true).map V.bl))) ⟨same_new hD, upd_same⟩ (fun i H' _ h => h.1.seq hs1) ?_ ?_
  · rintro i x H2 H3 hi ⟨s2, hD2⟩ ⟨rfl, hx⟩
    refine ⟨rfl, ?_⟩
    rw [List.getElem?_map] at hx
    obtain ⟨kd, hkd, rfl⟩ := Option.map_eq_some_iff.mp hx
    obtain ⟨dx, tl, tr, ls, g1, _⟩ := (hk1.same s2) kd (List.mem_of_getElem? hkd)
    refine ⟨_, rfl, .ref kd.a, .ref T.c_Kind, .ref T.c_Kind, .ref T.c_Kind, true, rfl, .own _, T.ty_Kind.ty g1, T.kk_Kind, _, hD2, ?_, same_own s2 hD, ?_⟩
    · rw [List.length_map, List.length_replicate]
      exact szK (by have hi : i < (refsK ks).length := hi; omega)
    · rw [upd_same, List.replicate_succ', List.map_append]; rfl
  rintro H2 ⟨s2, hD2⟩
  have hs2 := s2.seq hs1
  have hk2 := hk1.same s2
  refine ⟨D, _, rfl, .of hD2, _, rfl, ?_⟩
  have all : (List.replicate (refsK ks).length true).all id = true := by
    rw [List.all_eq_true]; intro b hb; rw [(List.mem_replicate.mp hb).2]; rfl
  rw [all]
  refine iteF ?_
  refine ⟨_, rfl, _, rfl, ⟨_, hs2⟩, fun S hS => ?_⟩
  refine sc_it (walk_list (K := K) (a := l) (xs := refsK ks)) (fun i H' => Same H2 H' ∧ ∃ F : Key → Bool, H' S = some (SetK P w S F i) ∧ ∀ z : Str, F (.inr z) = true → z ∈ (ks.take i).map (·.z)) ⟨same_new hS, _, upd_same, fun z h => by cases h⟩ (fun i H' _ h => h.1.seq hs2) ?_ ?_
  · rintro i x H3 H4 hi ⟨s3, F, hF, hm⟩ ⟨rfl, hx⟩
    refine ⟨rfl, ?_⟩
    rw [List.getElem?_map] at hx
    obtain ⟨kd, hkd, rfl⟩ := Option.map_eq_some_iff.mp hx
    obtain ⟨dx, tl, tr, ls, g1, _⟩ := (hk2.same s3) kd (List.mem_of_getElem? hkd)
    have new : F (.inr kd.z) = false := by
      cases e : F (.inr kd.z) with
      | false => rfl
      | true =>
        have m := hm _ e
        obtain ⟨k2, h2, e2⟩ := List.mem_map.mp m
        have sp : ks = ks.take i ++ kd :: ks.drop (i + 1) := by
          obtain ⟨hlt, e⟩ := List.getElem?_eq_some_iff.mp hkd
          rw [← e, List.getElem_cons_drop, List.take_append_drop]
        rw [sp, List.map_append, List.nodup_append] at nd
        exact absurd rfl (nd.2.2 _ m kd.z List.mem_cons_self)
    refine ⟨_, rfl, kd.a, _, dx, _, _, rfl, g1, T.cl_Kind, T.nF_Kind_name, rfl, .inr kd.z, F, i, rfl, hF, ?_, ?_⟩
    · have hi : i < (refsK ks).length := hi
      exact Nat.lt_of_lt_of_le (show i + 1 < 100 by omega) (by decide)
    · rw [if_neg (by rw [new]; decide)]
      refine ⟨same_own s3 hS, _, upd_same, fun z h => ?_⟩
      rw [List.take_add_one, hkd, List.map_append, List.mem_append]
      rcases Bool.or_eq_true_iff.mp h with h | h
      · exact .inl (hm z h)
      · have e := Sum.inr.inj (of_decide_eq_true h)
        exact .inr (by rw [e]; exact List.mem_cons_self)
  rintro H3 ⟨s3, F, hF, _⟩
  rw [len] at hF
  refine ⟨S, F, ks.length, rfl, hF, by omega, _, rfl, l, _, rfl, .inl (s3.seq hs2), rfl, ?_⟩
  rw [len, decide_eq_true rfl]
  exact k _ ((s1.trans s2).trans s3)
theorem seq_cut {te : TE} {tg : TG} {r : TS} {D : Ends} {σ : L2.St} {H : Hp} (R : V → Hp → Prop) (h1 : ∀ Q : VK, (∀ v H', R v H' → Q v H') → te σ H Q) (h2 : ∀ v H', R v H' → tg v σ H' (r D)) : tSeq (tAsg te tg) r D σ H := h1 _ h2
def sides4 : List Str := ["left", "right", "low", "high"]
/-- the sides that have an edge -/
def sidesOf (es : List (Option Int)) : List Str := ((sides4.zip es).filter fun p => p.2.isSome).map (·.1)
def plainOf (ks : List KdT) : List Str := (ks.filter fun k => !k.q).map (·.z)
def GoalIs (ks : List KdT) (es : List (Option Int)) (ws : List Str) : Prop :=
  ws = [("hold" : Str)] ∨ (∃ n : Str, ws = [("take" : Str), n] ∧ n ∈ plainOf ks) ∨ ∃ s n : Str, ws = [("reach" : Str), s, n] ∧ s ∈ sidesOf es ∧ n ∈ ks.map (·.z)
def spGoal (K : PySem.W.Frag) (C : Addr) : Sp := fun vs H Q _ => ∃ (l e g : Addr) (ks : List KdT) (a b c d : Option Int) (ws : List Str), vs = [.ref l, .ref e, .ref g] ∧ SqL K H l (refsK ks) ∧ KAs K C H ks ∧ ks.length ≤ 8 ∧ Seq K H e [oV a, oV b, oV c, oV d] ∧
  Seq K H g (ws.map V.str) ∧ GoalIs ks [a, b, c, d] ws ∧ ∀ H', Same H H' → Q (.bl true) H'
theorem O_is_goal (T : Tx K mg w) : FnOk P w K mg base CX0 3 T.a_is_goal T.d_is_goal ["kinds", "edges", "value"] (spGoal K T.c_Kind) := by
  refine T.F_is_goal.ok sc_is_goal (fun vs H Q E h => ?_) (fun cdv A outer s H vs Q E hr h => ?_)
  · obtain ⟨l, e, g, ks, a, b, c, d, ws, rfl, _⟩ := h; rfl
  obtain ⟨l, e, g, ks, a, b, c, d, ws, rfl, hl, hk, z8, he, hg, gi, k⟩ := h
  refine ⟨_, (pss_cons (ps_if (PW.pt (pw_or (pt_not (pt_val (pe_call (O_is_listS T) (hr.mono (by decide)) (by rfl) T.m_is_list T.F_is_list.kp T.b_is_list .nil pass0 (pa_cons (pv 2) pa_nil)))) (pw_or1 (pt_not (pt_val (pe_callB (cr_all rfl) (by rfl) T.z_all (by decide +kernel) (pa_cons (pe_lc (own := [("word", 3)]) (g := (gName 3)) rfl sc_is_goal.nd (pi_or (pi_list (pv 2)) (pi_tup (pv 2))) (blkOk_by (N := n_is_goal) (sc := defScope s_is_goal) (by decide +kernel)) (fun _ _ _ _ _ => (pg_name (i := 3) sc_is_goal.nd rfl (Or.inl rfl))) (fun _ _ _ _ _ => pts_nil) (fun _ _ _ _ _ => (pe_callB (r := rIsi K) call_isi (by rfl) T.z_isinstance (by decide +kernel) (pa_cons (pv 3) (pa_cons (pe_bltn (v := .ty "str") (u := .type "str") (by rfl) T.z_str (by decide +kernel) rfl) pa_nil))))) pa_nil))))))) (pss_one (ps_ret pe_bl)) pss_nil)
      (pss_cons (ps_set (i := 4) sc_is_goal.nd rfl (Or.inl rfl) (pe_callTy (T := "tuple") (r := rTupOf K) call_tuple_of (by rfl) T.z_tuple (by decide +kernel) (pa_cons (pv 2) pa_nil)))
      (pss_cons (ps_if (PW.pt (pw_and (pt_cmpR op_eq (pe_callB call_len_seq (by rfl) T.z_len (by decide +kernel) (pa_cons (pv 4) pa_nil)) pe_int (nomark _)) (pw_and1 (pt_cmpR op_eq (pe_ix ix_tup (pv 4) pe_int (fun _ _ => rfl)) pe_str (nomark _))))) (pss_one (ps_ret (pe_cmpR op_in_seq (pe_ix ix_tup (pv 4) pe_int (fun _ _ => rfl)) (pe_lc (own := [("kind", 5)]) (g := (gName 5)) rfl sc_is_goal.nd (pi_list (pv 0)) (blkOk_by (N := n_is_goal) (sc := defScope s_is_goal) (by decide +kernel)) (fun _ _ _ _ _ => (pg_name (i := 5) sc_is_goal.nd rfl (Or.inl rfl))) (fun _ _ _ _ _ => pts_one (pt_not (pt_val (pe_fldK (K := K) rfl (pv 5))))) (fun _ _ _ _ _ => (pe_fldK (K := K) rfl (pv 5)))) (by rfl)))) pss_nil)
      (pss_cons (ps_if (PW.pt (pw_and (pt_cmpR op_eq (pe_callB call_len_seq (by rfl) T.z_len (by decide +kernel) (pa_cons (pv 4) pa_nil)) pe_int (nomark _)) (pw_and1 (pt_cmpR op_eq (pe_ix ix_tup (pv 4) pe_int (fun _ _ => rfl)) pe_str (nomark _))))) (pss_cons (ps_setLc (i := 6) (own := [("side", 7), ("edge", 8)]) (g := (gTup K 2 (gCons (gName 7) (gCons (gName 8) gNil)))) rfl sc_is_goal.nd rfl rfl (sw_true rfl rfl rfl (by decide +kernel)) (pi_zipM (by rfl) T.z_zip (pa_cons (pe_glob (v := .ref T.t_SD) (by rfl) T.g_SD rfl) (pa_cons (pv 1) pa_nil))) (blkOk_by (N := n_is_goal) (sc := defScope s_is_goal) (by decide +kernel)) (fun _ _ _ _ _ => (pg_tup rfl (pgs_cons (pg_name (i := 7) sc_is_goal.nd rfl (Or.inl rfl)) (pgs_cons (pg_name (i := 8) sc_is_goal.nd rfl (Or.inl rfl)) pgs_nil)))) (fun _ _ _ _ _ => pts_one (pt_cmpR op_notN (pv 8) pe_non (nomark _))) (fun _ _ _ _ _ => (pv 7)))
      (pss_one (ps_ret (pe_and (pe_cmpR op_in_seq (pe_ix ix_tup (pv 4) pe_int (fun _ _ => rfl)) (pv 6) (by rfl)) (pe_one (pe_cmpR op_in_seq (pe_ix ix_tup (pv 4) pe_int (fun _ _ => rfl)) (pe_lc (own := [("kind", 5)]) (g := (gName 5)) rfl sc_is_goal.nd (pi_list (pv 0)) (blkOk_by (N := n_is_goal) (sc := defScope s_is_goal) (by decide +kernel)) (fun _ _ _ _ _ => (pg_name (i := 5) sc_is_goal.nd rfl (Or.inl rfl))) (fun _ _ _ _ _ => pts_nil) (fun _ _ _ _ _ => (pe_fldK (K := K) rfl (pv 5)))) (by rfl))))))) pss_nil)
      (pss_one (ps_ret (pe_cmpR (op_eqD hr.units) (pv 4) (pe_tup (pa_cons pe_str pa_nil)) (nomark _)))))))), ?_⟩
  have wz : ws.length ≤ 3 := by
    rcases gi with rfl | ⟨n, rfl, _⟩ | ⟨s, n, rfl, _⟩
    · exact Nat.le_of_ble_eq_true rfl
    · exact Nat.le_of_ble_eq_true rfl
    · exact Nat.le_refl _
  refine ⟨_, rfl, g, _, rfl, hg, fun H1 s1 => ⟨_, rfl, iteF ?_⟩⟩
  have hg1 : Seq K H1 g _ := hg.imp s1.seq s1.seqT
  refine pi_seq_rd (a := g) rfl hg1 (fun J G hG W => fun D hD => ?_)
  refine lc_it W (fun i H' => Same H1 H' ∧ H' D = some (.lst ((List.replicate i true).map V.bl))) ⟨same_new hD, upd_same⟩ (fun i H' _ h => hG H' (ExtI.of h.1)) ?_ ?_
  · rintro i x H2 H3 hi ⟨s2, hD2⟩ ⟨rfl, hx⟩
    refine ⟨rfl, ?_⟩
    rw [List.getElem?_map] at hx
    obtain ⟨z, hz, rfl⟩ := Option.map_eq_some_iff.mp hx
    refine ⟨_, rfl, .str z, .ty "str", .type "str", .type "str", true, rfl, .ty _, .base (.str z), kit_ty (kS (.str z)), _, hD2, ?_, same_own s2 hD, ?_⟩
    · rw [List.length_map, List.length_replicate]
      exact szK (by have hi : i < (ws.map V.str).length := hi; rw [List.length_map] at hi; omega)
    · rw [upd_same, List.replicate_succ', List.map_append]; rfl
  rintro H2 ⟨s2, hD2⟩
  refine ⟨D, _, rfl, .of hD2, _, rfl, ?_⟩
  have all : (List.replicate (ws.map V.str).length true).all id = true := by
    rw [List.all_eq_true]; intro b hb; rw [(List.mem_replicate.mp hb).2]; rfl
  rw [all]
  refine iteF ?_
  have s3 := s1.trans s2
  have hg2 : Seq K H2 g _ := hg.imp s3.seq s3.seqT
  show tSeq (tAsg (tCB (rTupOf K) (tCons (tVar 2) tNil)) (gName 4)) _ _ _ H2
  refine seq_cut (fun v H' => ∃ t, v = .ref t ∧ SqT K H' t (ws.map V.str) ∧ Same H H') (fun Q q => ?_) ?_
  · rcases hg2 with h | h
    · exact ⟨_, rfl, g, _, rfl, .inl ⟨h, fun t ht => q _ _ ⟨t, rfl, .of upd_same, s3.trans (same_new ht)⟩⟩⟩
    · exact ⟨_, rfl, g, _, rfl, .inr ⟨h, q _ _ ⟨g, rfl, h, s3⟩⟩⟩
  rintro v H3 ⟨t, rfl, ht, s4⟩
  clear hD2 all hg2 s3 s2 hg1 s1 W hG hD
  refine ⟨_, rfl, t, _, rfl, .inr ht, rfl, _, rfl, ?_⟩
  have hl3 := s4.seq hl
  have hk3 := hk.same s4
  have he3 : Seq K H3 e _ := he.imp s4.seq s4.seqT
  rcases gi with rfl | ⟨n, rfl, hn⟩ | ⟨sd, n, rfl, hsd, hn⟩
  · refine iteB (fun e => absurd (V.int.inj (of_decide_eq_true e)) (by decide)) (fun _ => ?_)
    refine ⟨_, rfl, t, _, rfl, .inr ht, rfl, _, rfl, ?_⟩
    refine iteB (fun e => absurd (V.int.inj (of_decide_eq_true e)) (by decide)) (fun _ => ?_)
    refine ⟨_, rfl, szl rfl, fun p hp => ?_⟩
    have st : Same H3 (upd H3 p (.tup [.str "hold"])) := same_new hp
    have sh : SeqAt.shaped (.tuple [.str "hold"]) = true := by decide +kernel
    refine ⟨.tuple [.str "hold"], .tuple [.str "hold"], .tup (st.seqT ht) (.cons (.str _) .nil), .tup (.of upd_same) (.cons (.str _) .nil), sh, sh, ?_⟩
    exact k _ (s4.trans st)
  · refine iteB (fun _ => ?_) (fun e => absurd (of_decide_eq_false e) (fun z => z rfl))
    refine ⟨_, rfl, t, _, 0, .str "take", rfl, rfl, ht, rfl, rfl, _, rfl, ?_⟩
    refine iteB (fun _ => ?_) (fun e => absurd (of_decide_eq_false e) (fun z => z rfl))
    refine ⟨_, rfl, t, _, 1, .str n, rfl, rfl, ht, rfl, _, rfl, _, rfl, ⟨_, hl3⟩, fun D hD => ?_⟩
    refine lc_it (walk_list (K := K) (a := l) (xs := refsK ks)) (fun i H' => Same H3 H' ∧ H' D = some (.lst ((plainOf (ks.take i)).map V.str))) ⟨same_new hD, upd_same⟩ (fun i H' _ h => h.1.seq hl3) ?_ ?_
    · rintro i x H4 H5 hi ⟨s5, hD5⟩ ⟨rfl, hx⟩
      refine ⟨rfl, ?_⟩
      rw [List.getElem?_map] at hx
      obtain ⟨kd, hkd, rfl⟩ := Option.map_eq_some_iff.mp hx
      obtain ⟨dx, tl, tr, ls, g1, _⟩ := (hk3.same s5) kd (List.mem_of_getElem? hkd)
      have nx : plainOf (ks.take (i + 1)) = plainOf (ks.take i) ++ (if kd.q = true then [] else [kd.z]) := by
        unfold plainOf
        rw [List.take_add_one, hkd, List.filter_append, List.map_append]
        cases hq : kd.q <;> simp [hq]
      refine ⟨_, rfl, kd.a, _, dx, _, _, rfl, g1, T.cl_Kind, T.nF_Kind_is_lord, rfl, _, rfl, ?_⟩
      have hi : i < ks.length := by have hi : i < (refsK ks).length := hi; rw [List.length_map] at hi; exact hi
      refine iteB (fun e => ?_) (fun e => ?_)
      · have e : kd.q = false := by simpa using e
        refine ⟨_, rfl, kd.a, _, dx, _, _, rfl, g1, T.cl_Kind, T.nF_Kind_name, rfl, _, hD5, ?_, same_own s5 hD, ?_⟩
        · rw [List.length_map]
          exact szK (by
            have h1 : (plainOf (ks.take i)).length ≤ (ks.take i).length := by unfold plainOf; rw [List.length_map]; exact List.length_filter_le ..
            have h2 := List.length_take_le' i ks
            omega)
        · rw [upd_same, nx, e, if_neg (by decide), List.map_append]; rfl
      · have e : kd.q = true := by simpa using e
        refine ⟨s5, ?_⟩
        rw [nx, e, if_pos rfl, List.append_nil]; exact hD5
    rintro H4 ⟨s5, hD5⟩
    rw [show (refsK ks).length = ks.length from List.length_map .., List.take_length] at hD5
    refine ⟨D, _, rfl, .inl (.of hD5), rfl, all_flat _, ?_⟩
    rw [inV_str, decide_eq_true hn]
    exact k _ (s4.trans s5)
  · refine iteB (fun e => absurd (V.int.inj (of_decide_eq_true e)) (fun z => by cases z)) (fun _ => ?_)
    refine ⟨_, rfl, t, _, rfl, .inr ht, rfl, _, rfl, ?_⟩
    refine iteB (fun _ => ?_) (fun e => absurd (of_decide_eq_false e) (fun z => z rfl))
    refine ⟨_, rfl, t, _, 0, .str "reach", rfl, rfl, ht, rfl, rfl, _, rfl, ?_⟩
    refine iteB (fun _ => ?_) (fun e => absurd (of_decide_eq_false e) (fun z => z rfl))
    obtain ⟨u, hu⟩ : ∃ u, SqB K u H3 e (([a, b, c, d] : List (Option Int)).map oV) := he3.elim (fun h => ⟨false, h⟩) (fun h => ⟨true, h⟩)
    have hS : ∀ H, SqB K true H T.t_SD (sides4.map V.str) := fun H => T.s_SD H
    have upB : ∀ {H' : Hp}, Same H3 H' → SqB K u H' e (([a, b, c, d] : List (Option Int)).map oV) := fun {H'} s => by
      cases u with
      | false => exact s.seq hu
      | true => exact s.seqT hu
    refine seq_cut (fun v H' => ∃ D, v = .ref D ∧ SqL K H' D ((sidesOf [a, b, c, d]).map V.str) ∧ Same H3 H') (fun Q q => ?_) ?_
    · refine ⟨_, rfl, T.t_SD, e, true, u, _, _, rfl, hS _, hu, fun D hD => ?_⟩
      refine lc_it (walk_zipM (K := K) (t := true) (u := u) (a := T.t_SD) (b := e) (xs := sides4.map V.str) (ys := ([a, b, c, d] : List (Option Int)).map oV) rfl) (fun i H' => Same H3 H' ∧ H' D = some (.lst (((((sides4.zip [a, b, c, d]).take i).filter fun p => p.2.isSome).map (·.1)).map V.str))) ⟨same_new hD, upd_same⟩ (fun i H' _ h => ⟨hS _, upB h.1⟩) ?_ ?_
      · rintro i x H4 H5 hi ⟨s5, hD5⟩ ⟨T1, x1, y1, rfl, hT1, rfl, hx, hy⟩
        have sT : Same H4 (upd H4 T1 (.tup [x1, y1])) := same_new hT1
        rw [List.getElem?_map] at hx hy
        obtain ⟨z, hz, rfl⟩ := Option.map_eq_some_iff.mp hx
        obtain ⟨eo, heo, rfl⟩ := Option.map_eq_some_iff.mp hy
        have hzip : (sides4.zip [a, b, c, d])[i]? = some (z, eo) := by rw [List.getElem?_zip_eq_some]; exact ⟨hz, heo⟩
        have hi : i < 4 := hi
        refine ⟨T1, _, rfl, .of upd_same, rfl, _, _, rfl, _, _, rfl, rfl, rfl, ?_⟩
        have nx : (((sides4.zip [a, b, c, d]).take (i + 1)).filter fun p => p.2.isSome).map (·.1) = (((sides4.zip [a, b, c, d]).take i).filter fun p => p.2.isSome).map (·.1) ++ (if eo.isSome = true then [z] else []) := by
          rw [List.take_add_one, hzip, List.filter_append, List.map_append]
          cases eo <;> rfl
        have hD6 := sT _ _ hD5
        refine ⟨_, rfl, rfl, _, rfl, ?_⟩
        cases eo with
        | none => 
          refine iteF ⟨s5.trans sT, ?_⟩
          rw [nx]
          simpa using hD6
        | some q0 =>
          refine iteT ⟨_, rfl, _, hD6, ?_, same_own (s5.trans sT) hD, ?_⟩
          · rw [List.length_map, List.length_map]
            exact szK (by
              have h1 := List.length_filter_le (fun p : Str × Option Int => p.2.isSome) ((sides4.zip [a, b, c, d]).take i)
              have h2 := List.length_take_le' i (sides4.zip [a, b, c, d])
              have h3 : (sides4.zip [a, b, c, d]).length = 4 := rfl
              omega)
          · rw [upd_same, nx, List.map_append]; rfl
      rintro H4 ⟨s5, hD5⟩
      exact q _ _ ⟨D, rfl, .of hD5, s5⟩
    rintro v H4 ⟨D, rfl, hD4, s5⟩
    refine ⟨_, rfl, t, _, 1, .str sd, rfl, rfl, s5.seqT ht, rfl, _, rfl, D, _, rfl, .inl hD4, rfl, all_flat _, _, rfl, ?_⟩
    rw [inV_str, decide_eq_true hsd]
    refine iteT ?_
    refine ⟨_, rfl, t, _, 2, .str n, rfl, rfl, s5.seqT ht, rfl, _, rfl, _, rfl, ⟨_, s5.seq hl3⟩, fun D2 hD2 => ?_⟩
    have hl4 := s5.seq hl3
    have hk4 := hk3.same s5
    refine lc_it (walk_list (K := K) (a := l) (xs := refsK ks)) (fun i H' => Same H4 H' ∧ H' D2 = some (.lst (((ks.take i).map (·.z)).map V.str))) ⟨same_new hD2, upd_same⟩ (fun i H' _ h => h.1.seq hl4) ?_ ?_
    · rintro i x H5 H6 hi ⟨s6, hD6⟩ ⟨rfl, hx⟩
      refine ⟨rfl, ?_⟩
      rw [List.getElem?_map] at hx
      obtain ⟨kd, hkd, rfl⟩ := Option.map_eq_some_iff.mp hx
      obtain ⟨dx, tl, tr, ls, g1, _⟩ := (hk4.same s6) kd (List.mem_of_getElem? hkd)
      have hi : i < ks.length := by have hi : i < (refsK ks).length := hi; rw [List.length_map] at hi; exact hi
      refine ⟨_, rfl, kd.a, _, dx, _, _, rfl, g1, T.cl_Kind, T.nF_Kind_name, rfl, _, hD6, ?_, same_own s6 hD2, ?_⟩
      · rw [List.length_map, List.length_map]
        exact szK (by have h2 := List.length_take_le' i ks; omega)
      · rw [upd_same, List.take_add_one, hkd, List.map_append, List.map_append]; rfl
    rintro H5 ⟨s6, hD6⟩
    rw [show (refsK ks).length = ks.length from List.length_map .., List.take_length] at hD6
    refine ⟨D2, _, rfl, .inl (.of hD6), rfl, all_flat _, ?_⟩
    rw [inV_str, decide_eq_true hn]
    exact k _ ((s4.trans s5).trans s6)
end
end K6

set_option Elab.async false
set_option linter.all false
set_option maxRecDepth 100000
set_option maxHeartbeats 8000000
namespace K6
open PySem PySem.Spec PyProof.Rows L2 Gs
open LamX (Tabs TabB TabS CodeO ExtN)
theorem pi_tupK {X : Cx} {K : PySem.W.Frag} {tg e : Expr} {te : TE} (eK : X.K = K) (h : PE X e te) : PI X tg e (iTup K te) := by
  subst eK; exact pi_tup h
section
variable {J : It} {n : Nat} {G : Hp → Prop} {Y : Nat → Hp → V → Hp → Prop}
/-- a comprehension of two clauses: the outer turns -/
theorem lc2_it (wk : Walk J n G Y) {g g1 : TG} {tt tt1 : TT} {wi1 : TI} {te : TE} {vs vs1 : List Nat} {σ : L2.St} {H1 : Hp} {D : Addr} {Qd : Hp → Prop} (Pv : Nat → Hp → Prop) (h0 : Pv 0 (upd H1 D (.lst []))) (hG : ∀ i H, i ≤ n → Pv i H → G H)
    (hs : ∀ i x H H', i < n → Pv i H → Y i H x H' → g x (wipe σ vs) H' fun σ2 H2 => wipe σ2 vs = wipe σ vs ∧ tt σ2 H2 fun b H3 =>
      if b = true then wi1 σ2 H3 fun J1 H4 => ∃ W1 : Nat → Nat → Hp → Prop, (∃ m, W1 0 m H4) ∧ ∀ j k H, W1 j k H →
        (J1.stop j H ∧ Pv (i + 1) H) ∨ (J1.go j H ∧ ∃ Nx1 : Hp → Prop, (∀ H', Nx1 H' → ∃ k', k' < k ∧ W1 (j + 1) k' H') ∧ ∀ x H', J1.yld j H x H' → g1 x (wipe σ2 vs1) H' fun σ3 H5 => wipe σ3 vs1 = wipe σ2 vs1 ∧ tt1 σ3 H5 fun b H6 =>
          if b = true then te σ3 H6 fun y H7 => ∃ acc, H7 D = some (.lst acc) ∧ acc.length < sizeLine ∧ Nx1 (upd H7 D (.lst (acc ++ [y]))) else Nx1 H6)
      else Pv (i + 1) H3) (hd : ∀ H, Pv n H → Qd H) :
    ∃ W : Nat → Nat → Hp → Prop, (∃ m, W 0 m (upd H1 D (.lst []))) ∧ ∀ i m H, W i m H →
  (J.stop i H ∧ Qd H) ∨ (J.go i H ∧ ∃ Nx : Hp → Prop, (∀ H', Nx H' → ∃ m', m' < m ∧ W (i + 1) m' H') ∧ ∀ x H', J.yld i H x H' → g x (wipe σ vs) H' fun σ2 H2 => wipe σ2 vs = wipe σ vs ∧ tt σ2 H2 fun b H3 =>
    if b = true then wi1 σ2 H3 fun J1 H4 => ∃ W1 : Nat → Nat → Hp → Prop, (∃ m, W1 0 m H4) ∧ ∀ j k H, W1 j k H →
      (J1.stop j H ∧ Nx H) ∨ (J1.go j H ∧ ∃ Nx1 : Hp → Prop, (∀ H', Nx1 H' → ∃ k', k' < k ∧ W1 (j + 1) k' H') ∧ ∀ x H', J1.yld j H x H' → g1 x (wipe σ2 vs1) H' fun σ3 H5 => wipe σ3 vs1 = wipe σ2 vs1 ∧ tt1 σ3 H5 fun b H6 =>
        if b = true then te σ3 H6 fun y H7 => ∃ acc, H7 D = some (.lst acc) ∧ acc.length < sizeLine ∧ Nx1 (upd H7 D (.lst (acc ++ [y]))) else Nx1 H6)
    else Nx H3) := by
  refine ⟨fun i m H => m = n - i ∧ i ≤ n ∧ Pv i H, ⟨n, (Nat.sub_zero n).symm, Nat.zero_le _, h0⟩, ?_⟩
  rintro i m H ⟨rfl, hi, p⟩
  have q := hG i H hi p
  by_cases lt : i < n
  · exact .inr ⟨wk.goes i H lt q, Pv (i + 1), fun H' p' => ⟨n - (i + 1), by omega, rfl, lt, p'⟩, fun x H' y => hs i x H H' lt p (wk.yields i H x H' lt q y)⟩
  · obtain rfl : i = n := by omega
    exact .inl ⟨wk.stops H q, hd H p⟩
/-- .. the inner turns -/
theorem in2_it (wk : Walk J n G Y) {g1 : TG} {tt1 : TT} {te : TE} {vs1 : List Nat} {σ2 : L2.St} {H4 : Hp} {D : Addr} {Qd : Hp → Prop} (P1 : Nat → Hp → Prop) (h0 : P1 0 H4) (hG : ∀ i H, i ≤ n → P1 i H → G H)
    (hs : ∀ i x H H', i < n → P1 i H → Y i H x H' → g1 x (wipe σ2 vs1) H' fun σ3 H5 => wipe σ3 vs1 = wipe σ2 vs1 ∧ tt1 σ3 H5 fun b H6 =>
      if b = true then te σ3 H6 fun y H7 => ∃ acc, H7 D = some (.lst acc) ∧ acc.length < sizeLine ∧ P1 (i + 1) (upd H7 D (.lst (acc ++ [y]))) else P1 (i + 1) H6) (hd : ∀ H, P1 n H → Qd H) :
    ∃ W1 : Nat → Nat → Hp → Prop, (∃ m, W1 0 m H4) ∧ ∀ j k H, W1 j k H →
      (J.stop j H ∧ Qd H) ∨ (J.go j H ∧ ∃ Nx1 : Hp → Prop, (∀ H', Nx1 H' → ∃ k', k' < k ∧ W1 (j + 1) k' H') ∧ ∀ x H', J.yld j H x H' → g1 x (wipe σ2 vs1) H' fun σ3 H5 => wipe σ3 vs1 = wipe σ2 vs1 ∧ tt1 σ3 H5 fun b H6 =>
        if b = true then te σ3 H6 fun y H7 => ∃ acc, H7 D = some (.lst acc) ∧ acc.length < sizeLine ∧ Nx1 (upd H7 D (.lst (acc ++ [y]))) else Nx1 H6) := by
  refine ⟨fun i m H => m = n - i ∧ i ≤ n ∧ P1 i H, ⟨n, (Nat.sub_zero n).symm, Nat.zero_le _, h0⟩, ?_⟩
  rintro i m H ⟨rfl, hi, p⟩
  have q := hG i H hi p
  by_cases lt : i < n
  · exact .inr ⟨wk.goes i H lt q, P1 (i + 1), fun H' p' => ⟨n - (i + 1), by omega, rfl, lt, p'⟩, fun x H' y => hs i x H H' lt p (wk.yields i H x H' lt q y)⟩
  · obtain rfl : i = n := by omega
    exact .inl ⟨wk.stops H q, hd H p⟩
end
section
variable {P : Program} {w : World} {K : PySem.W.Frag} {mg : Str → Option Value} {base : Heap} {CX : CXT} {k : Nat} {f : Addr} {fd : FuncData} {ps : List Str} {sp : Sp}
/-- a def with defaults; its code object is told -/
theorem funD_okC {x qual : Str} {params : Arguments} {body : List Stmt} {scope : Scope} {dvs : List V} {kws : List (Str × V)} {N : List Str} (F : FunD K x qual params body scope dvs kws f fd) (S : FnScope N ps scope)
    (len : ∀ vs H Q E, sp vs H Q E → vs.length = ps.length)
    (hb : ∀ (cdv : Value), fd.code = cdv → ∀ (A : Around) (outer : List Env) (s : Shared) (H : Hp) (vs : List V) (Q : VK) (E : XK), Room k (A.deeper (envOfC qual scope s.heap.objs.size f cdv)) → sp vs H Q E →
      ∃ t, PSs (cxOf CX P w K mg base N qual scope f cdv A outer s H E) body t ∧ t { nx := fun _ H' => Q .non H', rt := Q } (L2.start N vs) H) : FnOk P w K mg base CX (k + 1) f fd ps sp := by
  obtain ⟨oc, od, dV, kV, doc, pm, an, cdv, ct, osl, rfl, lk, hcd, _, _⟩ := F.ex
  exact fn_of lk hcd S len fun A outer s H vs Q E hr hsp => hb cdv rfl A outer s H vs Q E hr hsp
end
section
variable {P : Program} {w : World} {K : PySem.W.Frag} {mg : Str → Option Value} {base : Heap}
/-- everything but the bag and the tables stays -/
def ExtNc (c : Addr) (H H' : Hp) : Prop := ∀ b o, b ≠ c → H b = some o → (∀ ps, o ≠ .tbl ps) → H' b = some o
theorem ExtNc.of {c : Addr} {H H' : Hp} (s : Same H H') : ExtNc c H H' := fun b o _ e _ => s b o e
theorem ExtNc.trans {c : Addr} {H H1 H2 : Hp} (a : ExtNc c H H1) (b : ExtNc c H1 H2) : ExtNc c H H2 := fun d o n h q => b d o n (a d o n h q) q
theorem ExtNc.put {x : Addr} {H : Hp} {o : HO} : ExtNc x H (upd H x o) := fun b u n h _ => by rw [upd_ne n]; exact h
theorem ExtNc.tab {x : Addr} {H H' : Hp} (e : ExtN H H') : ExtNc x H H' := fun b o _ h q => e b o h q
section
variable {x dx C : Addr} {fs : List (Str × V)} {H H' : Hp}
theorem ExtNc.sqL {a : Addr} {xs : List V} (e : ExtNc x H H') (hx : H x = some (.ins C dx fs)) (h : SqL K H a xs) : SqL K H' a xs := by
  rcases h with (h | ⟨q, h⟩) | h
  · exact .inl (.inl (e _ _ (fun z => by rw [z, hx] at h; cases h) h fun _ z => nomatch z))
  · exact .inl (.inr ⟨q, e _ _ (fun z => by rw [z, hx] at h; cases h) h fun _ z => nomatch z⟩)
  · exact .inr h
theorem ExtNc.sqT {a : Addr} {xs : List V} (e : ExtNc x H H') (hx : H x = some (.ins C dx fs)) (h : SqT K H a xs) : SqT K H' a xs := by
  rcases h with (h | ⟨q, h⟩) | h
  · exact .inl (.inl (e _ _ (fun z => by rw [z, hx] at h; cases h) h fun _ z => nomatch z))
  · exact .inl (.inr ⟨q, e _ _ (fun z => by rw [z, hx] at h; cases h) h fun _ z => nomatch z⟩)
  · exact .inr h
theorem ExtNc.seq {a : Addr} {xs : List V} (e : ExtNc x H H') (hx : H x = some (.ins C dx fs)) (h : Seq K H a xs) : Seq K H' a xs := h.imp (e.sqL hx) (e.sqT hx)
theorem ExtNc.kind {CK k : Addr} {z : Str} {ps : List (Int × Int)} {rs : List Str} {q : Bool} (e : ExtNc x H H') (hx : H x = some (.ins C dx [])) (h : KindAt K CK H k z ps rs q) : KindAt K CK H' k z ps rs q := by
  obtain ⟨d2, tl, tr, ls, h1, h2, h3, h4, h5⟩ := h
  exact ⟨d2, tl, tr, ls, e _ _ (fun z => by rw [z, hx] at h1; cases h1) h1 (fun _ z => nomatch z), e.sqT hx h2, fun p hp => e.sqT hx (h3 p hp), h4, e.sqT hx h5⟩
theorem ExtNc.kinds {CK : Addr} {ks : List KdT} (e : ExtNc x H H') (hx : H x = some (.ins C dx [])) (h : KAs K CK H ks) : KAs K CK H' ks := fun k hk => e.kind hx (h k hk)
theorem tabs_same {TT : List (Addr × Str)} (s : Same H H') (h : Tabs TT H) : Tabs TT H' := fun p hp => by
  obtain ⟨ps, a1, a2, a3⟩ := h p hp
  exact ⟨ps, s _ _ a1, a2, fun p' cv hc => by obtain ⟨c0, e1, e2⟩ := a3 p' cv hc; exact ⟨c0, e1, s _ _ e2⟩⟩
theorem tabs_put {TT : List (Addr × Str)} {o : HO} (hx : H x = some (.ins C dx fs)) (h : Tabs TT H) : Tabs TT (upd H x o) := fun p hp => by
  obtain ⟨ps, a1, a2, a3⟩ := h p hp
  refine ⟨ps, by rw [upd_ne (fun z => by rw [z, hx] at a1; cases a1)]; exact a1, a2, fun p' cv hc => ?_⟩
  obtain ⟨c0, e1, e2⟩ := a3 p' cv hc
  exact ⟨c0, e1, by rw [upd_ne (fun z => by rw [z, hx] at e2; cases e2)]; exact e2⟩
end
theorem tup_fld {i j : Nat} {l : Addr} {xs : List V} {f : Str} {r : TS} {D : Ends} {σ : L2.St} {H : Hp} (hv : σ[i]? = some (some (.ref l))) (hs : Seq K H l xs)
    (h : ∀ t H', SqT K H' t xs → Same H H' → tSeq (sFld K (tVar j) (tC (.ref t)) f) r D σ H') : tSeq (sFld K (tVar j) (tCB (rTupOf K) (tCons (tVar i) tNil)) f) r D σ H := by
  rcases hs with hs | hs
  · exact ⟨_, hv, l, _, rfl, .inl ⟨hs, fun t ht => h t _ (.of upd_same) (same_new ht)⟩⟩
  · exact ⟨_, hv, l, _, rfl, .inr ⟨hs, h l H hs (Same.refl H)⟩⟩
def abI (a : Int) : Int := if a < 0 then -a else a
def mxI (p : Int × Int) : Int := if abI p.2 > abI p.1 then abI p.2 else abI p.1
def nsOf (k : KdT) : List Int := k.ps.map mxI
theorem mx_spec (p : Int × Int) : (mxI p = (p.1.natAbs : Int) ∨ mxI p = (p.2.natAbs : Int)) ∧ (p.1.natAbs : Int) ≤ mxI p ∧ (p.2.natAbs : Int) ≤ mxI p := by
  unfold mxI abI
  refine ⟨?_, ?_, ?_⟩ <;> (repeat' split) <;> omega
theorem flat_len : ∀ {ks : List KdT}, (∀ k ∈ ks, k.ps.length ≤ 62) → (ks.flatMap nsOf).length ≤ 62 * ks.length
  | [], _ => Nat.le_refl _
  | k :: ks, h => by
    have ih := flat_len (ks := ks) fun q hq => h q (List.mem_cons_of_mem _ hq)
    have h1 := h k List.mem_cons_self
    have h2 : (nsOf k).length = k.ps.length := List.length_map ..
    rw [List.flatMap_cons, List.length_append, List.length_cons]
    omega
abbrev gQ : Str := ("Game.__init__.<locals>." : Str) ++ "<lambda>"
/-- the greatest number of a leap of these kinds, 1 at least -/
def IsFar (n : Int) (ks : List KdT) : Prop := 1 ≤ n ∧ (n = 1 ∨ ∃ k ∈ ks, ∃ p ∈ k.ps, n = (p.1.natAbs : Int) ∨ n = (p.2.natAbs : Int)) ∧ ∀ k ∈ ks, ∀ p ∈ k.ps, (p.1.natAbs : Int) ≤ n ∧ (p.2.natAbs : Int) ≤ n
def gmF (tk te tg tt : Addr) (n : Int) : List (Str × V) := [("kinds", .ref tk), ("edges", .ref te), ("goal", .ref tg), ("table", .ref tt), ("farthest", .int n)]
def spGame (K : PySem.W.Frag) (CK CG : Addr) (TT : List (Addr × Str)) : Sp := fun vs H Q _ => ∃ (x dx l e g : Addr) (ks : List KdT) (a b c d : Option Int) (ws : List Str), vs = [.ref x, .ref l, .ref e, .ref g] ∧ H x = some (.ins CG dx []) ∧
  SqL K H l (refsK ks) ∧ KAs K CK H ks ∧ 1 ≤ ks.length ∧ ks.length ≤ 8 ∧ (∀ k ∈ ks, k.ps.length ≤ 62) ∧ (ks.map (·.z)).Nodup ∧ Seq K H e [oV a, oV b, oV c, oV d] ∧ leO a b = true ∧ leO c d = true ∧ Seq K H g (ws.map V.str) ∧ GoalIs ks [a, b, c, d] ws ∧ Tabs TT H ∧
  ∀ tk te tg tt n H', ExtNc x H H' → Tabs TT H' → H' x = some (.ins CG dx (gmF tk te tg tt n)) → SqT K H' tk ((sortF (ks.map fun k => (k.a, k.z))).map fun b => .ref b.1) → SqT K H' te [oV a, oV b, oV c, oV d] → SqT K H' tg (ws.map V.str) →
    (∃ kvs, H' tt = some (.dK kvs)) → IsFar n ks → Q .non H'
theorem O_Game___init__ (T : Tx K mg w) {ccG PG : Addr} {TT : List (Addr × Str)} (TB : TabB base mg ccG PG) (hcc : T.d_Game___init__.code = .ref ccG) (hmT : (PG, gQ) ∈ TT) (hu : ∀ p ∈ TT, p.1 = PG → p.2 = gQ) :
    FnOk P w K mg base (L2.CX P w) 9 T.a_Game___init__ T.d_Game___init__ ["self", "kinds", "edges", "goal"] (spGame K T.c_Kind T.c_Game TT) := by
  refine funD_okC T.F_Game___init__ sc_Game___init__ (fun vs H Q E h => ?_) (fun cdv hcd A outer s H vs Q E hr h => ?_)
  · obtain ⟨x, dx, l, e, g, ks, a, b, c, d, ws, rfl, _⟩ := h; rfl
  obtain ⟨x, dx, l, e, g, ks, a, b, c, d, ws, rfl, hx, hl, hk, z1, z8, z62, nd, he, hab, hcd2, hg, gi, ht, k⟩ := h
  have hcode : cdv = .ref ccG := hcd.symm.trans hcc
  refine ⟨_, (pss_cons (ps_if (pt_not (pt_val (pe_call (O_are_kinds T) (hr.mono (by decide)) (by rfl) T.m_are_kinds T.F_are_kinds.kp T.b_are_kinds .nil pass0 (pa_cons (pv 1) pa_nil)))) (pss_one (ps_raise rfl (takes_of rfl rfl rfl rfl) (pmk_oex T.ox_BadGame T.ic_BadGame T.ti_BadGame (O_BadGame___init__ T) (hr.mono (by decide)) T.b_BadGame___init__ .nil pass0 (by rfl) T.m_BadGame (pa_cons pe_str pa_nil)))) pss_nil)
      (pss_cons (ps_if (pt_not (pt_val (pe_call (O_are_edges T) (hr.mono (by decide)) (by rfl) T.m_are_edges T.F_are_edges.kp T.b_are_edges .nil pass0 (pa_cons (pv 2) pa_nil)))) (pss_one (ps_raise rfl (takes_of rfl rfl rfl rfl) (pmk_oex T.ox_BadGame T.ic_BadGame T.ti_BadGame (O_BadGame___init__ T) (hr.mono (by decide)) T.b_BadGame___init__ .nil pass0 (by rfl) T.m_BadGame (pa_cons pe_str pa_nil)))) pss_nil)
      (pss_cons (ps_if (pt_not (pt_val (pe_call (O_is_goal T) (hr.mono (by decide)) (by rfl) T.m_is_goal T.F_is_goal.kp T.b_is_goal .nil pass0 (pa_cons (pv 1) (pa_cons (pv 2) (pa_cons (pv 3) pa_nil)))))) (pss_one (ps_raise rfl (takes_of rfl rfl rfl rfl) (pmk_oex T.ox_BadGame T.ic_BadGame T.ti_BadGame (O_BadGame___init__ T) (hr.mono (by decide)) T.b_BadGame___init__ .nil pass0 (by rfl) T.m_BadGame (pa_cons pe_str pa_nil)))) pss_nil)
      (pss_cons (ps_fld (pv 0) (pe_callTy (T := "tuple") (r := rTupOf K) call_tuple_of (by rfl) T.z_tuple (by decide +kernel) (pa_cons (pe_callBK (cr_sortF (q := gQ) (p := "kind") (fld := "name") (params := { posonlyargs := [], args := [{ arg := "kind", annotation := none, pos := ⟨240, 52, 240, 56⟩ }], vararg := none, kwonlyargs := [], kw_defaults := [], kwarg := none, defaults := [] }) (q1 := ⟨240, 58, 240, 62⟩) (q2 := ⟨240, 58, 240, 67⟩) (scope := { kind := .function, names := [("kind", .local)], isGenerator := false, isCoroutine := false, more := [] }) (hr.mono (by decide)) ⟨rfl, rfl, rfl, by decide, rfl, fun _ _ _ _ _ => rfl, by decide⟩) (by rfl) T.z_sorted (by decide +kernel) (pa_cons (pv 1) pa_nil) (pk_cons (pe_lamV (T := TT) (P := PG) rfl TB hcode hmT hu (by rfl) (by decide)) pk_nil)) pa_nil)) rfl)
      (pss_cons (ps_fld (pv 0) (pe_callTy (T := "tuple") (r := rTupOf K) call_tuple_of (by rfl) T.z_tuple (by decide +kernel) (pa_cons (pv 2) pa_nil)) rfl)
      (pss_cons (ps_fld (pv 0) (pe_callTy (T := "tuple") (r := rTupOf K) call_tuple_of (by rfl) T.z_tuple (by decide +kernel) (pa_cons (pv 3) pa_nil)) rfl)
      (pss_cons (ps_fld (pv 0) (pe_dc (own := [("kind", 4)]) (g := gName 4) rfl sc_Game___init__.nd (pi_tup (pe_fldK (K := K) rfl (pv 0))) (blkOk_by (N := n_Game___init__) (sc := defScope s_Game___init__) (by decide +kernel)) (fun _ _ _ _ _ => (pg_name (i := 4) sc_Game___init__.nd rfl (Or.inl rfl))) (fun _ _ _ _ _ => pts_nil) (fun _ _ _ _ _ => (pe_fldK (K := K) rfl (pv 4))) (fun _ _ _ _ _ => (pv 4))) rfl)
      (pss_one (ps_fld (pv 0) (pe_callB (r := rMax K) (cr_max rfl) (by rfl) T.z_max (by decide +kernel) (pa_cons (pe_op op_cat (pe_lst (pa_cons pe_int pa_nil)) (pe_lc2 (own := [("kind", 4), ("across", 5), ("up", 6)]) (vs1 := [5, 6]) (g := gName 4) (g1 := gTup K 2 (gCons (gName 5) (gCons (gName 6) gNil))) rfl sc_Game___init__.nd (pi_list (pv 1)) (blkOk_by (N := n_Game___init__) (sc := defScope s_Game___init__) (by decide +kernel)) (by decide) (fun _ _ _ _ _ => (pg_name (i := 4) sc_Game___init__.nd rfl (Or.inl rfl))) (fun _ _ _ _ _ => pts_nil) (fun _ _ _ _ _ => (pi_tupK (K := K) rfl (pe_fldK (K := K) rfl (pv 4)))) (fun _ _ _ _ _ => (pg_tup rfl (pgs_cons (pg_name (i := 5) sc_Game___init__.nd rfl (Or.inl rfl)) (pgs_cons (pg_name (i := 6) sc_Game___init__.nd rfl (Or.inl rfl)) pgs_nil)))) (fun _ _ _ _ _ => pts_nil) (fun _ _ _ _ _ => (pe_callB (call_max2 rfl) (by rfl) T.z_max (by decide +kernel) (pa_cons (pe_callB call_abs (by rfl) T.z_abs (by decide +kernel) (pa_cons (pv 5) pa_nil)) (pa_cons (pe_callB call_abs (by rfl) T.z_abs (by decide +kernel) (pa_cons (pv 6) pa_nil)) pa_nil)))))) pa_nil)) rfl))))))))), ?_⟩
  refine ⟨_, rfl, l, ks, rfl, hl, hk, z1, z8, nd, fun H1 s1 => ⟨_, rfl, iteF ?_⟩⟩
  refine ⟨_, rfl, e, a, b, c, d, rfl, he.imp s1.seq s1.seqT, fun H2 t2 => ⟨_, rfl, ?_⟩⟩
  rw [hab, hcd2]
  refine iteF ?_
  have s2 := s1.trans t2
  clear t2 s1
  refine ⟨_, rfl, _, rfl, _, rfl, l, e, g, ks, a, b, c, d, ws, rfl, s2.seq hl, hk.same s2, z8, he.imp s2.seq s2.seqT, hg.imp s2.seq s2.seqT, gi, fun H3 t3 => ⟨_, rfl, iteF ?_⟩⟩
  have s3 := s2.trans t3
  clear t3 s2
  -- self.kinds
  refine ⟨_, rfl, tabs_same s3 ht, fun f c' H4 eN t4 hfn hc => ?_⟩
  have e4 : ExtNc x H H4 := (ExtNc.of s3).trans (.tab eN)
  have sfo : ∀ o, Same H4 (upd H4 f o) := fun o => same_new hfn
  refine ⟨l, f, c', ks.map (fun k => (k.a, k.z)), rfl, rfl, ?_, ?_, upd_same, sfo _ _ _ hc, fun P0 hP0 => ?_⟩
  · rw [List.map_map]
    exact (sfo _).seq (e4.sqL hx hl)
  · intro b hb
    obtain ⟨kd, hkd, rfl⟩ := List.mem_map.mp hb
    obtain ⟨d2, tl, tr, ls, g1, _⟩ := e4.kinds hx hk kd hkd
    exact ⟨T.c_Kind, d2, _, sfo _ _ _ g1, T.cl_Kind, T.nF_Kind_name, rfl⟩
  refine ⟨P0, _, rfl, .inl ⟨.of upd_same, fun tk htk => ?_⟩⟩
  have h4x : H4 x = some (.ins T.c_Game dx []) := eN _ _ (s3 _ _ hx) (fun _ z => nomatch z)
  generalize e7 : upd _ tk _ = H7
  have s7 : Same H4 H7 := by rw [← e7]; exact (sfo _).trans ((same_new hP0).trans (same_new htk))
  have htk7 : SqT K H7 tk ((sortF (ks.map fun k => (k.a, k.z))).map fun b => .ref b.1) := by rw [← e7]; exact .of upd_same
  have t7 : Tabs TT H7 := tabs_same s7 t4
  have e7' : ExtNc x H H7 := e4.trans (.of s7)
  have h7x : H7 x = some (.ins T.c_Game dx []) := s7 _ _ h4x
  clear e7 htk hP0 hc hfn sfo s7 h4x t4 e4 eN s3
  refine ⟨_, rfl, x, _, dx, _, rfl, h7x, T.cl_Game, T.nF_Game_kinds, Nat.le_of_ble_eq_true rfl, ?_⟩
  have e8 : ExtNc x H (upd H7 x (.ins T.c_Game dx [("kinds", .ref tk)])) := e7'.trans .put
  have t8 := tabs_put (o := .ins T.c_Game dx [("kinds", .ref tk)]) h7x t7
  have i8 : ExtI H7 (upd H7 x (.ins T.c_Game dx [("kinds", .ref tk)])) := ExtI.put h7x
  have h8x : upd H7 x (.ins T.c_Game dx [("kinds", .ref tk)]) x = some (.ins T.c_Game dx [("kinds", .ref tk)]) := upd_same
  change tSeq _ _ _ _ (upd H7 x (.ins T.c_Game dx [("kinds", .ref tk)]))
  generalize upd H7 x (.ins T.c_Game dx [("kinds", .ref tk)]) = H8 at e8 t8 i8 h8x ⊢
  have htk8 := i8.sqT htk7
  clear htk7 i8 h7x e7' t7
  -- self.edges
  refine tup_fld rfl (e8.seq hx he) fun te H9 hte s9 => ?_
  have h9x := s9 _ _ h8x
  refine ⟨_, rfl, x, _, dx, _, rfl, h9x, T.cl_Game, T.nF_Game_edges, Nat.le_of_ble_eq_true rfl, ?_⟩
  have e10 : ExtNc x H (upd H9 x (.ins T.c_Game dx [("kinds", .ref tk), ("edges", .ref te)])) := (e8.trans (.of s9)).trans .put
  have t10 := tabs_put (o := .ins T.c_Game dx [("kinds", .ref tk), ("edges", .ref te)]) h9x (tabs_same s9 t8)
  have i10 : ExtI H9 (upd H9 x (.ins T.c_Game dx [("kinds", .ref tk), ("edges", .ref te)])) := ExtI.put h9x
  have h10x : upd H9 x (.ins T.c_Game dx [("kinds", .ref tk), ("edges", .ref te)]) x = some (.ins T.c_Game dx [("kinds", .ref tk), ("edges", .ref te)]) := upd_same
  change tSeq _ _ _ _ (upd H9 x (.ins T.c_Game dx [("kinds", .ref tk), ("edges", .ref te)]))
  generalize upd H9 x (.ins T.c_Game dx [("kinds", .ref tk), ("edges", .ref te)]) = H10 at e10 t10 i10 h10x ⊢
  have htk10 := i10.sqT (s9.seqT htk8)
  have hte10 := i10.sqT hte
  clear htk8 hte i10 h9x e8 t8 s9 h8x
  -- self.goal
  refine tup_fld rfl (e10.seq hx hg) fun tg H11 htg s11 => ?_
  have h11x := s11 _ _ h10x
  refine ⟨_, rfl, x, _, dx, _, rfl, h11x, T.cl_Game, T.nF_Game_goal, Nat.le_of_ble_eq_true rfl, ?_⟩
  have e12 : ExtNc x H (upd H11 x (.ins T.c_Game dx [("kinds", .ref tk), ("edges", .ref te), ("goal", .ref tg)])) := (e10.trans (.of s11)).trans .put
  have t12 := tabs_put (o := .ins T.c_Game dx [("kinds", .ref tk), ("edges", .ref te), ("goal", .ref tg)]) h11x (tabs_same s11 t10)
  have i12 : ExtI H11 (upd H11 x (.ins T.c_Game dx [("kinds", .ref tk), ("edges", .ref te), ("goal", .ref tg)])) := ExtI.put h11x
  have h12x : upd H11 x (.ins T.c_Game dx [("kinds", .ref tk), ("edges", .ref te), ("goal", .ref tg)]) x = some (.ins T.c_Game dx [("kinds", .ref tk), ("edges", .ref te), ("goal", .ref tg)]) := upd_same
  change tSeq _ _ _ _ (upd H11 x (.ins T.c_Game dx [("kinds", .ref tk), ("edges", .ref te), ("goal", .ref tg)]))
  generalize upd H11 x (.ins T.c_Game dx [("kinds", .ref tk), ("edges", .ref te), ("goal", .ref tg)]) = H12 at e12 t12 i12 h12x ⊢
  have htk12 := i12.sqT (s11.seqT htk10)
  have hte12 := i12.sqT (s11.seqT hte10)
  have htg12 := i12.sqT htg
  clear htk10 hte10 htg i12 h11x e10 t10 s11 h10x
  have hk12 : KAs K T.c_Kind H12 ks := e12.kinds hx hk
  -- self.table
  have bs_len : (sortF (ks.map fun k => (k.a, k.z))).length = ks.length := by unfold sortF; rw [List.length_mergeSort, List.length_map]
  have bs_mem : ∀ p ∈ sortF (ks.map fun k => (k.a, k.z)), ∃ kd ∈ ks, kd.a = p.1 ∧ kd.z = p.2 := fun p hp => by
    unfold sortF at hp
    rw [List.mem_mergeSort] at hp
    obtain ⟨kd, h1, rfl⟩ := List.mem_map.mp hp
    exact ⟨kd, h1, rfl, rfl⟩
  refine ⟨_, rfl, x, _, dx, _, _, rfl, h12x, T.cl_Game, T.nF_Game_kinds, rfl, tk, rfl, ⟨_, htk12⟩, fun D hD => ?_⟩
  refine dc_tup (xs := (sortF (ks.map fun k : KdT => (k.a, k.z))).map fun b : Addr × Str => V.ref b.1) (fun i H' => Same H12 H' ∧ ∃ kvs : List (Key × V), H' D = some (.dK kvs) ∧ kvs.length ≤ i) ⟨same_new hD, _, upd_same, Nat.le_refl _⟩ (fun i H' _ h => h.1.seqT htk12) ?_ ?_
  · rintro i v H13 hv ⟨s13, kvs, hkv, hlen⟩
    rw [List.getElem?_map] at hv
    obtain ⟨p, hp, rfl⟩ := Option.map_eq_some_iff.mp hv
    obtain ⟨kd, hkd, ea, ez⟩ := bs_mem p (List.mem_of_getElem? hp)
    obtain ⟨d2, tl, tr, ls, g1, _⟩ := (hk12.same s13) kd hkd
    rw [ea, ez] at g1
    have hi : i < ks.length := by rw [← bs_len]; exact (List.getElem?_eq_some_iff.mp hp).1
    refine ⟨rfl, ?_⟩
    refine ⟨_, rfl, p.1, _, d2, _, _, rfl, g1, T.cl_Kind, T.nF_Kind_name, rfl, _, rfl, kvs, .inr p.2, rfl, hkv, szK (by omega), same_own s13 hD, _, upd_same, ?_⟩
    have := length_putK kvs (.inr p.2 : Key) (V.ref p.1)
    omega
  rintro H13 ⟨s13, kvs, hkv, _⟩
  have h13x := s13 _ _ h12x
  refine ⟨_, rfl, x, _, dx, _, rfl, h13x, T.cl_Game, T.nF_Game_table, Nat.le_of_ble_eq_true rfl, ?_⟩
  have nDx : D ≠ x := fun z => by rw [z, h12x] at hD; cases hD
  generalize e13 : upd H13 x _ = H14
  have e14 : ExtNc x H H14 := by rw [← e13]; exact (e12.trans (.of s13)).trans .put
  have t14 : Tabs TT H14 := by rw [← e13]; exact tabs_put h13x (tabs_same s13 t12)
  have i14 : ExtI H13 H14 := by rw [← e13]; exact ExtI.put h13x
  have h14x : H14 x = some (.ins T.c_Game dx [("kinds", .ref tk), ("edges", .ref te), ("goal", .ref tg), ("table", .ref D)]) := by rw [← e13]; exact upd_same
  have hkv14 : H14 D = some (.dK kvs) := by rw [← e13, upd_ne nDx]; exact hkv
  have htk14 := i14.sqT (s13.seqT htk12)
  have hte14 := i14.sqT (s13.seqT hte12)
  have htg14 := i14.sqT (s13.seqT htg12)
  clear e13 htk12 hte12 htg12 i14 h13x e12 t12 s13 h12x hk12 hkv hD bs_mem bs_len
  have hk14 : KAs K T.c_Kind H14 ks := e14.kinds hx hk
  -- self.farthest
  refine ⟨szl rfl, fun p1 hp1 => ?_⟩
  have sp1 : Same H14 (upd H14 p1 (.lst [.int 1])) := same_new hp1
  have hp1' : upd H14 p1 (.lst [.int 1]) p1 = some (.lst [.int 1]) := upd_same
  generalize upd H14 p1 (.lst [V.int 1]) = H15 at sp1 hp1' ⊢
  have hk15 := hk14.same sp1
  have hl15 := sp1.seq (e14.sqL hx hl)
  refine ⟨_, rfl, l, rfl, ⟨_, hl15⟩, fun D2 hD2 => ?_⟩
  refine lc2_it (walk_list (K := K) (a := l) (xs := refsK ks)) (fun i H' => Same H15 H' ∧ H' D2 = some (.lst (((ks.take i).flatMap nsOf).map V.int))) ⟨same_new hD2, upd_same⟩ (fun i H' _ h => h.1.seq hl15) ?_ ?_
  · rintro i v H16 H17 hi ⟨s16, hD16⟩ ⟨rfl, hv⟩
    rw [List.getElem?_map] at hv
    obtain ⟨kd, hkd, rfl⟩ := Option.map_eq_some_iff.mp hv
    obtain ⟨d2, tl, tr, ls, g1, g2, g3, g4, _⟩ := hk15 kd (List.mem_of_getElem? hkd)
    have hi : i < ks.length := (List.getElem?_eq_some_iff.mp hkd).1
    have hkl := z62 kd (List.mem_of_getElem? hkd)
    have hll : ls.length = kd.ps.length := by rw [← g4, List.length_map]
    have hfl : ((ks.take i).flatMap nsOf).length ≤ 62 * 8 := by
      have h1 := flat_len (ks := ks.take i) fun k hk => z62 k (List.mem_of_mem_take hk)
      have h2 := List.length_take_le' i ks
      have h3 : (ks.take i).length ≤ i := List.length_take_le ..
      omega
    refine ⟨rfl, ?_⟩
    refine ⟨_, rfl, kd.a, _, d2, _, _, rfl, s16 _ _ g1, T.cl_Kind, T.nF_Kind_leaps, rfl, tl, rfl, ⟨_, s16.seqT g2⟩, ?_⟩
    refine in2_it (walk_tup (K := K) (a := tl) (xs := ls.map fun p => V.ref p.1)) (fun j H' => Same H15 H' ∧ H' D2 = some (.lst (((ks.take i).flatMap nsOf ++ (kd.ps.take j).map mxI).map V.int))) ⟨s16, by rw [List.take_zero]; simpa using hD16⟩ (fun j H' _ h => h.1.seqT g2) ?_ ?_
    · rintro j v H18 H19 hj ⟨s18, hD18⟩ ⟨rfl, hv⟩
      rw [List.getElem?_map] at hv
      obtain ⟨lp, hlp, rfl⟩ := Option.map_eq_some_iff.mp hv
      have hps : kd.ps[j]? = some lp.2 := by rw [← g4, List.getElem?_map, hlp]; rfl
      have hj : j < kd.ps.length := (List.getElem?_eq_some_iff.mp hps).1
      refine ⟨lp.1, _, rfl, s18.seqT (g3 lp (List.mem_of_getElem? hlp)), rfl, _, _, rfl, _, _, rfl, rfl, rfl, ?_⟩
      refine ⟨_, rfl, _, rfl, _, rfl, _, rfl, _, _, rfl, _, hD18, ?_, same_own s18 hD2, ?_⟩
      · rw [List.length_map, List.length_append, List.length_map]
        have h2 := List.length_take_le' j kd.ps
        exact szK (by omega)
      · rw [upd_same, List.take_add_one, hps, List.map_append, List.map_append (f := mxI), ← List.append_assoc, List.map_append]
        simp only [List.map_append]
        rfl
    · rintro H18 ⟨s18, hD18⟩
      refine ⟨s18, ?_⟩
      rw [hD18, List.take_add_one, hkd, List.flatMap_append, List.length_map, hll, List.take_length]
      simp [nsOf]
  rintro H16 ⟨s16, hD16⟩
  rw [show (refsK ks).length = ks.length from List.length_map .., List.take_length] at hD16
  have hfl := flat_len z62
  refine ⟨p1, D2, _, _, rfl, rfl, s16 _ _ hp1', hD16, ?_, fun p2 hp2 => ?_⟩
  · rw [List.length_map]
    exact Nat.le_trans (show _ ≤ 1000 by simp only [List.length_cons, List.length_nil]; omega) (by decide)
  have s17 : ∀ o, Same H16 (upd H16 p2 o) := fun o => same_new hp2
  refine ⟨p2, 1 :: ks.flatMap nsOf, rfl, .of upd_same, by simp, fun m hm hmax => ?_⟩
  generalize e17 : upd H16 p2 _ = H17
  have s18 : Same H14 H17 := by rw [← e17]; exact (sp1.trans s16).trans (s17 _)
  clear e17 s17
  have h17x := s18 _ _ h14x
  refine ⟨_, rfl, x, _, dx, _, rfl, h17x, T.cl_Game, T.nF_Game_farthest, Nat.le_of_ble_eq_true rfl, ?_⟩
  have i18 : ExtI H17 (upd H17 x (.ins T.c_Game dx (gmF tk te tg D m))) := ExtI.put h17x
  refine k tk te tg D m _ ((e14.trans (.of s18)).trans .put) (tabs_put h17x (tabs_same s18 t14)) upd_same (i18.sqT (s18.seqT htk14)) (i18.sqT (s18.seqT hte14)) (i18.sqT (s18.seqT htg14)) ⟨kvs, ?_⟩ ⟨?_, ?_, ?_⟩
  · have : upd H17 x (.ins T.c_Game dx (gmF tk te tg D m)) D = some (.dK kvs) := by rw [upd_ne nDx]; exact s18 _ _ hkv14
    exact this
  · exact hmax 1 List.mem_cons_self
  · rcases List.mem_cons.mp hm with e0 | h0
    · exact .inl e0
    · obtain ⟨kd, hkd, hm2⟩ := List.mem_flatMap.mp h0
      obtain ⟨p, hp, rfl⟩ := List.mem_map.mp hm2
      exact .inr ⟨kd, hkd, p, hp, (mx_spec p).1⟩
  · intro kd hkd p hp
    have h0 : mxI p ∈ 1 :: ks.flatMap nsOf := List.mem_cons_of_mem _ (List.mem_flatMap.mpr ⟨kd, hkd, List.mem_map_of_mem hp⟩)
    have := hmax _ h0
    have := mx_spec p
    omega
end
end K6

set_option Elab.async false
set_option linter.all false
set_option maxRecDepth 100000
set_option maxHeartbeats 4000000
namespace K6
open PySem PySem.Spec PyProof.Rows L2 Gs
theorem pX {X : Cx} {E : XK} {W : WX} (tk : Takes X W) (hW : ∀ cls d σ H, E cls d H → W cls d σ H) : Passes (L2.CX X.prog X.w) X E := passes_call tk hW
section
variable {P : Program} {w : World} {K : PySem.W.Frag} {mg : Str → Option Value} {base : Heap}
/-- at g a game with these edges, n its longest leap -/
def GmAt (K : PySem.W.Frag) (CG : Addr) (H : Hp) (g : Addr) (a b c d : Option Int) (n : Int) : Prop := ∃ dx tk te tg tt, H g = some (.ins CG dx (gmF tk te tg tt n)) ∧ SqT K H te [oV a, oV b, oV c, oV d]
theorem GmAt.same {CG : Addr} {H H' : Hp} {g : Addr} {a b c d : Option Int} {n : Int} (h : GmAt K CG H g a b c d n) (s : Same H H') : GmAt K CG H' g a b c d n := by
  obtain ⟨dx, tk, te, tg, tt, h1, h2⟩ := h
  exact ⟨dx, tk, te, tg, tt, s _ _ h1, s.seqT h2⟩
/-- D with this part is let out -/
def XP (D : Addr) (p : Str) (H : Hp) (E : XK) : Prop := ∀ d H', H d = none → Same H H' → H' d = some (.xd [("part", .str p)]) → E (.ref D) (some d) H'
theorem XP.up {D : Addr} {p : Str} {H H1 : Hp} {E : XK} (h : XP D p H E) (s : Same H H1) : XP D p H1 E := fun d H' a b c => h d H' (s.free a) (s.trans b) c
def spNeed (K : PySem.W.Frag) (CG DG : Addr) : Sp := fun vs H Q E => ∃ (v : V) (t : Value), vs = [v] ∧ TyX K H v t ∧
  ((PySem.W.kitOne K t (.ref CG) = some false ∧ XP DG "game" H E) ∨ (PySem.W.kitOne K t (.ref CG) = some true ∧ Q .non H))
theorem O_need_game (T : Tx K mg w) : FnOk P w K mg base (L2.CX P w) 3 T.a_need_game T.d_need_game ["value"] (spNeed K T.c_Game T.c_BadGame) := by
  refine T.F_need_game.okX sc_need_game (fun vs H Q E h => ?_) (fun cdv A outer s H vs Q E hr h => ?_)
  · obtain ⟨v, t, rfl, _⟩ := h; rfl
  obtain ⟨v, t, rfl, ty, h⟩ := h
  refine ⟨_, (pss_one (ps_if (pt_not (pt_val (pe_callB (r := rIsi K) call_isi (by rfl) T.z_isinstance (by decide +kernel) (pa_cons (pv 0) (pa_cons (pe_glob (v := .ref T.c_Game) (by rfl) T.m_Game rfl) pa_nil))))) (pss_one (ps_raise rfl (takes_of rfl rfl rfl rfl) (pmk_oex T.ox_BadGame T.ic_BadGame T.ti_BadGame (O_BadGame___init__ T) (hr.mono (by decide)) T.b_BadGame___init__ .nil pass0 (by rfl) T.m_BadGame (pa_cons pe_str pa_nil)))) pss_nil)), ?_⟩
  rcases h with ⟨hk, kx⟩ | ⟨hk, kg⟩
  · refine ⟨_, rfl, v, .ref T.c_Game, t, .ref T.c_Game, false, rfl, .own _, ty, hk, _, rfl, iteT ?_⟩
    exact ⟨Nat.le_of_ble_eq_true rfl, mk_err fun d H' a b c => kx d H' a b c⟩
  · exact ⟨_, rfl, v, .ref T.c_Game, t, .ref T.c_Game, true, rfl, .own _, ty, hk, _, rfl, iteF kg⟩
def spOn (K : PySem.W.Frag) (CG DG DS : Addr) : Sp := fun vs H Q E => ∃ (v u : V) (t : Value), vs = [v, u] ∧ TyX K H v t ∧
  ((PySem.W.kitOne K t (.ref CG) = some false ∧ XP DG "game" H E) ∨ (PySem.W.kitOne K t (.ref CG) = some true ∧ ∃ (g : Addr) (a b c d : Option Int) (n : Int), v = .ref g ∧ GmAt K CG H g a b c d n ∧
    ((∃ (e : Addr) (du : PyData), DV K e H u du ∧ pairP isInt du = false ∧ XP DS "square" H E) ∨
      ∃ (l : Addr) (x y : Int), u = .ref l ∧ Seq K H l [.int x, .int y] ∧ ∀ H', Same H H' → Q (.bl (inE a b c d x y)) H')))
theorem O_on_field (T : Tx K mg w) : FnOk P w K mg base (L2.CX P w) 4 T.a_on_field T.d_on_field ["game", "square"] (spOn K T.c_Game T.c_BadGame T.c_BadSquare) := by
  refine T.F_on_field.okX sc_on_field (fun vs H Q E h => ?_) (fun cdv A outer s H vs Q E hr h => ?_)
  · obtain ⟨v, u, t, rfl, _⟩ := h; rfl
  obtain ⟨v, u, t, rfl, ty, h⟩ := h
  refine ⟨_, (pss_cons (ps_expr (pe_call (O_need_game T) (hr.mono (by decide)) (by rfl) T.m_need_game T.F_need_game.kp T.b_need_game .nil (pX (takes_of rfl rfl rfl rfl) (fun _ _ _ _ h => h)) (pa_cons (pv 0) pa_nil)))
      (pss_cons (ps_if (pt_not (pt_val (pe_call (O_is_square T) (hr.mono (by decide)) (by rfl) T.m_is_square T.F_is_square.kp T.b_is_square .nil pass0 (pa_cons (pv 1) pa_nil)))) (pss_one (ps_raise rfl (takes_of rfl rfl rfl rfl) (pmk_oex T.ox_BadSquare T.ic_BadSquare T.ti_BadSquare (O_BadSquare___init__ T) (hr.mono (by decide)) T.b_BadSquare___init__ .nil pass0 (by rfl) T.m_BadSquare (pa_cons pe_str pa_nil)))) pss_nil)
      (pss_one (ps_ret (pe_call (O_is_between T) (hr.mono (by decide)) (by rfl) T.m_is_between T.F_is_between.kp T.b_is_between .nil pass0 (pa_cons (pe_fldK (K := K) rfl (pv 0)) (pa_cons (pv 1) pa_nil))))))), ?_⟩
  rcases h with ⟨hk, kx⟩ | ⟨hk, g, a, b, c, d, n, rfl, hg, h⟩
  · exact ⟨_, rfl, v, t, rfl, ty, .inl ⟨hk, kx⟩⟩
  refine ⟨_, rfl, .ref g, t, rfl, ty, .inr ⟨hk, ?_⟩⟩
  rcases h with ⟨e, du, hu, hp, kx⟩ | ⟨l, x, y, rfl, hl, kg⟩
  · refine ⟨_, rfl, e, u, du, rfl, hu, fun H1 s1 => ⟨_, rfl, ?_⟩⟩
    rw [hp]
    refine iteT ?_
    exact ⟨Nat.le_of_ble_eq_true rfl, mk_err fun d H' a b c => (kx.up s1) d H' a b c⟩
  · obtain ⟨dd, hd, hq⟩ : ∃ dd, DV K (l + 1) H (.ref l) dd ∧ pairP isInt dd = true := by
      rcases hl with h | h
      · exact ⟨_, .lst (ne_succ l) h (.cons (.int x) (.cons (.int y) .nil)), rfl⟩
      · exact ⟨_, .tup (ne_succ l) h (.cons (.int x) (.cons (.int y) .nil)), rfl⟩
    refine ⟨_, rfl, l + 1, .ref l, dd, rfl, hd, fun H1 s1 => ⟨_, rfl, ?_⟩⟩
    rw [hq]
    refine iteF ?_
    obtain ⟨dx, tk, te, tg, tt, h1, h2⟩ := hg.same s1
    refine ⟨_, rfl, g, _, dx, _, _, rfl, h1, T.cl_Game, T.nF_Game_edges, rfl, _, rfl, te, l, a, b, c, d, x, y, rfl, h2, hl.imp s1.seq s1.seqT, ?_⟩
    exact kg _ s1
def spLongest (K : PySem.W.Frag) (CG DG : Addr) : Sp := fun vs H Q E => ∃ (v : V) (t : Value), vs = [v] ∧ TyX K H v t ∧
  ((PySem.W.kitOne K t (.ref CG) = some false ∧ XP DG "game" H E) ∨ (PySem.W.kitOne K t (.ref CG) = some true ∧ ∃ (g : Addr) (a b c d : Option Int) (n : Int), v = .ref g ∧ GmAt K CG H g a b c d n ∧ Q (.int n) H))
theorem O_longest (T : Tx K mg w) : FnOk P w K mg base (L2.CX P w) 4 T.a_longest T.d_longest ["game"] (spLongest K T.c_Game T.c_BadGame) := by
  refine T.F_longest.okX sc_longest (fun vs H Q E h => ?_) (fun cdv A outer s H vs Q E hr h => ?_)
  · obtain ⟨v, t, rfl, _⟩ := h; rfl
  obtain ⟨v, t, rfl, ty, h⟩ := h
  refine ⟨_, (pss_cons (ps_expr (pe_call (O_need_game T) (hr.mono (by decide)) (by rfl) T.m_need_game T.F_need_game.kp T.b_need_game .nil (pX (takes_of rfl rfl rfl rfl) (fun _ _ _ _ h => h)) (pa_cons (pv 0) pa_nil)))
      (pss_one (ps_ret (pe_fldK (K := K) rfl (pv 0))))), ?_⟩
  rcases h with ⟨hk, kx⟩ | ⟨hk, g, a, b, c, d, n, rfl, hg, kg⟩
  · exact ⟨_, rfl, v, t, rfl, ty, .inl ⟨hk, kx⟩⟩
  refine ⟨_, rfl, .ref g, t, rfl, ty, .inr ⟨hk, ?_⟩⟩
  obtain ⟨dx, tk, te, tg, tt, h1, h2⟩ := hg
  exact ⟨_, rfl, g, _, dx, _, _, rfl, h1, T.cl_Game, T.nF_Game_farthest, rfl, kg⟩
def spBound (K : PySem.W.Frag) (CG DG DN : Addr) : Sp := fun vs H Q E => ∃ (v u : V) (t : Value), vs = [v, u] ∧ TyX K H v t ∧
  ((PySem.W.kitOne K t (.ref CG) = some false ∧ XP DG "game" H E) ∨ (PySem.W.kitOne K t (.ref CG) = some true ∧ ∃ (g : Addr) (a b c d : Option Int) (n : Int), v = .ref g ∧ GmAt K CG H g a b c d n ∧
    ((∃ (e : Addr) (du : PyData), DV K e H u du ∧ inB (some 0) (some 12) du = false ∧ XP DN "m" H E) ∨
      ∃ (k : Nat), u = .int k ∧ k ≤ 12 ∧ (n + 1).natAbs < 2 ^ 20 ∧ ∀ H', Same H H' → Q (.int ((n + 1) * 2 ^ k)) H')))
theorem O_bound (T : Tx K mg w) : FnOk P w K mg base (L2.CX P w) 5 T.a_bound T.d_bound ["game", "m"] (spBound K T.c_Game T.c_BadGame T.c_BadNumber) := by
  refine T.F_bound.okX sc_bound (fun vs H Q E h => ?_) (fun cdv A outer s H vs Q E hr h => ?_)
  · obtain ⟨v, u, t, rfl, _⟩ := h; rfl
  obtain ⟨v, u, t, rfl, ty, h⟩ := h
  obtain ⟨tD, hMD⟩ := T.g_MD
  refine ⟨_, (pss_cons (ps_expr (pe_call (O_need_game T) (hr.mono (by decide)) (by rfl) T.m_need_game T.F_need_game.kp T.b_need_game .nil (pX (takes_of rfl rfl rfl rfl) (fun _ _ _ _ h => h)) (pa_cons (pv 0) pa_nil)))
      (pss_cons (ps_if (pt_not (pt_val (pe_call (O_is_within T) (hr.mono (by decide)) (by rfl) T.m_is_within T.F_is_within.kp T.b_is_within .nil pass0 (pa_cons (pv 1) (pa_cons pe_int (pa_cons (pe_glob (v := .int 12) (by rfl) hMD ⟨_, rfl⟩) pa_nil)))))) (pss_one (ps_raise rfl (takes_of rfl rfl rfl rfl) (pmk_oex T.ox_BadNumber T.ic_BadNumber T.ti_BadNumber (O_BadNumber___init__ T) (hr.mono (by decide)) T.b_BadNumber___init__ .nil pass0 (by rfl) T.m_BadNumber (pa_cons pe_str pa_nil)))) pss_nil)
      (pss_one (ps_ret (pe_op op_shlN (pe_op op_add (pe_fldK (K := K) rfl (pv 0)) pe_int) (pv 1)))))), ?_⟩
  rcases h with ⟨hk, kx⟩ | ⟨hk, g, a, b, c, d, n, rfl, hg, h⟩
  · exact ⟨_, rfl, v, t, rfl, ty, .inl ⟨hk, kx⟩⟩
  refine ⟨_, rfl, .ref g, t, rfl, ty, .inr ⟨hk, ?_⟩⟩
  rcases h with ⟨e, du, hu, hp, kx⟩ | ⟨k, rfl, hk12, hn, kg⟩
  · refine ⟨_, rfl, e, u, du, some 0, some 12, rfl, hu, fun H1 s1 => ⟨_, rfl, ?_⟩⟩
    rw [hp]
    refine iteT ?_
    exact ⟨Nat.le_of_ble_eq_true rfl, mk_err fun d H' a b c => (kx.up s1) d H' a b c⟩
  · refine ⟨_, rfl, g + 1, .int k, .int k, some 0, some 12, rfl, .int _, fun H1 s1 => ⟨_, rfl, ?_⟩⟩
    have e1 : inB (some 0) (some 12) (.int (k : Int)) = true := by
      show (decide ((0 : Int) ≤ k) && decide ((k : Int) ≤ 12)) = true
      rw [decide_eq_true (by omega), decide_eq_true (by omega)]; rfl
    rw [e1]
    refine iteF ?_
    obtain ⟨dx, tk, te, tg, tt, h1, h2⟩ := hg.same s1
    refine ⟨_, rfl, g, _, dx, _, _, rfl, h1, T.cl_Game, T.nF_Game_farthest, rfl, _, _, rfl, rfl, _, rfl, n + 1, k, rfl, rfl, shl_ok hn (by omega), ?_⟩
    exact kg _ s1
end
end K6

set_option Elab.async false
set_option linter.all false
set_option maxRecDepth 100000
set_option maxHeartbeats 4000000
/-! Layer G10: list(D), D a written dict. -/
namespace Gs
open PySem PySem.Spec PyProof.Rows L2
theorem pairs_w {P : Program} {w : World} : ∀ (ks : List Str) (es : List DictEntry), es.length = ks.length → (∀ (i : Nat) k, ks[i]? = some k → ∃ en t, es[i]? = some en ∧ en.key = .str k t) →
    Pairs (strKind P w) es (List.zipWith (fun k e => (k, e.val)) ks es) ∧ (List.zipWith (fun (k : Str) (e : DictEntry) => (k, e.val)) ks es).map (·.1) = ks
  | [], [], _, _ => ⟨.nil, rfl⟩
  | [], _ :: _, h, _ => by simp at h
  | _ :: _, [], h, _ => by simp at h
  | k :: ks, e :: es, h, a => by
    obtain ⟨en, t, h1, h2⟩ := a 0 k rfl
    obtain rfl : e = en := Option.some.inj h1
    obtain ⟨r1, r2⟩ := pairs_w ks es (by simpa using h) fun i z hz => a (i + 1) z hz
    exact ⟨.cons (by rw [h2]; exact strKind_is P w k t) rfl r1, by simp only [List.zipWith_cons_cons, List.map_cons, r2]⟩
theorem isStr_is {k : Str} {v : Value} (h : Value.isStrOf k v = true) : ∃ t, v = .str k t := by
  rw [← PySem.W.isStr_of] at h
  cases v with
  | str x t =>
    rw [isStr_str] at h
    exact ⟨t, by rw [of_decide_eq_true h]⟩
  | _ => cases h
theorem vals_str : ∀ {us : List Value} {ks : List Str}, us.length = ks.length → (∀ (j : Nat) v, us[j]? = some v → ∃ k t, ks[j]? = some k ∧ v = Value.str k t) → Vals (ks.map V.str) us
  | [], [], _, _ => .nil
  | [], _ :: _, h, _ => by simp at h
  | _ :: _, [], h, _ => by simp at h
  | u :: us, k :: ks, h, a => by
    obtain ⟨k', t, e1, e2⟩ := a 0 u rfl
    obtain rfl : k = k' := Option.some.inj e1
    exact .cons ⟨t, e2⟩ (vals_str (by simpa using h) fun j v e => a (j + 1) v e)
def rListW (K : PySem.W.Frag) (w : World) : List V → Hp → VK → Prop := fun xs H Q => ∃ (d : Addr) (kvs : List (Str × V)), xs = [.ref d] ∧ WD K w d kvs ∧ (kvs.map (·.1)).Nodup ∧ kvs.length ≤ 1000 ∧
  ∀ p, H p = none → Q (.ref p) (upd H p (.lst ((kvs.map (·.1)).map V.str)))
theorem call_listW {X : Cx} (calm : X.calm = true) : CallR X (.type "list") (rListW X.K X.w) := by
  intro pins s σ H xs us Q I r h
  obtain ⟨d, kvs, rfl, ⟨es, n, D, hz, hk⟩, nd, few, q⟩ := h
  rw [Vals.ref1 r]
  have hk' : ∀ (i : Nat) k, (kvs.map (·.1))[i]? = some k → ∃ en t, es.toList[i]? = some en ∧ en.key = .str k t := by
    intro i k e
    rw [List.getElem?_map] at e
    cases z : kvs[i]? with
    | none => rw [z] at e; cases e
    | some q =>
      rw [z] at e
      cases e
      obtain ⟨en, t, h1, h2, _⟩ := hk i q.1 q.2 z
      exact ⟨en, t, by rw [Array.getElem?_toList]; exact h1, h2⟩
  obtain ⟨p1, p2⟩ := pairs_w (P := X.prog) (w := X.w) (kvs.map (·.1)) es.toList (by rw [Array.length_toList, hz, List.length_map]) hk'
  generalize List.zipWith (fun (k : Str) (e : DictEntry) => (k, e.val)) (kvs.map (·.1)) es.toList = vs at p1 p2
  obtain ⟨o, es', n', ho, hx, hd, ko, _⟩ := PySem.W.mapOf_K (prog := X.prog) (w := X.w) I.kIn D.at_ D.lit
  have hat : s.heap.DictAt (strKind X.prog X.w) d vs n := by
    have e := I.kIn _ _ D.at_
    rw [ho] at e
    obtain rfl := Option.some.inj e
    obtain ⟨e1, e2⟩ := Data.dict.inj hd
    subst e1 e2
    exact ⟨_, _, ho, hx, rfl, ko, p1, by rw [p2]; exact nd⟩
  have hl : vs.length = kvs.length := by
    have := congrArg List.length p2
    simpa using this
  refine PySem.W.kdl_call (PySem.W.kdl_dict (knd := strKind X.prog X.w) (kvs := vs) (ep := n) D.low) (I.ok.hd calm) hat (by rw [hl]; exact szm few) fun h' tk acc c' keep hD hacc => ?_
  have hv : Vals ((kvs.map (·.1)).map V.str) acc.toList := by
    have len : acc.toList.length = (kvs.map (·.1)).length := by rw [Array.length_toList, hacc.1, hl, List.length_map]
    have at_ : ∀ (j : Nat) v, acc.toList[j]? = some v → ∃ k t, (kvs.map (·.1))[j]? = some k ∧ v = .str k t := by
      intro j v e
      obtain ⟨k, x, h1, h2⟩ := hacc.2 j v (by rw [← Array.getElem?_toList]; exact e)
      refine ⟨k, ?_⟩
      have hk1 : (kvs.map (·.1))[j]? = some k := by rw [← p2, List.getElem?_map, h1]; rfl
      obtain ⟨en, t, h3, h4⟩ := hk' j k hk1
      have h5 : ∃ t, v = .str k t := isStr_is h2
      obtain ⟨t, e⟩ := h5
      exact ⟨t, hk1, e⟩
    exact vals_str len at_
  refine ⟨.ref s.heap.objs.size, upd H s.heap.objs.size (.lst ((kvs.map (·.1)).map V.str)), I.laid (t' := tk) keep (Nat.le_refl _) (show ObjOk X.prog X.w _ _ _ (.lst ((kvs.map (·.1)).map V.str)) from
    ⟨by rw [List.length_map, List.length_map]; exact szm few, acc.toList, c', hv, by rw [Array.toArray_toList]; exact hD⟩), rfl, q _ (I.hok.fresh (Nat.le_refl _))⟩
end Gs

set_option Elab.async false
set_option linter.all false
set_option maxRecDepth 100000
set_option maxHeartbeats 4000000
/-! Layer G11: xs.extend(t), t a tuple. -/
namespace Gs
open PySem PySem.Spec PyProof.Rows L2
open AutoSeq1 in
theorem ext_tup (l : Addr) (its : Array Value) (n : Nat) (b : Addr) (jts : Array Value) (m : Nat) (dd : Option Addr) (sl : Array (Option Value))
    (door : ¬(!its.isEmpty && Builtin.List.listTooLong (its.size + jts.size)) = true) (h1 : its.size ≤ sizeLine) (h2 : its.size + jts.size ≤ sizeLine + 1) :
    Meets (Builtin.«list.extend» ⟨[.ref l, .ref b], []⟩) (fun _ R s => s.heap.get? l = some { cls := .type "list", dict := none, data := .seq its n, slots := #[] } ∧
      s.heap.get? b = some { cls := .type "tuple", dict := dd, data := .seq jts m, slots := sl } ∧ R (.ok (.ret Value.none)) { s with heap := s.heap.update l (Obj.mapSeq fun x => x ++ jts), toks := s.toks }) :=
  .of_wp fun prog w A R s h => by
    obtain ⟨hp, g, d, tk, os⟩ := s
    obtain ⟨hl, hb, h⟩ := h
    have f1 := idx_int
    have f2 := AutoSeq1.sub_tuple_tuple
    have f3 := AutoSeq1.sub_list_list
    have f4 := AutoSeq1.sub_tuple_list
    have f5 := AutoSeq1.sub_list_tuple
    have all : (its ++ jts).size ≤ sizeLine + 1 := by rw [Array.size_append]; exact h2
    wp_walk using (wpAny_updateSeq hl rfl (hz := h1) (_hz' := all)), wpAny_loadPart' hl, wpAny_loadPart' hb
    exact ⟨_, rfl, h⟩
section
variable {X : Cx}
def rExtT (K : PySem.W.Frag) : V → List V → Hp → VK → Prop := fun x vs H Q => ∃ (l b : Addr) (xs zs : List V), x = .ref l ∧ vs = [.ref b] ∧ H l = some (.lst xs) ∧ SqT K H b zs ∧ xs.length + zs.length ≤ 1000000 ∧ Q .non (upd H l (.lst (xs ++ zs)))
theorem mt_extT : MtM X "list.extend" (rExtT X.K) := by
  intro pins s σ H x vs v us Q I rx rv h
  obtain ⟨l, b, xs, zs, rfl, rfl, hH, hB, hz, q⟩ := h
  cases rx
  obtain ⟨u, rfl, ru⟩ := rv.one
  cases ru
  obtain ⟨z, its, n, r, hl, e⟩ := I.lstM hH
  obtain ⟨jts, r2, ⟨⟨oc, od, odt, os⟩, e2, c2, m, d2⟩, z2⟩ := I.tuple hB
  dsimp only at c2 d2
  subst c2 d2
  have hl2 : zs.length = jts.length := r2.length
  have big : (1000000 : Nat) ≤ sizeLine := by decide
  have hsz : its.toArray.size + jts.toArray.size ≤ sizeLine := by rw [List.size_toArray, List.size_toArray]; omega
  have door : ¬(!its.toArray.isEmpty && Builtin.List.listTooLong (its.toArray.size + jts.toArray.size)) = true := by
    rw [notLongL hsz, Bool.and_false]
    decide
  refine call_meets F.slot_list_extend ⟨_, e, rfl⟩ F.entry_list_extend (F.args_list_extend_2 _ _) (ext_tup l its.toArray n b jts.toArray m od os door (by omega) (by omega)) ⟨e, e2, ?_⟩
  refine ⟨.non, _, I.lset (its' := its ++ jts) hH e (by simp) (r.append r2) ?_, rfl, q⟩
  rw [List.length_append]
  omega
end
end Gs

set_option Elab.async false
set_option linter.all false
set_option maxRecDepth 100000
set_option maxHeartbeats 4000000
namespace K6
open PySem PySem.Spec PyProof.Rows L2 Gs
section
variable {P : Program} {w : World} {K : PySem.W.Frag} {mg : Str → Option Value} {base : Heap}
def spCrate (K : PySem.W.Frag) : Sp := fun vs H Q _ => ∃ (a : Addr) (ns : List Int), vs = [.ref a] ∧ SqL K H a (ns.map V.int) ∧ ns.length ≤ 63 ∧
  ∀ c l H', H c = none → H l = none → Ext c H H' → Bag c l 0 H' → Q (.ref c) H'
theorem cut60 (ns : List Int) : cutV (ns.map V.int) none (some 60) = (ns.take 60).map V.int := by
  unfold cutV
  rw [HT.sIx_none, show (some (60 : Int)) = some ((60 : Nat) : Int) from rfl, HT.sIx_nat, List.drop_zero, Nat.sub_zero, List.map_take, ← List.take_take, List.take_length]
theorem G__law_flask (T : Tx K mg w) : FnG P w K mg base CX0 1 T.a__law_flask T.d__law_flask ["script"] (spCrate K) := by
  refine fun_okG T.F__law_flask sc__law_flask (fun vs H Q E h => ?_) (fun cdv A outer s H vs Q E hr hg h => ?_)
  · obtain ⟨a, ns, rfl, _⟩ := h; rfl
  · obtain ⟨a, ns, rfl, hS, hl, k⟩ := h
    refine ⟨_, (pss_one (ps_ret (pe_lst (pa_cons (pe_lc (own := [("cell", 1)]) (g := (gName 1)) rfl sc__law_flask.nd (pi_list (pe_slice sl_list (pv 0) po_none (po_some pe_int))) (blkOk_by (N := n__law_flask) (sc := defScope s__law_flask) (by decide +kernel)) (fun _ _ _ _ _ => (pg_name (i := 1) sc__law_flask.nd rfl (Or.inl rfl))) (fun _ _ _ _ _ => pts_nil) (fun _ _ _ _ _ => (pe_callTy call_int1 (by rfl) T.z_int (by decide +kernel) (pa_cons (pv 1) pa_nil)))) (pa_cons pe_int (pa_cons pe_int pa_nil)))))), ?_⟩
    refine ⟨_, rfl, _, rfl, a, _, rfl, hS, fun p hp => ?_⟩
    rw [cut60]
    have h60 : (ns.take 60).length ≤ 60 := List.length_take_le ..
    revert h60
    generalize ns.take 60 = ks
    intro h60
    refine ⟨p, rfl, ⟨_, .of upd_same⟩, fun D hD => ?_⟩
    have np : p ≠ D := fun e => by rw [← e, upd_same] at hD; cases hD
    have hD0 : H D = none := by rwa [upd_ne np.symm] at hD
    refine lc_list (K := K) (a := p) (xs := ks.map V.int) (fun i H' => H' p = some (.lst (ks.map V.int)) ∧ H' D = some (.lst ((ks.take i).map V.int)) ∧ ∀ b o, H b = some o → H' b = some o) ?_ ?_ ?_ ?_
    · refine ⟨by rw [upd_ne np, upd_same], upd_same, fun b o e => ?_⟩
      rw [upd_ne (ne_of_none e hD0), upd_ne (ne_of_none e hp)]; exact e
    · intro i H' _ h; exact .of h.1
    · rintro i x H' hx ⟨h1, h2, h3⟩
      obtain ⟨v, hv, rfl⟩ : ∃ v, ks[i]? = some v ∧ V.int v = x := by
        rw [List.getElem?_map] at hx
        cases e : ks[i]? with
        | none => rw [e] at hx; cases hx
        | some v => rw [e] at hx; exact ⟨v, rfl, Option.some.inj hx⟩
      refine ⟨rfl, ?_⟩
      refine ⟨_, rfl, .inl ⟨v, rfl, _, h2, ?_, ?_, ?_, ?_⟩⟩
      · rw [List.length_map]; exact szs (Nat.lt_of_le_of_lt (List.length_take_le' ..) (by omega))
      · rw [upd_ne np]; exact h1
      · rw [upd_same, List.take_add_one, hv, List.map_append]; rfl
      · intro b o e; rw [upd_ne (ne_of_none e hD0)]; exact h3 _ _ e
    · rintro H' ⟨h1, h2, h3⟩
      rw [List.length_map, List.take_length] at h2
      refine ⟨szl rfl, fun c hc => ?_⟩
      have nc : D ≠ c := ne_of_none h2 hc
      have hc0 : H c = none := by
        cases e : H c with
        | none => rfl
        | some o => rw [h3 _ _ e] at hc; cases hc
      refine k c D _ hc0 hD0 (fun b o _ e => ?_) ⟨ks, 0, 0, upd_same, by rw [upd_ne nc]; exact h2, nc, h60, by decide, by decide, by decide⟩
      rw [upd_ne (ne_of_none e hc0)]; exact h3 _ _ e
def spLift : Sp := fun vs H Q _ => ∃ (c l : Addr) (n : Nat) (m : Int), vs = [.ref c, .int m] ∧ Bag c l n H ∧ n ≤ 1000000 ∧ 0 < m ∧ m < 1073741824 ∧
  ∀ v H', 0 ≤ v → v < m → Bag c l (n + 1) H' → Ext c H H' → Q (.int v) H'
theorem O__law_pour (T : Tx K mg w) : FnOk P w K mg base CX0 1 T.a__law_pour T.d__law_pour ["flask", "many"] spLift := by
  refine T.F__law_pour.ok sc__law_pour (fun vs H Q E h => ?_) (fun cdv A outer s H vs Q E hr h => ?_)
  · obtain ⟨c, l, n, m, rfl, _⟩ := h; rfl
  · obtain ⟨c, l, n, m, rfl, ⟨ns, pt, rest, hc, hl, nlc, hn, h0, h1, h2⟩, hN, hm0, hm1, k⟩ := h
    refine ⟨_, (pss_cons (ps_if (pt_cmpR (op_eqD hr.units) (pe_ix ix_list (pv 0) pe_int (fun _ _ => rfl)) (pe_lst pa_nil) (nomark _)) (pss_one (ps_ret pe_int)) pss_nil)
      (pss_cons (ps_if (pt_cmpR op_gt (pe_ix ix_list (pv 0) pe_int (fun _ _ => rfl)) pe_int (nomark _)) (pss_cons (ps_set (i := 2) sc__law_pour.nd rfl (Or.inl rfl) (pe_callTy call_int1 (by rfl) T.z_int (by decide +kernel) (pa_cons (pe_ix ix_list (pv 0) pe_int (fun _ _ => rfl)) pa_nil)))
      (pss_cons (ps_asg (pe_op op_fdiv (pv 2) (pv 1)) (pg_sub (pv 0) pe_int set_list))
      (pss_one (ps_ret (pe_op op_mod (pe_callTy call_int1 (by rfl) T.z_int (by decide +kernel) (pa_cons (pv 2) pa_nil)) (pv 1)))))) pss_nil)
      (pss_cons (ps_set (i := 3) sc__law_pour.nd rfl (Or.inl rfl) (pe_ix ix_list (pv 0) pe_int (fun _ _ => rfl)))
      (pss_cons (ps_asg (pe_op op_add (pv 3) pe_int) (pg_sub (pv 0) pe_int set_list))
      (pss_cons (ps_set (i := 4) sc__law_pour.nd rfl (Or.inl rfl) (pe_ix ix_list (pe_ix ix_list (pv 0) pe_int (fun _ _ => rfl)) (pe_op op_mod (pe_callTy call_int1 (by rfl) T.z_int (by decide +kernel) (pa_cons (pv 3) pa_nil)) (pe_callB call_len_seq (by rfl) T.z_len (by decide +kernel) (pa_cons (pe_ix ix_list (pv 0) pe_int (fun _ _ => rfl)) pa_nil))) (fun _ _ => rfl)))
      (pss_cons (ps_if (PW.pt (pw_and (pt_cmpR op_lt (pv 3) (pe_callB call_len_seq (by rfl) T.z_len (by decide +kernel) (pa_cons (pe_ix ix_list (pv 0) pe_int (fun _ _ => rfl)) pa_nil)) (nomark _)) (pw_and1 (pt_cmpR op_ge (pe_callB call_abs (by rfl) T.z_abs (by decide +kernel) (pa_cons (pv 4) pa_nil)) (pe_op op_pow pe_int pe_int) (nomark _))))) (pss_cons (ps_set (i := 2) sc__law_pour.nd rfl (Or.inl rfl) (pe_op op_add (pe_op op_mul pe_int (pe_op op_sub (pe_callB call_abs (by rfl) T.z_abs (by decide +kernel) (pa_cons (pe_callTy call_int1 (by rfl) T.z_int (by decide +kernel) (pa_cons (pv 4) pa_nil)) pa_nil)) (pe_op op_pow pe_int pe_int))) (pe_callTy call_int1 (by rfl) T.z_int (by decide +kernel) (pa_cons (pe_cmpR op_lt (pv 4) pe_int (nomark _)) pa_nil))))
      (pss_cons (ps_asg (pe_op op_fdiv (pv 2) (pv 1)) (pg_sub (pv 0) pe_int set_list))
      (pss_one (ps_ret (pe_op op_mod (pe_callTy call_int1 (by rfl) T.z_int (by decide +kernel) (pa_cons (pv 2) pa_nil)) (pv 1)))))) pss_nil)
      (pss_cons (ps_set (i := 5) sc__law_pour.nd rfl (Or.inl rfl) (pe_op op_mod (pe_callTy call_int1 (by rfl) T.z_int (by decide +kernel) (pa_cons (pe_op op_pow (pe_op op_add (pe_op op_add (pe_op op_mod (pe_callTy call_int1 (by rfl) T.z_int (by decide +kernel) (pa_cons (pv 4) pa_nil)) pe_int) (pe_op op_mul pe_int (pv 3))) pe_int) pe_int) pa_nil)) pe_int))
      (pss_cons (ps_set (i := 5) sc__law_pour.nd rfl (Or.inl rfl) (pe_op op_mod (pe_callTy call_int1 (by rfl) T.z_int (by decide +kernel) (pa_cons (pe_op op_pow (pe_op op_add (pe_op op_add (pe_op op_mul (pv 5) (pe_op op_add (pe_op op_mul pe_int (pv 3)) pe_int)) (pe_op op_mul (pe_op op_mul pe_int (pv 3)) (pv 3))) pe_int) pe_int) pa_nil)) pe_int))
      (pss_one (ps_ret (pe_op op_mod (pe_callTy call_int1 (by rfl) T.z_int (by decide +kernel) (pa_cons (pe_op op_fdiv (pv 5) pe_int) pa_nil)) (pv 1)))))))))))), ?_⟩
    have hb : Bag c l n H := ⟨ns, pt, rest, hc, hl, nlc, hn, h0, h1, h2⟩
    -- the bag's list, is it empty
    refine ⟨_, rfl, c, _, 0, _, rfl, rfl, .of hc, rfl, szl rfl, fun e he => ?_⟩
    have nle : l ≠ e := ne_of_none hl he
    have nce : c ≠ e := ne_of_none hc he
    have hc1 : upd H e (.lst []) c = some (.lst [.ref l, .int pt, .int rest]) := by rw [upd_ne nce]; exact hc
    have hl1 : upd H e (.lst []) l = some (.lst (ns.map V.int)) := by rw [upd_ne nle]; exact hl
    have x1 : Ext c H (upd H e (.lst [])) := Ext.new he
    refine ⟨.list (ns.map .int), .list [], .lst (.of hl1) (dp_ints ns), .lst (.of upd_same) .nil, shaped_ints ns, by decide, _, rfl, ?_⟩
    refine ite2 (fun e0 => ?_) (fun e0 => ?_)
    · exact k 0 _ (by decide) hm0 (hb.mono (Nat.le_succ n) |>.new he) x1
    have hne : ns ≠ [] := fun z => by
      apply e0; rw [eqv_nil, z]; rfl
    generalize upd H e (.lst []) = H1 at hc1 hl1 x1
    -- what is left of a great number
    refine ⟨_, rfl, c, _, 2, _, rfl, rfl, .of hc1, rfl, _, _, rfl, rfl, _, rfl, ?_⟩
    refine ite2 (fun e2 => ?_) (fun e2 => ?_)
    · refine ⟨_, rfl, c, _, 2, _, rfl, rfl, .of hc1, rfl, .inl ⟨_, rfl, ?_⟩⟩
      refine ⟨_, rfl, _, rfl, _, _, rfl, rfl, ⟨hm0, hm1⟩, _, rfl, c, _, 2, 2, rfl, rfl, hc1, rfl, ?_⟩
      refine ⟨_, rfl, .inl ⟨_, rfl, _, rfl, _, _, rfl, rfl, hm0, ?_⟩⟩
      exact k (rest % m) _ (Int.emod_nonneg _ (by omega)) (Int.emod_lt_of_pos _ hm0) ⟨ns, pt, rest / m, upd_same, by rw [upd_ne nlc]; exact hl1, nlc, hn, h0, by omega, Int.ediv_nonneg h2 (by omega)⟩ (x1.trans Ext.bag)
    -- the next cell
    refine ⟨_, rfl, c, _, 1, _, rfl, rfl, .of hc1, rfl, ?_⟩
    refine ⟨_, rfl, _, _, rfl, rfl, _, rfl, c, _, 1, 1, rfl, rfl, hc1, rfl, ?_⟩
    refine gcut (fun H2 => H2 c = some (.lst [.ref l, .int (pt + 1), .int rest]) ∧ H2 l = some (.lst (ns.map V.int)) ∧ Ext c H H2) ⟨upd_same, by rw [upd_ne nlc]; exact hl1, x1.trans Ext.bag⟩ ?_
    rintro H2 ⟨hc2, hl2, x2⟩
    have x3 : ∀ r : Int, Ext c H (upd H2 c (.lst [.ref l, .int (pt + 1), .int r])) := fun r => x2.trans Ext.bag
    have hpt : pt ≤ 1000000 := by omega
    obtain ⟨v, hv⟩ := at_mod (pt := pt) hne h0
    have hlen : 0 < ((ns.map V.int).length : Int) := by
      have := List.length_pos_iff.mpr hne
      rw [List.length_map]; omega
    refine ⟨_, rfl, c, _, 0, _, rfl, rfl, .of hc2, rfl, _, rfl, .inl ⟨_, rfl, _, rfl, c, _, 0, _, rfl, rfl, .of hc2, rfl, l, _, rfl, .inl (.of hl2), _, _, rfl, rfl, hlen, l, _, _, .int v, rfl, rfl, .of hl2, hv, ?_⟩⟩
    -- at < len(bag[0]) and abs(cell) >= 10 ** 18
    refine ⟨_, rfl, _, rfl, c, _, 0, _, rfl, rfl, .of hc2, rfl, l, _, rfl, .inl (.of hl2), _, _, rfl, rfl, _, rfl, ?_⟩
    have fin : ∀ r : Int, 0 ≤ r → Bag c l (n + 1) (upd H2 c (.lst [.ref l, .int (pt + 1), .int r])) := fun r hr0 =>
      ⟨ns, pt + 1, r, upd_same, by rw [upd_ne nlc]; exact hl2, nlc, hn, by omega, by omega, hr0⟩
    have fin0 : Bag c l (n + 1) H2 := ⟨ns, pt + 1, rest, hc2, hl2, nlc, hn, by omega, by omega, h2⟩
    refine ite2 (fun e3 => ?_) (fun e3 => ?_)
    · refine ⟨_, rfl, _, rfl, _, _, rfl, rfl, ⟨by decide, by decide, by decide⟩, _, _, rfl, rfl, _, rfl, ?_⟩
      refine ite2 (fun e4 => ?_) (fun e4 => ?_)
      · -- a great number: what it tells is handed out bit by bit
        refine ⟨_, rfl, .inl ⟨_, rfl, _, rfl, _, _, rfl, rfl, ⟨by decide, by decide, by decide⟩, _, _, rfl, rfl, _, _, rfl, rfl, .inl ⟨by decide, by decide⟩, _, rfl, _, _, rfl, rfl, .inr ⟨_, rfl, _, _, rfl, rfl, ?_⟩⟩⟩
        have hbig : (0 : Int) ≤ 2 * ((if v < 0 then -v else v) - 10 ^ (18 : Int).toNat) + (if decide (v < 0) = true then 1 else 0) := by
          have := of_decide_eq_true e4
          split <;> omega
        refine ⟨_, rfl, _, rfl, _, _, rfl, rfl, ⟨hm0, hm1⟩, _, rfl, c, _, 2, 2, rfl, rfl, hc2, rfl, ?_⟩
        refine ⟨_, rfl, .inl ⟨_, rfl, _, rfl, _, _, rfl, rfl, hm0, ?_⟩⟩
        exact k _ _ (Int.emod_nonneg _ (by omega)) (Int.emod_lt_of_pos _ hm0) (fin _ (Int.ediv_nonneg hbig (Int.le_of_lt hm0))) (x3 _)
      · refine ⟨_, rfl, .inl ⟨_, rfl, _, _, rfl, rfl, pos_lit (by decide), _, rfl, _, _, rfl, rfl, .inl ⟨by decide, by decide⟩, _, _, rfl, rfl, _, _, rfl, rfl, _, _, rfl, rfl, ⟨by decide, by decide, by omega⟩, .inl ⟨_, rfl, _, _, rfl, rfl, pos_lit (by decide), ?_⟩⟩⟩
        refine ⟨_, rfl, _, rfl, _, _, rfl, rfl, .inl ⟨by decide, by decide⟩, _, _, rfl, rfl, _, _, rfl, rfl, .inl (emod_w (by decide) (by decide)), _, rfl, _, _, rfl, rfl, .inl ⟨by decide, by decide⟩, _, rfl, _, _, rfl, rfl, mul_pt h0 hpt (by decide) (by decide), _, _, rfl, rfl, _, _, rfl, rfl, _, _, rfl, rfl, ⟨by decide, by decide, mix_bound (emod_b (by decide) (by decide)).1 (emod_b (by decide) (by decide)).2 h0 hpt (by decide) (by decide) (by decide) (by decide) (by decide) (by decide)⟩, .inl ⟨_, rfl, _, _, rfl, rfl, pos_lit (by decide), ?_⟩⟩
        refine ⟨_, rfl, _, _, rfl, rfl, ⟨by decide, by decide⟩, .inl ⟨_, rfl, _, rfl, _, _, rfl, rfl, hm0, ?_⟩⟩
        exact k _ H2 (Int.emod_nonneg _ (by omega)) (Int.emod_lt_of_pos _ hm0) fin0 x2
    · refine ⟨_, rfl, .inl ⟨_, rfl, _, _, rfl, rfl, pos_lit (by decide), _, rfl, _, _, rfl, rfl, .inl ⟨by decide, by decide⟩, _, _, rfl, rfl, _, _, rfl, rfl, _, _, rfl, rfl, ⟨by decide, by decide, by omega⟩, .inl ⟨_, rfl, _, _, rfl, rfl, pos_lit (by decide), ?_⟩⟩⟩
      refine ⟨_, rfl, _, rfl, _, _, rfl, rfl, .inl ⟨by decide, by decide⟩, _, _, rfl, rfl, _, _, rfl, rfl, .inl (emod_w (by decide) (by decide)), _, rfl, _, _, rfl, rfl, .inl ⟨by decide, by decide⟩, _, rfl, _, _, rfl, rfl, mul_pt h0 hpt (by decide) (by decide), _, _, rfl, rfl, _, _, rfl, rfl, _, _, rfl, rfl, ⟨by decide, by decide, mix_bound (emod_b (by decide) (by decide)).1 (emod_b (by decide) (by decide)).2 h0 hpt (by decide) (by decide) (by decide) (by decide) (by decide) (by decide)⟩, .inl ⟨_, rfl, _, _, rfl, rfl, pos_lit (by decide), ?_⟩⟩
      refine ⟨_, rfl, _, _, rfl, rfl, ⟨by decide, by decide⟩, .inl ⟨_, rfl, _, rfl, _, _, rfl, rfl, hm0, ?_⟩⟩
      exact k _ H2 (Int.emod_nonneg _ (by omega)) (Int.emod_lt_of_pos _ hm0) fin0 x2
def spOne (K : PySem.W.Frag) : Sp := fun vs H Q _ => ∃ (c l s : Addr) (n : Nat) (xs : List V), vs = [.ref c, .ref s] ∧ Bag c l n H ∧ n ≤ 1000000 ∧ s ≠ c ∧ SqL K H s xs ∧ xs ≠ [] ∧ xs.length ≤ 1000 ∧
  ∀ (i : Nat) (v : V) (H' : Hp), xs[i]? = some v → Bag c l (n + 1) H' → Ext c H H' → Q v H'
theorem O__law_sip (T : Tx K mg w) : FnOk P w K mg base CX0 2 T.a__law_sip T.d__law_sip ["flask", "some"] (spOne K) := by
  refine T.F__law_sip.ok sc__law_sip (fun vs H Q E h => ?_) (fun cdv A outer s H vs Q E hr h => ?_)
  · obtain ⟨c, l, s, n, xs, rfl, _⟩ := h; rfl
  · obtain ⟨c, l, a, n, xs, rfl, hb, hN, na, hS, hne, hl, k⟩ := h
    have h0 : 0 < xs.length := List.length_pos_iff.mpr hne
    refine ⟨_, (pss_one (ps_ret (pe_ix ix_list (pv 1) (pe_call (O__law_pour T) (hr.mono (by decide)) (by rfl) T.m__law_pour T.F__law_pour.kp T.b__law_pour .nil pass0 (pa_cons (pv 0) (pa_cons (pe_callB call_len_seq (by rfl) T.z_len (by decide +kernel) (pa_cons (pv 1) pa_nil)) pa_nil))) (fun _ _ => rfl)))), ?_⟩
    refine ⟨_, rfl, _, rfl, _, rfl, a, xs, rfl, .inl hS, c, l, n, _, rfl, hb, hN, by omega, by omega, fun v H1 v0 v1 b1 x1 => ?_⟩
    obtain ⟨j, rfl⟩ := Int.eq_ofNat_of_zero_le v0
    have hj : j < xs.length := by omega
    refine ⟨a, xs, _, xs[j], rfl, rfl, x1.sqL na hS, atI_nat (List.getElem?_eq_getElem hj), ?_⟩
    exact k j _ H1 (List.getElem?_eq_getElem hj) b1 x1
end
end K6

set_option Elab.async false
set_option linter.all false
set_option maxRecDepth 100000
set_option maxHeartbeats 4000000
namespace K6
open PySem PySem.Spec PyProof.Rows L2 Gs
theorem nodup_le {α : Type} [DecidableEq α] : ∀ {l m : List α}, l.Nodup → (∀ x ∈ l, x ∈ m) → l.length ≤ m.length
  | [], _, _, _ => Nat.zero_le _
  | x :: l, m, nd, h => by
    obtain ⟨nx, nd⟩ := List.nodup_cons.mp nd
    have hm := h x List.mem_cons_self
    have ih := nodup_le (l := l) (m := m.erase x) nd fun y hy => (List.mem_erase_of_ne (fun e => nx (by rw [← e]; exact hy))).mpr (h y (List.mem_cons_of_mem _ hy))
    rw [List.length_erase_of_mem hm] at ih
    have : 0 < m.length := List.length_pos_of_mem hm
    rw [List.length_cons]; omega
def Lt (k : Nat) : Nat := letters.cps.toList.getD (k % 26) 0
theorem lt_inj {a b : Nat} (h : Lt a = Lt b) : a % 26 = b % 26 := by
  have all : ∀ i j : Fin 26, letters.cps.toList.getD i.1 0 = letters.cps.toList.getD j.1 0 → i = j := by decide +kernel
  have := all ⟨a % 26, Nat.mod_lt _ (by decide)⟩ ⟨b % 26, Nat.mod_lt _ (by decide)⟩ h
  exact congrArg Fin.val this
theorem lt_mem (k : Nat) : Lt k ∈ letters.cps.toList := by
  have all : ∀ i : Fin 26, letters.cps.toList.getD i.1 0 ∈ letters.cps.toList := by decide +kernel
  exact all ⟨k % 26, Nat.mod_lt _ (by decide)⟩
def sOf (cs : List Nat) : Str := ⟨cs.toArray⟩
theorem sOf_inj {a b : List Nat} (h : sOf a = sOf b) : a = b := by
  have : a.toArray = b.toArray := congrArg Str.cps h
  simpa using this
theorem slice7 (cs : List Nat) : Txt.slice (sOf cs) none (some 7) = sOf (cs.take 7) := by
  rw [← C8.cutS_slice]
  unfold cutS
  rw [HT.sIx_none, show (some (7 : Int)) = some ((7 : Nat) : Int) from rfl, HT.sIx_nat, List.drop_zero, Nat.sub_zero]
  have e : (sOf cs).cps.toList = cs := by show cs.toArray.toList = cs; simp
  have e2 : (sOf cs).length = cs.length := by show cs.toArray.size = cs.length; simp
  rw [e, e2, ← List.take_take, List.take_length]; rfl
theorem sOf_snoc (a : List Nat) (k : Nat) : sOf a ++ (⟨#[k]⟩ : Str) = sOf (a ++ [k]) := by
  show (⟨a.toArray ++ #[k]⟩ : Str) = ⟨(a ++ [k]).toArray⟩
  simp
def barredS : List Str := ["lord", "leaps", "rides", "stone"]
theorem cand_end {p : List Nat} {f : Nat} {B : List Str} (hB : B.length ≤ 12) (h : ∀ j, 7 ≤ j → j < 26 → sOf (p ++ [Lt (f + j - 1)]) ∈ B) : False := by
  have nd : ((List.range 13).map fun i => sOf (p ++ [Lt (f + (i + 7) - 1)])).Nodup := by
    rw [List.nodup_iff_pairwise_ne, List.pairwise_map]
    refine (List.nodup_iff_pairwise_ne.mp List.nodup_range).imp_of_mem ?_
    intro a b ha hb ne e
    rw [List.mem_range] at ha hb
    have e1 := List.append_cancel_left (sOf_inj e)
    have e2 := lt_inj (List.cons.inj e1).1
    omega
  have := nodup_le nd (m := B) fun x hx => by
    obtain ⟨i, hi, rfl⟩ := List.mem_map.mp hx
    rw [List.mem_range] at hi
    exact h (i + 7) (by omega) (by omega)
  rw [List.length_map, List.length_range] at this
  omega
theorem joined (cs : List Nat) : Txt.join "" (cs.map fun k => (⟨#[k]⟩ : Str)) = sOf cs := by
  have h := PyProof.Rows.join_ones cs
  have e : ("" : Str) = ⟨#[]⟩ := by decide +kernel
  rw [e]; exact (eq_of_beq (PyProof.Rows.join_plain_closes _ _)).trans h
section
variable {P : Program} {w : World} {K : PySem.W.Frag} {mg : Str → Option Value} {base : Heap}
def spNm (K : PySem.W.Frag) : Sp := fun vs H Q _ => ∃ (c l a : Addr) (n : Nat) (tk : List Str), vs = [.ref c, .ref a] ∧ Bag c l n H ∧ n ≤ 999900 ∧ a ≠ c ∧ SqL K H a (tk.map V.str) ∧ tk.length ≤ 8 ∧
  ∀ (x : Str) (H' : Hp), isNameS x = true → x ∉ tk → Bag c l (n + 14) H' → Ext c H H' → Q (.str x) H'
theorem G__law_name (T : Tx K mg w) : FnG P w K mg base CX0 3 T.a__law_name T.d__law_name ["flask", "taken"] (spNm K) := by
  refine fun_okG T.F__law_name sc__law_name (fun vs H Q E h => ?_) (fun cdv A outer s H vs Q E hr hg h => ?_)
  · obtain ⟨c, l, a, n, tk, rfl, _⟩ := h; rfl
  obtain ⟨c, l, a, n, tk, rfl, hb, hN, nac, hT, htk, k⟩ := h
  refine ⟨_, (pss_cons (ps_set (i := 2) sc__law_name.nd rfl (Or.inr rfl) pe_str)
      (pss_cons (ps_set (i := 3) sc__law_name.nd rfl (Or.inl rfl) (pe_join pe_str (pe_lc (own := [("turn", 4)]) (g := (gName 4)) rfl sc__law_name.nd (pi_range1 (by rfl) T.z_range (pa_cons (pe_call (O__law_sip T) (hr.mono (by decide)) (by rfl) T.m__law_sip T.F__law_sip.kp T.b__law_sip .nil pass0 (pa_cons (pv 0) (pa_cons (pe_lst (pa_cons pe_int (pa_cons pe_int (pa_cons pe_int (pa_cons pe_int (pa_cons pe_int pa_nil)))))) pa_nil))) pa_nil)) (blkOk_by (N := n__law_name) (sc := defScope s__law_name) (by decide +kernel)) (fun _ _ _ _ _ => (pg_name (i := 4) sc__law_name.nd rfl (Or.inl rfl))) (fun _ _ _ _ _ => pts_nil) (fun _ _ _ _ _ => (pe_ix ix_str (pv 2) (pe_call (O__law_pour T) (hr.mono (by decide)) (by rfl) T.m__law_pour T.F__law_pour.kp T.b__law_pour .nil pass0 (pa_cons (pv 0) (pa_cons pe_int pa_nil))) (fun _ _ => rfl))))))
      (pss_cons (ps_set (i := 5) sc__law_name.nd rfl (Or.inl rfl) (pe_call (O__law_pour T) (hr.mono (by decide)) (by rfl) T.m__law_pour T.F__law_pour.kp T.b__law_pour .nil pass0 (pa_cons (pv 0) (pa_cons pe_int pa_nil))))
      (pss_cons (ps_for PassesOwn.never rfl (pi_range1 (by rfl) T.z_range (pa_cons pe_int pa_nil)) (pg_name (i := 4) sc__law_name.nd rfl (Or.inl rfl)) (pss_cons (ps_if (PW.pt (pw_and (pt_cmpR op_notIn_seq (pv 3) (pv 1) (by rfl)) (pw_and1 (pt_cmpR op_notIn_seq (pv 3) (pe_tup (pa_cons pe_str (pa_cons pe_str (pa_cons pe_str (pa_cons pe_str pa_nil))))) (by rfl))))) (pss_one (ps_ret (pv 3))) pss_nil)
      (pss_one (ps_set (i := 3) sc__law_name.nd rfl (Or.inl rfl) (pe_op op_add_str (pe_slice C8.sl_txt (pv 3) po_none (po_some pe_int)) (pe_ix ix_str (pv 2) (pe_op op_mod (pe_callTy call_int1 (by rfl) T.z_int (by decide +kernel) (pa_cons (pe_op op_add (pv 5) (pv 4)) pa_nil)) pe_int) (fun _ _ => rfl)))))))
      (pss_one (ps_ret (pv 3))))))), ?_⟩
  refine ⟨⟨_, rfl⟩, ?_⟩
  -- how many letters
  refine ⟨_, rfl, szl rfl, fun p hp => ?_⟩
  refine ⟨c, l, p, n, _, rfl, hb.new hp, by omega, hb.ne hp, .of upd_same, by simp, szl2 rfl, fun i v H1 hi b1 x1 => ?_⟩
  obtain ⟨m, rfl, hm⟩ : ∃ m : Nat, v = .int m ∧ 1 ≤ m ∧ m ≤ 8 := by
    have hm := one_of hi
    simp only [List.mem_cons, List.not_mem_nil, or_false] at hm
    rcases hm with rfl | rfl | rfl | rfl | rfl
    · exact ⟨3, rfl, by decide⟩
    · exact ⟨1, rfl, by decide⟩
    · exact ⟨2, rfl, by decide⟩
    · exact ⟨8, rfl, by decide⟩
    · exact ⟨5, rfl, by decide⟩
  have x01 : Gs.Ext c H H1 := (Ext.new hp).trans x1
  clear hi x1 hp hb
  refine ⟨m, rfl, by omega, by omega, fun D hD => ?_⟩
  have nDc := b1.ne hD
  have nDl := b1.ne2 hD
  refine lc_it (walk_range (lo := 0) (n := m)) (fun i H' => ∃ cs : List Nat, H' D = some (.lst (cs.map fun k => V.str ⟨#[k]⟩)) ∧ cs.length = i ∧ (∀ z ∈ cs, z ∈ letters.cps.toList) ∧ Bag c l (n + 1 + i) H' ∧ Gs.Ext c H1 H')
    ⟨[], upd_same, rfl, fun z h => (nomatch h), b1.new hD, Ext.new hD⟩ (fun _ _ _ _ => trivial) ?_ ?_
  · rintro i x H2 H2' hi ⟨cs, h1, h2, h3, b2, x2⟩ ⟨rfl, rfl⟩
    refine ⟨rfl, ?_⟩
    refine ⟨_, rfl, _, rfl, c, l, _, _, rfl, b2, by omega, by decide, by decide, fun v H3 a1 a2 b3 x3 => ?_⟩
    obtain ⟨j, rfl⟩ := Int.eq_ofNat_of_zero_le a1
    have hj : j < letters.cps.toList.length := by
      have : letters.cps.toList.length = 26 := by decide +kernel
      omega
    have h13 : H3 D = some (.lst (cs.map fun k => V.str ⟨#[k]⟩)) := x3 _ _ nDc h1
    refine ⟨letters, _, letters.cps.toList[j], rfl, rfl, szl rfl, atI_nat (List.getElem?_eq_getElem hj), _, h13, ?_, cs ++ [letters.cps.toList[j]], ?_, ?_, ?_, ?_, ?_⟩
    · rw [List.length_map]; exact szs (by omega)
    · rw [upd_same, List.map_append]; rfl
    · rw [List.length_append]; show cs.length + 1 = i + 1; omega
    · intro z hz
      rcases List.mem_append.mp hz with hz | hz
      · exact h3 z hz
      · rw [List.mem_singleton.mp hz]; exact List.getElem_mem hj
    · exact (b3.mono (by omega)).put nDc nDl
    · exact (x2.trans x3).own hD
  rintro H2 ⟨cs, h1, h2, h3, b2, x2⟩
  refine ⟨"", D, cs.map fun k => (⟨#[k]⟩ : Str), rfl, rfl, .inl (.of (by rw [List.map_map]; exact h1)), ?_, ?_⟩
  · have e1 : ∀ cs : List Nat, ((cs.map fun k => (⟨#[k]⟩ : Str)).map (·.length)).sum = cs.length := by
      intro cs
      induction cs with
      | nil => rfl
      | cons a r ih => simp only [List.map_cons, List.sum_cons, ih, List.length_cons]; show 1 + _ = _; omega
    have e2 : ("" : Str).length = 0 := rfl
    rw [e1, e2]; omega
  rw [joined]
  have x9 : Gs.Ext c H H2 := x01.trans x2
  -- first
  refine ⟨_, rfl, c, l, _, _, rfl, b2, by omega, by decide, by decide, fun v H3 f1 f2 b3 x3 => ?_⟩
  obtain ⟨f, rfl⟩ := Int.eq_ofNat_of_zero_le f1
  have x10 : Gs.Ext c H H3 := x9.trans x3
  have b3 : Bag c l (n + 14) H3 := b3.mono (by omega)
  clear x3 x9 b2 x2 h1 x01 b1 hD nDc nDl
  refine ⟨26, rfl, by decide, by decide, ?_⟩
  refine for_it (walk_range (lo := 0) (n := 26)) (fun i σ H' => ∃ (cs : List Nat) (t4 : Option V), σ = [some (.ref c), some (.ref a), some (.str letters), some (.str (sOf cs)), t4, some (.int (f : Int))] ∧ (1 ≤ cs.length ∧ cs.length ≤ 8) ∧ (∀ z ∈ cs, z ∈ letters.cps.toList) ∧ Bag c l (n + 14) H' ∧ Gs.Ext c H H' ∧
      (i < 7 → i + 1 ≤ cs.length) ∧ (7 ≤ i → ∃ p : List Nat, cs = p ++ [Lt (f + i - 1)] ∧ p.length = 7 ∧ ∀ j, 7 ≤ j → j < i → sOf (p ++ [Lt (f + j - 1)]) ∈ tk ++ barredS))
    ⟨cs, _, rfl, by omega, h3, b3, x10, fun _ => by omega, fun z => absurd z (by decide)⟩ (fun _ _ _ _ _ => trivial) ?_ ?_
  rotate_left
  · rintro σ H4 ⟨cs4, t4, rfl, hlen, hmem, b4, x4, _, hx⟩
    obtain ⟨p, _, _, hall⟩ := hx (by decide)
    exact (cand_end (B := tk ++ barredS) (by rw [List.length_append]; show _ + 4 ≤ 12; omega) fun j h7 h26 => hall j h7 h26).elim
  rintro i x σ H4 H4' hi ⟨cs4, t4, rfl, hlen, hmem, b4, x4, hs, hx⟩ ⟨rfl, rfl⟩
  have htk4 := x4.sqL nac hT
  -- what is so of a name that stands in neither
  have good : sOf cs4 ∉ barredS → isNameS (sOf cs4) = true := fun hnb => by
    unfold isNameS
    have e2 : (sOf cs4).length = cs4.length := by show cs4.toArray.size = _; simp
    have e1 : (sOf cs4).cps.toList = cs4 := by show cs4.toArray.toList = _; simp
    have e3 : inV (.str (sOf cs4)) barred = false := by
      have := inV_str (sOf cs4) barredS
      rw [decide_eq_false hnb] at this; exact this
    rw [e2, e1, e3, decide_eq_true hlen.1, decide_eq_true hlen.2]
    exact List.all_eq_true.mpr fun c hc => decide_eq_true (hmem c hc)
  have nxt : ∀ H5, Bag c l (n + 14) H5 → Gs.Ext c H H5 → sOf cs4 ∈ tk ++ barredS → ∀ t4' : Option V, ∃ (cs : List Nat) (t4 : Option V), [some (V.ref c), some (.ref a), some (.str letters), some (.str (Txt.slice (sOf cs4) none (some 7) ++ (⟨#[Lt (f + i)]⟩ : Str))), t4', some (.int (f : Int))] = [some (V.ref c), some (.ref a), some (.str letters), some (.str (sOf cs)), t4, some (.int (f : Int))] ∧ (1 ≤ cs.length ∧ cs.length ≤ 8) ∧ (∀ z ∈ cs, z ∈ letters.cps.toList) ∧ Bag c l (n + 14) H5 ∧ Gs.Ext c H H5 ∧
      (i + 1 < 7 → i + 1 + 1 ≤ cs.length) ∧ (7 ≤ i + 1 → ∃ p : List Nat, cs = p ++ [Lt (f + (i + 1) - 1)] ∧ p.length = 7 ∧ ∀ j, 7 ≤ j → j < i + 1 → sOf (p ++ [Lt (f + j - 1)]) ∈ tk ++ barredS) := by
    intro H5 b5 x5 hm t4'
    have l7 : (cs4.take 7).length = min 7 cs4.length := List.length_take
    refine ⟨cs4.take 7 ++ [Lt (f + i)], t4', by rw [slice7, sOf_snoc], ?_, ?_, b5, x5, fun h => ?_, fun h => ⟨cs4.take 7, rfl, ?_, fun j h7 hji => ?_⟩⟩
    · rw [List.length_append, List.length_singleton]; omega
    · intro z hz
      rcases List.mem_append.mp hz with hz | hz
      · exact hmem z (List.mem_of_mem_take hz)
      · rw [List.mem_singleton.mp hz]; exact lt_mem _
    · have := hs (by omega)
      rw [List.length_append, List.length_singleton]; omega
    · rw [l7]
      by_cases h6 : i < 7
      · have := hs h6; omega
      · obtain ⟨p, rfl, hp, _⟩ := hx (by omega)
        rw [List.length_append, hp]; rfl
    · have h7i : 7 ≤ i := by omega
      obtain ⟨p, rfl, hp, hall⟩ := hx h7i
      have et : (p ++ [Lt (f + i - 1)]).take 7 = p := by rw [List.take_append_of_le_length (by omega), ← hp, List.take_length]
      rw [et]
      by_cases hj : j = i
      · subst hj; exact hm
      · exact hall j h7 (by omega)
  have eidx : ((f : Int) + (0 + (i : Int))) % 26 = (((f + i) % 26 : Nat) : Int) := by omega
  have hat : atI letters.cps.toList (((f : Int) + (0 + (i : Int))) % 26) = some (Lt (f + i)) := by
    rw [eidx]
    have hl : (f + i) % 26 < letters.cps.toList.length := by
      have : letters.cps.toList.length = 26 := by decide +kernel
      rw [this]; exact Nat.mod_lt _ (by decide)
    refine atI_nat ?_
    unfold Lt
    rw [List.getD_eq_getElem?_getD, List.getElem?_eq_getElem hl]; rfl
  have hsl : (Txt.slice (sOf cs4) none (some 7)).length ≤ 7 := by
    rw [slice7]
    show ((cs4.take 7).toArray).size ≤ 7
    rw [List.size_toArray]; exact List.length_take_le ..
  have hsz : (sOf cs4).length ≤ sizeLine := by
    have : (sOf cs4).length = cs4.length := by show cs4.toArray.size = _; simp
    exact Nat.le_trans (show _ ≤ 8 by omega) (by decide)
  refine ⟨_, rfl, _, rfl, a, _, rfl, .inl htk4, rfl, all_flat _, _, rfl, ?_⟩
  refine iteB (fun e1 => ?_) (fun e1 => ?_)
  · have e1 : (!inV (.str (sOf cs4)) (tk.map V.str)) = true := e1
    rw [inV_str] at e1
    have n1 : sOf cs4 ∉ tk := by simpa using e1
    refine ⟨_, rfl, szl rfl, fun p hp => ⟨p, barred, rfl, .inr (.of upd_same), rfl, rfl, _, rfl, ?_⟩⟩
    refine iteB (fun e2 => ?_) (fun e2 => ?_)
    · have e2 : (!inV (.str (sOf cs4)) (barredS.map V.str)) = true := e2
      rw [inV_str] at e2
      have n2 : sOf cs4 ∉ barredS := by simpa using e2
      exact ⟨_, rfl, k _ _ (good n2) n1 (b4.new hp) (x4.trans (Ext.new hp))⟩
    · have e2 : (!inV (.str (sOf cs4)) (barredS.map V.str)) = false := e2
      rw [inV_str] at e2
      have n2 : sOf cs4 ∈ barredS := by simpa using e2
      refine ⟨_, rfl, _, rfl, sOf cs4, rfl, hsz, _, rfl, _, rfl, _, rfl, _, _, rfl, rfl, .inl ⟨_, rfl, _, _, rfl, rfl, pos_lit (by decide), letters, _, Lt (f + i), rfl, rfl, szl rfl, hat, _, _, rfl, rfl, ?_, ?_⟩⟩
      · exact Nat.le_trans (show _ ≤ 8 by show _ + 1 ≤ 8; omega) (by decide)
      · exact nxt _ (b4.new hp) (x4.trans (Ext.new hp)) (List.mem_append_right _ n2) _
  · have e1 : (!inV (.str (sOf cs4)) (tk.map V.str)) = false := e1
    rw [inV_str] at e1
    have n1 : sOf cs4 ∈ tk := by simpa using e1
    refine ⟨_, rfl, _, rfl, sOf cs4, rfl, hsz, _, rfl, _, rfl, _, rfl, _, _, rfl, rfl, .inl ⟨_, rfl, _, _, rfl, rfl, pos_lit (by decide), letters, _, Lt (f + i), rfl, rfl, szl rfl, hat, _, _, rfl, rfl, ?_, ?_⟩⟩
    · exact Nat.le_trans (show _ ≤ 8 by show _ + 1 ≤ 8; omega) (by decide)
    · exact nxt _ b4 x4 (List.mem_append_left _ n1) _
end
end K6

set_option Elab.async false
set_option linter.all false
set_option maxRecDepth 100000
set_option maxHeartbeats 8000000
namespace K6
open PySem PySem.Spec PyProof.Rows L2 Gs
abbrev Lv := List (Addr × Int × Int)
def all48 : List (Int × Int) := ((List.range 49).filter fun i => decide (i ≠ 24)).map fun (i : Nat) => ((i : Int) / 7 - 3, (i : Int) % 7 - 3)
theorem all48_nd : all48.Nodup := by decide +kernel
theorem all48_ok : ∀ p ∈ all48, lpair (.int p.1) (.int p.2) = true := by decide +kernel
/-- drawn parts of a kind -/
structure Drn (ps : List (Int × Int)) (R : List Str) (q : Bool) : Prop where
  nd : ps.Nodup
  ok : ∀ p ∈ ps, lpair (.int p.1) (.int p.2) = true
  few : ps.length ≤ 8
  nr : R.Nodup
  st : ∀ r ∈ R, r ∈ steps4
  lord : q = true → R = []
  some : ps ≠ [] ∨ R ≠ []
theorem perm_erase {α : Type} : ∀ (ys : List α) (j : Nat) (h : j < ys.length), (ys[j] :: ys.eraseIdx j).Perm ys
  | [], j, h => absurd h (Nat.not_lt_zero _)
  | y :: ys, 0, h => List.Perm.refl _
  | y :: ys, j + 1, h => by
    have h2 : j < ys.length := Nat.lt_of_succ_lt_succ h
    have ih := perm_erase ys j h2
    show (ys[j] :: y :: ys.eraseIdx j).Perm (y :: ys)
    exact (List.Perm.swap y ys[j] _).trans (ih.cons y)
theorem map_eraseIdx {α β : Type} (f : α → β) : ∀ (ys : List α) (j : Nat), (ys.map f).eraseIdx j = (ys.eraseIdx j).map f
  | [], _ => rfl
  | _ :: _, 0 => rfl
  | y :: ys, j + 1 => by
    show f y :: (ys.map f).eraseIdx j = f y :: (ys.eraseIdx j).map f
    rw [map_eraseIdx f ys j]
def prD (p : Int × Int) : PyData := .tuple [.int p.1, .int p.2]
theorem eqv_nil2 : ∀ ds : List PyData, PyData.eqv (.list ds) (.list []) = ds.isEmpty
  | [] => rfl
  | _ :: _ => rfl
theorem can_prs : ∀ ps : List (Int × Int), PyData.canLayAll0 (ps.map prD) = true ∧ PyData.depthAll (ps.map prD) ≤ 2
  | [] => ⟨rfl, Nat.zero_le _⟩
  | p :: ps => by
    obtain ⟨h1, h2⟩ := can_prs ps
    refine ⟨?_, ?_⟩
    · show (PyData.canLay0 (prD p) && PyData.canLayAll0 (ps.map prD)) = true
      rw [h1]; rfl
    · simp only [List.map_cons, PyData.depthAll, prD, PyData.depth]
      omega
theorem can_st : ∀ ps : List Str, (∀ z ∈ ps, z ∈ steps4) → PyData.canLayAll0 (ps.map PyData.str) = true ∧ PyData.depthAll (ps.map PyData.str) ≤ 2
  | [], _ => ⟨rfl, Nat.zero_le _⟩
  | p :: ps, h => by
    obtain ⟨h1, h2⟩ := can_st ps fun z hz => h z (List.mem_cons_of_mem _ hz)
    refine ⟨?_, ?_⟩
    · show (PyData.canLay0 (.str p) && PyData.canLayAll0 (ps.map PyData.str)) = true
      have all : ∀ z ∈ steps4, PyData.canLay0 (.str z) = true := by decide +kernel
      rw [h1, all p (h p List.mem_cons_self)]; rfl
    · simp only [List.map_cons, PyData.depthAll, PyData.depth]
      omega
theorem shaped_lst {ds : List PyData} (h : PyData.canLayAll0 ds = true ∧ PyData.depthAll ds ≤ 2) : SeqAt.shaped (.list ds) = true := by
  unfold SeqAt.shaped
  have e : PyData.canLay0 (.list ds) = true := by
    simp only [PyData.canLay0]; exact h.1
  rw [e, Bool.true_and, decide_eq_true_eq]
  simp only [PyData.depth]
  have := h.2
  omega
section
variable {P : Program} {w : World} {K : PySem.W.Frag} {mg : Str → Option Value} {base : Heap}
theorem dp_prs {H : Hp} : ∀ {ls : Lv}, (∀ p ∈ ls, SqT K H p.1 [.int p.2.1, .int p.2.2]) → DpAll K H (ls.map fun p => V.ref p.1) ((ls.map (·.2)).map prD)
  | [], _ => .nil
  | p :: ls, h => .cons (.tup (h p List.mem_cons_self) (.cons (.int _) (.cons (.int _) .nil))) (dp_prs fun q hq => h q (List.mem_cons_of_mem _ hq))
theorem dp_sts {H : Hp} : ∀ rs : List Str, DpAll K H (rs.map V.str) (rs.map PyData.str)
  | [] => .nil
  | r :: rs => .cons (.str r) (dp_sts rs)
/-- a drawn kind stands at t: its name, its leaps, its rides, is it a lord -/
structure DrnAt (K : PySem.W.Frag) (H : Hp) (t : Addr) (z : Str) (ls : Lv) (R : List Str) (q : Bool) (la lb : Addr) : Prop where
  tup : SqT K H t [.str z, .ref la, .ref lb, .bl q]
  la_ : H la = some (.lst (ls.map fun p => V.ref p.1))
  lb_ : H lb = some (.lst (R.map V.str))
  ps : ∀ p ∈ ls, SqT K H p.1 [.int p.2.1, .int p.2.2]
def spKd (K : PySem.W.Frag) : Sp := fun vs H Q _ => ∃ (c l a : Addr) (n : Nat) (tk : List Str) (q : Bool), vs = [.ref c, .ref a, .bl q] ∧ Bag c l n H ∧ n ≤ 999000 ∧ a ≠ c ∧ SqL K H a (tk.map V.str) ∧ tk.length ≤ 8 ∧
  ∀ (t : Addr) (z : Str) (ls : Lv) (R : List Str) (la lb : Addr) (H' : Hp), isNameS z = true → z ∉ tk → Drn (ls.map (·.2)) R q → DrnAt K H' t z ls R q la lb → t ≠ c → la ≠ c → lb ≠ c → (∀ p ∈ ls, p.1 ≠ c) → H t = none → H la = none → H lb = none → Bag c l (n + 40) H' → Ext c H H' → Q (.ref t) H'
theorem G__law_kind (T : Tx K mg w) : FnG P w K mg base CX0 4 T.a__law_kind T.d__law_kind ["flask", "taken", "is_lord"] (spKd K) := by
  refine fun_okG T.F__law_kind sc__law_kind (fun vs H Q E h => ?_) (fun cdv A outer s H vs Q E hr hg h => ?_)
  · obtain ⟨c, l, a, n, tk, q, rfl, _⟩ := h; rfl
  obtain ⟨c, l, a, n, tk, q, rfl, hb, hN, nac, hT, htk, k⟩ := h
  refine ⟨_, (pss_cons (ps_par3 (i := 3) (j := 4) (l := 5) rfl sc__law_kind.nd rfl rfl rfl (by decide) (by decide) (by decide) rfl rfl rfl (pa_cons (pg_call (G__law_name T) (hr.mono (by decide)) hg (by rfl) T.m__law_name T.F__law_name.kp T.b__law_name .nil pass0 (pa_cons (pv 0) (pa_cons (pv 1) pa_nil))) (pa_cons (pe_lc (own := [("at", 6)]) (g := (gName 6)) rfl sc__law_kind.nd (pi_range1 (by rfl) T.z_range (pa_cons pe_int pa_nil)) (blkOk_by (N := n__law_kind) (sc := defScope s__law_kind) (by decide +kernel)) (fun _ _ _ _ _ => (pg_name (i := 6) sc__law_kind.nd rfl (Or.inl rfl))) (fun _ _ _ _ _ => pts_one (pt_cmpR op_ne (pv 6) pe_int (nomark _))) (fun _ _ _ _ _ => (pe_tup (pa_cons (pe_op op_sub (pe_op op_fdiv (pv 6) pe_int) pe_int) (pa_cons (pe_op op_sub (pe_op op_mod (pe_callTy call_int1 (by rfl) T.z_int (by decide +kernel) (pa_cons (pv 6) pa_nil)) pe_int) pe_int) pa_nil))))) (pa_cons (pe_lst pa_nil) pa_nil))) (by rfl))
      (pss_cons (ps_for PassesOwn.never rfl (pi_range1 (by rfl) T.z_range (pa_cons (pe_call (O__law_sip T) (hr.mono (by decide)) (by rfl) T.m__law_sip T.F__law_sip.kp T.b__law_sip .nil pass0 (pa_cons (pv 0) (pa_cons (pe_lst (pa_cons pe_int (pa_cons pe_int (pa_cons pe_int (pa_cons pe_int (pa_cons pe_int pa_nil)))))) pa_nil))) pa_nil)) (pg_name (i := 7) sc__law_kind.nd rfl (Or.inl rfl)) (pss_one (ps_expr (pe_bm PySem.F.plainAttrs_list PySem.F.slot_list_append PySem.F.type_list_append mt_append (pv 5) (pa_cons (pe_bm PySem.F.plainAttrs_list PySem.F.slot_list_pop PySem.F.type_list_pop mt_popAt (pv 4) (pa_cons (pe_call (O__law_pour T) (hr.mono (by decide)) (by rfl) T.m__law_pour T.F__law_pour.kp T.b__law_pour .nil pass0 (pa_cons (pv 0) (pa_cons (pe_callB call_len_seq (by rfl) T.z_len (by decide +kernel) (pa_cons (pv 4) pa_nil)) pa_nil))) pa_nil)) pa_nil)))))
      (pss_cons (ps_setLc (i := 8) (own := [("word", 9)]) (g := (gName 9)) rfl sc__law_kind.nd rfl rfl (sw_true rfl rfl rfl (by decide +kernel)) (pi_tup (pe_tup (pa_cons pe_str (pa_cons pe_str (pa_cons pe_str (pa_cons pe_str pa_nil)))))) (blkOk_by (N := n__law_kind) (sc := defScope s__law_kind) (by decide +kernel)) (fun _ _ _ _ _ => (pg_name (i := 9) sc__law_kind.nd rfl (Or.inl rfl))) (fun _ _ _ _ _ => pts_one (PW.pt (pw_and (pt_not (pt_val (pv 2))) (pw_and1 (pt_cmpR op_eq (pe_call (O__law_pour T) (hr.mono (by decide)) (by rfl) T.m__law_pour T.F__law_pour.kp T.b__law_pour .nil pass0 (pa_cons (pv 0) (pa_cons pe_int pa_nil))) pe_int (nomark _)))))) (fun _ _ _ _ _ => (pv 9)))
      (pss_cons (ps_if (PW.pt (pw_and (pt_cmpR (op_eqD hr.units) (pv 5) (pe_lst pa_nil) (nomark _)) (pw_and1 (pt_cmpR (op_eqD hr.units) (pv 8) (pe_lst pa_nil) (nomark _))))) (pss_one (ps_set (i := 5) sc__law_kind.nd rfl (Or.inl rfl) (pe_lst (pa_cons (pe_call (O__law_sip T) (hr.mono (by decide)) (by rfl) T.m__law_sip T.F__law_sip.kp T.b__law_sip .nil pass0 (pa_cons (pv 0) (pa_cons (pv 4) pa_nil))) pa_nil)))) pss_nil)
      (pss_one (ps_ret (pe_tup (pa_cons (pv 3) (pa_cons (pv 5) (pa_cons (pv 8) (pa_cons (pv 2) pa_nil))))))))))), ?_⟩
  refine ⟨_, rfl, _, rfl, c, l, a, n, tk, rfl, hb, by omega, nac, hT, htk, fun z H1 hz hzt b1 x1 => ?_⟩
  refine ⟨49, rfl, by decide, by decide, fun D hD => ?_⟩
  refine lc_it (walk_range (lo := 0) (n := 49)) (fun i H' => ∃ ls : Lv, H' D = some (.lst (ls.map fun p => V.ref p.1)) ∧ ls.map (·.2) = ((List.range i).filter fun i => decide (i ≠ 24)).map (fun (i : Nat) => ((i : Int) / 7 - 3, (i : Int) % 7 - 3)) ∧ ls.length ≤ i ∧ (∀ p ∈ ls, SqT K H' p.1 [.int p.2.1, .int p.2.2]) ∧ (∀ p ∈ ls, p.1 ≠ c) ∧ Same H1 H')
    ⟨[], upd_same, rfl, Nat.le_refl _, (fun p h => by cases h), (fun p h => by cases h), same_new hD⟩ (fun _ _ _ _ => trivial) ?_ ?_
  · rintro i x H2 H2' hi ⟨ls, h1, h2, h3, h4, h5, s2⟩ ⟨rfl, rfl⟩
    refine ⟨rfl, ?_⟩
    refine ⟨_, rfl, rfl, _, rfl, ?_⟩
    have ez : ((0 : Int) + (i : Int)) = (i : Int) := by omega
    have rg : ((List.range (i + 1)).filter fun i => decide (i ≠ 24)).map (fun (i : Nat) => ((i : Int) / 7 - 3, (i : Int) % 7 - 3)) = ((List.range i).filter fun i => decide (i ≠ 24)).map (fun (i : Nat) => ((i : Int) / 7 - 3, (i : Int) % 7 - 3)) ++ (if i = 24 then [] else [((i : Int) / 7 - 3, (i : Int) % 7 - 3)]) := by
      rw [List.range_succ, List.filter_append, List.map_append]
      by_cases e : i = 24
      · subst e; simp
      · simp [e]
    refine iteB (fun e => ?_) (fun e => ?_)
    · have ne : i ≠ 24 := fun z => by subst z; exact absurd e (by decide)
      refine ⟨_, rfl, _, _, rfl, rfl, ⟨pos_lit (by decide), by decide⟩, _, _, rfl, rfl, _, rfl, .inl ⟨_, rfl, _, _, rfl, rfl, pos_lit (by decide), _, _, rfl, rfl, szl rfl, fun t ht => ?_⟩⟩
      have st : Same H2' (upd H2' t (.tup [.int ((0 + (i : Int)) / 7 - 3), .int ((0 + (i : Int)) % 7 - 3)])) := same_new ht
      have nt : t ≠ c := (b1.same s2).ne ht
      refine ⟨_, st _ _ h1, ?_, ls ++ [(t, (i : Int) / 7 - 3, (i : Int) % 7 - 3)], ?_, ?_, ?_, ?_, ?_, ?_⟩
      · rw [List.length_map]; exact szs (by omega)
      · rw [upd_same, List.map_append]; rfl
      · rw [List.map_append, h2, rg, if_neg ne]; rfl
      · rw [List.length_append]; exact Nat.succ_le_succ h3
      · intro p hp
        rcases List.mem_append.mp hp with hp | hp
        · exact seqT_lst (st _ _ h1) (st.seqT (h4 p hp))
        · rw [List.mem_singleton.mp hp]
          refine seqT_lst (st _ _ h1) ?_
          show SqT K _ t [.int ((i : Int) / 7 - 3), .int ((i : Int) % 7 - 3)]
          rw [show (i : Int) / 7 - 3 = (0 + (i : Int)) / 7 - 3 by rw [ez], show (i : Int) % 7 - 3 = (0 + (i : Int)) % 7 - 3 by rw [ez]]; exact .of upd_same
      · intro p hp
        rcases List.mem_append.mp hp with hp | hp
        · exact h5 p hp
        · rw [List.mem_singleton.mp hp]; exact nt
      · exact same_own (s2.trans st) hD
    · have ne : i = 24 := by
        have e : (!decide (V.int (0 + (i : Int)) = V.int 24)) = false := e
        have e : decide (V.int (0 + (i : Int)) = V.int 24) = true := by simpa using e
        have := V.int.inj (of_decide_eq_true e); omega
      refine ⟨ls, h1, ?_, by omega, h4, h5, s2⟩
      rw [h2, rg, if_pos ne, List.append_nil]
  rintro H2 ⟨l0, h1, h2, h3, h4, h5, s2⟩
  have p0 : l0.map (·.2) = all48 := h2
  have b2 := b1.same s2
  have x2 : Gs.Ext c H H2 := x1.trans (Gs.Ext.of s2)
  have hDn : H D = none := by
    cases e : H D with
    | none => rfl
    | some o => 
      have nc : D ≠ c := b1.ne hD
      rw [x1 _ _ nc e] at hD; cases hD
  have nDc : D ≠ c := b1.ne hD
  have nDl : D ≠ l := b1.ne2 hD
  clear h2 h3 s2 x1 b1 hD hb
  refine ⟨szl rfl, fun F hF => ⟨_, _, _, rfl, ?_⟩⟩
  have nFc : F ≠ c := b2.ne hF
  have nFl : F ≠ l := b2.ne2 hF
  have nDF : D ≠ F := ne_of_none h1 hF
  have hFn : H F = none := by
    cases e : H F with
    | none => rfl
    | some o => rw [x2 _ _ nFc e] at hF; cases hF
  have sF : Same H2 (upd H2 F (.lst [])) := same_new hF
  have h1' := sF _ _ h1
  have h4' : ∀ p ∈ l0, SqT K (upd H2 F (.lst [])) p.1 [.int p.2.1, .int p.2.2] := fun p hp => sF.seqT (h4 p hp)
  have hF' : upd H2 F (.lst []) F = some (.lst []) := upd_same
  have b3 := b2.same sF
  have x3 : Gs.Ext c H (upd H2 F (.lst [])) := x2.trans (Gs.Ext.of sF)
  clear h1 h4 b2 x2 hF
  generalize upd H2 F (.lst []) = H3 at sF h1' h4' hF' b3 x3 ⊢
  clear sF
  -- how many leaps
  refine ⟨_, rfl, szl rfl, fun p hp => ?_⟩
  refine ⟨c, l, p, _, _, rfl, b3.new hp, by omega, b3.ne hp, .of upd_same, by simp, szl2 rfl, fun i v H4 hi b4 x4 => ?_⟩
  obtain ⟨m, rfl, hm⟩ : ∃ m : Nat, v = .int m ∧ m ≤ 8 := by
    have hm := one_of hi
    simp only [List.mem_cons, List.not_mem_nil, or_false] at hm
    rcases hm with rfl | rfl | rfl | rfl | rfl
    · exact ⟨2, rfl, by decide⟩
    · exact ⟨0, rfl, by decide⟩
    · exact ⟨1, rfl, by decide⟩
    · exact ⟨4, rfl, by decide⟩
    · exact ⟨8, rfl, by decide⟩
  have x34 : Gs.Ext c H3 H4 := (Ext.new hp).trans x4
  have h4D : H4 D = some (.lst (l0.map fun p => V.ref p.1)) := x34 _ _ nDc h1'
  have h4F : H4 F = some (.lst []) := x34 _ _ nFc hF'
  have h4T : ∀ p ∈ l0, SqT K H4 p.1 [.int p.2.1, .int p.2.2] := fun p hp => x34.sqT (h5 p hp) (h4' p hp)
  have x5 : Gs.Ext c H H4 := x3.trans x34
  have b4 : Bag c l (n + 20) H4 := b4.mono (by omega)
  clear x34 x4 hp h1' hF' h4' x3 b3 hi
  refine ⟨m, rfl, by omega, by omega, ?_⟩
  refine for_it (walk_range (lo := 0) (n := m)) (fun i σ H' => ∃ (t6 t7 t8 t9 : Option V) (ls lt : Lv), σ = [some (.ref c), some (.ref a), some (.bl q), some (.str z), some (.ref D), some (.ref F), t6, t7, t8, t9] ∧ H' F = some (.lst (ls.map fun p => V.ref p.1)) ∧ H' D = some (.lst (lt.map fun p => V.ref p.1)) ∧
      ((ls ++ lt).map (·.2)).Perm all48 ∧ ls.length = i ∧ (∀ p ∈ ls ++ lt, SqT K H' p.1 [.int p.2.1, .int p.2.2]) ∧ (∀ p ∈ ls ++ lt, p.1 ≠ c) ∧ Bag c l (n + 20 + i) H' ∧ Gs.Ext c H H')
    ⟨_, _, _, _, [], l0, rfl, h4F, h4D, by rw [List.nil_append, p0], rfl, h4T, h5, b4, x5⟩ (fun _ _ _ _ _ => trivial) ?_ ?_
  · rintro i x σ H5 H5' hi ⟨t6, t7, t8, t9, ls, lt, rfl, hF5, hD5, hpm, hlen, hT5, hc5, b5, x5⟩ ⟨rfl, rfl⟩
    have l48 : ls.length + lt.length = 48 := by
      have := hpm.length_eq
      rw [List.length_map, List.length_append] at this
      exact this.trans (by decide +kernel)
    refine ⟨_, rfl, .inl ⟨rfl, _, .of hF5⟩, _, rfl, .inl ⟨rfl, _, .of hD5⟩, _, rfl, _, rfl, D, _, rfl, .inl (.of hD5), c, l, _, _, rfl, b5, by omega, by rw [List.length_map]; omega, by rw [List.length_map]; omega, fun v H6 v0 v1 b6 x6 => ?_⟩
    obtain ⟨j, rfl⟩ := Int.eq_ofNat_of_zero_le v0
    rw [List.length_map] at v1
    have hj : j < lt.length := by omega
    have hj' : j < (lt.map fun p => V.ref p.1).length := by rw [List.length_map]; exact hj
    have hD6 := x6 _ _ nDc hD5
    have hF6 := x6 _ _ nFc hF5
    refine ⟨D, _, _, j, (lt.map fun p => V.ref p.1)[j], rfl, rfl, hD6, by omega, by omega, ?_, List.getElem?_eq_getElem hj', ?_⟩
    · unfold seqIndex?
      simp only [Int.natCast_nonneg, if_true, ge_iff_le]
      first
        | rfl
        | (rw [if_pos (by omega)]; simp)
        | (simp; omega)
    refine ⟨F, _, _, rfl, rfl, by rw [upd_ne nDF.symm]; exact hF6, szs (by rw [List.length_map]; omega), ?_⟩
    have hpe : (ls ++ [lt[j]] ++ lt.eraseIdx j).Perm (ls ++ lt) := by
      rw [List.append_assoc]
      refine List.Perm.append_left ls ?_
      exact perm_erase lt j hj
    refine ⟨_, _, _, _, ls ++ [lt[j]], lt.eraseIdx j, rfl, ?_, ?_, (hpe.map _).trans hpm, by rw [List.length_append, hlen]; rfl, fun p hp => ?_, fun p hp => hc5 p (hpe.mem_iff.mp hp), ?_, ?_⟩
    · rw [upd_same, List.map_append, List.getElem_map]; rfl
    · rw [upd_ne nDF, upd_same, map_eraseIdx]
    · have h7 : SqT K H6 p.1 [.int p.2.1, .int p.2.2] := x6.sqT (hc5 p (hpe.mem_iff.mp hp)) (hT5 p (hpe.mem_iff.mp hp))
      exact seqT_lst (by rw [upd_ne nDF.symm]; exact hF6) (seqT_lst hD6 h7)
    · exact ((b6.put nDc nDl).put nFc nFl).mono (by omega)
    · exact ((x5.trans x6).own hDn).own hFn
  rintro σ H5 ⟨t6, t7, t8, t9, ls, lt, rfl, hF5, hD5, hpm, hlen, hT5, hc5, b5, x5'⟩
  -- rides
  refine ⟨szl rfl, fun pw hpw => ⟨pw, rfl, ⟨_, .of upd_same⟩, fun D2 hD2 => ?_⟩⟩
  have spw : Same H5 (upd H5 pw (.tup (steps4.map V.str))) := same_new hpw
  have npc : pw ≠ c := b5.ne hpw
  have hpw1 : SqT K (upd H5 pw (.tup (steps4.map V.str))) pw (steps4.map V.str) := .of upd_same
  have bw := b5.same spw
  have xw : Gs.Ext c H (upd H5 pw (.tup (steps4.map V.str))) := x5'.trans (Gs.Ext.of spw)
  have hFw := spw _ _ hF5
  have hDw := spw _ _ hD5
  have hTw : ∀ p ∈ ls ++ lt, SqT K (upd H5 pw (.tup (steps4.map V.str))) p.1 [.int p.2.1, .int p.2.2] := fun p hp => spw.seqT (hT5 p hp)
  change upd H5 pw (.tup (steps4.map V.str)) D2 = none at hD2
  change ∃ W : Nat → Nat → Hp → Prop, (∃ m, W 0 m (upd (upd H5 pw (.tup (steps4.map V.str))) D2 (.lst []))) ∧ _
  generalize upd H5 pw (.tup (steps4.map V.str)) = H6 at spw hpw1 bw xw hFw hDw hTw hD2 ⊢
  clear spw hF5 hD5 hT5 b5 x5' hpw x5 b4 h4T h4F h4D htk hT nac
  have nD2c : D2 ≠ c := bw.ne hD2
  have hD2n : H D2 = none := by
    cases e : H D2 with
    | none => rfl
    | some o => rw [xw _ _ nD2c e] at hD2; cases hD2
  have nD2l : D2 ≠ l := bw.ne2 hD2
  refine lc_it (walk_tup (K := K) (a := pw) (xs := steps4.map V.str)) (fun i H' => ∃ R : List Str, H' D2 = some (.lst (R.map V.str)) ∧ R.Sublist (steps4.take i) ∧ (q = true → R = []) ∧ Bag c l (n + 28 + i) H' ∧ Gs.Ext c H6 H')
    ⟨[], upd_same, List.Sublist.refl _, fun _ => rfl, (bw.mono (by omega)).new hD2, Gs.Ext.new hD2⟩ (fun i H' _ h => by obtain ⟨R, _, _, _, _, x⟩ := h; exact x.sqT npc hpw1) ?_ ?_
  · rintro i x H7 H7' hi ⟨R, hR, hsub, hlq, b7, x7⟩ ⟨rfl, hx⟩
    rw [List.getElem?_map] at hx
    obtain ⟨r, hr4, rfl⟩ := Option.map_eq_some_iff.mp hx
    have hi4 : i < 4 := hi
    have nx : steps4.take (i + 1) = steps4.take i ++ [r] := by rw [List.take_add_one, hr4]; rfl
    have subk : R.Sublist (steps4.take (i + 1)) := by rw [nx]; exact hsub.trans (List.sublist_append_left _ _)
    have Rl : R.length ≤ 4 := by have := hsub.length_le; have h2 : (steps4.take i).length ≤ i := List.length_take_le ..; omega
    refine ⟨rfl, ?_⟩
    refine ⟨_, rfl, _, rfl, ?_⟩
    cases q with
    | true => exact iteF (iteF ⟨R, hR, subk, hlq, b7.mono (by omega), x7⟩)
    | false =>
      refine iteT ?_
      refine ⟨_, rfl, c, l, _, _, rfl, b7, by omega, by decide, by decide, fun v H8 v0 v1 b8 x8 => ⟨rfl, _, rfl, ?_⟩⟩
      have hR8 := x8 _ _ nD2c hR
      refine iteB (fun e => ?_) (fun e => ?_)
      · refine ⟨_, rfl, _, hR8, szs (by rw [List.length_map]; omega), R ++ [r], by rw [upd_same, List.map_append]; rfl, by rw [nx]; exact hsub.append (List.Sublist.refl _), (fun z => by cases z), (b8.mono (by omega)).put nD2c nD2l, (x7.trans x8).own hD2⟩
      · exact ⟨R, hR8, subk, hlq, b8.mono (by omega), x7.trans x8⟩
  rintro H7 ⟨R, hR, hsub, hlq, b7, x7⟩
  have x07 : Gs.Ext c H H7 := xw.trans x7
  have hF7 := x7 _ _ nFc hFw
  have hD7 := x7 _ _ nDc hDw
  have hT7 : ∀ p ∈ ls ++ lt, SqT K H7 p.1 [.int p.2.1, .int p.2.2] := fun p hp => x7.sqT (hc5 p hp) (hTw p hp)
  have b7 : Bag c l (n + 32) H7 := b7
  have hsub : R.Sublist steps4 := hsub
  clear x7 xw hFw hDw hTw hpw1 hD2 bw
  have ndall : ((ls ++ lt).map (·.2)).Nodup := hpm.nodup_iff.mpr all48_nd
  have okall : ∀ p ∈ (ls ++ lt).map (·.2), lpair (.int p.1) (.int p.2) = true := fun p hp => all48_ok p (hpm.mem_iff.mp hp)
  have drn : ∀ ps : List (Int × Int), ps.Nodup → (∀ p ∈ ps, lpair (.int p.1) (.int p.2) = true) → ps.length ≤ 8 → (ps ≠ [] ∨ R ≠ []) → Drn ps R q := fun ps h1 h2 h3 h4 =>
    ⟨h1, h2, h3, hsub.nodup (by decide +kernel), fun r hr => hsub.subset hr, hlq, h4⟩
  have fin : ∀ (F' : Addr) (ls' : Lv) (H8 : Hp), H8 F' = some (.lst (ls'.map fun p => V.ref p.1)) → F' ≠ c → H8 D2 = some (.lst (R.map V.str)) → (∀ p ∈ ls', SqT K H8 p.1 [.int p.2.1, .int p.2.2]) → (∀ p ∈ ls', p.1 ≠ c) → Drn (ls'.map (·.2)) R q → H F' = none → Bag c l (n + 40) H8 → Gs.Ext c H H8 →
      ∀ t, H8 t = none → Q (.ref t) (upd H8 t (.tup [.str z, .ref F', .ref D2, .bl q])) := by
    intro F' ls' H8 a1 a2 a3 a4 a5 a6 aF a7 a8 t ht
    have st : Same H8 (upd H8 t (.tup [.str z, .ref F', .ref D2, .bl q])) := same_new ht
    have htn : H t = none := by
      cases e : H t with
      | none => rfl
      | some o =>
        by_cases hc : t = c
        · subst hc; exact absurd rfl (a7.ne ht)
        · rw [a8 _ _ hc e] at ht; cases ht
    exact k t z ls' R F' D2 _ hz hzt a6 ⟨.of upd_same, st _ _ a1, st _ _ a3, fun p hp => st.seqT (a4 p hp)⟩ (a7.ne ht) a2 nD2c a5 htn aF hD2n (a7.same st) (a8.trans (Gs.Ext.of st))
  rw [List.map_append] at ndall okall
  have ndl := (List.nodup_append.mp ndall).1
  have l8 : (ls.map (·.2)).length ≤ 8 := by rw [List.length_map]; omega
  -- are there any
  refine ⟨_, rfl, szl rfl, fun e he => ?_⟩
  have se : Same H7 (upd H7 e (.lst [])) := same_new he
  have hT8 : ∀ p ∈ ls, SqT K (upd H7 e (.lst [])) p.1 [.int p.2.1, .int p.2.2] := fun p hp => se.seqT (hT7 p (List.mem_append_left _ hp))
  refine ⟨.list ((ls.map fun p : Addr × Int × Int => p.2).map prD), .list [], .lst (.of (se _ _ hF7)) (dp_prs hT8), .lst (.of upd_same) .nil, shaped_lst (can_prs _), by decide, _, rfl, ?_⟩
  rw [eqv_nil2]
  have s7 := se
  have hF8 := se _ _ hF7
  have hD8 := se _ _ hD7
  have hR8 := se _ _ hR
  have hTall : ∀ p ∈ ls ++ lt, SqT K (upd H7 e (.lst [])) p.1 [.int p.2.1, .int p.2.2] := fun p hp => se.seqT (hT7 p hp)
  have b8 := b7.same se
  have x8 : Gs.Ext c H (upd H7 e (.lst [])) := x07.trans (Gs.Ext.of se)
  clear hF7 hD7 hT7 b7 x07 se hR s7 he
  generalize upd H7 e (.lst []) = H8 at hT8 hF8 hD8 hR8 hTall b8 x8 ⊢
  refine iteB (fun e0 => ?_) (fun e0 => ?_)
  rotate_left
  · have ne : ls.map (·.2) ≠ [] := fun z => by rw [z] at e0; cases e0
    exact ⟨_, rfl, _, rfl, _, rfl, _, rfl, szl rfl, fun t ht => fin F ls H8 hF8 nFc hR8 hT8 (fun p hp => hc5 p (List.mem_append_left _ hp)) (drn _ ndl (fun p hp => okall p (List.mem_append_left _ hp)) l8 (.inl ne)) hFn (b8.mono (by omega)) x8 t ht⟩
  refine ⟨_, rfl, szl rfl, fun e2 he2 => ?_⟩
  have se2 : Same H8 (upd H8 e2 (.lst [])) := same_new he2
  refine ⟨.list (R.map .str), .list [], .lst (.of (se2 _ _ hR8)) (dp_sts R), .lst (.of upd_same) .nil, shaped_lst (can_st _ fun z hz => hsub.subset hz), by decide, _, rfl, ?_⟩
  rw [eqv_nil2]
  have hF9 := se2 _ _ hF8
  have hD9 := se2 _ _ hD8
  have hR9 := se2 _ _ hR8
  have hT9 : ∀ p ∈ ls ++ lt, SqT K (upd H8 e2 (.lst [])) p.1 [.int p.2.1, .int p.2.2] := fun p hp => se2.seqT (hTall p hp)
  have b9 := b8.same se2
  have x9 : Gs.Ext c H (upd H8 e2 (.lst [])) := x8.trans (Gs.Ext.of se2)
  clear hF8 hD8 hT8 hTall b8 x8 se2 hR8 he2
  generalize upd H8 e2 (.lst []) = H9 at hF9 hD9 hR9 hT9 b9 x9 ⊢
  refine iteB (fun e1 => ?_) (fun e1 => ?_)
  rotate_left
  · have ne : R ≠ [] := fun z => by rw [z] at e1; cases e1
    exact ⟨_, rfl, _, rfl, _, rfl, _, rfl, szl rfl, fun t ht => fin F ls H9 hF9 nFc hR9 (fun p hp => hT9 p (List.mem_append_left _ hp)) (fun p hp => hc5 p (List.mem_append_left _ hp)) (drn _ ndl (fun p hp => okall p (List.mem_append_left _ hp)) l8 (.inr ne)) hFn (b9.mono (by omega)) x9 t ht⟩
  have l48 : ls.length + lt.length = 48 := by
    have := hpm.length_eq
    rw [List.length_map, List.length_append] at this
    exact this.trans (by decide +kernel)
  refine ⟨_, rfl, _, rfl, c, l, D, _, _, rfl, b9, by omega, nDc, .of hD9, ?_, by rw [List.length_map]; omega, fun i v H10 hi b10 x10 => ?_⟩
  · intro z
    have := congrArg List.length z
    rw [List.length_map] at this
    have : lt.length = 0 := this
    omega
  rw [List.getElem?_map] at hi
  obtain ⟨p, hp, rfl⟩ := Option.map_eq_some_iff.mp hi
  have hpm2 : p ∈ ls ++ lt := List.mem_append_right _ (List.mem_of_getElem? hp)
  refine ⟨szl rfl, fun F2 hF2 => ?_⟩
  have sF2 : Same H10 (upd H10 F2 (.lst [V.ref p.1])) := same_new hF2
  have nF2 : F2 ≠ c := b10.ne hF2
  have hF2n : H F2 = none := by
    cases e : H F2 with
    | none => rfl
    | some o => rw [(x9.trans x10) _ _ nF2 e] at hF2; cases hF2
  have g1 : upd H10 F2 (.lst [V.ref p.1]) F2 = some (.lst ([p].map fun p => V.ref p.1)) := upd_same
  have g2 := sF2 _ _ (x10 _ _ nD2c hR9)
  have g3 : SqT K (upd H10 F2 (.lst [V.ref p.1])) p.1 [.int p.2.1, .int p.2.2] := sF2.seqT (x10.sqT (hc5 p hpm2) (hT9 p hpm2))
  have g4 := b10.same sF2
  have g5 : Gs.Ext c H (upd H10 F2 (.lst [V.ref p.1])) := (x9.trans x10).trans (Gs.Ext.of sF2)
  generalize upd H10 F2 (.lst [V.ref p.1]) = H11 at g1 g2 g3 g4 g5 ⊢
  refine ⟨_, rfl, _, rfl, _, rfl, _, rfl, szl rfl, fun t ht => fin F2 [p] H11 g1 nF2 g2 (fun r hr => by rw [List.mem_singleton.mp hr]; exact g3) (fun r hr => by rw [List.mem_singleton.mp hr]; exact hc5 p hpm2) (drn _ (List.nodup_cons.mpr ⟨by simp, List.nodup_nil⟩) (fun r hr => ?_) (Nat.le_of_ble_eq_true rfl) (.inl (by simp))) hF2n (g4.mono (by omega)) g5 t ht⟩
  rw [List.mem_singleton.mp hr]
  exact okall p.2 (by rw [← List.map_append]; exact List.mem_map_of_mem hpm2)
end
end K6

set_option Elab.async false
set_option linter.all false
set_option maxRecDepth 100000
set_option maxHeartbeats 8000000
namespace K6
open PySem PySem.Spec PyProof.Rows L2 Gs
structure DK where
  t : Addr
  la : Addr
  lb : Addr
  z : Str
  ls : Lv
  R : List Str
  q : Bool
section
variable {P : Program} {w : World} {K : PySem.W.Frag} {mg : Str → Option Value} {base : Heap}
/-- a drawn kind, apart from c -/
structure DkAt (K : PySem.W.Frag) (c : Addr) (H : Hp) (d : DK) : Prop where
  at_ : DrnAt K H d.t d.z d.ls d.R d.q d.la d.lb
  nt : d.t ≠ c
  na : d.la ≠ c
  nb : d.lb ≠ c
  np : ∀ p ∈ d.ls, p.1 ≠ c
  nm : isNameS d.z = true
  ok : Drn (d.ls.map (·.2)) d.R d.q
theorem DkAt.ext {c : Addr} {H H' : Hp} {d : DK} (h : DkAt K c H d) (x : Gs.Ext c H H') : DkAt K c H' d :=
  ⟨⟨x.sqT h.nt h.at_.tup, x _ _ h.na h.at_.la_, x _ _ h.nb h.at_.lb_, fun p hp => x.sqT (h.np p hp) (h.at_.ps p hp)⟩, h.nt, h.na, h.nb, h.np, h.nm, h.ok⟩
theorem DkAt.put {c S : Addr} {H : Hp} {d : DK} {ys zs : List V} (h : DkAt K c H d) (hS : H S = some (.lst ys)) (na : d.la ≠ S) (nb : d.lb ≠ S) : DkAt K c (upd H S (.lst zs)) d :=
  ⟨⟨seqT_lst hS h.at_.tup, by rw [upd_ne na]; exact h.at_.la_, by rw [upd_ne nb]; exact h.at_.lb_, fun p hp => seqT_lst hS (h.at_.ps p hp)⟩, h.nt, h.na, h.nb, h.np, h.nm, h.ok⟩
def spKs (K : PySem.W.Frag) : Sp := fun vs H Q _ => ∃ (c l : Addr) (n m : Nat), vs = [.ref c, .int m] ∧ Bag c l n H ∧ n ≤ 990000 ∧ 1 ≤ m ∧ m ≤ 5 ∧
  ∀ (kl : Addr) (ds : List DK) (H' : Hp), H' kl = some (.lst (ds.map fun d => V.ref d.t)) → kl ≠ c → (∀ d ∈ ds, DkAt K c H' d) → (ds.map (·.z)).Nodup → ds.length = m → Bag c l (n + 250) H' → Ext c H H' → Q (.ref kl) H'
theorem G__law_kinds (T : Tx K mg w) : FnG P w K mg base CX0 5 T.a__law_kinds T.d__law_kinds ["flask", "many"] (spKs K) := by
  refine fun_okG T.F__law_kinds sc__law_kinds (fun vs H Q E h => ?_) (fun cdv A outer s H vs Q E hr hg h => ?_)
  · obtain ⟨c, l, n, m, rfl, _⟩ := h; rfl
  obtain ⟨c, l, n, m, rfl, hb, hN, hm1, hm5, k⟩ := h
  refine ⟨_, (pss_cons (ps_set (i := 2) sc__law_kinds.nd rfl (Or.inl rfl) (pe_lst pa_nil))
      (pss_cons (ps_for PassesOwn.never rfl (pi_range1 (by rfl) T.z_range (pa_cons (pv 1) pa_nil)) (pg_name (i := 3) sc__law_kinds.nd rfl (Or.inl rfl)) (pss_one (ps_expr (pe_bm PySem.F.plainAttrs_list PySem.F.slot_list_append PySem.F.type_list_append mt_append (pv 2) (pa_cons (pg_call (G__law_kind T) (hr.mono (by decide)) hg (by rfl) T.m__law_kind T.F__law_kind.kp T.b__law_kind .nil pass0 (pa_cons (pv 0) (pa_cons (pe_lc (own := [("kind", 4)]) (g := (gName 4)) rfl sc__law_kinds.nd (pi_list (pv 2)) (blkOk_by (N := n__law_kinds) (sc := defScope s__law_kinds) (by decide +kernel)) (fun _ _ _ _ _ => (pg_name (i := 4) sc__law_kinds.nd rfl (Or.inl rfl))) (fun _ _ _ _ _ => pts_nil) (fun _ _ _ _ _ => (pe_ix (r := rIxT K) ix_tup (pv 4) pe_int (fun _ _ => rfl)))) (pa_cons (pe_or (pe_cmpR op_eq (pv 3) pe_int (nomark _)) (pe_one (pe_cmpR op_eq (pe_call (O__law_pour T) (hr.mono (by decide)) (by rfl) T.m__law_pour T.F__law_pour.kp T.b__law_pour .nil pass0 (pa_cons (pv 0) (pa_cons pe_int pa_nil))) pe_int (nomark _)))) pa_nil)))) pa_nil)))))
      (pss_one (ps_ret (pv 2))))), ?_⟩
  refine ⟨szl rfl, fun S hS => ?_⟩
  have nSc : S ≠ c := hb.ne hS
  have nSl : S ≠ l := hb.ne2 hS
  refine ⟨_, rfl, m, rfl, by omega, by omega, ?_⟩
  refine for_it (walk_range (lo := 0) (n := m)) (fun i σ H' => ∃ (t3 t4 : Option V) (ds : List DK), σ = [some (.ref c), some (.int (m : Int)), some (.ref S), t3, t4] ∧ H' S = some (.lst (ds.map fun d => V.ref d.t)) ∧ (∀ d ∈ ds, DkAt K c H' d ∧ d.la ≠ S ∧ d.lb ≠ S) ∧ (ds.map (·.z)).Nodup ∧ ds.length = i ∧ Bag c l (n + 50 * i) H' ∧ Gs.Ext c H H')
    ⟨_, _, [], rfl, upd_same, (fun d h => by cases h), List.nodup_nil, rfl, hb.new hS, Gs.Ext.new hS⟩ (fun _ _ _ _ _ => trivial) ?_ ?_
  rotate_left
  · rintro σ H1 ⟨t3, t4, ds, rfl, h1, h2, h3, h4, b1, x1⟩
    exact ⟨_, rfl, k S ds H1 h1 nSc (fun d hd => (h2 d hd).1) h3 h4 (b1.mono (by omega)) x1⟩
  rintro i x σ H1 H1' hi ⟨t3, t4, ds, rfl, h1, h2, h3, h4, b1, x1⟩ ⟨rfl, rfl⟩
  refine ⟨_, rfl, .inl ⟨rfl, _, .of h1⟩, _, rfl, ?_⟩
  -- the names so far
  refine ⟨_, rfl, _, rfl, ⟨_, .of h1⟩, fun D hD => ?_⟩
  have nDc : D ≠ c := b1.ne hD
  have hz1 : ∀ d ∈ ds, SqT K H1' d.t [.str d.z, .ref d.la, .ref d.lb, .bl d.q] := fun d hd => (h2 d hd).1.at_.tup
  refine lc_it (walk_list (K := K) (a := S) (xs := ds.map fun d => V.ref d.t)) (fun j H' => Same H1' H' ∧ H' D = some (.lst (((ds.take j).map (·.z)).map V.str))) ⟨same_new hD, upd_same⟩ (fun j H' _ h => h.1.seq (.of h1)) ?_ ?_
  · rintro j v H2 H3 hj ⟨s2, hD2⟩ ⟨rfl, hv⟩
    rw [List.getElem?_map] at hv
    obtain ⟨d, hd, rfl⟩ := Option.map_eq_some_iff.mp hv
    refine ⟨rfl, ?_⟩
    refine ⟨_, rfl, d.t, _, 0, .str d.z, rfl, rfl, s2.seqT (hz1 d (List.mem_of_getElem? hd)), rfl, _, hD2, ?_, same_own s2 hD, ?_⟩
    · rw [List.length_map, List.length_map]
      exact szs (by have := List.length_take_le' j ds; omega)
    · rw [upd_same, List.take_add_one, hd, List.map_append, List.map_append]; rfl
  rintro H2 ⟨s2, hD2⟩
  rw [List.length_map, List.take_length] at hD2
  have b2 := b1.same s2
  have x2 : Gs.Ext c H H2 := x1.trans (Gs.Ext.of s2)
  have hS2 := s2 _ _ h1
  have hk2 : ∀ d ∈ ds, DkAt K c H2 d ∧ d.la ≠ S ∧ d.lb ≠ S := fun d hd => ⟨(h2 d hd).1.ext (Gs.Ext.of s2), (h2 d hd).2⟩
  have hSn : H S = none := hS
  -- with a new one
  have go : ∀ (q : Bool) (n2 : Nat) (H3 : Hp), n2 ≤ n + 50 * i + 1 → Bag c l n2 H3 → Gs.Ext c H2 H3 → ∀ (t : Addr) (z : Str) (ls : Lv) (R : List Str) (la lb : Addr) (H4 : Hp), isNameS z = true → z ∉ ds.map (·.z) → Drn (ls.map (·.2)) R q → DrnAt K H4 t z ls R q la lb → t ≠ c → la ≠ c → lb ≠ c → (∀ p ∈ ls, p.1 ≠ c) → H3 t = none → H3 la = none → H3 lb = none → Bag c l (n2 + 40) H4 → Gs.Ext c H3 H4 →
      ∃ acc, H4 S = some (.lst acc) ∧ acc = (ds.map fun d => V.ref d.t) ∧ ∃ ds' : List DK, upd H4 S (.lst (acc ++ [V.ref t])) S = some (.lst (ds'.map fun d => V.ref d.t)) ∧ (∀ d ∈ ds', DkAt K c (upd H4 S (.lst (acc ++ [V.ref t]))) d ∧ d.la ≠ S ∧ d.lb ≠ S) ∧ (ds'.map (·.z)).Nodup ∧ ds'.length = i + 1 ∧ Bag c l (n + 50 * (i + 1)) (upd H4 S (.lst (acc ++ [V.ref t]))) ∧ Gs.Ext c H (upd H4 S (.lst (acc ++ [V.ref t]))) := by
    intro q n2 H3 hn2 b3 x3 t z ls R la lb H4 g1 g2 g3 g4 g5 g6 g7 g8 g9 g10 g11 b4 x4
    have hS3 := x3 _ _ nSc hS2
    have hS4 := x4 _ _ nSc hS3
    have nla : la ≠ S := fun e => by rw [e, hS3] at g10; cases g10
    have nlb : lb ≠ S := fun e => by rw [e, hS3] at g11; cases g11
    refine ⟨_, hS4, rfl, ds ++ [⟨t, la, lb, z, ls, R, q⟩], by rw [upd_same, List.map_append]; rfl, fun d hd => ?_, ?_, by rw [List.length_append, h4]; rfl, (b4.put nSc nSl).mono (by omega), ((x2.trans x3).trans x4).own hSn⟩
    · rcases List.mem_append.mp hd with hd | hd
      · have hk := hk2 d hd
        exact ⟨((hk.1.ext (x3.trans x4)).put hS4 hk.2.1 hk.2.2), hk.2⟩
      · rw [List.mem_singleton.mp hd]
        exact ⟨DkAt.put ⟨g4, g5, g6, g7, g8, g1, g3⟩ hS4 nla nlb, nla, nlb⟩
    · rw [List.map_append, List.nodup_append]
      refine ⟨h3, by simp, fun a ha b hb e => ?_⟩
      have hb : b = z := by simpa using hb
      rw [e, hb] at ha
      exact g2 ha
  refine ⟨_, rfl, rfl, _, rfl, ?_⟩
  refine iteB (fun e => ?_) (fun e => ?_)
  · refine ⟨c, l, D, _, ds.map (·.z), _, rfl, b2, by omega, nDc, .of hD2, by rw [List.length_map]; omega, fun t z ls R la lb H4 g1 g2 g3 g4 g5 g6 g7 g8 g9 g10 g11 b4 x4 => ?_⟩
    obtain ⟨acc, a1, rfl, ds', a2, a3, a4, a5, a6, a7⟩ := go true _ _ (by omega) b2 (Gs.Ext.of (Same.refl _)) t z ls R la lb H4 g1 g2 g3 g4 g5 g6 g7 g8 g9 g10 g11 b4 x4
    exact ⟨S, _, _, rfl, rfl, a1, szs (by rw [List.length_map]; omega), _, _, ds', rfl, a2, a3, a4, a5, a6, a7⟩
  · refine ⟨_, rfl, c, l, _, _, rfl, b2, by omega, by decide, by decide, fun v H3 v0 v1 b3 x3 => ⟨rfl, ?_⟩⟩
    refine ⟨c, l, D, _, ds.map (·.z), _, rfl, b3, by omega, nDc, .of (x3 _ _ nDc hD2), by rw [List.length_map]; omega, fun t z ls R la lb H4 g1 g2 g3 g4 g5 g6 g7 g8 g9 g10 g11 b4 x4 => ?_⟩
    obtain ⟨acc, a1, rfl, ds', a2, a3, a4, a5, a6, a7⟩ := go _ _ _ (by omega) b3 x3 t z ls R la lb H4 g1 g2 g3 g4 g5 g6 g7 g8 g9 g10 g11 b4 x4
    exact ⟨S, _, _, rfl, rfl, a1, szs (by rw [List.length_map]; omega), _, _, ds', rfl, a2, a3, a4, a5, a6, a7⟩
end
end K6

set_option Elab.async false
set_option linter.all false
set_option maxRecDepth 100000
set_option maxHeartbeats 8000000
namespace K6
open PySem PySem.Spec PyProof.Rows L2 Gs
def ridL (R : List Str) : List Str := steps4.filter fun z => decide (z ∈ R)
/-- lists or tuples of leaps that bear pr -/
structure Leaps (dl : PyData) (pr : List (Int × Int)) : Prop where
  ok : areLeaps dl = true
  pr : (seqOf dl).map pairOf = pr
  few : few dl
structure Rides (dr : PyData) (R : List Str) : Prop where
  ok : areRides dr = true
  rs : (seqOf dr).map rkey = R
  few : few dr
theorem leaps_of {ds : List PyData} {pr : List (Int × Int)} (hk : ds.map lkey = pr.map fun p => [p.1, p.2]) (nd : pr.Nodup) (ok : ∀ p ∈ pr, lpair (.int p.1) (.int p.2) = true) (hd : ∀ d ∈ ds, ∃ a u : Int, d = .list [.int a, .int u] ∨ d = .tuple [.int a, .int u]) (hf : pr.length ≤ 62) : Leaps (.list ds) pr ∧ Leaps (.tuple ds) pr := by
  have hlen : ds.length = pr.length := by have := congrArg List.length hk; simpa using this
  have h1 : ds.all isLeap = true := by
    refine List.all_eq_true.mpr fun d hdm => ?_
    obtain ⟨a, u, e⟩ := hd d hdm
    have hm : lkey d ∈ pr.map fun p => [p.1, p.2] := by rw [← hk]; exact List.mem_map_of_mem hdm
    obtain ⟨p, hp, ep⟩ := List.mem_map.mp hm
    have hok := ok p hp
    rcases e with rfl | rfl
    · have ep : [p.1, p.2] = [a, u] := ep
      injection ep with e1 e2
      injection e2 with e2
      rw [e1, e2] at hok
      exact hok
    · have ep : [p.1, p.2] = [a, u] := ep
      injection ep with e1 e2
      injection e2 with e2
      rw [e1, e2] at hok
      exact hok
  have h2 : (ds.map lkey).Nodup := by
    rw [hk]
    refine List.Pairwise.map _ (fun a b hab z => hab ?_) nd
    have e1 := (List.cons.inj z).1
    have e2 := (List.cons.inj (List.cons.inj z).2).1
    exact Prod.ext e1 e2
  have h3 : leapsOk ds = true := by
    unfold leapsOk
    rw [h1, decide_eq_true h2]; rfl
  have h4 : ds.map pairOf = pr := by
    have e : pairOf = (fun l : List Int => match l with | [a, b] => (a, b) | _ => (0, 0)) ∘ lkey := by funext d; rfl
    rw [e, ← List.map_map, hk, List.map_map]
    exact (List.map_congr_left fun p _ => rfl).trans (List.map_id _)
  have hf2 : ds.length ≤ 62 := by omega
  exact ⟨⟨h3, h4, hf2⟩, ⟨h3, h4, hf2⟩⟩
theorem leaps_pairs {pr : List (Int × Int)} (nd : pr.Nodup) (ok : ∀ p ∈ pr, lpair (.int p.1) (.int p.2) = true) (hf : pr.length ≤ 62) : Leaps (.list (pr.map prD)) pr ∧ Leaps (.tuple (pr.map prD)) pr :=
  leaps_of (by rw [List.map_map]; rfl) nd ok (fun d hd => by
    obtain ⟨p, _, rfl⟩ := List.mem_map.mp hd
    exact ⟨p.1, p.2, .inr rfl⟩) hf
theorem rides_of {R : List Str} (nd : R.Nodup) (st : ∀ r ∈ R, r ∈ steps4) : Rides (.list (R.map PyData.str)) R ∧ Rides (.tuple (R.map PyData.str)) R := by
  have e : (R.map PyData.str).map rkey = R := by
    rw [List.map_map]
    exact (List.map_congr_left fun r _ => rfl).trans (List.map_id _)
  have h : ridesOk (R.map PyData.str) = true := by
    unfold ridesOk
    rw [e, decide_eq_true nd, Bool.and_true, List.all_map]
    exact List.all_eq_true.mpr fun r hr => decide_eq_true (st r hr)
  have hl : (R.map PyData.str).length ≤ 62 := by
    rw [List.length_map]
    have := nodup_le nd st
    have h4 : steps4.length = 4 := rfl
    omega
  exact ⟨⟨h, e, hl⟩, ⟨h, e, hl⟩⟩
section
variable {K : PySem.W.Frag}
theorem sp_ok {C DB DM c x dx : Addr} {H0 : Hp} {Q : VK} {E : XK} {z : Str} {vl vr : V} {dl dr : PyData} {pr : List (Int × Int)} {R : List Str} {q : Bool} (hx : H0 x = none) (hdx : H0 dx = none) (hxc : x ≠ c) (hdc : dx ≠ c) (nm : isNameS z = true)
    (hl : DV K c H0 vl dl) (hr : DV K c H0 vr dr) (L : Leaps dl pr) (Rd : Rides dr R) (hq : q = true → R = []) (hne : pr ≠ [] ∨ R ≠ [])
    (k : ∀ ps H', Same H0 H' → KindAt K C H' x z ps (ridL R) q → ps.Perm pr → ps.Pairwise (fun x y => SrtO.lexB y x = false) → Q .non H') :
    spKind K C DB DM [.ref x, .str z, vl, vr, .bl q] (upd (upd H0 dx (.own x)) x (.ins C dx [])) Q E := by
  have old : Same H0 (upd (upd H0 dx (.own x)) x (.ins C dx [])) := fun y o h => by
    rw [upd_ne (ne_of_none h hx), upd_ne (ne_of_none h hdx)]; exact h
  have kb : kindBad (.str z) dl dr (.bool q) = none := by
    have e1 : isNm (.str z) = true := nm
    unfold kindBad
    rw [if_neg (by rw [e1]; decide), if_neg (by rw [L.ok]; decide), if_neg (by rw [Rd.ok]; decide), if_neg (fun z : isBl (.bool q) = false => by cases z), if_neg, if_neg]
    · intro h
      obtain ⟨h1, h2⟩ := Bool.and_eq_true_iff.mp h
      have g1 : seqOf dl = [] := List.isEmpty_iff.mp h1
      have g2 : seqOf dr = [] := List.isEmpty_iff.mp h2
      rcases hne with h | h
      · exact h (by rw [← L.pr, g1]; rfl)
      · exact h (by rw [← Rd.rs, g2]; rfl)
    · intro h
      obtain ⟨h1, h2⟩ := Bool.and_eq_true_iff.mp h
      have h1 : q = true := h1
      have e := Rd.rs
      rw [hq h1] at e
      have : seqOf dr = [] := List.map_eq_nil_iff.mp e
      rw [this] at h2
      cases h2
  refine ⟨x, dx, c, .str z, vl, vr, .bl q, .str z, dl, dr, .bool q, rfl, upd_same, .str z, hl.up (Ext.of old), hr.up (Ext.of old), .bl q, fun y e => ?_, L.few, Rd.few, fun m p e => (by rw [kb] at e; cases e),
    fun _ tl tr ls2 H5 e5 h5 htl hls2 perm pw htr => ?_⟩
  · cases e
    have h := nm
    unfold isNameS at h
    rw [Bool.and_eq_true, Bool.and_eq_true, Bool.and_eq_true] at h
    have := of_decide_eq_true h.1.1.2
    omega
  have e : ridesOf dr = ridL R := by unfold ridesOf ridL; rw [Rd.rs]
  rw [e] at htr
  rw [L.pr] at perm
  refine k (ls2.map (·.2)) H5 (fun y o h => e5 y o (ne_of_none h hx) (old y o h)) ⟨dx, tl, tr, ls2, h5, htl, hls2, rfl, htr⟩ perm (List.pairwise_map.mpr pw)
end
/-! ### the ways in which Kind and Game are called -/
section
variable {K : PySem.W.Frag} {mg : Str → Option Value} {w : World}
/-- name and leaps given -/
theorem b2_Kind (T : Tx K mg w) : ∃ ds : List Value, Vals (([.ref T.t_E, .bl false] : List V).drop 0) ds ∧ Binds K T.d_Kind___init__ ["self", "name", "leaps", "rides", "is_lord"] ds :=
  FunD.binds1 T.F_Kind___init__ 3 0 (by simp) rfl fun T kV doc pm an cdv ct us its l1 l2 => by
    match us, its, l1, l2 with
    | [x, n, l], [d1, d2], _, _ => exact ⟨_, rfl, rfl⟩
/-- name, leaps and rides given -/
theorem b3_Kind (T : Tx K mg w) : ∃ ds : List Value, Vals (([.ref T.t_E, .bl false] : List V).drop 1) ds ∧ Binds K T.d_Kind___init__ ["self", "name", "leaps", "rides", "is_lord"] ds :=
  FunD.binds1 T.F_Kind___init__ 4 1 (by simp) rfl fun T kV doc pm an cdv ct us its l1 l2 => by
    match us, its, l1, l2 with
    | [x, n, l, r], [d1, d2], _, _ => exact ⟨_, rfl, rfl⟩
/-- the kinds alone given -/
theorem b1_Game (T : Tx K mg w) : ∃ ds : List Value, Vals (([.ref T.t_N4, .ref T.t_H1] : List V).drop 0) ds ∧ Binds K T.d_Game___init__ ["self", "kinds", "edges", "goal"] ds :=
  FunD.binds1 T.F_Game___init__ 2 0 (by simp) rfl fun T kV doc pm an cdv ct us its l1 l2 => by
    match us, its, l1, l2 with
    | [x, n], [d1, d2], _, _ => exact ⟨_, rfl, rfl⟩
end
section
variable {P : Program} {w : World} {K : PySem.W.Frag} {mg : Str → Option Value} {base : Heap}
/-- a kind made of a drawn one -/
def MadeOf (k : KdT) (d : DK) : Prop := k.z = d.z ∧ k.q = d.q ∧ k.ps.Perm (d.ls.map (·.2))
def spMade (K : PySem.W.Frag) (CK : Addr) : Sp := fun vs H Q _ => ∃ (c kl : Addr) (ds : List DK), vs = [.ref kl] ∧ H kl = some (.lst (ds.map fun d => V.ref d.t)) ∧ H c ≠ none ∧ (∀ d ∈ ds, DkAt K c H d) ∧ ds.length ≤ 5 ∧
  ∀ (l : Addr) (ks : List KdT) (H' : Hp), H' l = some (.lst (refsK ks)) → H l = none → KAs K CK H' ks → ks.length = ds.length → (∀ (i : Nat) k d, ks[i]? = some k → ds[i]? = some d → MadeOf k d) → Same H H' → Q (.ref l) H'
theorem O__law_made (T : Tx K mg w) : FnOk P w K mg base CX0 9 T.a__law_made T.d__law_made ["kinds"] (spMade K T.c_Kind) := by
  refine T.F__law_made.ok sc__law_made (fun vs H Q E h => ?_) (fun cdv A outer s H vs Q E hr h => ?_)
  · obtain ⟨c, kl, ds, rfl, _⟩ := h; rfl
  obtain ⟨c, kl, ds, rfl, hkl, hc, hds, h5, k⟩ := h
  refine ⟨_, (pss_one (ps_ret (pe_lc (own := [("name", 1), ("leaps", 2), ("rides", 3), ("is_lord", 4)]) (g := (gTup K 4 (gCons (gName 1) (gCons (gName 2) (gCons (gName 3) (gCons (gName 4) gNil)))))) rfl sc__law_made.nd (pi_list (pv 0)) (blkOk_by (N := n__law_made) (sc := defScope s__law_made) (by decide +kernel)) (fun _ _ _ _ _ => (pg_tup rfl (pgs_cons (pg_name (i := 1) sc__law_made.nd rfl (Or.inl rfl)) (pgs_cons (pg_name (i := 2) sc__law_made.nd rfl (Or.inl rfl)) (pgs_cons (pg_name (i := 3) sc__law_made.nd rfl (Or.inl rfl)) (pgs_cons (pg_name (i := 4) sc__law_made.nd rfl (Or.inl rfl)) pgs_nil)))))) (fun _ _ _ _ _ => pts_nil) (fun _ _ _ _ _ => (pe_make T.mk_Kind (O_Kind___init__ T) (hr.mono (by decide)) (by rfl) T.m_Kind T.b5_Kind .nil passL (pa_cons (pv 1) (pa_cons (pv 2) (pa_cons (pv 3) (pa_cons (pv 4) pa_nil))))))))), ?_⟩
  refine ⟨_, rfl, _, rfl, ⟨_, .of hkl⟩, fun D hD => ?_⟩
  refine lc_it (walk_list (K := K) (a := kl) (xs := ds.map fun d => V.ref d.t)) (fun i H' => ∃ ks : List KdT, H' D = some (.lst (refsK ks)) ∧ KAs K T.c_Kind H' ks ∧ ks.length = i ∧ (∀ (j : Nat) k d, ks[j]? = some k → ds[j]? = some d → MadeOf k d) ∧ Same H H') ⟨[], upd_same, (fun k h => by cases h), rfl, (fun j k d h => by cases h), same_new hD⟩ (fun i H' _ h => by obtain ⟨_, _, _, _, _, s⟩ := h; exact s.seq (.of hkl)) ?_ ?_
  · rintro i v H1 H2 hi ⟨ks, h1, h2, h3, h4, s1⟩ ⟨rfl, hv⟩
    rw [List.getElem?_map] at hv
    obtain ⟨d, hd, rfl⟩ := Option.map_eq_some_iff.mp hv
    have hdd := hds d (List.mem_of_getElem? hd)
    have hx1 : Gs.Ext c H H2 := Gs.Ext.of s1
    have da := hdd.ext hx1
    refine ⟨d.t, _, rfl, da.at_.tup, rfl, _, _, rfl, _, _, rfl, _, _, rfl, _, _, rfl, rfl, rfl, ?_⟩
    refine ⟨_, rfl, _, rfl, _, rfl, _, rfl, fun x dx hx hdx ndx => ?_⟩
    have nec : ∀ y, H2 y = none → y ≠ c := fun y hy e => by
      cases e2 : H c with
      | none => exact hc e2
      | some o => rw [e, s1 _ _ e2] at hy; cases hy
    have dvl : DV K c H2 (.ref d.la) (.list ((d.ls.map fun p : Addr × Int × Int => p.2).map prD)) := .lst da.na (.of da.at_.la_) (by
      have : ∀ ls : Lv, (∀ p ∈ ls, SqT K H2 p.1 [.int p.2.1, .int p.2.2]) → (∀ p ∈ ls, p.1 ≠ c) → DVs K c H2 (ls.map fun p => V.ref p.1) ((ls.map fun p : Addr × Int × Int => p.2).map prD) := by
        intro ls
        induction ls with
        | nil => intro _ _; exact .nil
        | cons p r ih =>
          intro h g
          exact .cons (.tup (g p List.mem_cons_self) (h p List.mem_cons_self) (.cons (.int _) (.cons (.int _) .nil))) (ih (fun q hq => h q (List.mem_cons_of_mem _ hq)) (fun q hq => g q (List.mem_cons_of_mem _ hq)))
      exact this d.ls da.at_.ps da.np)
    have dvr : DV K c H2 (.ref d.lb) (.list (d.R.map PyData.str)) := .lst da.nb (.of da.at_.lb_) (by
      have : ∀ R : List Str, DVs K c H2 (R.map V.str) (R.map PyData.str) := by
        intro R
        induction R with
        | nil => exact .nil
        | cons p r ih => exact .cons (.str p) ih
      exact this d.R)
    refine sp_ok (c := c) hx hdx (nec x hx) (nec dx hdx) da.nm dvl dvr (leaps_pairs da.ok.nd da.ok.ok (Nat.le_trans da.ok.few (by decide))).1 (rides_of da.ok.nr da.ok.st).1 da.ok.lord da.ok.some fun ps2 H3 s3 kat perm _ => ⟨rfl, _, s3 _ _ h1, ?_, ks ++ [⟨x, d.z, ps2, ridL d.R, d.q⟩], ?_, ?_, ?_, ?_, same_own (s1.trans s3) hD⟩
    · rw [List.length_map]; exact szs (by have hi : i < (ds.map fun d => V.ref d.t).length := hi; rw [List.length_map] at hi; omega)
    · rw [upd_same]
      unfold refsK
      rw [List.map_append]; rfl
    · have up : ∀ k, KindAt K T.c_Kind H3 k.a k.z k.ps k.rs k.q → KindAt K T.c_Kind (upd H3 D (.lst (refsK ks ++ [V.ref x]))) (KdT.a k) k.z k.ps k.rs k.q := fun k hk => by
        obtain ⟨d2, tl, tr, ls, g1, g2, g3, g4, g5⟩ := hk
        have hD3 := s3 _ _ h1
        exact ⟨d2, tl, tr, ls, by rw [upd_ne (fun e => by rw [e, hD3] at g1; cases g1)]; exact g1, seqT_lst hD3 g2, fun p hp => seqT_lst hD3 (g3 p hp), g4, seqT_lst hD3 g5⟩
      intro k hk
      rcases List.mem_append.mp hk with hk | hk
      · exact up k ((h2 k hk).same s3)
      · rw [List.mem_singleton.mp hk]; exact up ⟨x, d.z, ps2, ridL d.R, d.q⟩ kat
    · rw [List.length_append, h3]; rfl
    · intro j k d2 hj hd2
      by_cases lt : j < ks.length
      · rw [List.getElem?_append_left lt] at hj; exact h4 j k d2 hj hd2
      · rw [List.getElem?_append_right (by omega)] at hj
        have e0 : j - ks.length = 0 := by
          by_cases z : j - ks.length = 0
          · exact z
          · rw [List.getElem?_eq_none (by simp; omega)] at hj; cases hj
        rw [e0] at hj
        cases hj
        have ej : j = i := by omega
        rw [ej, hd] at hd2
        cases hd2
        exact ⟨rfl, rfl, perm⟩
  rintro H1 ⟨ks, h1, h2, h3, h4, s1⟩
  rw [List.length_map] at h3
  exact k D ks H1 h1 hD h2 h3 h4 s1
end
end K6

set_option Elab.async false
set_option linter.all false
set_option maxRecDepth 100000
set_option maxHeartbeats 8000000
namespace K6
open PySem PySem.Spec PyProof.Rows L2 Gs
section
variable {P : Program} {w : World} {K : PySem.W.Frag} {mg : Str → Option Value} {base : Heap}
def spFar : Sp := fun vs H Q _ => ∃ (c l : Addr) (n : Nat), vs = [.ref c] ∧ Bag c l n H ∧ n ≤ 999000 ∧ ∀ (v : Int) H', Bag c l (n + 2) H' → Gs.Ext c H H' → Q (.int v) H'
theorem O__law_far (T : Tx K mg w) : FnOk P w K mg base CX0 3 T.a__law_far T.d__law_far ["flask"] spFar := by
  refine T.F__law_far.ok sc__law_far (fun vs H Q E h => ?_) (fun cdv A outer s H vs Q E hr h => ?_)
  · obtain ⟨c, l, n, rfl, _⟩ := h; rfl
  obtain ⟨c, l, n, rfl, hb, hN, k⟩ := h
  refine ⟨_, (pss_cons (ps_set (i := 1) sc__law_far.nd rfl (Or.inl rfl) (pe_op op_sub (pe_call (O__law_pour T) (hr.mono (by decide)) (by rfl) T.m__law_pour T.F__law_pour.kp T.b__law_pour .nil pass0 (pa_cons (pv 0) (pa_cons pe_int pa_nil))) pe_int))
      (pss_one (ps_ret (pe_call (O__law_sip T) (hr.mono (by decide)) (by rfl) T.m__law_sip T.F__law_sip.kp T.b__law_sip .nil pass0 (pa_cons (pv 0) (pa_cons (pe_lst (pa_cons (pv 1) (pa_cons (pe_op op_mul pe_int (pv 1)) (pa_cons (pe_op op_add (pv 1) (pe_op op_pow pe_int pe_int)) (pa_cons (pe_op op_sub (pv 1) (pe_op op_pow pe_int pe_int)) (pa_cons (pe_op op_mul (pe_op op_sub (pe_op op_pow pe_int pe_int) pe_int) (pv 1)) pa_nil)))))) pa_nil)))))), ?_⟩
  refine ⟨_, rfl, c, l, n, _, rfl, hb, by omega, by decide, by decide, fun v H1 v0 v1 b1 x1 => ⟨_, _, rfl, rfl, ?_⟩⟩
  refine ⟨_, rfl, _, rfl, _, rfl, _, _, rfl, rfl, .inl ⟨by decide, by decide⟩, _, rfl, _, _, rfl, rfl, ⟨by decide, by decide, by decide⟩, _, _, rfl, rfl, _, rfl, _, _, rfl, rfl, ⟨by decide, by decide, by decide⟩, _, _, rfl, rfl,
    _, _, rfl, rfl, ⟨by decide, by decide, by decide⟩, _, _, rfl, rfl, _, rfl, _, _, rfl, rfl, .inr ⟨by omega, by omega⟩, szl rfl, fun p hp => ?_⟩
  refine ⟨c, l, p, _, _, rfl, b1.new hp, by omega, b1.ne hp, .of upd_same, by simp, szl2 rfl, fun i v H2 hi b2 x2 => ?_⟩
  have x := x1.trans ((Gs.Ext.new hp).trans x2)
  have hm := one_of hi
  simp only [List.mem_cons, List.not_mem_nil, or_false] at hm
  rcases hm with rfl | rfl | rfl | rfl | rfl <;> exact k _ _ b2 x
def spNear (K : PySem.W.Frag) : Sp := fun vs H Q _ => ∃ (c l e : Addr) (n : Nat) (es : List (Option Int)), vs = [.ref c, .ref e] ∧ Bag c l n H ∧ n ≤ 998000 ∧ e ≠ c ∧ SqL K H e (es.map oV) ∧ es.length ≤ 4 ∧ ∀ (v : Int) H', Bag c l (n + 5) H' → Gs.Ext c H H' → Q (.int v) H'
theorem O__law_near (T : Tx K mg w) : FnOk P w K mg base CX0 4 T.a__law_near T.d__law_near ["flask", "edges"] (spNear K) := by
  refine T.F__law_near.ok sc__law_near (fun vs H Q E h => ?_) (fun cdv A outer s H vs Q E hr h => ?_)
  · obtain ⟨c, l, e, n, es, rfl, _⟩ := h; rfl
  obtain ⟨c, l, e, n, es, rfl, hb, hN, nec, he, h4, k⟩ := h
  refine ⟨_, (pss_cons (ps_setLc (i := 2) (own := [("edge", 3)]) (g := (gName 3)) rfl sc__law_near.nd rfl rfl (sw_true rfl rfl rfl (by decide +kernel)) (pi_list (pv 1)) (blkOk_by (N := n__law_near) (sc := defScope s__law_near) (by decide +kernel)) (fun _ _ _ _ _ => (pg_name (i := 3) sc__law_near.nd rfl (Or.inl rfl))) (fun _ _ _ _ _ => pts_one (pt_cmpR op_notN (pv 3) pe_non (nomark _))) (fun _ _ _ _ _ => (pv 3)))
      (pss_cons (ps_if (PW.pt (pw_or (pt_cmpR (op_eqD hr.units) (pv 2) (pe_lst pa_nil) (nomark _)) (pw_or1 (pt_cmpR op_eq (pe_call (O__law_pour T) (hr.mono (by decide)) (by rfl) T.m__law_pour T.F__law_pour.kp T.b__law_pour .nil pass0 (pa_cons (pv 0) (pa_cons pe_int pa_nil))) pe_int (nomark _))))) (pss_one (ps_ret (pe_call (O__law_far T) (hr.mono (by decide)) (by rfl) T.m__law_far T.F__law_far.kp T.b__law_far .nil pass0 (pa_cons (pv 0) pa_nil)))) pss_nil)
      (pss_one (ps_ret (pe_op op_add (pe_call (O__law_sip T) (hr.mono (by decide)) (by rfl) T.m__law_sip T.F__law_sip.kp T.b__law_sip .nil pass0 (pa_cons (pv 0) (pa_cons (pv 2) pa_nil))) (pe_call (O__law_sip T) (hr.mono (by decide)) (by rfl) T.m__law_sip T.F__law_sip.kp T.b__law_sip .nil pass0 (pa_cons (pv 0) (pa_cons (pe_lst (pa_cons pe_int (pa_cons pe_int (pa_cons (pe_un un_neg pe_int) (pa_cons (pe_op op_pow pe_int pe_int) (pa_cons (pe_un un_neg (pe_op op_pow pe_int pe_int)) (pa_cons pe_int pa_nil))))))) pa_nil)))))))), ?_⟩
  refine ⟨_, rfl, _, rfl, ⟨_, he⟩, fun D hD => ?_⟩
  refine lc_it (walk_list (K := K) (a := e) (xs := es.map oV)) (fun i H' => Same H H' ∧ H' D = some (.lst (((es.take i).filterMap id).map V.int))) ⟨same_new hD, upd_same⟩ (fun i H' _ h => h.1.seq he) ?_ ?_
  · rintro i v H1 H2 hi ⟨s1, hD1⟩ ⟨rfl, hv⟩
    rw [List.getElem?_map] at hv
    obtain ⟨eo, heo, rfl⟩ := Option.map_eq_some_iff.mp hv
    have hi : i < es.length := (List.getElem?_eq_some_iff.mp heo).1
    refine ⟨rfl, ?_⟩
    have nx : (es.take (i + 1)).filterMap id = (es.take i).filterMap id ++ eo.toList := by
      rw [List.take_add_one, heo, List.filterMap_append]
      cases eo <;> rfl
    refine ⟨_, rfl, rfl, _, rfl, ?_⟩
    cases eo with
    | none =>
      refine iteF ⟨s1, ?_⟩
      rw [nx]; simpa using hD1
    | some z =>
      refine iteT ⟨_, rfl, _, hD1, ?_, same_own s1 hD, ?_⟩
      · rw [List.length_map]
        exact szs (by have h1 := List.length_filterMap_le id (es.take i); have h2 := List.length_take_le' i es; omega)
      · rw [upd_same, nx, List.map_append]; rfl
  rintro H1 ⟨s1, hD1⟩
  rw [List.length_map, List.take_length] at hD1
  have b1 := hb.same s1
  have nDc : D ≠ c := hb.ne hD
  have lz : (es.filterMap id).length ≤ 4 := Nat.le_trans (List.length_filterMap_le ..) h4
  revert hD1 lz
  generalize es.filterMap id = ns
  intro hD1 lz
  refine ⟨_, rfl, szl rfl, fun f hf => ?_⟩
  have sf : Same H1 (upd H1 f (.lst [])) := same_new hf
  refine ⟨.list (ns.map .int), .list [], .lst (.of (sf _ _ hD1)) (dp_ints ns), .lst (.of upd_same) .nil, shaped_ints ns, by decide, _, rfl, ?_⟩
  rw [eqv_nil2]
  have hD2 := sf _ _ hD1
  have b2 := b1.same sf
  have x2 : Gs.Ext c H (upd H1 f (.lst [])) := Gs.Ext.of (s1.trans sf)
  clear hD1 b1 s1 hf sf
  generalize upd H1 f (.lst []) = H2 at hD2 b2 x2 ⊢
  refine iteB (fun e0 => ?_) (fun e0 => ?_)
  · exact ⟨_, rfl, c, l, n, rfl, b2, by omega, fun v H3 b3 x3 => k v H3 (b3.mono (by omega)) (x2.trans x3)⟩
  refine ⟨_, rfl, c, l, n, _, rfl, b2, by omega, by decide, by decide, fun v H3 v0 v1 b3 x3 => ⟨rfl, _, rfl, ?_⟩⟩
  have hD3 := x3 _ _ nDc hD2
  refine iteB (fun e1 => ?_) (fun e1 => ?_)
  · exact ⟨_, rfl, c, l, _, rfl, b3, by omega, fun v H4 b4 x4 => k v H4 (b4.mono (by omega)) ((x2.trans x3).trans x4)⟩
  have hne : ns ≠ [] := fun z => by rw [z] at e0; cases e0
  refine ⟨_, rfl, _, rfl, c, l, D, _, _, rfl, b3, by omega, nDc, .of hD3, fun z => hne (List.map_eq_nil_iff.mp z), by rw [List.length_map]; omega, fun i v H4 hi b4 x4 => ?_⟩
  rw [List.getElem?_map] at hi
  obtain ⟨z, hz, rfl⟩ := Option.map_eq_some_iff.mp hi
  refine ⟨_, rfl, _, rfl, _, _, rfl, rfl, ⟨by decide, by decide, by decide⟩, _, _, rfl, rfl, ⟨by decide, by decide, by decide⟩, _, rfl, szl rfl, fun p hp => ?_⟩
  refine ⟨c, l, p, _, _, rfl, b4.new hp, by omega, b4.ne hp, .of upd_same, by simp, szl2 rfl, fun j v H5 hj b5 x5 => ?_⟩
  have x : Gs.Ext c H H5 := ((x2.trans x3).trans x4).trans ((Gs.Ext.new hp).trans x5)
  have hm := one_of hj
  simp only [List.mem_cons, List.not_mem_nil, or_false] at hm
  rcases hm with rfl | rfl | rfl | rfl | rfl | rfl <;> exact ⟨_, _, rfl, rfl, k _ _ (b5.mono (by omega)) x⟩
def spEd (K : PySem.W.Frag) : Sp := fun vs H Q _ => ∃ (c l : Addr) (n : Nat), vs = [.ref c] ∧ Bag c l n H ∧ n ≤ 998000 ∧ ∀ (e : Addr) (a b a' b' : Option Int) H', H' e = some (.lst [oV a, oV b, oV a', oV b']) → leO a b = true → leO a' b' = true → e ≠ c → Bag c l (n + 10) H' → Gs.Ext c H H' → Q (.ref e) H'
theorem O__law_edges (T : Tx K mg w) : FnOk P w K mg base CX0 4 T.a__law_edges T.d__law_edges ["flask"] (spEd K) := by
  refine T.F__law_edges.ok sc__law_edges (fun vs H Q E h => ?_) (fun cdv A outer s H vs Q E hr h => ?_)
  · obtain ⟨c, l, n, rfl, _⟩ := h; rfl
  obtain ⟨c, l, n, rfl, hb, hN, k⟩ := h
  refine ⟨_, (pss_cons (ps_set (i := 1) sc__law_edges.nd rfl (Or.inl rfl) (pe_lst pa_nil))
      (pss_cons (ps_for PassesOwn.never rfl (pi_range1 (by rfl) T.z_range (pa_cons pe_int pa_nil)) (pg_name (i := 2) sc__law_edges.nd rfl (Or.inl rfl)) (pss_cons (ps_par (i := 3) (j := 4) rfl sc__law_edges.nd rfl rfl (by decide) rfl rfl (pa_cons (pe_call (O__law_far T) (hr.mono (by decide)) (by rfl) T.m__law_far T.F__law_far.kp T.b__law_far .nil pass0 (pa_cons (pv 0) pa_nil)) (pa_cons (pe_call (O__law_sip T) (hr.mono (by decide)) (by rfl) T.m__law_sip T.F__law_sip.kp T.b__law_sip .nil pass0 (pa_cons (pv 0) (pa_cons (pe_lst (pa_cons pe_int (pa_cons pe_int (pa_cons pe_int (pa_cons (pe_op op_pow pe_int pe_int) pa_nil))))) pa_nil))) pa_nil)) (by rfl))
      (pss_one (ps_set (i := 1) sc__law_edges.nd rfl (Or.inl rfl) (pe_op op_cat (pv 1) (pe_call (O__law_sip T) (hr.mono (by decide)) (by rfl) T.m__law_sip T.F__law_sip.kp T.b__law_sip .nil pass0 (pa_cons (pv 0) (pa_cons (pe_lst (pa_cons (pe_lst (pa_cons pe_non (pa_cons pe_non pa_nil))) (pa_cons (pe_lst (pa_cons (pv 3) (pa_cons pe_non pa_nil))) (pa_cons (pe_lst (pa_cons pe_non (pa_cons (pv 3) pa_nil))) (pa_cons (pe_lst (pa_cons (pv 3) (pa_cons (pe_op op_add (pv 3) (pv 4)) pa_nil))) pa_nil))))) pa_nil))))))))
      (pss_one (ps_ret (pv 1))))), ?_⟩
  refine ⟨szl rfl, fun F hF => ?_⟩
  refine ⟨2, rfl, by decide, by decide, ?_⟩
  refine for_it (walk_range (lo := 0) (n := 2)) (fun i σ H' => ∃ (t2 t3 t4 : Option V) (F' : Addr) (es : List (Option Int)), σ = [some (.ref c), some (.ref F'), t2, t3, t4] ∧ H' F' = some (.lst (es.map oV)) ∧ F' ≠ c ∧ es.length = 2 * i ∧ (1 ≤ i → ∃ a b r, es = a :: b :: r ∧ leO a b = true ∧ (2 ≤ i → ∃ a' b', r = [a', b'] ∧ leO a' b' = true)) ∧ Bag c l (n + 5 * i) H' ∧ Gs.Ext c H H')
    ⟨_, _, _, F, [], rfl, upd_same, hb.ne hF, rfl, fun z => absurd z (by decide), hb.new hF, Gs.Ext.new hF⟩ (fun _ _ _ _ _ => trivial) ?_ ?_
  rotate_left
  · rintro σ H1 ⟨t2, t3, t4, F', es, rfl, h1, h2, h3, h4, b1, x1⟩
    obtain ⟨a, b, r, rfl, l1, h5⟩ := h4 (by decide)
    obtain ⟨a', b', rfl, l2⟩ := h5 (by decide)
    exact ⟨_, rfl, k F' a b a' b' H1 h1 l1 l2 h2 b1 x1⟩
  rintro i x σ H1 H1' hi ⟨t2, t3, t4, F', es, rfl, h1, h2, h3, h4, b1, x1⟩ ⟨rfl, rfl⟩
  -- low, wide
  refine ⟨_, rfl, c, l, _, rfl, b1, by omega, fun lo H2 b2 x2 => ?_⟩
  refine ⟨_, rfl, _, _, rfl, rfl, ⟨by decide, by decide, by decide⟩, szl rfl, fun p hp => ?_⟩
  refine ⟨c, l, p, _, _, rfl, b2.new hp, by omega, b2.ne hp, .of upd_same, by simp, szl2 rfl, fun j v H3 hj b3 x3 => ?_⟩
  obtain ⟨wd, rfl, hw⟩ : ∃ wd : Int, v = .int wd ∧ 0 ≤ wd := by
    have hm := one_of hj
    simp only [List.mem_cons, List.not_mem_nil, or_false] at hm
    rcases hm with rfl | rfl | rfl | rfl
    · exact ⟨3, rfl, by decide⟩
    · exact ⟨0, rfl, by decide⟩
    · exact ⟨8, rfl, by decide⟩
    · exact ⟨_, rfl, by decide⟩
  have x03 : Gs.Ext c H H3 := (x1.trans x2).trans ((Gs.Ext.new hp).trans x3)
  have h13 : H3 F' = some (.lst (es.map oV)) := x3 _ _ h2 (by rw [upd_ne (ne_of_none (x2 _ _ h2 h1) hp)]; exact x2 _ _ h2 h1)
  clear x1 x2 x3 hp b1 b2 h1 hj
  refine ⟨_, _, rfl, ?_⟩
  -- the four pairs
  refine ⟨_, rfl, _, rfl, szl rfl, fun p1 hp1 => ?_⟩
  have s1 : Same H3 (upd H3 p1 (.lst [.non, .non])) := same_new hp1
  have f1 : upd H3 p1 (.lst [.non, .non]) p1 = some (.lst [oV none, oV none]) := upd_same
  have n1 : p1 ≠ c := b3.ne hp1
  generalize upd H3 p1 (.lst [V.non, V.non]) = H4 at s1 f1 ⊢
  refine ⟨_, rfl, szl rfl, fun p2 hp2 => ?_⟩
  have s2 : Same H4 (upd H4 p2 (.lst [.int lo, .non])) := same_new hp2
  have f2 : upd H4 p2 (.lst [.int lo, .non]) p2 = some (.lst [oV (some lo), oV none]) := upd_same
  have n2 : p2 ≠ c := (b3.same s1).ne hp2
  generalize upd H4 p2 (.lst [V.int lo, V.non]) = H5 at s2 f2 ⊢
  refine ⟨_, rfl, szl rfl, fun p3 hp3 => ?_⟩
  have s3 : Same H5 (upd H5 p3 (.lst [.non, .int lo])) := same_new hp3
  have f3 : upd H5 p3 (.lst [.non, .int lo]) p3 = some (.lst [oV none, oV (some lo)]) := upd_same
  have n3 : p3 ≠ c := (b3.same (s1.trans s2)).ne hp3
  generalize upd H5 p3 (.lst [V.non, V.int lo]) = H6 at s3 f3 ⊢
  refine ⟨_, rfl, _, rfl, _, rfl, _, _, rfl, rfl, szl rfl, fun p4 hp4 => ?_⟩
  have s4 : Same H6 (upd H6 p4 (.lst [.int lo, .int (lo + wd)])) := same_new hp4
  have f4 : upd H6 p4 (.lst [.int lo, .int (lo + wd)]) p4 = some (.lst [oV (some lo), oV (some (lo + wd))]) := upd_same
  have n4 : p4 ≠ c := (b3.same ((s1.trans s2).trans s3)).ne hp4
  generalize upd H6 p4 (.lst [V.int lo, V.int (lo + wd)]) = H7 at s4 f4 ⊢
  have b7 := b3.same (((s1.trans s2).trans s3).trans s4)
  refine ⟨szl rfl, fun p5 hp5 => ?_⟩
  refine ⟨c, l, p5, _, _, rfl, b7.new hp5, by omega, b7.ne hp5, .of upd_same, by simp, szl2 rfl, fun jj v H9 hj b9 x9 => ?_⟩
  have x79 : Gs.Ext c H7 H9 := (Gs.Ext.new hp5).trans x9
  have x39 : Gs.Ext c H3 H9 := (Gs.Ext.of (((s1.trans s2).trans s3).trans s4)).trans x79
  obtain ⟨pk, a, b, rfl, hpk, hnk, hle⟩ : ∃ (pk : Addr) (a b : Option Int), v = .ref pk ∧ H9 pk = some (.lst [oV a, oV b]) ∧ pk ≠ c ∧ leO a b = true := by
    have hm := one_of hj
    simp only [List.mem_cons, List.not_mem_nil, or_false] at hm
    rcases hm with rfl | rfl | rfl | rfl
    · exact ⟨p1, _, _, rfl, x79 _ _ n1 (s4 _ _ (s3 _ _ (s2 _ _ f1))), n1, rfl⟩
    · exact ⟨p2, _, _, rfl, x79 _ _ n2 (s4 _ _ (s3 _ _ f2)), n2, rfl⟩
    · exact ⟨p3, _, _, rfl, x79 _ _ n3 (s4 _ _ f3), n3, rfl⟩
    · exact ⟨p4, _, _, rfl, x79 _ _ n4 f4, n4, decide_eq_true (by omega)⟩
  have h19 := x39 _ _ h2 h13
  refine ⟨F', pk, _, _, rfl, rfl, h19, hpk, ?_, fun pn hpn => ?_⟩
  · rw [List.length_map, h3]
    exact Nat.le_trans (show _ ≤ 8 by simp only [List.length_cons, List.length_nil]; omega) (by decide)
  have bn : Bag c l (n + 5 * (i + 1)) H9 := b9.mono (by omega)
  refine ⟨_, _, _, pn, es ++ [a, b], rfl, by rw [upd_same, List.map_append]; rfl, bn.ne hpn, by rw [List.length_append, h3]; show 2 * i + 2 = _; omega, fun _ => ?_, bn.new hpn, (x03.trans x39).trans (Gs.Ext.new hpn)⟩
  by_cases i0 : i = 0
  · subst i0
    have : es = [] := List.length_eq_zero_iff.mp h3
    subst this
    exact ⟨a, b, [], rfl, hle, fun z => absurd z (by decide)⟩
  · have i1 : i = 1 := by omega
    subst i1
    obtain ⟨a0, b0, r, rfl, l1, _⟩ := h4 (Nat.le_refl _)
    have : r = [] := by
      have : r.length + 2 = 2 := h3
      exact List.length_eq_zero_iff.mp (by omega)
    subst this
    exact ⟨a0, b0, [a, b], rfl, l1, fun _ => ⟨a, b, rfl, hle⟩⟩
end
end K6

set_option Elab.async false
set_option linter.all false
set_option maxRecDepth 100000
set_option maxHeartbeats 8000000
namespace K6
open PySem PySem.Spec PyProof.Rows L2 Gs
def plainD (ds : List DK) : List Str := (ds.filter fun d => !d.q).map (·.z)
def GoalD (ds : List DK) (es : List (Option Int)) (ws : List Str) : Prop :=
  ws = [("hold" : Str)] ∨ (∃ n : Str, ws = [("take" : Str), n] ∧ n ∈ plainD ds) ∨ ∃ s n : Str, ws = [("reach" : Str), s, n] ∧ s ∈ sidesOf es ∧ n ∈ ds.map (·.z)
theorem nm_ok {z : Str} (h : isNameS z = true) : PyData.strOk z = true := by
  unfold isNameS at h
  have h := (Bool.and_eq_true_iff.mp h).2
  have all : ∀ c ∈ letters.cps.toList, c < 0x110000 := by decide +kernel
  unfold PyData.strOk
  rw [← Array.all_toList]
  exact List.all_eq_true.mpr fun c hc => decide_eq_true (all c (of_decide_eq_true (List.all_eq_true.mp h c hc)))
theorem can_nm : ∀ zs : List Str, (∀ z ∈ zs, PyData.strOk z = true) → PyData.canLayAll0 (zs.map PyData.str) = true ∧ PyData.depthAll (zs.map PyData.str) ≤ 2
  | [], _ => ⟨rfl, Nat.zero_le _⟩
  | p :: ps, h => by
    obtain ⟨h1, h2⟩ := can_nm ps fun z hz => h z (List.mem_cons_of_mem _ hz)
    refine ⟨?_, ?_⟩
    · show (PyData.strOk p && PyData.canLayAll0 (ps.map PyData.str)) = true
      rw [h1, h p List.mem_cons_self]; rfl
    · simp only [List.map_cons, PyData.depthAll, PyData.depth]
      omega
theorem side_ok {es : List (Option Int)} {z : Str} (h : z ∈ sidesOf es) : PyData.strOk z = true := by
  obtain ⟨p, hp, rfl⟩ := List.mem_map.mp h
  have hm := (List.of_mem_zip (List.mem_filter.mp hp).1).1
  have all : ∀ z ∈ sides4, PyData.strOk z = true := by decide +kernel
  exact all _ hm
section
variable {P : Program} {w : World} {K : PySem.W.Frag} {mg : Str → Option Value} {base : Heap}
def spGl (K : PySem.W.Frag) : Sp := fun vs H Q _ => ∃ (cc l kl e : Addr) (n : Nat) (ds : List DK) (a b c d : Option Int), vs = [.ref cc, .ref kl, .ref e] ∧ Bag cc l n H ∧ n ≤ 998000 ∧ H kl = some (.lst (ds.map fun d => V.ref d.t)) ∧ kl ≠ cc ∧ (∀ d ∈ ds, DkAt K cc H d) ∧ 1 ≤ ds.length ∧ ds.length ≤ 5 ∧ H e = some (.lst [oV a, oV b, oV c, oV d]) ∧ e ≠ cc ∧
  ∀ (g : Addr) (ws : List Str) H', H' g = some (.lst (ws.map V.str)) → GoalD ds [a, b, c, d] ws → g ≠ cc → Bag cc l (n + 6) H' → Gs.Ext cc H H' → Q (.ref g) H'
theorem G__law_goal (T : Tx K mg w) : FnG P w K mg base CX0 3 T.a__law_goal T.d__law_goal ["flask", "kinds", "edges"] (spGl K) := by
  refine fun_okG T.F__law_goal sc__law_goal (fun vs H Q E h => ?_) (fun cdv A outer s H vs Q E hr hg h => ?_)
  · obtain ⟨cc, l, kl, e, n, ds, a, b, c, d, rfl, _⟩ := h; rfl
  obtain ⟨cc, l, kl, e, n, ds, a, b, c, d, rfl, hb, hN, hkl, nkc, hds, z1, z5, he, nec, k⟩ := h
  refine ⟨_, (pss_cons (ps_setLc (i := 3) (own := [("side", 4), ("edge", 5)]) (g := (gTup K 2 (gCons (gName 4) (gCons (gName 5) gNil)))) rfl sc__law_goal.nd rfl rfl (sw_true rfl rfl rfl (by decide +kernel)) (pi_zipM (by rfl) T.z_zip (pa_cons (pe_tup (pa_cons pe_str (pa_cons pe_str (pa_cons pe_str (pa_cons pe_str pa_nil))))) (pa_cons (pv 2) pa_nil))) (blkOk_by (N := n__law_goal) (sc := defScope s__law_goal) (by decide +kernel)) (fun _ _ _ _ _ => (pg_tup rfl (pgs_cons (pg_name (i := 4) sc__law_goal.nd rfl (Or.inl rfl)) (pgs_cons (pg_name (i := 5) sc__law_goal.nd rfl (Or.inl rfl)) pgs_nil)))) (fun _ _ _ _ _ => pts_one (pt_cmpR op_notN (pv 5) pe_non (nomark _))) (fun _ _ _ _ _ => (pv 4)))
      (pss_cons (ps_par (i := 6) (j := 7) rfl sc__law_goal.nd rfl rfl (by decide) rfl rfl (pa_cons (pe_lc (own := [("kind", 8)]) (g := (gName 8)) rfl sc__law_goal.nd (pi_list (pv 1)) (blkOk_by (N := n__law_goal) (sc := defScope s__law_goal) (by decide +kernel)) (fun _ _ _ _ _ => (pg_name (i := 8) sc__law_goal.nd rfl (Or.inl rfl))) (fun _ _ _ _ _ => pts_one (pt_not (pt_val (pe_ix (r := rIxT K) ix_tup (pv 8) pe_int (fun _ _ => rfl))))) (fun _ _ _ _ _ => (pe_ix (r := rIxT K) ix_tup (pv 8) pe_int (fun _ _ => rfl)))) (pa_cons (pe_call (O__law_pour T) (hr.mono (by decide)) (by rfl) T.m__law_pour T.F__law_pour.kp T.b__law_pour .nil pass0 (pa_cons (pv 0) (pa_cons pe_int pa_nil))) pa_nil)) (by rfl))
      (pss_cons (ps_if (PW.pt (pw_and (pt_cmpR op_eq (pv 7) pe_int (nomark _)) (pw_and1 (pt_cmpR (op_neD hr.units) (pv 6) (pe_lst pa_nil) (nomark _))))) (pss_one (ps_ret (pe_lst (pa_cons pe_str (pa_cons (pe_call (O__law_sip T) (hr.mono (by decide)) (by rfl) T.m__law_sip T.F__law_sip.kp T.b__law_sip .nil pass0 (pa_cons (pv 0) (pa_cons (pv 6) pa_nil))) pa_nil))))) pss_nil)
      (pss_cons (ps_if (PW.pt (pw_and (pt_cmpR op_eq (pv 7) pe_int (nomark _)) (pw_and1 (pt_cmpR (op_neD hr.units) (pv 3) (pe_lst pa_nil) (nomark _))))) (pss_one (ps_ret (pe_lst (pa_cons pe_str (pa_cons (pe_call (O__law_sip T) (hr.mono (by decide)) (by rfl) T.m__law_sip T.F__law_sip.kp T.b__law_sip .nil pass0 (pa_cons (pv 0) (pa_cons (pv 3) pa_nil))) (pa_cons (pe_ix ix_tup (pe_call (O__law_sip T) (hr.mono (by decide)) (by rfl) T.m__law_sip T.F__law_sip.kp T.b__law_sip .nil pass0 (pa_cons (pv 0) (pa_cons (pv 1) pa_nil))) pe_int (fun _ _ => rfl)) pa_nil)))))) pss_nil)
      (pss_one (ps_ret (pe_lst (pa_cons pe_str pa_nil)))))))), ?_⟩
  -- sides
  refine ⟨szl rfl, fun p hp => ?_⟩
  have np : p ≠ cc := hb.ne hp
  generalize e1 : upd H p _ = H1
  have sp : Same H H1 := by rw [← e1]; exact same_new hp
  have hpT : SqT K H1 p (sides4.map V.str) := by rw [← e1]; exact .of upd_same
  have he1 := sp _ _ he
  clear e1
  refine ⟨_, rfl, p, e, true, false, _, _, rfl, hpT, .of he1, fun D hD => ?_⟩
  have nDc : D ≠ cc := (hb.same sp).ne hD
  have upB : ∀ {H' : Hp}, Same H1 H' → SqB K false H' e (([a, b, c, d] : List (Option Int)).map oV) := fun {H'} s => s.seq (.of he1)
  refine lc_it (walk_zipM (K := K) (t := true) (u := false) (a := p) (b := e) (xs := sides4.map V.str) (ys := ([a, b, c, d] : List (Option Int)).map oV) rfl) (fun i H' => Same H1 H' ∧ H' D = some (.lst (((((sides4.zip [a, b, c, d]).take i).filter fun p => p.2.isSome).map (·.1)).map V.str))) ⟨same_new hD, upd_same⟩ (fun i H' _ h => ⟨h.1.seqT hpT, upB h.1⟩) ?_ ?_
  · rintro i x H4 H5 hi ⟨s5, hD5⟩ ⟨T1, x1, y1, rfl, hT1, rfl, hx, hy⟩
    have sT : Same H4 (upd H4 T1 (.tup [x1, y1])) := same_new hT1
    rw [List.getElem?_map] at hx hy
    obtain ⟨z, hz, rfl⟩ := Option.map_eq_some_iff.mp hx
    obtain ⟨eo, heo, rfl⟩ := Option.map_eq_some_iff.mp hy
    have hzip : (sides4.zip [a, b, c, d])[i]? = some (z, eo) := by rw [List.getElem?_zip_eq_some]; exact ⟨hz, heo⟩
    have hi : i < 4 := hi
    refine ⟨T1, _, rfl, .of upd_same, rfl, _, _, rfl, _, _, rfl, rfl, rfl, ?_⟩
    have nx : (((sides4.zip [a, b, c, d]).take (i + 1)).filter fun p => p.2.isSome).map (·.1) = (((sides4.zip [a, b, c, d]).take i).filter fun p => p.2.isSome).map (·.1) ++ (if eo.isSome = true then [z] else []) := by
      rw [List.take_add_one, hzip, List.filter_append, List.map_append]
      cases eo <;> rfl
    have hD6 := sT _ _ hD5
    refine ⟨_, rfl, rfl, _, rfl, ?_⟩
    cases eo with
    | none =>
      refine iteF ⟨s5.trans sT, ?_⟩
      rw [nx]
      simpa using hD6
    | some q0 =>
      refine iteT ⟨_, rfl, _, hD6, ?_, same_own (s5.trans sT) hD, ?_⟩
      · rw [List.length_map, List.length_map]
        exact szK (by
          have h1 := List.length_filter_le (fun p : Str × Option Int => p.2.isSome) ((sides4.zip [a, b, c, d]).take i)
          have h2 := List.length_take_le' i (sides4.zip [a, b, c, d])
          have h3 : (sides4.zip [a, b, c, d]).length = 4 := rfl
          omega)
      · rw [upd_same, nx, List.map_append]; rfl
  rintro H2 ⟨s2, hD2⟩
  have hD2 : H2 D = some (.lst ((sidesOf [a, b, c, d]).map V.str)) := hD2
  have s02 : Same H H2 := sp.trans s2
  clear upB hpT he1 sp s2 hD
  -- plain
  have hkl2 := s02 _ _ hkl
  have b2 := hb.same s02
  refine ⟨_, rfl, _, rfl, ⟨_, .of hkl2⟩, fun D2 hD2n => ?_⟩
  have nD2 : D2 ≠ cc := b2.ne hD2n
  refine lc_it (walk_list (K := K) (a := kl) (xs := ds.map fun d => V.ref d.t)) (fun i H' => Same H2 H' ∧ H' D2 = some (.lst ((plainD (ds.take i)).map V.str))) ⟨same_new hD2n, upd_same⟩ (fun i H' _ h => h.1.seq (.of hkl2)) ?_ ?_
  · rintro i v H3 H4 hi ⟨s3, hD3⟩ ⟨rfl, hv⟩
    rw [List.getElem?_map] at hv
    obtain ⟨dd, hd, rfl⟩ := Option.map_eq_some_iff.mp hv
    have hi : i < ds.length := (List.getElem?_eq_some_iff.mp hd).1
    have ht := ((hds dd (List.mem_of_getElem? hd)).ext (Gs.Ext.of (s02.trans s3))).at_.tup
    have nx : plainD (ds.take (i + 1)) = plainD (ds.take i) ++ (if dd.q = true then [] else [dd.z]) := by
      unfold plainD
      rw [List.take_add_one, hd, List.filter_append, List.map_append]
      cases hq : dd.q <;> simp [hq]
    refine ⟨rfl, ?_⟩
    refine ⟨_, rfl, dd.t, _, 3, .bl dd.q, rfl, rfl, ht, rfl, _, rfl, ?_⟩
    refine iteB (fun e => ?_) (fun e => ?_)
    · have e : dd.q = false := by simpa using e
      refine ⟨_, rfl, dd.t, _, 0, .str dd.z, rfl, rfl, ht, rfl, _, hD3, ?_, same_own s3 hD2n, ?_⟩
      · rw [List.length_map]
        exact szs (by
          have h1 : (plainD (ds.take i)).length ≤ (ds.take i).length := by unfold plainD; rw [List.length_map]; exact List.length_filter_le ..
          have h2 := List.length_take_le' i ds
          omega)
      · rw [upd_same, nx, e, if_neg (by decide), List.map_append]; rfl
    · have e : dd.q = true := by simpa using e
      refine ⟨s3, ?_⟩
      rw [nx, e, if_pos rfl, List.append_nil]; exact hD3
  rintro H3 ⟨s3, hD3⟩
  rw [List.length_map, List.take_length] at hD3
  have s03 := s02.trans s3
  have b3 := b2.same s3
  have hDs := s3 _ _ hD2
  have hkl3 := s3 _ _ hkl2
  refine ⟨_, rfl, cc, l, n, _, rfl, b3, by omega, by decide, by decide, fun v H4 v0 v1 b4 x4 => ⟨_, _, rfl, ?_⟩⟩
  have x04 : Gs.Ext cc H H4 := (Gs.Ext.of s03).trans x4
  have hD4 := x4 _ _ nD2 hD3
  have hS4 := x4 _ _ nDc hDs
  have hkl4 := x4 _ _ nkc hkl3
  have hds4 : ∀ d ∈ ds, DkAt K cc H4 d := fun d hd => (hds d hd).ext x04
  clear hD2 s02 hkl2 b2 hD2n s3 hD3 s03 b3 hDs hkl3 x4
  have hold : ∀ H5, Bag cc l (n + 6) H5 → Gs.Ext cc H H5 → ∀ g, H5 g = none → Q (.ref g) (upd H5 g (.lst [.str "hold"])) := fun H5 b5 x5 g hg =>
    k g ["hold"] _ upd_same (.inl rfl) (b5.ne hg) (b5.new hg) (x5.trans (Gs.Ext.new hg))
  have b6 : Bag cc l (n + 6) H4 := b4.mono (by omega)
  rcases (show v = 0 ∨ v = 1 ∨ v = 2 by omega) with rfl | rfl | rfl
  · refine ⟨_, rfl, rfl, _, rfl, iteB (fun e => absurd e (by decide)) (fun _ => ?_)⟩
    refine ⟨_, rfl, rfl, _, rfl, iteB (fun e => absurd e (by decide)) (fun _ => ?_)⟩
    exact ⟨szl rfl, fun g hg => hold H4 b6 x04 g hg⟩
  · refine ⟨_, rfl, rfl, _, rfl, iteB (fun _ => ?_) (fun e => absurd e (by decide))⟩
    refine ⟨_, rfl, szl rfl, fun f hf => ?_⟩
    have sf : Same H4 (upd H4 f (.lst [])) := same_new hf
    have oks : ∀ z ∈ plainD ds, PyData.strOk z = true := fun z hz => by
      obtain ⟨d, hd, rfl⟩ := List.mem_map.mp hz
      exact nm_ok (hds d (List.mem_filter.mp hd).1).nm
    refine ⟨.list ((plainD ds).map .str), .list [], .lst (.of (sf _ _ hD4)) (dp_sts _), .lst (.of upd_same) .nil, shaped_lst (can_nm _ oks), by decide, _, rfl, ?_⟩
    rw [eqv_nil2]
    have hD5 := sf _ _ hD4
    have b5 := b4.same sf
    have x5 : Gs.Ext cc H (upd H4 f (.lst [])) := x04.trans (Gs.Ext.of sf)
    clear hf sf
    generalize upd H4 f (.lst []) = H5 at hD5 b5 x5 ⊢
    refine iteB (fun e0 => ?_) (fun e0 => ?_)
    · have pz : (plainD ds).length ≤ 5 := by
        unfold plainD
        rw [List.length_map]
        exact Nat.le_trans (List.length_filter_le ..) z5
      refine ⟨_, rfl, _, rfl, cc, l, D2, _, _, rfl, b5, by omega, nD2, .of hD5, fun z => ?_, by rw [List.length_map]; omega, fun i v H6 hi b6' x6 => ?_⟩
      · have := List.map_eq_nil_iff.mp z
        rw [this] at e0; cases e0
      · rw [List.getElem?_map] at hi
        obtain ⟨z, hz, rfl⟩ := Option.map_eq_some_iff.mp hi
        have bz : Bag cc l (n + 6) H6 := b6'.mono (by omega)
        exact ⟨szl rfl, fun g hg => k g ["take", z] _ upd_same (.inr (.inl ⟨z, rfl, List.mem_of_getElem? hz⟩)) (bz.ne hg) (bz.new hg) ((x5.trans x6).trans (Gs.Ext.new hg))⟩
    · refine ⟨_, rfl, rfl, _, rfl, iteB (fun e => absurd e (by decide)) (fun _ => ?_)⟩
      exact ⟨szl rfl, fun g hg => hold H5 (b5.mono (by omega)) x5 g hg⟩
  · refine ⟨_, rfl, rfl, _, rfl, iteB (fun e => absurd e (by decide)) (fun _ => ?_)⟩
    refine ⟨_, rfl, rfl, _, rfl, iteB (fun _ => ?_) (fun e => absurd e (by decide))⟩
    refine ⟨_, rfl, szl rfl, fun f hf => ?_⟩
    have sf : Same H4 (upd H4 f (.lst [])) := same_new hf
    refine ⟨.list ((sidesOf [a, b, c, d]).map .str), .list [], .lst (.of (sf _ _ hS4)) (dp_sts _), .lst (.of upd_same) .nil, shaped_lst (can_nm _ fun z hz => side_ok hz), by decide, _, rfl, ?_⟩
    rw [eqv_nil2]
    have hS5 := sf _ _ hS4
    have hk5 := sf _ _ hkl4
    have b5 := b4.same sf
    have x5 : Gs.Ext cc H (upd H4 f (.lst [])) := x04.trans (Gs.Ext.of sf)
    clear hf sf
    generalize upd H4 f (.lst []) = H5 at hS5 hk5 b5 x5 ⊢
    refine iteB (fun e0 => ?_) (fun e0 => ?_)
    rotate_left
    · exact ⟨szl rfl, fun g hg => hold H5 (b5.mono (by omega)) x5 g hg⟩
    have pz : (sidesOf [a, b, c, d]).length ≤ 4 := by
      unfold sidesOf
      rw [List.length_map]
      exact Nat.le_trans (List.length_filter_le ..) (Nat.le_refl 4)
    refine ⟨_, rfl, _, rfl, cc, l, D, _, _, rfl, b5, by omega, nDc, .of hS5, fun z => ?_, by rw [List.length_map]; omega, fun i v H6 hi b6' x6 => ?_⟩
    · have := List.map_eq_nil_iff.mp z
      rw [this] at e0; cases e0
    rw [List.getElem?_map] at hi
    obtain ⟨sd, hsd, rfl⟩ := Option.map_eq_some_iff.mp hi
    have hk6 := x6 _ _ nkc hk5
    refine ⟨_, rfl, _, rfl, cc, l, kl, _, _, rfl, b6', by omega, nkc, .of hk6, fun z => ?_, by rw [List.length_map]; omega, fun j v H7 hj b7 x7 => ?_⟩
    · have := List.map_eq_nil_iff.mp z
      rw [this] at z1; cases z1
    rw [List.getElem?_map] at hj
    obtain ⟨dd, hdd, rfl⟩ := Option.map_eq_some_iff.mp hj
    have x07 := (x5.trans x6).trans x7
    have ht := ((hds dd (List.mem_of_getElem? hdd)).ext x07).at_.tup
    refine ⟨dd.t, _, 0, .str dd.z, rfl, rfl, ht, rfl, ?_⟩
    have bz : Bag cc l (n + 6) H7 := b7.mono (by omega)
    exact ⟨szl rfl, fun g hg => k g ["reach", sd, dd.z] _ upd_same (.inr (.inr ⟨sd, dd.z, rfl, List.mem_of_getElem? hsd, List.mem_map_of_mem (List.mem_of_getElem? hdd)⟩)) (bz.ne hg) (bz.new hg) (x07.trans (Gs.Ext.new hg))⟩
end
end K6

set_option Elab.async false
set_option linter.all false
set_option maxRecDepth 100000
set_option maxHeartbeats 8000000
namespace K6
open PySem PySem.Spec PyProof.Rows L2 Gs
section
variable {P : Program} {w : World} {K : PySem.W.Frag} {mg : Str → Option Value} {base : Heap}
def Tx.ers (T : Tx K mg w) : List Addr := [T.c_BadGame, T.c_BadPosition, T.c_BadSquare, T.c_BadNumber, T.c_Misfit, T.c_NoName]
def wordsE : List Str := ["game", "position", "square", "number", "misfit", "name"]
/-- what is told of an exception with a part -/
def Told (T : Tx K mg w) (Q : VK) (cls : Value) (d : Option Addr) (H' : Hp) : Prop := ∃ (C d0 : Addr) (j : Nat) (wd p : Str), cls = .ref C ∧ d = some d0 ∧ T.ers[j]? = some C ∧ wordsE[j]? = some wd ∧ j ≠ 5 ∧ XfC K C ∧ PySem.W.findIn K (.ref C) "part" = some none ∧
  PySem.W.exmOne K (.ref C) (.ref T.c_FieldError) = some true ∧ H' d0 = some (.xd [("part", .str p)]) ∧ ∀ t H'', Same H' H'' → H'' t = some (.tup [.str wd, .str p]) → Q (.ref t) H''
/-- _law_heard: what it makes of what is asked -/
def TTH (T : Tx K mg w) : (XK → Hp → VK → Prop) → Hp → VK → Prop := fun tl H Q => ∀ N : VK, tl (fun cls d H' => Told T Q cls d H') H N
theorem heard_gives (T : Tx K mg w) {X : Cx} {q : Str} {cdg : Value} (eK : X.K = K) (em : X.mg = mg) : LamX.GivesTo X n__law_heard "_law_heard" (defScope s__law_heard) T.a__law_heard cdg (defBody s__law_heard) "ask" q (TTH T) := by
  subst eK em
  intro f c' s H Q tl act hc h
  have hgF : Names (cxOf C8.CX0 X.prog X.w X.K X.mg X.base n__law_heard "_law_heard" (defScope s__law_heard) T.a__law_heard cdg X.A X.stack s H C8.E0).nox "FieldError" (.ref T.c_FieldError) := ⟨rfl, by decide, .inl T.m_FieldError⟩
  refine ⟨_, pss_cons (ps_set (i := 1) sc__law_heard.nd rfl (Or.inl rfl) pe_non) (pss_cons (ps_tryK
      (tb := fun W D σ H => ∃ Ech : XK, (∀ cls d σ' H', Ech cls d H' → W cls d σ' H') ∧ σ[0]? = some (some (.ref f)) ∧ H c' = some (LamX.CodeO c' q) ∧ tl Ech H (fun _ H' => D.nx σ H'))
      (i := 2) rfl rfl rfl LamX.takes0 (fun W pn xe tk _ => ?_) hgF sc__law_heard.nd rfl rfl
      (fun a ob cls d pn hz hf => pss_one (ps_set (i := 1) sc__law_heard.nd rfl (Or.inl rfl) (pv 2)))) (pss_cons (ps_set (i := 3) sc__law_heard.nd rfl (Or.inl rfl) (pe_lst (pa_cons (pe_tup (pa_cons pe_str (pa_cons (pe_callB call_isV (by rfl) T.z_isinstance (by decide +kernel) (pa_cons (pv 1) (pa_cons (pe_glob (v := .ref T.c_BadGame) (by rfl) T.m_BadGame rfl) pa_nil))) pa_nil))) (pa_cons (pe_tup (pa_cons pe_str (pa_cons (pe_callB call_isV (by rfl) T.z_isinstance (by decide +kernel) (pa_cons (pv 1) (pa_cons (pe_glob (v := .ref T.c_BadPosition) (by rfl) T.m_BadPosition rfl) pa_nil))) pa_nil))) (pa_cons (pe_tup (pa_cons pe_str (pa_cons (pe_callB call_isV (by rfl) T.z_isinstance (by decide +kernel) (pa_cons (pv 1) (pa_cons (pe_glob (v := .ref T.c_BadSquare) (by rfl) T.m_BadSquare rfl) pa_nil))) pa_nil))) pa_nil)))))
      (pss_cons (ps_set (i := 3) sc__law_heard.nd rfl (Or.inl rfl) (pe_op op_cat (pv 3) (pe_lst (pa_cons (pe_tup (pa_cons pe_str (pa_cons (pe_callB call_isV (by rfl) T.z_isinstance (by decide +kernel) (pa_cons (pv 1) (pa_cons (pe_glob (v := .ref T.c_BadNumber) (by rfl) T.m_BadNumber rfl) pa_nil))) pa_nil))) (pa_cons (pe_tup (pa_cons pe_str (pa_cons (pe_callB call_isV (by rfl) T.z_isinstance (by decide +kernel) (pa_cons (pv 1) (pa_cons (pe_glob (v := .ref T.c_Misfit) (by rfl) T.m_Misfit rfl) pa_nil))) pa_nil))) (pa_cons (pe_tup (pa_cons pe_str (pa_cons (pe_callB call_isV (by rfl) T.z_isinstance (by decide +kernel) (pa_cons (pv 1) (pa_cons (pe_glob (v := .ref T.c_NoName) (by rfl) T.m_NoName rfl) pa_nil))) pa_nil))) pa_nil))))))
      (pss_cons (ps_setLc (i := 4) (own := [("word", 5), ("is_so", 6)]) (g := (gTup X.K 2 (gCons (gName 5) (gCons (gName 6) gNil)))) rfl sc__law_heard.nd rfl rfl (sw_true rfl rfl rfl (by decide +kernel)) (pi_list (pv 3)) (blkOk_by (N := n__law_heard) (sc := defScope s__law_heard) (by decide +kernel)) (fun _ _ _ _ _ => (pg_tup rfl (pgs_cons (pg_name (i := 5) sc__law_heard.nd rfl (Or.inl rfl)) (pgs_cons (pg_name (i := 6) sc__law_heard.nd rfl (Or.inl rfl)) pgs_nil)))) (fun _ _ _ _ _ => pts_one (pt_val (pv 6))) (fun _ _ _ _ _ => (pv 5)))
      (pss_cons (ps_if (pt_cmpR op_eq (pe_callB call_len_seq (by rfl) T.z_len (by decide +kernel) (pa_cons (pv 4) pa_nil)) pe_int (nomark _)) (pss_one (ps_ret (pe_tup (pa_cons (pe_ix ix_list (pv 4) pe_int (fun _ _ => rfl)) (pa_cons (pe_ifExp (pt_cmpR op_eq (pe_ix ix_list (pv 4) pe_int (fun _ _ => rfl)) pe_str (nomark _)) (pe_fv (pv 1)) (pe_fv (pv 1))) pa_nil))))) pss_nil)
      (pss_one (ps_ret (pe_ifExp (pt_cmpR op_isN (pv 1) pe_non (nomark _)) pe_non (pe_tup (pa_cons pe_str (pa_cons pe_non pa_nil))))))))))), ?_⟩
  · refine ⟨fun pins s' σ H' D I h' => ?_⟩
    obtain ⟨Ech, hW, h1, h2, h3⟩ := h'
    exact (pss_one (ps_expr (act W pn xe Ech _ _ tk hW))).run pins s' σ H' D I ⟨h1, h2, h3⟩
  have len7 : ∀ {σ' : L2.St}, σ'.length = n__law_heard.length → ∃ x y z x3 x4 x5 x6, σ' = [x, y, z, x3, x4, x5, x6] := fun {σ'} h => by
    match σ', h with
    | [x, y, z, x3, x4, x5, x6], _ => exact ⟨x, y, z, x3, x4, x5, x6, rfl⟩
  refine ⟨_, fun cls d σ' H' => ?_, rfl, hc, h _⟩
  rintro ⟨C, d0, j, wd, p, rfl, rfl, hC, hw, j5, xf, no, ex, hd0, k⟩
  refine ⟨true, ex, fun _ hl a na => ?_, fun z => nomatch z⟩
  obtain ⟨x, y, z, x3, x4, x5, x6, rfl⟩ := len7 hl
  have sa : Same H' (upd H' a (exv a (.ref C) (some d0))) := same_new na
  have hE : ExI (upd H' a (exv a (.ref C) (some d0))) a C (some [("part", .str p)]) := ⟨d0, .inl upd_same, .inl (by rw [upd_ne (ne_of_none hd0 na)]; exact hd0)⟩
  refine ⟨_, rfl, ?_⟩
  have xc : ExcC X.K C := T.xc C (by exact List.mem_of_getElem? hC)
  have kk : ∀ (i : Nat) (D : Addr), T.ers[i]? = some D → PySem.W.kitOne X.K (.ref C) (.ref D) = some (decide (i = j)) := fun i D h => T.kk i j D C h hC
  refine ⟨_, rfl, a, C, _, _, _, decide (0 = j), rfl, hE, xc, .own _, kk 0 _ rfl, szl rfl, fun t0 ht0 => ?_⟩
  have s0 : Same (upd H' a (exv a (.ref C) (some d0))) (upd (upd H' a (exv a (.ref C) (some d0))) t0 (.tup [.str "game", .bl (decide (0 = j))])) := same_new ht0
  have g0 : SqT X.K (upd (upd H' a (exv a (.ref C) (some d0))) t0 (.tup [.str "game", .bl (decide (0 = j))])) t0 [.str "game", .bl (decide (0 = j))] := .of upd_same
  generalize upd (upd H' a (exv a (.ref C) (some d0))) t0 (.tup [V.str "game", V.bl (decide (0 = j))]) = G1 at s0 g0 ⊢
  have E0 := hE.same s0
  refine ⟨_, rfl, a, C, _, _, _, decide (1 = j), rfl, E0, xc, .own _, kk 1 _ rfl, szl rfl, fun t1 ht1 => ?_⟩
  have s1 : Same G1 (upd G1 t1 (.tup [.str "position", .bl (decide (1 = j))])) := same_new ht1
  have g1 : SqT X.K (upd G1 t1 (.tup [.str "position", .bl (decide (1 = j))])) t1 [.str "position", .bl (decide (1 = j))] := .of upd_same
  generalize upd G1 t1 (.tup [V.str "position", V.bl (decide (1 = j))]) = G2 at s1 g1 ⊢
  have E1 := E0.same s1
  refine ⟨_, rfl, a, C, _, _, _, decide (2 = j), rfl, E1, xc, .own _, kk 2 _ rfl, szl rfl, fun t2 ht2 => ?_⟩
  have s2 : Same G2 (upd G2 t2 (.tup [.str "square", .bl (decide (2 = j))])) := same_new ht2
  have g2 : SqT X.K (upd G2 t2 (.tup [.str "square", .bl (decide (2 = j))])) t2 [.str "square", .bl (decide (2 = j))] := .of upd_same
  generalize upd G2 t2 (.tup [V.str "square", V.bl (decide (2 = j))]) = G3 at s2 g2 ⊢
  have E2 := E1.same s2
  refine ⟨szl rfl, fun r0 hr0 => ?_⟩
  have sr0 : Same G3 (upd G3 r0 (.lst [.ref t0, .ref t1, .ref t2])) := same_new hr0
  have gr0 : upd G3 r0 (.lst [.ref t0, .ref t1, .ref t2]) r0 = some (.lst [.ref t0, .ref t1, .ref t2]) := upd_same
  generalize e4 : upd G3 r0 _ = G4
  rw [e4] at sr0 gr0
  clear e4
  have Er := E2.same sr0
  refine ⟨_, rfl, ?_⟩
  refine ⟨_, rfl, a, C, _, _, _, decide (3 = j), rfl, Er, xc, .own _, kk 3 _ rfl, szl rfl, fun t3 ht3 => ?_⟩
  have s3 : Same G4 (upd G4 t3 (.tup [.str "number", .bl (decide (3 = j))])) := same_new ht3
  have g3 : SqT X.K (upd G4 t3 (.tup [.str "number", .bl (decide (3 = j))])) t3 [.str "number", .bl (decide (3 = j))] := .of upd_same
  generalize upd G4 t3 (.tup [V.str "number", V.bl (decide (3 = j))]) = G5 at s3 g3 ⊢
  have E3 := Er.same s3
  refine ⟨_, rfl, a, C, _, _, _, decide (4 = j), rfl, E3, xc, .own _, kk 4 _ rfl, szl rfl, fun t4 ht4 => ?_⟩
  have s4 : Same G5 (upd G5 t4 (.tup [.str "misfit", .bl (decide (4 = j))])) := same_new ht4
  have g4 : SqT X.K (upd G5 t4 (.tup [.str "misfit", .bl (decide (4 = j))])) t4 [.str "misfit", .bl (decide (4 = j))] := .of upd_same
  generalize upd G5 t4 (.tup [V.str "misfit", V.bl (decide (4 = j))]) = G6 at s4 g4 ⊢
  have E4 := E3.same s4
  refine ⟨_, rfl, a, C, _, _, _, decide (5 = j), rfl, E4, xc, .own _, kk 5 _ rfl, szl rfl, fun t5 ht5 => ?_⟩
  have s5 : Same G6 (upd G6 t5 (.tup [.str "name", .bl (decide (5 = j))])) := same_new ht5
  have g5 : SqT X.K (upd G6 t5 (.tup [.str "name", .bl (decide (5 = j))])) t5 [.str "name", .bl (decide (5 = j))] := .of upd_same
  generalize upd G6 t5 (.tup [V.str "name", V.bl (decide (5 = j))]) = G7 at s5 g5 ⊢
  have E5 := E4.same s5
  refine ⟨szl rfl, fun r1 hr1 => ?_⟩
  have sr1 : Same G7 (upd G7 r1 (.lst [.ref t3, .ref t4, .ref t5])) := same_new hr1
  have gr1 : upd G7 r1 (.lst [.ref t3, .ref t4, .ref t5]) r1 = some (.lst [.ref t3, .ref t4, .ref t5]) := upd_same
  generalize e8 : upd G7 r1 _ = G8
  rw [e8] at sr1 gr1
  clear e8
  have s48 := ((s3.trans s4).trans s5).trans sr1
  refine ⟨r0, r1, _, _, rfl, rfl, s48 _ _ gr0, gr1, szl rfl, fun r2 hr2 => ?_⟩
  have sr2 : Same G8 (upd G8 r2 (.lst ([.ref t0, .ref t1, .ref t2] ++ [.ref t3, .ref t4, .ref t5]))) := same_new hr2
  have gr2 : upd G8 r2 (.lst ([.ref t0, .ref t1, .ref t2] ++ [.ref t3, .ref t4, .ref t5])) r2 = some (.lst [.ref t0, .ref t1, .ref t2, .ref t3, .ref t4, .ref t5]) := upd_same
  generalize e9 : upd G8 r2 _ = G9
  rw [e9] at sr2 gr2
  clear e9
  have s09 : Same (upd H' a (exv a (.ref C) (some d0))) G9 := ((((s0.trans s1).trans s2).trans sr0).trans s48).trans sr2
  have E9 := hE.same s09
  have hts : ∀ (k : Nat) (v : V), ([.ref t0, .ref t1, .ref t2, .ref t3, .ref t4, .ref t5] : List V)[k]? = some v → ∃ t wk, v = .ref t ∧ wordsE[k]? = some wk ∧ SqT X.K G9 t [.str wk, .bl (decide (k = j))] := fun k v h => by
    have s49 := s48.trans sr2
    match k, h with
    | 0, h => cases h; exact ⟨t0, _, rfl, rfl, (((s1.trans s2).trans sr0).trans s49).seqT g0⟩
    | 1, h => cases h; exact ⟨t1, _, rfl, rfl, ((s2.trans sr0).trans s49).seqT g1⟩
    | 2, h => cases h; exact ⟨t2, _, rfl, rfl, (sr0.trans s49).seqT g2⟩
    | 3, h => cases h; exact ⟨t3, _, rfl, rfl, (((s4.trans s5).trans sr1).trans sr2).seqT g3⟩
    | 4, h => cases h; exact ⟨t4, _, rfl, rfl, ((s5.trans sr1).trans sr2).seqT g4⟩
    | 5, h => cases h; exact ⟨t5, _, rfl, rfl, (sr1.trans sr2).seqT g5⟩
    | _ + 6, h => cases h
  have jl : j < 6 := (List.getElem?_eq_some_iff.mp hw).1
  refine ⟨_, rfl, _, rfl, ⟨_, .of gr2⟩, fun D hD => ?_⟩
  refine lc_it (walk_list (K := X.K) (a := r2) (xs := [.ref t0, .ref t1, .ref t2, .ref t3, .ref t4, .ref t5])) (fun i H5 => Same G9 H5 ∧ H5 D = some (.lst (if j < i then [.str wd] else []))) ⟨same_new hD, upd_same⟩ (fun i H5 _ h => h.1.seq (.of gr2)) ?_ ?_
  · rintro i v H5 H6 hi ⟨s5', hD5⟩ ⟨rfl, hv⟩
    obtain ⟨t, wk, rfl, hwk, ht⟩ := hts i v hv
    refine ⟨t, _, rfl, s5'.seqT ht, rfl, _, _, rfl, _, _, rfl, rfl, rfl, ?_⟩
    refine ⟨_, rfl, _, rfl, ?_⟩
    refine iteB (fun e => ?_) (fun e => ?_)
    · have e : i = j := of_decide_eq_true e
      subst e
      rw [hw] at hwk
      cases hwk
      rw [if_neg (Nat.lt_irrefl _)] at hD5
      refine ⟨_, rfl, _, hD5, Nat.le_of_ble_eq_true rfl, same_own s5' hD, ?_⟩
      rw [upd_same, if_pos (Nat.lt_succ_self _)]; rfl
    · have e : ¬ i = j := of_decide_eq_false e
      refine ⟨s5', ?_⟩
      rw [hD5]
      by_cases l1 : j < i
      · rw [if_pos l1, if_pos (Nat.lt_succ_of_lt l1)]
      · rw [if_neg l1, if_neg (by omega)]
  rintro H5 ⟨s5', hD5⟩
  have hD5 : H5 D = some (.lst [.str wd]) := by
    rw [hD5]; exact congrArg (fun z => some (HO.lst z)) (if_pos (show j < 6 from jl))
  have E5 := E9.same s5'
  refine ⟨_, rfl, D, _, rfl, .inl (.of hD5), rfl, _, rfl, ?_⟩
  refine iteB (fun _ => ?_) (fun e => absurd (of_decide_eq_false e) (fun z => z rfl))
  have nwd : wd ≠ "name" := fun z => by
    subst z
    have all : ∀ j : Fin 6, wordsE[j.1]? = some "name" → j.1 = 5 := by decide +kernel
    exact j5 (all ⟨j, jl⟩ hw)
  refine ⟨_, rfl, D, _, 0, .str wd, rfl, rfl, .of hD5, rfl, ?_⟩
  refine ⟨_, rfl, D, _, 0, .str wd, rfl, rfl, .of hD5, rfl, rfl, _, rfl, ?_⟩
  refine iteB (fun e => absurd (V.str.inj (of_decide_eq_true e)) nwd) (fun _ => ?_)
  refine ⟨_, rfl, a, C, _, .str p, rfl, xf, no, E5, rfl, szl rfl, fun t ht => ?_⟩
  exact k t _ ((sa.trans s09).trans (s5'.trans (same_new ht))) upd_same
end
end K6

set_option Elab.async false
set_option linter.all false
set_option maxRecDepth 100000
set_option maxHeartbeats 8000000
namespace K6
open PySem PySem.Spec PyProof.Rows L2 Gs
open LamX (Tabs TabB TabS CodeO ExtN)
section
variable {P : Program} {w : World} {K : PySem.W.Frag} {mg : Str → Option Value} {base : Heap}
/-- _law_heard(lambda: body) -/
theorem pe_heard (T : Tx K mg w) {X : Cx} (eK : X.K = K) (em : X.mg = mg) {tabs : List (Addr × Str)} {c P' : Addr} {k : Nat} {params : Arguments} {body : Expr} {scope : Scope} {t : XK → TE} {p lpos pos : Pos} (hg : Gl X "_law_heard")
    (TB : LamX.TabB X.base X.mg c P') (hcode : X.env.code = .ref c) (hmT : (P', X.env.qual ++ "<lambda>") ∈ tabs) (hu : ∀ p ∈ tabs, p.1 = P' → p.2 = X.env.qual ++ "<lambda>") (hr : Room (k + 2) X.A) (L : LamX.LamS X.env.scope scope) (hdef : defaultsOf params X.env = ([], []))
    (hbind : ∀ (q : Str) (cl : List (Str × Addr)) (pm cv ctv : Value), bindArgs (PySem.W.kla_fn "<lambda>" q params body scope cl pm cv ctv) ⟨[], []⟩ = pure [])
    (hbody : ∀ (A : Around) (outer : List Env) (s : Shared) (H : Hp) (E : XK) (f c' : Addr), Room k (A.deeper (LamX.lamEnv X scope s.heap.objs.size f c')) → PE (LamX.lamCx X A outer s H E scope f c') body (t E)) :
    PE X (.Call (.Name "_law_heard" p) [.Lambda params body scope lpos] [] pos) (LamX.tLam tabs (TTH T) t) := by
  subst eK em
  obtain ⟨oc, od, kV, doc, pm, an, cdv, ct, osl, e, lk, hcd⟩ := T.F__law_heard.ex
  have hb := T.b__law_heard
  rw [e] at hb lk
  exact LamX.pe_lamcall (Ng := n__law_heard) (a := "ask") hg T.m__law_heard T.F__law_heard.kp lk hcd hb sc__law_heard rfl (.inl rfl) (heard_gives T rfl rfl) TB hcode hmT hu hr L hdef hbind hbody
/-- _law_heard(lambda one=0: body) -/
theorem pe_heardD (T : Tx K mg w) {X : Cx} (eK : X.K = K) (em : X.mg = mg) {tabs : List (Addr × Str)} {c P' : Addr} {k : Nat} {params : Arguments} {body : Expr} {scope : Scope} {ps : List Str} {ns : List Int} {t : XK → TE} {p lpos pos : Pos} (hg : Gl X "_law_heard")
    (TB : LamX.TabB X.base X.mg c P') (hcode : X.env.code = .ref c) (hmT : (P', X.env.qual ++ "<lambda>") ∈ tabs) (hu : ∀ p ∈ tabs, p.1 = P' → p.2 = X.env.qual ++ "<lambda>") (hr : Room (k + 2) X.A) (L : LamP X.N ps X.env.scope scope)
    (hne : params.defaults.isEmpty = false) (hns : ns ≠ []) (hnz : ns.length ≤ 100) (hdef : DefV params X.env (model X.prog X.w) X.A ns) (hbind : BindD params body scope ps ns.length)
    (hbody : ∀ (A : Around) (outer : List Env) (s : Shared) (H : Hp) (E : XK) (f c' : Addr), Room k (A.deeper (LamX.lamEnv X scope s.heap.objs.size f c')) → PE (LamX.lamCx X A outer s H E scope f c') body (t E)) :
    PE X (.Call (.Name "_law_heard" p) [.Lambda params body scope lpos] [] pos) (LamX.tLam tabs (TTH T) t) := by
  subst eK em
  obtain ⟨oc, od, kV, doc, pm, an, cdv, ct, osl, e, lk, hcd⟩ := T.F__law_heard.ex
  have hb := T.b__law_heard
  rw [e] at hb lk
  exact pe_lamcallD (Ng := n__law_heard) (a := "ask") hg T.m__law_heard T.F__law_heard.kp lk hcd hb sc__law_heard rfl (.inl rfl) (heard_gives T rfl rfl) TB hcode hmT hu hr L hne hns hnz hdef hbind hbody
end
end K6

set_option Elab.async false
set_option linter.all false
set_option maxRecDepth 100000
set_option maxHeartbeats 16000000
namespace K6
open PySem PySem.Spec PyProof.Rows L2 Gs
open LamX (Tabs TabB TabS CodeO ExtN)
theorem pss_any {X : Cx} {ss : List Stmt} : PSs X ss (fun D σ H => ∃ t, PSs X ss t ∧ t D σ H) := ⟨fun pins s σ H D I ⟨t, h, q⟩ => h.run pins s σ H D I q⟩
def forB : Stmt → List Stmt
  | .For _ _ b _ _ => b
  | _ => []
def turnB (ss : List Stmt) : List Stmt := match ss with
  | _ :: f :: _ => forB f
  | _ => []
section
variable {P : Program} {w : World} {K : PySem.W.Frag} {mg : Str → Option Value} {base : Heap}
abbrev lamQ : Str := ("law.<locals>." : Str) ++ "<lambda>"
abbrev XL (P : Program) (w : World) (K : PySem.W.Frag) (mg : Str → Option Value) (base : Heap) (f : Addr) (cdv : Value) (A : Around) (outer : List Env) (s : Shared) (H : Hp) (E : XK) : Cx :=
  (cxOf CX0 P w K mg base n_law "law" (defScope s_law) f cdv A outer s H E).nox
theorem tabs_bag {TT : List (Addr × Str)} {c l : Addr} {n : Nat} {G G' : Hp} (hb : Bag c l n G) (x : Gs.Ext c G G') (h : Tabs TT G) : Tabs TT G' := fun p hp => by
  obtain ⟨ns, pt, rs, hc1, _⟩ := hb
  obtain ⟨ps, a1, a2, a3⟩ := h p hp
  refine ⟨ps, x _ _ (fun z => by rw [z, hc1] at a1; cases a1) a1, a2, fun p' cv hc => ?_⟩
  obtain ⟨c0, e1, e2⟩ := a3 p' cv hc
  exact ⟨c0, e1, x _ _ (fun z => by rw [z, hc1] at e2; cases e2) e2⟩
theorem sqT_bag {c : Addr} {G G' : Hp} {ys xs : List V} {a : Addr} (hc : G c = some (.lst ys)) (x : Gs.Ext c G G') (h : SqT K G a xs) : SqT K G' a xs := by
  rcases h with (h | ⟨q, h⟩) | h
  · exact .inl (.inl (x _ _ (fun z => by rw [z, hc] at h; cases h) h))
  · exact .inl (.inr ⟨q, x _ _ (fun z => by rw [z, hc] at h; cases h) h⟩)
  · exact .inr h
theorem kas_bag {CK c : Addr} {G G' : Hp} {ys : List V} {ks : List KdT} (hc : G c = some (.lst ys)) (x : Gs.Ext c G G') (h : KAs K CK G ks) : KAs K CK G' ks := fun k hk => by
  obtain ⟨d2, tl, tr, ls, h1, h2, h3, h4, h5⟩ := h k hk
  exact ⟨d2, tl, tr, ls, x _ _ (fun z => by rw [z, hc] at h1; cases h1) h1, sqT_bag hc x h2, fun p hp => sqT_bag hc x (h3 p hp), h4, sqT_bag hc x h5⟩
theorem bag_nc {c l x C dx : Addr} {n : Nat} {fs : List (Str × V)} {G G' : Hp} (hb : Bag c l n G) (hx : G x = some (.ins C dx fs)) (e : ExtNc x G G') : Bag c l n G' := by
  obtain ⟨ns, pt, rs, hc, hl, r⟩ := hb
  exact ⟨ns, pt, rs, e _ _ (fun z => by rw [z, hx] at hc; cases hc) hc (fun _ z => nomatch z), e _ _ (fun z => by rw [z, hx] at hl; cases hl) hl (fun _ z => nomatch z), r⟩
theorem DkAt.nc {c x C dx : Addr} {fs : List (Str × V)} {G G' : Hp} {d : DK} (h : DkAt K c G d) (hx : G x = some (.ins C dx fs)) (e : ExtNc x G G') : DkAt K c G' d :=
  ⟨⟨e.sqT hx h.at_.tup, e _ _ (fun z => by have := h.at_.la_; rw [z, hx] at this; cases this) h.at_.la_ (fun _ z => nomatch z), e _ _ (fun z => by have := h.at_.lb_; rw [z, hx] at this; cases this) h.at_.lb_ (fun _ z => nomatch z), fun p hp => e.sqT hx (h.at_.ps p hp)⟩, h.nt, h.na, h.nb, h.np, h.nm, h.ok⟩
theorem made_pairs {ks : List KdT} {ds : List DK} (hl : ks.length = ds.length) (hm : ∀ (i : Nat) k d, ks[i]? = some k → ds[i]? = some d → MadeOf k d) : (ks.map fun k => (k.z, k.q)) = (ds.map fun d => (d.z, d.q)) := by
  refine List.ext_getElem? fun i => ?_
  rw [List.getElem?_map, List.getElem?_map]
  by_cases h : i < ks.length
  · have h1 : ks[i]? = some ks[i] := List.getElem?_eq_getElem h
    have h2 : ds[i]? = some (ds[i]'(by omega)) := List.getElem?_eq_getElem _
    have := hm i _ _ h1 h2
    rw [h1, h2]
    exact congrArg some (Prod.ext this.1 this.2.1)
  · rw [List.getElem?_eq_none (by omega), List.getElem?_eq_none (by omega)]; rfl
theorem made_names {ks : List KdT} {ds : List DK} (h : (ks.map fun k => (k.z, k.q)) = (ds.map fun d => (d.z, d.q))) : ks.map (·.z) = ds.map (·.z) ∧ plainOf ks = plainD ds := by
  have e1 := congrArg (List.map Prod.fst) h
  have e2 := congrArg (fun l : List (Str × Bool) => (l.filter fun p => !p.2).map Prod.fst) h
  rw [List.map_map, List.map_map] at e1
  have e2 : ((ks.map fun k => (k.z, k.q)).filter fun p => !p.2).map Prod.fst = ((ds.map fun d => (d.z, d.q)).filter fun p => !p.2).map Prod.fst := e2
  rw [List.filter_map, List.filter_map, List.map_map, List.map_map] at e2
  exact ⟨e1, e2⟩
/-- what stands behind the game's making, and through the turn -/
structure Tn (T : Tx K mg w) (TT : List (Addr × Str)) (c l : Addr) (n : Nat) (kl e g : Addr) (ds : List DK) (a b a' b' : Option Int) (far : Int) (H : Hp) : Prop where
  bag : Bag c l n H
  tb : Tabs TT H
  kl_ : H kl = some (.lst (ds.map fun d => V.ref d.t))
  nk : kl ≠ c
  ds_ : ∀ d ∈ ds, DkAt K c H d
  dl : ds.length ≤ 5
  e_ : H e = some (.lst [oV a, oV b, oV a', oV b'])
  ne : e ≠ c
  gm : GmAt K T.c_Game H g a b a' b' far
  ng : g ≠ c
  far_ : 1 ≤ far ∧ (far = 1 ∨ ∃ d ∈ ds, ∃ p ∈ d.ls, far = (p.2.1.natAbs : Int) ∨ far = (p.2.2.natAbs : Int)) ∧ ∀ d ∈ ds, ∀ p ∈ d.ls, (p.2.1.natAbs : Int) ≤ far ∧ (p.2.2.natAbs : Int) ≤ far
/-- kinds, edges, game -/
theorem lwA (T : Tx K mg w) {cdv : Value} {A : Around} {outer : List Env} {s : Shared} {H0 : Hp} {E : XK} {D : Ends} {rest : TS} {TT : List (Addr × Str)} {ccG PG : Addr} {c l : Addr} {n : Nat} {x0 x2 x3 x4 x5 x6 x7 x8 x9 x10 x11 x12 x13 x14 x15 x16 x17 x18 x19 x20 x21 x22 x23 : Option V} {H : Hp}
    (hr : Room 13 (A.deeper (envOfC "law" (defScope s_law) s.heap.objs.size T.a_law cdv))) (hg : (A.deeper (envOfC "law" (defScope s_law) s.heap.objs.size T.a_law cdv)).guards = some [])
    (TG : TabB base mg ccG PG) (hcG : T.d_Game___init__.code = .ref ccG) (hmG : (PG, gQ) ∈ TT) (huG : ∀ p ∈ TT, p.1 = PG → p.2 = gQ)
    (HT : PSs (XL P w K mg base T.a_law cdv A outer s H0 E) ((turnB (defBody s_law)).drop 2) rest) (ht : Tabs TT H) (hb : Bag c l n H) (hN : n ≤ 900000)
    (go : ∀ kl e g ds a b a' b' far H', Tn T TT c l (n + 300) kl e g ds a b a' b' far H' → rest D [x0, some (.ref c), x2, some (.ref kl), some (.ref e), some (.ref g), x6, x7, x8, x9, x10, x11, x12, x13, x14, x15, x16, x17, x18, x19, x20, x21, x22, x23] H') :
    ∃ t, PSs (XL P w K mg base T.a_law cdv A outer s H0 E) (turnB (defBody s_law)) t ∧ t D [x0, some (.ref c), x2, x3, x4, x5, x6, x7, x8, x9, x10, x11, x12, x13, x14, x15, x16, x17, x18, x19, x20, x21, x22, x23] H := by
  refine ⟨_, (pss_cons (ps_par (i := 3) (j := 4) rfl sc_law.nd rfl rfl (by decide) rfl rfl (pa_cons (pg_call (G__law_kinds T) (hr.mono (by decide)) hg (by rfl) T.m__law_kinds T.F__law_kinds.kp T.b__law_kinds .nil pass0 (pa_cons (pv 1) (pa_cons (pe_call (O__law_sip T) (hr.mono (by decide)) (by rfl) T.m__law_sip T.F__law_sip.kp T.b__law_sip .nil pass0 (pa_cons (pv 1) (pa_cons (pe_lst (pa_cons pe_int (pa_cons pe_int (pa_cons pe_int (pa_cons pe_int pa_nil))))) pa_nil))) pa_nil))) (pa_cons (pe_call (O__law_edges T) (hr.mono (by decide)) (by rfl) T.m__law_edges T.F__law_edges.kp T.b__law_edges .nil pass0 (pa_cons (pv 1) pa_nil)) pa_nil)) (by rfl))
      (pss_cons (ps_set (i := 5) sc_law.nd rfl (Or.inr rfl) (pe_make T.mk_Game (O_Game___init__ T TG hcG hmG huG) (hr.mono (by decide)) (by rfl) T.m_Game T.b4_Game .nil passL (pa_cons (pe_call (O__law_made T) (hr.mono (by decide)) (by rfl) T.m__law_made T.F__law_made.kp T.b__law_made .nil pass0 (pa_cons (pv 3) pa_nil)) (pa_cons (pv 4) (pa_cons (pg_call (G__law_goal T) (hr.mono (by decide)) hg (by rfl) T.m__law_goal T.F__law_goal.kp T.b__law_goal .nil pass0 (pa_cons (pv 1) (pa_cons (pv 3) (pa_cons (pv 4) pa_nil)))) pa_nil)))))
      HT)), ?_⟩
  -- how many kinds
  refine ⟨_, rfl, _, rfl, szl rfl, fun p hp => ?_⟩
  refine ⟨c, l, p, n, _, rfl, hb.new hp, by omega, hb.ne hp, .of upd_same, by simp, szl2 rfl, fun i v H1 hi b1 x1 => ?_⟩
  obtain ⟨m, rfl, hm⟩ : ∃ m : Nat, v = .int m ∧ 1 ≤ m ∧ m ≤ 5 := by
    have hm := one_of hi
    simp only [List.mem_cons, List.not_mem_nil, or_false] at hm
    rcases hm with rfl | rfl | rfl | rfl
    · exact ⟨1, rfl, by decide⟩
    · exact ⟨2, rfl, by decide⟩
    · exact ⟨3, rfl, by decide⟩
    · exact ⟨5, rfl, by decide⟩
  have x01 : Gs.Ext c H H1 := (Gs.Ext.new hp).trans x1
  refine ⟨c, l, n + 1, m, rfl, b1, by omega, hm.1, hm.2, fun kl ds H2 hkl nk hds nd hlen b2 x2 => ?_⟩
  refine ⟨_, rfl, c, l, _, rfl, b2, by omega, fun e a b a' b' H3 he l1 l2 ne b3 x3 => ⟨_, _, rfl, ?_⟩⟩
  have x03 := (x01.trans x2).trans x3
  have hkl3 := x3 _ _ nk hkl
  have hds3 : ∀ d ∈ ds, DkAt K c H3 d := fun d hd => (hds d hd).ext x3
  have t3 := tabs_bag hb x03 ht
  have hcn : H3 c ≠ none := by
    obtain ⟨ns, pt, rs, hc1, _⟩ := b3
    rw [hc1]; exact fun z => nomatch z
  -- the kinds made
  refine ⟨_, rfl, c, kl, ds, rfl, hkl3, hcn, hds3, by omega, fun l1' ks H4 hl4 hln hk4 hlk hmade s4 => ?_⟩
  have b4 := b3.same s4
  have nl1 : l1' ≠ c := b3.ne hln
  refine ⟨_, rfl, _, rfl, _, rfl, _, rfl, c, l, kl, e, _, ds, a, b, a', b', rfl, b4, by omega, s4 _ _ hkl3, nk, fun d hd => (hds3 d hd).ext (Gs.Ext.of s4), by omega, by omega, s4 _ _ he, ne, fun g ws H5 hgl hgd ng b5 x5 => ?_⟩
  obtain ⟨ns4, pt4, rs4, hc4, _⟩ := b4
  have hk5 : KAs K T.c_Kind H5 ks := kas_bag hc4 x5 hk4
  have hl5 : H5 l1' = some (.lst (refsK ks)) := x5 _ _ nl1 hl4
  have x35 : Gs.Ext c H3 H5 := (Gs.Ext.of s4).trans x5
  have he5 : H5 e = some (.lst [oV a, oV b, oV a', oV b']) := x35 _ _ ne he
  have t5 := tabs_bag b3 x35 t3
  -- the game
  intro x dx hx hdx ndx
  have old : Same H5 (upd (upd H5 dx (.own x)) x (.ins T.c_Game dx [])) := fun y o h => by
    rw [upd_ne (ne_of_none h hx), upd_ne (ne_of_none h hdx)]; exact h
  have hx' : upd (upd H5 dx (.own x)) x (.ins T.c_Game dx []) x = some (.ins T.c_Game dx []) := upd_same
  have pr := made_pairs hlk hmade
  obtain ⟨nmE, plE⟩ := made_names pr
  have made : ∀ k ∈ ks, ∃ d ∈ ds, MadeOf k d := fun k hk => by
    obtain ⟨i, hi⟩ := List.getElem?_of_mem hk
    have hil := (List.getElem?_eq_some_iff.mp hi).1
    have h2 : ds[i]? = some (ds[i]'(by omega)) := List.getElem?_eq_getElem _
    exact ⟨_, List.mem_of_getElem? h2, hmade i _ _ hi h2⟩
  have made' : ∀ d ∈ ds, ∃ k ∈ ks, MadeOf k d := fun d hd => by
    obtain ⟨i, hi⟩ := List.getElem?_of_mem hd
    have hil := (List.getElem?_eq_some_iff.mp hi).1
    have h2 : ks[i]? = some (ks[i]'(by omega)) := List.getElem?_eq_getElem _
    exact ⟨_, List.mem_of_getElem? h2, hmade i _ _ h2 hi⟩
  refine ⟨x, dx, l1', e, g, ks, a, b, a', b', ws, rfl, hx', old.seq (.of hl5), hk5.same old, by omega, by omega, fun k hk => ?_, by rw [nmE]; exact nd, .inl (old.seq (.of he5)), l1, l2, .inl (old.seq (.of hgl)), ?_, tabs_same old t5, fun tk te tg tt nf H6 e6 t6 h6x htk hte htg hkv hfar => ⟨rfl, ?_⟩⟩
  · obtain ⟨d, hd, _, _, pm⟩ := made k hk
    rw [pm.length_eq]
    exact Nat.le_trans (hds d hd).ok.few (by decide)
  · rcases hgd with h | ⟨nn, h, hn⟩ | ⟨sd, nn, h, hs, hn⟩
    · exact .inl h
    · exact .inr (.inl ⟨nn, h, by rw [plE]; exact hn⟩)
    · exact .inr (.inr ⟨sd, nn, h, hs, by rw [nmE]; exact hn⟩)
  · have nxc : x ≠ c := b5.ne hx
    refine go kl e x ds a b a' b' nf H6 ⟨(bag_nc (b5.same old) hx' e6).mono (by omega), t6, ?_, nk, fun d hd => (((hds3 d hd).ext x35).ext (Gs.Ext.of old)).nc hx' e6, by omega, ?_, ne, ⟨dx, tk, te, tg, tt, h6x, hte⟩, nxc, hfar.1, ?_, ?_⟩
    · have h1 := old _ _ (x35 _ _ nk hkl3)
      exact e6 _ _ (fun z => by rw [z, hx'] at h1; cases h1) h1 (fun _ z => nomatch z)
    · have h1 := old _ _ he5
      exact e6 _ _ (fun z => by rw [z, hx'] at h1; cases h1) h1 (fun _ z => nomatch z)
    · rcases hfar.2.1 with h | ⟨k, hk, p, hp, h⟩
      · exact .inl h
      · obtain ⟨d, hd, _, _, pm⟩ := made k hk
        obtain ⟨q, hq, rfl⟩ := List.mem_map.mp (pm.mem_iff.mp hp)
        exact .inr ⟨d, hd, q, hq, h⟩
    · intro d hd q hq
      obtain ⟨k, hk, _, _, pm⟩ := made' d hd
      exact hfar.2.2 k hk q.2 (pm.mem_iff.mpr (List.mem_map_of_mem hq))
end
end K6

set_option Elab.async false
set_option linter.all false
set_option maxRecDepth 100000
set_option maxHeartbeats 16000000
namespace K6
open PySem PySem.Spec PyProof.Rows L2 Gs
open LamX (Tabs TabB TabS CodeO ExtN)
section
variable {P : Program} {w : World} {K : PySem.W.Frag} {mg : Str → Option Value} {base : Heap}
theorem Tn.ext {T : Tx K mg w} {TT : List (Addr × Str)} {c l : Addr} {n m : Nat} {kl e g : Addr} {ds : List DK} {a b a' b' : Option Int} {far : Int} {H H' : Hp} (t : Tn T TT c l n kl e g ds a b a' b' far H) (x : Gs.Ext c H H') (bb : Bag c l m H') : Tn T TT c l m kl e g ds a b a' b' far H' := by
  obtain ⟨ns, pt, rs, hc1, _⟩ := id t.bag
  obtain ⟨dx, tk, te, tg, tt, h1, h2⟩ := t.gm
  exact ⟨bb, tabs_bag t.bag x t.tb, x _ _ t.nk t.kl_, t.nk, fun d hd => (t.ds_ d hd).ext x, t.dl, x _ _ t.ne t.e_, t.ne, ⟨dx, tk, te, tg, tt, x _ _ t.ng h1, sqT_bag hc1 x h2⟩, t.ng, t.far_⟩
theorem Tn.same {T : Tx K mg w} {TT : List (Addr × Str)} {c l : Addr} {n : Nat} {kl e g : Addr} {ds : List DK} {a b a' b' : Option Int} {far : Int} {H H' : Hp} (t : Tn T TT c l n kl e g ds a b a' b' far H) (x : Same H H') : Tn T TT c l n kl e g ds a b a' b' far H' := t.ext (Gs.Ext.of x) (t.bag.same x)
theorem or_lo' {σ : L2.St} {H : Hp} {Q : VK} {te : TE} {j : Nat} {a : Option Int} {y : Int} (h : ∀ Q : VK, Q (oV a) H → te σ H Q) (h2 : σ[j]? = some (some (.int y))) (q : Q (.bl (leO a (some y))) H) :
    tOrV (tOp (fun x y H Q => y = V.non ∧ Q (V.bl (decide (x = V.non))) H) te (tC V.non)) (tOp (rI0 fun i j => V.bl (decide (i ≤ j))) te (tVar j)) σ H Q := by
  cases a with
  | none => exact h _ ⟨rfl, _, rfl, q⟩
  | some l => exact h _ ⟨rfl, _, rfl, h _ ⟨_, h2, _, _, rfl, rfl, q⟩⟩
theorem or_hi' {σ : L2.St} {H : Hp} {Q : VK} {te : TE} {j : Nat} {a : Option Int} {y : Int} (h : ∀ Q : VK, Q (oV a) H → te σ H Q) (h2 : σ[j]? = some (some (.int y))) (q : Q (.bl (leO (some y) a)) H) :
    tOrV (tOp (fun x y H Q => y = V.non ∧ Q (V.bl (decide (x = V.non))) H) te (tC V.non)) (tOp (rI0 fun i j => V.bl (decide (i ≤ j))) (tVar j) te) σ H Q := by
  cases a with
  | none => exact h _ ⟨rfl, _, rfl, q⟩
  | some l => exact h _ ⟨rfl, _, rfl, _, h2, h _ ⟨_, _, rfl, rfl, q⟩⟩
theorem seq_cutN {te : TE} {tg : TG} {r : TS} {D : Ends} {σ : L2.St} {H : Hp} {q1 : V → Hp → Prop} {q2 q3 : L2.St → Hp → Prop} (R : V → Hp → Prop) (h1 : ∀ Q : VK, (∀ v H', R v H' → Q v H') → te σ H Q) (h2 : ∀ v H', R v H' → tg v σ H' (r D)) : Ends.nx { nx := tSeq (tAsg te tg) r D, rt := q1, bk := q2, ct := q3 } σ H := seq_cut R h1 h2
theorem seq_cutG {i : Nat} {v : V} {te : TE} {tg : TG} {r : TS} {D : Ends} {σ : L2.St} {H : Hp} (R : V → Hp → Prop) (h1 : ∀ Q : VK, (∀ v H', R v H' → Q v H') → te (σ.set i (some v)) H Q) (h2 : ∀ u H', R u H' → tg u (σ.set i (some v)) H' (r D)) : gName i v σ H (tSeq (tAsg te tg) r D) := seq_cut R h1 h2
theorem shown_two (x y : Bool) : (PyData.list [.bool x, .bool y]).shown.length ≤ sizeLine := by
  cases x <;> cases y <;> decide +kernel
/-- the laps: what is on the field -/
theorem lwB (T : Tx K mg w) {cdv : Value} {A : Around} {outer : List Env} {s : Shared} {H0 : Hp} {E : XK} {D : Ends} {rest : TS} {TT : List (Addr × Str)} {c l kl e g : Addr} {n : Nat} {ds : List DK} {a b a' b' : Option Int} {far : Int} {x0 x2 x6 x7 x8 x9 x10 x11 x12 x13 x14 x15 x16 x17 x18 x19 x20 x21 x22 x23 : Option V} {H : Hp}
    (hr : Room 13 (A.deeper (envOfC "law" (defScope s_law) s.heap.objs.size T.a_law cdv))) (hg : (A.deeper (envOfC "law" (defScope s_law) s.heap.objs.size T.a_law cdv)).guards = some [])
    (HT : PSs (XL P w K mg base T.a_law cdv A outer s H0 E) ((turnB (defBody s_law)).drop 3) rest) (tn : Tn T TT c l n kl e g ds a b a' b' far H) (hN : n ≤ 900000)
    (go : ∀ x6 x7 x8 x9 x10 H', Tn T TT c l (n + 100) kl e g ds a b a' b' far H' → rest D [x0, some (.ref c), x2, some (.ref kl), some (.ref e), some (.ref g), x6, x7, x8, x9, x10, x11, x12, x13, x14, x15, x16, x17, x18, x19, x20, x21, x22, x23] H') :
    ∃ t, PSs (XL P w K mg base T.a_law cdv A outer s H0 E) ((turnB (defBody s_law)).drop 2) t ∧ t D [x0, some (.ref c), x2, some (.ref kl), some (.ref e), some (.ref g), x6, x7, x8, x9, x10, x11, x12, x13, x14, x15, x16, x17, x18, x19, x20, x21, x22, x23] H := by
  refine ⟨_, (pss_cons (ps_for PassesOwn.never rfl (pi_range1 (by rfl) T.z_range (pa_cons pe_int pa_nil)) (pg_name (i := 6) sc_law.nd rfl (Or.inl rfl)) (pss_cons (ps_par (i := 7) (j := 8) rfl sc_law.nd rfl rfl (by decide) rfl rfl (pa_cons (pe_call (O__law_near T) (hr.mono (by decide)) (by rfl) T.m__law_near T.F__law_near.kp T.b__law_near .nil pass0 (pa_cons (pv 1) (pa_cons (pe_slice sl_list (pv 4) po_none (po_some pe_int)) pa_nil))) (pa_cons (pe_call (O__law_near T) (hr.mono (by decide)) (by rfl) T.m__law_near T.F__law_near.kp T.b__law_near .nil pass0 (pa_cons (pv 1) (pa_cons (pe_slice sl_list (pv 4) (po_some pe_int) po_none) pa_nil))) pa_nil)) (by rfl))
      (pss_cons (ps_set (i := 9) sc_law.nd rfl (Or.inl rfl) (pe_and (pe_or (pe_cmpR op_isN (pe_ix ix_list (pv 4) pe_int (fun _ _ => rfl)) pe_non (nomark _)) (pe_one (pe_cmpR op_le (pe_ix ix_list (pv 4) pe_int (fun _ _ => rfl)) (pv 7) (nomark _)))) (pe_one (pe_or (pe_cmpR op_isN (pe_ix ix_list (pv 4) pe_int (fun _ _ => rfl)) pe_non (nomark _)) (pe_one (pe_cmpR op_le (pv 7) (pe_ix ix_list (pv 4) pe_int (fun _ _ => rfl)) (nomark _)))))))
      (pss_cons (ps_set (i := 9) sc_law.nd rfl (Or.inl rfl) (pe_and (pv 9) (pe_and (pe_or (pe_cmpR op_isN (pe_ix ix_list (pv 4) pe_int (fun _ _ => rfl)) pe_non (nomark _)) (pe_one (pe_cmpR op_le (pe_ix ix_list (pv 4) pe_int (fun _ _ => rfl)) (pv 8) (nomark _)))) (pe_one (pe_or (pe_cmpR op_isN (pe_ix ix_list (pv 4) pe_int (fun _ _ => rfl)) pe_non (nomark _)) (pe_one (pe_cmpR op_le (pv 8) (pe_ix ix_list (pv 4) pe_int (fun _ _ => rfl)) (nomark _))))))))
      (pss_cons (ps_set (i := 10) sc_law.nd rfl (Or.inl rfl) (pe_ifExp (pt_cmpR op_lt (pv 6) pe_int (nomark _)) (pe_tup (pa_cons (pv 7) (pa_cons (pv 8) pa_nil))) (pe_lst (pa_cons (pv 7) (pa_cons (pv 8) pa_nil)))))
      (pss_one (ps_if (pt_cmpR op_ne (pe_callB (call_repr hr hg) (by rfl) T.z_repr (by decide +kernel) (pa_cons (pe_lst (pa_cons (pe_call (O_on_field T) (hr.mono (by decide)) (by rfl) T.m_on_field T.F_on_field.kp T.b_on_field .nil passL (pa_cons (pv 5) (pa_cons (pv 10) pa_nil))) (pa_cons (pg_callK0 (FnG.of (O_on_field T)) (hr.mono (by decide)) hg (by rfl) T.m_on_field T.F_on_field.kp T.kb_on_field passL (pk_cons (pv 10) (pk_cons (pv 5) pk_nil))) pa_nil))) pa_nil)) (pe_callB (call_repr hr hg) (by rfl) T.z_repr (by decide +kernel) (pa_cons (pe_lst (pa_cons (pv 9) (pa_cons (pv 9) pa_nil))) pa_nil)) (nomark _)) (pss_one (ps_ret pe_bl)) pss_nil)))))))
      HT), ?_⟩
  refine ⟨8, rfl, by decide, by decide, ?_⟩
  refine for_it (walk_range (lo := 0) (n := 8)) (fun i σ H' => (∃ x6 x7 x8 x9 x10 : Option V, σ = [x0, some (.ref c), x2, some (.ref kl), some (.ref e), some (.ref g), x6, x7, x8, x9, x10, x11, x12, x13, x14, x15, x16, x17, x18, x19, x20, x21, x22, x23]) ∧ Tn T TT c l (n + 10 * i) kl e g ds a b a' b' far H')
    ⟨⟨_, _, _, _, _, rfl⟩, tn⟩ (fun _ _ _ _ _ => trivial) ?_ ?_
  rotate_left
  · rintro σ H1 ⟨⟨y6, y7, y8, y9, y10, rfl⟩, t1⟩
    exact go y6 y7 y8 y9 y10 H1 (t1.ext (Gs.Ext.of (Same.refl _)) (t1.bag.mono (by omega)))
  rintro i x σ H1 H1' hi ⟨⟨y6, y7, y8, y9, y10, rfl⟩, t1⟩ ⟨rfl, rfl⟩
  clear tn
  -- column, row
  refine ⟨_, rfl, _, rfl, _, rfl, e, _, rfl, .of t1.e_, fun p1 hp1 => ?_⟩
  have c1 : cutV [oV a, oV b, oV a', oV b'] none (some 2) = ([a, b] : List (Option Int)).map oV := rfl
  have c2 : cutV [oV a, oV b, oV a', oV b'] (some 2) none = ([a', b'] : List (Option Int)).map oV := rfl
  rw [c1] 
  refine ⟨c, l, p1, _, [a, b], rfl, t1.bag.new hp1, by omega, t1.bag.ne hp1, .of upd_same, Nat.le_of_ble_eq_true rfl, fun col H2 b2 x2 => ?_⟩
  have t2 := t1.ext ((Gs.Ext.new hp1).trans x2) b2
  clear x2 b2 hp1 t1
  refine ⟨_, rfl, _, rfl, _, rfl, e, _, rfl, .of t2.e_, fun p2 hp2 => ?_⟩
  rw [c2]
  refine ⟨c, l, p2, _, [a', b'], rfl, t2.bag.new hp2, by omega, t2.bag.ne hp2, .of upd_same, Nat.le_of_ble_eq_true rfl, fun row H3 b3 x3 => ⟨_, _, rfl, ?_⟩⟩
  have t3 : Tn T TT c l (n + 10 * (i + 1)) kl e g ds a b a' b' far H3 := t2.ext ((Gs.Ext.new hp2).trans x3) (b3.mono (by omega))
  clear x3 b3 hp2 t2
  -- due
  refine seq_cutN (fun v H' => v = .bl (leO a (some col) && leO (some col) b) ∧ H' = H3) (fun Q q => ?_) ?_
  · refine and_v (p := leO a (some col)) (q := leO (some col) b) (fun Q' q' => ?_) (fun Q' q' => ?_) (q _ _ ⟨rfl, rfl⟩)
    · exact or_lo' (fun Q'' q2 => ⟨_, rfl, e, _, 0, _, rfl, rfl, .of t3.e_, rfl, q2⟩) rfl q'
    · exact or_hi' (fun Q'' q2 => ⟨_, rfl, e, _, 1, _, rfl, rfl, .of t3.e_, rfl, q2⟩) rfl q'
  rintro v H3' ⟨rfl, rfl⟩
  refine seq_cutG (fun v H' => v = .bl (inE a b a' b' col row) ∧ H' = H3') (fun Q q => ?_) ?_
  · have q := q _ _ ⟨rfl, rfl⟩
    have ei : inE a b a' b' col row = ((leO a (some col) && leO (some col) b) && (leO a' (some row) && leO (some row) b')) := by unfold inE; rw [Bool.and_assoc]
    rw [ei] at q
    refine and_v (p := leO a (some col) && leO (some col) b) (q := leO a' (some row) && leO (some row) b') (fun Q' q' => ⟨_, rfl, q'⟩) (fun Q' q' => ?_) q
    refine and_v (p := leO a' (some row)) (q := leO (some row) b') (fun Q' q' => ?_) (fun Q' q' => ?_) q'
    · exact or_lo' (fun Q'' q2 => ⟨_, rfl, e, _, 2, _, rfl, rfl, .of t3.e_, rfl, q2⟩) rfl q'
    · exact or_hi' (fun Q'' q2 => ⟨_, rfl, e, _, 3, _, rfl, rfl, .of t3.e_, rfl, q2⟩) rfl q'
  rintro v H3 ⟨rfl, rfl⟩
  -- square
  refine seq_cutG (fun v H' => ∃ q, v = .ref q ∧ Seq K H' q [.int col, .int row] ∧ Same H3 H') (fun Q q => ?_) ?_
  · refine ⟨_, rfl, _, _, rfl, rfl, _, rfl, ?_⟩
    refine iteB (fun _ => ?_) (fun _ => ?_)
    · exact ⟨_, rfl, _, rfl, szl rfl, fun p hp => q _ _ ⟨p, rfl, .inr (.of upd_same), same_new hp⟩⟩
    · exact ⟨_, rfl, _, rfl, szl rfl, fun p hp => q _ _ ⟨p, rfl, .inl (.of upd_same), same_new hp⟩⟩
  rintro v H4 ⟨sq, rfl, hsq, s34⟩
  have t4 := t3.same s34
  clear t3 s34
  obtain ⟨dx, tk, te, tg, tt, g1, g2⟩ := id t4.gm
  refine ⟨_, rfl, _, rfl, .ref g, .ref sq, .ref T.c_Game, rfl, T.ty_Game.ty g1, .inr ⟨T.kk_Game, g, a, b, a', b', far, rfl, t4.gm, .inr ⟨sq, col, row, rfl, hsq, fun H5 s45 => ?_⟩⟩⟩
  have t5 := t4.same s45
  have hsq5 : Seq K H5 sq _ := hsq.imp s45.seq s45.seqT
  clear t4 hsq g1 g2 s45
  obtain ⟨dx, tk, te, tg, tt, g1, g2⟩ := id t5.gm
  refine ⟨_, rfl, _, rfl, rfl, rfl, .ref g, .ref sq, .ref T.c_Game, rfl, T.ty_Game.ty g1, .inr ⟨T.kk_Game, g, a, b, a', b', far, rfl, t5.gm, .inr ⟨sq, col, row, rfl, hsq5, fun H6 s56 => ?_⟩⟩⟩
  have t6 := t5.same s56
  clear t5 hsq5 g1 g2 s56
  have two : ∀ {p : Addr} {G : Hp} {x y : Bool}, G p = some (.lst [.bl x, .bl y]) → DV K (p + 1) G (.ref p) (.list [.bool x, .bool y]) := fun {p G x y} h => .lst (ne_succ p) (.of h) (.cons (.bl _) (.cons (.bl _) .nil))
  refine ⟨szl rfl, fun p hp => ⟨_, p, .list [.bool _, .bool _], rfl, two upd_same, rfl, Nat.le_of_ble_eq_true rfl, shown_two _ _, ?_⟩⟩
  have t7 := t6.same (same_new hp (o := .lst [.bl (inE a b a' b' col row), .bl (inE a b a' b' col row)]))
  generalize upd H6 p _ = H7 at t7 ⊢
  refine ⟨_, rfl, _, rfl, szl rfl, fun p2 hp2 => ⟨_, p2, .list [.bool _, .bool _], rfl, two upd_same, rfl, Nat.le_of_ble_eq_true rfl, shown_two _ _, rfl, _, rfl, ?_⟩⟩
  have t8 := t7.same (same_new hp2 (o := .lst [.bl (inE a b a' b' col row), .bl (inE a b a' b' col row)]))
  refine iteB (fun e => ?_) (fun _ => ?_)
  · have e : (!decide (V.str (PyData.list [.bool (inE a b a' b' col row), .bool (inE a b a' b' col row)]).shown = V.str (PyData.list [.bool (inE a b a' b' col row), .bool (inE a b a' b' col row)]).shown)) = true := e
    rw [decide_eq_true rfl] at e; cases e
  · exact ⟨⟨_, _, _, _, _, rfl⟩, t8⟩
end
end K6

set_option Elab.async false
set_option linter.all false
set_option maxRecDepth 100000
set_option maxHeartbeats 16000000
namespace K6
open PySem PySem.Spec PyProof.Rows L2 Gs
open LamX (Tabs TabB TabS CodeO ExtN)
section
variable {P : Program} {w : World} {K : PySem.W.Frag} {mg : Str → Option Value} {base : Heap}
/-- the numbers of these leaps, without their signs, and 1 -/
structure Nums (ns : List Int) (ds : List DK) : Prop where
  one : 1 ∈ ns
  all : ∀ d ∈ ds, ∀ p ∈ d.ls, (p.2.1.natAbs : Int) ∈ ns ∧ (p.2.2.natAbs : Int) ∈ ns
  only : ∀ y ∈ ns, y = 1 ∨ ∃ d ∈ ds, ∃ p ∈ d.ls, y = (p.2.1.natAbs : Int) ∨ y = (p.2.2.natAbs : Int)
theorem Nums.max_ {ns : List Int} {ds : List DK} {far m : Int} (h : Nums ns ds) (hf : 1 ≤ far ∧ (far = 1 ∨ ∃ d ∈ ds, ∃ p ∈ d.ls, far = (p.2.1.natAbs : Int) ∨ far = (p.2.2.natAbs : Int)) ∧ ∀ d ∈ ds, ∀ p ∈ d.ls, (p.2.1.natAbs : Int) ≤ far ∧ (p.2.2.natAbs : Int) ≤ far)
    (hm : m ∈ ns) (hmax : ∀ y ∈ ns, y ≤ m) : m = far := by
  have l1 : m ≤ far := by
    rcases h.only m hm with e | ⟨d, hd, p, hp, e⟩
    · rw [e]; exact hf.1
    · have := hf.2.2 d hd p hp
      rcases e with e | e <;> rw [e] <;> omega
  have l2 : far ≤ m := by
    rcases hf.2.1 with e | ⟨d, hd, p, hp, e⟩
    · rw [e]; exact hmax 1 h.one
    · have := h.all d hd p hp
      rcases e with e | e
      · rw [e]; exact hmax _ this.1
      · rw [e]; exact hmax _ this.2
  omega
/-- numbers -/
theorem lwC (T : Tx K mg w) {cdv : Value} {A : Around} {outer : List Env} {s : Shared} {H0 : Hp} {E : XK} {D : Ends} {rest : TS} {TT : List (Addr × Str)} {c l kl e g : Addr} {n : Nat} {ds : List DK} {a b a' b' : Option Int} {far : Int} {x0 x2 x6 x7 x8 x9 x10 x11 x12 x13 x14 x15 x16 x17 x18 x19 x20 x21 x22 x23 : Option V} {H : Hp}
    (hr : Room 13 (A.deeper (envOfC "law" (defScope s_law) s.heap.objs.size T.a_law cdv))) (hg : (A.deeper (envOfC "law" (defScope s_law) s.heap.objs.size T.a_law cdv)).guards = some [])
    (HT : PSs (XL P w K mg base T.a_law cdv A outer s H0 E) ((turnB (defBody s_law)).drop 5) rest) (tn : Tn T TT c l n kl e g ds a b a' b' far H)
    (go : ∀ x12 x13 x14 x15 x16 x17 nl ns H', Tn T TT c l n kl e g ds a b a' b' far H' → H' nl = some (.lst (ns.map V.int)) → nl ≠ c → Nums ns ds → ns.length ≤ 81 → rest D [x0, some (.ref c), x2, some (.ref kl), some (.ref e), some (.ref g), x6, x7, x8, x9, x10, some (.ref nl), x12, x13, x14, x15, x16, x17, x18, x19, x20, x21, x22, x23] H') :
    ∃ t, PSs (XL P w K mg base T.a_law cdv A outer s H0 E) ((turnB (defBody s_law)).drop 3) t ∧ t D [x0, some (.ref c), x2, some (.ref kl), some (.ref e), some (.ref g), x6, x7, x8, x9, x10, x11, x12, x13, x14, x15, x16, x17, x18, x19, x20, x21, x22, x23] H := by
  refine ⟨_, (pss_cons (ps_set (i := 11) sc_law.nd rfl (Or.inl rfl) (pe_lst (pa_cons pe_int pa_nil)))
      (pss_cons (ps_for PassesOwn.never rfl (pi_list (pv 3)) (pg_tup rfl (pgs_cons (pg_name (i := 12) sc_law.nd rfl (Or.inl rfl)) (pgs_cons (pg_name (i := 13) sc_law.nd rfl (Or.inl rfl)) (pgs_cons (pg_name (i := 14) sc_law.nd rfl (Or.inl rfl)) (pgs_cons (pg_name (i := 15) sc_law.nd rfl (Or.inl rfl)) pgs_nil))))) (pss_one (ps_for PassesOwn.never rfl (pi_list (pv 13)) (pg_tup rfl (pgs_cons (pg_name (i := 16) sc_law.nd rfl (Or.inl rfl)) (pgs_cons (pg_name (i := 17) sc_law.nd rfl (Or.inl rfl)) pgs_nil))) (pss_one (ps_set (i := 11) sc_law.nd rfl (Or.inl rfl) (pe_op op_cat (pv 11) (pe_lst (pa_cons (pe_callB (call_max2 rfl) (by rfl) T.z_max (by decide +kernel) (pa_cons (pv 16) (pa_cons (pe_un un_neg (pv 16)) pa_nil))) (pa_cons (pe_callB (call_max2 rfl) (by rfl) T.z_max (by decide +kernel) (pa_cons (pv 17) (pa_cons (pe_un un_neg (pv 17)) pa_nil))) pa_nil)))))))))
      HT)), ?_⟩
  refine ⟨szl rfl, fun N0 hN0 => ?_⟩
  have t0 := tn.same (same_new hN0 (o := .lst [.int 1]))
  have n0 : N0 ≠ c := tn.bag.ne hN0
  have g0 : upd H N0 (.lst [.int 1]) N0 = some (.lst (([1] : List Int).map V.int)) := upd_same
  refine ⟨_, rfl, kl, rfl, ⟨_, .of t0.kl_⟩, ?_⟩
  refine for_it (walk_list (K := K) (a := kl) (xs := ds.map fun d => V.ref d.t)) (fun i σ H' => ∃ (x12 x13 x14 x15 x16 x17 : Option V) (nl : Addr) (ns : List Int), σ = [x0, some (.ref c), x2, some (.ref kl), some (.ref e), some (.ref g), x6, x7, x8, x9, x10, some (.ref nl), x12, x13, x14, x15, x16, x17, x18, x19, x20, x21, x22, x23] ∧ H' nl = some (.lst (ns.map V.int)) ∧ nl ≠ c ∧ Nums ns (ds.take i) ∧ ns.length ≤ 1 + 16 * i ∧ Tn T TT c l n kl e g ds a b a' b' far H')
    ⟨_, _, _, _, _, _, N0, [1], rfl, g0, n0, ⟨List.mem_cons_self, (fun d h => by cases h), fun y hy => .inl (List.mem_singleton.mp hy)⟩, Nat.le_refl _, t0⟩ (fun i σ H' _ h => by obtain ⟨_, _, _, _, _, _, _, _, _, _, _, _, _, t⟩ := h; exact .of t.kl_) ?_ ?_
  rotate_left
  · rintro σ H1 ⟨y12, y13, y14, y15, y16, y17, nl, ns, rfl, h1, h2, h3, h4, t1⟩
    rw [List.length_map] at h3 h4
    rw [List.take_length] at h3
    exact go y12 y13 y14 y15 y16 y17 nl ns H1 t1 h1 h2 h3 (by have := t1.dl; omega)
  rintro i v σ H1 H1' hi ⟨y12, y13, y14, y15, y16, y17, nl, ns, rfl, h1, h2, h3, h4, t1⟩ ⟨rfl, hv⟩
  rw [List.getElem?_map] at hv
  obtain ⟨d, hd, rfl⟩ := Option.map_eq_some_iff.mp hv
  have hdm := List.mem_of_getElem? hd
  have da := t1.ds_ d hdm
  refine ⟨d.t, _, rfl, da.at_.tup, rfl, _, _, rfl, _, _, rfl, _, _, rfl, _, _, rfl, rfl, ?_⟩
  clear tn t0 g0 hN0 n0
  refine ⟨_, rfl, d.la, rfl, ⟨_, .of da.at_.la_⟩, ?_⟩
  refine for_it (walk_list (K := K) (a := d.la) (xs := d.ls.map fun p => V.ref p.1)) (fun j σ H' => ∃ (x16 x17 : Option V) (nl : Addr) (ns : List Int), σ = [x0, some (.ref c), x2, some (.ref kl), some (.ref e), some (.ref g), x6, x7, x8, x9, x10, some (.ref nl), some (.str d.z), some (.ref d.la), some (.ref d.lb), some (.bl d.q), x16, x17, x18, x19, x20, x21, x22, x23] ∧ H' nl = some (.lst (ns.map V.int)) ∧ nl ≠ c ∧
      Nums ns (ds.take i ++ [⟨d.t, d.la, d.lb, d.z, d.ls.take j, d.R, d.q⟩]) ∧ ns.length ≤ 1 + 16 * i + 2 * j ∧ Tn T TT c l n kl e g ds a b a' b' far H')
    ⟨_, _, nl, ns, rfl, h1, h2, ⟨h3.one, fun d2 hd2 p hp => ?_, fun y hy => (h3.only y hy).imp_right fun ⟨d2, h, r⟩ => ⟨d2, List.mem_append_left _ h, r⟩⟩, h4, t1⟩ (fun j σ H' _ h => by obtain ⟨_, _, _, _, _, _, _, _, _, t⟩ := h; exact .of (t.ds_ d hdm).at_.la_) ?_ ?_
  · rcases List.mem_append.mp hd2 with hd2 | hd2
    · exact h3.all d2 hd2 p hp
    · rw [List.mem_singleton.mp hd2] at hp; cases hp
  rotate_left
  · rintro σ H2 ⟨y16, y17, nl2, ns2, rfl, k1, k2, k3, k4, t2⟩
    rw [List.length_map] at k3 k4
    rw [List.take_length] at k3
    refine ⟨_, _, _, _, _, _, nl2, ns2, rfl, k1, k2, ?_, ?_, t2⟩
    · rw [List.take_add_one, hd]; exact k3
    · have : d.ls.length ≤ 8 := by have := da.ok.few; rw [List.length_map] at this; exact this
      omega
  rintro j v σ H2 H2' hj ⟨y16, y17, nl2, ns2, rfl, k1, k2, k3, k4, t2⟩ ⟨rfl, hv⟩
  rw [List.getElem?_map] at hv
  obtain ⟨p, hp, rfl⟩ := Option.map_eq_some_iff.mp hv
  have hpT := (t2.ds_ d hdm).at_.ps p (List.mem_of_getElem? hp)
  have hjl : j < d.ls.length := (List.getElem?_eq_some_iff.mp hp).1
  have l8 : d.ls.length ≤ 8 := by have := da.ok.few; rw [List.length_map] at this; exact this
  have il : i < ds.length := (List.getElem?_eq_some_iff.mp hd).1
  have dl5 := t2.dl
  refine ⟨p.1, _, rfl, hpT, rfl, _, _, rfl, _, _, rfl, rfl, ?_⟩
  refine ⟨_, rfl, _, rfl, _, rfl, _, rfl, _, _, rfl, _, rfl, _, rfl, _, rfl, _, _, rfl, szl rfl, fun q hq => ?_⟩
  have ab : ∀ z : Int, (if -z > z then -z else z) = (z.natAbs : Int) := fun z => by split <;> omega
  have sq := same_new hq (o := .lst [.int (if -p.2.1 > p.2.1 then -p.2.1 else p.2.1), .int (if -p.2.2 > p.2.2 then -p.2.2 else p.2.2)])
  have t3 := t2.same sq
  refine ⟨nl2, q, _, _, rfl, rfl, sq _ _ k1, upd_same, ?_, fun r hr => ?_⟩
  · rw [List.length_map]
    exact Nat.le_trans (show _ ≤ 200 by simp only [List.length_cons, List.length_nil]; omega) (by decide)
  refine ⟨_, _, r, ns2 ++ [(if -p.2.1 > p.2.1 then -p.2.1 else p.2.1), (if -p.2.2 > p.2.2 then -p.2.2 else p.2.2)], rfl, by rw [upd_same, List.map_append]; rfl, t3.bag.ne hr, ?_, by rw [List.length_append]; simp only [List.length_cons, List.length_nil]; omega, t3.same (same_new hr)⟩
  rw [ab, ab]
  have tk1 : d.ls.take (j + 1) = d.ls.take j ++ [p] := by rw [List.take_add_one, hp]; rfl
  refine ⟨List.mem_append_left _ k3.one, fun d2 hd2 p2 hp2 => ?_, fun y hy => ?_⟩
  · rcases List.mem_append.mp hd2 with hd2 | hd2
    · have := k3.all d2 (List.mem_append_left _ hd2) p2 hp2
      exact ⟨List.mem_append_left _ this.1, List.mem_append_left _ this.2⟩
    · rw [List.mem_singleton.mp hd2] at hp2
      have hp2 : p2 ∈ d.ls.take (j + 1) := hp2
      rw [tk1] at hp2
      rcases List.mem_append.mp hp2 with hp2 | hp2
      · have := k3.all _ (List.mem_append_right _ List.mem_cons_self) p2 hp2
        exact ⟨List.mem_append_left _ this.1, List.mem_append_left _ this.2⟩
      · rw [List.mem_singleton.mp hp2]
        exact ⟨List.mem_append_right _ (by simp), List.mem_append_right _ (by simp)⟩
  · have lastp : p ∈ d.ls.take (j + 1) := by rw [tk1]; exact List.mem_append_right _ List.mem_cons_self
    rcases List.mem_append.mp hy with hy | hy
    · rcases k3.only y hy with e0 | ⟨d2, hd2, p2, hp2, e0⟩
      · exact .inl e0
      · rcases List.mem_append.mp hd2 with hd2 | hd2
        · exact .inr ⟨d2, List.mem_append_left _ hd2, p2, hp2, e0⟩
        · rw [List.mem_singleton.mp hd2] at hp2
          have hp2 : p2 ∈ d.ls.take j := hp2
          exact .inr ⟨_, List.mem_append_right _ List.mem_cons_self, p2, (by show p2 ∈ d.ls.take (j + 1); rw [tk1]; exact List.mem_append_left _ hp2), e0⟩
    · simp only [List.mem_cons, List.not_mem_nil, or_false] at hy
      exact .inr ⟨_, List.mem_append_right _ List.mem_cons_self, p, lastp, hy⟩
end
end K6

set_option Elab.async false
set_option linter.all false
set_option maxRecDepth 100000
set_option maxHeartbeats 16000000
namespace K6
open PySem PySem.Spec PyProof.Rows L2 Gs
open LamX (Tabs TabB TabS CodeO ExtN)
section
variable {P : Program} {w : World} {K : PySem.W.Frag} {mg : Str → Option Value} {base : Heap}
theorem lp_le {x y : Int} (h : lpair (.int x) (.int y) = true) : x.natAbs ≤ 3 ∧ y.natAbs ≤ 3 := by
  have h : (lpart (.int x) && lpart (.int y) && !(isZ (.int x) && isZ (.int y))) = true := h
  rw [Bool.and_eq_true, Bool.and_eq_true] at h
  have h1 : (decide ((-3 : Int) ≤ x) && decide (x ≤ 3)) = true := h.1.1
  have h2 : (decide ((-3 : Int) ≤ y) && decide (y ≤ 3)) = true := h.1.2
  rw [Bool.and_eq_true, decide_eq_true_eq, decide_eq_true_eq] at h1 h2
  omega
theorem Tn.far3 {T : Tx K mg w} {TT : List (Addr × Str)} {c l : Addr} {n : Nat} {kl e g : Addr} {ds : List DK} {a b a' b' : Option Int} {far : Int} {H : Hp} (t : Tn T TT c l n kl e g ds a b a' b' far H) : far = 1 ∨ far = 2 ∨ far = 3 := by
  have h1 := t.far_.1
  rcases t.far_.2.1 with e | ⟨d, hd, p, hp, e⟩
  · exact .inl e
  · have := lp_le ((t.ds_ d hd).ok.ok p.2 (List.mem_map_of_mem hp))
    rcases e with e | e <;> omega
theorem shown_far {f : Int} (h : f = 1 ∨ f = 2 ∨ f = 3) : (PyData.list [.int f, .int f]).showable = true ∧ (PyData.list [.int f, .int f]).shown.length ≤ sizeLine := by
  rcases h with rfl | rfl | rfl <;> decide +kernel
theorem shown_bd : ∀ (f : Int) (k : Nat), (f = 1 ∨ f = 2 ∨ f = 3) → k < 13 → (PyData.list [.int ((f + 1) * 2 ^ k), .int ((f + 1) * 2 ^ k)]).showable = true ∧ (PyData.list [.int ((f + 1) * 2 ^ k), .int ((f + 1) * 2 ^ k)]).shown.length ≤ sizeLine := by
  have all : ∀ (i : Fin 3) (k : Fin 13), (PyData.list [.int (((i.1 : Int) + 1 + 1) * 2 ^ k.1), .int (((i.1 : Int) + 1 + 1) * 2 ^ k.1)]).showable = true ∧ (PyData.list [.int (((i.1 : Int) + 1 + 1) * 2 ^ k.1), .int (((i.1 : Int) + 1 + 1) * 2 ^ k.1)]).shown.length ≤ sizeLine := by decide +kernel
  intro f k h hk
  rcases h with rfl | rfl | rfl
  · exact all ⟨0, by decide⟩ ⟨k, hk⟩
  · exact all ⟨1, by decide⟩ ⟨k, hk⟩
  · exact all ⟨2, by decide⟩ ⟨k, hk⟩
theorem dv_two {p : Addr} {G : Hp} {x y : Int} (h : G p = some (.lst [.int x, .int y])) : DV K (p + 1) G (.ref p) (.list [.int x, .int y]) := .lst (ne_succ p) (.of h) (.cons (.int _) (.cons (.int _) .nil))
/-- the longest leap and the bounds -/
theorem lwD (T : Tx K mg w) {cdv : Value} {A : Around} {outer : List Env} {s : Shared} {H0 : Hp} {E : XK} {D : Ends} {rest : TS} {TT : List (Addr × Str)} {c l kl e g : Addr} {n : Nat} {ds : List DK} {a b a' b' : Option Int} {far : Int} {x0 x2 x6 x7 x8 x9 x10 x11 x12 x13 x14 x15 x16 x17 x18 x19 x20 x21 x22 x23 : Option V} {H : Hp}
    (hr : Room 13 (A.deeper (envOfC "law" (defScope s_law) s.heap.objs.size T.a_law cdv))) (hg : (A.deeper (envOfC "law" (defScope s_law) s.heap.objs.size T.a_law cdv)).guards = some [])
    (HT : PSs (XL P w K mg base T.a_law cdv A outer s H0 E) ((turnB (defBody s_law)).drop 8) rest) {nl : Addr} {ns : List Int} (tn : Tn T TT c l n kl e g ds a b a' b' far H) (hnl : H nl = some (.lst (ns.map V.int))) (nn : nl ≠ c) (hns : Nums ns ds)
    (go : ∀ x9 x18 H', Tn T TT c l n kl e g ds a b a' b' far H' → rest D [x0, some (.ref c), x2, some (.ref kl), some (.ref e), some (.ref g), x6, x7, x8, x9, x10, some (.ref nl), x12, x13, x14, x15, x16, x17, x18, x19, x20, x21, x22, x23] H') :
    ∃ t, PSs (XL P w K mg base T.a_law cdv A outer s H0 E) ((turnB (defBody s_law)).drop 5) t ∧ t D [x0, some (.ref c), x2, some (.ref kl), some (.ref e), some (.ref g), x6, x7, x8, x9, x10, some (.ref nl), x12, x13, x14, x15, x16, x17, x18, x19, x20, x21, x22, x23] H := by
  refine ⟨_, (pss_cons (ps_if (pt_cmpR op_ne (pe_callB (call_repr hr hg) (by rfl) T.z_repr (by decide +kernel) (pa_cons (pe_lst (pa_cons (pe_call (O_longest T) (hr.mono (by decide)) (by rfl) T.m_longest T.F_longest.kp T.b_longest .nil passL (pa_cons (pv 5) pa_nil)) (pa_cons (pg_callK0 (FnG.of (O_longest T)) (hr.mono (by decide)) hg (by rfl) T.m_longest T.F_longest.kp T.kb_longest passL (pk_cons (pv 5) pk_nil)) pa_nil))) pa_nil)) (pe_callB (call_repr hr hg) (by rfl) T.z_repr (by decide +kernel) (pa_cons (pe_op op_rep (pe_lst (pa_cons (pe_callB (r := rMax K) (cr_max rfl) (by rfl) T.z_max (by decide +kernel) (pa_cons (pv 11) pa_nil)) pa_nil)) pe_int) pa_nil)) (nomark _)) (pss_one (ps_ret pe_bl)) pss_nil)
      (pss_cons (ps_set (i := 9) sc_law.nd rfl (Or.inl rfl) (pe_op op_add (pe_callB (r := rMax K) (cr_max rfl) (by rfl) T.z_max (by decide +kernel) (pa_cons (pv 11) pa_nil)) pe_int))
      (pss_cons (ps_for PassesOwn.never rfl (pi_range1 (by rfl) T.z_range (pa_cons pe_int pa_nil)) (pg_name (i := 18) sc_law.nd rfl (Or.inl rfl)) (pss_cons (ps_if (pt_cmpR op_ne (pe_callB (call_repr hr hg) (by rfl) T.z_repr (by decide +kernel) (pa_cons (pe_lst (pa_cons (pe_call (O_bound T) (hr.mono (by decide)) (by rfl) T.m_bound T.F_bound.kp T.b_bound .nil passL (pa_cons (pv 5) (pa_cons (pv 18) pa_nil))) (pa_cons (pg_callK0 (FnG.of (O_bound T)) (hr.mono (by decide)) hg (by rfl) T.m_bound T.F_bound.kp T.kb_bound passL (pk_cons (pv 18) (pk_cons (pv 5) pk_nil))) pa_nil))) pa_nil)) (pe_callB (call_repr hr hg) (by rfl) T.z_repr (by decide +kernel) (pa_cons (pe_lst (pa_cons (pv 9) (pa_cons (pv 9) pa_nil))) pa_nil)) (nomark _)) (pss_one (ps_ret pe_bl)) pss_nil)
      (pss_one (ps_set (i := 9) sc_law.nd rfl (Or.inl rfl) (pe_op op_mul pe_int (pv 9))))))
      HT))), ?_⟩
  obtain ⟨dx, tk, te, tg, tt, g1, g2⟩ := id tn.gm
  have f3 := tn.far3
  have pos : 0 < ns.length := List.length_pos_of_mem hns.one
  refine ⟨_, rfl, .ref g, .ref T.c_Game, rfl, T.ty_Game.ty g1, .inr ⟨T.kk_Game, g, a, b, a', b', far, rfl, tn.gm, ?_⟩⟩
  refine ⟨_, rfl, rfl, rfl, .ref g, .ref T.c_Game, rfl, T.ty_Game.ty g1, .inr ⟨T.kk_Game, g, a, b, a', b', far, rfl, tn.gm, ?_⟩⟩
  refine ⟨szl rfl, fun p hp => ⟨_, p, .list [.int far, .int far], rfl, dv_two upd_same, (shown_far f3).1, Nat.le_of_ble_eq_true rfl, (shown_far f3).2, ?_⟩⟩
  have sp := same_new hp (o := .lst [.int far, .int far])
  have t1 := tn.same sp
  have h1 := sp _ _ hnl
  generalize upd H p _ = H1 at t1 h1 ⊢
  refine ⟨_, rfl, nl, ns, rfl, .of h1, pos, fun m hm hmax => ⟨szl rfl, fun q hq => ?_⟩⟩
  have em : m = far := hns.max_ t1.far_ hm hmax
  subst em
  have sq := same_new hq (o := .lst [.int m])
  have t2 := t1.same sq
  have h2 := sq _ _ h1
  refine ⟨q, 2, _, rfl, rfl, upd_same, by decide, by decide, Nat.le_of_ble_eq_true rfl, fun r hr => ?_⟩
  have sr := same_new hr (o := .lst (List.replicate (2 : Int).toNat [V.int m]).flatten)
  have er : upd (upd H1 q (.lst [.int m])) r (.lst (List.replicate (2 : Int).toNat [V.int m]).flatten) r = some (.lst [.int m, .int m]) := upd_same
  have t3 := t2.same sr
  have h3 := sr _ _ h2
  refine ⟨_, r, .list [.int m, .int m], rfl, dv_two er, (shown_far f3).1, Nat.le_of_ble_eq_true rfl, (shown_far f3).2, rfl, _, rfl, ?_⟩
  generalize upd (upd H1 q _) r _ = H3 at t3 h3 ⊢
  refine iteB (fun e => ?_) (fun _ => ?_)
  · have e : (!decide (V.str (PyData.list [.int m, .int m]).shown = V.str (PyData.list [.int m, .int m]).shown)) = true := e
    rw [decide_eq_true rfl] at e; cases e
  -- due
  refine ⟨_, rfl, nl, ns, rfl, .of h3, pos, fun m2 hm2 hmax2 => ⟨_, _, rfl, rfl, ?_⟩⟩
  have em2 : m2 = m := hns.max_ t3.far_ hm2 hmax2
  subst em2
  refine ⟨13, rfl, by decide, by decide, ?_⟩
  refine for_it (walk_range (lo := 0) (n := 13)) (fun i σ H' => (∃ x18 : Option V, σ = [x0, some (.ref c), x2, some (.ref kl), some (.ref e), some (.ref g), x6, x7, x8, some (.int ((m2 + 1) * 2 ^ i)), x10, some (.ref nl), x12, x13, x14, x15, x16, x17, x18, x19, x20, x21, x22, x23]) ∧ Tn T TT c l n kl e g ds a b a' b' m2 H')
    ⟨⟨_, by rw [Int.pow_zero, Int.mul_one]; rfl⟩, t3⟩ (fun _ _ _ _ _ => trivial) ?_ ?_
  rotate_left
  · rintro σ H4 ⟨⟨y18, rfl⟩, t4⟩
    exact go _ y18 H4 t4
  rintro i x σ H4 H4' hi ⟨⟨y18, rfl⟩, t4⟩ ⟨rfl, rfl⟩
  clear t1 t2 t3 sp sq sr g1 g2 tn
  obtain ⟨dx, tk, te, tg, tt, g1, g2⟩ := id t4.gm
  have ei : V.int (0 + (i : Int)) = V.int ((i : Nat) : Int) := congrArg V.int (Int.zero_add _)
  have fb : (m2 + 1).natAbs < 2 ^ 20 := by rcases f3 with rfl | rfl | rfl <;> decide
  refine ⟨_, rfl, _, rfl, .ref g, _, .ref T.c_Game, rfl, T.ty_Game.ty g1, .inr ⟨T.kk_Game, g, a, b, a', b', m2, rfl, t4.gm, .inr ⟨i, ei, by omega, fb, fun H5 s5 => ?_⟩⟩⟩
  have t5 := t4.same s5
  clear t4 g1 g2 s5
  obtain ⟨dx, tk, te, tg, tt, g1, g2⟩ := id t5.gm
  refine ⟨_, rfl, _, rfl, rfl, rfl, .ref g, _, .ref T.c_Game, rfl, T.ty_Game.ty g1, .inr ⟨T.kk_Game, g, a, b, a', b', m2, rfl, t5.gm, .inr ⟨i, ei, by omega, fb, fun H6 s6 => ?_⟩⟩⟩
  have t6 := t5.same s6
  clear t5 g1 g2 s6
  have sh := shown_bd m2 i f3 hi
  refine ⟨szl rfl, fun p2 hp2 => ⟨_, p2, .list [.int ((m2 + 1) * 2 ^ i), .int ((m2 + 1) * 2 ^ i)], rfl, dv_two upd_same, sh.1, Nat.le_of_ble_eq_true rfl, sh.2, ?_⟩⟩
  have t7 := t6.same (same_new hp2 (o := .lst [.int ((m2 + 1) * 2 ^ i), .int ((m2 + 1) * 2 ^ i)]))
  generalize upd H6 p2 _ = H7 at t7 ⊢
  refine ⟨_, rfl, _, rfl, szl rfl, fun p3 hp3 => ⟨_, p3, .list [.int ((m2 + 1) * 2 ^ i), .int ((m2 + 1) * 2 ^ i)], rfl, dv_two upd_same, sh.1, Nat.le_of_ble_eq_true rfl, sh.2, rfl, _, rfl, ?_⟩⟩
  have t8 := t7.same (same_new hp3 (o := .lst [.int ((m2 + 1) * 2 ^ i), .int ((m2 + 1) * 2 ^ i)]))
  refine iteB (fun e => ?_) (fun _ => ?_)
  · have e : (!decide (V.str (PyData.list [.int ((m2 + 1) * 2 ^ i), .int ((m2 + 1) * 2 ^ i)]).shown = V.str (PyData.list [.int ((m2 + 1) * 2 ^ i), .int ((m2 + 1) * 2 ^ i)]).shown)) = true := e
    rw [decide_eq_true rfl] at e; cases e
  refine ⟨_, rfl, _, _, rfl, rfl, .inl ⟨by decide, by decide⟩, ⟨some (.int (0 + (i : Int))), ?_⟩, t8⟩
  rw [show (m2 + 1) * 2 ^ (i + 1) = 2 * ((m2 + 1) * 2 ^ i) by rw [Int.pow_succ, ← Int.mul_assoc, Int.mul_comm]]
  rfl
end
end K6

set_option Elab.async false
set_option linter.all false
set_option maxRecDepth 100000
set_option maxHeartbeats 16000000
namespace K6
open PySem PySem.Spec PyProof.Rows L2 Gs
open LamX (Tabs TabB TabS CodeO ExtN)
section
variable {K : PySem.W.Frag} {c : Addr} {H H' : Hp}
theorem ExtNc.sqL' {a : Addr} {xs : List V} (e : ExtNc c H H') (n : a ≠ c) (h : SqL K H a xs) : SqL K H' a xs := by
  rcases h with (h | ⟨o, h⟩) | h
  · exact .inl (.inl (e _ _ n h fun _ z => nomatch z))
  · exact .inl (.inr ⟨o, e _ _ n h fun _ z => nomatch z⟩)
  · exact .inr h
theorem ExtNc.sqT' {a : Addr} {xs : List V} (e : ExtNc c H H') (n : a ≠ c) (h : SqT K H a xs) : SqT K H' a xs := by
  rcases h with (h | ⟨o, h⟩) | h
  · exact .inl (.inl (e _ _ n h fun _ z => nomatch z))
  · exact .inl (.inr ⟨o, e _ _ n h fun _ z => nomatch z⟩)
  · exact .inr h
mutual
theorem dv_n (e : ExtNc c H H') : ∀ (d : PyData) (v : V), DV K c H v d → DV K c H' v d
  | .none, _, h => by cases h; exact .non
  | .bool _, _, h => by cases h; exact .bl _
  | .int _, _, h => by cases h; exact .int _
  | .str _, _, h => by cases h; exact .str _
  | .list ds, _, h => by
    cases h with
    | lst n s r => exact .lst n (e.sqL' n s) (dvs_n e ds _ r)
  | .tuple ds, _, h => by
    cases h with
    | tup n s r => exact .tup n (e.sqT' n s) (dvs_n e ds _ r)
  | .dict ps, _, h => by
    cases h with
    | dic n s r => exact .dic n (e _ _ n s fun _ z => nomatch z) (dks_n e ps _ r)
    | dct n s z => exact .dct n (e _ _ n s fun _ z => nomatch z) z
theorem dvs_n (e : ExtNc c H H') : ∀ (ds : List PyData) (vs : List V), DVs K c H vs ds → DVs K c H' vs ds
  | [], _, h => by cases h; exact .nil
  | d :: ds, _, h => by
    cases h with
    | cons a b => exact .cons (dv_n e d _ a) (dvs_n e ds _ b)
theorem dks_n (e : ExtNc c H H') : ∀ (ps : List (PyData × PyData)) (vs : List (Key × V)), DKs K c H vs ps → DKs K c H' vs ps
  | [], _, h => by cases h; exact .nil
  | (d, f) :: ps, _, h => by
    cases h with
    | cons a b r => exact .cons (dv_n e d _ a) (dv_n e f _ b) (dks_n e ps _ r)
end
end
section
variable {P : Program} {w : World} {K : PySem.W.Frag} {mg : Str → Option Value} {base : Heap}
/-- no game -/
def NoGm (c : Addr) (H : Hp) (v : V) : Prop := v = .non ∨ v = .str "game" ∨ v = .int 5 ∨ ∃ a xs, v = .ref a ∧ H a = some (.lst xs) ∧ a ≠ c
theorem NoGm.nc {c : Addr} {H H' : Hp} {v : V} (h : NoGm c H v) (e : ExtNc c H H') : NoGm c H' v := by
  rcases h with h | h | h | ⟨a, xs, h, h1, h2⟩
  · exact .inl h
  · exact .inr (.inl h)
  · exact .inr (.inr (.inl h))
  · exact .inr (.inr (.inr ⟨a, xs, h, e _ _ h2 h1 (fun _ z => nomatch z), h2⟩))
theorem NoGm.ty {T : Tx K mg w} {c : Addr} {H : Hp} {v : V} (h : NoGm c H v) : ∃ t, TyX K H v t ∧ PySem.W.kitOne K t (.ref T.c_Game) = some false := by
  rcases h with rfl | rfl | rfl | ⟨a, xs, rfl, h1, _⟩
  · exact ⟨_, .base .non, T.kn_Game "NoneType" (by simp)⟩
  · exact ⟨_, .base (.str _), T.kn_Game "str" (by simp)⟩
  · exact ⟨_, .base (.int _), T.kn_Game "int" (by simp)⟩
  · exact ⟨_, .base (.lst h1), T.kn_Game "list" (by simp)⟩
/-- no square, no number of doublings -/
def BadV (K : PySem.W.Frag) (c : Addr) (f : PyData → Bool) (H : Hp) (v : V) : Prop := ∃ d, DV K c H v d ∧ f d = false
theorem BadV.nc {c : Addr} {f : PyData → Bool} {H H' : Hp} {v : V} (h : BadV K c f H v) (e : ExtNc c H H') : BadV K c f H' v := by
  obtain ⟨d, hd, hf⟩ := h
  exact ⟨d, dv_n e d v hd, hf⟩
theorem ExtNc.ofX {c : Addr} {H H' : Hp} (e : Gs.Ext c H H') : ExtNc c H H' := fun b o n h _ => e b o n h
/-- what is wrong, drawn -/
theorem lwE (T : Tx K mg w) {cdv : Value} {A : Around} {outer : List Env} {s : Shared} {H0 : Hp} {E : XK} {D : Ends} {rest : TS} {TT : List (Addr × Str)} {c l kl e g : Addr} {n : Nat} {ds : List DK} {a b a' b' : Option Int} {far : Int} {x0 x2 x6 x7 x8 x9 x10 x11 x12 x13 x14 x15 x16 x17 x18 x19 x20 x21 x22 x23 : Option V} {H : Hp}
    (hr : Room 13 (A.deeper (envOfC "law" (defScope s_law) s.heap.objs.size T.a_law cdv))) (hg : (A.deeper (envOfC "law" (defScope s_law) s.heap.objs.size T.a_law cdv)).guards = some [])
    (HT : PSs (XL P w K mg base T.a_law cdv A outer s H0 E) ((turnB (defBody s_law)).drop 9) rest) (tn : Tn T TT c l n kl e g ds a b a' b' far H) (hN : n ≤ 900000)
    (go : ∀ vn vo H', Tn T TT c l (n + 2) kl e g ds a b a' b' far H' → NoGm c H' vn → BadV K c (pairP isInt) H' vo → rest D [x0, some (.ref c), x2, some (.ref kl), some (.ref e), some (.ref g), x6, x7, x8, x9, x10, x11, x12, x13, x14, x15, x16, x17, x18, some vn, some vo, x21, x22, x23] H') :
    ∃ t, PSs (XL P w K mg base T.a_law cdv A outer s H0 E) ((turnB (defBody s_law)).drop 8) t ∧ t D [x0, some (.ref c), x2, some (.ref kl), some (.ref e), some (.ref g), x6, x7, x8, x9, x10, x11, x12, x13, x14, x15, x16, x17, x18, x19, x20, x21, x22, x23] H := by
  refine ⟨_, (pss_cons (ps_asg (pe_tup (pa_cons (pe_call (O__law_sip T) (hr.mono (by decide)) (by rfl) T.m__law_sip T.F__law_sip.kp T.b__law_sip .nil pass0 (pa_cons (pv 1) (pa_cons (pe_lst (pa_cons pe_non (pa_cons (pv 3) (pa_cons pe_str (pa_cons pe_int (pa_cons (pe_call (O__law_made T) (hr.mono (by decide)) (by rfl) T.m__law_made T.F__law_made.kp T.b__law_made .nil pass0 (pa_cons (pv 3) pa_nil)) pa_nil)))))) pa_nil))) (pa_cons (pe_call (O__law_sip T) (hr.mono (by decide)) (by rfl) T.m__law_sip T.F__law_sip.kp T.b__law_sip .nil pass0 (pa_cons (pv 1) (pa_cons (pe_lst (pa_cons pe_non (pa_cons pe_int (pa_cons (pe_tup (pa_cons pe_int pa_nil)) (pa_cons (pe_tup (pa_cons pe_int (pa_cons pe_int (pa_cons pe_int pa_nil)))) (pa_cons (pe_tup (pa_cons pe_bl (pa_cons pe_int pa_nil))) (pa_cons (pe_lst (pa_cons pe_int (pa_cons pe_str pa_nil))) (pa_cons pe_str (pa_cons pe_dnewK (pa_cons (pe_tup (pa_cons (pe_tup (pa_cons pe_int (pa_cons pe_int pa_nil))) (pa_cons pe_int pa_nil))) pa_nil)))))))))) pa_nil))) pa_nil))) (pg_tup rfl (pgs_cons (pg_name (i := 19) sc_law.nd rfl (Or.inr rfl)) (pgs_cons (pg_name (i := 20) sc_law.nd rfl (Or.inr rfl)) pgs_nil))))
      HT), ?_⟩
  have hcn : H c ≠ none := by
    obtain ⟨ns, pt, rs, hc1, _⟩ := tn.bag
    rw [hc1]; exact fun z => nomatch z
  refine ⟨_, rfl, _, rfl, _, rfl, c, kl, ds, rfl, tn.kl_, hcn, tn.ds_, tn.dl, fun lm ks H1 hlm hln hk1 _ _ s1 => ?_⟩
  have t1 := tn.same s1
  have nlm : lm ≠ c := tn.bag.ne hln
  refine ⟨szl rfl, fun p hp => ?_⟩
  refine ⟨c, l, p, n, _, rfl, t1.bag.new hp, by omega, t1.bag.ne hp, .of upd_same, by simp, szl2 rfl, fun i v H2 hi b2 x2 => ?_⟩
  have x12' := (Gs.Ext.new hp).trans x2
  have t2 := t1.ext x12' b2
  have nv : NoGm c H2 v := by
    have hm := one_of hi
    simp only [List.mem_cons, List.not_mem_nil, or_false] at hm
    rcases hm with rfl | rfl | rfl | rfl | rfl
    · exact .inl rfl
    · exact .inr (.inr (.inr ⟨kl, _, rfl, t2.kl_, t2.nk⟩))
    · exact .inr (.inl rfl)
    · exact .inr (.inr (.inl rfl))
    · exact .inr (.inr (.inr ⟨lm, _, rfl, x12' _ _ nlm hlm, nlm⟩))
  clear t1 tn s1 hk1 hp x2 b2 hi hcn
  -- odd
  refine ⟨_, rfl, ?_⟩
  refine ⟨szl rfl, fun a1 h1 => ?_⟩
  have s1 : Same H2 (upd H2 a1 (.tup [.int 1])) := same_new h1
  have f1 : upd H2 a1 (.tup [.int 1]) a1 = some (.tup [.int 1]) := upd_same
  have nn1 : a1 ≠ c := t2.bag.ne h1
  have tt1 := t2.same s1
  generalize e1 : upd H2 a1 _ = G1 at tt1 ⊢
  rw [e1] at s1 f1
  clear e1
  refine ⟨szl rfl, fun a2 h2 => ?_⟩
  have s2 : Same G1 (upd G1 a2 (.tup [.int 1, .int 2, .int 3])) := same_new h2
  have f2 : upd G1 a2 (.tup [.int 1, .int 2, .int 3]) a2 = some (.tup [.int 1, .int 2, .int 3]) := upd_same
  have nn2 : a2 ≠ c := tt1.bag.ne h2
  have tt2 := tt1.same s2
  generalize e2 : upd G1 a2 _ = G2 at tt2 ⊢
  rw [e2] at s2 f2
  clear e2
  refine ⟨szl rfl, fun a3 h3 => ?_⟩
  have s3 : Same G2 (upd G2 a3 (.tup [.bl true, .int 0])) := same_new h3
  have f3 : upd G2 a3 (.tup [.bl true, .int 0]) a3 = some (.tup [.bl true, .int 0]) := upd_same
  have nn3 : a3 ≠ c := tt2.bag.ne h3
  have tt3 := tt2.same s3
  generalize e3 : upd G2 a3 _ = G3 at tt3 ⊢
  rw [e3] at s3 f3
  clear e3
  refine ⟨szl rfl, fun a4 h4 => ?_⟩
  have s4 : Same G3 (upd G3 a4 (.lst [.int 0, .str "1"])) := same_new h4
  have f4 : upd G3 a4 (.lst [.int 0, .str "1"]) a4 = some (.lst [.int 0, .str "1"]) := upd_same
  have nn4 : a4 ≠ c := tt3.bag.ne h4
  have tt4 := tt3.same s4
  generalize e4 : upd G3 a4 _ = G4 at tt4 ⊢
  rw [e4] at s4 f4
  clear e4
  refine fun a5 h5 => ?_
  have s5 : Same G4 (upd G4 a5 (.dK [])) := same_new h5
  have f5 : upd G4 a5 (.dK []) a5 = some (.dK []) := upd_same
  have nn5 : a5 ≠ c := tt4.bag.ne h5
  have tt5 := tt4.same s5
  generalize e5 : upd G4 a5 _ = G5 at tt5 ⊢
  rw [e5] at s5 f5
  clear e5
  refine ⟨szl rfl, fun a6 h6 => ?_⟩
  have s6 : Same G5 (upd G5 a6 (.tup [.int 1, .int 2])) := same_new h6
  have f6 : upd G5 a6 (.tup [.int 1, .int 2]) a6 = some (.tup [.int 1, .int 2]) := upd_same
  have nn6 : a6 ≠ c := tt5.bag.ne h6
  have tt6 := tt5.same s6
  generalize e6 : upd G5 a6 _ = G6 at tt6 ⊢
  rw [e6] at s6 f6
  clear e6
  refine ⟨szl rfl, fun a7 h7 => ?_⟩
  have s7 : Same G6 (upd G6 a7 (.tup [.ref a6, .int 3])) := same_new h7
  have f7 : upd G6 a7 (.tup [.ref a6, .int 3]) a7 = some (.tup [.ref a6, .int 3]) := upd_same
  have nn7 : a7 ≠ c := tt6.bag.ne h7
  have tt7 := tt6.same s7
  generalize e7 : upd G6 a7 _ = G7 at tt7 ⊢
  rw [e7] at s7 f7
  clear e7
  refine ⟨szl rfl, fun q hq => ?_⟩
  refine ⟨c, l, q, _, _, rfl, tt7.bag.new hq, by omega, tt7.bag.ne hq, .of upd_same, by simp, szl2 rfl, fun k v2 H3 hk b3 x3 => ?_⟩
  have x73 := (Gs.Ext.new hq).trans x3
  have t3 := tt7.ext x73 b3
  have s27 := s1.trans (s2.trans (s3.trans (s4.trans (s5.trans (s6.trans s7)))))
  have od : BadV K c (pairP isInt) G7 v2 := by
    have hm := one_of hk
    simp only [List.mem_cons, List.not_mem_nil, or_false] at hm
    rcases hm with rfl | rfl | rfl | rfl | rfl | rfl | rfl | rfl | rfl
    · exact ⟨.none, .non, rfl⟩
    · exact ⟨.int 5, .int 5, rfl⟩
    · exact ⟨.tuple [.int 1], .tup nn1 (.of ((s2.trans (s3.trans (s4.trans (s5.trans (s6.trans s7))))) _ _ f1)) (.cons (.int 1) .nil), rfl⟩
    · exact ⟨.tuple [.int 1, .int 2, .int 3], .tup nn2 (.of ((s3.trans (s4.trans (s5.trans (s6.trans s7)))) _ _ f2)) (.cons (.int 1) (.cons (.int 2) (.cons (.int 3) .nil))), rfl⟩
    · exact ⟨.tuple [.bool true, .int 0], .tup nn3 (.of ((s4.trans (s5.trans (s6.trans s7))) _ _ f3)) (.cons (.bl true) (.cons (.int 0) .nil)), rfl⟩
    · exact ⟨.list [.int 0, .str "1"], .lst nn4 (.of ((s5.trans (s6.trans s7)) _ _ f4)) (.cons (.int 0) (.cons (.str "1") .nil)), rfl⟩
    · exact ⟨.str "12", .str "12", rfl⟩
    · exact ⟨.dict [], .dic nn5 ((s6.trans s7) _ _ f5) .nil, rfl⟩
    · exact ⟨.tuple [.tuple [.int 1, .int 2], .int 3], .tup nn7 (.of f7) (.cons (.tup nn6 (.of (s7 _ _ f6)) (.cons (.int 1) (.cons (.int 2) .nil))) (.cons (.int 3) .nil)), rfl⟩
  have nv3 := (nv.nc (.ofX (Gs.Ext.of s27))).nc (.ofX x73)
  have od3 := od.nc (.ofX x73)
  refine ⟨szl rfl, fun r hr => ?_⟩
  have sr := same_new hr (o := .tup [v, v2])
  have t4 := t3.same sr
  refine ⟨r, _, rfl, .of upd_same, rfl, _, _, rfl, _, _, rfl, rfl, ?_⟩
  exact go v v2 _ t4 (nv3.nc (.of sr)) (od3.nc (.of sr))
end
end K6

set_option Elab.async false
set_option linter.all false
set_option maxRecDepth 100000
set_option maxHeartbeats 16000000
namespace K6
open PySem PySem.Spec PyProof.Rows L2 Gs
open LamX (Tabs TabB TabS CodeO ExtN)
section
variable {P : Program} {w : World} {K : PySem.W.Frag} {mg : Str → Option Value} {base : Heap}
/-- a wrong number of doublings, drawn -/
theorem lwF (T : Tx K mg w) {cdv : Value} {A : Around} {outer : List Env} {s : Shared} {H0 : Hp} {E : XK} {D : Ends} {rest : TS} {TT : List (Addr × Str)} {c l kl e g : Addr} {n : Nat} {ds : List DK} {a b a' b' : Option Int} {far : Int} {x0 x2 x6 x7 x8 x9 x10 x11 x12 x13 x14 x15 x16 x17 x18 x19 x20 x21 x22 x23 : Option V} {H : Hp}
    (hr : Room 13 (A.deeper (envOfC "law" (defScope s_law) s.heap.objs.size T.a_law cdv))) (hg : (A.deeper (envOfC "law" (defScope s_law) s.heap.objs.size T.a_law cdv)).guards = some [])
    (HT : PSs (XL P w K mg base T.a_law cdv A outer s H0 E) ((turnB (defBody s_law)).drop 10) rest) {vn vo : V} (tn : Tn T TT c l n kl e g ds a b a' b' far H) (hN : n ≤ 900000) (hn : NoGm c H vn) (ho : BadV K c (pairP isInt) H vo)
    (go : ∀ vb H', Tn T TT c l (n + 1) kl e g ds a b a' b' far H' → NoGm c H' vn → BadV K c (pairP isInt) H' vo → BadV K c (inB (some 0) (some 12)) H' vb → rest D [x0, some (.ref c), x2, some (.ref kl), some (.ref e), some (.ref g), x6, x7, x8, x9, x10, x11, x12, x13, x14, x15, x16, x17, x18, some vn, some vo, some vb, x22, x23] H') :
    ∃ t, PSs (XL P w K mg base T.a_law cdv A outer s H0 E) ((turnB (defBody s_law)).drop 9) t ∧ t D [x0, some (.ref c), x2, some (.ref kl), some (.ref e), some (.ref g), x6, x7, x8, x9, x10, x11, x12, x13, x14, x15, x16, x17, x18, some vn, some vo, x21, x22, x23] H := by
  refine ⟨_, (pss_cons (ps_set (i := 21) sc_law.nd rfl (Or.inr rfl) (pe_call (O__law_sip T) (hr.mono (by decide)) (by rfl) T.m__law_sip T.F__law_sip.kp T.b__law_sip .nil pass0 (pa_cons (pv 1) (pa_cons (pe_lst (pa_cons (pe_un un_neg pe_int) (pa_cons pe_int (pa_cons pe_non (pa_cons pe_bl (pa_cons pe_str (pa_cons (pe_op op_pow pe_int pe_int) (pa_cons (pe_tup (pa_cons pe_int (pa_cons pe_int pa_nil))) pa_nil)))))))) pa_nil))))
      HT), ?_⟩
  refine ⟨_, rfl, _, rfl, _, _, rfl, rfl, ⟨by decide, by decide, by decide⟩, szl rfl, fun a1 h1 => ?_⟩
  have s1 := same_new h1 (o := .tup [.int 1, .int 2])
  have f1 : upd H a1 (.tup [.int 1, .int 2]) a1 = some (.tup [.int 1, .int 2]) := upd_same
  have n1 : a1 ≠ c := tn.bag.ne h1
  have t1 := tn.same s1
  refine ⟨szl rfl, fun q hq => ?_⟩
  refine ⟨c, l, q, _, _, rfl, t1.bag.new hq, by omega, t1.bag.ne hq, .of upd_same, by simp, szl2 rfl, fun k v H3 hk b3 x3 => ?_⟩
  have x13 := (Gs.Ext.new hq).trans x3
  have t3 := t1.ext x13 b3
  have bd : BadV K c (inB (some 0) (some 12)) (upd H a1 (.tup [.int 1, .int 2])) v := by
    have hm := one_of hk
    simp only [List.mem_cons, List.not_mem_nil, or_false] at hm
    rcases hm with rfl | rfl | rfl | rfl | rfl | rfl | rfl
    · exact ⟨.int (-1), .int _, by decide⟩
    · exact ⟨.int 13, .int _, by decide⟩
    · exact ⟨.none, .non, rfl⟩
    · exact ⟨.bool true, .bl true, rfl⟩
    · exact ⟨.str "3", .str _, rfl⟩
    · exact ⟨.int _, .int _, by decide⟩
    · exact ⟨.tuple [.int 1, .int 2], .tup n1 (.of f1) (.cons (.int 1) (.cons (.int 2) .nil)), rfl⟩
  exact go v H3 t3 ((hn.nc (.of s1)).nc (.ofX x13)) ((ho.nc (.of s1)).nc (.ofX x13)) (bd.nc (.ofX x13))
end
end K6

set_option Elab.async false
set_option linter.all false
set_option maxRecDepth 100000
set_option maxHeartbeats 16000000
namespace K6
open PySem PySem.Spec PyProof.Rows L2 Gs
open LamX (Tabs TabB TabS CodeO ExtN)
section
variable {P : Program} {w : World} {K : PySem.W.Frag} {mg : Str → Option Value} {base : Heap}
theorem sqT_n {H H' : Hp} {a : Addr} {xs : List V} (e : ExtN H H') (h : SqT K H a xs) : SqT K H' a xs := by
  rcases h with (h | ⟨q, h⟩) | h
  · exact .inl (.inl (e _ _ h fun _ z => nomatch z))
  · exact .inl (.inr ⟨q, e _ _ h fun _ z => nomatch z⟩)
  · exact .inr h
theorem Tn.nN {T : Tx K mg w} {TT : List (Addr × Str)} {c l : Addr} {n : Nat} {kl e g : Addr} {ds : List DK} {a b a' b' : Option Int} {far : Int} {H H' : Hp} (t : Tn T TT c l n kl e g ds a b a' b' far H) (x : ExtN H H') (tb : Tabs TT H') : Tn T TT c l n kl e g ds a b a' b' far H' := by
  obtain ⟨ns, pt, rs, hc1, hl1, r⟩ := id t.bag
  obtain ⟨dx, tk, te, tg, tt, h1, h2⟩ := t.gm
  refine ⟨⟨ns, pt, rs, x _ _ hc1 (fun _ z => nomatch z), x _ _ hl1 (fun _ z => nomatch z), r⟩, tb, x _ _ t.kl_ (fun _ z => nomatch z), t.nk, fun d hd => ?_, t.dl, x _ _ t.e_ (fun _ z => nomatch z), t.ne, ⟨dx, tk, te, tg, tt, x _ _ h1 (fun _ z => nomatch z), sqT_n x h2⟩, t.ng, t.far_⟩
  have h := t.ds_ d hd
  exact ⟨⟨sqT_n x h.at_.tup, x _ _ h.at_.la_ (fun _ z => nomatch z), x _ _ h.at_.lb_ (fun _ z => nomatch z), fun p hp => sqT_n x (h.at_.ps p hp)⟩, h.nt, h.na, h.nb, h.np, h.nm, h.ok⟩
/-- all that the lambdas look at -/
structure Al (T : Tx K mg w) (TT : List (Addr × Str)) (c l : Addr) (n : Nat) (kl e g : Addr) (ds : List DK) (a b a' b' : Option Int) (far : Int) (vn vo vb : V) (H : Hp) : Prop where
  tn : Tn T TT c l n kl e g ds a b a' b' far H
  hn : NoGm c H vn
  ho : BadV K c (pairP isInt) H vo
  hb : BadV K c (inB (some 0) (some 12)) H vb
theorem Al.go {T : Tx K mg w} {TT : List (Addr × Str)} {c l : Addr} {n : Nat} {kl e g : Addr} {ds : List DK} {a b a' b' : Option Int} {far : Int} {vn vo vb : V} {H H1 H2 : Hp} (t : Al T TT c l n kl e g ds a b a' b' far vn vo vb H) (x : ExtN H H1) (tb : Tabs TT H1) (s : Same H1 H2) : Al T TT c l n kl e g ds a b a' b' far vn vo vb H2 :=
  have y : ExtNc c H H2 := (ExtNc.tab x).trans (.of s)
  ⟨(t.tn.nN x tb).same s, t.hn.nc y, t.ho.nc y, t.hb.nc y⟩
/-- what is heard -/
theorem lwG (T : Tx K mg w) {cdv : Value} {A : Around} {outer : List Env} {s : Shared} {H0 : Hp} {E : XK} {D : Ends} {rest : TS} {TT : List (Addr × Str)} {c l kl e g : Addr} {n : Nat} {ds : List DK} {a b a' b' : Option Int} {far : Int} {x0 x2 x6 x7 x8 x9 x10 x11 x12 x13 x14 x15 x16 x17 x18 x19 x20 x21 x22 x23 : Option V} {H : Hp}
    (hr : Room 13 (A.deeper (envOfC "law" (defScope s_law) s.heap.objs.size T.a_law cdv))) (hg : (A.deeper (envOfC "law" (defScope s_law) s.heap.objs.size T.a_law cdv)).guards = some [])
    {cc PL : Addr} (TB : TabB base mg cc PL) (hcode : cdv = .ref cc) (hmT : (PL, lamQ) ∈ TT) (hu : ∀ p ∈ TT, p.1 = PL → p.2 = lamQ)
    {vn vo vb : V} (al : Al T TT c l n kl e g ds a b a' b' far vn vo vb H)
    (HT : PSs (XL P w K mg base T.a_law cdv A outer s H0 E) ((turnB (defBody s_law)).drop 11) rest)
    (go : ∀ hl t1 t2 t3 H', Al T TT c l n kl e g ds a b a' b' far vn vo vb H' → H' hl = some (.lst [.ref t1, .ref t2, .ref t3]) → SqT K H' t1 [.str "game", .str "game"] → SqT K H' t2 [.str "square", .str "square"] → SqT K H' t3 [.str "game", .str "game"] → rest D [x0, some (.ref c), x2, some (.ref kl), some (.ref e), some (.ref g), x6, x7, x8, x9, x10, x11, x12, x13, x14, x15, x16, x17, x18, some vn, some vo, some vb, some (.ref hl), x23] H') :
    ∃ t, PSs (XL P w K mg base T.a_law cdv A outer s H0 E) ((turnB (defBody s_law)).drop 10) t ∧ t D [x0, some (.ref c), x2, some (.ref kl), some (.ref e), some (.ref g), x6, x7, x8, x9, x10, x11, x12, x13, x14, x15, x16, x17, x18, some vn, some vo, some vb, x22, x23] H := by
  refine ⟨_, (pss_cons (ps_set (i := 22) sc_law.nd rfl (Or.inl rfl) (pe_lst (pa_cons (pe_heard (k := 9) T rfl rfl (by rfl) TB hcode hmT hu (hr.mono (by decide)) (LamX.lamS_by (sc := defScope s_law) (by decide +kernel)) rfl (fun _ _ _ _ _ => rfl) (fun _ _ _ _ _ _ _ hr' => (pe_call (O_on_field T) (hr'.mono (by decide)) (by rfl) T.m_on_field T.F_on_field.kp T.b_on_field .nil (pX (takes_of rfl rfl rfl rfl) (fun _ _ _ _ h => h)) (pa_cons (pv 19) (pa_cons (pv 20) pa_nil))))) (pa_cons (pe_heardD (k := 9) (ps := ["one"]) (ns := [0]) T rfl rfl (by rfl) TB hcode hmT hu (hr.mono (by decide)) (lamP_by (N := n_law) (sc := defScope s_law) (by decide +kernel)) rfl (by decide) (by decide) (defV_one rfl rfl) (fun _ _ _ _ _ _ _ => ⟨_, rfl, fun dv h => by match dv, h with | [x], _ => rfl⟩) (fun _ _ _ _ _ _ _ hr' => (pe_call (O_on_field T) (hr'.mono (by decide)) (by rfl) T.m_on_field T.F_on_field.kp T.b_on_field .nil (pX (takes_of rfl rfl rfl rfl) (fun _ _ _ _ h => h)) (pa_cons (pv 5) (pa_cons (pv 20) pa_nil))))) (pa_cons (pe_heardD (k := 9) (ps := ["two"]) (ns := [0]) T rfl rfl (by rfl) TB hcode hmT hu (hr.mono (by decide)) (lamP_by (N := n_law) (sc := defScope s_law) (by decide +kernel)) rfl (by decide) (by decide) (defV_one rfl rfl) (fun _ _ _ _ _ _ _ => ⟨_, rfl, fun dv h => by match dv, h with | [x], _ => rfl⟩) (fun _ _ _ _ _ _ _ hr' => (pe_call (O_longest T) (hr'.mono (by decide)) (by rfl) T.m_longest T.F_longest.kp T.b_longest .nil (pX (takes_of rfl rfl rfl rfl) (fun _ _ _ _ h => h)) (pa_cons (pv 19) pa_nil)))) pa_nil)))))
      HT), ?_⟩
  -- on_field(none, odd)
  refine ⟨al.tn.tb, fun H1 eN T1 N => ?_⟩
  have a1 := al.go eN T1 (Same.refl H1)
  obtain ⟨t, ty, kf⟩ := a1.hn.ty (T := T)
  refine ⟨_, rfl, _, rfl, vn, vo, t, rfl, ty, .inl ⟨kf, fun d H' hd s1 hx => ⟨T.c_BadGame, d, 0, "game", "game", rfl, rfl, rfl, rfl, by decide, T.xf_BadGame, T.no_BadGame_part, T.xm_BadGame_FieldError, hx, fun t1 H2 s2 ht1 => ?_⟩⟩⟩
  have a2 := a1.go (ExtN.refl H1) T1 (s1.trans s2)
  have g1 : SqT K H2 t1 [.str "game", .str "game"] := .of ht1
  clear a1 ty kf hx hd s1 s2 ht1 eN T1
  -- on_field(game, odd)
  refine ⟨a2.tn.tb, fun H3 eN T1 N => ?_⟩
  have a3 := a2.go eN T1 (Same.refl H3)
  have g13 := sqT_n eN g1
  obtain ⟨du, hdu, hfu⟩ := a3.ho
  obtain ⟨dx, tk, te, tg, tt, q1, q2⟩ := id a3.tn.gm
  refine ⟨_, rfl, _, rfl, .ref g, vo, .ref T.c_Game, rfl, T.ty_Game.ty q1, .inr ⟨T.kk_Game, g, a, b, a', b', far, rfl, a3.tn.gm, .inl ⟨c, du, hdu, hfu, fun d H' hd s1 hx => ⟨T.c_BadSquare, d, 2, "square", "square", rfl, rfl, rfl, rfl, by decide, T.xf_BadSquare, T.no_BadSquare_part, T.xm_BadSquare_FieldError, hx, fun t2 H4 s2 ht2 => ?_⟩⟩⟩⟩
  have a4 := a3.go (ExtN.refl H3) T1 (s1.trans s2)
  have g14 := (s1.trans s2).seqT g13
  have g2 : SqT K H4 t2 [.str "square", .str "square"] := .of ht2
  clear a3 a2 g1 g13 hdu hfu q1 q2 hx hd s1 s2 ht2 eN T1
  -- longest(none)
  refine ⟨a4.tn.tb, fun H5 eN T1 N => ?_⟩
  have a5 := a4.go eN T1 (Same.refl H5)
  have g15 := sqT_n eN g14
  have g25 := sqT_n eN g2
  obtain ⟨t, ty, kf⟩ := a5.hn.ty (T := T)
  refine ⟨_, rfl, vn, t, rfl, ty, .inl ⟨kf, fun d H' hd s1 hx => ⟨T.c_BadGame, d, 0, "game", "game", rfl, rfl, rfl, rfl, by decide, T.xf_BadGame, T.no_BadGame_part, T.xm_BadGame_FieldError, hx, fun t3 H6 s2 ht3 => ?_⟩⟩⟩
  have a6 := a5.go (ExtN.refl H5) T1 (s1.trans s2)
  have g16 := (s1.trans s2).seqT g15
  have g26 := (s1.trans s2).seqT g25
  have g3 : SqT K H6 t3 [.str "game", .str "game"] := .of ht3
  refine ⟨szl rfl, fun hl hh => ?_⟩
  have sh := same_new hh (o := .lst [.ref t1, .ref t2, .ref t3])
  exact go hl t1 t2 t3 _ (a6.go (ExtN.refl H6) a6.tn.tb sh) upd_same (sh.seqT g16) (sh.seqT g26) (sh.seqT g3)
end
end K6

set_option Elab.async false
set_option linter.all false
set_option maxRecDepth 100000
set_option maxHeartbeats 16000000
namespace K6
open PySem PySem.Spec PyProof.Rows L2 Gs
open LamX (Tabs TabB TabS CodeO ExtN)
section
variable {P : Program} {w : World} {K : PySem.W.Frag} {mg : Str → Option Value} {base : Heap}
/-- the rest of what is heard, and what is due -/
theorem lwH (T : Tx K mg w) {cdv : Value} {A : Around} {outer : List Env} {s : Shared} {H0 : Hp} {E : XK} {D : Ends} {TT : List (Addr × Str)} {c l kl e g : Addr} {n : Nat} {ds : List DK} {a b a' b' : Option Int} {far : Int} {x0 x2 x6 x7 x8 x9 x10 x11 x12 x13 x14 x15 x16 x17 x18 x19 x20 x21 x22 x23 : Option V} {H : Hp}
    (hr : Room 13 (A.deeper (envOfC "law" (defScope s_law) s.heap.objs.size T.a_law cdv))) (hg : (A.deeper (envOfC "law" (defScope s_law) s.heap.objs.size T.a_law cdv)).guards = some [])
    {cc PL : Addr} (TB : TabB base mg cc PL) (hcode : cdv = .ref cc) (hmT : (PL, lamQ) ∈ TT) (hu : ∀ p ∈ TT, p.1 = PL → p.2 = lamQ)
    {vn vo vb : V} (al : Al T TT c l n kl e g ds a b a' b' far vn vo vb H)
    {hl t1 t2 t3 : Addr} (hl_ : H hl = some (.lst [.ref t1, .ref t2, .ref t3])) (g1 : SqT K H t1 [.str "game", .str "game"]) (g2 : SqT K H t2 [.str "square", .str "square"]) (g3 : SqT K H t3 [.str "game", .str "game"])
    (k : ∀ x22 H', Al T TT c l n kl e g ds a b a' b' far vn vo vb H' → D.nx [x0, some (.ref c), x2, some (.ref kl), some (.ref e), some (.ref g), x6, x7, x8, x9, x10, x11, x12, x13, x14, x15, x16, x17, x18, some vn, some vo, some vb, x22, x23] H') :
    ∃ t, PSs (XL P w K mg base T.a_law cdv A outer s H0 E) ((turnB (defBody s_law)).drop 11) t ∧ t D [x0, some (.ref c), x2, some (.ref kl), some (.ref e), some (.ref g), x6, x7, x8, x9, x10, x11, x12, x13, x14, x15, x16, x17, x18, some vn, some vo, some vb, some (.ref hl), x23] H := by
  refine ⟨_, (pss_cons (ps_set (i := 22) sc_law.nd rfl (Or.inl rfl) (pe_op op_cat (pv 22) (pe_lst (pa_cons (pe_heard (k := 9) T rfl rfl (by rfl) TB hcode hmT hu (hr.mono (by decide)) (LamX.lamS_by (sc := defScope s_law) (by decide +kernel)) rfl (fun _ _ _ _ _ => rfl) (fun _ _ _ _ _ _ _ hr' => (pe_call (O_bound T) (hr'.mono (by decide)) (by rfl) T.m_bound T.F_bound.kp T.b_bound .nil (pX (takes_of rfl rfl rfl rfl) (fun _ _ _ _ h => h)) (pa_cons (pv 19) (pa_cons (pv 21) pa_nil))))) (pa_cons (pe_heardD (k := 9) (ps := ["one"]) (ns := [0]) T rfl rfl (by rfl) TB hcode hmT hu (hr.mono (by decide)) (lamP_by (N := n_law) (sc := defScope s_law) (by decide +kernel)) rfl (by decide) (by decide) (defV_one rfl rfl) (fun _ _ _ _ _ _ _ => ⟨_, rfl, fun dv h => by match dv, h with | [x], _ => rfl⟩) (fun _ _ _ _ _ _ _ hr' => (pe_call (O_bound T) (hr'.mono (by decide)) (by rfl) T.m_bound T.F_bound.kp T.b_bound .nil (pX (takes_of rfl rfl rfl rfl) (fun _ _ _ _ h => h)) (pa_cons (pv 5) (pa_cons (pv 21) pa_nil))))) pa_nil)))))
      (pss_one (ps_if (pt_cmpR (op_neD hr.units) (pv 22) (pe_lst (pa_cons (pe_tup (pa_cons pe_str (pa_cons pe_str pa_nil))) (pa_cons (pe_tup (pa_cons pe_str (pa_cons pe_str pa_nil))) (pa_cons (pe_tup (pa_cons pe_str (pa_cons pe_str pa_nil))) (pa_cons (pe_tup (pa_cons pe_str (pa_cons pe_str pa_nil))) (pa_cons (pe_tup (pa_cons pe_str (pa_cons pe_str pa_nil))) pa_nil)))))) (nomark _)) (pss_one (ps_ret pe_bl)) pss_nil))), ?_⟩
  refine ⟨_, rfl, ?_⟩
  -- bound(none, bad)
  refine ⟨al.tn.tb, fun H1 eN T1 N => ?_⟩
  have a1 := al.go eN T1 (Same.refl H1)
  obtain ⟨t, ty, kf⟩ := a1.hn.ty (T := T)
  have g11 := sqT_n eN g1
  have g12 := sqT_n eN g2
  have g13 := sqT_n eN g3
  have l1 := eN _ _ hl_ (fun _ z => nomatch z)
  refine ⟨_, rfl, _, rfl, vn, vb, t, rfl, ty, .inl ⟨kf, fun d H' hd s1 hx => ⟨T.c_BadGame, d, 0, "game", "game", rfl, rfl, rfl, rfl, by decide, T.xf_BadGame, T.no_BadGame_part, T.xm_BadGame_FieldError, hx, fun t4 H2 s2 ht4 => ?_⟩⟩⟩
  have s12 := s1.trans s2
  have a2 := a1.go (ExtN.refl H1) T1 s12
  have g21 := s12.seqT g11
  have g22 := s12.seqT g12
  have g23 := s12.seqT g13
  have l2 := s12 _ _ l1
  have g24 : SqT K H2 t4 [.str "game", .str "game"] := .of ht4
  clear a1 ty kf hx hd s1 s2 s12 ht4 eN T1 g11 g12 g13 l1
  -- bound(game, bad)
  refine ⟨a2.tn.tb, fun H3 eN T1 N => ?_⟩
  have a3 := a2.go eN T1 (Same.refl H3)
  have g31 := sqT_n eN g21
  have g32 := sqT_n eN g22
  have g33 := sqT_n eN g23
  have g34 := sqT_n eN g24
  have l3 := eN _ _ l2 (fun _ z => nomatch z)
  obtain ⟨du, hdu, hfu⟩ := a3.hb
  obtain ⟨dx, tk, te, tg, tt, q1, q2⟩ := id a3.tn.gm
  refine ⟨_, rfl, _, rfl, .ref g, vb, .ref T.c_Game, rfl, T.ty_Game.ty q1, .inr ⟨T.kk_Game, g, a, b, a', b', far, rfl, a3.tn.gm, .inl ⟨c, du, hdu, hfu, fun d H' hd s1 hx => ⟨T.c_BadNumber, d, 3, "number", "m", rfl, rfl, rfl, rfl, by decide, T.xf_BadNumber, T.no_BadNumber_part, T.xm_BadNumber_FieldError, hx, fun t5 H4 s2 ht5 => ?_⟩⟩⟩⟩
  have s12 := s1.trans s2
  have a4 := a3.go (ExtN.refl H3) T1 s12
  have g41 := s12.seqT g31
  have g42 := s12.seqT g32
  have g43 := s12.seqT g33
  have g44 := s12.seqT g34
  have l4 := s12 _ _ l3
  have g45 : SqT K H4 t5 [.str "number", .str "m"] := .of ht5
  clear a3 a2 hdu hfu q1 q2 hx hd s1 s2 s12 ht5 eN T1 g31 g32 g33 g34 l3
  refine ⟨szl rfl, fun r hr => ?_⟩
  have sr := same_new hr (o := .lst [.ref t4, .ref t5])
  refine ⟨hl, r, _, _, rfl, rfl, sr _ _ l4, upd_same, szl rfl, fun hm hhm => ?_⟩
  have sm := same_new hhm (o := .lst ([.ref t1, .ref t2, .ref t3] ++ [.ref t4, .ref t5]))
  have em : upd (upd H4 r (.lst [.ref t4, .ref t5])) hm (.lst ([.ref t1, .ref t2, .ref t3] ++ [.ref t4, .ref t5])) hm = some (.lst [.ref t1, .ref t2, .ref t3, .ref t4, .ref t5]) := upd_same
  have s5 := sr.trans sm
  have a5 := a4.go (ExtN.refl H4) a4.tn.tb s5
  have g51 := s5.seqT g41
  have g52 := s5.seqT g42
  have g53 := s5.seqT g43
  have g54 := s5.seqT g44
  have g55 := s5.seqT g45
  generalize e5 : upd (upd H4 r _) hm _ = H5
  rw [e5] at em a5 g51 g52 g53 g54 g55
  clear e5 s5 sr sm
  refine ⟨_, rfl, ?_⟩
  refine ⟨szl rfl, fun u0 hu0 => ?_⟩
  have su0 : Same H5 (upd H5 u0 (.tup [.str "game", .str "game"])) := same_new hu0
  have gu0 : SqT K (upd H5 u0 (.tup [.str "game", .str "game"])) u0 [.str "game", .str "game"] := .of upd_same
  generalize e : upd H5 u0 _ = J0
  rw [e] at su0 gu0
  clear e
  refine ⟨szl rfl, fun u1 hu1 => ?_⟩
  have su1 : Same J0 (upd J0 u1 (.tup [.str "square", .str "square"])) := same_new hu1
  have gu1 : SqT K (upd J0 u1 (.tup [.str "square", .str "square"])) u1 [.str "square", .str "square"] := .of upd_same
  generalize e : upd J0 u1 _ = J1
  rw [e] at su1 gu1
  clear e
  refine ⟨szl rfl, fun u2 hu2 => ?_⟩
  have su2 : Same J1 (upd J1 u2 (.tup [.str "game", .str "game"])) := same_new hu2
  have gu2 : SqT K (upd J1 u2 (.tup [.str "game", .str "game"])) u2 [.str "game", .str "game"] := .of upd_same
  generalize e : upd J1 u2 _ = J2
  rw [e] at su2 gu2
  clear e
  refine ⟨szl rfl, fun u3 hu3 => ?_⟩
  have su3 : Same J2 (upd J2 u3 (.tup [.str "game", .str "game"])) := same_new hu3
  have gu3 : SqT K (upd J2 u3 (.tup [.str "game", .str "game"])) u3 [.str "game", .str "game"] := .of upd_same
  generalize e : upd J2 u3 _ = J3
  rw [e] at su3 gu3
  clear e
  refine ⟨szl rfl, fun u4 hu4 => ?_⟩
  have su4 : Same J3 (upd J3 u4 (.tup [.str "number", .str "m"])) := same_new hu4
  have gu4 : SqT K (upd J3 u4 (.tup [.str "number", .str "m"])) u4 [.str "number", .str "m"] := .of upd_same
  generalize e : upd J3 u4 _ = J4
  rw [e] at su4 gu4
  clear e
  refine ⟨szl rfl, fun hq hhq => ?_⟩
  have sq : Same J4 (upd J4 hq (.lst [.ref u0, .ref u1, .ref u2, .ref u3, .ref u4])) := same_new hhq
  have eq_ : upd J4 hq (.lst [.ref u0, .ref u1, .ref u2, .ref u3, .ref u4]) hq = some (.lst [.ref u0, .ref u1, .ref u2, .ref u3, .ref u4]) := upd_same
  generalize e : upd J4 hq _ = J5
  rw [e] at sq eq_
  clear e
  have s05 := su0.trans (su1.trans (su2.trans (su3.trans (su4.trans sq))))
  have w : ∀ {x y : Str} {t : Addr}, SqT K J5 t [.str x, .str y] → Dp K J5 (.ref t) (.tuple [.str x, .str y]) := fun h => .tup h (.cons (.str _) (.cons (.str _) .nil))
  have shp : SeqAt.shaped (.list [.tuple [.str "game", .str "game"], .tuple [.str "square", .str "square"], .tuple [.str "game", .str "game"], .tuple [.str "game", .str "game"], .tuple [.str "number", .str "m"]]) = true := by decide +kernel
  refine ⟨.list [.tuple [.str "game", .str "game"], .tuple [.str "square", .str "square"], .tuple [.str "game", .str "game"], .tuple [.str "game", .str "game"], .tuple [.str "number", .str "m"]], .list [.tuple [.str "game", .str "game"], .tuple [.str "square", .str "square"], .tuple [.str "game", .str "game"], .tuple [.str "game", .str "game"], .tuple [.str "number", .str "m"]],
    .lst (.of (s05 _ _ em)) (.cons (w (s05.seqT g51)) (.cons (w (s05.seqT g52)) (.cons (w (s05.seqT g53)) (.cons (w (s05.seqT g54)) (.cons (w (s05.seqT g55)) .nil))))),
    .lst (.of eq_) (.cons (w ((su1.trans (su2.trans (su3.trans (su4.trans sq)))).seqT gu0)) (.cons (w ((su2.trans (su3.trans (su4.trans sq))).seqT gu1)) (.cons (w ((su3.trans (su4.trans sq)).seqT gu2)) (.cons (w ((su4.trans sq).seqT gu3)) (.cons (w (sq.seqT gu4)) .nil))))), shp, shp, _, rfl, ?_⟩
  have ev : PyData.eqv (.list [.tuple [.str "game", .str "game"], .tuple [.str "square", .str "square"], .tuple [.str "game", .str "game"], .tuple [.str "game", .str "game"], .tuple [.str "number", .str "m"]]) (.list [.tuple [.str "game", .str "game"], .tuple [.str "square", .str "square"], .tuple [.str "game", .str "game"], .tuple [.str "game", .str "game"], .tuple [.str "number", .str "m"]]) = true := by decide +kernel
  rw [ev]
  refine iteF ?_
  exact k _ _ (a5.go (ExtN.refl H5) a5.tn.tb s05)
end
end K6

set_option Elab.async false
set_option linter.all false
set_option maxRecDepth 100000
set_option maxHeartbeats 16000000
namespace K6
open PySem PySem.Spec PyProof.Rows L2 Gs
open LamX (Tabs TabB TabS CodeO ExtN)
section
variable {P : Program} {w : World} {K : PySem.W.Frag} {mg : Str → Option Value} {base : Heap}
theorem tabs_new {TT : List (Addr × Str)} {c : Addr} {G G' : Hp} (hc : G c = none) (x : Gs.Ext c G G') (h : Tabs TT G) : Tabs TT G' := fun p hp => by
  obtain ⟨ps, a1, a2, a3⟩ := h p hp
  refine ⟨ps, x _ _ (fun z => by rw [z, hc] at a1; cases a1) a1, a2, fun p' cv hv => ?_⟩
  obtain ⟨c0, e1, e2⟩ := a3 p' cv hv
  exact ⟨c0, e1, x _ _ (fun z => by rw [z, hc] at e2; cases e2) e2⟩
/-- one turn -/
theorem lwTurn (T : Tx K mg w) {cdv : Value} {A : Around} {outer : List Env} {s : Shared} {H0 : Hp} {E : XK} {D : Ends} {TT : List (Addr × Str)} {ccG PG cc PL : Addr} {c l : Addr} {n : Nat} {x0 x2 x3 x4 x5 x6 x7 x8 x9 x10 x11 x12 x13 x14 x15 x16 x17 x18 x19 x20 x21 x22 x23 : Option V} {H : Hp}
    (hr : Room 13 (A.deeper (envOfC "law" (defScope s_law) s.heap.objs.size T.a_law cdv))) (hg : (A.deeper (envOfC "law" (defScope s_law) s.heap.objs.size T.a_law cdv)).guards = some [])
    (TG : TabB base mg ccG PG) (hcG : T.d_Game___init__.code = .ref ccG) (hmG : (PG, gQ) ∈ TT) (huG : ∀ p ∈ TT, p.1 = PG → p.2 = gQ)
    (TB : TabB base mg cc PL) (hcode : cdv = .ref cc) (hmT : (PL, lamQ) ∈ TT) (hu : ∀ p ∈ TT, p.1 = PL → p.2 = lamQ)
    (ht : Tabs TT H) (hb : Bag c l n H) (hN : n ≤ 800000)
    (k : ∀ x2 x3 x4 x5 x6 x7 x8 x9 x10 x11 x12 x13 x14 x15 x16 x17 x18 x19 x20 x21 x22 x23 H', Tabs TT H' → Bag c l (n + 500) H' → D.nx [x0, some (.ref c), x2, x3, x4, x5, x6, x7, x8, x9, x10, x11, x12, x13, x14, x15, x16, x17, x18, x19, x20, x21, x22, x23] H') :
    ∃ t, PSs (XL P w K mg base T.a_law cdv A outer s H0 E) (turnB (defBody s_law)) t ∧ t D [x0, some (.ref c), x2, x3, x4, x5, x6, x7, x8, x9, x10, x11, x12, x13, x14, x15, x16, x17, x18, x19, x20, x21, x22, x23] H := by
  refine lwA T hr hg TG hcG hmG huG pss_any ht hb (by omega) fun kl e g ds a b a' b' far H1 t1 => ?_
  refine lwB T hr hg pss_any t1 (by omega) fun y6 y7 y8 y9 y10 H2 t2 => ?_
  refine lwC T hr hg pss_any t2 fun y12 y13 y14 y15 y16 y17 nl ns H3 t3 hnl nn hns _ => ?_
  refine lwD (x11 := none) T hr hg pss_any t3 hnl nn hns fun y9 y18 H4 t4 => ?_
  refine lwE T hr hg pss_any t4 (by omega) fun vn vo H5 t5 hn ho => ?_
  refine lwF (x19 := none) (x20 := none) T hr hg pss_any t5 (by omega) hn ho fun vb H6 t6 hn6 ho6 hb6 => ?_
  refine lwG (x19 := none) (x20 := none) (x21 := none) T hr hg TB hcode hmT hu ⟨t6, hn6, ho6, hb6⟩ pss_any fun hl t1 t2 t3 H7 a7 hl7 g1 g2 g3 => ?_
  refine lwH (x19 := none) (x20 := none) (x21 := none) (x22 := none) T hr hg TB hcode hmT hu a7 hl7 g1 g2 g3 fun x22 H8 a8 => ?_
  exact k _ _ _ _ _ _ _ _ _ _ _ _ _ _ _ _ _ _ _ _ _ _ H8 a8.tn.tb (a8.tn.bag.mono (by omega))
end
end K6

set_option Elab.async false
set_option linter.all false
set_option maxRecDepth 100000
set_option maxHeartbeats 16000000
namespace K6
open PySem PySem.Spec PyProof.Rows L2 Gs
open LamX (Tabs TabB TabS CodeO ExtN)
section
variable {P : Program} {w : World} {K : PySem.W.Frag} {mg : Str → Option Value} {base : Heap}
/-- Game(kinds) -/
theorem gm_ok (T : Tx K mg w) {TT : List (Addr × Str)} {x dx l : Addr} {ks : List KdT} {H : Hp} {Q : VK} {E : XK} (hx : H x = none) (hdx : H dx = none) (hl : SqL K H l (refsK ks)) (hk : KAs K T.c_Kind H ks) (z1 : 1 ≤ ks.length) (z8 : ks.length ≤ 8) (z62 : ∀ k ∈ ks, k.ps.length ≤ 62) (nd : (ks.map (·.z)).Nodup) (ht : Tabs TT H)
    (k : ∀ far H6, GmAt K T.c_Game H6 x none none none none far → IsFar far ks → Tabs TT H6 → KAs K T.c_Kind H6 ks → Q .non H6) :
    spGame K T.c_Kind T.c_Game TT [.ref x, .ref l, .ref T.t_N4, .ref T.t_H1] (upd (upd H dx (.own x)) x (.ins T.c_Game dx [])) Q E := by
  have old : Same H (upd (upd H dx (.own x)) x (.ins T.c_Game dx [])) := fun y o h => by
    rw [upd_ne (ne_of_none h hx), upd_ne (ne_of_none h hdx)]; exact h
  have hx' : upd (upd H dx (.own x)) x (.ins T.c_Game dx []) x = some (.ins T.c_Game dx []) := upd_same
  refine ⟨x, dx, l, T.t_N4, T.t_H1, ks, none, none, none, none, ["hold"], rfl, hx', old.seq hl, hk.same old, z1, z8, z62, nd, .inr (T.s_N4 _), rfl, rfl, .inr (T.s_H1 _), .inl rfl, tabs_same old ht, fun tk te tg tt n H6 e6 t6 h6 _ hte _ _ far => ?_⟩
  exact k n H6 ⟨dx, tk, te, tg, tt, h6, hte⟩ far t6 (e6.kinds hx' (hk.same old))
theorem far_one {n : Int} {ks : List KdT} (h : IsFar n ks) (e : ∀ k ∈ ks, k.ps = []) : n = 1 := by
  rcases h.2.1 with h | ⟨k, hk, p, hp, _⟩
  · exact h
  · rw [e k hk] at hp; cases hp
theorem fresh5 (p q r t u : Nat) : ∃ c : Nat, p ≠ c ∧ q ≠ c ∧ r ≠ c ∧ t ≠ c ∧ u ≠ c := ⟨p + q + r + t + u + 1, by omega, by omega, by omega, by omega, by omega⟩
/-- the last lines -/
theorem lwZ (T : Tx K mg w) {cdv : Value} {A : Around} {outer : List Env} {s : Shared} {H0 : Hp} {E : XK} {D : Ends} {TT : List (Addr × Str)} {ccG PG : Addr} {x0 x1 x2 x3 x4 x5 x6 x7 x8 x9 x10 x11 x12 x13 x14 x15 x16 x17 x18 x19 x20 x21 x22 x23 : Option V} {H : Hp}
    (hr : Room 13 (A.deeper (envOfC "law" (defScope s_law) s.heap.objs.size T.a_law cdv))) (hg : (A.deeper (envOfC "law" (defScope s_law) s.heap.objs.size T.a_law cdv)).guards = some [])
    (TG : TabB base mg ccG PG) (hcG : T.d_Game___init__.code = .ref ccG) (hmG : (PG, gQ) ∈ TT) (huG : ∀ p ∈ TT, p.1 = PG → p.2 = gQ)
    (ht : Tabs TT H) (k : ∀ H', D.rt (.bl true) H') :
    ∃ t, PSs (XL P w K mg base T.a_law cdv A outer s H0 E) ((defBody s_law).drop 2) t ∧ t D [x0, x1, x2, x3, x4, x5, x6, x7, x8, x9, x10, x11, x12, x13, x14, x15, x16, x17, x18, x19, x20, x21, x22, x23] H := by
  obtain ⟨d2, rb2, hb2⟩ := b2_Kind T
  obtain ⟨d3, rb3, hb3⟩ := b3_Kind T
  obtain ⟨dg, rbg, hbg⟩ := b1_Game T
  refine ⟨_, (pss_cons (ps_set (i := 23) sc_law.nd rfl (Or.inl rfl) (pe_make T.mk_Kind (O_Kind___init__ T) (hr.mono (by decide)) (by rfl) T.m_Kind hb3 rb3 passL (pa_cons pe_str (pa_cons (pe_lst pa_nil) (pa_cons (pe_lst (pa_cons pe_str pa_nil)) pa_nil)))))
      (pss_one (ps_ret (pe_cmpR (op_eqD hr.units) (pe_lst (pa_cons (pe_call (O_longest T) (hr.mono (by decide)) (by rfl) T.m_longest T.F_longest.kp T.b_longest .nil passL (pa_cons (pe_make T.mk_Game (O_Game___init__ T TG hcG hmG huG) (hr.mono (by decide)) (by rfl) T.m_Game hbg rbg passL (pa_cons (pe_lst (pa_cons (pv 23) pa_nil)) pa_nil)) pa_nil)) (pa_cons (pe_call (O_bound T) (hr.mono (by decide)) (by rfl) T.m_bound T.F_bound.kp T.b_bound .nil passL (pa_cons (pe_make T.mk_Game (O_Game___init__ T TG hcG hmG huG) (hr.mono (by decide)) (by rfl) T.m_Game hbg rbg passL (pa_cons (pe_lst (pa_cons (pv 23) pa_nil)) pa_nil)) (pa_cons pe_int pa_nil))) (pa_cons (pe_call (O_longest T) (hr.mono (by decide)) (by rfl) T.m_longest T.F_longest.kp T.b_longest .nil passL (pa_cons (pe_make T.mk_Game (O_Game___init__ T TG hcG hmG huG) (hr.mono (by decide)) (by rfl) T.m_Game hbg rbg passL (pa_cons (pe_lst (pa_cons (pe_make T.mk_Kind (O_Kind___init__ T) (hr.mono (by decide)) (by rfl) T.m_Kind hb2 rb2 passL (pa_cons pe_str (pa_cons (pe_lst (pa_cons (pe_tup (pa_cons pe_int (pa_cons (pe_un un_neg pe_int) pa_nil))) pa_nil)) pa_nil))) (pa_cons (pv 23) pa_nil))) pa_nil)) pa_nil)) pa_nil)))) (pe_lst (pa_cons pe_int (pa_cons pe_int (pa_cons pe_int pa_nil)))) (nomark _))))), ?_⟩
  -- runner
  refine ⟨szl rfl, fun p1 h1 => ⟨szl rfl, fun p2 h2 => ?_⟩⟩
  have n12 : p1 ≠ p2 := ne_of_none (upd_same (H := H) (a := p1)) h2
  intro x dx hx hdx ndx
  have e1 : upd (upd H p1 (.lst [])) p2 (.lst [.str "right"]) p1 = some (.lst []) := by rw [upd_ne n12]; exact upd_same
  have e2 : upd (upd H p1 (.lst [])) p2 (.lst [.str "right"]) p2 = some (.lst [.str "right"]) := upd_same
  have t1 : Tabs TT (upd (upd H p1 (.lst [])) p2 (.lst [.str "right"])) := tabs_same ((same_new h1).trans (same_new h2)) ht
  obtain ⟨c0, q1, q2, q3, q4, _⟩ := fresh5 p1 p2 x dx dx
  have L0 := (leaps_pairs (pr := []) List.nodup_nil (fun p h => by cases h) (by decide)).1
  have R0 := (rides_of (R := ["right"]) (by decide +kernel) (by decide +kernel)).1
  refine sp_ok (c := c0) (pr := []) (R := ["right"]) hx hdx q3 q4 (by decide +kernel) (.lst q1 (.of e1) .nil) (.lst q2 (.of e2) (.cons (.str "right") .nil)) L0 R0 (fun z => by cases z) (.inr (by simp)) fun ps H2 s2 kat perm _ => ⟨rfl, ?_⟩
  have ps0 : ps = [] := perm.eq_nil
  subst ps0
  have t2 := tabs_same s2 t1
  have kr : KAs K T.c_Kind H2 [⟨x, "runner", [], ridL ["right"], false⟩] := fun k hk => by rw [List.mem_singleton.mp hk]; exact kat
  clear t1 e1 e2 kat s2 L0 R0 perm hx hdx ndx h1 h2 n12 q1 q2 q3 q4 ht
  -- longest(Game([runner]))
  refine ⟨_, rfl, szl rfl, fun p hp => ?_⟩
  have sp := same_new hp (o := .lst [.ref x])
  have lp : SqL K (upd H2 p (.lst [.ref x])) p (refsK [⟨x, "runner", [], ridL ["right"], false⟩]) := .of upd_same
  have kr3 := kr.same sp
  have t3 := tabs_same sp t2
  generalize upd H2 p (.lst [V.ref x]) = H3 at lp kr3 t3 ⊢
  intro y dy hy hdy ndy
  refine gm_ok T hy hdy lp kr3 (Nat.le_refl 1) (Nat.le_of_ble_eq_true rfl) (fun k hk => by rw [List.mem_singleton.mp hk]; exact Nat.zero_le _) (List.nodup_cons.mpr ⟨by simp, List.nodup_nil⟩) t3 fun far H4 gm isf t4 kr4 => ⟨rfl, ?_⟩
  have f1 : far = 1 := far_one isf fun k hk => by rw [List.mem_singleton.mp hk]
  subst f1
  obtain ⟨dx', tk, te, tg, tt, g1, g2⟩ := id gm
  refine ⟨.ref y, .ref T.c_Game, rfl, T.ty_Game.ty g1, .inr ⟨T.kk_Game, y, none, none, none, none, 1, rfl, gm, ?_⟩⟩
  clear gm g1 g2 isf hy hdy ndy lp kr3 t3 kr t2 hp sp
  -- bound(Game([runner]), 0)
  refine ⟨_, rfl, szl rfl, fun p hp => ?_⟩
  have sp := same_new hp (o := .lst [.ref x])
  have lp : SqL K (upd H4 p (.lst [.ref x])) p (refsK [⟨x, "runner", [], ridL ["right"], false⟩]) := .of upd_same
  have kr3 := kr4.same sp
  have t3 := tabs_same sp t4
  generalize upd H4 p (.lst [V.ref x]) = H5 at lp kr3 t3 ⊢
  intro y2 dy hy hdy ndy
  refine gm_ok T hy hdy lp kr3 (Nat.le_refl 1) (Nat.le_of_ble_eq_true rfl) (fun k hk => by rw [List.mem_singleton.mp hk]; exact Nat.zero_le _) (List.nodup_cons.mpr ⟨by simp, List.nodup_nil⟩) t3 fun far H6 gm isf t6 kr6 => ⟨rfl, ?_⟩
  have f1 : far = 1 := far_one isf fun k hk => by rw [List.mem_singleton.mp hk]
  subst f1
  obtain ⟨dx', tk, te, tg, tt, g1, g2⟩ := id gm
  refine ⟨.ref y2, .int 0, .ref T.c_Game, rfl, T.ty_Game.ty g1, .inr ⟨T.kk_Game, y2, none, none, none, none, 1, rfl, gm, .inr ⟨0, rfl, by decide, by decide, fun H7 s7 => ?_⟩⟩⟩
  have t7 := tabs_same s7 t6
  have kr7 := kr6.same s7
  clear gm g1 g2 isf hy hdy ndy lp kr3 t3 kr4 t4 hp sp t6 kr6 s7
  -- longest(Game([Kind("a", [(0, -3)]), runner]))
  refine ⟨_, rfl, szl rfl, fun t ht => ⟨szl rfl, fun p hp => ?_⟩⟩
  have st := same_new ht (o := .tup [.int 0, .int (-3)])
  have gt : SqT K (upd H7 t (.tup [.int 0, .int (-3)])) t [.int 0, .int (-3)] := .of upd_same
  have sp := same_new hp (o := .lst [.ref t])
  have gp : upd (upd H7 t (.tup [.int 0, .int (-3)])) p (.lst [.ref t]) p = some (.lst [.ref t]) := upd_same
  have gt2 := sp.seqT gt
  have kr8 := (kr7.same st).same sp
  have t8 := tabs_same sp (tabs_same st t7)
  intro z dz hz hdz ndz
  obtain ⟨c0, q1, q2, q3, q4, q5⟩ := fresh5 t p z dz T.t_E
  have L1 := (leaps_pairs (pr := [((0 : Int), (-3 : Int))]) (List.nodup_cons.mpr ⟨by simp, List.nodup_nil⟩) (fun p h => by rw [List.mem_singleton.mp h]; decide) (Nat.le_of_ble_eq_true rfl)).1
  have R1 := (rides_of (R := []) List.nodup_nil (fun r h => by cases h)).2
  refine sp_ok (c := c0) (pr := [(0, -3)]) (R := []) hz hdz q3 q4 (by decide +kernel) (.lst q2 (.of gp) (.cons (.tup q1 gt2 (.cons (.int 0) (.cons (.int (-3)) .nil))) .nil)) (.tup q5 (T.s_E _) .nil) L1 R1 (fun z => by cases z) (.inl (by simp)) fun ps H8 s8 kat perm _ => ⟨rfl, ?_⟩
  have ps1 : ps = [(0, -3)] := List.perm_singleton.mp perm
  subst ps1
  have kr9 := kr8.same s8
  have t9 := tabs_same s8 t8
  have ka : KAs K T.c_Kind H8 [⟨z, "a", [(0, -3)], ridL [], false⟩, ⟨x, "runner", [], ridL ["right"], false⟩] := fun k hk => by
    rcases List.mem_cons.mp hk with rfl | hk
    · exact kat
    · exact kr9 k hk
  clear kat kr8 kr9 kr7 t8 t7 st gt sp gp gt2 L1 R1 perm hz hdz ndz q1 q2 q3 q4 q5 s8
  refine ⟨_, rfl, szl rfl, fun p hp => ?_⟩
  have sp := same_new hp (o := .lst [.ref z, .ref x])
  have lp : SqL K (upd H8 p (.lst [.ref z, .ref x])) p (refsK [⟨z, "a", [(0, -3)], ridL [], false⟩, ⟨x, "runner", [], ridL ["right"], false⟩]) := .of upd_same
  have ka3 := ka.same sp
  have t3 := tabs_same sp t9
  generalize upd H8 p (.lst [V.ref z, V.ref x]) = H9 at lp ka3 t3 ⊢
  intro y3 dy hy hdy ndy
  refine gm_ok T hy hdy lp ka3 (Nat.le_of_ble_eq_true rfl) (Nat.le_of_ble_eq_true rfl) (fun k hk => ?_) (show (["a", "runner"] : List Str).Nodup by decide +kernel) t3 fun far H10 gm isf t10 _ => ⟨rfl, ?_⟩
  · simp only [List.mem_cons, List.not_mem_nil, or_false] at hk
    rcases hk with rfl | rfl
    · exact Nat.le_of_ble_eq_true rfl
    · exact Nat.zero_le _
  have f3 : far = 3 := by
    have u := (isf.2.2 _ List.mem_cons_self (0, -3) List.mem_cons_self).2
    have u : (3 : Int) ≤ far := u
    rcases isf.2.1 with h | ⟨k, hk, q, hq, h⟩
    · omega
    · simp only [List.mem_cons, List.not_mem_nil, or_false] at hk
      rcases hk with rfl | rfl
      · have hq : q = (0, -3) := List.mem_singleton.mp hq
        subst hq
        rcases h with h | h
        · have h : far = 0 := h
          omega
        · exact h
      · cases hq
  subst f3
  obtain ⟨dx', tk, te, tg, tt, g1, g2⟩ := id gm
  refine ⟨.ref y3, .ref T.c_Game, rfl, T.ty_Game.ty g1, .inr ⟨T.kk_Game, y3, none, none, none, none, 3, rfl, gm, ?_⟩⟩
  refine ⟨szl rfl, fun a1 h1 => ⟨szl rfl, fun a2 h2 => ?_⟩⟩
  have sh : SeqAt.shaped (.list [.int 1, .int 2, .int 3]) = true := by decide +kernel
  have s2 := same_new h2 (o := .lst [.int 1, .int 2, .int 3])
  refine ⟨.list [.int 1, .int 2, .int 3], .list [.int 1, .int 2, .int 3], .lst (.of (s2 _ _ upd_same)) (.cons (.int 1) (.cons (.int 2) (.cons (.int 3) .nil))), .lst (.of upd_same) (.cons (.int 1) (.cons (.int 2) (.cons (.int 3) .nil))), sh, sh, ?_⟩
  exact k _
end
end K6

set_option Elab.async false
set_option linter.all false
set_option maxRecDepth 100000
set_option maxHeartbeats 16000000
namespace K6
open PySem PySem.Spec PyProof.Rows L2 Gs
open LamX (Tabs TabB TabS CodeO ExtN)
section
variable {P : Program} {w : World} {K : PySem.W.Frag} {mg : Str → Option Value} {base : Heap} {CX : CXT} {k : Nat} {f : Addr} {fd : FuncData} {ps : List Str} {sp : Sp}
/-- a def without defaults, entered with no guard; its code object is told -/
theorem fun_okCG {x qual : Str} {st : Stmt} {N : List Str} (F : Fun K x qual st f fd) (S : FnScope N ps (defScope st))
    (len : ∀ vs H Q E, sp vs H Q E → vs.length = ps.length)
    (hb : ∀ (cdv : Value), fd.code = cdv → ∀ (A : Around) (outer : List Env) (s : Shared) (H : Hp) (vs : List V) (Q : VK) (E : XK),
      Room k (A.deeper (envOfC qual (defScope st) s.heap.objs.size f cdv)) → (A.deeper (envOfC qual (defScope st) s.heap.objs.size f cdv)).guards = some [] → sp vs H Q E →
      ∃ t, PSs (cxOf CX0 P w K mg base N qual (defScope st) f cdv A outer s H E).nox (defBody st) t ∧
        t { nx := fun _ H' => Q .non H', rt := Q } (L2.start N vs) H) : FnG P w K mg base CX0 (k + 1) f fd ps sp := by
  obtain ⟨oc, od, kV, doc, pm, an, cdv, ct, osl, rfl, lk, hcd⟩ := F.ex
  refine fn_ofG lk hcd S len (fun A outer s H vs Q E hr hg hsp => ?_)
  obtain ⟨t, h, q⟩ := hb cdv rfl A outer s H vs Q E hr hg hsp
  exact ⟨t, h.nox, q⟩
end
section
variable {P : Program} {w : World} {K : PySem.W.Frag} {mg : Str → Option Value} {base : Heap}
abbrev TTl (PL PG : Addr) : List (Addr × Str) := [(PL, lamQ), (PG, gQ)]
def spLaw (K : PySem.W.Frag) (PL PG : Addr) : Sp := fun vs H Q _ => ∃ (a : Addr) (ns : List Int), vs = [.ref a] ∧ SqL K H a (ns.map V.int) ∧ ns.length ≤ 63 ∧ Tabs (TTl PL PG) H ∧ ∀ H', Q (.bl true) H'
theorem G_law (T : Tx K mg w) {cc PL ccG PG : Addr} (TB : TabB base mg cc PL) (hcc : T.d_law.code = .ref cc) (TG : TabB base mg ccG PG) (hcG : T.d_Game___init__.code = .ref ccG) (hne : PL ≠ PG) : FnG P w K mg base CX0 14 T.a_law T.d_law ["script"] (spLaw K PL PG) := by
  refine fun_okCG T.F_law sc_law (fun vs H Q E h => ?_) (fun cdv hcd A outer s H vs Q E hr hg h => ?_)
  · obtain ⟨a, ns, rfl, _⟩ := h; rfl
  obtain ⟨a, ns, rfl, hS, hlen, ht, k⟩ := h
  have hcode : cdv = .ref cc := hcd.symm.trans hcc
  have hmT : (PL, lamQ) ∈ TTl PL PG := List.mem_cons_self
  have hmG : (PG, gQ) ∈ TTl PL PG := List.mem_cons_of_mem _ List.mem_cons_self
  have hu : ∀ p ∈ TTl PL PG, p.1 = PL → p.2 = lamQ := fun p hp e => by
    simp only [List.mem_cons, List.not_mem_nil, or_false] at hp
    rcases hp with rfl | rfl
    · rfl
    · exact absurd e.symm hne
  have huG : ∀ p ∈ TTl PL PG, p.1 = PG → p.2 = gQ := fun p hp e => by
    simp only [List.mem_cons, List.not_mem_nil, or_false] at hp
    rcases hp with rfl | rfl
    · exact absurd e hne
    · rfl
  refine ⟨_, pss_cons (ps_set (i := 1) sc_law.nd rfl (Or.inl rfl) (pg_call (G__law_flask T) (hr.mono (by decide)) hg (by rfl) T.m__law_flask T.F__law_flask.kp T.b__law_flask .nil pass0 (pa_cons (pv 0) pa_nil)))
      (pss_cons (ps_for PassesOwn.never rfl (pi_range1 (by rfl) T.z_range (pa_cons pe_int pa_nil)) (pg_name (i := 2) sc_law.nd rfl (Or.inl rfl)) pss_any) pss_any), ?_⟩
  refine ⟨_, rfl, a, ns, rfl, hS, hlen, fun c l H1 hc hl x1 b1 => ?_⟩
  have t1 : Tabs (TTl PL PG) H1 := tabs_new hc x1 ht
  refine ⟨3, rfl, by decide, by decide, ?_⟩
  refine for_it (tb := fun D' σ' H' => ∃ t, PSs (XL P w K mg base T.a_law cdv A outer s H E) (turnB (defBody s_law)) t ∧ t D' σ' H') (walk_range (lo := 0) (n := 3)) (fun i σ H' => (∃ x2 x3 x4 x5 x6 x7 x8 x9 x10 x11 x12 x13 x14 x15 x16 x17 x18 x19 x20 x21 x22 x23 : Option V, σ = [some (.ref a), some (.ref c), x2, x3, x4, x5, x6, x7, x8, x9, x10, x11, x12, x13, x14, x15, x16, x17, x18, x19, x20, x21, x22, x23]) ∧ Bag c l (500 * i) H' ∧ Tabs (TTl PL PG) H')
    ⟨⟨none, none, none, none, none, none, none, none, none, none, none, none, none, none, none, none, none, none, none, none, none, none, rfl⟩, b1, t1⟩ (fun _ _ _ _ _ => trivial) ?_ ?_
  rotate_left
  · rintro σ H2 ⟨⟨x2, x3, x4, x5, x6, x7, x8, x9, x10, x11, x12, x13, x14, x15, x16, x17, x18, x19, x20, x21, x22, x23, rfl⟩, b2, t2⟩
    exact lwZ T hr hg TG hcG hmG huG t2 fun H' => k H'
  rintro i x σ H2 H2' hi ⟨⟨x2, x3, x4, x5, x6, x7, x8, x9, x10, x11, x12, x13, x14, x15, x16, x17, x18, x19, x20, x21, x22, x23, rfl⟩, b2, t2⟩ ⟨rfl, rfl⟩
  refine lwTurn T hr hg TG hcG hmG huG TB hcode hmT hu t2 b2 (by omega) fun y2 y3 y4 y5 y6 y7 y8 y9 y10 y11 y12 y13 y14 y15 y16 y17 y18 y19 y20 y21 y22 y23 H3 t3 b3 => ?_
  exact ⟨⟨_, _, _, _, _, _, _, _, _, _, _, _, _, _, _, _, _, _, _, _, _, _, rfl⟩, b3.mono (by omega), t3⟩
end
end K6

set_option Elab.async false
set_option linter.all false
set_option maxRecDepth 100000
set_option maxHeartbeats 4000000
namespace Gs
open PySem PySem.Spec PyProof.Rows L2
theorem tabs_none2 {P Q : Addr} {p q : Str} {H : Hp} (h : H P = some (.tbl #[])) (h2 : H Q = some (.tbl #[])) : LamX.Tabs [(P, p), (Q, q)] H := fun r hr => by
  simp only [List.mem_cons, List.not_mem_nil, or_false] at hr
  rcases hr with rfl | rfl
  · exact LamX.TabS.nil h
  · exact LamX.TabS.nil h2
section
variable {P : Program} {w : World} {K : PySem.W.Frag} {mg mb : Str → Option Value} {CX : CXT} {k : Nat} {fa a cc T cc2 T2 : Addr} {fd : FuncData} {x : Str} {sp : Sp}
  {s₁ : Shared} {vs : List Value} {ns : List Int}
/-- the law's call where two code objects have empty tables -/
theorem law_callGT2 (KX : K.In s₁.heap) (hns : s₁.heap.Ns mainGlobals mg) (hb : s₁.heap.Ns builtinsNs mb) (hbb : ∀ x : Str, x ≠ "__name__" → mb x = bootBuiltins x)
    (hlim : s₁.heap.NoLimit) (hg : s₁.gens = #[]) (hT : s₁.heap.get? T = some { cls := .none, data := .fields #[] }) (nT : K.lookup T = none) (C : PySem.W.CodeHd s₁.heap cc T)
    (hT2 : s₁.heap.get? T2 = some { cls := .none, data := .fields #[] }) (nT2 : K.lookup T2 = none) (C2 : PySem.W.CodeHd s₁.heap cc2 T2)
    (hbm : ∃ (bm : Addr) (ob : Obj), mg "__builtins__" = some (.ref bm) ∧ bm ≠ builtinsNs ∧ s₁.heap.get? bm = some ob ∧ ob.cls = .type "module" ∧ ob.dict = some builtinsNs ∧ ob.data = .plain)
    (ha : s₁.heap.get? a = some { cls := .type "list", data := .seq vs.toArray }) (hi : IntsAre vs ns) (hl : ns.length ≤ sizeLine)
    (hr : Room k callerA) (F : ∀ base : Heap, K.In base → base.Ns mainGlobals mg → LamX.TabB base mg cc T → LamX.TabB base mg cc2 T2 → FnG P w K mg base CX k fa fd [x] sp)
    (hbind : ∀ (s : Shared) (u : Value), BindsTo s fd ⟨[u], []⟩ [(x, u)])
    (hsp : ∀ H : Hp, H T = some (.tbl #[]) → H T2 = some (.tbl #[]) → SqL K H a (ns.map V.int) → sp [.ref a] H (fun v _ => v = .bl true) fun _ _ _ => False)
    (hCX : ∀ H e s', CX [] H s₁ (fun _ _ _ => False) e s' → False) :
    codeAny (model P w) callerA (.call (.ref fa) ⟨[.ref a], []⟩)
      (fun r s' => r = .ok (.ret (.bool true)) ∧ OldK s₁.heap s'.heap ∧ s'.os = s₁.os ∧ AllBare s'.gens) s₁ := by
  have rv := vals_ints hi
  have nV := hi.length
  have aT : a ≠ T := fun z => by rw [z, hT] at ha; cases ha
  have aT2 : a ≠ T2 := fun z => by rw [z, hT2] at ha; cases ha
  -- H knows the table, and perhaps the script, which is frozen
  have go : ∀ H : Hp, (∀ b, H b = none ∨ (b = a ∧ K.lookup b = none ∧ ∃ o ys, H b = some (.frz o (.lst ys))) ∨ b = T ∨ b = T2) → H T = some (.tbl #[]) → H T2 = some (.tbl #[]) → SqL K H a (ns.map V.int) → HOk P w H s₁.heap →
      codeAny (model P w) callerA (.call (.ref fa) ⟨[.ref a], []⟩)
        (fun r s' => r = .ok (.ret (.bool true)) ∧ OldK s₁.heap s'.heap ∧ s'.os = s₁.os ∧ AllBare s'.gens) s₁ := by
    intro H hO hHT hHT2 hS hok
    have unk : ∀ {b : Addr} {o : Obj}, s₁.heap.get? b = some o → o.data ≠ .seq vs.toArray → o.data ≠ .fields #[] → H b = none := by
      intro b o e nd nf
      rcases hO b with q | ⟨q, _, _⟩ | q | q
      · exact q
      · rw [q, ha] at e; cases e; exact absurd rfl nd
      · rw [q, hT] at e; cases e; exact absurd rfl nf
      · rw [q, hT2] at e; cases e; exact absurd rfl nf
    have hid : ∀ {b : Addr} {o : Obj}, s₁.heap.get? b = some o → o.data ≠ .seq vs.toArray → o.data ≠ .fields #[] → (hidT s₁.heap H).get? b = some o := fun e n1 n2 => hidT_get e (unk e n1 n2)
    have nsH : ∀ {b : Addr} {m : Str → Option Value}, s₁.heap.Ns b m → (hidT s₁.heap H).Ns b m := by
      rintro b m ⟨o, es, ep, e, d, r⟩
      exact ⟨o, es, ep, hid e (by rw [d]; exact fun z => nomatch z) (by rw [d]; exact fun z => nomatch z), d, r⟩
    have kH : K.In (hidT s₁.heap H) := by
      intro b o e
      refine hidT_get (KX b o e) ?_
      rcases hO b with q | ⟨_, q, _⟩ | q | q
      · exact q
      · rw [q] at e; cases e
      · rw [q, nT] at e; cases e
      · rw [q, nT2] at e; cases e
    have md : Mod K mg (hidT s₁.heap H) := by
      refine ⟨kH, nsH hns, ⟨mb, nsH hb, hbb⟩, ?_⟩
      obtain ⟨mc, h1, h2⟩ := hlim
      exact ⟨mc, nsH h1, h2⟩
    have e0 : Env0 P w K mg (hidT s₁.heap H) callerA [] s₁ H := by
      refine ⟨rfl, md, fun b o e => of_hidT e, Nat.le_of_eq (hidT_size _ _), trivial, ?_, hok, .of_eq hg⟩
      intro b hb
      exact absurd (show b ∈ ([] : List Addr) from hb) (List.not_mem_nil)
    have tbOf : ∀ (c0 t0 : Addr), s₁.heap.get? t0 = some { cls := .none, data := .fields #[] } → PySem.W.CodeHd s₁.heap c0 t0 → LamX.TabB (hidT s₁.heap H) mg c0 t0 := fun c0 t0 h0 C0 => by
      have ng0 : mainGlobals ≠ t0 := fun z => by
        obtain ⟨o, es, ep, e, d, _⟩ := hns
        rw [z, h0] at e; cases e; cases d
      refine ⟨?_, ?_, ng0⟩
      · obtain ⟨o, us, file, tf, flags, tg, inF, text, tt, e1, r1, r2, r3, rest⟩ := C0
        refine ⟨o, us, file, tf, flags, tg, inF, text, tt, hid e1 (by rw [r2]; exact fun z => nomatch z) (fun z => ?_), r1, r2, r3, rest⟩
        rw [r2] at z; cases z; simp at r3
      · obtain ⟨bm, ob, b1, b2, b3, b4, b5, b6⟩ := hbm
        refine ⟨bm, ob, b1, b2, fun z => ?_, fun z => ?_, hid b3 (by rw [b6]; exact fun z => nomatch z) (by rw [b6]; exact fun z => nomatch z), b4, b5, b6⟩
        · obtain ⟨o, es, ep, e, d, _⟩ := hns
          rw [z, e] at b3; cases b3
          rw [d] at b6; cases b6
        · rw [z, h0] at b3; cases b3; cases b6
    have run := (F _ kH (nsH hns) (tbOf _ _ hT C) (tbOf _ _ hT2 C2)).run callerA [] s₁ H ⟨[.ref a], []⟩ [.ref a] [.ref a] _ _ hr rfl e0 (hbind s₁ (.ref a)) (.cons rfl .nil) (hsp H hHT hHT2 hS)
    refine codeAny_mono run (fun r s' h => ?_)
    match r, h with
    | .error e, h => exact (hCX H e s' h).elim
    | .ok .next, h => exact h.elim
    | .ok .brk, h => exact h.elim
    | .ok .cont, h => exact h.elim
    | .ok (.ret u), h =>
      obtain ⟨v, H', os, bare, un, hok', r', q⟩ := h
      cases (show v = .bl true from q)
      cases (show u = Value.bool true from r')
      obtain ⟨more, hm⟩ := un.tbls T #[] hHT
      obtain ⟨more2, hm2⟩ := un.tbls T2 #[] hHT2
      have gT : s'.heap.get? T = some { cls := .none, data := .fields (#[] ++ more) } := hok' T _ hm
      have gT2 : s'.heap.get? T2 = some { cls := .none, data := .fields (#[] ++ more2) } := hok' T2 _ hm2
      have keep : ∀ b o, b ≠ T → b ≠ T2 → s₁.heap.get? b = some o → s'.heap.get? b = some o := fun b o nb nb2 e => by
        rcases hO b with q | ⟨_, _, ob, ys, q⟩ | q | q
        · exact un.keep b o e q (fun z => absurd (show b ∈ ([] : List Addr) from z) List.not_mem_nil) List.not_mem_nil
        · obtain ⟨e1, _⟩ := hok b _ q
          obtain ⟨e2, _⟩ := hok' b _ (un.frzs b ob _ q)
          rw [e] at e1; cases e1; exact e2
        · exact absurd q nb
        · exact absurd q nb2
      refine ⟨rfl, ⟨fun b o e => ?_, fun b o e => ?_⟩, os, bare⟩
      · by_cases nb : b = T
        · subst nb
          rw [hT] at e; cases e
          exact .inr (.inl ⟨(C.tab hT).isCodeTable, rfl, #[], more, rfl, gT⟩)
        · by_cases nb2 : b = T2
          · subst nb2
            rw [hT2] at e; cases e
            exact .inr (.inl ⟨(C2.tab hT2).isCodeTable, rfl, #[], more2, rfl, gT2⟩)
          · exact .inl (keep b o nb nb2 e)
      · by_cases nb : b = T
        · rw [nb]; exact ⟨_, gT⟩
        · by_cases nb2 : b = T2
          · rw [nb2]; exact ⟨_, gT2⟩
          · exact ⟨o, keep b o nb nb2 e⟩
  by_cases hk : K.lookup a = none
  · obtain ⟨F0, hF0⟩ : ∃ F0 : Hp, F0 = fun b => if b = T then some (HO.tbl #[]) else if b = T2 then some (HO.tbl #[]) else if b = a then some (HO.frz { cls := .type "list", data := .seq vs.toArray } (.lst (ns.map V.int))) else none := ⟨_, rfl⟩
    have at_T : F0 T = some (.tbl #[]) := by rw [hF0]; exact if_pos rfl
    have at_T2 : F0 T2 = some (.tbl #[]) := by
      rw [hF0]
      by_cases e : T2 = T
      · exact if_pos e
      · exact (if_neg e).trans (if_pos rfl)
    have at_a : F0 a = some (.frz { cls := .type "list", data := .seq vs.toArray } (.lst (ns.map V.int))) := by
      rw [hF0]; exact (if_neg aT).trans ((if_neg aT2).trans (if_pos rfl))
    refine go F0 (fun b => ?_) at_T at_T2 (.inl (.inr ⟨_, at_a⟩)) (fun b u z => ?_)
    · by_cases e : b = T
      · exact .inr (.inr (.inl e))
      · by_cases e3 : b = T2
        · exact .inr (.inr (.inr e3))
        · by_cases e2 : b = a
          · exact .inr (.inl ⟨e2, by rw [e2]; exact hk, _, _, by rw [e2]; exact at_a⟩)
          · exact .inl (by rw [hF0]; exact (if_neg e).trans ((if_neg e3).trans (if_neg e2)))
    · by_cases e : b = T
      · rw [e, at_T] at z; cases z; rw [e]; exact hT
      · by_cases e3 : b = T2
        · rw [e3, at_T2] at z; cases z; rw [e3]; exact hT2
        · by_cases e2 : b = a
          · rw [e2, at_a] at z; cases z; rw [e2]
            exact ⟨ha, by rw [List.length_map]; exact hl, vs, _, rv, ha⟩
          · rw [hF0] at z
            have z : (if b = T then some (HO.tbl #[]) else if b = T2 then some (HO.tbl #[]) else if b = a then some (HO.frz { cls := .type "list", data := .seq vs.toArray } (.lst (ns.map V.int))) else none) = some u := z
            rw [if_neg e, if_neg e3, if_neg e2] at z; cases z
  · obtain ⟨o, ho⟩ := Option.ne_none_iff_exists'.mp hk
    have e := KX a o ho
    rw [ha] at e; cases e
    obtain ⟨F0, hF0⟩ : ∃ F0 : Hp, F0 = fun b => if b = T then some (HO.tbl #[]) else if b = T2 then some (HO.tbl #[]) else none := ⟨_, rfl⟩
    have at_T : F0 T = some (.tbl #[]) := by rw [hF0]; exact if_pos rfl
    have at_T2 : F0 T2 = some (.tbl #[]) := by
      rw [hF0]
      by_cases e : T2 = T
      · exact if_pos e
      · exact (if_neg e).trans (if_pos rfl)
    refine go F0 (fun b => ?_) at_T at_T2 (.inr ⟨_, vs.toArray, _, ho, rfl, rfl, rfl, ?_, by simpa using rv⟩) (fun b u z => ?_)
    · by_cases e : b = T
      · exact .inr (.inr (.inl e))
      · by_cases e3 : b = T2
        · exact .inr (.inr (.inr e3))
        · exact .inl (by rw [hF0]; exact (if_neg e).trans (if_neg e3))
    · rw [List.size_toArray, nV]; exact hl
    · by_cases e : b = T
      · rw [e, at_T] at z; cases z; rw [e]; exact hT
      · by_cases e3 : b = T2
        · rw [e3, at_T2] at z; cases z; rw [e3]; exact hT2
        · rw [hF0] at z
          have z : (if b = T then some (HO.tbl #[]) else if b = T2 then some (HO.tbl #[]) else none) = some u := z
          rw [if_neg e, if_neg e3] at z; cases z
end
/-- what the head leaves, from the law's promise; two code objects have tables -/
theorem walkGT2 {l : PySem.W.OpenLaw} {k : Nat} {q : Program} {loose : List Str} {XP : (Str → Option Value) → Heap → Prop} {YP : World → Heap → Prop} {d : DefRec}
    {K : Params → PySem.W.Frag} {sp : PySem.W.Frag → Sp} {x : Str} {T T2 : Addr} (hn : l.most = some 63) (hdf : d.params.defaults = []) (hr : Room k callerA)
    (hY : ∀ (w : World) (h : Heap), YP w h → (K w.params).In h) (hT : ∀ (w : World) (h : Heap), YP w h → h.get? T = some { cls := .none, data := .fields #[] }) (hT2 : ∀ (w : World) (h : Heap), YP w h → h.get? T2 = some { cls := .none, data := .fields #[] })
    (F : ∀ (w : World) (mg : Str → Option Value) (fa : Addr) (h : Heap), (K w.params).In h → h.Ns mainGlobals mg → mg d.name = some (.ref fa) →
      ∃ (fd : FuncData) (cc cc2 : Addr), (∀ (s : Shared) (u : Value), BindsTo s fd ⟨[u], []⟩ [(x, u)]) ∧ (K w.params).lookup T = none ∧ PySem.W.codeHdIn (K w.params) cc T = true ∧ (K w.params).lookup T2 = none ∧ PySem.W.codeHdIn (K w.params) cc2 T2 = true ∧
        ∀ base : Heap, (K w.params).In base → base.Ns mainGlobals mg → LamX.TabB base mg cc T → LamX.TabB base mg cc2 T2 → FnG l.prog w (K w.params) mg base CX0 k fa fd [x] (sp (K w.params)))
    (hsp : ∀ (K : PySem.W.Frag) (H : Hp) (a : Addr) (ns : List Int), ns.length ≤ 63 → H T = some (.tbl #[]) → H T2 = some (.tbl #[]) → SqL K H a (ns.map V.int) → sp K [.ref a] H (fun v _ => v = .bl true) fun _ _ _ => False) :
    PySem.W.WalkO q loose XP YP l.row.toRowW d [] (fun f vs => PySem.call f vs) := by
  refine Att.attach_call hn hdf (fun w s₀ s₁ mg mb fa o pm cd doc a vs ns G Y ho hd hcd hmg hobj hints hlen hg => ?_)
  have KX := hY w _ Y
  obtain ⟨fd, cc, cc2, hb, nT, hc, nT2, hc2, hF⟩ := F w mg fa _ KX G.T.g hmg
  exact law_callGT2 KX G.T.g G.T.b G.T.builtins G.T.nolimit hg (hT w _ Y) nT (PySem.W.codeHd_of_K KX hc) (hT2 w _ Y) nT2 (PySem.W.codeHd_of_K KX hc2) G.T.bmain hobj hints (Nat.le_trans hlen (by decide)) hr hF hb (fun H hHT hHT2 hS => hsp _ H a ns hlen hHT hHT2 hS) (fun _ _ _ h => h)
end Gs

set_option Elab.async false
set_option linter.all false
set_option maxRecDepth 100000
set_option maxHeartbeats 4000000
namespace K6
open PySem PySem.Spec PyProof.Rows L2 Gs
section
variable {K : PySem.W.Frag} {w : World}
theorem isFn_of {f : Addr} (h : PySem.W.typeIn K (.ref f) = some (.type "function")) : PySem.W.isFn K (.ref f) = true := by
  unfold PySem.W.isFn; rw [h]; rfl
theorem cls_by {S : Addr} {t : Value} {b : Bool} (h2 : PySem.W.isClsIn K S = true) (h3 : PySem.W.typeIn K (.ref S) = some (.type "type")) (h4 : PySem.W.subIn K t (.ref S) = some b) : PySem.W.kitCls K t (.ref S) = some b := by
  have h2' : (PySem.W.clsIn K S).isSome = true := h2
  show (if ((PySem.W.clsIn K S).isSome && PySem.W.typeIn K (.ref S) == some (.type "type")) = true then PySem.W.subIn K t (.ref S) else none) = some b
  rw [h2', h3]
  exact h4
theorem exm_by {C S : Addr} {b : Bool} (h1 : PySem.W.subIn K (.ref S) (.type "BaseException") = some true) (h2 : PySem.W.isClsIn K S = true) (h3 : PySem.W.typeIn K (.ref S) = some (.type "type")) (h4 : PySem.W.subIn K (.ref C) (.ref S) = some b) :
    PySem.W.exmOne K (.ref C) (.ref S) = some b := by
  have e1 : (PySem.W.subIn K (.ref S) (.type "BaseException") == some true) = true := by rw [h1] <;> rfl
  show (if (PySem.W.subIn K (.ref S) (.type "BaseException") == some true) = true then PySem.W.kitCls K (.ref C) (.ref S) else none) = some b
  rw [if_pos e1]
  exact cls_by h2 h3 h4
theorem kit_by {S : Addr} {t : String} {b : Bool} (h2 : PySem.W.isClsIn K S = true) (h3 : PySem.W.typeIn K (.ref S) = some (.type "type")) (h4 : PySem.W.subIn K (.type t) (.ref S) = some b) : PySem.W.kitOne K (.type t) (.ref S) = some b := by
  show (if ((Value.type t) == (Value.ref S)) = true then some true else PySem.W.kitCls K (.type t) (.ref S)) = some b
  rw [if_neg (by simp)]
  exact cls_by h2 h3 h4
theorem kn_of {S : Addr} (h2 : PySem.W.isClsIn K S = true) (h3 : PySem.W.typeIn K (.ref S) = some (.type "type")) (a1 : PySem.W.subIn K (.type "list") (.ref S) = some false) (a2 : PySem.W.subIn K (.type "str") (.ref S) = some false) (a3 : PySem.W.subIn K (.type "NoneType") (.ref S) = some false)
    (a4 : PySem.W.subIn K (.type "int") (.ref S) = some false) (a5 : PySem.W.subIn K (.type "bool") (.ref S) = some false) (a6 : PySem.W.subIn K (.type "tuple") (.ref S) = some false) (a7 : PySem.W.subIn K (.type "dict") (.ref S) = some false) :
    ∀ t ∈ (["list", "str", "NoneType", "int", "bool", "tuple", "dict"] : List String), PySem.W.kitOne K (.type t) (.ref S) = some false := fun t ht => by
  simp only [List.mem_cons, List.not_mem_nil, or_false] at ht
  rcases ht with rfl | rfl | rfl | rfl | rfl | rfl | rfl
  · exact kit_by h2 h3 a1
  · exact kit_by h2 h3 a2
  · exact kit_by h2 h3 a3
  · exact kit_by h2 h3 a4
  · exact kit_by h2 h3 a5
  · exact kit_by h2 h3 a6
  · exact kit_by h2 h3 a7
theorem nf_of {S : Addr} (a1 : PySem.W.notFirst K S (.type "list") = true) (a2 : PySem.W.notFirst K S (.type "str") = true) : ∀ t ∈ (["list", "str"] : List String), PySem.W.notFirst K S (.type t) = true := fun t ht => by
  simp only [List.mem_cons, List.not_mem_nil, or_false] at ht
  rcases ht with rfl | rfl
  · exact a1
  · exact a2
theorem wd_of {d r l u o : Addr} {es : Array DictEntry} {n : Nat} (h1 : K.lookup d = some ⟨.type "dict", none, .dict es n, #[]⟩) (h2 : PySem.W.KeysLit w.params es.toList) (h3 : (d == sysModules) = false) (h4 : es.size = 4)
    (a : ∃ en t, es[0]? = some en ∧ en.key = .str "right" t ∧ RelV (.ref r) en.val) (b : ∃ en t, es[1]? = some en ∧ en.key = .str "left" t ∧ RelV (.ref l) en.val) (c : ∃ en t, es[2]? = some en ∧ en.key = .str "up" t ∧ RelV (.ref u) en.val) (e : ∃ en t, es[3]? = some en ∧ en.key = .str "down" t ∧ RelV (.ref o) en.val) :
    WD K w d [("right", .ref r), ("left", .ref l), ("up", .ref u), ("down", .ref o)] :=
  ⟨⟨es, n, ⟨h1, h2, h3⟩, h4, fun i k v h => by
    match i, h with
    | 0, h => cases h; exact a
    | 1, h => cases h; exact b
    | 2, h => cases h; exact c
    | 3, h => cases h; exact e⟩⟩
theorem b5_of {tE a : Addr} {d : FuncData} (F : FunD K "__init__" "Kind.__init__" (defArgs s_Kind___init__) (defBody s_Kind___init__) (defScope s_Kind___init__) [.ref tE, .bl false] [] a d) : Binds K d ["self", "name", "leaps", "rides", "is_lord"] [] := by
  obtain ⟨ds, v, b⟩ : ∃ ds : List Value, Vals (([.ref tE, .bl false] : List V).drop 2) ds ∧ Binds K d ["self", "name", "leaps", "rides", "is_lord"] ds :=
    FunD.binds1 F 5 2 (by simp) rfl fun T kV doc pm an cdv ct us its l1 l2 => by
      match us, its, l1, l2 with
      | [x, n, l, r, q], [d1, d2], _, _ => exact ⟨_, rfl, rfl⟩
  cases v
  exact b
theorem b4_of {t1 t2 a : Addr} {d : FuncData} (F : FunD K "__init__" "Game.__init__" (defArgs s_Game___init__) (defBody s_Game___init__) (defScope s_Game___init__) [.ref t1, .ref t2] [] a d) : Binds K d ["self", "kinds", "edges", "goal"] [] := by
  obtain ⟨ds, v, b⟩ : ∃ ds : List Value, Vals (([.ref t1, .ref t2] : List V).drop 2) ds ∧ Binds K d ["self", "kinds", "edges", "goal"] ds :=
    FunD.binds1 F 4 2 (by simp) rfl fun T kV doc pm an cdv ct us its l1 l2 => by
      match us, its, l1, l2 with
      | [x, n, l, r], [d1, d2], _, _ => exact ⟨_, rfl, rfl⟩
  cases v
  exact b
def matB (K : PySem.W.Frag) (cs : List Addr) : Bool := cs.all fun a => cs.all fun b => decide (PySem.W.kitOne K (.ref b) (.ref a) = some (decide (a = b)))
def xcB (K : PySem.W.Frag) (D : Addr) : Bool := decide (PySem.W.findIn K (.ref D) "__getattribute__" = some (some (.builtin "BaseException.__getattribute__"))) && (decide (PySem.W.findIn K (.ref D) "__getattr__" = some none) && (decide (PySem.W.subIn K (.ref D) (.type "BaseException") = some true) && (PySem.W.hasDictIn K D &&
  (decide (PySem.W.findIn K (.ref D) "__class__" = some (some (.builtin "object.__class__"))) && (decide (PySem.W.specialIn K (.builtin "object.__class__") "__get__" = some (some (.builtin "getset_descriptor.__get__"))) && (decide (PySem.W.takesIn K (.builtin "object.__class__") = some true) && decide (PySem.W.mroIn K D (.type "object") = some true)))))))
theorem mat_ok {cs : List Addr} (hn : cs.Nodup) (h : matB K cs = true) : ∀ (i j : Nat) (a b : Addr), cs[i]? = some a → cs[j]? = some b → PySem.W.kitOne K (.ref b) (.ref a) = some (decide (i = j)) := fun i j a b ha hb => by
  have e := of_decide_eq_true (List.all_eq_true.mp (List.all_eq_true.mp h a (List.mem_of_getElem? ha)) b (List.mem_of_getElem? hb))
  rw [e]
  have : decide (a = b) = decide (i = j) := decide_eq_decide.mpr ⟨fun z => by
    subst z
    obtain ⟨h1, e1⟩ := List.getElem?_eq_some_iff.mp ha
    obtain ⟨h2, e2⟩ := List.getElem?_eq_some_iff.mp hb
    have hp := List.pairwise_iff_getElem.mp hn
    rcases Nat.lt_trichotomy i j with h | h | h
    · exact absurd (e1.trans e2.symm) (hp i j h1 h2 h)
    · exact h
    · exact absurd (e2.trans e1.symm) (hp j i h2 h1 h), fun z => by
    subst z
    rw [ha] at hb; exact Option.some.inj hb⟩
  rw [this]
theorem xc_ok {cs : List Addr} (h : cs.all (xcB K) = true) : ∀ a ∈ cs, ExcC K a := fun a ha => by
  have e := List.all_eq_true.mp h a ha
  obtain ⟨h1, e⟩ := Bool.and_eq_true_iff.mp e
  obtain ⟨h2, e⟩ := Bool.and_eq_true_iff.mp e
  obtain ⟨h3, e⟩ := Bool.and_eq_true_iff.mp e
  obtain ⟨h4, e⟩ := Bool.and_eq_true_iff.mp e
  obtain ⟨h5, e⟩ := Bool.and_eq_true_iff.mp e
  obtain ⟨h6, e⟩ := Bool.and_eq_true_iff.mp e
  obtain ⟨h7, h8⟩ := Bool.and_eq_true_iff.mp e
  exact ⟨of_decide_eq_true h1, of_decide_eq_true h2, of_decide_eq_true h3, h4, of_decide_eq_true h5, of_decide_eq_true h6, of_decide_eq_true h7, of_decide_eq_true h8⟩
end
theorem seq_list {its : Array Value} {n : Nat} : Data.seq its n = Data.seq its.toList.toArray n := by simp
theorem all_mk {l : PySem.W.OpenLaw} {w : World} {K : PySem.W.Frag} {h : Heap} {mg : Str → Option Value} {fa : Addr} (X : K.In h) (G : h.Ns mainGlobals mg) (hfa : mg "law" = some (.ref fa))
    {cAKind : Addr} {cAGame : Addr} {cAFieldError : Addr} {nmFieldError qFieldError : Str} {NFieldError : Addr} {bsFieldError bmFieldError : List Value} {snFieldError : List Str} {subFieldError : List Value} {abFieldError : Bool} {colFieldError : Option Bool} {ddFieldError : Option Addr} {m0FieldError m1FieldError m2FieldError m3FieldError m5FieldError : Option Value} {cABadNumber : Addr} {nmBadNumber qBadNumber : Str} {NBadNumber : Addr} {bsBadNumber bmBadNumber : List Value} {snBadNumber : List Str} {subBadNumber : List Value} {abBadNumber : Bool} {colBadNumber : Option Bool} {ddBadNumber : Option Addr} {m0BadNumber m1BadNumber m2BadNumber m3BadNumber m5BadNumber : Option Value} {cABadSquare : Addr} {nmBadSquare qBadSquare : Str} {NBadSquare : Addr} {bsBadSquare bmBadSquare : List Value} {snBadSquare : List Str} {subBadSquare : List Value} {abBadSquare : Bool} {colBadSquare : Option Bool} {ddBadSquare : Option Addr} {m0BadSquare m1BadSquare m2BadSquare m3BadSquare m5BadSquare : Option Value} {cABadKind : Addr} {nmBadKind qBadKind : Str} {NBadKind : Addr} {bsBadKind bmBadKind : List Value} {snBadKind : List Str} {subBadKind : List Value} {abBadKind : Bool} {colBadKind : Option Bool} {ddBadKind : Option Addr} {m0BadKind m1BadKind m2BadKind m3BadKind m5BadKind : Option Value} {cABadGame : Addr} {nmBadGame qBadGame : Str} {NBadGame : Addr} {bsBadGame bmBadGame : List Value} {snBadGame : List Str} {subBadGame : List Value} {abBadGame : Bool} {colBadGame : Option Bool} {ddBadGame : Option Addr} {m0BadGame m1BadGame m2BadGame m3BadGame m5BadGame : Option Value} {cAMisfit : Addr} {nmMisfit qMisfit : Str} {NMisfit : Addr} {bsMisfit bmMisfit : List Value} {snMisfit : List Str} {subMisfit : List Value} {abMisfit : Bool} {colMisfit : Option Bool} {ddMisfit : Option Addr} {m0Misfit m1Misfit m2Misfit m3Misfit m5Misfit : Option Value} {cABadPosition : Addr} {nmBadPosition qBadPosition : Str} {NBadPosition : Addr} {bsBadPosition bmBadPosition : List Value} {snBadPosition : List Str} {subBadPosition : List Value} {abBadPosition : Bool} {colBadPosition : Option Bool} {ddBadPosition : Option Addr} {m0BadPosition m1BadPosition m2BadPosition m3BadPosition m5BadPosition : Option Value} {cANoName : Addr} {nmNoName qNoName : Str} {NNoName : Addr} {bsNoName bmNoName : List Value} {snNoName : List Str} {subNoName : List Value} {abNoName : Bool} {colNoName : Option Bool} {ddNoName : Option Addr} {m0NoName m1NoName m2NoName m3NoName m5NoName : Option Value} {f0 : Addr} {od0 an0 : Option Addr} {sl0 : Array (Option Value)} {oc0 kV0 dc0 pm0 ct0 : Value} {cd0 : Value} {f1 : Addr} {od1 an1 : Option Addr} {sl1 : Array (Option Value)} {oc1 kV1 dc1 pm1 ct1 : Value} {cd1 : Value} {f2 : Addr} {od2 an2 : Option Addr} {sl2 : Array (Option Value)} {oc2 kV2 dc2 pm2 ct2 : Value} {cd2 : Value} {f3 : Addr} {od3 an3 : Option Addr} {sl3 : Array (Option Value)} {oc3 kV3 dc3 pm3 ct3 : Value} {cd3 : Value} {f4 : Addr} {od4 an4 : Option Addr} {sl4 : Array (Option Value)} {oc4 kV4 dc4 pm4 ct4 : Value} {cd4 : Value} {f5 : Addr} {od5 an5 : Option Addr} {sl5 : Array (Option Value)} {oc5 kV5 dc5 pm5 ct5 : Value} {cd5 : Value} {f6 : Addr} {od6 an6 : Option Addr} {sl6 : Array (Option Value)} {oc6 kV6 dc6 pm6 ct6 : Value} {cd6 : Value} {f7 : Addr} {od7 an7 : Option Addr} {sl7 : Array (Option Value)} {oc7 kV7 dc7 pm7 ct7 : Value} {cd7 : Value} {f8 : Addr} {od8 an8 : Option Addr} {sl8 : Array (Option Value)} {oc8 kV8 dc8 pm8 ct8 : Value} {cd8 : Value} {f9 : Addr} {od9 an9 : Option Addr} {sl9 : Array (Option Value)} {oc9 kV9 dc9 pm9 ct9 : Value} {cd9 : Value} {f10 : Addr} {od10 an10 : Option Addr} {sl10 : Array (Option Value)} {oc10 kV10 dc10 pm10 ct10 : Value} {cd10 : Value} {dT10 : Addr} {dO10 : Option Addr} {dI10 : Array Value} {dN10 : Nat} {dS10 : Array (Option Value)} {eT : Addr} {eO : Option Addr} {eI : Array Value} {eN : Nat} {eS : Array (Option Value)} {f11 : Addr} {od11 an11 : Option Addr} {sl11 : Array (Option Value)} {oc11 kV11 dc11 pm11 ct11 : Value} {cd11 : Value} {f12 : Addr} {od12 an12 : Option Addr} {sl12 : Array (Option Value)} {oc12 kV12 dc12 pm12 ct12 : Value} {cd12 : Value} {f13 : Addr} {od13 an13 : Option Addr} {sl13 : Array (Option Value)} {oc13 kV13 dc13 pm13 ct13 : Value} {cd13 : Value} {f14 : Addr} {od14 an14 : Option Addr} {sl14 : Array (Option Value)} {oc14 kV14 dc14 pm14 ct14 : Value} {cd14 : Value} {f15 : Addr} {od15 an15 : Option Addr} {sl15 : Array (Option Value)} {oc15 kV15 dc15 pm15 ct15 : Value} {cd15 : Value} {f16 : Addr} {od16 an16 : Option Addr} {sl16 : Array (Option Value)} {oc16 kV16 dc16 pm16 ct16 : Value} {ccG : Addr} {dT16 : Addr} {dO16 : Option Addr} {dI16 : Array Value} {dN16 : Nat} {dS16 : Array (Option Value)} {n4T h1T : Addr} {f17 : Addr} {od17 an17 : Option Addr} {sl17 : Array (Option Value)} {oc17 kV17 dc17 pm17 ct17 : Value} {cd17 : Value} {f18 : Addr} {od18 an18 : Option Addr} {sl18 : Array (Option Value)} {oc18 kV18 dc18 pm18 ct18 : Value} {cd18 : Value} {f19 : Addr} {od19 an19 : Option Addr} {sl19 : Array (Option Value)} {oc19 kV19 dc19 pm19 ct19 : Value} {cd19 : Value} {f20 : Addr} {od20 an20 : Option Addr} {sl20 : Array (Option Value)} {oc20 kV20 dc20 pm20 ct20 : Value} {cd20 : Value} {f21 : Addr} {od21 an21 : Option Addr} {sl21 : Array (Option Value)} {oc21 kV21 dc21 pm21 ct21 : Value} {cd21 : Value} {f22 : Addr} {od22 an22 : Option Addr} {sl22 : Array (Option Value)} {oc22 kV22 dc22 pm22 ct22 : Value} {cd22 : Value} {f23 : Addr} {od23 an23 : Option Addr} {sl23 : Array (Option Value)} {oc23 kV23 dc23 pm23 ct23 : Value} {cd23 : Value} {f24 : Addr} {od24 an24 : Option Addr} {sl24 : Array (Option Value)} {oc24 kV24 dc24 pm24 ct24 : Value} {cd24 : Value} {f25 : Addr} {od25 an25 : Option Addr} {sl25 : Array (Option Value)} {oc25 kV25 dc25 pm25 ct25 : Value} {cd25 : Value} {f26 : Addr} {od26 an26 : Option Addr} {sl26 : Array (Option Value)} {oc26 kV26 dc26 pm26 ct26 : Value} {cd26 : Value} {f27 : Addr} {od27 an27 : Option Addr} {sl27 : Array (Option Value)} {oc27 kV27 dc27 pm27 ct27 : Value} {cd27 : Value} {f28 : Addr} {od28 an28 : Option Addr} {sl28 : Array (Option Value)} {oc28 kV28 dc28 pm28 ct28 : Value} {cd28 : Value} {f29 : Addr} {od29 an29 : Option Addr} {sl29 : Array (Option Value)} {oc29 kV29 dc29 pm29 ct29 : Value} {cd29 : Value} {f30 : Addr} {od30 an30 : Option Addr} {sl30 : Array (Option Value)} {oc30 kV30 dc30 pm30 ct30 : Value} {cd30 : Value} {f31 : Addr} {od31 an31 : Option Addr} {sl31 : Array (Option Value)} {oc31 kV31 dc31 pm31 ct31 : Value} {cd31 : Value} {f32 : Addr} {od32 an32 : Option Addr} {sl32 : Array (Option Value)} {oc32 kV32 dc32 pm32 ct32 : Value} {cd32 : Value} {f33 : Addr} {od33 an33 : Option Addr} {sl33 : Array (Option Value)} {oc33 kV33 dc33 pm33 ct33 : Value} {cd33 : Value} {f34 : Addr} {od34 an34 : Option Addr} {sl34 : Array (Option Value)} {oc34 kV34 dc34 pm34 ct34 : Value} {cd34 : Value} {f35 : Addr} {od35 an35 : Option Addr} {sl35 : Array (Option Value)} {oc35 kV35 dc35 pm35 ct35 : Value} {cd35 : Value} {f36 : Addr} {od36 an36 : Option Addr} {sl36 : Array (Option Value)} {oc36 kV36 dc36 pm36 ct36 : Value} {cd36 : Value} {f37 : Addr} {od37 an37 : Option Addr} {sl37 : Array (Option Value)} {oc37 kV37 dc37 pm37 ct37 : Value} {cd37 : Value} {f38 : Addr} {od38 an38 : Option Addr} {sl38 : Array (Option Value)} {oc38 kV38 dc38 pm38 ct38 : Value} {ccL : Addr}  {oN4 : Option Addr} {iN4 : Array Value} {nN4 : Nat} {sN4 : Array (Option Value)} {oH1 : Option Addr} {iH1 : Array Value} {nH1 : Nat} {sH1 : Array (Option Value)}  {tL1 : Tok} {tN1 : Tok} {tP1 : Tok} {tK1 : Tok} {tM1 : Tok} {fB : Addr} {oB : Option Addr} {iB : Array Value} {nB : Nat} {sB : Array (Option Value)} {fSD : Addr} {oSD : Option Addr} {iSD : Array Value} {nSD : Nat} {sSD : Array (Option Value)} {fS tRr tLl tUu tDd : Addr} {esS : Array DictEntry} {nS : Nat} {oRr : Option Addr} {iRr : Array Value} {nRr : Nat} {sRr : Array (Option Value)} {oLl : Option Addr} {iLl : Array Value} {nLl : Nat} {sLl : Array (Option Value)} {oUu : Option Addr} {iUu : Array Value} {nUu : Nat} {sUu : Array (Option Value)} {oDd : Option Addr} {iDd : Array Value} {nDd : Nat} {sDd : Array (Option Value)} {Tb Tg : Addr}
    (aCKind : PySem.W.nsIn K mainGlobals "Kind" = some (some (.ref cAKind)))
    (pgKind : PySem.W.plainGet K cAKind Str.empty = true)
    (hdKind : PySem.W.hasDictIn K cAKind = true)
    (poKind : PySem.W.plainOver K cAKind = true)
    (saKind : PySem.W.findIn K (.ref cAKind) "__setattr__" = some (some (.builtin "object.__setattr__")))
    (mkKind : PySem.W.makesIn K cAKind = true)
    (kcKind : PySem.W.keepIn K (.ref cAKind) = true)
    (nFKind_name : PySem.W.findIn K (.ref cAKind) "name" = some none)
    (nFKind_leaps : PySem.W.findIn K (.ref cAKind) "leaps" = some none)
    (nFKind_rides : PySem.W.findIn K (.ref cAKind) "rides" = some none)
    (nFKind_is_lord : PySem.W.findIn K (.ref cAKind) "is_lord" = some none)
    (aCGame : PySem.W.nsIn K mainGlobals "Game" = some (some (.ref cAGame)))
    (pgGame : PySem.W.plainGet K cAGame Str.empty = true)
    (hdGame : PySem.W.hasDictIn K cAGame = true)
    (poGame : PySem.W.plainOver K cAGame = true)
    (saGame : PySem.W.findIn K (.ref cAGame) "__setattr__" = some (some (.builtin "object.__setattr__")))
    (mkGame : PySem.W.makesIn K cAGame = true)
    (kcGame : PySem.W.keepIn K (.ref cAGame) = true)
    (nFGame_kinds : PySem.W.findIn K (.ref cAGame) "kinds" = some none)
    (nFGame_edges : PySem.W.findIn K (.ref cAGame) "edges" = some none)
    (nFGame_goal : PySem.W.findIn K (.ref cAGame) "goal" = some none)
    (nFGame_table : PySem.W.findIn K (.ref cAGame) "table" = some none)
    (nFGame_farthest : PySem.W.findIn K (.ref cAGame) "farthest" = some none)
    (aCFieldError : PySem.W.nsIn K mainGlobals "FieldError" = some (some (.ref cAFieldError)))
    (xLFieldError : K.lookup cAFieldError = some (excClassObj nmFieldError qFieldError cAFieldError NFieldError bsFieldError bmFieldError true snFieldError subFieldError abFieldError colFieldError ddFieldError m0FieldError m1FieldError m2FieldError m3FieldError m5FieldError "ValueError.__new__"))
    (rfFieldError : PySem.HandSPX.refsVE bmFieldError = true)
    (saFieldError : PySem.W.findIn K (.ref cAFieldError) "__setattr__" = some (some (.builtin "object.__setattr__")))
    (eCFieldError : PySem.W.subIn K (.ref cAFieldError) (.type "BaseException") = some true)
    (tCFieldError : PySem.W.typeIn K (.ref cAFieldError) = some (.type "type"))
    (kcFieldError : PySem.W.keepIn K (.ref cAFieldError) = true)
    (hdFieldError : PySem.W.hasDictIn K cAFieldError = true)
    (iCFieldError : PySem.W.isClsIn K cAFieldError = true)
    (gaFieldError : PySem.W.findIn K (.ref cAFieldError) "__getattribute__" = some (some (.builtin "BaseException.__getattribute__")))
    (ggFieldError : PySem.W.findIn K (.ref cAFieldError) "__getattr__" = some none)
    (aCBadNumber : PySem.W.nsIn K mainGlobals "BadNumber" = some (some (.ref cABadNumber)))
    (xLBadNumber : K.lookup cABadNumber = some (excClassObj nmBadNumber qBadNumber cABadNumber NBadNumber bsBadNumber bmBadNumber true snBadNumber subBadNumber abBadNumber colBadNumber ddBadNumber m0BadNumber m1BadNumber m2BadNumber m3BadNumber m5BadNumber "ValueError.__new__"))
    (rfBadNumber : PySem.HandSPX.refsVE bmBadNumber = true)
    (saBadNumber : PySem.W.findIn K (.ref cABadNumber) "__setattr__" = some (some (.builtin "object.__setattr__")))
    (eCBadNumber : PySem.W.subIn K (.ref cABadNumber) (.type "BaseException") = some true)
    (tCBadNumber : PySem.W.typeIn K (.ref cABadNumber) = some (.type "type"))
    (kcBadNumber : PySem.W.keepIn K (.ref cABadNumber) = true)
    (hdBadNumber : PySem.W.hasDictIn K cABadNumber = true)
    (iCBadNumber : PySem.W.isClsIn K cABadNumber = true)
    (gaBadNumber : PySem.W.findIn K (.ref cABadNumber) "__getattribute__" = some (some (.builtin "BaseException.__getattribute__")))
    (ggBadNumber : PySem.W.findIn K (.ref cABadNumber) "__getattr__" = some none)
    (noBadNumber_part : PySem.W.findIn K (.ref cABadNumber) "part" = some none)
    (aCBadSquare : PySem.W.nsIn K mainGlobals "BadSquare" = some (some (.ref cABadSquare)))
    (xLBadSquare : K.lookup cABadSquare = some (excClassObj nmBadSquare qBadSquare cABadSquare NBadSquare bsBadSquare bmBadSquare true snBadSquare subBadSquare abBadSquare colBadSquare ddBadSquare m0BadSquare m1BadSquare m2BadSquare m3BadSquare m5BadSquare "ValueError.__new__"))
    (rfBadSquare : PySem.HandSPX.refsVE bmBadSquare = true)
    (saBadSquare : PySem.W.findIn K (.ref cABadSquare) "__setattr__" = some (some (.builtin "object.__setattr__")))
    (eCBadSquare : PySem.W.subIn K (.ref cABadSquare) (.type "BaseException") = some true)
    (tCBadSquare : PySem.W.typeIn K (.ref cABadSquare) = some (.type "type"))
    (kcBadSquare : PySem.W.keepIn K (.ref cABadSquare) = true)
    (hdBadSquare : PySem.W.hasDictIn K cABadSquare = true)
    (iCBadSquare : PySem.W.isClsIn K cABadSquare = true)
    (gaBadSquare : PySem.W.findIn K (.ref cABadSquare) "__getattribute__" = some (some (.builtin "BaseException.__getattribute__")))
    (ggBadSquare : PySem.W.findIn K (.ref cABadSquare) "__getattr__" = some none)
    (noBadSquare_part : PySem.W.findIn K (.ref cABadSquare) "part" = some none)
    (aCBadKind : PySem.W.nsIn K mainGlobals "BadKind" = some (some (.ref cABadKind)))
    (xLBadKind : K.lookup cABadKind = some (excClassObj nmBadKind qBadKind cABadKind NBadKind bsBadKind bmBadKind true snBadKind subBadKind abBadKind colBadKind ddBadKind m0BadKind m1BadKind m2BadKind m3BadKind m5BadKind "ValueError.__new__"))
    (rfBadKind : PySem.HandSPX.refsVE bmBadKind = true)
    (saBadKind : PySem.W.findIn K (.ref cABadKind) "__setattr__" = some (some (.builtin "object.__setattr__")))
    (eCBadKind : PySem.W.subIn K (.ref cABadKind) (.type "BaseException") = some true)
    (tCBadKind : PySem.W.typeIn K (.ref cABadKind) = some (.type "type"))
    (kcBadKind : PySem.W.keepIn K (.ref cABadKind) = true)
    (hdBadKind : PySem.W.hasDictIn K cABadKind = true)
    (iCBadKind : PySem.W.isClsIn K cABadKind = true)
    (gaBadKind : PySem.W.findIn K (.ref cABadKind) "__getattribute__" = some (some (.builtin "BaseException.__getattribute__")))
    (ggBadKind : PySem.W.findIn K (.ref cABadKind) "__getattr__" = some none)
    (noBadKind_part : PySem.W.findIn K (.ref cABadKind) "part" = some none)
    (aCBadGame : PySem.W.nsIn K mainGlobals "BadGame" = some (some (.ref cABadGame)))
    (xLBadGame : K.lookup cABadGame = some (excClassObj nmBadGame qBadGame cABadGame NBadGame bsBadGame bmBadGame true snBadGame subBadGame abBadGame colBadGame ddBadGame m0BadGame m1BadGame m2BadGame m3BadGame m5BadGame "ValueError.__new__"))
    (rfBadGame : PySem.HandSPX.refsVE bmBadGame = true)
    (saBadGame : PySem.W.findIn K (.ref cABadGame) "__setattr__" = some (some (.builtin "object.__setattr__")))
    (eCBadGame : PySem.W.subIn K (.ref cABadGame) (.type "BaseException") = some true)
    (tCBadGame : PySem.W.typeIn K (.ref cABadGame) = some (.type "type"))
    (kcBadGame : PySem.W.keepIn K (.ref cABadGame) = true)
    (hdBadGame : PySem.W.hasDictIn K cABadGame = true)
    (iCBadGame : PySem.W.isClsIn K cABadGame = true)
    (gaBadGame : PySem.W.findIn K (.ref cABadGame) "__getattribute__" = some (some (.builtin "BaseException.__getattribute__")))
    (ggBadGame : PySem.W.findIn K (.ref cABadGame) "__getattr__" = some none)
    (noBadGame_part : PySem.W.findIn K (.ref cABadGame) "part" = some none)
    (aCMisfit : PySem.W.nsIn K mainGlobals "Misfit" = some (some (.ref cAMisfit)))
    (xLMisfit : K.lookup cAMisfit = some (excClassObj nmMisfit qMisfit cAMisfit NMisfit bsMisfit bmMisfit true snMisfit subMisfit abMisfit colMisfit ddMisfit m0Misfit m1Misfit m2Misfit m3Misfit m5Misfit "ValueError.__new__"))
    (rfMisfit : PySem.HandSPX.refsVE bmMisfit = true)
    (saMisfit : PySem.W.findIn K (.ref cAMisfit) "__setattr__" = some (some (.builtin "object.__setattr__")))
    (eCMisfit : PySem.W.subIn K (.ref cAMisfit) (.type "BaseException") = some true)
    (tCMisfit : PySem.W.typeIn K (.ref cAMisfit) = some (.type "type"))
    (kcMisfit : PySem.W.keepIn K (.ref cAMisfit) = true)
    (hdMisfit : PySem.W.hasDictIn K cAMisfit = true)
    (iCMisfit : PySem.W.isClsIn K cAMisfit = true)
    (gaMisfit : PySem.W.findIn K (.ref cAMisfit) "__getattribute__" = some (some (.builtin "BaseException.__getattribute__")))
    (ggMisfit : PySem.W.findIn K (.ref cAMisfit) "__getattr__" = some none)
    (noMisfit_part : PySem.W.findIn K (.ref cAMisfit) "part" = some none)
    (aCBadPosition : PySem.W.nsIn K mainGlobals "BadPosition" = some (some (.ref cABadPosition)))
    (xLBadPosition : K.lookup cABadPosition = some (excClassObj nmBadPosition qBadPosition cABadPosition NBadPosition bsBadPosition bmBadPosition true snBadPosition subBadPosition abBadPosition colBadPosition ddBadPosition m0BadPosition m1BadPosition m2BadPosition m3BadPosition m5BadPosition "ValueError.__new__"))
    (rfBadPosition : PySem.HandSPX.refsVE bmBadPosition = true)
    (saBadPosition : PySem.W.findIn K (.ref cABadPosition) "__setattr__" = some (some (.builtin "object.__setattr__")))
    (eCBadPosition : PySem.W.subIn K (.ref cABadPosition) (.type "BaseException") = some true)
    (tCBadPosition : PySem.W.typeIn K (.ref cABadPosition) = some (.type "type"))
    (kcBadPosition : PySem.W.keepIn K (.ref cABadPosition) = true)
    (hdBadPosition : PySem.W.hasDictIn K cABadPosition = true)
    (iCBadPosition : PySem.W.isClsIn K cABadPosition = true)
    (gaBadPosition : PySem.W.findIn K (.ref cABadPosition) "__getattribute__" = some (some (.builtin "BaseException.__getattribute__")))
    (ggBadPosition : PySem.W.findIn K (.ref cABadPosition) "__getattr__" = some none)
    (aCNoName : PySem.W.nsIn K mainGlobals "NoName" = some (some (.ref cANoName)))
    (xLNoName : K.lookup cANoName = some (excClassObj nmNoName qNoName cANoName NNoName bsNoName bmNoName true snNoName subNoName abNoName colNoName ddNoName m0NoName m1NoName m2NoName m3NoName m5NoName "ValueError.__new__"))
    (rfNoName : PySem.HandSPX.refsVE bmNoName = true)
    (saNoName : PySem.W.findIn K (.ref cANoName) "__setattr__" = some (some (.builtin "object.__setattr__")))
    (eCNoName : PySem.W.subIn K (.ref cANoName) (.type "BaseException") = some true)
    (tCNoName : PySem.W.typeIn K (.ref cANoName) = some (.type "type"))
    (kcNoName : PySem.W.keepIn K (.ref cANoName) = true)
    (hdNoName : PySem.W.hasDictIn K cANoName = true)
    (iCNoName : PySem.W.isClsIn K cANoName = true)
    (gaNoName : PySem.W.findIn K (.ref cANoName) "__getattribute__" = some (some (.builtin "BaseException.__getattribute__")))
    (ggNoName : PySem.W.findIn K (.ref cANoName) "__getattr__" = some none)
    (xmBadGame_FieldError : PySem.W.subIn K (.ref cABadGame) (.ref cAFieldError) = some true)
    (xmBadSquare_FieldError : PySem.W.subIn K (.ref cABadSquare) (.ref cAFieldError) = some true)
    (xmBadNumber_FieldError : PySem.W.subIn K (.ref cABadNumber) (.ref cAFieldError) = some true)
    (a0 : PySem.W.nsIn K mainGlobals "is_integer" = some (some (.ref f0)))
    (l0 : K.lookup f0 = some ⟨oc0, od0, .func (PySem.W.fnOf "is_integer" "is_integer" (defArgs s_is_integer) (defBody s_is_integer) (defScope s_is_integer) .none kV0 dc0 pm0 an0 cd0 ct0), sl0⟩)
    (c0 : PySem.W.codeIn K cd0 "is_integer" = true)
    (k0 : PySem.W.keepIn K (.ref f0) = true)
    (a1 : PySem.W.nsIn K mainGlobals "is_within" = some (some (.ref f1)))
    (l1 : K.lookup f1 = some ⟨oc1, od1, .func (PySem.W.fnOf "is_within" "is_within" (defArgs s_is_within) (defBody s_is_within) (defScope s_is_within) .none kV1 dc1 pm1 an1 cd1 ct1), sl1⟩)
    (c1 : PySem.W.codeIn K cd1 "is_within" = true)
    (k1 : PySem.W.keepIn K (.ref f1) = true)
    (a2 : PySem.W.nsIn K mainGlobals "is_list" = some (some (.ref f2)))
    (l2 : K.lookup f2 = some ⟨oc2, od2, .func (PySem.W.fnOf "is_list" "is_list" (defArgs s_is_list) (defBody s_is_list) (defScope s_is_list) .none kV2 dc2 pm2 an2 cd2 ct2), sl2⟩)
    (c2 : PySem.W.codeIn K cd2 "is_list" = true)
    (k2 : PySem.W.keepIn K (.ref f2) = true)
    (a3 : PySem.W.nsIn K mainGlobals "is_square" = some (some (.ref f3)))
    (l3 : K.lookup f3 = some ⟨oc3, od3, .func (PySem.W.fnOf "is_square" "is_square" (defArgs s_is_square) (defBody s_is_square) (defScope s_is_square) .none kV3 dc3 pm3 an3 cd3 ct3), sl3⟩)
    (c3 : PySem.W.codeIn K cd3 "is_square" = true)
    (k3 : PySem.W.keepIn K (.ref f3) = true)
    (a4 : PySem.W.nsIn K mainGlobals "is_name" = some (some (.ref f4)))
    (l4 : K.lookup f4 = some ⟨oc4, od4, .func (PySem.W.fnOf "is_name" "is_name" (defArgs s_is_name) (defBody s_is_name) (defScope s_is_name) .none kV4 dc4 pm4 an4 cd4 ct4), sl4⟩)
    (c4 : PySem.W.codeIn K cd4 "is_name" = true)
    (k4 : PySem.W.keepIn K (.ref f4) = true)
    (a5 : PySem.W.findIn K (.ref cABadNumber) "__init__" = some (some (.ref f5)))
    (t5 : PySem.W.typeIn K (.ref f5) = some (.type "function"))
    (l5 : K.lookup f5 = some ⟨oc5, od5, .func (PySem.W.fnOf "__init__" "BadNumber.__init__" (defArgs s_BadNumber___init__) (defBody s_BadNumber___init__) (defScope s_BadNumber___init__) .none kV5 dc5 pm5 an5 cd5 ct5), sl5⟩)
    (c5 : PySem.W.codeIn K cd5 "BadNumber.__init__" = true)
    (k5 : PySem.W.keepIn K (.ref f5) = true)
    (a6 : PySem.W.findIn K (.ref cABadSquare) "__init__" = some (some (.ref f6)))
    (t6 : PySem.W.typeIn K (.ref f6) = some (.type "function"))
    (l6 : K.lookup f6 = some ⟨oc6, od6, .func (PySem.W.fnOf "__init__" "BadSquare.__init__" (defArgs s_BadSquare___init__) (defBody s_BadSquare___init__) (defScope s_BadSquare___init__) .none kV6 dc6 pm6 an6 cd6 ct6), sl6⟩)
    (c6 : PySem.W.codeIn K cd6 "BadSquare.__init__" = true)
    (k6 : PySem.W.keepIn K (.ref f6) = true)
    (a7 : PySem.W.findIn K (.ref cABadKind) "__init__" = some (some (.ref f7)))
    (t7 : PySem.W.typeIn K (.ref f7) = some (.type "function"))
    (l7 : K.lookup f7 = some ⟨oc7, od7, .func (PySem.W.fnOf "__init__" "BadKind.__init__" (defArgs s_BadKind___init__) (defBody s_BadKind___init__) (defScope s_BadKind___init__) .none kV7 dc7 pm7 an7 cd7 ct7), sl7⟩)
    (c7 : PySem.W.codeIn K cd7 "BadKind.__init__" = true)
    (k7 : PySem.W.keepIn K (.ref f7) = true)
    (a8 : PySem.W.findIn K (.ref cABadGame) "__init__" = some (some (.ref f8)))
    (t8 : PySem.W.typeIn K (.ref f8) = some (.type "function"))
    (l8 : K.lookup f8 = some ⟨oc8, od8, .func (PySem.W.fnOf "__init__" "BadGame.__init__" (defArgs s_BadGame___init__) (defBody s_BadGame___init__) (defScope s_BadGame___init__) .none kV8 dc8 pm8 an8 cd8 ct8), sl8⟩)
    (c8 : PySem.W.codeIn K cd8 "BadGame.__init__" = true)
    (k8 : PySem.W.keepIn K (.ref f8) = true)
    (a9 : PySem.W.findIn K (.ref cAMisfit) "__init__" = some (some (.ref f9)))
    (t9 : PySem.W.typeIn K (.ref f9) = some (.type "function"))
    (l9 : K.lookup f9 = some ⟨oc9, od9, .func (PySem.W.fnOf "__init__" "Misfit.__init__" (defArgs s_Misfit___init__) (defBody s_Misfit___init__) (defScope s_Misfit___init__) .none kV9 dc9 pm9 an9 cd9 ct9), sl9⟩)
    (c9 : PySem.W.codeIn K cd9 "Misfit.__init__" = true)
    (k9 : PySem.W.keepIn K (.ref f9) = true)
    (a10 : PySem.W.findIn K (.ref cAKind) "__init__" = some (some (.ref f10)))
    (t10 : PySem.W.typeIn K (.ref f10) = some (.type "function"))
    (l10 : K.lookup f10 = some ⟨oc10, od10, .func (PySem.W.fnOf "__init__" "Kind.__init__" (defArgs s_Kind___init__) (defBody s_Kind___init__) (defScope s_Kind___init__) (.ref dT10) kV10 dc10 pm10 an10 cd10 ct10), sl10⟩)
    (c10 : PySem.W.codeIn K cd10 "Kind.__init__" = true)
    (k10 : PySem.W.keepIn K (.ref f10) = true)
    (dl10 : K.lookup dT10 = some ⟨.type "tuple", dO10, .seq dI10 dN10, dS10⟩)
    (vE : Vals [.ref eT, .bl false] dI10.toList)
    (lE : K.lookup eT = some ⟨.type "tuple", eO, .seq eI eN, eS⟩)
    (zE : eI.size ≤ sizeLine)
    (uE : Vals [] eI.toList)
    (a11 : PySem.W.nsIn K mainGlobals "are_leaps" = some (some (.ref f11)))
    (l11 : K.lookup f11 = some ⟨oc11, od11, .func (PySem.W.fnOf "are_leaps" "are_leaps" (defArgs s_are_leaps) (defBody s_are_leaps) (defScope s_are_leaps) .none kV11 dc11 pm11 an11 cd11 ct11), sl11⟩)
    (c11 : PySem.W.codeIn K cd11 "are_leaps" = true)
    (k11 : PySem.W.keepIn K (.ref f11) = true)
    (a12 : PySem.W.nsIn K mainGlobals "is_leap" = some (some (.ref f12)))
    (l12 : K.lookup f12 = some ⟨oc12, od12, .func (PySem.W.fnOf "is_leap" "is_leap" (defArgs s_is_leap) (defBody s_is_leap) (defScope s_is_leap) .none kV12 dc12 pm12 an12 cd12 ct12), sl12⟩)
    (c12 : PySem.W.codeIn K cd12 "is_leap" = true)
    (k12 : PySem.W.keepIn K (.ref f12) = true)
    (a13 : PySem.W.nsIn K mainGlobals "is_leap_part" = some (some (.ref f13)))
    (l13 : K.lookup f13 = some ⟨oc13, od13, .func (PySem.W.fnOf "is_leap_part" "is_leap_part" (defArgs s_is_leap_part) (defBody s_is_leap_part) (defScope s_is_leap_part) .none kV13 dc13 pm13 an13 cd13 ct13), sl13⟩)
    (c13 : PySem.W.codeIn K cd13 "is_leap_part" = true)
    (k13 : PySem.W.keepIn K (.ref f13) = true)
    (a14 : PySem.W.nsIn K mainGlobals "are_rides" = some (some (.ref f14)))
    (l14 : K.lookup f14 = some ⟨oc14, od14, .func (PySem.W.fnOf "are_rides" "are_rides" (defArgs s_are_rides) (defBody s_are_rides) (defScope s_are_rides) .none kV14 dc14 pm14 an14 cd14 ct14), sl14⟩)
    (c14 : PySem.W.codeIn K cd14 "are_rides" = true)
    (k14 : PySem.W.keepIn K (.ref f14) = true)
    (a15 : PySem.W.nsIn K mainGlobals "is_ride" = some (some (.ref f15)))
    (l15 : K.lookup f15 = some ⟨oc15, od15, .func (PySem.W.fnOf "is_ride" "is_ride" (defArgs s_is_ride) (defBody s_is_ride) (defScope s_is_ride) .none kV15 dc15 pm15 an15 cd15 ct15), sl15⟩)
    (c15 : PySem.W.codeIn K cd15 "is_ride" = true)
    (k15 : PySem.W.keepIn K (.ref f15) = true)
    (a16 : PySem.W.findIn K (.ref cAGame) "__init__" = some (some (.ref f16)))
    (t16 : PySem.W.typeIn K (.ref f16) = some (.type "function"))
    (l16 : K.lookup f16 = some ⟨oc16, od16, .func (PySem.W.fnOf "__init__" "Game.__init__" (defArgs s_Game___init__) (defBody s_Game___init__) (defScope s_Game___init__) (.ref dT16) kV16 dc16 pm16 an16 (.ref ccG) ct16), sl16⟩)
    (c16 : PySem.W.codeIn K (.ref ccG) "Game.__init__" = true)
    (k16 : PySem.W.keepIn K (.ref f16) = true)
    (dl16 : K.lookup dT16 = some ⟨.type "tuple", dO16, .seq dI16 dN16, dS16⟩)
    (vG : Vals [.ref n4T, .ref h1T] dI16.toList)
    (a17 : PySem.W.nsIn K mainGlobals "on_field" = some (some (.ref f17)))
    (l17 : K.lookup f17 = some ⟨oc17, od17, .func (PySem.W.fnOf "on_field" "on_field" (defArgs s_on_field) (defBody s_on_field) (defScope s_on_field) .none kV17 dc17 pm17 an17 cd17 ct17), sl17⟩)
    (c17 : PySem.W.codeIn K cd17 "on_field" = true)
    (k17 : PySem.W.keepIn K (.ref f17) = true)
    (a18 : PySem.W.nsIn K mainGlobals "longest" = some (some (.ref f18)))
    (l18 : K.lookup f18 = some ⟨oc18, od18, .func (PySem.W.fnOf "longest" "longest" (defArgs s_longest) (defBody s_longest) (defScope s_longest) .none kV18 dc18 pm18 an18 cd18 ct18), sl18⟩)
    (c18 : PySem.W.codeIn K cd18 "longest" = true)
    (k18 : PySem.W.keepIn K (.ref f18) = true)
    (a19 : PySem.W.nsIn K mainGlobals "bound" = some (some (.ref f19)))
    (l19 : K.lookup f19 = some ⟨oc19, od19, .func (PySem.W.fnOf "bound" "bound" (defArgs s_bound) (defBody s_bound) (defScope s_bound) .none kV19 dc19 pm19 an19 cd19 ct19), sl19⟩)
    (c19 : PySem.W.codeIn K cd19 "bound" = true)
    (k19 : PySem.W.keepIn K (.ref f19) = true)
    (a20 : PySem.W.nsIn K mainGlobals "need_game" = some (some (.ref f20)))
    (l20 : K.lookup f20 = some ⟨oc20, od20, .func (PySem.W.fnOf "need_game" "need_game" (defArgs s_need_game) (defBody s_need_game) (defScope s_need_game) .none kV20 dc20 pm20 an20 cd20 ct20), sl20⟩)
    (c20 : PySem.W.codeIn K cd20 "need_game" = true)
    (k20 : PySem.W.keepIn K (.ref f20) = true)
    (a21 : PySem.W.nsIn K mainGlobals "are_kinds" = some (some (.ref f21)))
    (l21 : K.lookup f21 = some ⟨oc21, od21, .func (PySem.W.fnOf "are_kinds" "are_kinds" (defArgs s_are_kinds) (defBody s_are_kinds) (defScope s_are_kinds) .none kV21 dc21 pm21 an21 cd21 ct21), sl21⟩)
    (c21 : PySem.W.codeIn K cd21 "are_kinds" = true)
    (k21 : PySem.W.keepIn K (.ref f21) = true)
    (a22 : PySem.W.nsIn K mainGlobals "are_edges" = some (some (.ref f22)))
    (l22 : K.lookup f22 = some ⟨oc22, od22, .func (PySem.W.fnOf "are_edges" "are_edges" (defArgs s_are_edges) (defBody s_are_edges) (defScope s_are_edges) .none kV22 dc22 pm22 an22 cd22 ct22), sl22⟩)
    (c22 : PySem.W.codeIn K cd22 "are_edges" = true)
    (k22 : PySem.W.keepIn K (.ref f22) = true)
    (a23 : PySem.W.nsIn K mainGlobals "is_not_above" = some (some (.ref f23)))
    (l23 : K.lookup f23 = some ⟨oc23, od23, .func (PySem.W.fnOf "is_not_above" "is_not_above" (defArgs s_is_not_above) (defBody s_is_not_above) (defScope s_is_not_above) .none kV23 dc23 pm23 an23 cd23 ct23), sl23⟩)
    (c23 : PySem.W.codeIn K cd23 "is_not_above" = true)
    (k23 : PySem.W.keepIn K (.ref f23) = true)
    (a24 : PySem.W.nsIn K mainGlobals "is_goal" = some (some (.ref f24)))
    (l24 : K.lookup f24 = some ⟨oc24, od24, .func (PySem.W.fnOf "is_goal" "is_goal" (defArgs s_is_goal) (defBody s_is_goal) (defScope s_is_goal) .none kV24 dc24 pm24 an24 cd24 ct24), sl24⟩)
    (c24 : PySem.W.codeIn K cd24 "is_goal" = true)
    (k24 : PySem.W.keepIn K (.ref f24) = true)
    (a25 : PySem.W.nsIn K mainGlobals "is_between" = some (some (.ref f25)))
    (l25 : K.lookup f25 = some ⟨oc25, od25, .func (PySem.W.fnOf "is_between" "is_between" (defArgs s_is_between) (defBody s_is_between) (defScope s_is_between) .none kV25 dc25 pm25 an25 cd25 ct25), sl25⟩)
    (c25 : PySem.W.codeIn K cd25 "is_between" = true)
    (k25 : PySem.W.keepIn K (.ref f25) = true)
    (a26 : PySem.W.nsIn K mainGlobals "_law_flask" = some (some (.ref f26)))
    (l26 : K.lookup f26 = some ⟨oc26, od26, .func (PySem.W.fnOf "_law_flask" "_law_flask" (defArgs s__law_flask) (defBody s__law_flask) (defScope s__law_flask) .none kV26 dc26 pm26 an26 cd26 ct26), sl26⟩)
    (c26 : PySem.W.codeIn K cd26 "_law_flask" = true)
    (k26 : PySem.W.keepIn K (.ref f26) = true)
    (a27 : PySem.W.nsIn K mainGlobals "_law_pour" = some (some (.ref f27)))
    (l27 : K.lookup f27 = some ⟨oc27, od27, .func (PySem.W.fnOf "_law_pour" "_law_pour" (defArgs s__law_pour) (defBody s__law_pour) (defScope s__law_pour) .none kV27 dc27 pm27 an27 cd27 ct27), sl27⟩)
    (c27 : PySem.W.codeIn K cd27 "_law_pour" = true)
    (k27 : PySem.W.keepIn K (.ref f27) = true)
    (a28 : PySem.W.nsIn K mainGlobals "_law_sip" = some (some (.ref f28)))
    (l28 : K.lookup f28 = some ⟨oc28, od28, .func (PySem.W.fnOf "_law_sip" "_law_sip" (defArgs s__law_sip) (defBody s__law_sip) (defScope s__law_sip) .none kV28 dc28 pm28 an28 cd28 ct28), sl28⟩)
    (c28 : PySem.W.codeIn K cd28 "_law_sip" = true)
    (k28 : PySem.W.keepIn K (.ref f28) = true)
    (a29 : PySem.W.nsIn K mainGlobals "_law_name" = some (some (.ref f29)))
    (l29 : K.lookup f29 = some ⟨oc29, od29, .func (PySem.W.fnOf "_law_name" "_law_name" (defArgs s__law_name) (defBody s__law_name) (defScope s__law_name) .none kV29 dc29 pm29 an29 cd29 ct29), sl29⟩)
    (c29 : PySem.W.codeIn K cd29 "_law_name" = true)
    (k29 : PySem.W.keepIn K (.ref f29) = true)
    (a30 : PySem.W.nsIn K mainGlobals "_law_kind" = some (some (.ref f30)))
    (l30 : K.lookup f30 = some ⟨oc30, od30, .func (PySem.W.fnOf "_law_kind" "_law_kind" (defArgs s__law_kind) (defBody s__law_kind) (defScope s__law_kind) .none kV30 dc30 pm30 an30 cd30 ct30), sl30⟩)
    (c30 : PySem.W.codeIn K cd30 "_law_kind" = true)
    (k30 : PySem.W.keepIn K (.ref f30) = true)
    (a31 : PySem.W.nsIn K mainGlobals "_law_kinds" = some (some (.ref f31)))
    (l31 : K.lookup f31 = some ⟨oc31, od31, .func (PySem.W.fnOf "_law_kinds" "_law_kinds" (defArgs s__law_kinds) (defBody s__law_kinds) (defScope s__law_kinds) .none kV31 dc31 pm31 an31 cd31 ct31), sl31⟩)
    (c31 : PySem.W.codeIn K cd31 "_law_kinds" = true)
    (k31 : PySem.W.keepIn K (.ref f31) = true)
    (a32 : PySem.W.nsIn K mainGlobals "_law_made" = some (some (.ref f32)))
    (l32 : K.lookup f32 = some ⟨oc32, od32, .func (PySem.W.fnOf "_law_made" "_law_made" (defArgs s__law_made) (defBody s__law_made) (defScope s__law_made) .none kV32 dc32 pm32 an32 cd32 ct32), sl32⟩)
    (c32 : PySem.W.codeIn K cd32 "_law_made" = true)
    (k32 : PySem.W.keepIn K (.ref f32) = true)
    (a33 : PySem.W.nsIn K mainGlobals "_law_far" = some (some (.ref f33)))
    (l33 : K.lookup f33 = some ⟨oc33, od33, .func (PySem.W.fnOf "_law_far" "_law_far" (defArgs s__law_far) (defBody s__law_far) (defScope s__law_far) .none kV33 dc33 pm33 an33 cd33 ct33), sl33⟩)
    (c33 : PySem.W.codeIn K cd33 "_law_far" = true)
    (k33 : PySem.W.keepIn K (.ref f33) = true)
    (a34 : PySem.W.nsIn K mainGlobals "_law_edges" = some (some (.ref f34)))
    (l34 : K.lookup f34 = some ⟨oc34, od34, .func (PySem.W.fnOf "_law_edges" "_law_edges" (defArgs s__law_edges) (defBody s__law_edges) (defScope s__law_edges) .none kV34 dc34 pm34 an34 cd34 ct34), sl34⟩)
    (c34 : PySem.W.codeIn K cd34 "_law_edges" = true)
    (k34 : PySem.W.keepIn K (.ref f34) = true)
    (a35 : PySem.W.nsIn K mainGlobals "_law_goal" = some (some (.ref f35)))
    (l35 : K.lookup f35 = some ⟨oc35, od35, .func (PySem.W.fnOf "_law_goal" "_law_goal" (defArgs s__law_goal) (defBody s__law_goal) (defScope s__law_goal) .none kV35 dc35 pm35 an35 cd35 ct35), sl35⟩)
    (c35 : PySem.W.codeIn K cd35 "_law_goal" = true)
    (k35 : PySem.W.keepIn K (.ref f35) = true)
    (a36 : PySem.W.nsIn K mainGlobals "_law_heard" = some (some (.ref f36)))
    (l36 : K.lookup f36 = some ⟨oc36, od36, .func (PySem.W.fnOf "_law_heard" "_law_heard" (defArgs s__law_heard) (defBody s__law_heard) (defScope s__law_heard) .none kV36 dc36 pm36 an36 cd36 ct36), sl36⟩)
    (c36 : PySem.W.codeIn K cd36 "_law_heard" = true)
    (k36 : PySem.W.keepIn K (.ref f36) = true)
    (a37 : PySem.W.nsIn K mainGlobals "_law_near" = some (some (.ref f37)))
    (l37 : K.lookup f37 = some ⟨oc37, od37, .func (PySem.W.fnOf "_law_near" "_law_near" (defArgs s__law_near) (defBody s__law_near) (defScope s__law_near) .none kV37 dc37 pm37 an37 cd37 ct37), sl37⟩)
    (c37 : PySem.W.codeIn K cd37 "_law_near" = true)
    (k37 : PySem.W.keepIn K (.ref f37) = true)
    (a38 : PySem.W.nsIn K mainGlobals "law" = some (some (.ref f38)))
    (l38 : K.lookup f38 = some ⟨oc38, od38, .func (PySem.W.fnOf "law" "law" (defArgs s_law) (defBody s_law) (defScope s_law) .none kV38 dc38 pm38 an38 (.ref ccL) ct38), sl38⟩)
    (c38 : PySem.W.codeIn K (.ref ccL) "law" = true)
    (k38 : PySem.W.keepIn K (.ref f38) = true)
    (z0 : PySem.W.nsIn K mainGlobals "isinstance" = some none)
    (z1 : PySem.W.nsIn K mainGlobals "int" = some none)
    (z2 : PySem.W.nsIn K mainGlobals "bool" = some none)
    (z3 : PySem.W.nsIn K mainGlobals "list" = some none)
    (z4 : PySem.W.nsIn K mainGlobals "tuple" = some none)
    (z5 : PySem.W.nsIn K mainGlobals "len" = some none)
    (z6 : PySem.W.nsIn K mainGlobals "str" = some none)
    (z7 : PySem.W.nsIn K mainGlobals "all" = some none)
    (z8 : PySem.W.nsIn K mainGlobals "sorted" = some none)
    (z9 : PySem.W.nsIn K mainGlobals "set" = some none)
    (z10 : PySem.W.nsIn K mainGlobals "abs" = some none)
    (z11 : PySem.W.nsIn K mainGlobals "range" = some none)
    (z12 : PySem.W.nsIn K mainGlobals "repr" = some none)
    (z13 : PySem.W.nsIn K mainGlobals "max" = some none)
    (z14 : PySem.W.nsIn K mainGlobals "zip" = some none)
    (lN4 : K.lookup n4T = some ⟨.type "tuple", oN4, .seq iN4 nN4, sN4⟩)
    (zN4 : iN4.size ≤ sizeLine)
    (vN4 : Vals [.non, .non, .non, .non] iN4.toList)
    (lH1 : K.lookup h1T = some ⟨.type "tuple", oH1, .seq iH1 nH1, sH1⟩)
    (zH1 : iH1.size ≤ sizeLine)
    (vH1 : Vals [.str "hold"] iH1.toList)
    (hn1 : PySem.W.specialIn K (.builtin "object.__class__") "__get__" = some (some (.builtin "getset_descriptor.__get__")))
    (tk1 : PySem.W.takesIn K (.builtin "object.__class__") = some true)
    (haKind : PySem.W.findIn K (.ref cAKind) "__class__" = some (some (.builtin "object.__class__")))
    (moKind : PySem.W.mroIn K cAKind (.type "object") = some true)
    (tCKind : PySem.W.typeIn K (.ref cAKind) = some (.type "type"))
    (iCKind : PySem.W.isClsIn K cAKind = true)
    (haGame : PySem.W.findIn K (.ref cAGame) "__class__" = some (some (.builtin "object.__class__")))
    (moGame : PySem.W.mroIn K cAGame (.type "object") = some true)
    (tCGame : PySem.W.typeIn K (.ref cAGame) = some (.type "type"))
    (iCGame : PySem.W.isClsIn K cAGame = true)
    (kn_list : PySem.W.subIn K (.type "list") (.ref cAGame) = some false)
    (kn_str : PySem.W.subIn K (.type "str") (.ref cAGame) = some false)
    (kn_NoneType : PySem.W.subIn K (.type "NoneType") (.ref cAGame) = some false)
    (kn_int : PySem.W.subIn K (.type "int") (.ref cAGame) = some false)
    (kn_bool : PySem.W.subIn K (.type "bool") (.ref cAGame) = some false)
    (kn_tuple : PySem.W.subIn K (.type "tuple") (.ref cAGame) = some false)
    (kn_dict : PySem.W.subIn K (.type "dict") (.ref cAGame) = some false)
    (mN : ([cABadGame, cABadPosition, cABadSquare, cABadNumber, cAMisfit, cANoName] : List Addr).Nodup)
    (mM : matB K [cABadGame, cABadPosition, cABadSquare, cABadNumber, cAMisfit, cANoName] = true)
    (mX : ([cABadGame, cABadPosition, cABadSquare, cABadNumber, cAMisfit, cANoName] : List Addr).all (xcB K) = true)
    (gL : PySem.W.nsIn K mainGlobals "LETTERS" = some (some (.str "abcdefghijklmnopqrstuvwxyz" tL1)))
    (gN : PySem.W.nsIn K mainGlobals "LONGEST_NAME" = some (some (.int 8 tN1)))
    (gP : PySem.W.nsIn K mainGlobals "LONGEST_LEAP" = some (some (.int 3 tP1)))
    (gMK : PySem.W.nsIn K mainGlobals "MOST_KINDS" = some (some (.int 8 tK1)))
    (gMD : PySem.W.nsIn K mainGlobals "MOST_DOUBLINGS" = some (some (.int 12 tM1)))
    (gB : PySem.W.nsIn K mainGlobals "BARRED_NAMES" = some (some (.ref fB)))
    (lB : K.lookup fB = some ⟨.type "tuple", oB, .seq iB nB, sB⟩)
    (zB : iB.size ≤ sizeLine)
    (vB : Vals [.str "lord", .str "leaps", .str "rides", .str "stone"] iB.toList)
    (gSD : PySem.W.nsIn K mainGlobals "SIDES" = some (some (.ref fSD)))
    (lSD : K.lookup fSD = some ⟨.type "tuple", oSD, .seq iSD nSD, sSD⟩)
    (zSD : iSD.size ≤ sizeLine)
    (vSD : Vals [.str "left", .str "right", .str "low", .str "high"] iSD.toList)
    (gS : PySem.W.nsIn K mainGlobals "STEPS" = some (some (.ref fS)))
    (lS : K.lookup fS = some ⟨.type "dict", none, .dict esS nS, #[]⟩)
    (ktS : PySem.W.KeysLit w.params esS.toList)
    (loS : (fS == sysModules) = false)
    (zS : esS.size = 4)
    (eRS : ∃ en t, esS[0]? = some en ∧ en.key = .str "right" t ∧ RelV (.ref tRr) en.val)
    (eLS : ∃ en t, esS[1]? = some en ∧ en.key = .str "left" t ∧ RelV (.ref tLl) en.val)
    (eUS : ∃ en t, esS[2]? = some en ∧ en.key = .str "up" t ∧ RelV (.ref tUu) en.val)
    (eDS : ∃ en t, esS[3]? = some en ∧ en.key = .str "down" t ∧ RelV (.ref tDd) en.val)
    (lRr : K.lookup tRr = some ⟨.type "tuple", oRr, .seq iRr nRr, sRr⟩)
    (zRr : iRr.size ≤ sizeLine)
    (vRr : Vals [.int 1, .int 0] iRr.toList)
    (lLl : K.lookup tLl = some ⟨.type "tuple", oLl, .seq iLl nLl, sLl⟩)
    (zLl : iLl.size ≤ sizeLine)
    (vLl : Vals [.int (-1), .int 0] iLl.toList)
    (lUu : K.lookup tUu = some ⟨.type "tuple", oUu, .seq iUu nUu, sUu⟩)
    (zUu : iUu.size ≤ sizeLine)
    (vUu : Vals [.int 0, .int 1] iUu.toList)
    (lDd : K.lookup tDd = some ⟨.type "tuple", oDd, .seq iDd nDd, sDd⟩)
    (zDd : iDd.size ≤ sizeLine)
    (vDd : Vals [.int 0, .int (-1)] iDd.toList)
    (nT : K.lookup Tb = none)
    (hT : PySem.W.codeHdIn K ccL Tb = true)
    (nT2 : K.lookup Tg = none)
    (hT2 : PySem.W.codeHdIn K ccG Tg = true)
    (hneT : Tb ≠ Tg) :
    ∃ (fd : FuncData) (cc cc2 : Addr), (∀ (s : Shared) (v : Value), BindsTo s fd ⟨[v], []⟩ [("script", v)]) ∧ K.lookup Tb = none ∧ PySem.W.codeHdIn K cc Tb = true ∧ K.lookup Tg = none ∧ PySem.W.codeHdIn K cc2 Tg = true ∧
      ∀ base : Heap, K.In base → base.Ns mainGlobals mg → LamX.TabB base mg cc Tb → LamX.TabB base mg cc2 Tg → FnG l.prog w K mg base CX0 14 fa fd ["script"] (spLaw K Tb Tg) := by
  let T : Tx K mg w := {
      c_Kind := cAKind,
      m_Kind := PySem.W.mg_of X G aCKind,
      cl_Kind := ⟨pgKind, hdKind, poKind, saKind⟩,
      nF_Kind_name := nFKind_name,
      nF_Kind_leaps := nFKind_leaps,
      nF_Kind_rides := nFKind_rides,
      nF_Kind_is_lord := nFKind_is_lord,
      mk_Kind := ⟨mkKind, a10, isFn_of t10, kcKind⟩,
      c_Game := cAGame,
      m_Game := PySem.W.mg_of X G aCGame,
      cl_Game := ⟨pgGame, hdGame, poGame, saGame⟩,
      nF_Game_kinds := nFGame_kinds,
      nF_Game_edges := nFGame_edges,
      nF_Game_goal := nFGame_goal,
      nF_Game_table := nFGame_table,
      nF_Game_farthest := nFGame_farthest,
      mk_Game := ⟨mkGame, a16, isFn_of t16, kcGame⟩,
      c_FieldError := cAFieldError,
      m_FieldError := PySem.W.mg_of X G aCFieldError,
      ox_FieldError := ⟨⟨_, _, _, _, _, _, _, _, _, _, _, _, _, _, _, xLFieldError, rfFieldError⟩, saFieldError, eCFieldError, tCFieldError, kcFieldError⟩,
      xf_FieldError := ⟨gaFieldError, ggFieldError, eCFieldError, hdFieldError⟩,
      c_BadNumber := cABadNumber,
      m_BadNumber := PySem.W.mg_of X G aCBadNumber,
      ox_BadNumber := ⟨⟨_, _, _, _, _, _, _, _, _, _, _, _, _, _, _, xLBadNumber, rfBadNumber⟩, saBadNumber, eCBadNumber, tCBadNumber, kcBadNumber⟩,
      xf_BadNumber := ⟨gaBadNumber, ggBadNumber, eCBadNumber, hdBadNumber⟩,
      no_BadNumber_part := noBadNumber_part,
      ic_BadNumber := a5,
      ti_BadNumber := t5,
      c_BadSquare := cABadSquare,
      m_BadSquare := PySem.W.mg_of X G aCBadSquare,
      ox_BadSquare := ⟨⟨_, _, _, _, _, _, _, _, _, _, _, _, _, _, _, xLBadSquare, rfBadSquare⟩, saBadSquare, eCBadSquare, tCBadSquare, kcBadSquare⟩,
      xf_BadSquare := ⟨gaBadSquare, ggBadSquare, eCBadSquare, hdBadSquare⟩,
      no_BadSquare_part := noBadSquare_part,
      ic_BadSquare := a6,
      ti_BadSquare := t6,
      c_BadKind := cABadKind,
      m_BadKind := PySem.W.mg_of X G aCBadKind,
      ox_BadKind := ⟨⟨_, _, _, _, _, _, _, _, _, _, _, _, _, _, _, xLBadKind, rfBadKind⟩, saBadKind, eCBadKind, tCBadKind, kcBadKind⟩,
      xf_BadKind := ⟨gaBadKind, ggBadKind, eCBadKind, hdBadKind⟩,
      no_BadKind_part := noBadKind_part,
      ic_BadKind := a7,
      ti_BadKind := t7,
      c_BadGame := cABadGame,
      m_BadGame := PySem.W.mg_of X G aCBadGame,
      ox_BadGame := ⟨⟨_, _, _, _, _, _, _, _, _, _, _, _, _, _, _, xLBadGame, rfBadGame⟩, saBadGame, eCBadGame, tCBadGame, kcBadGame⟩,
      xf_BadGame := ⟨gaBadGame, ggBadGame, eCBadGame, hdBadGame⟩,
      no_BadGame_part := noBadGame_part,
      ic_BadGame := a8,
      ti_BadGame := t8,
      c_Misfit := cAMisfit,
      m_Misfit := PySem.W.mg_of X G aCMisfit,
      ox_Misfit := ⟨⟨_, _, _, _, _, _, _, _, _, _, _, _, _, _, _, xLMisfit, rfMisfit⟩, saMisfit, eCMisfit, tCMisfit, kcMisfit⟩,
      xf_Misfit := ⟨gaMisfit, ggMisfit, eCMisfit, hdMisfit⟩,
      no_Misfit_part := noMisfit_part,
      ic_Misfit := a9,
      ti_Misfit := t9,
      c_BadPosition := cABadPosition,
      m_BadPosition := PySem.W.mg_of X G aCBadPosition,
      ox_BadPosition := ⟨⟨_, _, _, _, _, _, _, _, _, _, _, _, _, _, _, xLBadPosition, rfBadPosition⟩, saBadPosition, eCBadPosition, tCBadPosition, kcBadPosition⟩,
      xf_BadPosition := ⟨gaBadPosition, ggBadPosition, eCBadPosition, hdBadPosition⟩,
      c_NoName := cANoName,
      m_NoName := PySem.W.mg_of X G aCNoName,
      ox_NoName := ⟨⟨_, _, _, _, _, _, _, _, _, _, _, _, _, _, _, xLNoName, rfNoName⟩, saNoName, eCNoName, tCNoName, kcNoName⟩,
      xf_NoName := ⟨gaNoName, ggNoName, eCNoName, hdNoName⟩,
      xm_BadGame_FieldError := exm_by eCFieldError iCFieldError tCFieldError xmBadGame_FieldError,
      xm_BadSquare_FieldError := exm_by eCFieldError iCFieldError tCFieldError xmBadSquare_FieldError,
      xm_BadNumber_FieldError := exm_by eCFieldError iCFieldError tCFieldError xmBadNumber_FieldError,
      a_is_integer := f0,
      d_is_integer := _,
      F_is_integer := fun_mk (st := s_is_integer) l0 c0 k0,
      m_is_integer := PySem.W.mg_of X G a0,
      b_is_integer := (fun_mk (st := s_is_integer) l0 c0 k0).binds (ps := ["value"]) fun _ _ _ _ _ _ us hl => match us, hl with | [_], _ => rfl,
      a_is_within := f1,
      d_is_within := _,
      F_is_within := fun_mk (st := s_is_within) l1 c1 k1,
      m_is_within := PySem.W.mg_of X G a1,
      b_is_within := (fun_mk (st := s_is_within) l1 c1 k1).binds (ps := ["value", "least", "most"]) fun _ _ _ _ _ _ us hl => match us, hl with | [_, _, _], _ => rfl,
      a_is_list := f2,
      d_is_list := _,
      F_is_list := fun_mk (st := s_is_list) l2 c2 k2,
      m_is_list := PySem.W.mg_of X G a2,
      b_is_list := (fun_mk (st := s_is_list) l2 c2 k2).binds (ps := ["value"]) fun _ _ _ _ _ _ us hl => match us, hl with | [_], _ => rfl,
      a_is_square := f3,
      d_is_square := _,
      F_is_square := fun_mk (st := s_is_square) l3 c3 k3,
      m_is_square := PySem.W.mg_of X G a3,
      b_is_square := (fun_mk (st := s_is_square) l3 c3 k3).binds (ps := ["value"]) fun _ _ _ _ _ _ us hl => match us, hl with | [_], _ => rfl,
      a_is_name := f4,
      d_is_name := _,
      F_is_name := fun_mk (st := s_is_name) l4 c4 k4,
      m_is_name := PySem.W.mg_of X G a4,
      b_is_name := (fun_mk (st := s_is_name) l4 c4 k4).binds (ps := ["value"]) fun _ _ _ _ _ _ us hl => match us, hl with | [_], _ => rfl,
      a_BadNumber___init__ := f5,
      d_BadNumber___init__ := _,
      F_BadNumber___init__ := fun_mk (st := s_BadNumber___init__) l5 c5 k5,
      b_BadNumber___init__ := (fun_mk (st := s_BadNumber___init__) l5 c5 k5).binds (ps := ["self", "part"]) fun _ _ _ _ _ _ us hl => match us, hl with | [_, _], _ => rfl,
      a_BadSquare___init__ := f6,
      d_BadSquare___init__ := _,
      F_BadSquare___init__ := fun_mk (st := s_BadSquare___init__) l6 c6 k6,
      b_BadSquare___init__ := (fun_mk (st := s_BadSquare___init__) l6 c6 k6).binds (ps := ["self", "part"]) fun _ _ _ _ _ _ us hl => match us, hl with | [_, _], _ => rfl,
      a_BadKind___init__ := f7,
      d_BadKind___init__ := _,
      F_BadKind___init__ := fun_mk (st := s_BadKind___init__) l7 c7 k7,
      b_BadKind___init__ := (fun_mk (st := s_BadKind___init__) l7 c7 k7).binds (ps := ["self", "part"]) fun _ _ _ _ _ _ us hl => match us, hl with | [_, _], _ => rfl,
      a_BadGame___init__ := f8,
      d_BadGame___init__ := _,
      F_BadGame___init__ := fun_mk (st := s_BadGame___init__) l8 c8 k8,
      b_BadGame___init__ := (fun_mk (st := s_BadGame___init__) l8 c8 k8).binds (ps := ["self", "part"]) fun _ _ _ _ _ _ us hl => match us, hl with | [_, _], _ => rfl,
      a_Misfit___init__ := f9,
      d_Misfit___init__ := _,
      F_Misfit___init__ := fun_mk (st := s_Misfit___init__) l9 c9 k9,
      b_Misfit___init__ := (fun_mk (st := s_Misfit___init__) l9 c9 k9).binds (ps := ["self", "part"]) fun _ _ _ _ _ _ us hl => match us, hl with | [_, _], _ => rfl,
      a_Kind___init__ := f10,
      d_Kind___init__ := _,
      F_Kind___init__ := ⟨⟨_, _, _, _, _, _, _, _, _, _, rfl, l10, c10, .inr ⟨fun z => (nomatch z), _, _, _, _, rfl, dl10, seq_list, vE⟩, .inl rfl⟩, k10⟩,
      a_are_leaps := f11,
      d_are_leaps := _,
      F_are_leaps := fun_mk (st := s_are_leaps) l11 c11 k11,
      m_are_leaps := PySem.W.mg_of X G a11,
      b_are_leaps := (fun_mk (st := s_are_leaps) l11 c11 k11).binds (ps := ["value"]) fun _ _ _ _ _ _ us hl => match us, hl with | [_], _ => rfl,
      a_is_leap := f12,
      d_is_leap := _,
      F_is_leap := fun_mk (st := s_is_leap) l12 c12 k12,
      m_is_leap := PySem.W.mg_of X G a12,
      b_is_leap := (fun_mk (st := s_is_leap) l12 c12 k12).binds (ps := ["value"]) fun _ _ _ _ _ _ us hl => match us, hl with | [_], _ => rfl,
      a_is_leap_part := f13,
      d_is_leap_part := _,
      F_is_leap_part := fun_mk (st := s_is_leap_part) l13 c13 k13,
      m_is_leap_part := PySem.W.mg_of X G a13,
      b_is_leap_part := (fun_mk (st := s_is_leap_part) l13 c13 k13).binds (ps := ["value"]) fun _ _ _ _ _ _ us hl => match us, hl with | [_], _ => rfl,
      a_are_rides := f14,
      d_are_rides := _,
      F_are_rides := fun_mk (st := s_are_rides) l14 c14 k14,
      m_are_rides := PySem.W.mg_of X G a14,
      b_are_rides := (fun_mk (st := s_are_rides) l14 c14 k14).binds (ps := ["value"]) fun _ _ _ _ _ _ us hl => match us, hl with | [_], _ => rfl,
      a_is_ride := f15,
      d_is_ride := _,
      F_is_ride := fun_mk (st := s_is_ride) l15 c15 k15,
      m_is_ride := PySem.W.mg_of X G a15,
      b_is_ride := (fun_mk (st := s_is_ride) l15 c15 k15).binds (ps := ["value"]) fun _ _ _ _ _ _ us hl => match us, hl with | [_], _ => rfl,
      a_Game___init__ := f16,
      d_Game___init__ := _,
      F_Game___init__ := ⟨⟨_, _, _, _, _, _, _, _, _, _, rfl, l16, c16, .inr ⟨fun z => (nomatch z), _, _, _, _, rfl, dl16, seq_list, vG⟩, .inl rfl⟩, k16⟩,
      a_on_field := f17,
      d_on_field := _,
      F_on_field := fun_mk (st := s_on_field) l17 c17 k17,
      m_on_field := PySem.W.mg_of X G a17,
      b_on_field := (fun_mk (st := s_on_field) l17 c17 k17).binds (ps := ["game", "square"]) fun _ _ _ _ _ _ us hl => match us, hl with | [_, _], _ => rfl,
      a_longest := f18,
      d_longest := _,
      F_longest := fun_mk (st := s_longest) l18 c18 k18,
      m_longest := PySem.W.mg_of X G a18,
      b_longest := (fun_mk (st := s_longest) l18 c18 k18).binds (ps := ["game"]) fun _ _ _ _ _ _ us hl => match us, hl with | [_], _ => rfl,
      a_bound := f19,
      d_bound := _,
      F_bound := fun_mk (st := s_bound) l19 c19 k19,
      m_bound := PySem.W.mg_of X G a19,
      b_bound := (fun_mk (st := s_bound) l19 c19 k19).binds (ps := ["game", "m"]) fun _ _ _ _ _ _ us hl => match us, hl with | [_, _], _ => rfl,
      a_need_game := f20,
      d_need_game := _,
      F_need_game := fun_mk (st := s_need_game) l20 c20 k20,
      m_need_game := PySem.W.mg_of X G a20,
      b_need_game := (fun_mk (st := s_need_game) l20 c20 k20).binds (ps := ["value"]) fun _ _ _ _ _ _ us hl => match us, hl with | [_], _ => rfl,
      a_are_kinds := f21,
      d_are_kinds := _,
      F_are_kinds := fun_mk (st := s_are_kinds) l21 c21 k21,
      m_are_kinds := PySem.W.mg_of X G a21,
      b_are_kinds := (fun_mk (st := s_are_kinds) l21 c21 k21).binds (ps := ["value"]) fun _ _ _ _ _ _ us hl => match us, hl with | [_], _ => rfl,
      a_are_edges := f22,
      d_are_edges := _,
      F_are_edges := fun_mk (st := s_are_edges) l22 c22 k22,
      m_are_edges := PySem.W.mg_of X G a22,
      b_are_edges := (fun_mk (st := s_are_edges) l22 c22 k22).binds (ps := ["value"]) fun _ _ _ _ _ _ us hl => match us, hl with | [_], _ => rfl,
      a_is_not_above := f23,
      d_is_not_above := _,
      F_is_not_above := fun_mk (st := s_is_not_above) l23 c23 k23,
      m_is_not_above := PySem.W.mg_of X G a23,
      b_is_not_above := (fun_mk (st := s_is_not_above) l23 c23 k23).binds (ps := ["least", "most"]) fun _ _ _ _ _ _ us hl => match us, hl with | [_, _], _ => rfl,
      a_is_goal := f24,
      d_is_goal := _,
      F_is_goal := fun_mk (st := s_is_goal) l24 c24 k24,
      m_is_goal := PySem.W.mg_of X G a24,
      b_is_goal := (fun_mk (st := s_is_goal) l24 c24 k24).binds (ps := ["kinds", "edges", "value"]) fun _ _ _ _ _ _ us hl => match us, hl with | [_, _, _], _ => rfl,
      a_is_between := f25,
      d_is_between := _,
      F_is_between := fun_mk (st := s_is_between) l25 c25 k25,
      m_is_between := PySem.W.mg_of X G a25,
      b_is_between := (fun_mk (st := s_is_between) l25 c25 k25).binds (ps := ["edges", "square"]) fun _ _ _ _ _ _ us hl => match us, hl with | [_, _], _ => rfl,
      a__law_flask := f26,
      d__law_flask := _,
      F__law_flask := fun_mk (st := s__law_flask) l26 c26 k26,
      m__law_flask := PySem.W.mg_of X G a26,
      b__law_flask := (fun_mk (st := s__law_flask) l26 c26 k26).binds (ps := ["script"]) fun _ _ _ _ _ _ us hl => match us, hl with | [_], _ => rfl,
      a__law_pour := f27,
      d__law_pour := _,
      F__law_pour := fun_mk (st := s__law_pour) l27 c27 k27,
      m__law_pour := PySem.W.mg_of X G a27,
      b__law_pour := (fun_mk (st := s__law_pour) l27 c27 k27).binds (ps := ["flask", "many"]) fun _ _ _ _ _ _ us hl => match us, hl with | [_, _], _ => rfl,
      a__law_sip := f28,
      d__law_sip := _,
      F__law_sip := fun_mk (st := s__law_sip) l28 c28 k28,
      m__law_sip := PySem.W.mg_of X G a28,
      b__law_sip := (fun_mk (st := s__law_sip) l28 c28 k28).binds (ps := ["flask", "some"]) fun _ _ _ _ _ _ us hl => match us, hl with | [_, _], _ => rfl,
      a__law_name := f29,
      d__law_name := _,
      F__law_name := fun_mk (st := s__law_name) l29 c29 k29,
      m__law_name := PySem.W.mg_of X G a29,
      b__law_name := (fun_mk (st := s__law_name) l29 c29 k29).binds (ps := ["flask", "taken"]) fun _ _ _ _ _ _ us hl => match us, hl with | [_, _], _ => rfl,
      a__law_kind := f30,
      d__law_kind := _,
      F__law_kind := fun_mk (st := s__law_kind) l30 c30 k30,
      m__law_kind := PySem.W.mg_of X G a30,
      b__law_kind := (fun_mk (st := s__law_kind) l30 c30 k30).binds (ps := ["flask", "taken", "is_lord"]) fun _ _ _ _ _ _ us hl => match us, hl with | [_, _, _], _ => rfl,
      a__law_kinds := f31,
      d__law_kinds := _,
      F__law_kinds := fun_mk (st := s__law_kinds) l31 c31 k31,
      m__law_kinds := PySem.W.mg_of X G a31,
      b__law_kinds := (fun_mk (st := s__law_kinds) l31 c31 k31).binds (ps := ["flask", "many"]) fun _ _ _ _ _ _ us hl => match us, hl with | [_, _], _ => rfl,
      a__law_made := f32,
      d__law_made := _,
      F__law_made := fun_mk (st := s__law_made) l32 c32 k32,
      m__law_made := PySem.W.mg_of X G a32,
      b__law_made := (fun_mk (st := s__law_made) l32 c32 k32).binds (ps := ["kinds"]) fun _ _ _ _ _ _ us hl => match us, hl with | [_], _ => rfl,
      a__law_far := f33,
      d__law_far := _,
      F__law_far := fun_mk (st := s__law_far) l33 c33 k33,
      m__law_far := PySem.W.mg_of X G a33,
      b__law_far := (fun_mk (st := s__law_far) l33 c33 k33).binds (ps := ["flask"]) fun _ _ _ _ _ _ us hl => match us, hl with | [_], _ => rfl,
      a__law_edges := f34,
      d__law_edges := _,
      F__law_edges := fun_mk (st := s__law_edges) l34 c34 k34,
      m__law_edges := PySem.W.mg_of X G a34,
      b__law_edges := (fun_mk (st := s__law_edges) l34 c34 k34).binds (ps := ["flask"]) fun _ _ _ _ _ _ us hl => match us, hl with | [_], _ => rfl,
      a__law_goal := f35,
      d__law_goal := _,
      F__law_goal := fun_mk (st := s__law_goal) l35 c35 k35,
      m__law_goal := PySem.W.mg_of X G a35,
      b__law_goal := (fun_mk (st := s__law_goal) l35 c35 k35).binds (ps := ["flask", "kinds", "edges"]) fun _ _ _ _ _ _ us hl => match us, hl with | [_, _, _], _ => rfl,
      a__law_heard := f36,
      d__law_heard := _,
      F__law_heard := fun_mk (st := s__law_heard) l36 c36 k36,
      m__law_heard := PySem.W.mg_of X G a36,
      b__law_heard := (fun_mk (st := s__law_heard) l36 c36 k36).binds (ps := ["ask"]) fun _ _ _ _ _ _ us hl => match us, hl with | [_], _ => rfl,
      a__law_near := f37,
      d__law_near := _,
      F__law_near := fun_mk (st := s__law_near) l37 c37 k37,
      m__law_near := PySem.W.mg_of X G a37,
      b__law_near := (fun_mk (st := s__law_near) l37 c37 k37).binds (ps := ["flask", "edges"]) fun _ _ _ _ _ _ us hl => match us, hl with | [_, _], _ => rfl,
      a_law := f38,
      d_law := _,
      F_law := fun_mk (st := s_law) l38 c38 k38,
      m_law := PySem.W.mg_of X G a38,
      b_law := (fun_mk (st := s_law) l38 c38 k38).binds (ps := ["script"]) fun _ _ _ _ _ _ us hl => match us, hl with | [_], _ => rfl,
      z_isinstance := PySem.W.mg_none_of X G z0,
      z_int := PySem.W.mg_none_of X G z1,
      z_bool := PySem.W.mg_none_of X G z2,
      z_list := PySem.W.mg_none_of X G z3,
      z_tuple := PySem.W.mg_none_of X G z4,
      z_len := PySem.W.mg_none_of X G z5,
      z_str := PySem.W.mg_none_of X G z6,
      z_all := PySem.W.mg_none_of X G z7,
      z_sorted := PySem.W.mg_none_of X G z8,
      z_set := PySem.W.mg_none_of X G z9,
      z_abs := PySem.W.mg_none_of X G z10,
      z_range := PySem.W.mg_none_of X G z11,
      z_repr := PySem.W.mg_none_of X G z12,
      z_max := PySem.W.mg_none_of X G z13,
      z_zip := PySem.W.mg_none_of X G z14,
      t_E := eT,
      s_E := fun _ => .inr ⟨_, eI, eN, lE, rfl, rfl, zE, uE⟩,
      b5_Kind := b5_of ⟨⟨_, _, _, _, _, _, _, _, _, _, rfl, l10, c10, .inr ⟨fun z => (nomatch z), _, _, _, _, rfl, dl10, seq_list, vE⟩, .inl rfl⟩, k10⟩,
      t_N4 := n4T,
      t_H1 := h1T,
      b4_Game := b4_of ⟨⟨_, _, _, _, _, _, _, _, _, _, rfl, l16, c16, .inr ⟨fun z => (nomatch z), _, _, _, _, rfl, dl16, seq_list, vG⟩, .inl rfl⟩, k16⟩,
      s_N4 := fun _ => .inr ⟨_, iN4, nN4, lN4, rfl, rfl, zN4, vN4⟩,
      s_H1 := fun _ => .inr ⟨_, iH1, nH1, lH1, rfl, rfl, zH1, vH1⟩,
      ty_Kind := ⟨⟨pgKind, hdKind, poKind, saKind⟩, haKind, hn1, tk1, moKind⟩,
      ty_Game := ⟨⟨pgGame, hdGame, poGame, saGame⟩, haGame, hn1, tk1, moGame⟩,
      kk_Kind := (by simp [PySem.W.kitOne]),
      kk_Game := (by simp [PySem.W.kitOne]),
      kn_Game := kn_of iCGame tCGame kn_list kn_str kn_NoneType kn_int kn_bool kn_tuple kn_dict,
      kk := mat_ok mN mM,
      xc := xc_ok mX,
      kb_on_field := ⟨fun s us ws _ h1 h2 => match us, ws, h1, h2 with | [], [_, _], _, _ => .of_eq rfl, fun {vs us zs ws} h1 h2 r1 r2 => match zs, ws, r2 with | [_, _], _, .cons a (.cons b .nil) => .cons b (.cons a .nil)⟩,
      kb_longest := ⟨fun s us ws _ h1 h2 => match us, ws, h1, h2 with | [], [_], _, _ => .of_eq rfl, fun _ _ _ r => r⟩,
      kb_bound := ⟨fun s us ws _ h1 h2 => match us, ws, h1, h2 with | [], [_, _], _, _ => .of_eq rfl, fun {vs us zs ws} h1 h2 r1 r2 => match zs, ws, r2 with | [_, _], _, .cons a (.cons b .nil) => .cons b (.cons a .nil)⟩,
      g_LETTERS := ⟨_, PySem.W.mg_of X G gL⟩,
      g_LONGEST := ⟨_, PySem.W.mg_of X G gN⟩,
      g_LEAP := ⟨_, PySem.W.mg_of X G gP⟩,
      g_MK := ⟨_, PySem.W.mg_of X G gMK⟩,
      g_MD := ⟨_, PySem.W.mg_of X G gMD⟩,
      t_B := fB,
      g_B := PySem.W.mg_of X G gB,
      s_B := fun _ => .inr ⟨_, iB, nB, lB, rfl, rfl, zB, vB⟩,
      t_SD := fSD,
      g_SD := PySem.W.mg_of X G gSD,
      s_SD := fun _ => .inr ⟨_, iSD, nSD, lSD, rfl, rfl, zSD, vSD⟩,
      t_S := fS,
      g_S := PySem.W.mg_of X G gS,
      w_S := wd_of lS ktS loS zS eRS eLS eUS eDS,
      t_R := tRr,
      t_L := tLl,
      t_U := tUu,
      t_D := tDd,
      s_R := fun _ => .inr ⟨_, iRr, nRr, lRr, rfl, rfl, zRr, vRr⟩,
      s_L := fun _ => .inr ⟨_, iLl, nLl, lLl, rfl, rfl, zLl, vLl⟩,
      s_U := fun _ => .inr ⟨_, iUu, nUu, lUu, rfl, rfl, zUu, vUu⟩,
      s_D := fun _ => .inr ⟨_, iDd, nDd, lDd, rfl, rfl, zDd, vDd⟩ }
  have e : T.a_law = fa := by
    have := T.m_law.symm.trans hfa
    exact Value.ref.inj (Option.some.inj this)
  refine ⟨T.d_law, ccL, ccG, fun s v => .of_eq rfl, nT, hT, nT2, hT2, fun base _ _ TB TG => ?_⟩
  rw [← e]
  exact G_law T TB rfl TG rfl hneT
end K6

open PySem PySem.W PyProof.Rows
set_option maxRecDepth 100000
set_option maxHeartbeats 0 in
theorem PySem.Challenge.cw_gapsame_k06_fields_and_bounds_holds : PySem.Challenge.rw_gapsame_k06_fields_and_bounds.Holds := by
  w_on; o_law; k_head; (case hw => w_witness2)
  k_fill
  refine Gs.walkGT2 (l := PySem.Challenge.rw_gapsame_k06_fields_and_bounds) (k := 14) (x := "script") (T := 677) (T2 := 462) (sp := fun K => K6.spLaw K 677 462) rfl rfl ⟨rfl, by decide, by decide⟩ (fun w h Y => PySem.W.km_in_of Y) (fun w h Y => PySem.W.km_tabs_of Y 677 (List.mem_cons_of_mem _ List.mem_cons_self)) (fun w h Y => PySem.W.km_tabs_of Y 462 List.mem_cons_self) ?F
    (fun K H a ns hl hT hT2 hS => ⟨a, ns, rfl, hS, hl, Gs.tabs_none2 hT hT2, fun _ => rfl⟩)
  case F =>
    intro w mg fa h KX G hmg
    refine' K6.all_mk (Tb := 677) (Tg := 462) KX G hmg ?aCKind ?pgKind ?hdKind ?poKind ?saKind ?mkKind ?kcKind ?nFKind_name ?nFKind_leaps ?nFKind_rides ?nFKind_is_lord ?aCGame ?pgGame ?hdGame ?poGame ?saGame ?mkGame ?kcGame ?nFGame_kinds ?nFGame_edges ?nFGame_goal ?nFGame_table ?nFGame_farthest ?aCFieldError ?xLFieldError ?rfFieldError ?saFieldError ?eCFieldError ?tCFieldError ?kcFieldError ?hdFieldError ?iCFieldError ?gaFieldError ?ggFieldError ?aCBadNumber ?xLBadNumber ?rfBadNumber ?saBadNumber ?eCBadNumber ?tCBadNumber ?kcBadNumber ?hdBadNumber ?iCBadNumber ?gaBadNumber ?ggBadNumber ?noBadNumber_part ?aCBadSquare ?xLBadSquare ?rfBadSquare ?saBadSquare ?eCBadSquare ?tCBadSquare ?kcBadSquare ?hdBadSquare ?iCBadSquare ?gaBadSquare ?ggBadSquare ?noBadSquare_part ?aCBadKind ?xLBadKind ?rfBadKind ?saBadKind ?eCBadKind ?tCBadKind ?kcBadKind ?hdBadKind ?iCBadKind ?gaBadKind ?ggBadKind ?noBadKind_part ?aCBadGame ?xLBadGame ?rfBadGame ?saBadGame ?eCBadGame ?tCBadGame ?kcBadGame ?hdBadGame ?iCBadGame ?gaBadGame ?ggBadGame ?noBadGame_part ?aCMisfit ?xLMisfit ?rfMisfit ?saMisfit ?eCMisfit ?tCMisfit ?kcMisfit ?hdMisfit ?iCMisfit ?gaMisfit ?ggMisfit ?noMisfit_part ?aCBadPosition ?xLBadPosition ?rfBadPosition ?saBadPosition ?eCBadPosition ?tCBadPosition ?kcBadPosition ?hdBadPosition ?iCBadPosition ?gaBadPosition ?ggBadPosition ?aCNoName ?xLNoName ?rfNoName ?saNoName ?eCNoName ?tCNoName ?kcNoName ?hdNoName ?iCNoName ?gaNoName ?ggNoName ?xmBadGame_FieldError ?xmBadSquare_FieldError ?xmBadNumber_FieldError ?a0 ?l0 ?c0 ?k0 ?a1 ?l1 ?c1 ?k1 ?a2 ?l2 ?c2 ?k2 ?a3 ?l3 ?c3 ?k3 ?a4 ?l4 ?c4 ?k4 ?a5 ?t5 ?l5 ?c5 ?k5 ?a6 ?t6 ?l6 ?c6 ?k6 ?a7 ?t7 ?l7 ?c7 ?k7 ?a8 ?t8 ?l8 ?c8 ?k8 ?a9 ?t9 ?l9 ?c9 ?k9 ?a10 ?t10 ?l10 ?c10 ?k10 ?dl10 ?vE ?lE ?zE ?uE ?a11 ?l11 ?c11 ?k11 ?a12 ?l12 ?c12 ?k12 ?a13 ?l13 ?c13 ?k13 ?a14 ?l14 ?c14 ?k14 ?a15 ?l15 ?c15 ?k15 ?a16 ?t16 ?l16 ?c16 ?k16 ?dl16 ?vG ?a17 ?l17 ?c17 ?k17 ?a18 ?l18 ?c18 ?k18 ?a19 ?l19 ?c19 ?k19 ?a20 ?l20 ?c20 ?k20 ?a21 ?l21 ?c21 ?k21 ?a22 ?l22 ?c22 ?k22 ?a23 ?l23 ?c23 ?k23 ?a24 ?l24 ?c24 ?k24 ?a25 ?l25 ?c25 ?k25 ?a26 ?l26 ?c26 ?k26 ?a27 ?l27 ?c27 ?k27 ?a28 ?l28 ?c28 ?k28 ?a29 ?l29 ?c29 ?k29 ?a30 ?l30 ?c30 ?k30 ?a31 ?l31 ?c31 ?k31 ?a32 ?l32 ?c32 ?k32 ?a33 ?l33 ?c33 ?k33 ?a34 ?l34 ?c34 ?k34 ?a35 ?l35 ?c35 ?k35 ?a36 ?l36 ?c36 ?k36 ?a37 ?l37 ?c37 ?k37 ?a38 ?l38 ?c38 ?k38 ?z0 ?z1 ?z2 ?z3 ?z4 ?z5 ?z6 ?z7 ?z8 ?z9 ?z10 ?z11 ?z12 ?z13 ?z14 ?lN4 ?zN4 ?vN4 ?lH1 ?zH1 ?vH1 ?hn1 ?tk1 ?haKind ?moKind ?tCKind ?iCKind ?haGame ?moGame ?tCGame ?iCGame ?kn_list ?kn_str ?kn_NoneType ?kn_int ?kn_bool ?kn_tuple ?kn_dict ?mN ?mM ?mX ?gL ?gN ?gP ?gMK ?gMD ?gB ?lB ?zB ?vB ?gSD ?lSD ?zSD ?vSD ?gS ?lS ?ktS ?loS ?zS ?eRS ?eLS ?eUS ?eDS ?lRr ?zRr ?vRr ?lLl ?zLl ?vLl ?lUu ?zUu ?vUu ?lDd ?zDd ?vDd ?nT ?hT ?nT2 ?hT2 ?hneT
    (case aCKind => k_is)
    (case pgKind => k_is)
    (case hdKind => k_is)
    (case poKind => k_is)
    (case saKind => k_is)
    (case mkKind => k_is)
    (case kcKind => k_is)
    (case nFKind_name => k_is)
    (case nFKind_leaps => k_is)
    (case nFKind_rides => k_is)
    (case nFKind_is_lord => k_is)
    (case aCGame => k_is)
    (case pgGame => k_is)
    (case hdGame => k_is)
    (case poGame => k_is)
    (case saGame => k_is)
    (case mkGame => k_is)
    (case kcGame => k_is)
    (case nFGame_kinds => k_is)
    (case nFGame_edges => k_is)
    (case nFGame_goal => k_is)
    (case nFGame_table => k_is)
    (case nFGame_farthest => k_is)
    (case aCFieldError => k_is)
    (case xLFieldError => k_is)
    (case rfFieldError => decide +kernel)
    (case saFieldError => k_is)
    (case eCFieldError => k_is)
    (case tCFieldError => k_is)
    (case kcFieldError => k_is)
    (case hdFieldError => k_is)
    (case iCFieldError => k_is)
    (case gaFieldError => k_is)
    (case ggFieldError => k_is)
    (case aCBadNumber => k_is)
    (case xLBadNumber => k_is)
    (case rfBadNumber => decide +kernel)
    (case saBadNumber => k_is)
    (case eCBadNumber => k_is)
    (case tCBadNumber => k_is)
    (case kcBadNumber => k_is)
    (case hdBadNumber => k_is)
    (case iCBadNumber => k_is)
    (case gaBadNumber => k_is)
    (case ggBadNumber => k_is)
    (case noBadNumber_part => k_is)
    (case aCBadSquare => k_is)
    (case xLBadSquare => k_is)
    (case rfBadSquare => decide +kernel)
    (case saBadSquare => k_is)
    (case eCBadSquare => k_is)
    (case tCBadSquare => k_is)
    (case kcBadSquare => k_is)
    (case hdBadSquare => k_is)
    (case iCBadSquare => k_is)
    (case gaBadSquare => k_is)
    (case ggBadSquare => k_is)
    (case noBadSquare_part => k_is)
    (case aCBadKind => k_is)
    (case xLBadKind => k_is)
    (case rfBadKind => decide +kernel)
    (case saBadKind => k_is)
    (case eCBadKind => k_is)
    (case tCBadKind => k_is)
    (case kcBadKind => k_is)
    (case hdBadKind => k_is)
    (case iCBadKind => k_is)
    (case gaBadKind => k_is)
    (case ggBadKind => k_is)
    (case noBadKind_part => k_is)
    (case aCBadGame => k_is)
    (case xLBadGame => k_is)
    (case rfBadGame => decide +kernel)
    (case saBadGame => k_is)
    (case eCBadGame => k_is)
    (case tCBadGame => k_is)
    (case kcBadGame => k_is)
    (case hdBadGame => k_is)
    (case iCBadGame => k_is)
    (case gaBadGame => k_is)
    (case ggBadGame => k_is)
    (case noBadGame_part => k_is)
    (case aCMisfit => k_is)
    (case xLMisfit => k_is)
    (case rfMisfit => decide +kernel)
    (case saMisfit => k_is)
    (case eCMisfit => k_is)
    (case tCMisfit => k_is)
    (case kcMisfit => k_is)
    (case hdMisfit => k_is)
    (case iCMisfit => k_is)
    (case gaMisfit => k_is)
    (case ggMisfit => k_is)
    (case noMisfit_part => k_is)
    (case aCBadPosition => k_is)
    (case xLBadPosition => k_is)
    (case rfBadPosition => decide +kernel)
    (case saBadPosition => k_is)
    (case eCBadPosition => k_is)
    (case tCBadPosition => k_is)
    (case kcBadPosition => k_is)
    (case hdBadPosition => k_is)
    (case iCBadPosition => k_is)
    (case gaBadPosition => k_is)
    (case ggBadPosition => k_is)
    (case aCNoName => k_is)
    (case xLNoName => k_is)
    (case rfNoName => decide +kernel)
    (case saNoName => k_is)
    (case eCNoName => k_is)
    (case tCNoName => k_is)
    (case kcNoName => k_is)
    (case hdNoName => k_is)
    (case iCNoName => k_is)
    (case gaNoName => k_is)
    (case ggNoName => k_is)
    (case xmBadGame_FieldError => k_is)
    (case xmBadSquare_FieldError => k_is)
    (case xmBadNumber_FieldError => k_is)
    (case a0 => k_is)
    (case l0 => k_is)
    (case c0 => k_is)
    (case k0 => k_is)
    (case a1 => k_is)
    (case l1 => k_is)
    (case c1 => k_is)
    (case k1 => k_is)
    (case a2 => k_is)
    (case l2 => k_is)
    (case c2 => k_is)
    (case k2 => k_is)
    (case a3 => k_is)
    (case l3 => k_is)
    (case c3 => k_is)
    (case k3 => k_is)
    (case a4 => k_is)
    (case l4 => k_is)
    (case c4 => k_is)
    (case k4 => k_is)
    (case a5 => k_is)
    (case t5 => k_is)
    (case l5 => k_is)
    (case c5 => k_is)
    (case k5 => k_is)
    (case a6 => k_is)
    (case t6 => k_is)
    (case l6 => k_is)
    (case c6 => k_is)
    (case k6 => k_is)
    (case a7 => k_is)
    (case t7 => k_is)
    (case l7 => k_is)
    (case c7 => k_is)
    (case k7 => k_is)
    (case a8 => k_is)
    (case t8 => k_is)
    (case l8 => k_is)
    (case c8 => k_is)
    (case k8 => k_is)
    (case a9 => k_is)
    (case t9 => k_is)
    (case l9 => k_is)
    (case c9 => k_is)
    (case k9 => k_is)
    (case a10 => k_is)
    (case t10 => k_is)
    (case l10 => k_is)
    (case c10 => k_is)
    (case k10 => k_is)
    (case dl10 => k_is)
    (case vE => exact .cons rfl (.cons rfl .nil))
    (case lE => k_is)
    (case zE => decide)
    (case uE => exact .nil)
    (case a11 => k_is)
    (case l11 => k_is)
    (case c11 => k_is)
    (case k11 => k_is)
    (case a12 => k_is)
    (case l12 => k_is)
    (case c12 => k_is)
    (case k12 => k_is)
    (case a13 => k_is)
    (case l13 => k_is)
    (case c13 => k_is)
    (case k13 => k_is)
    (case a14 => k_is)
    (case l14 => k_is)
    (case c14 => k_is)
    (case k14 => k_is)
    (case a15 => k_is)
    (case l15 => k_is)
    (case c15 => k_is)
    (case k15 => k_is)
    (case a16 => k_is)
    (case t16 => k_is)
    (case l16 => k_is)
    (case c16 => k_is)
    (case k16 => k_is)
    (case dl16 => k_is)
    (case vG => exact .cons rfl (.cons rfl .nil))
    (case a17 => k_is)
    (case l17 => k_is)
    (case c17 => k_is)
    (case k17 => k_is)
    (case a18 => k_is)
    (case l18 => k_is)
    (case c18 => k_is)
    (case k18 => k_is)
    (case a19 => k_is)
    (case l19 => k_is)
    (case c19 => k_is)
    (case k19 => k_is)
    (case a20 => k_is)
    (case l20 => k_is)
    (case c20 => k_is)
    (case k20 => k_is)
    (case a21 => k_is)
    (case l21 => k_is)
    (case c21 => k_is)
    (case k21 => k_is)
    (case a22 => k_is)
    (case l22 => k_is)
    (case c22 => k_is)
    (case k22 => k_is)
    (case a23 => k_is)
    (case l23 => k_is)
    (case c23 => k_is)
    (case k23 => k_is)
    (case a24 => k_is)
    (case l24 => k_is)
    (case c24 => k_is)
    (case k24 => k_is)
    (case a25 => k_is)
    (case l25 => k_is)
    (case c25 => k_is)
    (case k25 => k_is)
    (case a26 => k_is)
    (case l26 => k_is)
    (case c26 => k_is)
    (case k26 => k_is)
    (case a27 => k_is)
    (case l27 => k_is)
    (case c27 => k_is)
    (case k27 => k_is)
    (case a28 => k_is)
    (case l28 => k_is)
    (case c28 => k_is)
    (case k28 => k_is)
    (case a29 => k_is)
    (case l29 => k_is)
    (case c29 => k_is)
    (case k29 => k_is)
    (case a30 => k_is)
    (case l30 => k_is)
    (case c30 => k_is)
    (case k30 => k_is)
    (case a31 => k_is)
    (case l31 => k_is)
    (case c31 => k_is)
    (case k31 => k_is)
    (case a32 => k_is)
    (case l32 => k_is)
    (case c32 => k_is)
    (case k32 => k_is)
    (case a33 => k_is)
    (case l33 => k_is)
    (case c33 => k_is)
    (case k33 => k_is)
    (case a34 => k_is)
    (case l34 => k_is)
    (case c34 => k_is)
    (case k34 => k_is)
    (case a35 => k_is)
    (case l35 => k_is)
    (case c35 => k_is)
    (case k35 => k_is)
    (case a36 => k_is)
    (case l36 => k_is)
    (case c36 => k_is)
    (case k36 => k_is)
    (case a37 => k_is)
    (case l37 => k_is)
    (case c37 => k_is)
    (case k37 => k_is)
    (case a38 => k_is)
    (case l38 => k_is)
    (case c38 => k_is)
    (case k38 => k_is)
    (case z0 => k_is)
    (case z1 => k_is)
    (case z2 => k_is)
    (case z3 => k_is)
    (case z4 => k_is)
    (case z5 => k_is)
    (case z6 => k_is)
    (case z7 => k_is)
    (case z8 => k_is)
    (case z9 => k_is)
    (case z10 => k_is)
    (case z11 => k_is)
    (case z12 => k_is)
    (case z13 => k_is)
    (case z14 => k_is)
    (case lN4 => k_is)
    (case zN4 => decide)
    (case vN4 => exact .cons rfl (.cons rfl (.cons rfl (.cons rfl .nil))))
    (case lH1 => k_is)
    (case zH1 => decide)
    (case vH1 => exact (.cons ⟨_, rfl⟩ .nil))
    (case hn1 => k_is)
    (case tk1 => k_is)
    (case haKind => k_is)
    (case moKind => k_is)
    (case tCKind => k_is)
    (case iCKind => k_is)
    (case haGame => k_is)
    (case moGame => k_is)
    (case tCGame => k_is)
    (case iCGame => k_is)
    (case kn_list => k_is)
    (case kn_str => k_is)
    (case kn_NoneType => k_is)
    (case kn_int => k_is)
    (case kn_bool => k_is)
    (case kn_tuple => k_is)
    (case kn_dict => k_is)
    (case mN => decide)
    (case mM => kernel_rfl)
    (case mX => kernel_rfl)
    (case gL => k_is)
    (case gN => k_is)
    (case gP => k_is)
    (case gMK => k_is)
    (case gMD => k_is)
    (case gB => k_is)
    (case lB => k_is)
    (case zB => decide)
    (case vB => exact (.cons ⟨_, rfl⟩ (.cons ⟨_, rfl⟩ (.cons ⟨_, rfl⟩ (.cons ⟨_, rfl⟩ .nil)))))
    (case gSD => k_is)
    (case lSD => k_is)
    (case zSD => decide)
    (case vSD => exact (.cons ⟨_, rfl⟩ (.cons ⟨_, rfl⟩ (.cons ⟨_, rfl⟩ (.cons ⟨_, rfl⟩ .nil)))))
    (case gS => k_is)
    (case lS => k_is)
    (case ktS => exact ⟨⟨_, _, rfl, rfl⟩, ⟨_, _, rfl, rfl⟩, ⟨_, _, rfl, rfl⟩, ⟨_, _, rfl, rfl⟩, trivial⟩)
    (case loS => decide)
    (case zS => rfl)
    (case eRS => exact ⟨_, _, rfl, rfl, rfl⟩)
    (case eLS => exact ⟨_, _, rfl, rfl, rfl⟩)
    (case eUS => exact ⟨_, _, rfl, rfl, rfl⟩)
    (case eDS => exact ⟨_, _, rfl, rfl, rfl⟩)
    (case lRr => k_is)
    (case zRr => decide)
    (case vRr => exact (.cons ⟨_, rfl⟩ (.cons ⟨_, rfl⟩ .nil)))
    (case lLl => k_is)
    (case zLl => decide)
    (case vLl => exact (.cons ⟨_, rfl⟩ (.cons ⟨_, rfl⟩ .nil)))
    (case lUu => k_is)
    (case zUu => decide)
    (case vUu => exact (.cons ⟨_, rfl⟩ (.cons ⟨_, rfl⟩ .nil)))
    (case lDd => k_is)
    (case zDd => decide)
    (case vDd => exact (.cons ⟨_, rfl⟩ (.cons ⟨_, rfl⟩ .nil)))
    (case nT => kernel_rfl)
    (case hT => kernel_rfl)
    (case nT2 => kernel_rfl)
    (case hT2 => kernel_rfl)
    (case hneT => decide)

