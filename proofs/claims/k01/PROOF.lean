import PyProof.Rows.All
import Wide.All
import OpenK.AllK
import Wide.FinOn
import HandS.ForMost
import HandS.IsInst
import HandS.Defaults
import HandS.Flow
import HandS.MakeKwOnly
import PyProof.ReprRoads
import HandS.Wide
import HandS.Walk
import PyProof.ReprBulk
import PyProof.Rows.ReprOcc
import PySem.Challenge.RW_gapsame_k01_plain_values
import PyProof.Rows.StrDouble
import PyProof.Rows.StrFin3
import HandS.Codes
set_option Elab.async false
set_option linter.all false
set_option maxRecDepth 100000
set_option maxHeartbeats 4000000
/-! Layer G: calls under which no guard stands, so that repr tells the whole; data with dicts; what a bag of draws is. -/
namespace Gs
open PySem PySem.Spec PyProof.Rows L2

theorem szl {n : Nat} (h : Nat.ble n 1000 = true) : n ≤ sizeLine := Nat.le_trans (Nat.le_of_ble_eq_true h) (by decide)
theorem szl2 {n : Nat} (h : Nat.ble n 1000 = true) : n ≤ 1000 := Nat.le_of_ble_eq_true h
theorem szm {n : Nat} (h : n ≤ 1000) : n ≤ sizeLine := Nat.le_trans h (by decide)
theorem szs {n : Nat} (h : n < 1000) : n < sizeLine := Nat.lt_of_lt_of_le h (by decide)
/-! ### promises of defs that are entered with no guard -/
structure FnG (P : Program) (w : World) (K : PySem.W.Frag) (mg : Str → Option Value) (base : Heap) (CX : CXT) (k : Nat) (f : Addr)
    (fd : FuncData) (ps : List Str) (sp : Sp) : Prop where
  len : ∀ vs H Q E, sp vs H Q E → vs.length = ps.length
  run : ∀ (A : Around) (outer : List Env) (s : Shared) (H : Hp) (args : Args) (us : List Value) (vs : List V) (Q : VK) (E : XK),
    Room k A → A.guards = some [] → Env0 P w K mg base A outer s H → BindsTo s fd args (ps.zip us) → Vals vs us → sp vs H Q E →
      codeAny (model P w) A (.call (.ref f) args) (CR CX outer P w H s Q E) s
section
variable {P : Program} {w : World} {K : PySem.W.Frag} {mg : Str → Option Value} {base : Heap} {CX : CXT} {j k : Nat} {f : Addr} {fd : FuncData} {ps : List Str} {sp sp' : Sp}
theorem FnG.of (F : FnOk P w K mg base CX k f fd ps sp) : FnG P w K mg base CX k f fd ps sp :=
  ⟨F.len, fun A o s H args us vs Q E hr _ => F.run A o s H args us vs Q E hr⟩
theorem FnG.mono (F : FnG P w K mg base CX j f fd ps sp) (h : j ≤ k) : FnG P w K mg base CX k f fd ps sp :=
  ⟨F.len, fun A o s H args us vs Q E hr => F.run A o s H args us vs Q E (hr.mono h)⟩

theorem fn_ofG {name qual : Str} {params : Arguments} {body : List Stmt} {scope : Scope} {dV kV doc pm cdv ct oc : Value} {an od : Option Addr}
    {osl : Array (Option Value)} {N : List Str}
    (lk : K.lookup f = some ⟨oc, od, .func (PySem.W.fnOf name qual params body scope dV kV doc pm an cdv ct), osl⟩)
    (hcd : PySem.W.codeIn K cdv qual = true) (S : FnScope N ps scope)
    (len : ∀ vs H Q E, sp vs H Q E → vs.length = ps.length)
    (hb : ∀ (A : Around) (outer : List Env) (s : Shared) (H : Hp) (vs : List V) (Q : VK) (E : XK),
      Room k (A.deeper (envOfC qual scope s.heap.objs.size f cdv)) → (A.deeper (envOfC qual scope s.heap.objs.size f cdv)).guards = some [] → sp vs H Q E →
      ∃ t, PSs (cxOf CX P w K mg base N qual scope f cdv A outer s H E) body t ∧ t { nx := fun _ H' => Q .non H', rt := Q } (start N vs) H) :
    FnG P w K mg base CX (k + 1) f (PySem.W.fnOf name qual params body scope dV kV doc pm an cdv ct) ps sp := by
  refine ⟨len, fun A outer s H args us vs Q E hr hgd e0 hbind rv hsp => ?_⟩
  have hl : vs.length = ps.length := len _ _ _ _ hsp
  have kin : K.In s.heap := e0.mod.kin.keeps (fun b o e => (e0.bs b o e).1)
  have noL : s.heap.NoLimit := e0.mod.nolimit.keeps (fun b o e => (e0.bs b o e).1)
  have kinds : ∀ y ∈ ps.zip us, scope.names.lookup y.1 = some .local ∨
      (scope.names.lookup y.1 = some .cell ∧ ((cellsFrom (s.heap.objs.size + 1) scope.names []).lookup y.1).isSome = true) := by
    rintro ⟨n, v⟩ hy
    have hn := (List.of_mem_zip hy).1
    cases S.par n hn with
    | inl q => exact Or.inl q
    | inr q => exact Or.inr ⟨q, PySem.W.cellsFrom_some _ _ _ (Or.inl q)⟩
  refine codeAny_call_function hr.depth (kin _ _ lk) rfl S.co S.gen rfl (PySem.W.codeRec_of kin hcd) (hbind _ _ _ _ ?_)
  refine wpAny_newFunctionEnv_cells S.kind kinds (fun env he s1 x => ?_)
  subst he
  refine ⟨noL.keeps x.toInCall.keep, codeAny_func ?_⟩
  obtain ⟨t, ht, hq⟩ := hb A outer s H vs Q E (hr.deeper _) hgd hsp
  have I := inv_start (CX := CX) (f := f) (cd := cdv) (qual := qual) (E := E) S hr.hd e0 hl rv x
  refine wpAny_mono (ht.run [] s1 (start N vs) H _ I hq) (fun fl s' hs => ?_) (fun e s' hs => hs)
  have done : ∀ {σ' : L2.St} {H' : Hp} {v : V} {u : Value}, Inv (cxOf CX P w K mg base N qual scope f cdv A outer s H E) [] σ' H' s' →
      RelV v u → Q v H' → CE outer P w H s Q u s' := by
    intro σ' H' v u J r2 q2
    exact ⟨v, H', J.os, J.bare, J.base, J.hok, r2, q2⟩
  cases fl with
  | ret u => obtain ⟨v, σ', H', J, r2, q2⟩ := hs; exact done J r2 q2
  | next => obtain ⟨σ', H', J, q2⟩ := hs; exact done (v := V.non) (u := Value.none) J rfl q2
  | brk => obtain ⟨_, _, _, q2⟩ := hs; exact q2.elim
  | cont => obtain ⟨_, _, _, q2⟩ := hs; exact q2.elim

/-- a def of the text without defaults; it may let out what CX tells -/
theorem fun_okX {x qual : Str} {st : Stmt} {N : List Str} (F : Fun K x qual st f fd) (S : FnScope N ps (defScope st))
    (len : ∀ vs H Q E, sp vs H Q E → vs.length = ps.length)
    (hb : ∀ (cdv : Value) (A : Around) (outer : List Env) (s : Shared) (H : Hp) (vs : List V) (Q : VK) (E : XK),
      Room k (A.deeper (envOfC qual (defScope st) s.heap.objs.size f cdv)) → (A.deeper (envOfC qual (defScope st) s.heap.objs.size f cdv)).guards = some [] → sp vs H Q E →
      ∃ t, PSs (cxOf CX P w K mg base N qual (defScope st) f cdv A outer s H E) (defBody st) t ∧
        t { nx := fun _ H' => Q .non H', rt := Q } (start N vs) H) : FnG P w K mg base CX (k + 1) f fd ps sp := by
  obtain ⟨oc, od, kV, doc, pm, an, cdv, ct, osl, rfl, lk, hcd⟩ := F.ex
  exact fn_ofG lk hcd S len (fun A outer s H vs Q E hr hg hsp => hb cdv A outer s H vs Q E hr hg hsp)
/-- a def of the text without defaults; nothing is raised out of it -/
theorem fun_okG {x qual : Str} {st : Stmt} {N : List Str} (F : Fun K x qual st f fd) (S : FnScope N ps (defScope st))
    (len : ∀ vs H Q E, sp vs H Q E → vs.length = ps.length)
    (hb : ∀ (cdv : Value) (A : Around) (outer : List Env) (s : Shared) (H : Hp) (vs : List V) (Q : VK) (E : XK),
      Room k (A.deeper (envOfC qual (defScope st) s.heap.objs.size f cdv)) → (A.deeper (envOfC qual (defScope st) s.heap.objs.size f cdv)).guards = some [] → sp vs H Q E →
      ∃ t, PSs (cxOf CX0 P w K mg base N qual (defScope st) f cdv A outer s H E).nox (defBody st) t ∧
        t { nx := fun _ H' => Q .non H', rt := Q } (start N vs) H) : FnG P w K mg base CX0 (k + 1) f fd ps sp := by
  refine fun_okX F S len (fun cdv A outer s H vs Q E hr hg hsp => ?_)
  obtain ⟨t, h, q⟩ := hb cdv A outer s H vs Q E hr hg hsp
  exact ⟨t, h.nox, q⟩
end

section
variable {X : Cx} {CX : CXT} {k n : Nat} {f C : Addr} {fd : FuncData} {ps ks : List Str} {sp : Sp} {dvs : List V} {ds : List Value} {E : XK}
  {x : Str} {p pos : Pos} {e : Expr} {es : List Expr} {kws : List Keyword} {t tk : TA} {g : List Value → List Value → List Value} {gV : List V → List V → List V}
/-- how the parameters are bound by positional values and keywords (names ks) -/
structure KB (K : PySem.W.Frag) (fd : FuncData) (ps ks : List Str) (n : Nat) (g : List Value → List Value → List Value) (gV : List V → List V → List V) : Prop where
  to : ∀ (s : Shared) (us ws : List Value), K.In s.heap → us.length = n → ws.length = ks.length → BindsTo s fd ⟨us, ks.zip ws⟩ (ps.zip (g us ws))
  rel : ∀ {vs : List V} {us : List Value} {zs : List V} {ws : List Value}, vs.length = n → zs.length = ks.length → Vals vs us → Vals zs ws → Vals (gV vs zs) (g us ws)

theorem run_any {pins : List (Addr × Obj)} {σ : L2.St} {H : Hp} {s : Shared} {Q : VK} {us : List Value} {vs : List V} {vals : List Value} {kw : List (Str × Value)}
    (F : FnG X.prog X.w X.K X.mg X.base CX k f fd ps sp) (hr : Room k X.A) (hg : X.A.guards = some []) (hx : Passes CX X E)
    (I : Inv X pins σ H s) (b : BindsTo s fd ⟨vals, kw⟩ (ps.zip us)) (r : Vals vs us) (h : sp vs H Q E) :
    wpAny (model X.prog X.w) X.A (call (.ref f) vals kw) (EP X pins σ Q) X.xe s := by
  refine wpAny_call (codeAny_mono (F.run X.A X.stack s H ⟨vals, kw⟩ us vs Q E hr hg I.env0 b r h) (fun r' s' hq => ?_))
  match r', hq with
  | .error e, hq => exact hx pins σ H s e s' I hq
  | .ok (.ret u), hq => exact I.after hq
  | .ok .next, hq => exact hq.elim
  | .ok .brk, hq => exact hq.elim
  | .ok .cont, hq => exact hq.elim

/-- f(e, ..) -/
theorem pg_call (F : FnG X.prog X.w X.K X.mg X.base CX k f fd ps sp) (hr : Room k X.A) (hgd : X.A.guards = some []) (hg : Gl X x) (hm : X.mg x = some (.ref f))
    (hk : PySem.W.keepIn X.K (.ref f) = true) (hb : Binds X.K fd ps ds) (hd : Vals dvs ds) (hx : Passes CX X E)
    (ha : PA X (e :: es) t) (hdb : (x == ("__debug__" : Str)) = false := by decide) (he : starEach (e :: es) X.env = (false, eval e X.env) :: starEach es X.env := by rfl)
    (hpl : (backTo pos (starEach es X.env)).any (·.1) = false := by rfl) :
    PE X (.Call (.Name x p) (e :: es) [] pos) (tCall sp dvs E t) := by
  constructor
  intro pins s σ H Q I h
  refine wpAny_Call_Name_kw (ld_glob I hg hm ?_ hdb)
  refine PySem.W.callWith_K (h₀ := X.base) I.ok.mod.kin hk (thn (ha.run pos pins s σ H _ I h) fun us s1 ⟨vs, H1, I1, r, q⟩ => ⟨I1.kIn, ?_⟩) he hpl
  have r2 := r.append hd
  exact run_any (vals := us) (kw := []) F hr hgd hx I1 (hb s1 us I1.kIn (by rw [← r2.length]; exact F.len _ _ _ _ q)) r2 q
/-- f() -/
theorem pg_call0 (F : FnG X.prog X.w X.K X.mg X.base CX k f fd ps sp) (hr : Room k X.A) (hgd : X.A.guards = some []) (hg : Gl X x) (hm : X.mg x = some (.ref f))
    (hk : PySem.W.keepIn X.K (.ref f) = true) (hb : Binds X.K fd ps ds) (hd : Vals dvs ds) (hx : Passes CX X E)
    (hdb : (x == ("__debug__" : Str)) = false := by decide) : PE X (.Call (.Name x p) [] [] pos) (tCall sp dvs E tNil) := by
  constructor
  intro pins s σ H Q I h
  refine wpAny_Call_Name_kw (ld_glob I hg hm ?_ hdb)
  have h : sp ([] ++ dvs) H Q E := h
  have r2 : Vals ([] ++ dvs) ([] ++ ds) := Vals.append .nil hd
  exact PySem.W.callWith_K0 I.kIn hk (run_any (vals := []) (kw := []) F hr hgd hx I (hb s [] I.kIn (by rw [← r2.length]; exact F.len _ _ _ _ h)) r2 h)
def tCallG (n m : Nat) (sp : Sp) (gV : List V → List V → List V) (E : XK) (t tk : TA) : TE := fun σ H Q => t σ H fun vs H1 => tk σ H1 fun zs H2 =>
  vs.length = n ∧ zs.length = m ∧ sp (gV vs zs) H2 Q E
/-- f(e, .., k = v, ..) -/
theorem pg_callK (F : FnG X.prog X.w X.K X.mg X.base CX k f fd ps sp) (hr : Room k X.A) (hgd : X.A.guards = some []) (hg : Gl X x) (hm : X.mg x = some (.ref f))
    (hk : PySem.W.keepIn X.K (.ref f) = true) (hb : KB X.K fd ps ks n g gV) (hx : Passes CX X E)
    (ha : PA X (e :: es) t) (hkw : PK X kws tk) (hall : (backToKw pos (keywordEach kws X.env)).all (·.1.isSome) = true := by rfl)
    (hks : (backToKw pos (keywordEach kws X.env)).filterMap (·.1) = ks := by rfl)
    (hdb : (x == ("__debug__" : Str)) = false := by decide) (he : starEach (e :: es) X.env = (false, eval e X.env) :: starEach es X.env := by rfl)
    (hpl : ((backTo pos (starEach (e :: es) X.env)).any (·.1) || (backToKw pos (keywordEach kws X.env)).any (·.1.isNone)) = false := by rfl) :
    PE X (.Call (.Name x p) (e :: es) kws pos) (tCallG n ks.length sp gV E t tk) := by
  constructor
  intro pins s σ H Q I h
  refine wpAny_Call_Name_kw (ld_glob I hg hm ?_ hdb)
  refine PySem.W.callWith_KW (h₀ := X.base) I.ok.mod.kin hk hall (thn (ha.run pos pins s σ H _ I h) fun us s1 ⟨vs, H1, I1, r, q⟩ => ?_) hpl he
  refine thn (hkw.run pos pins s1 σ H1 _ I1 q) fun ws s2 ⟨zs, H2, I2, rz, l1, l2, q2⟩ => ⟨I2.kIn, ?_⟩
  rw [hks]
  exact run_any (vals := us) (kw := ks.zip ws) F hr hgd hx I2 (hb.to s2 us ws I2.kIn (r.length.symm.trans l1) (rz.length.symm.trans l2)) (hb.rel l1 l2 r rz) q2
end

/-- f(k = v, ..) -/
theorem pg_callK0 {X : Cx} {CX : CXT} {k : Nat} {f : Addr} {fd : FuncData} {ps ks : List Str} {sp : Sp} {E : XK} {x : Str} {p pos : Pos} {kws : List Keyword} {tk : TA}
    {g : List Value → List Value → List Value} {gV : List V → List V → List V}
    (F : FnG X.prog X.w X.K X.mg X.base CX k f fd ps sp) (hr : Room k X.A) (hgd : X.A.guards = some []) (hg : Gl X x) (hm : X.mg x = some (.ref f))
    (hk : PySem.W.keepIn X.K (.ref f) = true) (hb : KB X.K fd ps ks 0 g gV) (hx : Passes CX X E) (hkw : PK X kws tk)
    (hall : (backToKw pos (keywordEach kws X.env)).all (·.1.isSome) = true := by rfl)
    (hks : (backToKw pos (keywordEach kws X.env)).filterMap (·.1) = ks := by rfl)
    (hdb : (x == ("__debug__" : Str)) = false := by decide)
    (hpl : ((backTo pos (starEach [] X.env)).any (·.1) || (backToKw pos (keywordEach kws X.env)).any (·.1.isNone)) = false := by rfl) :
    PE X (.Call (.Name x p) [] kws pos) (tCallG 0 ks.length sp gV E tNil tk) := by
  constructor
  intro pins s σ H Q I h
  refine wpAny_Call_Name_kw (ld_glob I hg hm ?_ hdb)
  refine PySem.W.callWith_KW0 (h₀ := X.base) I.ok.mod.kin hk hall ?_ hpl
  refine thn (hkw.run pos pins s σ H _ I h) fun ws s2 ⟨zs, H2, I2, rz, l1, l2, q2⟩ => ⟨I2.kIn, ?_⟩
  rw [hks]
  exact run_any (vals := []) (kw := ks.zip ws) F hr hgd hx I2 (hb.to s2 [] ws I2.kIn rfl (rz.length.symm.trans l2)) (hb.rel l1 l2 .nil rz) q2

/-! ### data, dicts among it; c: one address that is no part of it (the bag of draws) -/
def Ext (c : Addr) (H H' : Hp) : Prop := ∀ b o, b ≠ c → H b = some o → H' b = some o
theorem Ext.refl {c : Addr} {H : Hp} : Ext c H H := fun _ _ _ h => h
theorem Ext.trans {c : Addr} {H H1 H2 : Hp} (a : Ext c H H1) (b : Ext c H1 H2) : Ext c H H2 := fun x o n h => b x o n (a x o n h)
theorem Ext.new {c p : Addr} {H : Hp} {o : HO} (h : H p = none) : Ext c H (upd H p o) := fun b u _ e => by
  rw [upd_ne (ne_of_none e h)]; exact e
theorem Ext.bag {c : Addr} {H : Hp} {o : HO} : Ext c H (upd H c o) := fun b u n e => by
  rw [upd_ne n]; exact e
/-- a thing that the first heap did not know may change -/
theorem Ext.own {c p : Addr} {H H' : Hp} {o : HO} (e : Ext c H H') (h : H p = none) : Ext c H (upd H' p o) := fun b u n x => by
  rw [upd_ne (ne_of_none x h)]; exact e b u n x
theorem Ext.rd {c a : Addr} {H H' : Hp} {u : HO} (e : Ext c H H') (n : a ≠ c) (h : Rd H a u) : Rd H' a u := by
  rcases h with h | ⟨o, h⟩
  · exact .inl (e _ _ n h)
  · exact .inr ⟨o, e _ _ n h⟩
theorem Ext.sqL {K : PySem.W.Frag} {c a : Addr} {H H' : Hp} {xs : List V} (e : Ext c H H') (n : a ≠ c) (h : SqL K H a xs) : SqL K H' a xs := by
  rcases h with h | h
  · exact .inl (e.rd n h)
  · exact .inr h
theorem Ext.sqT {K : PySem.W.Frag} {c a : Addr} {H H' : Hp} {xs : List V} (e : Ext c H H') (n : a ≠ c) (h : SqT K H a xs) : SqT K H' a xs := by
  rcases h with h | h
  · exact .inl (e.rd n h)
  · exact .inr h
mutual
inductive DV (K : PySem.W.Frag) (c : Addr) (H : Hp) : V → PyData → Prop
  | non : DV K c H .non .none
  | bl (b : Bool) : DV K c H (.bl b) (.bool b)
  | int (i : Int) : DV K c H (.int i) (.int i)
  | str (x : Str) : DV K c H (.str x) (.str x)
  | lst {a : Addr} {xs : List V} {ds : List PyData} : a ≠ c → SqL K H a xs → DVs K c H xs ds → DV K c H (.ref a) (.list ds)
  | tup {a : Addr} {xs : List V} {ds : List PyData} : a ≠ c → SqT K H a xs → DVs K c H xs ds → DV K c H (.ref a) (.tuple ds)
  | dic {a : Addr} {kvs : List (Key × V)} {ps : List (PyData × PyData)} : a ≠ c → H a = some (.dK kvs) → DKs K c H kvs ps → DV K c H (.ref a) (.dict ps)
inductive DVs (K : PySem.W.Frag) (c : Addr) (H : Hp) : List V → List PyData → Prop
  | nil : DVs K c H [] []
  | cons {v : V} {vs : List V} {d : PyData} {ds : List PyData} : DV K c H v d → DVs K c H vs ds → DVs K c H (v :: vs) (d :: ds)
inductive DKs (K : PySem.W.Frag) (c : Addr) (H : Hp) : List (Key × V) → List (PyData × PyData) → Prop
  | nil : DKs K c H [] []
  | cons {k : Key} {v : V} {r : List (Key × V)} {d e : PyData} {ps : List (PyData × PyData)} : DV K c H (kV k) d → DV K c H v e → DKs K c H r ps → DKs K c H ((k, v) :: r) ((d, e) :: ps)
end
section
variable {K : PySem.W.Frag} {c : Addr} {H H' : Hp}
mutual
theorem DV.ext (e : Ext c H H') : ∀ (d : PyData) (v : V), DV K c H v d → DV K c H' v d
  | .none, _, h => by cases h; exact .non
  | .bool _, _, h => by cases h; exact .bl _
  | .int _, _, h => by cases h; exact .int _
  | .str _, _, h => by cases h; exact .str _
  | .list ds, _, h => by
    cases h with
    | lst n s r => exact .lst n (e.sqL n s) (DVs.ext e ds _ r)
  | .tuple ds, _, h => by
    cases h with
    | tup n s r => exact .tup n (e.sqT n s) (DVs.ext e ds _ r)
  | .dict ps, _, h => by
    cases h with
    | dic n s r => exact .dic n (e _ _ n s) (DKs.ext e ps _ r)
theorem DVs.ext (e : Ext c H H') : ∀ (ds : List PyData) (vs : List V), DVs K c H vs ds → DVs K c H' vs ds
  | [], _, h => by cases h; exact .nil
  | d :: ds, _, h => by
    cases h with
    | cons a b => exact .cons (DV.ext e d _ a) (DVs.ext e ds _ b)
theorem DKs.ext (e : Ext c H H') : ∀ (ps : List (PyData × PyData)) (vs : List (Key × V)), DKs K c H vs ps → DKs K c H' vs ps
  | [], _, h => by cases h; exact .nil
  | (d, f) :: ps, _, h => by
    cases h with
    | cons a b r => exact .cons (DV.ext e d _ a) (DV.ext e f _ b) (DKs.ext e ps _ r)
end
theorem DVs.len : ∀ {vs : List V} {ds : List PyData}, DVs K c H vs ds → vs.length = ds.length
  | _, _, .nil => rfl
  | _, _, .cons _ b => congrArg Nat.succ (DVs.len b)
theorem DVs.at : ∀ {vs : List V} {ds : List PyData} {i : Nat} {v : V}, DVs K c H vs ds → vs[i]? = some v → ∃ d, ds[i]? = some d ∧ DV K c H v d
  | _, _, i, _, .nil, h => by simp at h
  | _, _, 0, _, .cons a _, h => by simp at h; subst h; exact ⟨_, rfl, a⟩
  | _, _, i + 1, _, .cons _ b, h => by simpa using DVs.at b (by simpa using h)
theorem DVs.append : ∀ {vs ws : List V} {ds es : List PyData}, DVs K c H vs ds → DVs K c H ws es → DVs K c H (vs ++ ws) (ds ++ es)
  | _, _, _, _, .nil, h => h
  | _, _, _, _, .cons a b, h => .cons a (DVs.append b h)
end
section
variable {X : Cx} {pins : List (Addr × Obj)} {σ : L2.St} {H : Hp} {s : Shared} {c : Addr}
/-- what is known of a value that bears d, for its text -/
def Shows (X : Cx) (h : Heap) (u : Value) (d : PyData) : Prop := (∃ as, Reads h u d as) ∧ ∃ bs, ReadAtMost h d.depth bs ∧ ReprK X.prog X.w bs h d.depth u d.shown
def ShowsS (X : Cx) (h : Heap) (us : List Value) (ds : List PyData) : Prop := (∃ as, ReadsAll h us ds as) ∧
  ∃ bs, ReadAtMost h (PyData.depthAll ds) bs ∧ ReprAllK X.prog X.w bs h (PyData.depthAll ds) us (PyData.shownAll ds)
theorem ShowsS.nil {h : Heap} : ShowsS X h [] [] := ⟨⟨_, .nil⟩, [], (fun _ z => nomatch z), .nil⟩
theorem ShowsS.cons {h : Heap} {u : Value} {us : List Value} {d : PyData} {ds : List PyData} (a : Shows X h u d) (b : ShowsS X h us ds) : ShowsS X h (u :: us) (d :: ds) := by
  obtain ⟨⟨as, r⟩, bs, m, k⟩ := a
  obtain ⟨⟨as', r'⟩, bs', m', k'⟩ := b
  have l1 : d.depth ≤ PyData.depthAll (d :: ds) := by simp only [PyData.depthAll]; exact Nat.le_max_left _ _
  have l2 : PyData.depthAll ds ≤ PyData.depthAll (d :: ds) := by simp only [PyData.depthAll]; exact Nat.le_max_right _ _
  exact ⟨⟨_, .cons r r'⟩, bs ++ bs', (m.mono l1).append (m'.mono l2), .cons ((k.more fun _ z => List.mem_append_left _ z).level_le l1) (k'.more_le (fun _ z => List.mem_append_right _ z) l2)⟩
theorem dict_len {ps : List (PyData × PyData)} (h : (PyData.shown (.dict ps)).length ≤ sizeLine) : (∀ t ∈ PyData.shownAll (ps.map (·.1)), t.length ≤ sizeLine) ∧ ∀ t ∈ PyData.shownAll (ps.map (·.2)), t.length ≤ sizeLine := by
  have h' : (dictText (PyData.shownKv ps)).length ≤ sizeLine := by simpa only [PyData.shown] using h
  constructor
  · intro t ht
    obtain ⟨p, hp, hl⟩ := PyData.shownKv_key_le ps t ht
    exact Nat.le_trans hl (Nat.le_trans (dictText_mem_le hp) h')
  · intro t ht
    obtain ⟨p, hp, hl⟩ := PyData.shownKv_val_le ps t ht
    exact Nat.le_trans hl (Nat.le_trans (dictText_mem_le hp) h')
mutual
theorem DV.shows (I : Inv X pins σ H s) : ∀ (d : PyData) (v : V) (u : Value), DV X.K c H v d → L2.RelV v u → d.showable = true → d.shown.length ≤ sizeLine → Shows X s.heap u d
  | .none, _, _, h, r, _, _ => by
    cases h; cases r
    exact ⟨⟨_, .none⟩, [], (fun _ z => nomatch z), .of_is ReprIs.none _ _ _⟩
  | .bool b, _, _, h, r, _, _ => by
    cases h; cases r
    exact ⟨⟨_, .bool b⟩, [], (fun _ z => nomatch z), .of_is (ReprIs.bool b) _ _ _⟩
  | .int i, _, _, h, r, hs, _ => by
    cases h; obtain ⟨t, rfl⟩ := r
    exact ⟨⟨_, .int i t⟩, [], (fun _ z => nomatch z), .of_is (ReprIs.int t (by simpa [PyData.showable] using hs)) _ _ _⟩
  | .str x, _, _, h, r, _, hz => by
    cases h; obtain ⟨t, rfl⟩ := r
    exact ⟨⟨_, .str x t⟩, [], (fun _ z => nomatch z), .of_is (ReprIs.str x t (by simpa only [PyData.shown] using hz)) _ _ _⟩
  | .list ds, _, _, h, r, hs, hz => by
    cases h with
    | lst n hq ha =>
      cases r
      obtain ⟨its, rv, ⟨o, m, ho, hc, _, hd⟩, _⟩ := I.list hq
      have hz' : (listText (PyData.shownAll ds)).length ≤ sizeLine := by simpa only [PyData.shown] using hz
      obtain ⟨⟨as, rs⟩, bs, mb, kb⟩ := DVs.shows I ds _ its ha rv (by simpa [PyData.showable] using hs) (fun t ht => Nat.le_trans (listText_mem_le ht) hz')
      have rd : Reads s.heap (.ref _) (.list ds) _ := .list ho hc hd rs
      have lt : PyData.depthAll ds < (PyData.list ds).depth := by simp only [PyData.depth]; omega
      have out := not_mem_of_deeper rd lt mb
      refine ⟨⟨_, rd⟩, _, ReadAtMost.cons rd (Nat.le_of_lt lt) mb, ?_⟩
      simp only [PyData.depth, PyData.shown]
      match its, rs, kb, hd with
      | [], rs, _, hd =>
        cases rs
        simp only [PyData.shownAll, listText_nil]
        exact ReprK.listEmpty ho hc hd
      | x :: l, _, kb, hd => exact ReprK.list ho hc hd out (by simpa using kb.length_eq) (fun i y e => kb.item i y (by simpa using e))
  | .tuple ds, _, _, h, r, hs, hz => by
    cases h with
    | tup n hq ha =>
      cases r
      obtain ⟨its, rv, ⟨o, ho, hc, m, hd⟩, _⟩ := I.tuple hq
      have hz' : (tupleText (PyData.shownAll ds)).length ≤ sizeLine := by simpa only [PyData.shown] using hz
      obtain ⟨⟨as, rs⟩, bs, mb, kb⟩ := DVs.shows I ds _ its ha rv (by simpa [PyData.showable] using hs) (fun t ht => Nat.le_trans (tupleText_mem_le ht) hz')
      have rd : Reads s.heap (.ref _) (.tuple ds) _ := .tuple ho hc hd rs
      have lt : PyData.depthAll ds < (PyData.tuple ds).depth := by simp only [PyData.depth]; omega
      have out := not_mem_of_deeper rd lt mb
      refine ⟨⟨_, rd⟩, _, ReadAtMost.cons rd (Nat.le_of_lt lt) mb, ?_⟩
      simp only [PyData.depth, PyData.shown]
      exact ReprK.tuple ho hc hd out kb
  | .dict ps, _, _, h, r, hs, hz => by
    cases h with
    | dic n hq ha =>
      cases r
      obtain ⟨_, hsm, vs, kv, o, es, ep, ho, hx, hd, _, pr, _⟩ := I.hok _ _ hq
      obtain ⟨hs1, hs2⟩ := PyData.showableKv_split ps (by simpa [PyData.showable] using hs)
      obtain ⟨hz1, hz2⟩ := dict_len hz
      obtain ⟨⟨⟨as, r1⟩, b1, m1, k1⟩, ⟨as', r2⟩, b2, m2, k2⟩ := DKs.shows I ps _ es.toList vs ha kv pr hs1 hs2 hz1 hz2
      have rd : Reads s.heap (.ref _) (.dict ps) _ := .dict ho hx.1 hd r1 r2
      have lt : PyData.depthKv ps < (PyData.dict ps).depth := by simp only [PyData.depth]; omega
      have mb := (m1.mono (PyData.depthAll_keys_le ps)).append (m2.mono (PyData.depthAll_vals_le ps))
      have out := not_mem_of_deeper rd lt mb
      refine ⟨⟨_, rd⟩, _, ReadAtMost.cons rd (Nat.le_of_lt lt) mb, ?_⟩
      simp only [PyData.depth, PyData.shown, PyData.shownKv_eq]
      exact ReprK.dict ho hx.1 hd hsm out (.of_two es.toList _ _ (k1.more_le (fun _ z => List.mem_append_left _ z) (PyData.depthAll_keys_le ps))
        (k2.more_le (fun _ z => List.mem_append_right _ z) (PyData.depthAll_vals_le ps)))
theorem DVs.shows (I : Inv X pins σ H s) : ∀ (ds : List PyData) (vs : List V) (us : List Value), DVs X.K c H vs ds → L2.Vals vs us → PyData.showableAll ds = true → (∀ t ∈ PyData.shownAll ds, t.length ≤ sizeLine) → ShowsS X s.heap us ds
  | [], _, _, h, r, _, _ => by
    cases h; cases r
    exact .nil
  | d :: ds, _, _, h, r, hs, hz => by
    cases h with
    | cons h1 h2 =>
      cases r with
      | cons r1 r2 =>
        have hs' : d.showable = true ∧ PyData.showableAll ds = true := by simpa [PyData.showableAll] using hs
        simp only [PyData.shownAll] at hz
        exact .cons (DV.shows I d _ _ h1 r1 hs'.1 (hz _ List.mem_cons_self)) (DVs.shows I ds _ _ h2 r2 hs'.2 fun t ht => hz t (List.mem_cons_of_mem _ ht))
theorem DKs.shows (I : Inv X pins σ H s) : ∀ (ps : List (PyData × PyData)) (kvs : List (Key × V)) (es : List DictEntry) (vs : List (Key × Value)), DKs X.K c H kvs ps → KV kvs vs →
    Pairs (mixKind X.prog X.w) es vs → PyData.showableAll (ps.map (·.1)) = true → PyData.showableAll (ps.map (·.2)) = true →
    (∀ t ∈ PyData.shownAll (ps.map (·.1)), t.length ≤ sizeLine) → (∀ t ∈ PyData.shownAll (ps.map (·.2)), t.length ≤ sizeLine) →
    ShowsS X s.heap (es.map (·.key)) (ps.map (·.1)) ∧ ShowsS X s.heap (es.map (·.val)) (ps.map (·.2))
  | [], _, _, _, h, r, p, _, _, _, _ => by
    cases h; cases r; cases p
    exact ⟨.nil, .nil⟩
  | (d, f) :: ps, (k, v) :: kvs, e :: es', kv :: vs', h, r, p, hs1, hs2, hz1, hz2 => by
    cases h with
    | cons h1 h2 h3 =>
      cases r with
      | cons r1 r2 =>
        cases p with
        | cons p1 p2 p3 =>
          obtain ⟨e1, r1⟩ := r1
          have rk : L2.RelV (kV k) e.key := by
            have p1 : keyIs kv.1 e.key = true := p1
            rw [← e1] at p1
            rcases keyIs_shape p1 with ⟨i, t, q1, q2⟩ | ⟨z, t, q1, q2⟩
            · rw [q2]; simp only at q1; rw [q1]; exact ⟨t, rfl⟩
            · rw [q2]; simp only at q1; rw [q1]; exact ⟨t, rfl⟩
          have a1 : d.showable = true ∧ PyData.showableAll (ps.map (·.1)) = true := by simpa [PyData.showableAll] using hs1
          have a2 : f.showable = true ∧ PyData.showableAll (ps.map (·.2)) = true := by simpa [PyData.showableAll] using hs2
          simp only [List.map_cons, PyData.shownAll] at hz1 hz2
          obtain ⟨q3, q4⟩ := DKs.shows I ps _ es' vs' h3 r2 p3 a1.2 a2.2 (fun t ht => hz1 t (List.mem_cons_of_mem _ ht)) fun t ht => hz2 t (List.mem_cons_of_mem _ ht)
          exact ⟨.cons (DV.shows I d _ _ h1 rk a1.1 (hz1 _ List.mem_cons_self)) q3, .cons (DV.shows I f _ e.val h2 (by rw [p2]; exact r1) a2.1 (hz2 _ List.mem_cons_self)) q4⟩
  | (d, f) :: ps, [], _, _, h, r, p, _, _, _, _ => by cases h
  | (d, f) :: ps, _ :: _, [], _, h, r, p, _, _, _, _ => by cases p; cases r
  | (d, f) :: ps, _ :: _, _, [], h, r, p, _, _, _, _ => by cases r
end
/-- repr of data -/
def rRepr (K : PySem.W.Frag) : List V → Hp → VK → Prop := fun xs H Q => ∃ (c a : Addr) (d : PyData), xs = [.ref a] ∧ DV K c H (.ref a) d ∧ d.showable = true ∧ d.depth ≤ 60 ∧ d.shown.length ≤ sizeLine ∧ Q (.str d.shown) H
theorem call_repr {k : Nat} (hr : Room k X.A) (hg : X.A.guards = some []) : CallR X (.builtin "repr") (rRepr X.K) := by
  intro pins s σ H xs us Q I r h
  obtain ⟨c, a, d, rfl, hd, hs, hdp, hz, q⟩ := h
  match us, r with
  | [u], .cons r1 .nil =>
    cases (show u = Value.ref a from r1)
    have un := hr.units
    have un1 : X.A.units + 1 < cLine := by omega
    cases hd with
    | lst n hq ha =>
      rename_i vs ds
      obtain ⟨its, rv, ⟨o, m, ho, hc, _, hdt⟩, _⟩ := I.list hq
      have hz' : (listText (PyData.shownAll ds)).length ≤ sizeLine := by simpa only [PyData.shown] using hz
      obtain ⟨⟨as, rs⟩, bs, mb, kb⟩ := DVs.shows I ds _ its ha rv (by simpa [PyData.showable] using hs) (fun t ht => Nat.le_trans (listText_mem_le ht) hz')
      have rd : Reads s.heap (.ref a) (.list ds) _ := .list ho hc hdt rs
      have lt : PyData.depthAll ds < (PyData.list ds).depth := by simp only [PyData.depth]; omega
      have out := not_mem_of_deeper rd lt mb
      simp only [PyData.depth] at hdp
      simp only [PyData.shown] at q
      refine call_repr_slot un1 ⟨o, ho, hc⟩ F.slot_list_repr.toG ?_
      match its, rs, kb, hdt with
      | [], rs, _, hdt =>
        cases rs
        simp only [PyData.shownAll, listText_nil] at q
        exact call_list_repr_empty ⟨o, ho, hc⟩ ho hdt ⟨_, _, rfl, .str _, H, I.kept fun _ _ e => e, ⟨_, rfl⟩, q⟩
      | x :: l, _, kb, hdt =>
        exact call_list_reprK ho hc hdt out (by simpa using kb.length_eq) (fun i y e => kb.item i y (by simpa using e)) (A := X.A.in1) hg (fun b _ => Clear.nil b)
          (by show X.A.units + 1 + _ < cLine; omega) (fun _ _ e => e) (fun h' u tk hk => ⟨_, _, rfl, .str _, H, I.kept hk, ⟨u, rfl⟩, q⟩) hz'
    | tup n hq ha =>
      rename_i vs ds
      obtain ⟨its, rv, ⟨o, ho, hc, m, hdt⟩, _⟩ := I.tuple hq
      have hz' : (tupleText (PyData.shownAll ds)).length ≤ sizeLine := by simpa only [PyData.shown] using hz
      obtain ⟨⟨as, rs⟩, bs, mb, kb⟩ := DVs.shows I ds _ its ha rv (by simpa [PyData.showable] using hs) (fun t ht => Nat.le_trans (tupleText_mem_le ht) hz')
      have rd : Reads s.heap (.ref a) (.tuple ds) _ := .tuple ho hc hdt rs
      have lt : PyData.depthAll ds < (PyData.tuple ds).depth := by simp only [PyData.depth]; omega
      have out := not_mem_of_deeper rd lt mb
      simp only [PyData.depth] at hdp
      simp only [PyData.shown] at q
      exact call_repr_slot un1 ⟨o, ho, hc⟩ F.slot_tuple_repr (call_tuple_reprK ho hc hdt out kb (A := X.A.in1) hg (fun b _ => Clear.nil b)
          (by show X.A.units + 1 + _ < cLine; omega) (fun _ _ e => e) (fun h' u tk hk => ⟨_, _, rfl, .str _, H, I.kept hk, ⟨u, rfl⟩, q⟩) hz')
    | dic n hq ha =>
      rename_i kvs ps
      obtain ⟨_, hsm, vs, kv, o, es, ep, ho, hx, hdt, _, pr, _⟩ := I.hok _ _ hq
      obtain ⟨hs1, hs2⟩ := PyData.showableKv_split ps (by simpa [PyData.showable] using hs)
      obtain ⟨hz1, hz2⟩ := dict_len hz
      obtain ⟨⟨⟨as, r1⟩, b1, m1, k1⟩, ⟨as', r2⟩, b2, m2, k2⟩ := DKs.shows I ps _ es.toList vs ha kv pr hs1 hs2 hz1 hz2
      have rd : Reads s.heap (.ref a) (.dict ps) _ := .dict ho hx.1 hdt r1 r2
      have lt : PyData.depthKv ps < (PyData.dict ps).depth := by simp only [PyData.depth]; omega
      have mb := (m1.mono (PyData.depthAll_keys_le ps)).append (m2.mono (PyData.depthAll_vals_le ps))
      have out := not_mem_of_deeper rd lt mb
      simp only [PyData.depth] at hdp
      simp only [PyData.shown, PyData.shownKv_eq] at q hz
      exact call_repr_slot un1 ⟨o, ho, hx.1⟩ F.slot_dict_repr (call_dict_reprK ho hx.1 hdt hsm out (.of_two es.toList _ _ (k1.more_le (fun _ z => List.mem_append_left _ z) (PyData.depthAll_keys_le ps))
        (k2.more_le (fun _ z => List.mem_append_right _ z) (PyData.depthAll_vals_le ps))) (A := X.A.in1) hg (fun b _ => Clear.nil b)
          (by show X.A.units + 1 + _ < cLine; omega) (fun _ _ e => e) (fun h' u tk hk => ⟨_, _, rfl, .str _, H, I.kept hk, ⟨u, rfl⟩, q⟩) hz)
end

/-! ### small facts of data -/
theorem dp_ints {K : PySem.W.Frag} {H : Hp} : ∀ ns : List Int, DpAll K H (ns.map V.int) (ns.map PyData.int)
  | [] => .nil
  | n :: ns => .cons (.int n) (dp_ints ns)
theorem dv_ints {K : PySem.W.Frag} {H : Hp} {c : Addr} : ∀ ns : List Int, DVs K c H (ns.map V.int) (ns.map PyData.int)
  | [] => .nil
  | n :: ns => .cons (.int n) (dv_ints ns)
theorem can_ints : ∀ ns : List Int, PyData.canLayAll0 (ns.map PyData.int) = true
  | [] => rfl
  | n :: ns => by
    show (PyData.canLay0 (.int n) && PyData.canLayAll0 (ns.map PyData.int)) = true
    rw [can_ints ns]; rfl
theorem depth_ints : ∀ ns : List Int, PyData.depthAll (ns.map PyData.int) ≤ 1
  | [] => by decide
  | n :: ns => by
    have := depth_ints ns
    simp only [List.map_cons, PyData.depthAll, PyData.depth]
    omega
theorem shaped_ints (ns : List Int) : SeqAt.shaped (.list (ns.map PyData.int)) = true := by
  unfold SeqAt.shaped
  have h := depth_ints ns
  have e : PyData.canLay0 (.list (ns.map PyData.int)) = true := by
    simp only [PyData.canLay0]; exact can_ints ns
  rw [e, Bool.true_and, decide_eq_true_eq]
  simp only [PyData.depth]
  omega
theorem eqv_nil (ds : List PyData) : PyData.eqv (.list ds) (.list []) = ds.isEmpty := by
  cases ds with
  | nil => simp [PyData.eqv, PyData.eqvAll]
  | cons d ds => simp [PyData.eqv, PyData.eqvAll]

theorem mix_bound {v pt A B C : Int} (v0 : 0 ≤ v) (v1 : v < 2147483648) (p0 : 0 ≤ pt) (p1 : pt ≤ 1000000) (a0 : 0 ≤ A) (a1 : A ≤ 1000000) (b0 : 0 ≤ B) (b1 : B ≤ 1000000) (c0 : 0 ≤ C) (c1 : C ≤ 1000000) :
    (v * (2 * pt + A) + B * pt * pt + C).natAbs < 2 ^ 64 := by
  have e1 : v * (2 * pt + A) ≤ 2147483648 * 3000000 := Int.mul_le_mul (by omega) (by omega) (by omega) (by omega)
  have e2 : 0 ≤ v * (2 * pt + A) := Int.mul_nonneg v0 (by omega)
  have e3 : B * pt ≤ 1000000 * 1000000 := Int.mul_le_mul b1 p1 p0 (by omega)
  have e4 : 0 ≤ B * pt := Int.mul_nonneg b0 p0
  have e5 : B * pt * pt ≤ 1000000 * 1000000 * 1000000 := Int.mul_le_mul e3 p1 p0 (by omega)
  have e6 : 0 ≤ B * pt * pt := Int.mul_nonneg e4 p0
  omega
theorem mul_pt {B pt : Int} (p0 : 0 ≤ pt) (p1 : pt ≤ 1000000) (b0 : 0 ≤ B) (b1 : B ≤ 1000000) : CMul (B * pt) pt := by
  have e3 : B * pt ≤ 1000000 * 1000000 := Int.mul_le_mul b1 p1 p0 (by omega)
  have e4 : 0 ≤ B * pt := Int.mul_nonneg b0 p0
  exact .inl ⟨by omega, by omega⟩
theorem at_mod {ns : List Int} {pt : Int} (h : ns ≠ []) (p0 : 0 ≤ pt) : ∃ v, atI (ns.map V.int) (pt % ((ns.map V.int).length : Int)) = some (.int v) := by
  have hl : 0 < (ns.map V.int).length := by
    rw [List.length_map]; exact List.length_pos_iff.mpr h
  have h1 := Int.emod_nonneg pt (show ((ns.map V.int).length : Int) ≠ 0 by omega)
  have h2 := Int.emod_lt_of_pos pt (show (0 : Int) < ((ns.map V.int).length : Int) by omega)
  obtain ⟨j, hj⟩ := Int.eq_ofNat_of_zero_le h1
  rw [hj] at h2 ⊢
  have hjl : j < ns.length := by rw [List.length_map] at h2; omega
  refine ⟨ns[j], atI_nat ?_⟩
  rw [List.getElem?_map, List.getElem?_eq_getElem hjl]; rfl
theorem emod_w {x M : Int} (h : 0 < M) (h2 : M ≤ 2147483648) : -(2 ^ 64) < x % M ∧ x % M < 2 ^ 64 := by
  have a := Int.emod_nonneg x (show M ≠ 0 by omega)
  have b := Int.emod_lt_of_pos x h
  omega
theorem emod_b {x M : Int} (h : 0 < M) (h2 : M ≤ 2147483648) : 0 ≤ x % M ∧ x % M < 2147483648 := by
  have a := Int.emod_nonneg x (show M ≠ 0 by omega)
  have b := Int.emod_lt_of_pos x h
  omega
/-- forget what a heap is, but for F -/
theorem gcut {Qd : Hp → Prop} {H : Hp} (F : Hp → Prop) (hF : F H) (h : ∀ H', F H' → Qd H') : Qd H := h H hF
theorem pos_lit {j : Int} (h : 0 < j) : 0 < j := h

section
variable {K : PySem.W.Frag} {c p : Addr} {H H' : Hp} {v : V} {d : PyData} {vs xs : List V} {ds : List PyData}
theorem DV.up (h : DV K c H v d) (e : Ext c H H') : DV K c H' v d := DV.ext e d v h
theorem DVs.up (h : DVs K c H vs ds) (e : Ext c H H') : DVs K c H' vs ds := DVs.ext e ds vs h
/-- a new list, a new tuple, a new dict -/
theorem new_lst (hp : H p = none) (n : p ≠ c) (h : DVs K c H xs ds) : DV K c (upd H p (.lst xs)) (.ref p) (.list ds) ∧ Ext c H (upd H p (.lst xs)) :=
  ⟨.lst n (.of upd_same) (h.up (Ext.new hp)), Ext.new hp⟩
theorem new_tup (hp : H p = none) (n : p ≠ c) (h : DVs K c H xs ds) : DV K c (upd H p (.tup xs)) (.ref p) (.tuple ds) ∧ Ext c H (upd H p (.tup xs)) :=
  ⟨.tup n (.of upd_same) (h.up (Ext.new hp)), Ext.new hp⟩
/-- [x if one of them] -/
theorem one_of {i : Nat} {v : V} {xs : List V} (h : xs[i]? = some v) : v ∈ xs := List.mem_of_getElem? h
end

theorem pi_or {X : Cx} {tg e : Expr} {w1 w2 : TI} (h1 : PI X tg e w1) (h2 : PI X tg e w2) : PI X tg e (fun σ H R => w1 σ H R ∨ w2 σ H R) :=
  ⟨fun pins s σ H R I h => h.elim (h1.run pins s σ H R I) (h2.run pins s σ H R I)⟩
theorem Ext.of {c : Addr} {H H' : Hp} (h : Same H H') : Ext c H H' := fun b o _ e => h b o e
theorem same_new {p : Addr} {H : Hp} {o : HO} (h : H p = none) : Same H (upd H p o) := fun b u e => by
  rw [upd_ne (ne_of_none e h)]; exact e
theorem same_own {p : Addr} {H H' : Hp} {o : HO} (e : Same H H') (h : H p = none) : Same H (upd H' p o) := fun b u x => by
  rw [upd_ne (ne_of_none x h)]; exact e b u x
/-! ### types of data -/
def tyN : PyData → String
  | .none => "NoneType" | .bool _ => "bool" | .int _ => "int" | .str _ => "str" | .list _ => "list" | .tuple _ => "tuple" | .dict _ => "dict"
theorem ty_of {K : PySem.W.Frag} {c : Addr} {H : Hp} {v : V} {d : PyData} (h : DV K c H v d) : TyX K H v (.type (tyN d)) := by
  cases h with
  | non => exact .base .non
  | bl b => exact .base (.bl b)
  | int i => exact .base (.int i)
  | str x => exact .base (.str x)
  | lst _ s _ =>
    rcases s with (s | ⟨o, s⟩) | ⟨o, its, n, e, q, _⟩
    · exact .base (.lst s)
    · exact .base (.frz s)
    · exact .kList e q
  | tup _ s _ =>
    rcases s with (s | ⟨o, s⟩) | ⟨o, its, n, e, q, _⟩
    · exact .base (.tup s)
    · exact .fTuple s
    · exact .kTuple e q
  | dic _ s _ => exact .base (.dK s)
def isInt : PyData → Bool | .int _ => true | _ => false
def isSeq : PyData → Bool | .list _ => true | .tuple _ => true | _ => false
def isStr : PyData → Bool | .str _ => true | _ => false
theorem iteB {b : Bool} {A B : Prop} (h1 : b = true → A) (h2 : b = false → B) : if b = true then A else B := by
  cases b with
  | true => exact iteT (h1 rfl)
  | false => exact iteF (h2 rfl)
/-- a pair of two such things -/
def pairP (f : PyData → Bool) : PyData → Bool
  | .list [a, b] => f a && f b
  | .tuple [a, b] => f a && f b
  | _ => false
abbrev isSq : PyData → Bool := pairP isInt
abbrev isMv : PyData → Bool := pairP isSq
theorem pair_no {f : PyData → Bool} {ds : List PyData} (h : ds.length ≠ 2) : pairP f (.list ds) = false ∧ pairP f (.tuple ds) = false := by
  match ds, h with
  | [], _ => exact ⟨rfl, rfl⟩
  | [_], _ => exact ⟨rfl, rfl⟩
  | [_, _], h => exact absurd rfl h
  | _ :: _ :: _ :: _, _ => exact ⟨rfl, rfl⟩
theorem two_of {α : Type} {ds : List α} (h : ds.length = 2) : ∃ a b, ds = [a, b] := by
  match ds, h with
  | [a, b], _ => exact ⟨a, b, rfl⟩
theorem kI : ∀ d : PyData, kitB (tyN d) "int" = some (match d with | .int _ => true | .bool _ => true | _ => false)
  | .none => (by decide +kernel : kitB "NoneType" "int" = some false)
  | .bool _ => (by decide +kernel : kitB "bool" "int" = some true)
  | .int _ => (by decide +kernel : kitB "int" "int" = some true)
  | .str _ => (by decide +kernel : kitB "str" "int" = some false)
  | .list _ => (by decide +kernel : kitB "list" "int" = some false)
  | .tuple _ => (by decide +kernel : kitB "tuple" "int" = some false)
  | .dict _ => (by decide +kernel : kitB "dict" "int" = some false)
theorem kB : ∀ d : PyData, kitB (tyN d) "bool" = some (match d with | .bool _ => true | _ => false)
  | .none => (by decide +kernel : kitB "NoneType" "bool" = some false)
  | .bool _ => (by decide +kernel : kitB "bool" "bool" = some true)
  | .int _ => (by decide +kernel : kitB "int" "bool" = some false)
  | .str _ => (by decide +kernel : kitB "str" "bool" = some false)
  | .list _ => (by decide +kernel : kitB "list" "bool" = some false)
  | .tuple _ => (by decide +kernel : kitB "tuple" "bool" = some false)
  | .dict _ => (by decide +kernel : kitB "dict" "bool" = some false)
theorem kS : ∀ d : PyData, kitB (tyN d) "str" = some (isStr d)
  | .none => (by decide +kernel : kitB "NoneType" "str" = some false)
  | .bool _ => (by decide +kernel : kitB "bool" "str" = some false)
  | .int _ => (by decide +kernel : kitB "int" "str" = some false)
  | .str _ => (by decide +kernel : kitB "str" "str" = some true)
  | .list _ => (by decide +kernel : kitB "list" "str" = some false)
  | .tuple _ => (by decide +kernel : kitB "tuple" "str" = some false)
  | .dict _ => (by decide +kernel : kitB "dict" "str" = some false)
theorem kL : ∀ d : PyData, kitB (tyN d) "list" = some (match d with | .list _ => true | _ => false)
  | .none => (by decide +kernel : kitB "NoneType" "list" = some false)
  | .bool _ => (by decide +kernel : kitB "bool" "list" = some false)
  | .int _ => (by decide +kernel : kitB "int" "list" = some false)
  | .str _ => (by decide +kernel : kitB "str" "list" = some false)
  | .list _ => (by decide +kernel : kitB "list" "list" = some true)
  | .tuple _ => (by decide +kernel : kitB "tuple" "list" = some false)
  | .dict _ => (by decide +kernel : kitB "dict" "list" = some false)
theorem kT : ∀ d : PyData, kitB (tyN d) "tuple" = some (match d with | .tuple _ => true | _ => false)
  | .none => (by decide +kernel : kitB "NoneType" "tuple" = some false)
  | .bool _ => (by decide +kernel : kitB "bool" "tuple" = some false)
  | .int _ => (by decide +kernel : kitB "int" "tuple" = some false)
  | .str _ => (by decide +kernel : kitB "str" "tuple" = some false)
  | .list _ => (by decide +kernel : kitB "list" "tuple" = some false)
  | .tuple _ => (by decide +kernel : kitB "tuple" "tuple" = some true)
  | .dict _ => (by decide +kernel : kitB "dict" "tuple" = some false)
theorem kit_seq {K : PySem.W.Frag} (d : PyData) : PySem.W.kitAny K (.type (tyN d)) [.type "list", .type "tuple"] = some (isSeq d) := by
  have kl := kL d
  have kt := kT d
  cases d with
  | list _ => exact kitAny_cons (kit_ty kl) (fun h => nomatch h) (fun _ => rfl)
  | tuple _ => exact kitAny_cons (kit_ty kl) (fun _ => kitAny_cons (kit_ty kt) (fun h => nomatch h) (fun _ => rfl)) (fun h => nomatch h)
  | _ => exact kitAny_cons (kit_ty kl) (fun _ => kitAny_cons (kit_ty kt) (fun _ => rfl) (fun h => nomatch h)) (fun h => nomatch h)
/-- a def that tells yes or no of one thing, and changes nothing -/
def spB (K : PySem.W.Frag) (f : PyData → Bool) : Sp := fun vs H Q _ => ∃ (c : Addr) (v : V) (d : PyData), vs = [v] ∧ DV K c H v d ∧ ∀ H', Same H H' → Q (.bl (f d)) H'

/-! ### the bag of draws: at c a list of the list l of ints, the place, what is left of a great number -/
def Bag (c l : Addr) (n : Nat) (H : Hp) : Prop := ∃ (ns : List Int) (pt rest : Int), H c = some (.lst [.ref l, .int pt, .int rest]) ∧
  H l = some (.lst (ns.map V.int)) ∧ l ≠ c ∧ ns.length ≤ 60 ∧ 0 ≤ pt ∧ pt ≤ n ∧ 0 ≤ rest
theorem Bag.mono {c l : Addr} {n m : Nat} {H : Hp} (b : Bag c l n H) (h : n ≤ m) : Bag c l m H := by
  obtain ⟨ns, pt, rest, h1, h2, h3, h4, h5, h6, h7⟩ := b
  exact ⟨ns, pt, rest, h1, h2, h3, h4, h5, by omega, h7⟩
theorem Bag.new {c l p : Addr} {n : Nat} {H : Hp} {o : HO} (b : Bag c l n H) (h : H p = none) : Bag c l n (upd H p o) := by
  obtain ⟨ns, pt, rest, h1, h2, h3, h4, h5, h6, h7⟩ := b
  exact ⟨ns, pt, rest, by rw [upd_ne (ne_of_none h1 h)]; exact h1, by rw [upd_ne (ne_of_none h2 h)]; exact h2, h3, h4, h5, h6, h7⟩
/-- a thing that is neither of the two is written -/
theorem Bag.put {c l p : Addr} {n : Nat} {H : Hp} {o : HO} (b : Bag c l n H) (h : p ≠ c) (h' : p ≠ l) : Bag c l n (upd H p o) := by
  obtain ⟨ns, pt, rest, h1, h2, h3, h4, h5, h6, h7⟩ := b
  exact ⟨ns, pt, rest, by rw [upd_ne h.symm]; exact h1, by rw [upd_ne h'.symm]; exact h2, h3, h4, h5, h6, h7⟩
theorem Bag.ne {c l p : Addr} {n : Nat} {H : Hp} (b : Bag c l n H) (h : H p = none) : p ≠ c := by
  obtain ⟨ns, pt, rest, h1, _⟩ := b
  exact fun e => by rw [e, h1] at h; cases h
theorem Bag.ne2 {c l p : Addr} {n : Nat} {H : Hp} (b : Bag c l n H) (h : H p = none) : p ≠ l := by
  obtain ⟨ns, pt, rest, _, h1, _⟩ := b
  exact fun e => by rw [e, h1] at h; cases h
theorem Bag.same {c l : Addr} {n : Nat} {H H' : Hp} (b : Bag c l n H) (h : Same H H') : Bag c l n H' := by
  obtain ⟨ns, pt, rest, h1, h2, r⟩ := b
  exact ⟨ns, pt, rest, h _ _ h1, h _ _ h2, r⟩
end Gs

set_option Elab.async false
set_option linter.all false
set_option maxRecDepth 100000
set_option maxHeartbeats 4000000
namespace Gs
open PySem PySem.Spec PyProof.Rows L2
/-! ### data of known size: depth at most k, bulk at most n -/
structure Fine (k n : Nat) (d : PyData) : Prop where
  sh : d.showable = true
  dp : d.depth ≤ k
  lf : d.leavesShort 1100 = true
  bk : d.bulk ≤ n
structure FineS (k n : Nat) (ds : List PyData) : Prop where
  sh : PyData.showableAll ds = true
  dp : PyData.depthAll ds ≤ k
  lf : PyData.leavesShortAll 1100 ds = true
  bk : PyData.bulkAll ds ≤ n
section
variable {k k' n n' m : Nat} {d e : PyData} {ds es : List PyData}
theorem Fine.mono (h : Fine k n d) (a : k ≤ k') (b : n ≤ n') : Fine k' n' d := ⟨h.sh, Nat.le_trans h.dp a, h.lf, Nat.le_trans h.bk b⟩
theorem FineS.mono (h : FineS k n ds) (a : k ≤ k') (b : n ≤ n') : FineS k' n' ds := ⟨h.sh, Nat.le_trans h.dp a, h.lf, Nat.le_trans h.bk b⟩
theorem int_len {i : Int} (h : i.natAbs < 2 ^ 1000) : (PyData.shown (.int i)).length ≤ 1100 ∧ i.natAbs.log2 < 1920 := by
  have e : i.natAbs.log2 < 1000 := by
    by_cases z : i.natAbs = 0
    · rw [z]; decide
    · exact (Nat.log2_lt z).mpr h
  refine ⟨?_, by omega⟩
  have := int_text_length_le (a := i) (k := 1000) (by decide) e
  show (Str.ofString (toString i)).length ≤ 1100
  rw [PySem.ofString_length]; omega
theorem Fine.int {i : Int} (h : i.natAbs < 2 ^ 1000) : Fine k n (.int i) := by
  obtain ⟨a, b⟩ := int_len h
  refine ⟨?_, Nat.zero_le _, ?_, Nat.zero_le _⟩
  · simp only [PyData.showable, decide_eq_true_eq]; exact b
  · simp only [PyData.leavesShort, decide_eq_true_eq]; exact a
theorem Fine.non : Fine k n .none := ⟨rfl, Nat.zero_le _, rfl, Nat.zero_le _⟩
theorem Fine.bl {b : Bool} : Fine k n (.bool b) := ⟨rfl, Nat.zero_le _, rfl, Nat.zero_le _⟩
theorem Fine.str {x : Str} (h : ∀ c ∈ x.cps.toList, c < 16 ^ 8) (hn : x.length ≤ n) : Fine k n (.str x) := by
  refine ⟨rfl, Nat.zero_le _, ?_, hn⟩
  simp only [PyData.leavesShort, List.all_eq_true, decide_eq_true_eq]; exact h
theorem FineS.nil : FineS k n [] := ⟨rfl, Nat.zero_le _, rfl, Nat.zero_le _⟩
theorem FineS.cons (h : Fine k n d) (r : FineS k m ds) : FineS k (n + 1 + m) (d :: ds) := by
  refine ⟨?_, ?_, ?_, ?_⟩
  · simp only [PyData.showableAll, h.sh, r.sh, Bool.and_self]
  · have a := h.dp; have b := r.dp
    simp only [PyData.depthAll]; omega
  · simp only [PyData.leavesShortAll, h.lf, r.lf, Bool.and_self]
  · have a := h.bk; have b := r.bk
    simp only [PyData.bulkAll]; omega
theorem Fine.list (r : FineS k n ds) : Fine (k + 1) n (.list ds) := by
  refine ⟨?_, ?_, ?_, ?_⟩
  · simp only [PyData.showable]; exact r.sh
  · have b := r.dp; simp only [PyData.depth]; omega
  · simp only [PyData.leavesShort]; exact r.lf
  · simp only [PyData.bulk]; exact r.bk
theorem Fine.tuple (r : FineS k n ds) : Fine (k + 1) n (.tuple ds) := by
  refine ⟨?_, ?_, ?_, ?_⟩
  · simp only [PyData.showable]; exact r.sh
  · have b := r.dp; simp only [PyData.depth]; omega
  · simp only [PyData.leavesShort]; exact r.lf
  · simp only [PyData.bulk]; exact r.bk
theorem Fine.to_tuple (h : Fine k n (.list ds)) : Fine k n (.tuple ds) := by
  obtain ⟨a, b, c, d⟩ := h
  simp only [PyData.showable, PyData.depth, PyData.leavesShort, PyData.bulk] at a b c d
  refine ⟨?_, ?_, ?_, ?_⟩
  · simp only [PyData.showable]; exact a
  · simp only [PyData.depth]; exact b
  · simp only [PyData.leavesShort]; exact c
  · simp only [PyData.bulk]; exact d
theorem Fine.dict1 {a b : PyData} (h : Fine k n a) (g : Fine k m b) : Fine (k + 1) (n + m + 2) (.dict [(a, b)]) := by
  refine ⟨?_, ?_, ?_, ?_⟩
  · simp only [PyData.showable, PyData.showableKv, h.sh, g.sh, Bool.and_self]
  · have x := h.dp; have y := g.dp
    simp only [PyData.depth, PyData.depthKv]; omega
  · simp only [PyData.leavesShort, PyData.leavesShortKv, h.lf, g.lf, Bool.and_self]
  · have x := h.bk; have y := g.bk
    simp only [PyData.bulk, PyData.bulkKv]; omega
theorem Fine.dict2 {a b a' b' : PyData} (h : Fine k n a) (g : Fine k n b) (h' : Fine k n a') (g' : Fine k n b') : Fine (k + 1) (4 * n + 4) (.dict [(a, b), (a', b')]) := by
  refine ⟨?_, ?_, ?_, ?_⟩
  · simp only [PyData.showable, PyData.showableKv, h.sh, g.sh, h'.sh, g'.sh, Bool.and_self]
  · have x := h.dp; have y := g.dp; have x' := h'.dp; have y' := g'.dp
    simp only [PyData.depth, PyData.depthKv]; omega
  · simp only [PyData.leavesShort, PyData.leavesShortKv, h.lf, g.lf, h'.lf, g'.lf, Bool.and_self]
  · have x := h.bk; have y := g.bk; have x' := h'.bk; have y' := g'.bk
    simp only [PyData.bulk, PyData.bulkKv]; omega
theorem Fine.fits (h : Fine k n d) (hn : n ≤ 15000) : d.shown.length ≤ sizeLine := by
  have a := PyData.shown_le_bulk 1100 (by decide) d h.lf
  have b := h.bk
  have c : sizeLine = 16777216 := by decide
  have e : (1100 + 2) * d.bulk ≤ (1100 + 2) * 15000 := Nat.mul_le_mul_left _ (by omega)
  omega
/-- what a list of bools shows -/
theorem fine_bools : ∀ bs : List Bool, FineS 0 bs.length (bs.map PyData.bool)
  | [] => .nil
  | b :: bs => by
    have := FineS.cons (k := 0) (n := 0) (Fine.bl (b := b)) (fine_bools bs)
    exact this.mono (Nat.le_refl _) (by rw [List.length_cons]; omega)
theorem fine_ints : ∀ zs : List Int, (∀ z ∈ zs, z.natAbs < 2 ^ 1000) → FineS 0 zs.length (zs.map PyData.int)
  | [], _ => .nil
  | z :: zs, h => by
    have := FineS.cons (k := 0) (n := 0) (Fine.int (h z List.mem_cons_self)) (fine_ints zs fun y hy => h y (List.mem_cons_of_mem _ hy))
    exact this.mono (Nat.le_refl _) (by rw [List.length_cons]; omega)
end
section
variable {K : PySem.W.Frag} {c : Addr} {H : Hp}
theorem dv_bools : ∀ bs : List Bool, DVs K c H (bs.map V.bl) (bs.map PyData.bool)
  | [] => .nil
  | b :: bs => .cons (.bl b) (dv_bools bs)
end
/-- a text that Lean wrote has signs below 16 ^ 8 -/
theorem ofs_signs (s : String) : ∀ c ∈ (Str.ofString s).cps.toList, c < 16 ^ 8 := by
  rw [PyProof.Rows.signs_ofString]
  intro c hc
  obtain ⟨ch, _, rfl⟩ := List.mem_map.mp hc
  exact ch.val.toNat_lt
theorem fa_nil {k n : Nat} : ∀ d ∈ ([] : List PyData), Fine k n d := fun _ h => nomatch h
theorem fa_cons {k n : Nat} {d : PyData} {ds : List PyData} (h : Fine k n d) (r : ∀ e ∈ ds, Fine k n e) : ∀ e ∈ d :: ds, Fine k n e := fun e m => by
  rcases List.mem_cons.mp m with rfl | m
  · exact h
  · exact r e m
/-- a list of two, of three -/
theorem fine1 {k n : Nat} {a : PyData} (h : Fine k n a) : FineS k (n + 1) [a] := (FineS.cons h FineS.nil (m := 0)).mono (Nat.le_refl _) (by omega)
theorem fine2 {k n : Nat} {a b : PyData} (h : Fine k n a) (g : Fine k n b) : FineS k (2 * n + 2) [a, b] := (FineS.cons h (fine1 g)).mono (Nat.le_refl _) (by omega)
theorem fine3 {k n : Nat} {a b e : PyData} (h : Fine k n a) (g : Fine k n b) (f : Fine k n e) : FineS k (3 * n + 3) [a, b, e] := (FineS.cons h (fine2 g f)).mono (Nat.le_refl _) (by omega)
theorem fine_tos {k : Nat} {i : Int} (h : i.natAbs < 2 ^ 1000) : Fine k 1100 (.str (toString i)) := by
  refine .str (ofs_signs _) ?_
  exact (int_len h).1
theorem fine_lit {k : Nat} {x : String} (h : (Str.ofString x).length ≤ 100) : Fine k 100 (.str (Str.ofString x)) := .str (ofs_signs _) h
/-- x = e where e has one value whatever way it goes, and changes nothing that is known -/
theorem asg_val {te : TE} {tg : TG} {D : Ends} {σ : L2.St} {H : Hp} (v : V) (h1 : ∀ Q : VK, (∀ H', Same H H' → Q v H') → te σ H Q) (h2 : ∀ H', Same H H' → tg v σ H' D.nx) : tAsg te tg D σ H := h1 _ h2
theorem seq_asg {te : TE} {tg : TG} {r : TS} {D : Ends} {σ : L2.St} {H : Hp} (v : V) (h1 : ∀ Q : VK, (∀ H', Same H H' → Q v H') → te σ H Q) (h2 : ∀ H', Same H H' → tg v σ H' (r D)) : tSeq (tAsg te tg) r D σ H := h1 _ h2
end Gs

set_option Elab.async false
set_option linter.all false
set_option maxRecDepth 100000
set_option maxHeartbeats 4000000
namespace Gs
open PySem PySem.Spec PyProof.Rows L2
section
variable {P : Program} {w : World} {K : PySem.W.Frag} {mg mb : Str → Option Value} {CX : CXT} {k : Nat} {fa a : Addr} {fd : FuncData} {x : Str} {sp : Sp}
  {s₁ : Shared} {vs : List Value} {ns : List Int}
/-- the law's call, from what its def promises where no guard stands -/
theorem law_callG (KX : K.In s₁.heap) (hns : s₁.heap.Ns mainGlobals mg) (hb : s₁.heap.Ns builtinsNs mb) (hbb : ∀ x : Str, x ≠ "__name__" → mb x = bootBuiltins x)
    (hlim : s₁.heap.NoLimit) (hg : s₁.gens = #[]) (ha : s₁.heap.get? a = some { cls := .type "list", data := .seq vs.toArray }) (hi : IntsAre vs ns) (hl : ns.length ≤ sizeLine)
    (hr : Room k callerA) (F : ∀ base : Heap, K.In base → base.Ns mainGlobals mg → FnG P w K mg base CX k fa fd [x] sp)
    (hbind : ∀ (s : Shared) (u : Value), BindsTo s fd ⟨[u], []⟩ [(x, u)])
    (hsp : ∀ H : Hp, SqL K H a (ns.map V.int) → sp [.ref a] H (fun v _ => v = .bl true) fun _ _ _ => False)
    (hCX : ∀ H e s', CX [] H s₁ (fun _ _ _ => False) e s' → False) :
    codeAny (model P w) callerA (.call (.ref fa) ⟨[.ref a], []⟩)
      (fun r s' => r = .ok (.ret (.bool true)) ∧ OldK s₁.heap s'.heap ∧ s'.os = s₁.os ∧ AllBare s'.gens) s₁ := by
  have rv := vals_ints hi
  have nV := hi.length
  -- H knows nothing, or just the script, which is frozen
  have go : ∀ H : Hp, (∀ b, H b = none ∨ (b = a ∧ K.lookup b = none ∧ ∃ o ys, H b = some (.frz o (.lst ys)))) → SqL K H a (ns.map V.int) → HOk P w H s₁.heap →
      codeAny (model P w) callerA (.call (.ref fa) ⟨[.ref a], []⟩)
        (fun r s' => r = .ok (.ret (.bool true)) ∧ OldK s₁.heap s'.heap ∧ s'.os = s₁.os ∧ AllBare s'.gens) s₁ := by
    intro H hO hS hok
    have unk : ∀ {b : Addr} {o : Obj}, s₁.heap.get? b = some o → o.data ≠ .seq vs.toArray → H b = none := by
      intro b o e nd
      rcases hO b with q | ⟨q, _, _⟩
      · exact q
      · rw [q, ha] at e; cases e; exact absurd rfl nd
    have nsH : ∀ {b : Addr} {m : Str → Option Value}, s₁.heap.Ns b m → (hidT s₁.heap H).Ns b m := by
      rintro b m ⟨o, es, ep, e, d, r⟩
      exact ⟨o, es, ep, hidT_get e (unk e (by rw [d]; exact fun z => nomatch z)), d, r⟩
    have kH : K.In (hidT s₁.heap H) := by
      intro b o e
      refine hidT_get (KX b o e) ?_
      rcases hO b with q | ⟨_, q, _⟩
      · exact q
      · rw [q] at e; cases e
    have md : Mod K mg (hidT s₁.heap H) := by
      refine ⟨kH, nsH hns, ⟨mb, nsH hb, hbb⟩, ?_⟩
      obtain ⟨mc, h1, h2⟩ := hlim
      exact ⟨mc, nsH h1, h2⟩
    have e0 : Env0 P w K mg (hidT s₁.heap H) callerA [] s₁ H := by
      refine ⟨rfl, md, fun b o e => of_hidT e, Nat.le_of_eq (hidT_size _ _), trivial, ?_, hok, .of_eq hg⟩
      intro b hb
      exact absurd (show b ∈ ([] : List Addr) from hb) (List.not_mem_nil)
    have run := (F _ kH (nsH hns)).run callerA [] s₁ H ⟨[.ref a], []⟩ [.ref a] [.ref a] _ _ hr rfl e0 (hbind s₁ (.ref a)) (.cons rfl .nil) (hsp H hS)
    refine codeAny_mono run (fun r s' h => ?_)
    match r, h with
    | .error e, h => exact (hCX H e s' h).elim
    | .ok .next, h => exact h.elim
    | .ok .brk, h => exact h.elim
    | .ok .cont, h => exact h.elim
    | .ok (.ret u), h =>
      obtain ⟨v, H', os, bare, un, hok', r', q⟩ := h
      cases (show v = .bl true from q)
      cases (show u = Value.bool true from r')
      refine ⟨rfl, OldK.of_keep (fun b o e => ?_), os, bare⟩
      rcases hO b with q | ⟨_, _, ob, ys, q⟩
      · exact un.keep b o e q (fun z => absurd (show b ∈ ([] : List Addr) from z) List.not_mem_nil) List.not_mem_nil
      · obtain ⟨e1, _⟩ := hok b _ q
        obtain ⟨e2, _⟩ := hok' b _ (un.frzs b ob _ q)
        rw [e] at e1; cases e1; exact e2
  by_cases hk : K.lookup a = none
  · have at_a : (fun b => if b = a then some (HO.frz { cls := .type "list", data := .seq vs.toArray } (.lst (ns.map V.int))) else none : Hp) a = some (.frz { cls := .type "list", data := .seq vs.toArray } (.lst (ns.map V.int))) := if_pos rfl
    refine go (fun b => if b = a then some (.frz { cls := .type "list", data := .seq vs.toArray } (.lst (ns.map V.int))) else none) (fun b => ?_) (.inl (.inr ⟨_, at_a⟩)) (fun b u z => ?_)
    · by_cases e : b = a
      · exact .inr ⟨e, by rw [e]; exact hk, _, _, if_pos e⟩
      · exact .inl (if_neg e)
    · dsimp only at z
      by_cases e : b = a
      · rw [if_pos e] at z; cases z; subst e
        exact ⟨ha, by rw [List.length_map]; exact hl, vs, _, rv, ha⟩
      · rw [if_neg e] at z; cases z
  · obtain ⟨o, ho⟩ := Option.ne_none_iff_exists'.mp hk
    have e := KX a o ho
    rw [ha] at e; cases e
    refine go (fun _ => none) (fun _ => .inl rfl) (.inr ⟨_, vs.toArray, _, ho, rfl, rfl, rfl, ?_, by simpa using rv⟩) (fun b u z => nomatch z)
    rw [List.size_toArray, nV]; exact hl
end
/-- what the head leaves, from the law's promise -/
theorem walkG {l : PySem.W.OpenLaw} {k : Nat} {q : Program} {loose : List Str} {XP : (Str → Option Value) → Heap → Prop} {YP : World → Heap → Prop} {d : DefRec}
    {K : Params → PySem.W.Frag} {sp : PySem.W.Frag → Sp} {x : Str} (hn : l.most = some 63) (hdf : d.params.defaults = []) (hr : Room k callerA)
    (hY : ∀ (w : World) (h : Heap), YP w h → (K w.params).In h)
    (F : ∀ (w : World) (mg : Str → Option Value) (fa : Addr) (h : Heap), (K w.params).In h → h.Ns mainGlobals mg → mg d.name = some (.ref fa) →
      ∃ fd : FuncData, (∀ (s : Shared) (u : Value), BindsTo s fd ⟨[u], []⟩ [(x, u)]) ∧
        ∀ base : Heap, (K w.params).In base → base.Ns mainGlobals mg → FnG l.prog w (K w.params) mg base CX0 k fa fd [x] (sp (K w.params)))
    (hsp : ∀ (K : PySem.W.Frag) (H : Hp) (a : Addr) (ns : List Int), ns.length ≤ 63 → SqL K H a (ns.map V.int) → sp K [.ref a] H (fun v _ => v = .bl true) fun _ _ _ => False) :
    PySem.W.WalkO q loose XP YP l.row.toRowW d [] (fun f vs => PySem.call f vs) := by
  refine Att.attach_call hn hdf (fun w s₀ s₁ mg mb fa o pm cd doc a vs ns G Y ho hd hcd hmg hobj hints hlen hg => ?_)
  have KX := hY w _ Y
  obtain ⟨fd, hb, hF⟩ := F w mg fa _ KX G.T.g hmg
  exact law_callG KX G.T.g G.T.b G.T.builtins G.T.nolimit hg hobj hints (Nat.le_trans hlen (by decide)) hr hF hb (fun H hS => hsp _ H a ns hlen hS) (fun _ _ _ h => h)
end Gs

set_option Elab.async false
set_option linter.all false
set_option maxRecDepth 100000
set_option maxHeartbeats 4000000
namespace K1
open PySem PySem.Spec PyProof.Rows L2 Gs
def top (i : Nat) : Stmt := PySem.Challenge.pw_gapsame_k01_plain_values.main.body.getD i (.Pass ⟨0, 0, 0, 0⟩)
abbrev s_is_integer : Stmt := top 4
abbrev n_is_integer : List Str := ["value"]
theorem sc_is_integer : FnScope n_is_integer ["value"] (defScope s_is_integer) := ⟨rfl, rfl, rfl, by decide +kernel, rfl, by decide +kernel, by decide +kernel⟩
abbrev s_is_within : Stmt := top 5
abbrev n_is_within : List Str := ["value", "least", "most"]
theorem sc_is_within : FnScope n_is_within ["value", "least", "most"] (defScope s_is_within) := ⟨rfl, rfl, rfl, by decide +kernel, rfl, by decide +kernel, by decide +kernel⟩
abbrev s_is_list : Stmt := top 6
abbrev n_is_list : List Str := ["value"]
theorem sc_is_list : FnScope n_is_list ["value"] (defScope s_is_list) := ⟨rfl, rfl, rfl, by decide +kernel, rfl, by decide +kernel, by decide +kernel⟩
abbrev s_is_square : Stmt := top 7
abbrev n_is_square : List Str := ["value"]
theorem sc_is_square : FnScope n_is_square ["value"] (defScope s_is_square) := ⟨rfl, rfl, rfl, by decide +kernel, rfl, by decide +kernel, by decide +kernel⟩
abbrev s_is_move : Stmt := top 8
abbrev n_is_move : List Str := ["value"]
theorem sc_is_move : FnScope n_is_move ["value"] (defScope s_is_move) := ⟨rfl, rfl, rfl, by decide +kernel, rfl, by decide +kernel, by decide +kernel⟩
abbrev s_is_name : Stmt := top 9
abbrev n_is_name : List Str := ["value", "sign"]
theorem sc_is_name : FnScope n_is_name ["value"] (defScope s_is_name) := ⟨rfl, rfl, rfl, by decide +kernel, rfl, by decide +kernel, by decide +kernel⟩
abbrev s__law_crate : Stmt := top 11
abbrev n__law_crate : List Str := ["script", "cell"]
theorem sc__law_crate : FnScope n__law_crate ["script"] (defScope s__law_crate) := ⟨rfl, rfl, rfl, by decide +kernel, rfl, by decide +kernel, by decide +kernel⟩
abbrev s__law_lift : Stmt := top 12
abbrev n__law_lift : List Str := ["crate", "many", "rest", "at", "cell", "mixed"]
theorem sc__law_lift : FnScope n__law_lift ["crate", "many"] (defScope s__law_lift) := ⟨rfl, rfl, rfl, by decide +kernel, rfl, by decide +kernel, by decide +kernel⟩
abbrev s__law_one : Stmt := top 13
abbrev n__law_one : List Str := ["crate", "some"]
theorem sc__law_one : FnScope n__law_one ["crate", "some"] (defScope s__law_one) := ⟨rfl, rfl, rfl, by decide +kernel, rfl, by decide +kernel, by decide +kernel⟩
abbrev s__law_value : Stmt := top 14
abbrev n__law_value : List Str := ["crate", "number", "some"]
theorem sc__law_value : FnScope n__law_value ["crate"] (defScope s__law_value) := ⟨rfl, rfl, rfl, by decide +kernel, rfl, by decide +kernel, by decide +kernel⟩
abbrev s__law_own_integer : Stmt := top 15
abbrev n__law_own_integer : List Str := ["value"]
theorem sc__law_own_integer : FnScope n__law_own_integer ["value"] (defScope s__law_own_integer) := ⟨rfl, rfl, rfl, by decide +kernel, rfl, by decide +kernel, by decide +kernel⟩
abbrev s__law_own_square : Stmt := top 16
abbrev n__law_own_square : List Str := ["value", "each"]
theorem sc__law_own_square : FnScope n__law_own_square ["value"] (defScope s__law_own_square) := ⟨rfl, rfl, rfl, by decide +kernel, rfl, by decide +kernel, by decide +kernel⟩
abbrev s__law_pair : Stmt := top 17
abbrev n__law_pair : List Str := ["crate", "some", "turn", "odd"]
theorem sc__law_pair : FnScope n__law_pair ["crate"] (defScope s__law_pair) := ⟨rfl, rfl, rfl, by decide +kernel, rfl, by decide +kernel, by decide +kernel⟩
abbrev s__law_name : Stmt := top 18
abbrev n__law_name : List Str := ["crate", "letters", "name", "at"]
theorem sc__law_name : FnScope n__law_name ["crate"] (defScope s__law_name) := ⟨rfl, rfl, rfl, by decide +kernel, rfl, by decide +kernel, by decide +kernel⟩
abbrev s__law_names_right : Stmt := top 19
abbrev n__law_names_right : List Str := ["crate", "name", "at", "odd", "is_so", "told"]
theorem sc__law_names_right : FnScope n__law_names_right ["crate"] (defScope s__law_names_right) := ⟨rfl, rfl, rfl, by decide +kernel, rfl, by decide +kernel, by decide +kernel⟩
abbrev s_law : Stmt := top 20
abbrev n_law : List Str := ["script", "crate", "turn", "value", "low", "high", "number", "bounds", "due", "told", "one", "other", "kept", "move", "is_pair", "each", "dues"]
theorem sc_law : FnScope n_law ["script"] (defScope s_law) := ⟨rfl, rfl, rfl, by decide +kernel, rfl, by decide +kernel, by decide +kernel⟩
/-- (a, b, c) as (b, c, a) -/
def turn3 {α : Type} : List α → List α
  | [a, b, c] => [b, c, a]
  | l => l
structure Tx (K : PySem.W.Frag) (mg : Str → Option Value) where
  a_is_integer : Addr
  d_is_integer : FuncData
  F_is_integer : Fun K "is_integer" "is_integer" s_is_integer a_is_integer d_is_integer
  m_is_integer : mg "is_integer" = some (.ref a_is_integer)
  b_is_integer : Binds K d_is_integer ["value"] []
  a_is_within : Addr
  d_is_within : FuncData
  F_is_within : Fun K "is_within" "is_within" s_is_within a_is_within d_is_within
  m_is_within : mg "is_within" = some (.ref a_is_within)
  b_is_within : Binds K d_is_within ["value", "least", "most"] []
  a_is_list : Addr
  d_is_list : FuncData
  F_is_list : Fun K "is_list" "is_list" s_is_list a_is_list d_is_list
  m_is_list : mg "is_list" = some (.ref a_is_list)
  b_is_list : Binds K d_is_list ["value"] []
  a_is_square : Addr
  d_is_square : FuncData
  F_is_square : Fun K "is_square" "is_square" s_is_square a_is_square d_is_square
  m_is_square : mg "is_square" = some (.ref a_is_square)
  b_is_square : Binds K d_is_square ["value"] []
  a_is_move : Addr
  d_is_move : FuncData
  F_is_move : Fun K "is_move" "is_move" s_is_move a_is_move d_is_move
  m_is_move : mg "is_move" = some (.ref a_is_move)
  b_is_move : Binds K d_is_move ["value"] []
  a_is_name : Addr
  d_is_name : FuncData
  F_is_name : Fun K "is_name" "is_name" s_is_name a_is_name d_is_name
  m_is_name : mg "is_name" = some (.ref a_is_name)
  b_is_name : Binds K d_is_name ["value"] []
  a__law_crate : Addr
  d__law_crate : FuncData
  F__law_crate : Fun K "_law_crate" "_law_crate" s__law_crate a__law_crate d__law_crate
  m__law_crate : mg "_law_crate" = some (.ref a__law_crate)
  b__law_crate : Binds K d__law_crate ["script"] []
  a__law_lift : Addr
  d__law_lift : FuncData
  F__law_lift : Fun K "_law_lift" "_law_lift" s__law_lift a__law_lift d__law_lift
  m__law_lift : mg "_law_lift" = some (.ref a__law_lift)
  b__law_lift : Binds K d__law_lift ["crate", "many"] []
  a__law_one : Addr
  d__law_one : FuncData
  F__law_one : Fun K "_law_one" "_law_one" s__law_one a__law_one d__law_one
  m__law_one : mg "_law_one" = some (.ref a__law_one)
  b__law_one : Binds K d__law_one ["crate", "some"] []
  a__law_value : Addr
  d__law_value : FuncData
  F__law_value : Fun K "_law_value" "_law_value" s__law_value a__law_value d__law_value
  m__law_value : mg "_law_value" = some (.ref a__law_value)
  b__law_value : Binds K d__law_value ["crate"] []
  a__law_own_integer : Addr
  d__law_own_integer : FuncData
  F__law_own_integer : Fun K "_law_own_integer" "_law_own_integer" s__law_own_integer a__law_own_integer d__law_own_integer
  m__law_own_integer : mg "_law_own_integer" = some (.ref a__law_own_integer)
  b__law_own_integer : Binds K d__law_own_integer ["value"] []
  a__law_own_square : Addr
  d__law_own_square : FuncData
  F__law_own_square : Fun K "_law_own_square" "_law_own_square" s__law_own_square a__law_own_square d__law_own_square
  m__law_own_square : mg "_law_own_square" = some (.ref a__law_own_square)
  b__law_own_square : Binds K d__law_own_square ["value"] []
  a__law_pair : Addr
  d__law_pair : FuncData
  F__law_pair : Fun K "_law_pair" "_law_pair" s__law_pair a__law_pair d__law_pair
  m__law_pair : mg "_law_pair" = some (.ref a__law_pair)
  b__law_pair : Binds K d__law_pair ["crate"] []
  a__law_name : Addr
  d__law_name : FuncData
  F__law_name : Fun K "_law_name" "_law_name" s__law_name a__law_name d__law_name
  m__law_name : mg "_law_name" = some (.ref a__law_name)
  b__law_name : Binds K d__law_name ["crate"] []
  a__law_names_right : Addr
  d__law_names_right : FuncData
  F__law_names_right : Fun K "_law_names_right" "_law_names_right" s__law_names_right a__law_names_right d__law_names_right
  m__law_names_right : mg "_law_names_right" = some (.ref a__law_names_right)
  b__law_names_right : Binds K d__law_names_right ["crate"] []
  a_law : Addr
  d_law : FuncData
  F_law : Fun K "law" "law" s_law a_law d_law
  m_law : mg "law" = some (.ref a_law)
  b_law : Binds K d_law ["script"] []
  z_isinstance : mg "isinstance" = none
  z_int : mg "int" = none
  z_bool : mg "bool" = none
  z_list : mg "list" = none
  z_tuple : mg "tuple" = none
  z_len : mg "len" = none
  z_str : mg "str" = none
  z_all : mg "all" = none
  z_abs : mg "abs" = none
  z_range : mg "range" = none
  z_repr : mg "repr" = none
  kb_is_name : KB K d_is_name ["value"] ["value"] 0 (fun _ ws => ws) (fun _ zs => zs)
  kb_is_integer : KB K d_is_integer ["value"] ["value"] 0 (fun _ ws => ws) (fun _ zs => zs)
  kb_is_square : KB K d_is_square ["value"] ["value"] 0 (fun _ ws => ws) (fun _ zs => zs)
  kb_is_move : KB K d_is_move ["value"] ["value"] 0 (fun _ ws => ws) (fun _ zs => zs)
  kb_is_within : KB K d_is_within ["value", "least", "most"] ["most", "value", "least"] 0 (fun _ ws => turn3 ws) (fun _ zs => turn3 zs)
  g_LETTERS : ∃ t, mg "LETTERS" = some (.str "abcdefghijklmnopqrstuvwxyz" t)
  g_LONGEST : ∃ t, mg "LONGEST_NAME" = some (.int 8 t)
  t_B : Addr
  g_B : mg "BARRED_NAMES" = some (.ref t_B)
  s_B : ∀ H, SqT K H t_B [.str "lord", .str "leaps", .str "rides", .str "stone"]

section
variable {P : Program} {w : World} {K : PySem.W.Frag} {mg : Str → Option Value} {base : Heap}
def spCrate (K : PySem.W.Frag) : Sp := fun vs H Q _ => ∃ (a : Addr) (ns : List Int), vs = [.ref a] ∧ SqL K H a (ns.map V.int) ∧ ns.length ≤ 63 ∧
  ∀ c l H', H c = none → H l = none → Ext c H H' → Bag c l 0 H' → Q (.ref c) H'
theorem cut60 (ns : List Int) : cutV (ns.map V.int) none (some 60) = (ns.take 60).map V.int := by
  unfold cutV
  rw [HT.sIx_none, show (some (60 : Int)) = some ((60 : Nat) : Int) from rfl, HT.sIx_nat, List.drop_zero, Nat.sub_zero, List.map_take, ← List.take_take, List.take_length]
theorem G__law_crate (T : Tx K mg) : FnG P w K mg base CX0 1 T.a__law_crate T.d__law_crate ["script"] (spCrate K) := by
  refine fun_okG T.F__law_crate sc__law_crate (fun vs H Q E h => ?_) (fun cdv A outer s H vs Q E hr hg h => ?_)
  · obtain ⟨a, ns, rfl, _⟩ := h; rfl
  · obtain ⟨a, ns, rfl, hS, hl, k⟩ := h
    refine ⟨_, (pss_one (ps_ret (pe_lst (pa_cons (pe_lc (own := [("cell", 1)]) (g := (gName 1)) rfl sc__law_crate.nd (pi_list (pe_slice sl_list (pv 0) po_none (po_some pe_int))) (blkOk_by (N := n__law_crate) (sc := defScope s__law_crate) (by decide +kernel)) (fun _ _ _ _ _ => (pg_name (i := 1) sc__law_crate.nd rfl (Or.inl rfl))) (fun _ _ _ _ _ => pts_nil) (fun _ _ _ _ _ => (pe_callTy call_int1 (by rfl) T.z_int (by decide +kernel) (pa_cons (pv 1) pa_nil)))) (pa_cons pe_int (pa_cons pe_int pa_nil)))))), ?_⟩
    refine ⟨_, rfl, _, rfl, a, _, rfl, hS, fun p hp => ?_⟩
    rw [cut60]
    have h60 : (ns.take 60).length ≤ 60 := List.length_take_le ..
    revert h60
    generalize ns.take 60 = ks
    intro h60
    refine ⟨p, rfl, ⟨_, .of upd_same⟩, fun D hD => ?_⟩
    have np : p ≠ D := fun e => by rw [← e, upd_same] at hD; cases hD
    have hD0 : H D = none := by rwa [upd_ne np.symm] at hD
    refine lc_list (K := K) (a := p) (xs := ks.map V.int) (fun i H' => H' p = some (.lst (ks.map V.int)) ∧ H' D = some (.lst ((ks.take i).map V.int)) ∧ ∀ b o, H b = some o → H' b = some o) ?_ ?_ ?_ ?_
    · refine ⟨by rw [upd_ne np, upd_same], upd_same, fun b o e => ?_⟩
      rw [upd_ne (ne_of_none e hD0), upd_ne (ne_of_none e hp)]; exact e
    · intro i H' _ h; exact .of h.1
    · rintro i x H' hx ⟨h1, h2, h3⟩
      obtain ⟨v, hv, rfl⟩ : ∃ v, ks[i]? = some v ∧ V.int v = x := by
        rw [List.getElem?_map] at hx
        cases e : ks[i]? with
        | none => rw [e] at hx; cases hx
        | some v => rw [e] at hx; exact ⟨v, rfl, Option.some.inj hx⟩
      refine ⟨rfl, ?_⟩
      refine ⟨_, rfl, .inl ⟨v, rfl, _, h2, ?_, ?_, ?_, ?_⟩⟩
      · rw [List.length_map]; exact szs (Nat.lt_of_le_of_lt (List.length_take_le' ..) (by omega))
      · rw [upd_ne np]; exact h1
      · rw [upd_same, List.take_add_one, hv, List.map_append]; rfl
      · intro b o e; rw [upd_ne (ne_of_none e hD0)]; exact h3 _ _ e
    · rintro H' ⟨h1, h2, h3⟩
      rw [List.length_map, List.take_length] at h2
      refine ⟨szl rfl, fun c hc => ?_⟩
      have nc : D ≠ c := ne_of_none h2 hc
      have hc0 : H c = none := by
        cases e : H c with
        | none => rfl
        | some o => rw [h3 _ _ e] at hc; cases hc
      refine k c D _ hc0 hD0 (fun b o _ e => ?_) ⟨ks, 0, 0, upd_same, by rw [upd_ne nc]; exact h2, nc, h60, by decide, by decide, by decide⟩
      rw [upd_ne (ne_of_none e hc0)]; exact h3 _ _ e
end
end K1

set_option Elab.async false
set_option linter.all false
set_option maxRecDepth 100000
set_option maxHeartbeats 4000000
namespace K1
open PySem PySem.Spec PyProof.Rows L2 Gs
section
variable {P : Program} {w : World} {K : PySem.W.Frag} {mg : Str → Option Value} {base : Heap}
def spLift : Sp := fun vs H Q _ => ∃ (c l : Addr) (n : Nat) (m : Int), vs = [.ref c, .int m] ∧ Bag c l n H ∧ n ≤ 1000000 ∧ 0 < m ∧ m < 1073741824 ∧
  ∀ v H', 0 ≤ v → v < m → Bag c l (n + 1) H' → Ext c H H' → Q (.int v) H'
theorem G__law_lift (T : Tx K mg) : FnG P w K mg base CX0 1 T.a__law_lift T.d__law_lift ["crate", "many"] spLift := by
  refine fun_okG T.F__law_lift sc__law_lift (fun vs H Q E h => ?_) (fun cdv A outer s H vs Q E hr hg h => ?_)
  · obtain ⟨c, l, n, m, rfl, _⟩ := h; rfl
  · obtain ⟨c, l, n, m, rfl, ⟨ns, pt, rest, hc, hl, nlc, hn, h0, h1, h2⟩, hN, hm0, hm1, k⟩ := h
    refine ⟨_, (pss_cons (ps_if (pt_cmpR (op_eqD hr.units) (pe_ix ix_list (pv 0) pe_int (fun _ _ => rfl)) (pe_lst pa_nil) (nomark _)) (pss_one (ps_ret pe_int)) pss_nil)
      (pss_cons (ps_if (pt_cmpR op_gt (pe_ix ix_list (pv 0) pe_int (fun _ _ => rfl)) pe_int (nomark _)) (pss_cons (ps_set (i := 2) sc__law_lift.nd rfl (Or.inl rfl) (pe_callTy call_int1 (by rfl) T.z_int (by decide +kernel) (pa_cons (pe_ix ix_list (pv 0) pe_int (fun _ _ => rfl)) pa_nil)))
      (pss_cons (ps_asg (pe_op op_fdiv (pv 2) (pv 1)) (pg_sub (pv 0) pe_int set_list))
      (pss_one (ps_ret (pe_op op_mod (pe_callTy call_int1 (by rfl) T.z_int (by decide +kernel) (pa_cons (pv 2) pa_nil)) (pv 1)))))) pss_nil)
      (pss_cons (ps_set (i := 3) sc__law_lift.nd rfl (Or.inl rfl) (pe_ix ix_list (pv 0) pe_int (fun _ _ => rfl)))
      (pss_cons (ps_asg (pe_op op_add (pv 3) pe_int) (pg_sub (pv 0) pe_int set_list))
      (pss_cons (ps_set (i := 4) sc__law_lift.nd rfl (Or.inl rfl) (pe_ix ix_list (pe_ix ix_list (pv 0) pe_int (fun _ _ => rfl)) (pe_op op_mod (pe_callTy call_int1 (by rfl) T.z_int (by decide +kernel) (pa_cons (pv 3) pa_nil)) (pe_callB call_len_seq (by rfl) T.z_len (by decide +kernel) (pa_cons (pe_ix ix_list (pv 0) pe_int (fun _ _ => rfl)) pa_nil))) (fun _ _ => rfl)))
      (pss_cons (ps_if (PW.pt (pw_and (pt_cmpR op_lt (pv 3) (pe_callB call_len_seq (by rfl) T.z_len (by decide +kernel) (pa_cons (pe_ix ix_list (pv 0) pe_int (fun _ _ => rfl)) pa_nil)) (nomark _)) (pw_and1 (pt_cmpR op_ge (pe_callB call_abs (by rfl) T.z_abs (by decide +kernel) (pa_cons (pv 4) pa_nil)) (pe_op op_pow pe_int pe_int) (nomark _))))) (pss_cons (ps_set (i := 2) sc__law_lift.nd rfl (Or.inl rfl) (pe_op op_add (pe_op op_mul pe_int (pe_op op_sub (pe_callB call_abs (by rfl) T.z_abs (by decide +kernel) (pa_cons (pv 4) pa_nil)) (pe_op op_pow pe_int pe_int))) (pe_callTy call_int1 (by rfl) T.z_int (by decide +kernel) (pa_cons (pe_cmpR op_lt (pv 4) pe_int (nomark _)) pa_nil))))
      (pss_cons (ps_asg (pe_op op_fdiv (pe_callTy call_int1 (by rfl) T.z_int (by decide +kernel) (pa_cons (pv 2) pa_nil)) (pv 1)) (pg_sub (pv 0) pe_int set_list))
      (pss_one (ps_ret (pe_op op_mod (pe_callTy call_int1 (by rfl) T.z_int (by decide +kernel) (pa_cons (pv 2) pa_nil)) (pv 1)))))) pss_nil)
      (pss_cons (ps_set (i := 5) sc__law_lift.nd rfl (Or.inl rfl) (pe_op op_mod (pe_callTy call_int1 (by rfl) T.z_int (by decide +kernel) (pa_cons (pe_op op_pow (pe_op op_add (pe_op op_add (pe_op op_mod (pe_callTy call_int1 (by rfl) T.z_int (by decide +kernel) (pa_cons (pv 4) pa_nil)) pe_int) (pe_op op_mul pe_int (pv 3))) pe_int) pe_int) pa_nil)) pe_int))
      (pss_cons (ps_set (i := 5) sc__law_lift.nd rfl (Or.inl rfl) (pe_op op_mod (pe_callTy call_int1 (by rfl) T.z_int (by decide +kernel) (pa_cons (pe_op op_pow (pe_op op_add (pe_op op_add (pe_op op_mul (pv 5) (pe_op op_add (pe_op op_mul pe_int (pv 3)) pe_int)) (pe_op op_mul (pe_op op_mul pe_int (pv 3)) (pv 3))) pe_int) pe_int) pa_nil)) pe_int))
      (pss_one (ps_ret (pe_op op_mod (pe_callTy call_int1 (by rfl) T.z_int (by decide +kernel) (pa_cons (pe_op op_fdiv (pv 5) pe_int) pa_nil)) (pv 1)))))))))))), ?_⟩
    have hb : Bag c l n H := ⟨ns, pt, rest, hc, hl, nlc, hn, h0, h1, h2⟩
    -- the bag's list, is it empty
    refine ⟨_, rfl, c, _, 0, _, rfl, rfl, .of hc, rfl, szl rfl, fun e he => ?_⟩
    have nle : l ≠ e := ne_of_none hl he
    have nce : c ≠ e := ne_of_none hc he
    have hc1 : upd H e (.lst []) c = some (.lst [.ref l, .int pt, .int rest]) := by rw [upd_ne nce]; exact hc
    have hl1 : upd H e (.lst []) l = some (.lst (ns.map V.int)) := by rw [upd_ne nle]; exact hl
    have x1 : Ext c H (upd H e (.lst [])) := Ext.new he
    refine ⟨.list (ns.map .int), .list [], .lst (.of hl1) (dp_ints ns), .lst (.of upd_same) .nil, shaped_ints ns, by decide, _, rfl, ?_⟩
    refine ite2 (fun e0 => ?_) (fun e0 => ?_)
    · exact k 0 _ (by decide) hm0 (hb.mono (Nat.le_succ n) |>.new he) x1
    have hne : ns ≠ [] := fun z => by
      apply e0; rw [eqv_nil, z]; rfl
    generalize upd H e (.lst []) = H1 at hc1 hl1 x1
    -- what is left of a great number
    refine ⟨_, rfl, c, _, 2, _, rfl, rfl, .of hc1, rfl, _, _, rfl, rfl, _, rfl, ?_⟩
    refine ite2 (fun e2 => ?_) (fun e2 => ?_)
    · refine ⟨_, rfl, c, _, 2, _, rfl, rfl, .of hc1, rfl, .inl ⟨_, rfl, ?_⟩⟩
      refine ⟨_, rfl, _, rfl, _, _, rfl, rfl, ⟨hm0, hm1⟩, _, rfl, c, _, 2, 2, rfl, rfl, hc1, rfl, ?_⟩
      refine ⟨_, rfl, .inl ⟨_, rfl, _, rfl, _, _, rfl, rfl, hm0, ?_⟩⟩
      exact k (rest % m) _ (Int.emod_nonneg _ (by omega)) (Int.emod_lt_of_pos _ hm0) ⟨ns, pt, rest / m, upd_same, by rw [upd_ne nlc]; exact hl1, nlc, hn, h0, by omega, Int.ediv_nonneg h2 (by omega)⟩ (x1.trans Ext.bag)
    -- the next cell
    refine ⟨_, rfl, c, _, 1, _, rfl, rfl, .of hc1, rfl, ?_⟩
    refine ⟨_, rfl, _, _, rfl, rfl, _, rfl, c, _, 1, 1, rfl, rfl, hc1, rfl, ?_⟩
    refine gcut (fun H2 => H2 c = some (.lst [.ref l, .int (pt + 1), .int rest]) ∧ H2 l = some (.lst (ns.map V.int)) ∧ Ext c H H2) ⟨upd_same, by rw [upd_ne nlc]; exact hl1, x1.trans Ext.bag⟩ ?_
    rintro H2 ⟨hc2, hl2, x2⟩
    have x3 : ∀ r : Int, Ext c H (upd H2 c (.lst [.ref l, .int (pt + 1), .int r])) := fun r => x2.trans Ext.bag
    have hpt : pt ≤ 1000000 := by omega
    obtain ⟨v, hv⟩ := at_mod (pt := pt) hne h0
    have hlen : 0 < ((ns.map V.int).length : Int) := by
      have := List.length_pos_iff.mpr hne
      rw [List.length_map]; omega
    refine ⟨_, rfl, c, _, 0, _, rfl, rfl, .of hc2, rfl, _, rfl, .inl ⟨_, rfl, _, rfl, c, _, 0, _, rfl, rfl, .of hc2, rfl, l, _, rfl, .inl (.of hl2), _, _, rfl, rfl, hlen, l, _, _, .int v, rfl, rfl, .of hl2, hv, ?_⟩⟩
    -- at < len(bag[0]) and abs(cell) >= 10 ** 18
    refine ⟨_, rfl, _, rfl, c, _, 0, _, rfl, rfl, .of hc2, rfl, l, _, rfl, .inl (.of hl2), _, _, rfl, rfl, _, rfl, ?_⟩
    have fin : ∀ r : Int, 0 ≤ r → Bag c l (n + 1) (upd H2 c (.lst [.ref l, .int (pt + 1), .int r])) := fun r hr0 =>
      ⟨ns, pt + 1, r, upd_same, by rw [upd_ne nlc]; exact hl2, nlc, hn, by omega, by omega, hr0⟩
    have fin0 : Bag c l (n + 1) H2 := ⟨ns, pt + 1, rest, hc2, hl2, nlc, hn, by omega, by omega, h2⟩
    refine ite2 (fun e3 => ?_) (fun e3 => ?_)
    · refine ⟨_, rfl, _, rfl, _, _, rfl, rfl, ⟨by decide, by decide, by decide⟩, _, _, rfl, rfl, _, rfl, ?_⟩
      refine ite2 (fun e4 => ?_) (fun e4 => ?_)
      · -- a great number: what it tells is handed out bit by bit
        refine ⟨_, rfl, _, rfl, _, _, rfl, rfl, ⟨by decide, by decide, by decide⟩, _, _, rfl, rfl, _, _, rfl, rfl, .inl ⟨by decide, by decide⟩, _, rfl, _, _, rfl, rfl, .inr ⟨_, rfl, _, _, rfl, rfl, ?_⟩⟩
        have hbig : (0 : Int) ≤ 2 * ((if v < 0 then -v else v) - 10 ^ (18 : Int).toNat) + (if decide (v < 0) = true then 1 else 0) := by
          have := of_decide_eq_true e4
          split <;> omega
        refine ⟨_, rfl, .inl ⟨_, rfl, _, rfl, _, _, rfl, rfl, ⟨hm0, hm1⟩, _, rfl, c, _, 2, 2, rfl, rfl, hc2, rfl, ?_⟩⟩
        refine ⟨_, rfl, .inl ⟨_, rfl, _, rfl, _, _, rfl, rfl, hm0, ?_⟩⟩
        exact k _ _ (Int.emod_nonneg _ (by omega)) (Int.emod_lt_of_pos _ hm0) (fin _ (Int.ediv_nonneg hbig (Int.le_of_lt hm0))) (x3 _)
      · refine ⟨_, rfl, .inl ⟨_, rfl, _, _, rfl, rfl, pos_lit (by decide), _, rfl, _, _, rfl, rfl, .inl ⟨by decide, by decide⟩, _, _, rfl, rfl, _, _, rfl, rfl, _, _, rfl, rfl, ⟨by decide, by decide, by omega⟩, .inl ⟨_, rfl, _, _, rfl, rfl, pos_lit (by decide), ?_⟩⟩⟩
        refine ⟨_, rfl, _, rfl, _, _, rfl, rfl, .inl ⟨by decide, by decide⟩, _, _, rfl, rfl, _, _, rfl, rfl, .inl (emod_w (by decide) (by decide)), _, rfl, _, _, rfl, rfl, .inl ⟨by decide, by decide⟩, _, rfl, _, _, rfl, rfl, mul_pt h0 hpt (by decide) (by decide), _, _, rfl, rfl, _, _, rfl, rfl, _, _, rfl, rfl, ⟨by decide, by decide, mix_bound (emod_b (by decide) (by decide)).1 (emod_b (by decide) (by decide)).2 h0 hpt (by decide) (by decide) (by decide) (by decide) (by decide) (by decide)⟩, .inl ⟨_, rfl, _, _, rfl, rfl, pos_lit (by decide), ?_⟩⟩
        refine ⟨_, rfl, _, _, rfl, rfl, ⟨by decide, by decide⟩, .inl ⟨_, rfl, _, rfl, _, _, rfl, rfl, hm0, ?_⟩⟩
        exact k _ H2 (Int.emod_nonneg _ (by omega)) (Int.emod_lt_of_pos _ hm0) fin0 x2
    · refine ⟨_, rfl, .inl ⟨_, rfl, _, _, rfl, rfl, pos_lit (by decide), _, rfl, _, _, rfl, rfl, .inl ⟨by decide, by decide⟩, _, _, rfl, rfl, _, _, rfl, rfl, _, _, rfl, rfl, ⟨by decide, by decide, by omega⟩, .inl ⟨_, rfl, _, _, rfl, rfl, pos_lit (by decide), ?_⟩⟩⟩
      refine ⟨_, rfl, _, rfl, _, _, rfl, rfl, .inl ⟨by decide, by decide⟩, _, _, rfl, rfl, _, _, rfl, rfl, .inl (emod_w (by decide) (by decide)), _, rfl, _, _, rfl, rfl, .inl ⟨by decide, by decide⟩, _, rfl, _, _, rfl, rfl, mul_pt h0 hpt (by decide) (by decide), _, _, rfl, rfl, _, _, rfl, rfl, _, _, rfl, rfl, ⟨by decide, by decide, mix_bound (emod_b (by decide) (by decide)).1 (emod_b (by decide) (by decide)).2 h0 hpt (by decide) (by decide) (by decide) (by decide) (by decide) (by decide)⟩, .inl ⟨_, rfl, _, _, rfl, rfl, pos_lit (by decide), ?_⟩⟩
      refine ⟨_, rfl, _, _, rfl, rfl, ⟨by decide, by decide⟩, .inl ⟨_, rfl, _, rfl, _, _, rfl, rfl, hm0, ?_⟩⟩
      exact k _ H2 (Int.emod_nonneg _ (by omega)) (Int.emod_lt_of_pos _ hm0) fin0 x2
end
end K1

set_option Elab.async false
set_option linter.all false
set_option maxRecDepth 100000
set_option maxHeartbeats 4000000
namespace K1
open PySem PySem.Spec PyProof.Rows L2 Gs
section
variable {P : Program} {w : World} {K : PySem.W.Frag} {mg : Str → Option Value} {base : Heap}
def spOne (K : PySem.W.Frag) : Sp := fun vs H Q _ => ∃ (c l s : Addr) (n : Nat) (xs : List V), vs = [.ref c, .ref s] ∧ Bag c l n H ∧ n ≤ 1000000 ∧ s ≠ c ∧ SqL K H s xs ∧ xs ≠ [] ∧ xs.length ≤ 1000 ∧
  ∀ (i : Nat) (v : V) (H' : Hp), xs[i]? = some v → Bag c l (n + 1) H' → Ext c H H' → Q v H'
theorem G__law_one (T : Tx K mg) : FnG P w K mg base CX0 2 T.a__law_one T.d__law_one ["crate", "some"] (spOne K) := by
  refine fun_okG T.F__law_one sc__law_one (fun vs H Q E h => ?_) (fun cdv A outer s H vs Q E hr hg h => ?_)
  · obtain ⟨c, l, s, n, xs, rfl, _⟩ := h; rfl
  · obtain ⟨c, l, a, n, xs, rfl, hb, hN, na, hS, hne, hl, k⟩ := h
    have h0 : 0 < xs.length := List.length_pos_iff.mpr hne
    refine ⟨_, (pss_one (ps_ret (pe_ix ix_list (pv 1) (pg_call (G__law_lift T) (hr.mono (by decide)) hg (by rfl) T.m__law_lift T.F__law_lift.kp T.b__law_lift .nil pass0 (pa_cons (pv 0) (pa_cons (pe_callB call_len_seq (by rfl) T.z_len (by decide +kernel) (pa_cons (pv 1) pa_nil)) pa_nil))) (fun _ _ => rfl)))), ?_⟩
    refine ⟨_, rfl, _, rfl, _, rfl, a, xs, rfl, .inl hS, c, l, n, _, rfl, hb, hN, by omega, by omega, fun v H1 v0 v1 b1 x1 => ?_⟩
    obtain ⟨j, rfl⟩ := Int.eq_ofNat_of_zero_le v0
    have hj : j < xs.length := by omega
    refine ⟨a, xs, _, xs[j], rfl, rfl, x1.sqL na hS, atI_nat (List.getElem?_eq_getElem hj), ?_⟩
    exact k j _ H1 (List.getElem?_eq_getElem hj) b1 x1
def spValue (K : PySem.W.Frag) : Sp := fun vs H Q _ => ∃ (c l : Addr) (n : Nat), vs = [.ref c] ∧ Bag c l n H ∧ n ≤ 999990 ∧
  ∀ (v : V) (d : PyData) (H' : Hp), DV K c H' v d → Bag c l (n + 5) H' → Ext c H H' → Q v H'
theorem log_small {z : Int} (h : z.natAbs < 2 ^ 100) : z.natAbs.log2 < 1920 := by
  by_cases e : z.natAbs = 0
  · rw [e]; decide
  · exact Nat.lt_trans ((Nat.log2_lt e).mpr h) (by decide)
theorem G__law_value (T : Tx K mg) : FnG P w K mg base CX0 3 T.a__law_value T.d__law_value ["crate"] (spValue K) := by
  refine fun_okG T.F__law_value sc__law_value (fun vs H Q E h => ?_) (fun cdv A outer s H vs Q E hr hg h => ?_)
  · obtain ⟨c, l, n, rfl, _⟩ := h; rfl
  · obtain ⟨c, l, n, rfl, hb, hN, k⟩ := h
    refine ⟨_, (pss_cons (ps_set (i := 1) sc__law_value.nd rfl (Or.inl rfl) (pg_call (G__law_one T) (hr.mono (by decide)) hg (by rfl) T.m__law_one T.F__law_one.kp T.b__law_one .nil pass0 (pa_cons (pv 0) (pa_cons (pe_lst (pa_cons (pe_op op_sub (pg_call (G__law_lift T) (hr.mono (by decide)) hg (by rfl) T.m__law_lift T.F__law_lift.kp T.b__law_lift .nil pass0 (pa_cons (pv 0) (pa_cons pe_int pa_nil))) pe_int) (pa_cons (pe_op op_add (pe_op op_pow pe_int pe_int) (pg_call (G__law_lift T) (hr.mono (by decide)) hg (by rfl) T.m__law_lift T.F__law_lift.kp T.b__law_lift .nil pass0 (pa_cons (pv 0) (pa_cons pe_int pa_nil)))) (pa_cons (pe_un un_neg (pg_call (G__law_lift T) (hr.mono (by decide)) hg (by rfl) T.m__law_lift T.F__law_lift.kp T.b__law_lift .nil pass0 (pa_cons (pv 0) (pa_cons pe_int pa_nil)))) pa_nil)))) pa_nil))))
      (pss_cons (ps_set (i := 2) sc__law_value.nd rfl (Or.inl rfl) (pe_lst (pa_cons (pv 1) (pa_cons (pe_callTy call_str_int (by rfl) T.z_str (by decide +kernel) (pa_cons (pv 1) pa_nil)) (pa_cons pe_non (pa_cons pe_bl (pa_cons pe_bl (pa_cons (pe_lst (pa_cons (pv 1) pa_nil)) (pa_cons (pe_tup (pa_cons (pv 1) (pa_cons pe_int pa_nil))) (pa_cons (pe_disp (pps_cons (pv 1) (pe_lst (pa_cons (pv 1) pa_nil)) pps_nil) rfl rfl (by simp) (by decide)) (pa_cons pe_str (pa_cons (pe_lst pa_nil) (pa_cons (pe_tup pa_nil) (pa_cons (pe_lst (pa_cons (pe_lst (pa_cons (pv 1) pa_nil)) (pa_cons (pe_tup (pa_cons pe_int (pa_cons (pe_lst (pa_cons pe_int pa_nil)) pa_nil))) pa_nil))) (pa_cons (pe_lst (pa_cons pe_bl (pa_cons pe_int pa_nil))) (pa_cons pe_str pa_nil))))))))))))))))
      (pss_one (ps_ret (pg_call (G__law_one T) (hr.mono (by decide)) hg (by rfl) T.m__law_one T.F__law_one.kp T.b__law_one .nil pass0 (pa_cons (pv 0) (pa_cons (pv 2) pa_nil))))))), ?_⟩
    refine ⟨_, rfl, _, rfl, c, l, n, _, rfl, hb, by omega, by decide, by decide, fun v1 H1 a1 a2 b1 x1 => ?_⟩
    refine ⟨_, _, rfl, rfl, _, _, rfl, rfl, ⟨by decide, by decide, by decide⟩, _, rfl, c, l, n + 1, _, rfl, b1, by omega, by decide, by decide, fun v2 H2 a3 a4 b2 x2 => ?_⟩
    refine ⟨_, _, rfl, rfl, _, rfl, c, l, n + 2, _, rfl, b2, by omega, by decide, by decide, fun v3 H3 a5 a6 b3 x3 => ?_⟩
    refine ⟨_, rfl, szl rfl, fun p hp => ?_⟩
    have np := b3.ne hp
    refine ⟨c, l, p, n + 3, _, rfl, b3.new hp, by omega, np, .of upd_same, by simp, szl2 rfl, fun i v H4 hi b4 x4 => ?_⟩
    have x5 : Ext c H H4 := ((x1.trans x2).trans x3).trans ((Ext.new hp).trans x4)
    obtain ⟨z, rfl, hz⟩ : ∃ z : Int, v = .int z ∧ z.natAbs < 2 ^ 100 := by
      have hm := one_of hi
      simp only [List.mem_cons, List.not_mem_nil, or_false] at hm
      rcases hm with rfl | rfl | rfl
      · exact ⟨_, rfl, by omega⟩
      · exact ⟨_, rfl, by
          have : (10 : Int) ^ (20 : Int).toNat = 100000000000000000000 := by decide
          omega⟩
      · exact ⟨_, rfl, by omega⟩
    clear hi x4 x1 x2 x3 hp np b1 b2 b3
    refine ⟨_, rfl, _, rfl, _, rfl, log_small hz, ?_⟩
    -- [number]
    refine ⟨_, rfl, szl rfl, fun p1 hp1 => ?_⟩
    have f1 := new_lst hp1 (b4.ne hp1) (.cons (.int z) .nil) (K := K)
    have b5 := b4.new hp1 (o := .lst [.int z])
    generalize upd H4 p1 _ = H5 at f1 b5 ⊢
    -- (number, 2)
    refine ⟨_, rfl, szl rfl, fun p2 hp2 => ?_⟩
    have f2 := new_tup hp2 (b5.ne hp2) (.cons (.int z) (.cons (.int 2) .nil)) (K := K)
    have b6 := b5.new hp2 (o := .tup [.int z, .int 2])
    generalize upd H5 p2 _ = H6 at f2 b6 ⊢
    -- {number: [number]}
    intro p3 hp3
    have np3 := b6.ne hp3
    have b7 := b6.new hp3 (o := .dK [])
    have e7 : upd H6 p3 (.dK []) p3 = some (.dK []) := upd_same
    have x7 : Ext c H6 (upd H6 p3 (.dK [])) := Ext.new hp3
    generalize upd H6 p3 _ = H7 at b7 e7 x7 ⊢
    refine ⟨_, rfl, _, rfl, szl rfl, fun p4 hp4 => ?_⟩
    have n34 : p3 ≠ p4 := ne_of_none e7 hp4
    have f4 := new_lst hp4 (b7.ne hp4) (.cons (.int z) .nil) (K := K)
    have b8 := b7.new hp4 (o := .lst [.int z])
    have e8 : upd H7 p4 (.lst [.int z]) p3 = some (.dK []) := by rw [upd_ne n34]; exact e7
    have l8 : upd H7 p4 (.lst [.int z]) p4 = some (.lst [.int z]) := upd_same
    generalize upd H7 p4 _ = H8 at f4 b8 e8 l8 ⊢
    refine ⟨e8, [(.inl z, .ref p4)], rfl, Nat.le_of_ble_eq_true rfl, ?_⟩
    have x8 : Ext c H6 (upd H8 p3 (.dK [(.inl z, .ref p4)])) := (x7.trans f4.2).own hp3
    have b9 := b8.put (o := .dK [(.inl z, .ref p4)]) np3 (b6.ne2 hp3)
    have f3 : DV K c (upd H8 p3 (.dK [(.inl z, .ref p4)])) (.ref p3) (.dict [(.int z, .list [.int z])]) :=
      .dic np3 upd_same (.cons (.int z) (.lst (b7.ne hp4) (.of (by rw [upd_ne n34.symm]; exact l8)) (.cons (.int z) .nil)) .nil)
    change tCons _ _ _ (upd H8 p3 (.dK [(.inl z, .ref p4)])) _
    generalize upd H8 p3 _ = H9 at f3 b9 x8 ⊢
    clear f4 b8 e8 l8 n34 hp4 x7 e7 b7 np3 hp3
    -- '', [], ()
    refine ⟨szl rfl, fun p5 hp5 => ?_⟩
    have f5 := new_lst hp5 (b9.ne hp5) .nil (K := K)
    have b10 := b9.new hp5 (o := .lst [])
    generalize upd H9 p5 _ = H10 at f5 b10 ⊢
    refine ⟨szl rfl, fun p6 hp6 => ?_⟩
    have f6 := new_tup hp6 (b10.ne hp6) .nil (K := K)
    have b11 := b10.new hp6 (o := .tup [])
    generalize upd H10 p6 _ = H11 at f6 b11 ⊢
    -- [[number], (1, [2])]
    refine ⟨_, rfl, szl rfl, fun p7 hp7 => ?_⟩
    have f7 := new_lst hp7 (b11.ne hp7) (.cons (.int z) .nil) (K := K)
    have b12 := b11.new hp7 (o := .lst [.int z])
    generalize upd H11 p7 _ = H12 at f7 b12 ⊢
    refine ⟨szl rfl, fun p8 hp8 => ?_⟩
    have f8 := new_lst hp8 (b12.ne hp8) (.cons (.int 2) .nil) (K := K)
    have b13 := b12.new hp8 (o := .lst [.int 2])
    generalize upd H12 p8 _ = H13 at f8 b13 ⊢
    refine ⟨szl rfl, fun p9 hp9 => ?_⟩
    have f9 := new_tup hp9 (b13.ne hp9) (.cons (.int 1) (.cons f8.1 .nil)) (K := K)
    have b14 := b13.new hp9 (o := .tup [.int 1, .ref p8])
    generalize upd H13 p9 _ = H14 at f9 b14 ⊢
    refine ⟨szl rfl, fun p10 hp10 => ?_⟩
    have f10 := new_lst hp10 (b14.ne hp10) (.cons ((f7.1.up f8.2).up f9.2) (.cons f9.1 .nil)) (K := K)
    have b15 := b14.new hp10 (o := .lst [.ref p7, .ref p9])
    generalize upd H14 p10 _ = H15 at f10 b15 ⊢
    -- [True, 0]
    refine ⟨szl rfl, fun p11 hp11 => ?_⟩
    have f11 := new_lst hp11 (b15.ne hp11) (.cons (.bl true) (.cons (.int 0) .nil)) (K := K)
    have b16 := b15.new hp11 (o := .lst [.bl true, .int 0])
    generalize upd H15 p11 _ = H16 at f11 b16 ⊢
    -- the whole list, one of it
    refine ⟨szl rfl, fun p12 hp12 => ?_⟩
    have np := b16.ne hp12
    have b17 := b16.new hp12 (o := .lst [.int z, .str (toString z), .non, .bl true, .bl false, .ref p1, .ref p2, .ref p3, .str "", .ref p5, .ref p6, .ref p10, .ref p11, .str "[1]"])
    have y9 := ((f5.2.trans f6.2).trans (f7.2.trans f8.2)).trans ((f9.2.trans f10.2).trans f11.2)
    have y11 := ((f7.2.trans f8.2).trans (f9.2.trans f10.2)).trans f11.2
    have y10 := f6.2.trans y11
    have y6 := x8.trans y9
    have y5 := f2.2.trans y6
    have hd : DVs K c H16 [.int z, .str (toString z), .non, .bl true, .bl false, .ref p1, .ref p2, .ref p3, .str "", .ref p5, .ref p6, .ref p10, .ref p11, .str "[1]"] _ :=
      .cons (.int z) (.cons (.str _) (.cons .non (.cons (.bl _) (.cons (.bl _) (.cons (f1.1.up y5) (.cons (f2.1.up y6) (.cons (f3.up y9) (.cons (.str _)
        (.cons (f5.1.up y10) (.cons (f6.1.up y11) (.cons (f10.1.up f11.2) (.cons f11.1 (.cons (.str _) .nil)))))))))))))
    have xx : Ext c H4 (upd H16 p12 (.lst [.int z, .str (toString z), .non, .bl true, .bl false, .ref p1, .ref p2, .ref p3, .str "", .ref p5, .ref p6, .ref p10, .ref p11, .str "[1]"])) := (f1.2.trans y5).trans (Ext.new hp12)
    refine ⟨_, rfl, _, rfl, c, l, p12, n + 4, _, rfl, b17, by omega, np, .of upd_same, by simp, szl2 rfl, fun i v H18 hi b18 x18 => ?_⟩
    obtain ⟨d, _, hdv⟩ := hd.at hi
    exact k v d H18 ((hdv.up (Ext.new hp12)).up x18) b18 ((x5.trans xx).trans x18)
end
end K1

set_option Elab.async false
set_option linter.all false
set_option maxRecDepth 100000
set_option maxHeartbeats 4000000
namespace K1
open PySem PySem.Spec PyProof.Rows L2 Gs
section
variable {P : Program} {w : World} {K : PySem.W.Frag} {mg : Str → Option Value} {base : Heap}
theorem spB_len {f : PyData → Bool} {n : Str} : ∀ (vs : List V) (H : Hp) (Q : VK) (E : XK), spB K f vs H Q E → vs.length = [n].length := by
  rintro vs H Q E ⟨c, v, d, rfl, _⟩; rfl
theorem G_is_integer (T : Tx K mg) : FnG P w K mg base CX0 1 T.a_is_integer T.d_is_integer ["value"] (spB K isInt) := by
  refine fun_okG T.F_is_integer sc_is_integer spB_len (fun cdv A outer s H vs Q E hr hg h => ?_)
  obtain ⟨c, v, d, rfl, hd, k⟩ := h
  refine ⟨_, (pss_one (ps_ret (pe_and (pe_callB call_isi (by rfl) T.z_isinstance (by decide +kernel) (pa_cons (pv 0) (pa_cons (pe_bltn (v := .ty "int") (u := .type "int") (by rfl) T.z_int (by decide +kernel) rfl) pa_nil))) (pe_one (pe_not (pe_callB call_isi (by rfl) T.z_isinstance (by decide +kernel) (pa_cons (pv 0) (pa_cons (pe_bltn (v := .ty "bool") (u := .type "bool") (by rfl) T.z_bool (by decide +kernel) rfl) pa_nil)))))))), ?_⟩
  refine ⟨_, rfl, _, .ty "int", .type (tyN _), .type "int", _, rfl, .ty _, ty_of hd, kit_ty (kI _), _, rfl, ?_⟩
  have k := k H (Same.refl H)
  cases d with
  | int i => exact iteT ⟨_, rfl, _, .ty "bool", .type (tyN _), .type "bool", _, rfl, .ty _, ty_of hd, kit_ty (kB _), _, rfl, k⟩
  | bool i => exact iteT ⟨_, rfl, _, .ty "bool", .type (tyN _), .type "bool", _, rfl, .ty _, ty_of hd, kit_ty (kB _), _, rfl, k⟩
  | _ => exact iteF k
theorem G__law_own_integer (T : Tx K mg) : FnG P w K mg base CX0 1 T.a__law_own_integer T.d__law_own_integer ["value"] (spB K isInt) := by
  refine fun_okG T.F__law_own_integer sc__law_own_integer spB_len (fun cdv A outer s H vs Q E hr hg h => ?_)
  obtain ⟨c, v, d, rfl, hd, k⟩ := h
  refine ⟨_, (pss_one (ps_ret (pe_and (pe_callB call_isi (by rfl) T.z_isinstance (by decide +kernel) (pa_cons (pv 0) (pa_cons (pe_bltn (v := .ty "int") (u := .type "int") (by rfl) T.z_int (by decide +kernel) rfl) pa_nil))) (pe_one (pe_not (pe_callB call_isi (by rfl) T.z_isinstance (by decide +kernel) (pa_cons (pv 0) (pa_cons (pe_bltn (v := .ty "bool") (u := .type "bool") (by rfl) T.z_bool (by decide +kernel) rfl) pa_nil)))))))), ?_⟩
  refine ⟨_, rfl, _, .ty "int", .type (tyN _), .type "int", _, rfl, .ty _, ty_of hd, kit_ty (kI _), _, rfl, ?_⟩
  have k := k H (Same.refl H)
  cases d with
  | int i => exact iteT ⟨_, rfl, _, .ty "bool", .type (tyN _), .type "bool", _, rfl, .ty _, ty_of hd, kit_ty (kB _), _, rfl, k⟩
  | bool i => exact iteT ⟨_, rfl, _, .ty "bool", .type (tyN _), .type "bool", _, rfl, .ty _, ty_of hd, kit_ty (kB _), _, rfl, k⟩
  | _ => exact iteF k
theorem G_is_list (T : Tx K mg) : FnG P w K mg base CX0 1 T.a_is_list T.d_is_list ["value"] (spB K isSeq) := by
  refine fun_okG T.F_is_list sc_is_list spB_len (fun cdv A outer s H vs Q E hr hg h => ?_)
  obtain ⟨c, v, d, rfl, hd, k⟩ := h
  refine ⟨_, (pss_one (ps_ret (pe_callB call_isiT (by rfl) T.z_isinstance (by decide +kernel) (pa_cons (pv 0) (pa_cons (pe_tup (pa_cons (pe_bltn (v := .ty "list") (u := .type "list") (by rfl) T.z_list (by decide +kernel) rfl) (pa_cons (pe_bltn (v := .ty "tuple") (u := .type "tuple") (by rfl) T.z_tuple (by decide +kernel) rfl) pa_nil))) pa_nil))))), ?_⟩
  refine ⟨_, rfl, szl rfl, fun p hp => ?_⟩
  have hd1 := hd.up (Ext.new hp (o := .tup [.ty "list", .ty "tuple"]))
  exact ⟨v, _, [.ty "list", .ty "tuple"], .type (tyN _), [.type "list", .type "tuple"], isSeq _, rfl, upd_same, .cons (.ty _) (.cons (.ty _) .nil), ty_of hd1, kit_seq _, k _ (same_new hp)⟩
/-- whether an integer lies within -/
def inB (lo hi : Option Int) : PyData → Bool
  | .int z => (match lo with | none => true | some l => decide (l ≤ z)) && (match hi with | none => true | some u => decide (z ≤ u))
  | _ => false
def oV : Option Int → V
  | none => .non
  | some i => .int i
def spWithin (K : PySem.W.Frag) : Sp := fun vs H Q _ => ∃ (c : Addr) (v : V) (d : PyData) (lo hi : Option Int), vs = [v, oV lo, oV hi] ∧ DV K c H v d ∧ ∀ H', Same H H' → Q (.bl (inB lo hi d)) H'
theorem G_is_within (T : Tx K mg) : FnG P w K mg base CX0 2 T.a_is_within T.d_is_within ["value", "least", "most"] (spWithin K) := by
  refine fun_okG T.F_is_within sc_is_within (fun vs H Q E h => ?_) (fun cdv A outer s H vs Q E hr hg h => ?_)
  · obtain ⟨c, v, d, lo, hi, rfl, _⟩ := h; rfl
  obtain ⟨c, v, d, lo, hi, rfl, hd, k⟩ := h
  refine ⟨_, (pss_cons (ps_if (pt_not (pt_val (pg_call (G_is_integer T) (hr.mono (by decide)) hg (by rfl) T.m_is_integer T.F_is_integer.kp T.b_is_integer .nil pass0 (pa_cons (pv 0) pa_nil)))) (pss_one (ps_ret pe_bl)) pss_nil)
      (pss_cons (ps_if (PW.pt (pw_and (pt_cmpR op_notN (pv 1) pe_non (nomark _)) (pw_and1 (pt_cmpR op_lt (pv 0) (pv 1) (nomark _))))) (pss_one (ps_ret pe_bl)) pss_nil)
      (pss_one (ps_ret (pe_or (pe_cmpR op_isN (pv 2) pe_non (nomark _)) (pe_one (pe_cmpR op_le (pv 0) (pv 2) (nomark _)))))))), ?_⟩
  refine ⟨_, rfl, c, v, d, rfl, hd, fun H1 s1 => ⟨_, rfl, ?_⟩⟩
  have k := k H1 s1
  cases hd with
  | int z =>
    refine iteF ?_
    cases lo with
    | none =>
      refine ⟨_, rfl, rfl, _, rfl, iteF ?_⟩
      cases hi with
      | none => exact ⟨_, rfl, rfl, _, rfl, k⟩
      | some u => exact ⟨_, rfl, rfl, _, rfl, _, rfl, _, rfl, _, _, rfl, rfl, k⟩
    | some l =>
      refine ⟨_, rfl, rfl, _, rfl, iteT ⟨_, rfl, _, rfl, _, _, rfl, rfl, _, rfl, ?_⟩⟩
      refine ite2 (fun e => ?_) (fun e => ?_)
      · have e := of_decide_eq_true e
        have : inB (some l) hi (.int z) = false := by
          show (decide (l ≤ z) && _) = false
          rw [decide_eq_false (by omega)]; rfl
        rw [this] at k
        exact k
      · have e : ¬ z < l := fun x => e (decide_eq_true x)
        have el : decide (l ≤ z) = true := decide_eq_true (by omega)
        cases hi with
        | none =>
          have : inB (some l) none (.int z) = true := by
            show (decide (l ≤ z) && true) = true
            rw [el]; rfl
          rw [this] at k
          exact ⟨_, rfl, rfl, _, rfl, k⟩
        | some u =>
          have : inB (some l) (some u) (.int z) = decide (z ≤ u) := by
            show (decide (l ≤ z) && decide (z ≤ u)) = _
            rw [el]; rfl
          rw [this] at k
          exact ⟨_, rfl, rfl, _, rfl, _, rfl, _, rfl, _, _, rfl, rfl, k⟩
  | _ => exact iteT k
end
end K1

set_option Elab.async false
set_option linter.all false
set_option maxRecDepth 100000
set_option maxHeartbeats 4000000
namespace K1
open PySem PySem.Spec PyProof.Rows L2 Gs
section
variable {P : Program} {w : World} {K : PySem.W.Frag} {mg : Str → Option Value} {base : Heap}
theorem G_is_square (T : Tx K mg) : FnG P w K mg base CX0 2 T.a_is_square T.d_is_square ["value"] (spB K (pairP isInt)) := by
  refine fun_okG T.F_is_square sc_is_square spB_len (fun cdv A outer s H vs Q E hr hg h => ?_)
  obtain ⟨c, v, d, rfl, hd, k⟩ := h
  refine ⟨_, (pss_one (ps_ret (pe_and (pg_call (G_is_list T) (hr.mono (by decide)) hg (by rfl) T.m_is_list T.F_is_list.kp T.b_is_list .nil pass0 (pa_cons (pv 0) pa_nil)) (pe_and (pe_cmpR op_eq (pe_callB call_len (by rfl) T.z_len (by decide +kernel) (pa_cons (pv 0) pa_nil)) pe_int (nomark _)) (pe_and (pg_call (G_is_integer T) (hr.mono (by decide)) hg (by rfl) T.m_is_integer T.F_is_integer.kp T.b_is_integer .nil pass0 (pa_cons (pe_ix ix_seq (pv 0) pe_int (fun _ _ => rfl)) pa_nil)) (pe_one (pg_call (G_is_integer T) (hr.mono (by decide)) hg (by rfl) T.m_is_integer T.F_is_integer.kp T.b_is_integer .nil pass0 (pa_cons (pe_ix ix_seq (pv 0) pe_int (fun _ _ => rfl)) pa_nil)))))))), ?_⟩
  refine ⟨_, rfl, c, v, d, rfl, hd, fun H1 s1 => ⟨_, rfl, ?_⟩⟩
  have hd1 := hd.up (Ext.of s1)
  cases hd1 with
  | @lst a xs ds na hs hv =>
    refine iteT ⟨_, rfl, _, _, rfl, .inl ⟨xs, hs, rfl⟩, rfl, _, rfl, ?_⟩
    refine ite2 (fun e => ?_) (fun e => ?_)
    · have e2 : xs.length = 2 := by
        have := V.int.inj (of_decide_eq_true e); omega
      obtain ⟨x, y, rfl⟩ := two_of e2
      cases hv with
      | cons hx hv =>
      cases hv with
      | cons hy hv =>
      cases hv with
      | nil =>
      rename_i dx dy
      refine ⟨_, rfl, .inl ⟨a, _, 0, x, rfl, rfl, hs, rfl, c, x, dx, rfl, hx, fun H2 s2 => ⟨_, rfl, ?_⟩⟩⟩
      have hs2 := (Ext.of (c := c) s2).sqL na hs
      have hy2 := hy.up (Ext.of s2)
      refine iteB (fun e => ?_) (fun e => ?_)
      rotate_left
      · have := k H2 (s1.trans s2)
        simp only [pairP, e, Bool.false_and] at this
        exact this
      · refine ⟨_, rfl, .inl ⟨a, _, 1, y, rfl, rfl, hs2, rfl, c, y, dy, rfl, hy2, fun H3 s3 => ?_⟩⟩
        have := k H3 ((s1.trans s2).trans s3)
        simp only [pairP, e, Bool.true_and] at this
        exact this
    · have e2 : ds.length ≠ 2 := fun z => e (decide_eq_true (by rw [hv.len, z]; rfl))
      have := k H1 s1
      rw [(pair_no e2).1] at this
      exact this
  | @tup a xs ds na hs hv =>
    refine iteT ⟨_, rfl, _, _, rfl, .inr ⟨xs, hs, rfl⟩, rfl, _, rfl, ?_⟩
    refine ite2 (fun e => ?_) (fun e => ?_)
    · have e2 : xs.length = 2 := by
        have := V.int.inj (of_decide_eq_true e); omega
      obtain ⟨x, y, rfl⟩ := two_of e2
      cases hv with
      | cons hx hv =>
      cases hv with
      | cons hy hv =>
      cases hv with
      | nil =>
      rename_i dx dy
      refine ⟨_, rfl, .inr (.inl ⟨a, _, 0, x, rfl, rfl, hs, rfl, c, x, dx, rfl, hx, fun H2 s2 => ⟨_, rfl, ?_⟩⟩)⟩
      have hs2 := (Ext.of (c := c) s2).sqT na hs
      have hy2 := hy.up (Ext.of s2)
      refine iteB (fun e => ?_) (fun e => ?_)
      rotate_left
      · have := k H2 (s1.trans s2)
        simp only [pairP, e, Bool.false_and] at this
        exact this
      · refine ⟨_, rfl, .inr (.inl ⟨a, _, 1, y, rfl, rfl, hs2, rfl, c, y, dy, rfl, hy2, fun H3 s3 => ?_⟩)⟩
        have := k H3 ((s1.trans s2).trans s3)
        simp only [pairP, e, Bool.true_and] at this
        exact this
    · have e2 : ds.length ≠ 2 := fun z => e (decide_eq_true (by rw [hv.len, z]; rfl))
      have := k H1 s1
      rw [(pair_no e2).2] at this
      exact this
  | non => exact iteF (k H1 s1)
  | bl => exact iteF (k H1 s1)
  | int => exact iteF (k H1 s1)
  | str => exact iteF (k H1 s1)
  | dic => exact iteF (k H1 s1)
theorem G_is_move (T : Tx K mg) : FnG P w K mg base CX0 3 T.a_is_move T.d_is_move ["value"] (spB K (pairP isSq)) := by
  refine fun_okG T.F_is_move sc_is_move spB_len (fun cdv A outer s H vs Q E hr hg h => ?_)
  obtain ⟨c, v, d, rfl, hd, k⟩ := h
  refine ⟨_, (pss_one (ps_ret (pe_and (pg_call (G_is_list T) (hr.mono (by decide)) hg (by rfl) T.m_is_list T.F_is_list.kp T.b_is_list .nil pass0 (pa_cons (pv 0) pa_nil)) (pe_and (pe_cmpR op_eq (pe_callB call_len (by rfl) T.z_len (by decide +kernel) (pa_cons (pv 0) pa_nil)) pe_int (nomark _)) (pe_and (pg_call (G_is_square T) (hr.mono (by decide)) hg (by rfl) T.m_is_square T.F_is_square.kp T.b_is_square .nil pass0 (pa_cons (pe_ix ix_seq (pv 0) pe_int (fun _ _ => rfl)) pa_nil)) (pe_one (pg_call (G_is_square T) (hr.mono (by decide)) hg (by rfl) T.m_is_square T.F_is_square.kp T.b_is_square .nil pass0 (pa_cons (pe_ix ix_seq (pv 0) pe_int (fun _ _ => rfl)) pa_nil)))))))), ?_⟩
  refine ⟨_, rfl, c, v, d, rfl, hd, fun H1 s1 => ⟨_, rfl, ?_⟩⟩
  have hd1 := hd.up (Ext.of s1)
  cases hd1 with
  | @lst a xs ds na hs hv =>
    refine iteT ⟨_, rfl, _, _, rfl, .inl ⟨xs, hs, rfl⟩, rfl, _, rfl, ?_⟩
    refine ite2 (fun e => ?_) (fun e => ?_)
    · have e2 : xs.length = 2 := by
        have := V.int.inj (of_decide_eq_true e); omega
      obtain ⟨x, y, rfl⟩ := two_of e2
      cases hv with
      | cons hx hv =>
      cases hv with
      | cons hy hv =>
      cases hv with
      | nil =>
      rename_i dx dy
      refine ⟨_, rfl, .inl ⟨a, _, 0, x, rfl, rfl, hs, rfl, c, x, dx, rfl, hx, fun H2 s2 => ⟨_, rfl, ?_⟩⟩⟩
      have hs2 := (Ext.of (c := c) s2).sqL na hs
      have hy2 := hy.up (Ext.of s2)
      refine iteB (fun e => ?_) (fun e => ?_)
      rotate_left
      · have := k H2 (s1.trans s2)
        simp only [pairP, e, Bool.false_and] at this
        exact this
      · refine ⟨_, rfl, .inl ⟨a, _, 1, y, rfl, rfl, hs2, rfl, c, y, dy, rfl, hy2, fun H3 s3 => ?_⟩⟩
        have := k H3 ((s1.trans s2).trans s3)
        simp only [pairP, e, Bool.true_and] at this
        exact this
    · have e2 : ds.length ≠ 2 := fun z => e (decide_eq_true (by rw [hv.len, z]; rfl))
      have := k H1 s1
      rw [(pair_no e2).1] at this
      exact this
  | @tup a xs ds na hs hv =>
    refine iteT ⟨_, rfl, _, _, rfl, .inr ⟨xs, hs, rfl⟩, rfl, _, rfl, ?_⟩
    refine ite2 (fun e => ?_) (fun e => ?_)
    · have e2 : xs.length = 2 := by
        have := V.int.inj (of_decide_eq_true e); omega
      obtain ⟨x, y, rfl⟩ := two_of e2
      cases hv with
      | cons hx hv =>
      cases hv with
      | cons hy hv =>
      cases hv with
      | nil =>
      rename_i dx dy
      refine ⟨_, rfl, .inr (.inl ⟨a, _, 0, x, rfl, rfl, hs, rfl, c, x, dx, rfl, hx, fun H2 s2 => ⟨_, rfl, ?_⟩⟩)⟩
      have hs2 := (Ext.of (c := c) s2).sqT na hs
      have hy2 := hy.up (Ext.of s2)
      refine iteB (fun e => ?_) (fun e => ?_)
      rotate_left
      · have := k H2 (s1.trans s2)
        simp only [pairP, e, Bool.false_and] at this
        exact this
      · refine ⟨_, rfl, .inr (.inl ⟨a, _, 1, y, rfl, rfl, hs2, rfl, c, y, dy, rfl, hy2, fun H3 s3 => ?_⟩)⟩
        have := k H3 ((s1.trans s2).trans s3)
        simp only [pairP, e, Bool.true_and] at this
        exact this
    · have e2 : ds.length ≠ 2 := fun z => e (decide_eq_true (by rw [hv.len, z]; rfl))
      have := k H1 s1
      rw [(pair_no e2).2] at this
      exact this
  | non => exact iteF (k H1 s1)
  | bl => exact iteF (k H1 s1)
  | int => exact iteF (k H1 s1)
  | str => exact iteF (k H1 s1)
  | dic => exact iteF (k H1 s1)

end
end K1

set_option Elab.async false
set_option linter.all false
set_option maxRecDepth 100000
set_option maxHeartbeats 4000000
namespace K1
open PySem PySem.Spec PyProof.Rows L2 Gs
section
variable {P : Program} {w : World} {K : PySem.W.Frag} {mg : Str → Option Value} {base : Heap}
def letters : Str := "abcdefghijklmnopqrstuvwxyz"
def barred : List V := [.str "lord", .str "leaps", .str "rides", .str "stone"]
def isNameS (x : Str) : Bool := decide (1 ≤ x.length) && decide (x.length ≤ 8) && (!inV (.str x) barred) && x.cps.toList.all fun c => decide (c ∈ letters.cps.toList)
def isNm : PyData → Bool
  | .str x => isNameS x
  | _ => false
def spName (K : PySem.W.Frag) : Sp := fun vs H Q _ => ∃ (c : Addr) (v : V) (d : PyData), vs = [v] ∧ DV K c H v d ∧ (∀ x, d = .str x → x.length ≤ 1000) ∧ ∀ H', Same H H' → Q (.bl (isNm d)) H'
theorem all_take {α : Type} (p : α → Bool) (xs : List α) : ((xs.map p).map V.bl) = xs.map (fun x => V.bl (p x)) := by rw [List.map_map]; rfl
theorem G_is_name (T : Tx K mg) : FnG P w K mg base CX0 1 T.a_is_name T.d_is_name ["value"] (spName K) := by
  refine fun_okG T.F_is_name sc_is_name (fun vs H Q E h => ?_) (fun cdv A outer s H vs Q E hr hg h => ?_)
  · obtain ⟨c, v, d, rfl, _⟩ := h; rfl
  obtain ⟨c, v, d, rfl, hd, hz, k⟩ := h
  obtain ⟨tL, hL⟩ := T.g_LETTERS
  obtain ⟨tN, hN⟩ := T.g_LONGEST
  refine ⟨_, (pss_cons (ps_if (PW.pt (pw_or (pt_not (pt_val (pe_callB call_isi (by rfl) T.z_isinstance (by decide +kernel) (pa_cons (pv 0) (pa_cons (pe_bltn (v := .ty "str") (u := .type "str") (by rfl) T.z_str (by decide +kernel) rfl) pa_nil))))) (pw_or1 (pt_not (pt_chain op_le op_le pe_int (pe_callB call_len_str (by rfl) T.z_len (by decide +kernel) (pa_cons (pv 0) pa_nil)) (pe_glob (v := .int 8) (by rfl) hN ⟨_, rfl⟩)))))) (pss_one (ps_ret pe_bl)) pss_nil)
      (pss_one (ps_ret (pe_and (pe_cmpR op_notIn_seq (pv 0) (pe_glob (v := .ref T.t_B) (by rfl) T.g_B rfl) (by rfl)) (pe_one (pe_callB (cr_all rfl) (by rfl) T.z_all (by decide +kernel) (pa_cons (pe_lc (own := [("sign", 1)]) (g := (gName 1)) rfl sc_is_name.nd (pi_str (pv 0)) (blkOk_by (N := n_is_name) (sc := defScope s_is_name) (by decide +kernel)) (fun _ _ _ _ _ => (pg_name (i := 1) sc_is_name.nd rfl (Or.inl rfl))) (fun _ _ _ _ _ => pts_nil) (fun _ _ _ _ _ => (pe_cmpR op_in_sign (pv 1) (pe_glob (v := .str "abcdefghijklmnopqrstuvwxyz") (by rfl) hL ⟨_, rfl⟩) (by rfl)))) pa_nil))))))), ?_⟩
  refine ⟨_, rfl, _, .ty "str", .type (tyN _), .type "str", _, rfl, .ty _, ty_of hd, kit_ty (kS _), _, rfl, ?_⟩
  cases hd with
  | str x =>
    have hz : x.length ≤ 1000 := hz x rfl
    refine iteF ?_
    refine ⟨_, rfl, _, rfl, szm hz, _, _, rfl, rfl, _, rfl, ?_⟩
    refine iteB (fun e1 => ?_) (fun e1 => ?_)
    rotate_left
    · refine ⟨_, rfl, ?_⟩
      have := k H (Same.refl H)
      have e : isNm (.str x) = false := by
        show isNameS x = false
        unfold isNameS
        rw [decide_eq_false (fun z => by have := of_decide_eq_false e1; omega)]; rfl
      rw [e] at this
      exact iteT this
    refine ⟨_, _, rfl, rfl, _, rfl, ?_⟩
    have e1 := of_decide_eq_true e1
    refine iteB (fun e2 => ?_) (fun e2 => ?_)
    · have := k H (Same.refl H)
      have e : isNm (.str x) = false := by
        show isNameS x = false
        unfold isNameS
        rw [decide_eq_false (fun z : x.length ≤ 8 => by
          have e2 : (!decide ((x.length : Int) ≤ 8)) = true := e2
          rw [decide_eq_true (by omega)] at e2; cases e2), Bool.and_false]; rfl
      rw [e] at this
      exact this
    have e3 : x.length ≤ 8 := by
      have e2 : (!decide ((x.length : Int) ≤ 8)) = false := e2
      by_cases z : (x.length : Int) ≤ 8
      · omega
      · rw [decide_eq_false z] at e2; cases e2
    -- value not in BARRED_NAMES and all(..)
    refine ⟨_, rfl, T.t_B, _, rfl, .inr (T.s_B H), rfl, rfl, _, rfl, ?_⟩
    refine iteB (fun e4 => ?_) (fun e4 => ?_)
    rotate_left
    · have := k H (Same.refl H)
      have e : isNm (.str x) = false := by
        show isNameS x = false
        unfold isNameS
        have e4 : (!inV (.str x) barred) = false := e4
        rw [e4, Bool.and_false]; rfl
      rw [e] at this
      exact this
    have e4 : (!inV (.str x) barred) = true := e4
    refine ⟨_, rfl, x, rfl, fun D hD => ?_⟩
    refine lc_it walk_str (fun i H' => H' D = some (.lst ((x.cps.toList.take i).map fun c => .bl (decide (c ∈ letters.cps.toList)))) ∧ Same H H') ⟨upd_same, same_new hD⟩ (fun _ _ _ _ => trivial) ?_ ?_
    · rintro i z H1 H2 hi ⟨h1, h2⟩ ⟨rfl, cp, hc, rfl⟩
      refine ⟨rfl, ?_⟩
      refine ⟨_, rfl, cp, _, rfl, rfl, _, h1, ?_, ?_, ?_⟩
      · rw [List.length_map]
        refine szs (Nat.lt_of_le_of_lt (List.length_take_le ..) ?_)
        have : i < x.length := hi
        omega
      · have hc : x.cps.toList[i]? = some cp := by rw [Array.getElem?_toList]; exact hc
        rw [upd_same, List.take_add_one, hc, List.map_append]; rfl
      · exact same_own h2 hD
    · rintro H1 ⟨h1, h2⟩
      have eall : x.cps.toList.take x.cps.size = x.cps.toList := List.take_of_length_le (by simp)
      rw [eall] at h1
      refine ⟨D, x.cps.toList.map (fun c => decide (c ∈ letters.cps.toList)), rfl, .of (by rw [all_take]; exact h1), ?_⟩
      have := k H1 h2
      have e : isNm (.str x) = ((x.cps.toList.map (fun c => decide (c ∈ letters.cps.toList))).all id) := by
        show isNameS x = _
        unfold isNameS
        rw [decide_eq_true (show 1 ≤ x.length by omega), decide_eq_true e3, e4, List.all_map]; rfl
      rw [e] at this
      exact this
  | _ => exact iteT (k H (Same.refl H))
end
end K1

set_option Elab.async false
set_option linter.all false
set_option maxRecDepth 100000
set_option maxHeartbeats 4000000
namespace K1
open PySem PySem.Spec PyProof.Rows L2 Gs
section
variable {P : Program} {w : World} {K : PySem.W.Frag} {mg : Str → Option Value} {base : Heap}
theorem G__law_own_square (T : Tx K mg) : FnG P w K mg base CX0 2 T.a__law_own_square T.d__law_own_square ["value"] (spB K isSq) := by
  refine fun_okG T.F__law_own_square sc__law_own_square spB_len (fun cdv A outer s H vs Q E hr hg h => ?_)
  obtain ⟨c, v, d, rfl, hd, k⟩ := h
  refine ⟨_, (pss_one (ps_ret (pe_and (pe_callB call_isiT (by rfl) T.z_isinstance (by decide +kernel) (pa_cons (pv 0) (pa_cons (pe_tup (pa_cons (pe_bltn (v := .ty "list") (u := .type "list") (by rfl) T.z_list (by decide +kernel) rfl) (pa_cons (pe_bltn (v := .ty "tuple") (u := .type "tuple") (by rfl) T.z_tuple (by decide +kernel) rfl) pa_nil))) pa_nil))) (pe_and (pe_cmpR op_eq (pe_callB call_len (by rfl) T.z_len (by decide +kernel) (pa_cons (pv 0) pa_nil)) pe_int (nomark _)) (pe_one (pe_cmpR (op_eqD hr.units) (pe_lc (own := [("each", 1)]) (g := (gName 1)) rfl sc__law_own_square.nd (pi_or (pi_list (pv 0)) (pi_tup (pv 0))) (blkOk_by (N := n__law_own_square) (sc := defScope s__law_own_square) (by decide +kernel)) (fun _ _ _ _ _ => (pg_name (i := 1) sc__law_own_square.nd rfl (Or.inl rfl))) (fun _ _ _ _ _ => pts_one (pt_not (pt_val (pg_call (G__law_own_integer T) (hr.mono (by decide)) hg (by rfl) T.m__law_own_integer T.F__law_own_integer.kp T.b__law_own_integer .nil pass0 (pa_cons (pv 1) pa_nil))))) (fun _ _ _ _ _ => pe_int)) (pe_lst pa_nil) (nomark _))))))), ?_⟩
  refine ⟨_, rfl, szl rfl, fun p hp => ?_⟩
  have s1 : Same H (upd H p (.tup [.ty "list", .ty "tuple"])) := same_new hp
  have hd1 := hd.up (Ext.of s1)
  refine ⟨v, _, [.ty "list", .ty "tuple"], .type (tyN _), [.type "list", .type "tuple"], isSeq _, rfl, upd_same, .cons (.ty _) (.cons (.ty _) .nil), ty_of hd1, kit_seq _, _, rfl, ?_⟩
  generalize upd H p _ = H1 at s1 hd1 ⊢
  cases hd1 with
  | @lst a xs ds na hs hv =>
    refine iteT ⟨_, rfl, _, _, rfl, .inl ⟨xs, hs, rfl⟩, rfl, _, rfl, ?_⟩
    refine ite2 (fun e => ?_) (fun e => ?_)
    · have e2 : xs.length = 2 := by
        have := V.int.inj (of_decide_eq_true e); omega
      obtain ⟨x, y, rfl⟩ := two_of e2
      refine .inl ⟨_, rfl, a, rfl, ⟨_, hs⟩, fun D hD => ?_⟩
      have hD0 : H1 D = none := hD
      refine lc_it (walk_list (K := K) (a := a) (xs := [x, y])) (fun i H' => ∃ acc : List Int, H' D = some (.lst (acc.map V.int)) ∧ acc.length ≤ i ∧ acc.isEmpty = (ds.take i).all isInt ∧ Same H1 H') ⟨[], upd_same, Nat.le_refl _, rfl, same_new hD0⟩ ?_ ?_ ?_
      · rintro i H' _ ⟨acc, _, _, _, h3⟩; exact (Ext.of (c := c) h3).sqL na hs
      · rintro i z H2 H2' hi ⟨acc, h1, h2, h4, h3⟩ ⟨rfl, hz⟩
        obtain ⟨dz, hdz, hz2⟩ := hv.at hz
        have hz3 := hz2.up (Ext.of h3)
        refine ⟨rfl, _, rfl, c, z, dz, rfl, hz3, fun H3 s3 => ⟨_, rfl, ?_⟩⟩
        have step : (ds.take (i + 1)).all isInt = ((ds.take i).all isInt && isInt dz) := by
          rw [List.take_add_one, hdz, List.all_append]; simp
        have h13 : H3 D = some (.lst (acc.map V.int)) := s3 _ _ h1
        refine iteB (fun e1 => ?_) (fun e1 => ?_)
        · have e1 : isInt dz = false := by
            have e1 : (!isInt dz) = true := e1
            cases z : isInt dz with
            | true => rw [z] at e1; cases e1
            | false => rfl
          refine ⟨_, h13, ?_, acc ++ [1], ?_, ?_, ?_, ?_⟩
          · rw [List.length_map]; have : [x, y].length = 2 := rfl
            exact szs (by omega)
          · rw [upd_same, List.map_append]; rfl
          · rw [List.length_append]; show acc.length + 1 ≤ i + 1; omega
          · rw [step, e1, Bool.and_false]; simp
          · exact same_own (h3.trans s3) hD0
        · have e1 : isInt dz = true := by
            have e1 : (!isInt dz) = false := e1
            cases z : isInt dz with
            | false => rw [z] at e1; cases e1
            | true => rfl
          exact ⟨acc, h13, by omega, by rw [step, e1, Bool.and_true]; exact h4, h3.trans s3⟩
      · rintro H2 ⟨acc, h1, _, h4, h3⟩
        refine ⟨szl rfl, fun e he => ?_⟩
        have nD : D ≠ e := ne_of_none h1 he
        refine ⟨.list (acc.map .int), .list [], .lst (.of (by rw [upd_ne nD]; exact h1)) (dp_ints acc), .lst (.of upd_same) .nil, shaped_ints acc, by decide, ?_⟩
        rw [eqv_nil]
        have := k _ ((s1.trans h3).trans (same_new he (o := .lst [])))
        have e5 : isSq (.list ds) = (acc.map PyData.int).isEmpty := by
          have l2 : ds.length = 2 := hv.len.symm
          obtain ⟨dx, dy, rfl⟩ := two_of l2
          have h4 : acc.isEmpty = (isInt dx && (isInt dy && true)) := h4
          rw [List.isEmpty_map, h4, Bool.and_true]; rfl
        rw [e5] at this
        exact this
    · have e2 : ds.length ≠ 2 := fun z => e (decide_eq_true (by rw [hv.len, z]; rfl))
      have := k _ s1
      rw [show isSq (.list ds) = false from (pair_no e2).1] at this
      exact this
  | @tup a xs ds na hs hv =>
    refine iteT ⟨_, rfl, _, _, rfl, .inr ⟨xs, hs, rfl⟩, rfl, _, rfl, ?_⟩
    refine ite2 (fun e => ?_) (fun e => ?_)
    · have e2 : xs.length = 2 := by
        have := V.int.inj (of_decide_eq_true e); omega
      obtain ⟨x, y, rfl⟩ := two_of e2
      refine .inr ⟨_, rfl, a, rfl, ⟨_, hs⟩, fun D hD => ?_⟩
      have hD0 : H1 D = none := hD
      refine lc_it (walk_tup (K := K) (a := a) (xs := [x, y])) (fun i H' => ∃ acc : List Int, H' D = some (.lst (acc.map V.int)) ∧ acc.length ≤ i ∧ acc.isEmpty = (ds.take i).all isInt ∧ Same H1 H') ⟨[], upd_same, Nat.le_refl _, rfl, same_new hD0⟩ ?_ ?_ ?_
      · rintro i H' _ ⟨acc, _, _, _, h3⟩; exact (Ext.of (c := c) h3).sqT na hs
      · rintro i z H2 H2' hi ⟨acc, h1, h2, h4, h3⟩ ⟨rfl, hz⟩
        obtain ⟨dz, hdz, hz2⟩ := hv.at hz
        have hz3 := hz2.up (Ext.of h3)
        refine ⟨rfl, _, rfl, c, z, dz, rfl, hz3, fun H3 s3 => ⟨_, rfl, ?_⟩⟩
        have step : (ds.take (i + 1)).all isInt = ((ds.take i).all isInt && isInt dz) := by
          rw [List.take_add_one, hdz, List.all_append]; simp
        have h13 : H3 D = some (.lst (acc.map V.int)) := s3 _ _ h1
        refine iteB (fun e1 => ?_) (fun e1 => ?_)
        · have e1 : isInt dz = false := by
            have e1 : (!isInt dz) = true := e1
            cases z : isInt dz with
            | true => rw [z] at e1; cases e1
            | false => rfl
          refine ⟨_, h13, ?_, acc ++ [1], ?_, ?_, ?_, ?_⟩
          · rw [List.length_map]; have : [x, y].length = 2 := rfl
            exact szs (by omega)
          · rw [upd_same, List.map_append]; rfl
          · rw [List.length_append]; show acc.length + 1 ≤ i + 1; omega
          · rw [step, e1, Bool.and_false]; simp
          · exact same_own (h3.trans s3) hD0
        · have e1 : isInt dz = true := by
            have e1 : (!isInt dz) = false := e1
            cases z : isInt dz with
            | false => rw [z] at e1; cases e1
            | true => rfl
          exact ⟨acc, h13, by omega, by rw [step, e1, Bool.and_true]; exact h4, h3.trans s3⟩
      · rintro H2 ⟨acc, h1, _, h4, h3⟩
        refine ⟨szl rfl, fun e he => ?_⟩
        have nD : D ≠ e := ne_of_none h1 he
        refine ⟨.list (acc.map .int), .list [], .lst (.of (by rw [upd_ne nD]; exact h1)) (dp_ints acc), .lst (.of upd_same) .nil, shaped_ints acc, by decide, ?_⟩
        rw [eqv_nil]
        have := k _ ((s1.trans h3).trans (same_new he (o := .lst [])))
        have e5 : isSq (.tuple ds) = (acc.map PyData.int).isEmpty := by
          have l2 : ds.length = 2 := hv.len.symm
          obtain ⟨dx, dy, rfl⟩ := two_of l2
          have h4 : acc.isEmpty = (isInt dx && (isInt dy && true)) := h4
          rw [List.isEmpty_map, h4, Bool.and_true]; rfl
        rw [e5] at this
        exact this
    · have e2 : ds.length ≠ 2 := fun z => e (decide_eq_true (by rw [hv.len, z]; rfl))
      have := k _ s1
      rw [show isSq (.tuple ds) = false from (pair_no e2).2] at this
      exact this
  | non => exact iteF (k H1 s1)
  | bl => exact iteF (k H1 s1)
  | int => exact iteF (k H1 s1)
  | str => exact iteF (k H1 s1)
  | dic => exact iteF (k H1 s1)
end
end K1

set_option Elab.async false
set_option linter.all false
set_option maxRecDepth 100000
set_option maxHeartbeats 4000000
namespace K1
open PySem PySem.Spec PyProof.Rows L2 Gs
section
variable {P : Program} {w : World} {K : PySem.W.Frag} {mg : Str → Option Value} {base : Heap}
def spPair (K : PySem.W.Frag) : Sp := fun vs H Q _ => ∃ (c l : Addr) (n : Nat), vs = [.ref c] ∧ Bag c l n H ∧ n ≤ 999980 ∧
  ∀ (v : V) (d : PyData) (H' : Hp), DV K c H' v d → Fine 3 3000 d → Bag c l (n + 6) H' → Ext c H H' → Q v H'
theorem cut1 (x y : V) : cutV [x, y] none (some 1) = [x] := rfl
theorem G__law_pair (T : Tx K mg) : FnG P w K mg base CX0 3 T.a__law_pair T.d__law_pair ["crate"] (spPair K) := by
  refine fun_okG T.F__law_pair sc__law_pair (fun vs H Q E h => ?_) (fun cdv A outer s H vs Q E hr hg h => ?_)
  · obtain ⟨c, l, n, rfl, _⟩ := h; rfl
  obtain ⟨c, l, n, rfl, hb, hN, k⟩ := h
  refine ⟨_, (pss_cons (ps_setLc (i := 1) (own := [("turn", 2)]) (g := (gName 2)) rfl sc__law_pair.nd rfl rfl (sw_true rfl rfl rfl (by decide +kernel)) (pi_range1 (by rfl) T.z_range (pa_cons pe_int pa_nil)) (blkOk_by (N := n__law_pair) (sc := defScope s__law_pair) (by decide +kernel)) (fun _ _ _ _ _ => (pg_name (i := 2) sc__law_pair.nd rfl (Or.inl rfl))) (fun _ _ _ _ _ => pts_nil) (fun _ _ _ _ _ => (pg_call (G__law_one T) (hr.mono (by decide)) hg (by rfl) T.m__law_one T.F__law_one.kp T.b__law_one .nil pass0 (pa_cons (pv 0) (pa_cons (pe_lst (pa_cons (pe_op op_sub (pg_call (G__law_lift T) (hr.mono (by decide)) hg (by rfl) T.m__law_lift T.F__law_lift.kp T.b__law_lift .nil pass0 (pa_cons (pv 0) (pa_cons pe_int pa_nil))) pe_int) (pa_cons (pe_un un_neg (pe_op op_pow pe_int pe_int)) (pa_cons (pe_op op_pow pe_int pe_int) pa_nil)))) pa_nil)))))
      (pss_cons (ps_set (i := 3) sc__law_pair.nd rfl (Or.inl rfl) (pg_call (G__law_one T) (hr.mono (by decide)) hg (by rfl) T.m__law_one T.F__law_one.kp T.b__law_one .nil pass0 (pa_cons (pv 0) (pa_cons (pe_lst (pa_cons (pv 1) (pa_cons (pv 1) (pa_cons (pv 1) (pa_cons (pe_op op_cat (pv 1) (pe_lst (pa_cons pe_int pa_nil))) (pa_cons (pe_slice sl_list (pv 1) po_none (po_some pe_int)) (pa_cons (pe_lst (pa_cons (pe_ix ix_list (pv 1) pe_int (fun _ _ => rfl)) (pa_cons pe_non pa_nil))) (pa_cons (pe_lst (pa_cons pe_bl (pa_cons (pe_ix ix_list (pv 1) pe_int (fun _ _ => rfl)) pa_nil))) (pa_cons (pe_lst (pa_cons (pe_callTy call_str_int (by rfl) T.z_str (by decide +kernel) (pa_cons (pe_ix ix_list (pv 1) pe_int (fun _ _ => rfl)) pa_nil)) (pa_cons pe_int pa_nil))) (pa_cons (pe_lst (pa_cons (pv 1) (pa_cons pe_int pa_nil))) (pa_cons (pe_lst pa_nil) (pa_cons pe_non (pa_cons pe_str (pa_cons (pe_disp (pps_cons pe_int pe_int (pps_cons pe_int pe_int pps_nil)) rfl rfl (by simp) (by decide)) pa_nil)))))))))))))) pa_nil))))
      (pss_one (ps_ret (pe_ifExp (PW.pt (pw_and (pt_val (pe_callB call_isi (by rfl) T.z_isinstance (by decide +kernel) (pa_cons (pv 3) (pa_cons (pe_bltn (v := .ty "list") (u := .type "list") (by rfl) T.z_list (by decide +kernel) rfl) pa_nil)))) (pw_and1 (pt_cmpR op_eq (pg_call (G__law_lift T) (hr.mono (by decide)) hg (by rfl) T.m__law_lift T.F__law_lift.kp T.b__law_lift .nil pass0 (pa_cons (pv 0) (pa_cons pe_int pa_nil))) pe_int (nomark _))))) (pe_callTy call_tuple_of (by rfl) T.z_tuple (by decide +kernel) (pa_cons (pv 3) pa_nil)) (pv 3)))))), ?_⟩
  refine ⟨_, rfl, by decide, by decide, fun D hD => ?_⟩
  refine lc_it (walk_range (lo := 0) (n := 2)) (fun i H' => ∃ zs : List Int, H' D = some (.lst (zs.map V.int)) ∧ zs.length = i ∧ (∀ z ∈ zs, z.natAbs < 2 ^ 1000) ∧ Bag c l (n + 2 * i) H' ∧ Ext c H H')
    ⟨[], upd_same, rfl, fun z h => (nomatch h), hb.new hD, Ext.new hD⟩ (fun _ _ _ _ => trivial) ?_ ?_
  · rintro i x H1 H2 hi ⟨zs, h1, h2, h3, b1, x1⟩ ⟨rfl, rfl⟩
    have nDc : D ≠ c := hb.ne hD
    refine ⟨rfl, ?_⟩
    refine ⟨_, rfl, _, rfl, c, l, _, _, rfl, b1, by omega, by decide, by decide, fun v1 H3 a1 a2 b3 x3 => ?_⟩
    refine ⟨_, _, rfl, rfl, _, _, rfl, rfl, ⟨by decide, by decide, by decide⟩, _, rfl, _, _, rfl, rfl, ⟨by decide, by decide, by decide⟩, szl rfl, fun p hp => ?_⟩
    have np := b3.ne hp
    refine ⟨c, l, p, _, _, rfl, b3.new hp, by omega, np, .of upd_same, by simp, szl2 rfl, fun j v H4 hj b4 x4 => ?_⟩
    have x5 : Ext c H2 H4 := x3.trans ((Ext.new hp).trans x4)
    obtain ⟨z, rfl, hz⟩ : ∃ z : Int, v = .int z ∧ z.natAbs < 2 ^ 1000 := by
      have hm := one_of hj
      simp only [List.mem_cons, List.not_mem_nil, or_false] at hm
      rcases hm with rfl | rfl | rfl
      · exact ⟨_, rfl, by omega⟩
      · exact ⟨_, rfl, by decide +kernel⟩
      · exact ⟨_, rfl, by decide +kernel⟩
    have hD4 : H4 D = some (.lst (zs.map V.int)) := x5 _ _ nDc h1
    refine ⟨_, hD4, ?_, zs ++ [z], ?_, ?_, ?_, ?_, ?_⟩
    · rw [List.length_map]; exact szs (by omega)
    · rw [upd_same, List.map_append]; rfl
    · rw [List.length_append]; show zs.length + 1 = i + 1; omega
    · intro y hy
      rcases List.mem_append.mp hy with hy | hy
      · exact h3 y hy
      · rw [List.mem_singleton.mp hy]; exact hz
    · exact (b4.mono (by omega)).put nDc (hb.ne2 hD)
    · exact (x1.trans x5).own hD
  rintro H1 ⟨zs, h1, h2, h3, b1, x1⟩
  have nDc : D ≠ c := hb.ne hD
  obtain ⟨y1, y2, rfl⟩ := two_of h2
  have w1 := h3 y1 (by simp)
  have w2 := h3 y2 (by simp)
  have f0 : DV K c H1 (.ref D) (.list [.int y1, .int y2]) := .lst nDc (.of h1) (.cons (.int _) (.cons (.int _) .nil))
  have g0 : Fine 1 4 (.list [.int y1, .int y2]) := .list ((FineS.cons (n := 0) (.int w1) (FineS.cons (n := 0) (.int w2) .nil (m := 0))).mono (Nat.le_refl _) (by omega))
  clear h3 h2 hD hb
  -- some + [0]
  refine ⟨_, rfl, _, rfl, _, rfl, _, rfl, _, rfl, szl rfl, fun p1 hp1 => ?_⟩
  have x2 : Ext c H1 (upd H1 p1 (.lst [.int 0])) := Ext.new hp1
  have b2 := b1.new hp1 (o := .lst [.int 0])
  have h2 := x2 _ _ nDc h1
  refine ⟨D, p1, _, _, rfl, rfl, h2, upd_same, szl rfl, fun p2 hp2 => ?_⟩
  generalize upd H1 p1 _ = H2 at x2 b2 h2 hp2 ⊢
  have f2 := new_lst hp2 (b2.ne hp2) (.cons (.int y1) (.cons (.int y2) (.cons (.int 0) .nil))) (K := K)
  have b3 := b2.new hp2 (o := .lst [.int y1, .int y2, .int 0])
  have h3 := f2.2 _ _ nDc h2
  change tCons _ _ _ (upd H2 p2 (.lst [.int y1, .int y2, .int 0])) _
  generalize upd H2 p2 _ = H3 at f2 b3 h3 ⊢
  -- some[:1]
  refine ⟨_, rfl, 1, rfl, D, _, rfl, .of h3, fun p3 hp3 => ?_⟩
  change tCons _ _ _ (upd H3 p3 (.lst [.int y1])) _
  have f3 := new_lst hp3 (b3.ne hp3) (.cons (.int y1) .nil) (K := K)
  have b4 := b3.new hp3 (o := .lst [.int y1])
  have h4 := f3.2 _ _ nDc h3
  generalize upd H3 p3 _ = H4 at f3 b4 h4 ⊢
  -- [some[0], None]
  refine ⟨_, rfl, D, _, 0, .int y1, rfl, rfl, .of h4, rfl, szl rfl, fun p4 hp4 => ?_⟩
  have f4 := new_lst hp4 (b4.ne hp4) (.cons (.int y1) (.cons .non .nil)) (K := K)
  have b5 := b4.new hp4 (o := .lst [.int y1, .non])
  have h5 := f4.2 _ _ nDc h4
  generalize upd H4 p4 _ = H5 at f4 b5 h5 ⊢
  -- [True, some[1]]
  refine ⟨_, rfl, D, _, 1, .int y2, rfl, rfl, .of h5, rfl, szl rfl, fun p5 hp5 => ?_⟩
  have f5 := new_lst hp5 (b5.ne hp5) (.cons (.bl true) (.cons (.int y2) .nil)) (K := K)
  have b6 := b5.new hp5 (o := .lst [.bl true, .int y2])
  have h6 := f5.2 _ _ nDc h5
  generalize upd H5 p5 _ = H6 at f5 b6 h6 ⊢
  -- [str(some[0]), 1]
  refine ⟨_, rfl, D, _, 0, .int y1, rfl, rfl, .of h6, rfl, _, rfl, (int_len w1).2, szl rfl, fun p6 hp6 => ?_⟩
  have f6 := new_lst hp6 (b6.ne hp6) (.cons (.str (toString y1)) (.cons (.int 1) .nil)) (K := K)
  have b7 := b6.new hp6 (o := .lst [.str (toString y1), .int 1])
  have h7 := f6.2 _ _ nDc h6
  generalize upd H6 p6 _ = H7 at f6 b7 h7 ⊢
  -- [some, 0]
  have y07 : Ext c H1 H7 := ((x2.trans f2.2).trans (f3.2.trans f4.2)).trans (f5.2.trans f6.2)
  refine ⟨_, rfl, szl rfl, fun p7 hp7 => ?_⟩
  have f7 := new_lst hp7 (b7.ne hp7) (.cons (f0.up y07) (.cons (.int 0) .nil)) (K := K)
  have b8 := b7.new hp7 (o := .lst [.ref D, .int 0])
  generalize upd H7 p7 _ = H8 at f7 b8 ⊢
  -- []
  refine ⟨szl rfl, fun p8 hp8 => ?_⟩
  have f8 := new_lst hp8 (b8.ne hp8) .nil (K := K)
  have b9 := b8.new hp8 (o := .lst [])
  generalize upd H8 p8 _ = H9 at f8 b9 ⊢
  -- {0: 0, 1: 1}
  intro p9 hp9
  have np9 := b9.ne hp9
  have e10 : upd H9 p9 (.dK []) p9 = some (.dK []) := upd_same
  refine ⟨e10, [(.inl 0, .int 0), (.inl 1, .int 1)], rfl, Nat.le_of_ble_eq_true rfl, ?_⟩
  rw [upd_upd]
  have x10 : Ext c H9 (upd H9 p9 (.dK [(.inl 0, .int 0), (.inl 1, .int 1)])) := Ext.new hp9
  have b10 := b9.new hp9 (o := .dK [(.inl 0, .int 0), (.inl 1, .int 1)])
  have f9 : DV K c (upd H9 p9 (.dK [(.inl 0, .int 0), (.inl 1, .int 1)])) (.ref p9) (.dict [(.int 0, .int 0), (.int 1, .int 1)]) :=
    .dic np9 upd_same (.cons (.int 0) (.int 0) (.cons (.int 1) (.int 1) .nil))
  change tNil _ (upd H9 p9 (.dK [(.inl 0, .int 0), (.inl 1, .int 1)])) _
  generalize upd H9 p9 _ = H10 at f9 b10 x10 ⊢
  refine ⟨szl rfl, fun p hp => ?_⟩
  have y7 := (f7.2.trans f8.2).trans x10
  have y6 := f6.2.trans y7
  have y5 := f5.2.trans y6
  have y4 := f4.2.trans y5
  have y3 := f3.2.trans y4
  have hd : DVs K c H10 [.ref D, .ref D, .ref D, .ref p2, .ref p3, .ref p4, .ref p5, .ref p6, .ref p7, .ref p8, .non, .str "00", .ref p9] _ :=
    .cons ((f0.up y07).up y7) (.cons ((f0.up y07).up y7) (.cons ((f0.up y07).up y7) (.cons (f2.1.up y3) (.cons (f3.1.up y4) (.cons (f4.1.up y5) (.cons (f5.1.up y6) (.cons (f6.1.up y7)
      (.cons (f7.1.up (f8.2.trans x10)) (.cons (f8.1.up x10) (.cons .non (.cons (.str _) (.cons f9 .nil))))))))))))
  refine ⟨c, l, p, n + 4, _, rfl, (b10.new hp), by omega, b10.ne hp, .of upd_same, by simp, szl2 rfl, fun i v H11 hi b11 x11 => ?_⟩
  obtain ⟨d, hdi, hdv⟩ := hd.at hi
  have z0 : (0 : Int).natAbs < 2 ^ 1000 := by decide +kernel
  have z1 : (1 : Int).natAbs < 2 ^ 1000 := by decide +kernel
  have gf : Fine 3 3000 (.list [.int y1, .int y2]) := g0.mono (by decide) (by decide)
  have hfine : Fine 3 3000 d := by
    refine (fa_cons gf (fa_cons gf (fa_cons gf (fa_cons ((Fine.list (fine3 (n := 0) (.int w1) (.int w2) (.int z0)) (k := 0)).mono (by decide) (by decide)) (fa_cons ((Fine.list (fine1 (n := 0) (.int w1)) (k := 0)).mono (by decide) (by decide))
      (fa_cons ((Fine.list (fine2 (n := 0) (.int w1) .non) (k := 0)).mono (by decide) (by decide)) (fa_cons ((Fine.list (fine2 (n := 0) .bl (.int w2)) (k := 0)).mono (by decide) (by decide))
      (fa_cons ((Fine.list (fine2 (n := 1100) (fine_tos w1) (.int z1)) (k := 0)).mono (by decide) (by decide)) (fa_cons ((Fine.list (fine2 (k := 1) (n := 4) g0 (.int z0))).mono (by decide) (by decide))
      (fa_cons ((Fine.list (FineS.nil (k := 0) (n := 0))).mono (by decide) (by decide)) (fa_cons .non (fa_cons ((fine_lit (k := 0) (by decide +kernel)).mono (by decide) (by decide)) (fa_cons ((Fine.dict2 (k := 0) (n := 0) (.int z0) (.int z0) (.int z1) (.int z1)).mono (by decide) (by decide)) fa_nil))))))))))))) d (List.mem_of_getElem? hdi)
  have hv11 : DV K c H11 v d := (hdv.up (Ext.new hp)).up x11
  have xall : Ext c H H11 := ((x1.trans y07).trans y7).trans ((Ext.new hp).trans x11)
  clear hi hdi hdv hd f0 f2 f3 f4 f5 f6 f7 f8 f9 b1 b2 b3 b4 b5 b6 b7 b8 b9 b10 x2 x10 y3 y4 y5 y6 y7 y07 h1 h2 h3 h4 h5 h6 h7 e10 g0 gf
  refine ⟨_, rfl, _, .ty "list", .type (tyN _), .type "list", _, rfl, .ty _, ty_of hv11, kit_ty (kL _), _, rfl, ?_⟩
  cases hv11 with
  | @lst a xs ds na hs hvs =>
    refine iteT ⟨_, rfl, c, l, n + 5, _, rfl, b11, by omega, by decide, by decide, fun v2 H12 a1 a2 b12 x12 => ⟨rfl, _, rfl, ?_⟩⟩
    refine iteB (fun _ => ?_) (fun _ => ?_)
    · refine ⟨_, rfl, a, xs, rfl, .inl ⟨x12.sqL na hs, fun q hq => ?_⟩⟩
      exact k (.ref q) (.tuple ds) _ (new_tup hq (b12.ne hq) (hvs.up x12)).1 hfine.to_tuple (b12.new hq) ((xall.trans x12).trans (Ext.new hq))
    · exact ⟨_, rfl, k (.ref a) (.list ds) _ (.lst na (x12.sqL na hs) (hvs.up x12)) hfine b12 (xall.trans x12)⟩
  | tup na hs hvs => exact iteF ⟨_, rfl, k _ _ _ (.tup na hs hvs) hfine (b11.mono (by omega)) xall⟩
  | dic na hs hvs => exact iteF ⟨_, rfl, k _ _ _ (.dic na hs hvs) hfine (b11.mono (by omega)) xall⟩
  | non => exact iteF ⟨_, rfl, k _ _ _ .non hfine (b11.mono (by omega)) xall⟩
  | bl b => exact iteF ⟨_, rfl, k _ _ _ (.bl b) hfine (b11.mono (by omega)) xall⟩
  | int z => exact iteF ⟨_, rfl, k _ _ _ (.int z) hfine (b11.mono (by omega)) xall⟩
  | str z => exact iteF ⟨_, rfl, k _ _ _ (.str z) hfine (b11.mono (by omega)) xall⟩
end
end K1

set_option Elab.async false
set_option linter.all false
set_option maxRecDepth 100000
set_option maxHeartbeats 4000000
namespace K1
open PySem PySem.Spec PyProof.Rows L2 Gs
section
variable {P : Program} {w : World} {K : PySem.W.Frag} {mg : Str → Option Value} {base : Heap}
def Good (x : Str) : Prop := x.length ≤ 9 ∧ ∀ c ∈ x.cps.toList, c ∈ letters.cps.toList
instance (x : Str) : Decidable (Good x) := inferInstanceAs (Decidable (_ ∧ _))
def spNm : Sp := fun vs H Q _ => ∃ (c l : Addr) (n : Nat), vs = [.ref c] ∧ Bag c l n H ∧ n ≤ 999980 ∧
  ∀ (x : Str) (H' : Hp), Good x → Bag c l (n + 13) H' → Ext c H H' → Q (.str x) H'
theorem joined (cs : List Nat) : Txt.join "" (cs.map fun k => (⟨#[k]⟩ : Str)) = ⟨cs.toArray⟩ := by
  have h := PyProof.Rows.join_ones cs
  have e : ("" : Str) = ⟨#[]⟩ := by decide +kernel
  rw [e, ← h]; exact eq_of_beq (PyProof.Rows.join_plain_closes _ _)
theorem G__law_name (T : Tx K mg) : FnG P w K mg base CX0 3 T.a__law_name T.d__law_name ["crate"] spNm := by
  refine fun_okG T.F__law_name sc__law_name (fun vs H Q E h => ?_) (fun cdv A outer s H vs Q E hr hg h => ?_)
  · obtain ⟨c, l, n, rfl, _⟩ := h; rfl
  obtain ⟨c, l, n, rfl, hb, hN, k⟩ := h
  refine ⟨_, (pss_cons (ps_set (i := 1) sc__law_name.nd rfl (Or.inr rfl) pe_str)
      (pss_cons (ps_set (i := 2) sc__law_name.nd rfl (Or.inl rfl) (pe_bm PySem.F.plainAttrs_str PySem.F.slot_str_join PySem.F.type_str_join mt_join pe_str (pa_cons (pe_lc (own := [("at", 3)]) (g := (gName 3)) rfl sc__law_name.nd (pi_range1 (by rfl) T.z_range (pa_cons (pg_call (G__law_one T) (hr.mono (by decide)) hg (by rfl) T.m__law_one T.F__law_one.kp T.b__law_one .nil pass0 (pa_cons (pv 0) (pa_cons (pe_lst (pa_cons pe_int (pa_cons pe_int (pa_cons pe_int (pa_cons pe_int (pa_cons pe_int (pa_cons pe_int (pa_cons pe_int pa_nil)))))))) pa_nil))) pa_nil)) (blkOk_by (N := n__law_name) (sc := defScope s__law_name) (by decide +kernel)) (fun _ _ _ _ _ => (pg_name (i := 3) sc__law_name.nd rfl (Or.inl rfl))) (fun _ _ _ _ _ => pts_nil) (fun _ _ _ _ _ => (pe_ix ix_str (pv 1) (pg_call (G__law_lift T) (hr.mono (by decide)) hg (by rfl) T.m__law_lift T.F__law_lift.kp T.b__law_lift .nil pass0 (pa_cons (pv 0) (pa_cons pe_int pa_nil))) (fun _ _ => rfl)))) pa_nil)))
      (pss_one (ps_ret (pg_call (G__law_one T) (hr.mono (by decide)) hg (by rfl) T.m__law_one T.F__law_one.kp T.b__law_one .nil pass0 (pa_cons (pv 0) (pa_cons (pe_lst (pa_cons (pv 2) (pa_cons (pv 2) (pa_cons (pg_call (G__law_one T) (hr.mono (by decide)) hg (by rfl) T.m__law_one T.F__law_one.kp T.b__law_one .nil pass0 (pa_cons (pv 0) (pa_cons (pe_lst (pa_cons pe_str (pa_cons pe_str (pa_cons pe_str (pa_cons pe_str (pa_cons pe_str (pa_cons pe_str (pa_cons pe_str (pa_cons pe_str (pa_cons pe_str pa_nil)))))))))) pa_nil))) pa_nil)))) pa_nil))))))), ?_⟩
  refine ⟨rfl, ?_⟩
  -- how many letters
  refine ⟨_, rfl, szl rfl, fun p hp => ?_⟩
  refine ⟨c, l, p, n, _, rfl, hb.new hp, by omega, hb.ne hp, .of upd_same, by simp, szl2 rfl, fun i v H1 hi b1 x1 => ?_⟩
  obtain ⟨m, rfl, hm⟩ : ∃ m : Nat, v = .int m ∧ m ≤ 9 := by
    have hm := one_of hi
    simp only [List.mem_cons, List.not_mem_nil, or_false] at hm
    rcases hm with rfl | rfl | rfl | rfl | rfl | rfl | rfl
    · exact ⟨1, rfl, by decide⟩
    · exact ⟨2, rfl, by decide⟩
    · exact ⟨8, rfl, by decide⟩
    · exact ⟨5, rfl, by decide⟩
    · exact ⟨9, rfl, by decide⟩
    · exact ⟨0, rfl, by decide⟩
    · exact ⟨7, rfl, by decide⟩
  have x01 : Ext c H H1 := (Ext.new hp).trans x1
  clear hi x1 hp hb
  refine ⟨m, rfl, by omega, by omega, fun D hD => ?_⟩
  have nDc := b1.ne hD
  have nDl := b1.ne2 hD
  refine lc_it (walk_range (lo := 0) (n := m)) (fun i H' => ∃ cs : List Nat, H' D = some (.lst (cs.map fun k => V.str ⟨#[k]⟩)) ∧ cs.length = i ∧ (∀ z ∈ cs, z ∈ letters.cps.toList) ∧ Bag c l (n + 1 + i) H' ∧ Ext c H1 H')
    ⟨[], upd_same, rfl, fun z h => (nomatch h), b1.new hD, Ext.new hD⟩ (fun _ _ _ _ => trivial) ?_ ?_
  · rintro i x H2 H2' hi ⟨cs, h1, h2, h3, b2, x2⟩ ⟨rfl, rfl⟩
    refine ⟨rfl, ?_⟩
    refine ⟨_, rfl, _, rfl, c, l, _, _, rfl, b2, by omega, by decide, by decide, fun v H3 a1 a2 b3 x3 => ?_⟩
    obtain ⟨j, rfl⟩ := Int.eq_ofNat_of_zero_le a1
    have hj : j < letters.cps.toList.length := by
      have : letters.cps.toList.length = 26 := by decide +kernel
      omega
    have h13 : H3 D = some (.lst (cs.map fun k => V.str ⟨#[k]⟩)) := x3 _ _ nDc h1
    refine ⟨letters, _, letters.cps.toList[j], rfl, rfl, szl rfl, atI_nat (List.getElem?_eq_getElem hj), _, h13, ?_, cs ++ [letters.cps.toList[j]], ?_, ?_, ?_, ?_, ?_⟩
    · rw [List.length_map]; exact szs (by omega)
    · rw [upd_same, List.map_append]; rfl
    · rw [List.length_append]; show cs.length + 1 = i + 1; omega
    · intro z hz
      rcases List.mem_append.mp hz with hz | hz
      · exact h3 z hz
      · rw [List.mem_singleton.mp hz]; exact List.getElem_mem hj
    · exact (b3.mono (by omega)).put nDc nDl
    · exact (x2.trans x3).own hD
  rintro H2 ⟨cs, h1, h2, h3, b2, x2⟩
  refine ⟨"", D, cs.map fun k => (⟨#[k]⟩ : Str), rfl, rfl, .inl (.of (by rw [List.map_map]; exact h1)), ?_, ?_⟩
  · have e1 : ∀ cs : List Nat, ((cs.map fun k => (⟨#[k]⟩ : Str)).map (·.length)).sum = cs.length := by
      intro cs
      induction cs with
      | nil => rfl
      | cons a r ih => simp only [List.map_cons, List.sum_cons, ih, List.length_cons]; show 1 + _ = _; omega
    have e2 : ("" : Str).length = 0 := rfl
    rw [e1, e2]; omega
  rw [joined]
  have hgood : Good ⟨cs.toArray⟩ := ⟨by show cs.toArray.size ≤ 9; rw [List.size_toArray]; omega, by intro z hz; exact h3 z (by simpa using hz)⟩
  generalize (⟨cs.toArray⟩ : Str) = x at hgood ⊢
  -- one of them, or a word
  refine ⟨_, rfl, _, rfl, _, rfl, _, rfl, szl rfl, fun q hq => ?_⟩
  refine ⟨c, l, q, _, _, rfl, b2.new hq, by omega, b2.ne hq, .of upd_same, by simp, szl2 rfl, fun i v H3 hi b3 x3 => ?_⟩
  obtain ⟨y, rfl, hy⟩ : ∃ y : Str, v = .str y ∧ Good y := by
    have hm := one_of hi
    simp only [List.mem_cons, List.not_mem_nil, or_false] at hm
    rcases hm with rfl | rfl | rfl | rfl | rfl | rfl | rfl | rfl | rfl <;> exact ⟨_, rfl, by decide +kernel⟩
  have x13 : Ext c H2 H3 := (Ext.new hq).trans x3
  clear hi x3 hq
  refine ⟨szl rfl, fun q hq => ?_⟩
  refine ⟨c, l, q, _, _, rfl, b3.new hq, by omega, b3.ne hq, .of upd_same, by simp, szl2 rfl, fun i v H4 hi b4 x4 => ?_⟩
  have xx : Ext c H H4 := ((x01.trans x2).trans x13).trans ((Ext.new hq).trans x4)
  have hm := one_of hi
  simp only [List.mem_cons, List.not_mem_nil, or_false] at hm
  rcases hm with rfl | rfl | rfl
  · exact k _ _ hgood (b4.mono (by omega)) xx
  · exact k _ _ hgood (b4.mono (by omega)) xx
  · exact k _ _ hy (b4.mono (by omega)) xx
end
end K1

set_option Elab.async false
set_option linter.all false
set_option maxRecDepth 100000
set_option maxHeartbeats 4000000
namespace K1
open PySem PySem.Spec PyProof.Rows L2 Gs
section
variable {P : Program} {w : World} {K : PySem.W.Frag} {mg : Str → Option Value} {base : Heap}
def spRight : Sp := fun vs H Q _ => ∃ (c l : Addr) (n : Nat), vs = [.ref c] ∧ Bag c l n H ∧ n ≤ 999960 ∧
  ∀ (H' : Hp), Bag c l (n + 20) H' → Ext c H H' → Q (.bl true) H'
def oddOne (o : Str) : Prop := o.length ≤ 1 ∧ ∃ z ∈ o.cps.toList, z ∉ letters.cps.toList
instance (o : Str) : Decidable (oddOne o) := inferInstanceAs (Decidable (_ ∧ _))
theorem good_name {x : Str} (h : Good x) : isNameS x = (decide (1 ≤ x.length) && decide (x.length ≤ 8) && !inV (.str x) barred) := by
  unfold isNameS
  rw [show (x.cps.toList.all fun c => decide (c ∈ letters.cps.toList)) = true from List.all_eq_true.mpr fun c hc => decide_eq_true (h.2 c hc), Bool.and_true]
theorem odd_name {a o b : Str} (h : oddOne o) : isNameS (a ++ o ++ b) = false := by
  unfold isNameS
  obtain ⟨_, z, hz, hn⟩ := h
  have e : ((a ++ o ++ b).cps.toList.all fun c => decide (c ∈ letters.cps.toList)) = false := by
    rw [List.all_eq_false]
    refine ⟨z, ?_, by rw [decide_eq_false hn]; exact Bool.false_ne_true⟩
    show z ∈ (a.cps ++ o.cps ++ b.cps).toList
    simp only [Array.toList_append, List.mem_append]
    exact .inl (.inr hz)
  rw [e, Bool.and_false]
theorem G__law_names_right (T : Tx K mg) : FnG P w K mg base CX0 4 T.a__law_names_right T.d__law_names_right ["crate"] spRight := by
  refine fun_okG T.F__law_names_right sc__law_names_right (fun vs H Q E h => ?_) (fun cdv A outer s H vs Q E hr hg h => ?_)
  · obtain ⟨c, l, n, rfl, _⟩ := h; rfl
  obtain ⟨c, l, n, rfl, hb, hN, k⟩ := h
  refine ⟨_, (pss_cons (ps_set (i := 1) sc__law_names_right.nd rfl (Or.inl rfl) (pg_call (G__law_name T) (hr.mono (by decide)) hg (by rfl) T.m__law_name T.F__law_name.kp T.b__law_name .nil pass0 (pa_cons (pv 0) pa_nil)))
      (pss_cons (ps_par (i := 2) (j := 3) rfl sc__law_names_right.nd rfl rfl (by decide) rfl rfl (pa_cons (pg_call (G__law_lift T) (hr.mono (by decide)) hg (by rfl) T.m__law_lift T.F__law_lift.kp T.b__law_lift .nil pass0 (pa_cons (pv 0) (pa_cons (pe_op op_add (pe_callB call_len_str (by rfl) T.z_len (by decide +kernel) (pa_cons (pv 1) pa_nil)) pe_int) pa_nil))) (pa_cons (pg_call (G__law_one T) (hr.mono (by decide)) hg (by rfl) T.m__law_one T.F__law_one.kp T.b__law_one .nil pass0 (pa_cons (pv 0) (pa_cons (pe_lst (pa_cons pe_str (pa_cons pe_str (pa_cons pe_str (pa_cons pe_str (pa_cons pe_str (pa_cons pe_str (pa_cons pe_str (pa_cons pe_str (pa_cons pe_str (pa_cons pe_str pa_nil))))))))))) pa_nil))) pa_nil)) (by rfl))
      (pss_cons (ps_set (i := 4) sc__law_names_right.nd rfl (Or.inl rfl) (pe_and (pe_chain op_le op_le pe_int (pe_callB call_len_str (by rfl) T.z_len (by decide +kernel) (pa_cons (pv 1) pa_nil)) pe_int) (pe_one (pe_cmpR op_notIn_seq (pv 1) (pe_tup (pa_cons pe_str (pa_cons pe_str (pa_cons pe_str (pa_cons pe_str pa_nil))))) (by rfl)))))
      (pss_cons (ps_set (i := 5) sc__law_names_right.nd rfl (Or.inl rfl) (pe_lst (pa_cons (pg_callK0 (G_is_name T) (hr.mono (by decide)) hg (by rfl) T.m_is_name T.F_is_name.kp T.kb_is_name pass0 (pk_cons (pv 1) pk_nil)) (pa_cons (pg_call (G_is_name T) (hr.mono (by decide)) hg (by rfl) T.m_is_name T.F_is_name.kp T.b_is_name .nil pass0 (pa_cons (pe_op op_add_str (pe_op op_add_str (pe_slice C8.sl_txt (pv 1) po_none (po_some (pv 2))) (pv 3)) (pe_slice C8.sl_txt (pv 1) (po_some (pv 2)) po_none)) pa_nil)) (pa_cons (pg_call (G_is_name T) (hr.mono (by decide)) hg (by rfl) T.m_is_name T.F_is_name.kp T.b_is_name .nil pass0 (pa_cons (pe_lst (pa_cons (pv 1) pa_nil)) pa_nil)) (pa_cons (pg_call (G_is_name T) (hr.mono (by decide)) hg (by rfl) T.m_is_name T.F_is_name.kp T.b_is_name .nil pass0 (pa_cons pe_non pa_nil)) (pa_cons (pg_call (G_is_name T) (hr.mono (by decide)) hg (by rfl) T.m_is_name T.F_is_name.kp T.b_is_name .nil pass0 (pa_cons pe_bl pa_nil)) pa_nil)))))))
      (pss_one (ps_ret (pe_cmpR op_eq (pe_callB (call_repr hr hg) (by rfl) T.z_repr (by decide +kernel) (pa_cons (pv 5) pa_nil)) (pe_callB (call_repr hr hg) (by rfl) T.z_repr (by decide +kernel) (pa_cons (pe_lst (pa_cons (pv 4) (pa_cons pe_bl (pa_cons pe_bl (pa_cons pe_bl (pa_cons pe_bl pa_nil)))))) pa_nil)) (nomark _)))))))), ?_⟩
  refine ⟨_, rfl, c, l, n, rfl, hb, by omega, fun x H1 gx b1 x1 => ?_⟩
  have hx9 := gx.1
  -- at, odd
  refine ⟨_, rfl, _, rfl, _, rfl, szm (by omega), _, _, rfl, rfl, c, l, _, _, rfl, b1, by omega, by omega, by omega, fun v1 H2 a1 a2 b2 x2 => ?_⟩
  refine ⟨_, rfl, szl rfl, fun p hp => ?_⟩
  refine ⟨c, l, p, _, _, rfl, b2.new hp, by omega, b2.ne hp, .of upd_same, by simp, szl2 rfl, fun i v H3 hi b3 x3 => ?_⟩
  obtain ⟨o, rfl, ho⟩ : ∃ o : Str, v = .str o ∧ oddOne o := by
    have hm := one_of hi
    simp only [List.mem_cons, List.not_mem_nil, or_false] at hm
    rcases hm with rfl | rfl | rfl | rfl | rfl | rfl | rfl | rfl | rfl | rfl <;> exact ⟨_, rfl, by decide +kernel⟩
  have x13 : Ext c H H3 := (x1.trans x2).trans ((Ext.new hp).trans x3)
  clear hi x3 hp x1 x2
  refine ⟨_, _, rfl, ?_⟩
  -- is_so
  have eso : isNameS x = (decide (1 ≤ x.length) && decide (x.length ≤ 8) && !inV (.str x) barred) := good_name gx
  dsimp only
  refine seq_asg (.bl (isNameS x)) (fun Q' hq => ?_) (fun H4 s4 => ?_)
  · refine ⟨_, rfl, _, rfl, szm (by omega), _, _, rfl, rfl, _, rfl, ?_⟩
    refine iteB (fun e1 => ?_) (fun e1 => ?_)
    rotate_left
    · refine ⟨_, rfl, iteF ?_⟩
      have := hq H3 (Same.refl _)
      rw [eso, decide_eq_false (fun z : 1 ≤ x.length => by have := of_decide_eq_false e1; omega)] at this
      exact this
    refine ⟨_, _, rfl, rfl, _, rfl, ?_⟩
    have e1 := of_decide_eq_true e1
    refine iteB (fun e2 => ?_) (fun e2 => ?_)
    · have e2 := of_decide_eq_true e2
      refine ⟨_, rfl, szl rfl, fun p hp => ⟨p, _, rfl, .inr (.of upd_same), rfl, rfl, ?_⟩⟩
      have := hq _ (same_new hp (o := .tup barred))
      rw [eso, decide_eq_true (show 1 ≤ x.length by omega), decide_eq_true (show x.length ≤ 8 by omega)] at this
      exact this
    · have := hq H3 (Same.refl _)
      rw [eso, decide_eq_false (fun z : x.length ≤ 8 => by have := of_decide_eq_false e2; omega), Bool.and_false] at this
      exact this
  have b4 := b3.same s4
  have x4 := x13.trans (Ext.of s4)
  clear eso gx
  -- told
  refine ⟨_, rfl, rfl, rfl, c, _, _, rfl, .str x, fun y e => by cases e; omega, fun H5 s5 => ?_⟩
  have l1 := Txt.slice_le x none (some v1)
  have l2 := Txt.slice_le x (some v1) none
  have l3 := ho.1
  refine ⟨_, rfl, _, rfl, v1, rfl, x, rfl, szm (by omega), _, rfl, _, _, rfl, rfl, szm (by omega), _, rfl, _, rfl, v1, rfl, x, rfl, szm (by omega), _, _, rfl, rfl, ?_, c, _, _, rfl, .str _, ?_, fun H6 s6 => ?_⟩
  · rw [strLen_append]; exact szm (by omega)
  · rintro y e; cases e
    rw [strLen_append, strLen_append]; omega
  refine ⟨_, rfl, szl rfl, fun q hq => ?_⟩
  have b6 := (b4.same s5).same s6
  have f7 := new_lst hq (b6.ne hq) (.cons (.str x) .nil) (K := K)
  refine ⟨c, _, _, rfl, f7.1, fun y e => (nomatch e), fun H7 s7 => ?_⟩
  refine ⟨c, _, _, rfl, .non, fun y e => (nomatch e), fun H8 s8 => ?_⟩
  refine ⟨c, _, _, rfl, .bl true, fun y e => (nomatch e), fun H9 s9 => ?_⟩
  refine ⟨szl rfl, fun p hp => ?_⟩
  have s49 : Same H4 H9 := ((s5.trans s6).trans (same_new hq)).trans ((s7.trans s8).trans s9)
  have b9 := b4.same s49
  have f10 := new_lst hp (b9.ne hp) (dv_bools [isNameS x, isNameS (Txt.slice x none (some v1) ++ o ++ Txt.slice x (some v1) none), false, false, false]) (K := K)
  have x10 := (x4.trans (Ext.of s49)).trans f10.2
  have b10 := b9.new hp (o := .lst ([isNameS x, isNameS (Txt.slice x none (some v1) ++ o ++ Txt.slice x (some v1) none), false, false, false].map V.bl))
  have F1 := Fine.list (fine_bools [isNameS x, isNameS (Txt.slice x none (some v1) ++ o ++ Txt.slice x (some v1) none), false, false, false])
  have F2 := Fine.list (fine_bools [isNameS x, false, false, false, false])
  refine ⟨_, rfl, c, p, _, rfl, f10.1, F1.sh, Nat.le_trans F1.dp (by decide), F1.fits (by show 5 ≤ 15000; decide), _, rfl, szl rfl, fun q2 hq2 => ?_⟩
  have f11 := new_lst hq2 (b10.ne hq2) (dv_bools [isNameS x, false, false, false, false]) (K := K)
  refine ⟨c, q2, _, rfl, f11.1, F2.sh, Nat.le_trans F2.dp (by decide), F2.fits (by show 5 ≤ 15000; decide), rfl, ?_⟩
  have := k _ ((b10.new hq2 (o := .lst ([isNameS x, false, false, false, false].map V.bl))).mono (by omega)) (x10.trans f11.2)
  rw [odd_name ho, decide_eq_true rfl]
  exact this
end
end K1

set_option Elab.async false
set_option linter.all false
set_option maxRecDepth 100000
set_option maxHeartbeats 16000000
namespace K1
open PySem PySem.Spec PyProof.Rows L2 Gs
section
variable {P : Program} {w : World} {K : PySem.W.Frag} {mg : Str → Option Value} {base : Heap}
def spLaw (K : PySem.W.Frag) : Sp := fun vs H Q _ => ∃ (a : Addr) (ns : List Int), vs = [.ref a] ∧ SqL K H a (ns.map V.int) ∧ ns.length ≤ 63 ∧ ∀ H', Q (.bl true) H'
theorem inB_none (d : PyData) : inB none none d = isInt d := by cases d <;> rfl
def loOk (lo : Option Int) (z : Int) : Bool := match lo with | none => true | some l => decide (l ≤ z)
def hiOk (hi : Option Int) (z : Int) : Bool := match hi with | none => true | some u => decide (z ≤ u)
theorem inB_and (lo hi : Option Int) (z : Int) : inB lo hi (.int z) = (loOk lo z && hiOk hi z) := rfl
theorem G_law (T : Tx K mg) : FnG P w K mg base CX0 5 T.a_law T.d_law ["script"] (spLaw K) := by
  refine fun_okG T.F_law sc_law (fun vs H Q E h => ?_) (fun cdv A outer s H vs Q E hr hg h => ?_)
  · obtain ⟨a, ns, rfl, _⟩ := h; rfl
  obtain ⟨a, ns, rfl, hS, hlen, k⟩ := h
  refine ⟨_, (pss_cons (ps_set (i := 1) sc_law.nd rfl (Or.inl rfl) (pg_call (G__law_crate T) (hr.mono (by decide)) hg (by rfl) T.m__law_crate T.F__law_crate.kp T.b__law_crate .nil pass0 (pa_cons (pv 0) pa_nil)))
      (pss_cons (ps_for PassesOwn.never rfl (pi_range1 (by rfl) T.z_range (pa_cons pe_int pa_nil)) (pg_name (i := 2) sc_law.nd rfl (Or.inl rfl)) (pss_cons (ps_set (i := 3) sc_law.nd rfl (Or.inl rfl) (pg_call (G__law_value T) (hr.mono (by decide)) hg (by rfl) T.m__law_value T.F__law_value.kp T.b__law_value .nil pass0 (pa_cons (pv 1) pa_nil)))
      (pss_cons (ps_par (i := 4) (j := 5) rfl sc_law.nd rfl rfl (by decide) rfl rfl (pa_cons (pe_op op_sub (pg_call (G__law_lift T) (hr.mono (by decide)) hg (by rfl) T.m__law_lift T.F__law_lift.kp T.b__law_lift .nil pass0 (pa_cons (pv 1) (pa_cons pe_int pa_nil))) pe_int) (pa_cons (pe_op op_add (pe_op op_sub (pg_call (G__law_lift T) (hr.mono (by decide)) hg (by rfl) T.m__law_lift T.F__law_lift.kp T.b__law_lift .nil pass0 (pa_cons (pv 1) (pa_cons pe_int pa_nil))) pe_int) (pe_op op_mul (pe_op op_pow pe_int pe_int) (pg_call (G__law_lift T) (hr.mono (by decide)) hg (by rfl) T.m__law_lift T.F__law_lift.kp T.b__law_lift .nil pass0 (pa_cons (pv 1) (pa_cons pe_int pa_nil))))) pa_nil)) (by rfl))
      (pss_cons (ps_set (i := 6) sc_law.nd rfl (Or.inl rfl) (pg_call (G__law_one T) (hr.mono (by decide)) hg (by rfl) T.m__law_one T.F__law_one.kp T.b__law_one .nil pass0 (pa_cons (pv 1) (pa_cons (pe_lst (pa_cons (pv 4) (pa_cons (pv 5) (pa_cons (pe_op op_sub (pv 4) pe_int) (pa_cons (pe_op op_add (pv 5) pe_int) (pa_cons (pe_op op_sub (pg_call (G__law_lift T) (hr.mono (by decide)) hg (by rfl) T.m__law_lift T.F__law_lift.kp T.b__law_lift .nil pass0 (pa_cons (pv 1) (pa_cons pe_int pa_nil))) pe_int) pa_nil)))))) pa_nil))))
      (pss_cons (ps_set (i := 7) sc_law.nd rfl (Or.inl rfl) (pg_call (G__law_one T) (hr.mono (by decide)) hg (by rfl) T.m__law_one T.F__law_one.kp T.b__law_one .nil pass0 (pa_cons (pv 1) (pa_cons (pe_lst (pa_cons (pe_tup (pa_cons (pv 4) (pa_cons (pv 5) pa_nil))) (pa_cons (pe_tup (pa_cons pe_non (pa_cons (pv 5) pa_nil))) (pa_cons (pe_tup (pa_cons (pv 4) (pa_cons pe_non pa_nil))) (pa_cons (pe_tup (pa_cons pe_non (pa_cons pe_non pa_nil))) pa_nil))))) pa_nil))))
      (pss_cons (ps_set (i := 8) sc_law.nd rfl (Or.inl rfl) (pe_and (pe_or (pe_cmpR op_isN (pe_ix ix_tup (pv 7) pe_int (fun _ _ => rfl)) pe_non (nomark _)) (pe_one (pe_cmpR op_ge (pv 6) (pe_ix ix_tup (pv 7) pe_int (fun _ _ => rfl)) (nomark _)))) (pe_one (pe_or (pe_cmpR op_isN (pe_ix ix_tup (pv 7) pe_int (fun _ _ => rfl)) pe_non (nomark _)) (pe_one (pe_cmpR op_le (pv 6) (pe_ix ix_tup (pv 7) pe_int (fun _ _ => rfl)) (nomark _)))))))
      (pss_cons (ps_set (i := 9) sc_law.nd rfl (Or.inl rfl) (pe_lst (pa_cons (pg_call (G_is_integer T) (hr.mono (by decide)) hg (by rfl) T.m_is_integer T.F_is_integer.kp T.b_is_integer .nil pass0 (pa_cons (pv 3) pa_nil)) (pa_cons (pg_callK0 (G_is_integer T) (hr.mono (by decide)) hg (by rfl) T.m_is_integer T.F_is_integer.kp T.kb_is_integer pass0 (pk_cons (pv 6) pk_nil)) (pa_cons (pg_call (G_is_within T) (hr.mono (by decide)) hg (by rfl) T.m_is_within T.F_is_within.kp T.b_is_within .nil pass0 (pa_cons (pv 3) (pa_cons pe_non (pa_cons pe_non pa_nil)))) (pa_cons (pg_callK0 (G_is_within T) (hr.mono (by decide)) hg (by rfl) T.m_is_within T.F_is_within.kp T.kb_is_within pass0 (pk_cons (pe_ix ix_tup (pv 7) pe_int (fun _ _ => rfl)) (pk_cons (pv 6) (pk_cons (pe_ix ix_tup (pv 7) pe_int (fun _ _ => rfl)) pk_nil)))) pa_nil))))))
      (pss_cons (ps_if (pt_cmpR op_ne (pe_callB (call_repr hr hg) (by rfl) T.z_repr (by decide +kernel) (pa_cons (pv 9) pa_nil)) (pe_callB (call_repr hr hg) (by rfl) T.z_repr (by decide +kernel) (pa_cons (pe_lst (pa_cons (pg_call (G__law_own_integer T) (hr.mono (by decide)) hg (by rfl) T.m__law_own_integer T.F__law_own_integer.kp T.b__law_own_integer .nil pass0 (pa_cons (pv 3) pa_nil)) (pa_cons pe_bl (pa_cons (pg_call (G__law_own_integer T) (hr.mono (by decide)) hg (by rfl) T.m__law_own_integer T.F__law_own_integer.kp T.b__law_own_integer .nil pass0 (pa_cons (pv 3) pa_nil)) (pa_cons (pv 8) pa_nil))))) pa_nil)) (nomark _)) (pss_one (ps_ret pe_bl)) pss_nil)
      (pss_cons (ps_par (i := 10) (j := 11) rfl sc_law.nd rfl rfl (by decide) rfl rfl (pa_cons (pg_call (G__law_pair T) (hr.mono (by decide)) hg (by rfl) T.m__law_pair T.F__law_pair.kp T.b__law_pair .nil pass0 (pa_cons (pv 1) pa_nil)) (pa_cons (pg_call (G__law_pair T) (hr.mono (by decide)) hg (by rfl) T.m__law_pair T.F__law_pair.kp T.b__law_pair .nil pass0 (pa_cons (pv 1) pa_nil)) pa_nil)) (by rfl))
      (pss_cons (ps_par (i := 12) (j := 13) rfl sc_law.nd rfl rfl (by decide) rfl rfl (pa_cons (pe_callB (call_repr hr hg) (by rfl) T.z_repr (by decide +kernel) (pa_cons (pe_lst (pa_cons (pv 10) (pa_cons (pv 11) pa_nil))) pa_nil)) (pa_cons (pg_call (G__law_one T) (hr.mono (by decide)) hg (by rfl) T.m__law_one T.F__law_one.kp T.b__law_one .nil pass0 (pa_cons (pv 1) (pa_cons (pe_lst (pa_cons (pe_lst (pa_cons (pv 10) (pa_cons (pv 11) pa_nil))) (pa_cons (pe_tup (pa_cons (pv 10) (pa_cons (pv 11) pa_nil))) (pa_cons (pe_lst (pa_cons (pv 10) pa_nil)) (pa_cons (pe_lst (pa_cons (pv 10) (pa_cons (pv 11) (pa_cons (pv 11) pa_nil)))) (pa_cons (pv 10) (pa_cons pe_non (pa_cons (pe_lst (pa_cons (pv 10) (pa_cons (pv 3) pa_nil))) pa_nil)))))))) pa_nil))) pa_nil)) (by rfl))
      (pss_cons (ps_set (i := 14) sc_law.nd rfl (Or.inl rfl) (pe_and (pe_callB call_isiT (by rfl) T.z_isinstance (by decide +kernel) (pa_cons (pv 13) (pa_cons (pe_tup (pa_cons (pe_bltn (v := .ty "list") (u := .type "list") (by rfl) T.z_list (by decide +kernel) rfl) (pa_cons (pe_bltn (v := .ty "tuple") (u := .type "tuple") (by rfl) T.z_tuple (by decide +kernel) rfl) pa_nil))) pa_nil))) (pe_and (pe_cmpR op_eq (pe_callB call_len (by rfl) T.z_len (by decide +kernel) (pa_cons (pv 13) pa_nil)) pe_int (nomark _)) (pe_one (pe_cmpR (op_eqD hr.units) (pe_lc (own := [("each", 15)]) (g := (gName 15)) rfl sc_law.nd (pi_or (pi_list (pv 13)) (pi_tup (pv 13))) (blkOk_by (N := n_law) (sc := defScope s_law) (by decide +kernel)) (fun _ _ _ _ _ => (pg_name (i := 15) sc_law.nd rfl (Or.inl rfl))) (fun _ _ _ _ _ => pts_one (pt_not (pt_val (pg_call (G__law_own_square T) (hr.mono (by decide)) hg (by rfl) T.m__law_own_square T.F__law_own_square.kp T.b__law_own_square .nil pass0 (pa_cons (pv 15) pa_nil))))) (fun _ _ _ _ _ => pe_int)) (pe_lst pa_nil) (nomark _))))))
      (pss_cons (ps_set (i := 9) sc_law.nd rfl (Or.inl rfl) (pe_lst (pa_cons (pg_call (G_is_square T) (hr.mono (by decide)) hg (by rfl) T.m_is_square T.F_is_square.kp T.b_is_square .nil pass0 (pa_cons (pv 10) pa_nil)) (pa_cons (pg_callK0 (G_is_square T) (hr.mono (by decide)) hg (by rfl) T.m_is_square T.F_is_square.kp T.kb_is_square pass0 (pk_cons (pv 11) pk_nil)) (pa_cons (pg_call (G_is_square T) (hr.mono (by decide)) hg (by rfl) T.m_is_square T.F_is_square.kp T.b_is_square .nil pass0 (pa_cons (pv 3) pa_nil)) (pa_cons (pg_call (G_is_move T) (hr.mono (by decide)) hg (by rfl) T.m_is_move T.F_is_move.kp T.b_is_move .nil pass0 (pa_cons (pv 13) pa_nil)) (pa_cons (pg_callK0 (G_is_move T) (hr.mono (by decide)) hg (by rfl) T.m_is_move T.F_is_move.kp T.kb_is_move pass0 (pk_cons (pv 13) pk_nil)) pa_nil)))))))
      (pss_cons (ps_set (i := 16) sc_law.nd rfl (Or.inl rfl) (pe_lst (pa_cons (pg_call (G__law_own_square T) (hr.mono (by decide)) hg (by rfl) T.m__law_own_square T.F__law_own_square.kp T.b__law_own_square .nil pass0 (pa_cons (pv 10) pa_nil)) (pa_cons (pg_call (G__law_own_square T) (hr.mono (by decide)) hg (by rfl) T.m__law_own_square T.F__law_own_square.kp T.b__law_own_square .nil pass0 (pa_cons (pv 11) pa_nil)) (pa_cons (pg_call (G__law_own_square T) (hr.mono (by decide)) hg (by rfl) T.m__law_own_square T.F__law_own_square.kp T.b__law_own_square .nil pass0 (pa_cons (pv 3) pa_nil)) (pa_cons (pv 14) (pa_cons (pv 14) pa_nil)))))))
      (pss_cons (ps_if (PW.pt (pw_or (pt_cmpR op_ne (pe_callB (call_repr hr hg) (by rfl) T.z_repr (by decide +kernel) (pa_cons (pv 9) pa_nil)) (pe_callB (call_repr hr hg) (by rfl) T.z_repr (by decide +kernel) (pa_cons (pv 16) pa_nil)) (nomark _)) (pw_or1 (pt_cmpR op_ne (pe_callB (call_repr hr hg) (by rfl) T.z_repr (by decide +kernel) (pa_cons (pe_lst (pa_cons (pv 10) (pa_cons (pv 11) pa_nil))) pa_nil)) (pv 12) (nomark _))))) (pss_one (ps_ret pe_bl)) pss_nil)
      (pss_one (ps_if (pt_not (pt_val (pg_call (G__law_names_right T) (hr.mono (by decide)) hg (by rfl) T.m__law_names_right T.F__law_names_right.kp T.b__law_names_right .nil pass0 (pa_cons (pv 1) pa_nil)))) (pss_one (ps_ret pe_bl)) pss_nil))))))))))))))))
      (pss_one (ps_ret pe_bl)))), ?_⟩
  refine ⟨_, rfl, a, ns, rfl, hS, hlen, fun c l H1 hc hl0 x1 b1 => ?_⟩
  refine ⟨5, rfl, by decide, by decide, ?_⟩
  refine for_it (walk_range (lo := 0) (n := 5)) (fun i σ H' => (∃ t2 t3 t4 t5 t6 t7 t8 t9 t10 t11 t12 t13 t14 t15 t16 : Option V,
    σ = [some (.ref a), some (.ref c), t2, t3, t4, t5, t6, t7, t8, t9, t10, t11, t12, t13, t14, t15, t16]) ∧ Bag c l (1000 * i) H') ⟨⟨_, _, _, _, _, _, _, _, _, _, _, _, _, _, _, rfl⟩, b1⟩ (fun _ _ _ _ _ => trivial) ?_ ?_
  rotate_left
  · rintro σ H2 ⟨_, _⟩; exact k H2
  clear hS hlen x1 b1 hc hl0 H1
  rintro i x σ H2 H2' hi ⟨⟨t2, t3, t4, t5, t6, t7, t8, t9, t10, t11, t12, t13, t14, t15, t16, rfl⟩, b2⟩ ⟨rfl, rfl⟩
  -- value
  refine ⟨_, rfl, c, l, _, rfl, b2, by omega, fun v dv H3 hv b3 x3 => ?_⟩
  -- low, high
  refine ⟨_, rfl, c, l, _, _, rfl, b3, by omega, by decide, by decide, fun z1 H4 a1 a2 b4 x4 => ⟨_, _, rfl, rfl, ?_⟩⟩
  refine ⟨_, rfl, c, l, _, _, rfl, b4, by omega, by decide, by decide, fun z2 H5 a3 a4 b5 x5 => ⟨_, _, rfl, rfl, ?_⟩⟩
  refine ⟨_, _, rfl, rfl, ⟨by decide, by decide, by decide⟩, _, rfl, c, l, _, _, rfl, b5, by omega, by decide, by decide, fun z3 H6 a5 a6 b6 x6 => ⟨_, _, rfl, rfl, .inr ⟨by omega, by omega⟩, _, _, rfl, rfl, _, _, rfl, ?_⟩⟩
  have x36 := (x4.trans x5).trans x6
  have hv6 := hv.up x36
  -- number
  refine ⟨_, rfl, _, rfl, _, rfl, _, rfl, _, _, rfl, rfl, _, rfl, _, _, rfl, rfl, _, rfl, c, l, _, _, rfl, b6, by omega, by decide, by decide, fun z4 H7 a7 a8 b7 x7 => ⟨_, _, rfl, rfl, szl rfl, fun p hp => ?_⟩⟩
  refine ⟨c, l, p, _, _, rfl, b7.new hp, by omega, b7.ne hp, .of upd_same, by simp, szl2 rfl, fun j v8 H8 hj b8 x8 => ?_⟩
  obtain ⟨z, rfl⟩ : ∃ z : Int, v8 = .int z := by
    have hm := one_of hj
    simp only [List.mem_cons, List.not_mem_nil, or_false] at hm
    rcases hm with rfl | rfl | rfl | rfl | rfl <;> exact ⟨_, rfl⟩
  have hv8 := hv6.up ((x7.trans (Ext.new hp)).trans x8)
  clear hj x8 hp x7 hv6 x36 x6 x5 x4 hv x3 b7 b6 b5 b4 b3 b2
  -- bounds
  refine ⟨_, rfl, _, rfl, _, rfl, szl rfl, fun p1 hp1 => ?_⟩
  have b9 := b8.new hp1 (o := .tup [.int (z1 - 4), .int (z2 - 4 + 10 ^ (30 : Int).toNat * z3)])
  have e1 : SqT K (upd H8 p1 (.tup [.int (z1 - 4), .int (z2 - 4 + 10 ^ (30 : Int).toNat * z3)])) p1 _ := .of upd_same
  have y1 : Ext c H8 (upd H8 p1 (.tup [.int (z1 - 4), .int (z2 - 4 + 10 ^ (30 : Int).toNat * z3)])) := Ext.new hp1
  have n1 := b8.ne hp1
  generalize upd H8 p1 _ = H9 at b9 e1 y1 ⊢
  refine ⟨_, rfl, szl rfl, fun p2 hp2 => ?_⟩
  have b10 := b9.new hp2 (o := .tup [.non, .int (z2 - 4 + 10 ^ (30 : Int).toNat * z3)])
  have e2 : SqT K (upd H9 p2 (.tup [.non, .int (z2 - 4 + 10 ^ (30 : Int).toNat * z3)])) p2 _ := .of upd_same
  have y2 : Ext c H9 (upd H9 p2 (.tup [.non, .int (z2 - 4 + 10 ^ (30 : Int).toNat * z3)])) := Ext.new hp2
  have n2 := b9.ne hp2
  generalize upd H9 p2 _ = H10 at b10 e2 y2 ⊢
  refine ⟨_, rfl, szl rfl, fun p3 hp3 => ?_⟩
  have b11 := b10.new hp3 (o := .tup [.int (z1 - 4), .non])
  have e3 : SqT K (upd H10 p3 (.tup [.int (z1 - 4), .non])) p3 _ := .of upd_same
  have y3 : Ext c H10 (upd H10 p3 (.tup [.int (z1 - 4), .non])) := Ext.new hp3
  have n3 := b10.ne hp3
  generalize upd H10 p3 _ = H11 at b11 e3 y3 ⊢
  refine ⟨szl rfl, fun p4 hp4 => ?_⟩
  have b12 := b11.new hp4 (o := .tup [.non, .non])
  have e4 : SqT K (upd H11 p4 (.tup [.non, .non])) p4 _ := .of upd_same
  have y4 : Ext c H11 (upd H11 p4 (.tup [.non, .non])) := Ext.new hp4
  have n4 := b11.ne hp4
  generalize upd H11 p4 _ = H12 at b12 e4 y4 ⊢
  refine ⟨szl rfl, fun p5 hp5 => ?_⟩
  have y5 : Ext c H12 (upd H12 p5 (.lst [.ref p1, .ref p2, .ref p3, .ref p4])) := Ext.new hp5
  refine ⟨c, l, p5, _, _, rfl, b12.new hp5, by omega, b12.ne hp5, .of upd_same, by simp, szl2 rfl, fun j v9 H13 hj b13 y6 => ?_⟩
  obtain ⟨pb, lo, hi', rfl, nb, hb9⟩ : ∃ (pb : Addr) (lo hi' : Option Int), v9 = .ref pb ∧ pb ≠ c ∧ SqT K H13 pb [oV lo, oV hi'] := by
    have hm := one_of hj
    simp only [List.mem_cons, List.not_mem_nil, or_false] at hm
    have y56 := y5.trans y6
    rcases hm with rfl | rfl | rfl | rfl
    · exact ⟨p1, some _, some _, rfl, n1, ((y2.trans y3).trans (y4.trans y56)).sqT n1 e1⟩
    · exact ⟨p2, none, some _, rfl, n2, (y3.trans (y4.trans y56)).sqT n2 e2⟩
    · exact ⟨p3, some _, none, rfl, n3, (y4.trans y56).sqT n3 e3⟩
    · exact ⟨p4, none, none, rfl, n4, y56.sqT n4 e4⟩
  have hv13 := hv8.up (((y1.trans y2).trans (y3.trans y4)).trans (y5.trans y6))
  clear hj y1 y2 y3 y4 y5 y6 e1 e2 e3 e4 n1 n2 n3 n4 hp1 hp2 hp3 hp4 hp5 b8 b9 b10 b11 b12 hv8
  -- due
  dsimp only
  refine seq_asg (.bl (inB lo hi' (.int z))) (fun Q' hq => ?_) (fun H14 s14 => ?_)
  · have hq := hq H13 (Same.refl _)
    rw [inB_and] at hq
    have snd : ∀ Q'' : VK, Q'' (.bl (hiOk hi' z)) H13 → (tOrV (tOp (fun x y H Q => y = .non ∧ Q (.bl (decide (x = .non))) H) (tOp (rIxT K) (tVar 7) (tC (.int 1))) (tC .non)) (tOp (rI0 fun i j => .bl (decide (i ≤ j))) (tVar 6) (tOp (rIxT K) (tVar 7) (tC (.int 1))))) [some (.ref a), some (.ref c), some (.int (0 + (i : Int))), some v, some (.int (z1 - 4)), some (.int (z2 - 4 + 10 ^ (30 : Int).toNat * z3)), some (.int z), some (.ref pb), t8, t9, t10, t11, t12, t13, t14, t15, t16] H13 Q'' := by
      intro Q'' h
      refine ⟨_, rfl, pb, _, 1, _, rfl, rfl, hb9, rfl, rfl, _, rfl, ?_⟩
      cases hi' with
      | none => exact h
      | some u => exact ⟨_, rfl, _, rfl, pb, _, 1, _, rfl, rfl, hb9, rfl, _, _, rfl, rfl, h⟩
    refine ⟨_, rfl, pb, _, 0, _, rfl, rfl, hb9, rfl, rfl, _, rfl, ?_⟩
    cases lo with
    | none => exact ⟨_, rfl, snd Q' hq⟩
    | some u =>
      refine ⟨_, rfl, _, rfl, pb, _, 0, _, rfl, rfl, hb9, rfl, _, _, rfl, rfl, _, rfl, ?_⟩
      refine iteB (fun e => ?_) (fun e => ?_)
      · exact snd Q' (by
          have : loOk (some u) z = true := e
          rw [this, Bool.true_and] at hq; exact hq)
      · have : loOk (some u) z = false := e
        rw [this, Bool.false_and] at hq; exact hq
  have hv14 := hv13.up (Ext.of s14)
  have hb14 := (Ext.of (c := c) s14).sqT nb hb9
  have b14 := b13.same s14
  clear hv13 hb9 b13 s14
  -- told
  refine ⟨_, rfl, c, v, dv, rfl, hv14, fun H15 s15 => ?_⟩
  refine ⟨_, rfl, rfl, rfl, c, _, _, rfl, .int z, fun H16 s16 => ?_⟩
  refine ⟨_, rfl, c, v, dv, none, none, rfl, (hv14.up (Ext.of s15)).up (Ext.of s16), fun H17 s17 => ?_⟩
  have s47 := (s15.trans s16).trans s17
  have hb17 := (Ext.of (c := c) s47).sqT nb hb14
  refine ⟨_, rfl, pb, _, 1, _, rfl, rfl, hb17, rfl, _, rfl, _, rfl, pb, _, 0, _, rfl, rfl, hb17, rfl, rfl, rfl, c, _, _, lo, hi', rfl, .int z, fun H18 s18 => ?_⟩
  have s48 := s47.trans s18
  have b18 := b14.same s48
  refine ⟨szl rfl, fun pt hpt => ?_⟩
  have f1 := new_lst hpt (b18.ne hpt) (show DVs K c H18 [.bl (isInt dv), .bl (isInt (.int z)), .bl (inB none none dv), .bl (inB lo hi' (.int z))] _ from dv_bools [isInt dv, isInt (.int z), inB none none dv, inB lo hi' (.int z)])
  have F1 := Fine.list (fine_bools [isInt dv, isInt (.int z), inB none none dv, inB lo hi' (.int z)])
  have b19 := b18.new hpt (o := .lst [.bl (isInt dv), .bl (isInt (.int z)), .bl (inB none none dv), .bl (inB lo hi' (.int z))])
  have hv19 := (hv14.up (Ext.of s48)).up f1.2
  have x14 := (Ext.of (c := c) s48).trans f1.2
  clear s15 s16 s17 s18 s47 s48 b18
  change _ ∧ _ at f1
  refine ⟨_, rfl, c, pt, _, rfl, f1.1, F1.sh, Nat.le_trans F1.dp (by decide), F1.fits (by show 4 ≤ 15000; decide), ?_⟩
  generalize upd H18 pt _ = H19 at f1 b19 hv19 x14 hpt ⊢
  refine ⟨_, rfl, c, v, dv, rfl, hv19, fun H20 s20 => ?_⟩
  refine ⟨_, rfl, c, v, dv, rfl, hv19.up (Ext.of s20), fun H21 s21 => ?_⟩
  have s91 := s20.trans s21
  have b21 := b19.same s91
  refine ⟨_, rfl, szl rfl, fun pd hpd => ?_⟩
  have f2 := new_lst hpd (b21.ne hpd) (show DVs K c H21 [.bl (isInt dv), .bl true, .bl (isInt dv), .bl (inB lo hi' (.int z))] _ from dv_bools [isInt dv, true, isInt dv, inB lo hi' (.int z)])
  have F2 := Fine.list (fine_bools [isInt dv, true, isInt dv, inB lo hi' (.int z)])
  refine ⟨c, pd, _, rfl, f2.1, F2.sh, Nat.le_trans F2.dp (by decide), F2.fits (by show 4 ≤ 15000; decide), rfl, _, rfl, ?_⟩
  rw [inB_none, show isInt (.int z) = true from rfl, decide_eq_true rfl]
  refine iteF ?_
  have b22 := b21.new hpd (o := .lst [.bl (isInt dv), .bl true, .bl (isInt dv), .bl (inB lo hi' (.int z))])
  have hv22 := (hv19.up (Ext.of s91)).up f2.2
  generalize upd H21 pd _ = H22 at b22 hv22 ⊢
  clear f1 f2 F1 F2 hpd hpt s91 s20 s21 b21 b19 hv19 x14 hv14 hb14 hb17 b14
  -- one, other
  refine ⟨_, rfl, c, l, _, rfl, b22, by omega, fun v1 d1 H23 hv1 g1 b23 x23 => ?_⟩
  refine ⟨_, rfl, c, l, _, rfl, b23, by omega, fun v2 d2 H24 hv2 g2 b24 x24 => ?_⟩
  have hv1 := hv1.up x24
  have hv24 := (hv22.up x23).up x24
  clear hv22 b22 b23 x23 x24
  refine ⟨_, _, rfl, ?_⟩
  -- kept, move
  have FK := Fine.list (fine2 g1 g2)
  refine ⟨_, rfl, _, rfl, szl rfl, fun p6 hp6 => ?_⟩
  have f6 := new_lst hp6 (b24.ne hp6) (.cons hv1 (.cons hv2 .nil))
  have b25 := b24.new hp6 (o := .lst [v1, v2])
  refine ⟨c, p6, _, rfl, f6.1, FK.sh, Nat.le_trans FK.dp (by decide), FK.fits (by decide), ?_⟩
  have m1 := hv1.up f6.2
  have m2 := hv2.up f6.2
  have m := hv24.up f6.2
  generalize upd H24 p6 _ = H25 at b25 m1 m2 m ⊢
  clear f6 hp6 b24 hv24 hv1 hv2
  refine ⟨_, rfl, _, rfl, _, rfl, szl rfl, fun q1 hq1 => ?_⟩
  have g1' := new_lst hq1 (b25.ne hq1) (.cons m1 (.cons m2 .nil))
  have b26 := b25.new hq1 (o := .lst [v1, v2])
  have m1 := m1.up g1'.2; have m2 := m2.up g1'.2; have m := m.up g1'.2
  generalize upd H25 q1 _ = H26 at g1' b26 m1 m2 m ⊢
  refine ⟨_, rfl, _, rfl, szl rfl, fun q2 hq2 => ?_⟩
  have g2' := new_tup hq2 (b26.ne hq2) (.cons m1 (.cons m2 .nil))
  have b27 := b26.new hq2 (o := .tup [v1, v2])
  have m1 := m1.up g2'.2; have m2 := m2.up g2'.2; have m := m.up g2'.2
  generalize upd H26 q2 _ = H27 at g2' b27 m1 m2 m ⊢
  refine ⟨_, rfl, szl rfl, fun q3 hq3 => ?_⟩
  have g3' := new_lst hq3 (b27.ne hq3) (.cons m1 .nil)
  have b28 := b27.new hq3 (o := .lst [v1])
  have m1 := m1.up g3'.2; have m2 := m2.up g3'.2; have m := m.up g3'.2
  generalize upd H27 q3 _ = H28 at g3' b28 m1 m2 m ⊢
  refine ⟨_, rfl, _, rfl, _, rfl, szl rfl, fun q4 hq4 => ?_⟩
  have g4' := new_lst hq4 (b28.ne hq4) (.cons m1 (.cons m2 (.cons m2 .nil)))
  have b29 := b28.new hq4 (o := .lst [v1, v2, v2])
  have m1 := m1.up g4'.2; have m2 := m2.up g4'.2; have m := m.up g4'.2
  generalize upd H28 q4 _ = H29 at g4' b29 m1 m2 m ⊢
  refine ⟨_, rfl, _, rfl, _, rfl, szl rfl, fun q5 hq5 => ?_⟩
  have g5' := new_lst hq5 (b29.ne hq5) (.cons m1 (.cons m .nil))
  have b30 := b29.new hq5 (o := .lst [v1, v])
  have m1 := m1.up g5'.2; have m2 := m2.up g5'.2; have m := m.up g5'.2
  generalize upd H29 q5 _ = H30 at g5' b30 m1 m2 m ⊢
  refine ⟨szl rfl, fun q6 hq6 => ?_⟩
  have w4 := g5'.2
  have w3 := g4'.2.trans w4
  have w2 := g3'.2.trans w3
  have w1 := g2'.2.trans w2
  have hd : DVs K c H30 [.ref q1, .ref q2, .ref q3, .ref q4, v1, .non, .ref q5] _ :=
    .cons (g1'.1.up w1) (.cons (g2'.1.up w2) (.cons (g3'.1.up w3) (.cons (g4'.1.up w4) (.cons m1 (.cons .non (.cons g5'.1 .nil))))))
  refine ⟨c, l, q6, _, _, rfl, b30.new hq6, by omega, b30.ne hq6, .of upd_same, by simp, szl2 rfl, fun j vm H31 hj b31 x31 => ?_⟩
  obtain ⟨dm, _, hdm⟩ := hd.at hj
  have x67 := (Ext.new hq6 (o := .lst [.ref q1, .ref q2, .ref q3, .ref q4, v1, .non, .ref q5])).trans x31
  have hvm := hdm.up x67
  have m1 := m1.up x67
  have m2 := m2.up x67
  have m := m.up x67
  clear hd hdm hj x67 x31 w1 w2 w3 w4 g1' g2' g3' g4' g5' hq1 hq2 hq3 hq4 hq5 hq6 b25 b26 b27 b28 b29 b30
  refine ⟨_, _, rfl, ?_⟩
  -- is_pair
  dsimp only
  refine seq_asg (.bl (isMv dm)) (fun Q' hq => ?_) (fun H32 s32 => ?_)
  · refine ⟨_, rfl, szl rfl, fun pz hpz => ?_⟩
    have s1 : Same H31 (upd H31 pz (.tup [.ty "list", .ty "tuple"])) := same_new hpz
    have hd1 := hvm.up (Ext.of s1)
    refine ⟨vm, _, [.ty "list", .ty "tuple"], .type (tyN _), [.type "list", .type "tuple"], isSeq _, rfl, upd_same, .cons (.ty _) (.cons (.ty _) .nil), ty_of hd1, kit_seq _, _, rfl, ?_⟩
    generalize upd H31 pz _ = H1 at s1 hd1 ⊢
    cases hd1 with
    | @lst a2 xs ds na hs hvs =>
      refine iteT ⟨_, rfl, _, _, rfl, .inl ⟨xs, hs, rfl⟩, rfl, _, rfl, ?_⟩
      refine ite2 (fun e => ?_) (fun e => ?_)
      · have e2 : xs.length = 2 := by
          have := V.int.inj (of_decide_eq_true e); omega
        obtain ⟨x, y, rfl⟩ := two_of e2
        refine .inl ⟨_, rfl, a2, rfl, ⟨_, hs⟩, fun D hD => ?_⟩
        have hD0 : H1 D = none := hD
        refine lc_it (walk_list (K := K) (a := a2) (xs := [x, y])) (fun i H' => ∃ acc : List Int, H' D = some (.lst (acc.map V.int)) ∧ acc.length ≤ i ∧ acc.isEmpty = (ds.take i).all isSq ∧ Same H1 H') ⟨[], upd_same, Nat.le_refl _, rfl, same_new hD0⟩ ?_ ?_ ?_
        · rintro i H' _ ⟨acc, _, _, _, h3⟩; exact (Ext.of (c := c) h3).sqL na hs
        · rintro i z H2 H2' hi ⟨acc, h1, h2, h4, h3⟩ ⟨rfl, hz⟩
          obtain ⟨dz, hdz, hz2⟩ := hvs.at hz
          have hz3 := hz2.up (Ext.of h3)
          refine ⟨rfl, _, rfl, c, z, dz, rfl, hz3, fun H3 s3 => ⟨_, rfl, ?_⟩⟩
          have step : (ds.take (i + 1)).all isSq = ((ds.take i).all isSq && isSq dz) := by
            rw [List.take_add_one, hdz, List.all_append]; simp
          have h13 : H3 D = some (.lst (acc.map V.int)) := s3 _ _ h1
          refine iteB (fun e1 => ?_) (fun e1 => ?_)
          · have e1 : isSq dz = false := by
              have e1 : (!isSq dz) = true := e1
              cases z : isSq dz with
              | true => rw [z] at e1; cases e1
              | false => rfl
            refine ⟨_, h13, ?_, acc ++ [1], ?_, ?_, ?_, ?_⟩
            · rw [List.length_map]; have : [x, y].length = 2 := rfl
              exact szs (by omega)
            · rw [upd_same, List.map_append]; rfl
            · rw [List.length_append]; show acc.length + 1 ≤ i + 1; omega
            · rw [step, e1, Bool.and_false]; simp
            · exact same_own (h3.trans s3) hD0
          · have e1 : isSq dz = true := by
              have e1 : (!isSq dz) = false := e1
              cases z : isSq dz with
              | false => rw [z] at e1; cases e1
              | true => rfl
            exact ⟨acc, h13, by omega, by rw [step, e1, Bool.and_true]; exact h4, h3.trans s3⟩
        · rintro H2 ⟨acc, h1, _, h4, h3⟩
          refine ⟨szl rfl, fun e he => ?_⟩
          have nD : D ≠ e := ne_of_none h1 he
          refine ⟨.list (acc.map .int), .list [], .lst (.of (by rw [upd_ne nD]; exact h1)) (dp_ints acc), .lst (.of upd_same) .nil, shaped_ints acc, by decide, ?_⟩
          rw [eqv_nil]
          have := hq _ ((s1.trans h3).trans (same_new he (o := .lst [])))
          have e5 : isMv (.list ds) = (acc.map PyData.int).isEmpty := by
            have l2 : ds.length = 2 := hvs.len.symm
            obtain ⟨dx, dy, rfl⟩ := two_of l2
            have h4 : acc.isEmpty = (isSq dx && (isSq dy && true)) := h4
            rw [List.isEmpty_map, h4, Bool.and_true]; rfl
          rw [e5] at this
          exact this
      · have e2 : ds.length ≠ 2 := fun z => e (decide_eq_true (by rw [hvs.len, z]; rfl))
        have := hq _ s1
        rw [show isMv (.list ds) = false from (pair_no e2).1] at this
        exact this
    | @tup a2 xs ds na hs hvs =>
      refine iteT ⟨_, rfl, _, _, rfl, .inr ⟨xs, hs, rfl⟩, rfl, _, rfl, ?_⟩
      refine ite2 (fun e => ?_) (fun e => ?_)
      · have e2 : xs.length = 2 := by
          have := V.int.inj (of_decide_eq_true e); omega
        obtain ⟨x, y, rfl⟩ := two_of e2
        refine .inr ⟨_, rfl, a2, rfl, ⟨_, hs⟩, fun D hD => ?_⟩
        have hD0 : H1 D = none := hD
        refine lc_it (walk_tup (K := K) (a := a2) (xs := [x, y])) (fun i H' => ∃ acc : List Int, H' D = some (.lst (acc.map V.int)) ∧ acc.length ≤ i ∧ acc.isEmpty = (ds.take i).all isSq ∧ Same H1 H') ⟨[], upd_same, Nat.le_refl _, rfl, same_new hD0⟩ ?_ ?_ ?_
        · rintro i H' _ ⟨acc, _, _, _, h3⟩; exact (Ext.of (c := c) h3).sqT na hs
        · rintro i z H2 H2' hi ⟨acc, h1, h2, h4, h3⟩ ⟨rfl, hz⟩
          obtain ⟨dz, hdz, hz2⟩ := hvs.at hz
          have hz3 := hz2.up (Ext.of h3)
          refine ⟨rfl, _, rfl, c, z, dz, rfl, hz3, fun H3 s3 => ⟨_, rfl, ?_⟩⟩
          have step : (ds.take (i + 1)).all isSq = ((ds.take i).all isSq && isSq dz) := by
            rw [List.take_add_one, hdz, List.all_append]; simp
          have h13 : H3 D = some (.lst (acc.map V.int)) := s3 _ _ h1
          refine iteB (fun e1 => ?_) (fun e1 => ?_)
          · have e1 : isSq dz = false := by
              have e1 : (!isSq dz) = true := e1
              cases z : isSq dz with
              | true => rw [z] at e1; cases e1
              | false => rfl
            refine ⟨_, h13, ?_, acc ++ [1], ?_, ?_, ?_, ?_⟩
            · rw [List.length_map]; have : [x, y].length = 2 := rfl
              exact szs (by omega)
            · rw [upd_same, List.map_append]; rfl
            · rw [List.length_append]; show acc.length + 1 ≤ i + 1; omega
            · rw [step, e1, Bool.and_false]; simp
            · exact same_own (h3.trans s3) hD0
          · have e1 : isSq dz = true := by
              have e1 : (!isSq dz) = false := e1
              cases z : isSq dz with
              | false => rw [z] at e1; cases e1
              | true => rfl
            exact ⟨acc, h13, by omega, by rw [step, e1, Bool.and_true]; exact h4, h3.trans s3⟩
        · rintro H2 ⟨acc, h1, _, h4, h3⟩
          refine ⟨szl rfl, fun e he => ?_⟩
          have nD : D ≠ e := ne_of_none h1 he
          refine ⟨.list (acc.map .int), .list [], .lst (.of (by rw [upd_ne nD]; exact h1)) (dp_ints acc), .lst (.of upd_same) .nil, shaped_ints acc, by decide, ?_⟩
          rw [eqv_nil]
          have := hq _ ((s1.trans h3).trans (same_new he (o := .lst [])))
          have e5 : isMv (.tuple ds) = (acc.map PyData.int).isEmpty := by
            have l2 : ds.length = 2 := hvs.len.symm
            obtain ⟨dx, dy, rfl⟩ := two_of l2
            have h4 : acc.isEmpty = (isSq dx && (isSq dy && true)) := h4
            rw [List.isEmpty_map, h4, Bool.and_true]; rfl
          rw [e5] at this
          exact this
      · have e2 : ds.length ≠ 2 := fun z => e (decide_eq_true (by rw [hvs.len, z]; rfl))
        have := hq _ s1
        rw [show isMv (.tuple ds) = false from (pair_no e2).2] at this
        exact this
    | non => exact iteF (hq H1 s1)
    | bl => exact iteF (hq H1 s1)
    | int => exact iteF (hq H1 s1)
    | str => exact iteF (hq H1 s1)
    | dic => exact iteF (hq H1 s1)
  have hvm := hvm.up (Ext.of s32)
  have m1 := m1.up (Ext.of s32)
  have m2 := m2.up (Ext.of s32)
  have m := m.up (Ext.of s32)
  have b32 := b31.same s32
  clear b31 s32
  -- told
  refine ⟨_, rfl, c, _, _, rfl, m1, fun H33 s33 => ?_⟩
  refine ⟨_, rfl, rfl, rfl, c, _, _, rfl, m2.up (Ext.of s33), fun H34 s34 => ?_⟩
  have s24 := s33.trans s34
  refine ⟨_, rfl, c, _, _, rfl, m.up (Ext.of s24), fun H35 s35 => ?_⟩
  have s25 := s24.trans s35
  refine ⟨_, rfl, c, _, _, rfl, hvm.up (Ext.of s25), fun H36 s36 => ?_⟩
  have s26 := s25.trans s36
  refine ⟨_, rfl, rfl, rfl, c, _, _, rfl, hvm.up (Ext.of s26), fun H37 s37 => ?_⟩
  have s27 := s26.trans s37
  have b37 := b32.same s27
  refine ⟨szl rfl, fun pt hpt => ?_⟩
  have f1 := new_lst hpt (b37.ne hpt) (show DVs K c H37 [.bl (isSq d1), .bl (isSq d2), .bl (isSq dv), .bl (isMv dm), .bl (isMv dm)] _ from dv_bools [isSq d1, isSq d2, isSq dv, isMv dm, isMv dm])
  have F1 := Fine.list (fine_bools [isSq d1, isSq d2, isSq dv, isMv dm, isMv dm])
  have b38 := b37.new hpt (o := .lst [.bl (isSq d1), .bl (isSq d2), .bl (isSq dv), .bl (isMv dm), .bl (isMv dm)])
  have m1 := (m1.up (Ext.of s27)).up f1.2
  have m2 := (m2.up (Ext.of s27)).up f1.2
  have m := (m.up (Ext.of s27)).up f1.2
  clear hvm s33 s34 s35 s36 s37 s24 s25 s26 s27 b32 b37
  have ht := f1.1
  generalize upd H37 pt _ = H38 at ht b38 m1 m2 m ⊢
  clear f1 hpt
  -- dues
  refine ⟨_, rfl, c, _, _, rfl, m1, fun H39 s39 => ?_⟩
  refine ⟨_, rfl, c, _, _, rfl, m2.up (Ext.of s39), fun H40 s40 => ?_⟩
  have s20 := s39.trans s40
  refine ⟨_, rfl, c, _, _, rfl, m.up (Ext.of s20), fun H41 s41 => ?_⟩
  have s21 := s20.trans s41
  have b41 := b38.same s21
  refine ⟨_, rfl, _, rfl, szl rfl, fun pd hpd => ?_⟩
  have f2 := new_lst hpd (b41.ne hpd) (show DVs K c H41 [.bl (isSq d1), .bl (isSq d2), .bl (isSq dv), .bl (isMv dm), .bl (isMv dm)] _ from dv_bools [isSq d1, isSq d2, isSq dv, isMv dm, isMv dm])
  have b42 := b41.new hpd (o := .lst [.bl (isSq d1), .bl (isSq d2), .bl (isSq dv), .bl (isMv dm), .bl (isMv dm)])
  have ht := (ht.up (Ext.of s21)).up f2.2
  have m1 := (m1.up (Ext.of s21)).up f2.2
  have m2 := (m2.up (Ext.of s21)).up f2.2
  have hds := f2.1
  generalize upd H41 pd _ = H42 at ht hds b42 m1 m2 ⊢
  clear f2 hpd s39 s40 s41 s20 s21 b38 b41
  -- repr(told) != repr(dues)
  refine ⟨_, rfl, c, pt, _, rfl, ht, F1.sh, Nat.le_trans F1.dp (by decide), F1.fits (by show 5 ≤ 15000; decide), _, rfl, c, pd, _, rfl, hds, F1.sh, Nat.le_trans F1.dp (by decide), F1.fits (by show 5 ≤ 15000; decide), rfl, _, rfl, ?_⟩
  rw [decide_eq_true rfl]
  refine iteF ?_
  -- repr([one, other]) != kept
  refine ⟨_, rfl, _, rfl, szl rfl, fun p7 hp7 => ?_⟩
  have f7 := new_lst hp7 (b42.ne hp7) (.cons m1 (.cons m2 .nil))
  refine ⟨c, p7, _, rfl, f7.1, FK.sh, Nat.le_trans FK.dp (by decide), FK.fits (by decide), _, rfl, rfl, _, rfl, ?_⟩
  rw [decide_eq_true rfl]
  refine iteF ?_
  -- names
  have b43 := b42.new hp7 (o := .lst [v1, v2])
  refine ⟨_, rfl, c, l, _, rfl, b43, by omega, fun H44 b44 x44 => ⟨_, rfl, iteF ?_⟩⟩
  exact ⟨⟨_, _, _, _, _, _, _, _, _, _, _, _, _, _, _, rfl⟩, b44.mono (by omega)⟩
end
end K1

set_option Elab.async false
set_option linter.all false
set_option maxRecDepth 100000
set_option maxHeartbeats 4000000
namespace K1
open PySem PySem.Spec PyProof.Rows L2 Gs
theorem all_mk {l : PySem.W.OpenLaw} {w : World} {K : PySem.W.Frag} {h : Heap} {mg : Str → Option Value} {fa : Addr} (X : K.In h) (G : h.Ns mainGlobals mg) (hfa : mg "law" = some (.ref fa))
    {f0 : Addr} {od0 an0 : Option Addr} {sl0 : Array (Option Value)} {oc0 kV0 dc0 pm0 cd0 ct0 : Value} {f1 : Addr} {od1 an1 : Option Addr} {sl1 : Array (Option Value)} {oc1 kV1 dc1 pm1 cd1 ct1 : Value} {f2 : Addr} {od2 an2 : Option Addr} {sl2 : Array (Option Value)} {oc2 kV2 dc2 pm2 cd2 ct2 : Value} {f3 : Addr} {od3 an3 : Option Addr} {sl3 : Array (Option Value)} {oc3 kV3 dc3 pm3 cd3 ct3 : Value} {f4 : Addr} {od4 an4 : Option Addr} {sl4 : Array (Option Value)} {oc4 kV4 dc4 pm4 cd4 ct4 : Value} {f5 : Addr} {od5 an5 : Option Addr} {sl5 : Array (Option Value)} {oc5 kV5 dc5 pm5 cd5 ct5 : Value} {f6 : Addr} {od6 an6 : Option Addr} {sl6 : Array (Option Value)} {oc6 kV6 dc6 pm6 cd6 ct6 : Value} {f7 : Addr} {od7 an7 : Option Addr} {sl7 : Array (Option Value)} {oc7 kV7 dc7 pm7 cd7 ct7 : Value} {f8 : Addr} {od8 an8 : Option Addr} {sl8 : Array (Option Value)} {oc8 kV8 dc8 pm8 cd8 ct8 : Value} {f9 : Addr} {od9 an9 : Option Addr} {sl9 : Array (Option Value)} {oc9 kV9 dc9 pm9 cd9 ct9 : Value} {f10 : Addr} {od10 an10 : Option Addr} {sl10 : Array (Option Value)} {oc10 kV10 dc10 pm10 cd10 ct10 : Value} {f11 : Addr} {od11 an11 : Option Addr} {sl11 : Array (Option Value)} {oc11 kV11 dc11 pm11 cd11 ct11 : Value} {f12 : Addr} {od12 an12 : Option Addr} {sl12 : Array (Option Value)} {oc12 kV12 dc12 pm12 cd12 ct12 : Value} {f13 : Addr} {od13 an13 : Option Addr} {sl13 : Array (Option Value)} {oc13 kV13 dc13 pm13 cd13 ct13 : Value} {f14 : Addr} {od14 an14 : Option Addr} {sl14 : Array (Option Value)} {oc14 kV14 dc14 pm14 cd14 ct14 : Value} {f15 : Addr} {od15 an15 : Option Addr} {sl15 : Array (Option Value)} {oc15 kV15 dc15 pm15 cd15 ct15 : Value} {tL : Tok} {tN : Tok} {fB : Addr} {odB : Option Addr} {itB : Array Value} {nB : Nat} {slB : Array (Option Value)} 
    (a0 : PySem.W.nsIn K mainGlobals "is_integer" = some (some (.ref f0)))
    (l0 : K.lookup f0 = some ⟨oc0, od0, .func (PySem.W.fnOf "is_integer" "is_integer" (defArgs s_is_integer) (defBody s_is_integer) (defScope s_is_integer) .none kV0 dc0 pm0 an0 cd0 ct0), sl0⟩)
    (c0 : PySem.W.codeIn K cd0 "is_integer" = true)
    (k0 : PySem.W.keepIn K (.ref f0) = true)
    (a1 : PySem.W.nsIn K mainGlobals "is_within" = some (some (.ref f1)))
    (l1 : K.lookup f1 = some ⟨oc1, od1, .func (PySem.W.fnOf "is_within" "is_within" (defArgs s_is_within) (defBody s_is_within) (defScope s_is_within) .none kV1 dc1 pm1 an1 cd1 ct1), sl1⟩)
    (c1 : PySem.W.codeIn K cd1 "is_within" = true)
    (k1 : PySem.W.keepIn K (.ref f1) = true)
    (a2 : PySem.W.nsIn K mainGlobals "is_list" = some (some (.ref f2)))
    (l2 : K.lookup f2 = some ⟨oc2, od2, .func (PySem.W.fnOf "is_list" "is_list" (defArgs s_is_list) (defBody s_is_list) (defScope s_is_list) .none kV2 dc2 pm2 an2 cd2 ct2), sl2⟩)
    (c2 : PySem.W.codeIn K cd2 "is_list" = true)
    (k2 : PySem.W.keepIn K (.ref f2) = true)
    (a3 : PySem.W.nsIn K mainGlobals "is_square" = some (some (.ref f3)))
    (l3 : K.lookup f3 = some ⟨oc3, od3, .func (PySem.W.fnOf "is_square" "is_square" (defArgs s_is_square) (defBody s_is_square) (defScope s_is_square) .none kV3 dc3 pm3 an3 cd3 ct3), sl3⟩)
    (c3 : PySem.W.codeIn K cd3 "is_square" = true)
    (k3 : PySem.W.keepIn K (.ref f3) = true)
    (a4 : PySem.W.nsIn K mainGlobals "is_move" = some (some (.ref f4)))
    (l4 : K.lookup f4 = some ⟨oc4, od4, .func (PySem.W.fnOf "is_move" "is_move" (defArgs s_is_move) (defBody s_is_move) (defScope s_is_move) .none kV4 dc4 pm4 an4 cd4 ct4), sl4⟩)
    (c4 : PySem.W.codeIn K cd4 "is_move" = true)
    (k4 : PySem.W.keepIn K (.ref f4) = true)
    (a5 : PySem.W.nsIn K mainGlobals "is_name" = some (some (.ref f5)))
    (l5 : K.lookup f5 = some ⟨oc5, od5, .func (PySem.W.fnOf "is_name" "is_name" (defArgs s_is_name) (defBody s_is_name) (defScope s_is_name) .none kV5 dc5 pm5 an5 cd5 ct5), sl5⟩)
    (c5 : PySem.W.codeIn K cd5 "is_name" = true)
    (k5 : PySem.W.keepIn K (.ref f5) = true)
    (a6 : PySem.W.nsIn K mainGlobals "_law_crate" = some (some (.ref f6)))
    (l6 : K.lookup f6 = some ⟨oc6, od6, .func (PySem.W.fnOf "_law_crate" "_law_crate" (defArgs s__law_crate) (defBody s__law_crate) (defScope s__law_crate) .none kV6 dc6 pm6 an6 cd6 ct6), sl6⟩)
    (c6 : PySem.W.codeIn K cd6 "_law_crate" = true)
    (k6 : PySem.W.keepIn K (.ref f6) = true)
    (a7 : PySem.W.nsIn K mainGlobals "_law_lift" = some (some (.ref f7)))
    (l7 : K.lookup f7 = some ⟨oc7, od7, .func (PySem.W.fnOf "_law_lift" "_law_lift" (defArgs s__law_lift) (defBody s__law_lift) (defScope s__law_lift) .none kV7 dc7 pm7 an7 cd7 ct7), sl7⟩)
    (c7 : PySem.W.codeIn K cd7 "_law_lift" = true)
    (k7 : PySem.W.keepIn K (.ref f7) = true)
    (a8 : PySem.W.nsIn K mainGlobals "_law_one" = some (some (.ref f8)))
    (l8 : K.lookup f8 = some ⟨oc8, od8, .func (PySem.W.fnOf "_law_one" "_law_one" (defArgs s__law_one) (defBody s__law_one) (defScope s__law_one) .none kV8 dc8 pm8 an8 cd8 ct8), sl8⟩)
    (c8 : PySem.W.codeIn K cd8 "_law_one" = true)
    (k8 : PySem.W.keepIn K (.ref f8) = true)
    (a9 : PySem.W.nsIn K mainGlobals "_law_value" = some (some (.ref f9)))
    (l9 : K.lookup f9 = some ⟨oc9, od9, .func (PySem.W.fnOf "_law_value" "_law_value" (defArgs s__law_value) (defBody s__law_value) (defScope s__law_value) .none kV9 dc9 pm9 an9 cd9 ct9), sl9⟩)
    (c9 : PySem.W.codeIn K cd9 "_law_value" = true)
    (k9 : PySem.W.keepIn K (.ref f9) = true)
    (a10 : PySem.W.nsIn K mainGlobals "_law_own_integer" = some (some (.ref f10)))
    (l10 : K.lookup f10 = some ⟨oc10, od10, .func (PySem.W.fnOf "_law_own_integer" "_law_own_integer" (defArgs s__law_own_integer) (defBody s__law_own_integer) (defScope s__law_own_integer) .none kV10 dc10 pm10 an10 cd10 ct10), sl10⟩)
    (c10 : PySem.W.codeIn K cd10 "_law_own_integer" = true)
    (k10 : PySem.W.keepIn K (.ref f10) = true)
    (a11 : PySem.W.nsIn K mainGlobals "_law_own_square" = some (some (.ref f11)))
    (l11 : K.lookup f11 = some ⟨oc11, od11, .func (PySem.W.fnOf "_law_own_square" "_law_own_square" (defArgs s__law_own_square) (defBody s__law_own_square) (defScope s__law_own_square) .none kV11 dc11 pm11 an11 cd11 ct11), sl11⟩)
    (c11 : PySem.W.codeIn K cd11 "_law_own_square" = true)
    (k11 : PySem.W.keepIn K (.ref f11) = true)
    (a12 : PySem.W.nsIn K mainGlobals "_law_pair" = some (some (.ref f12)))
    (l12 : K.lookup f12 = some ⟨oc12, od12, .func (PySem.W.fnOf "_law_pair" "_law_pair" (defArgs s__law_pair) (defBody s__law_pair) (defScope s__law_pair) .none kV12 dc12 pm12 an12 cd12 ct12), sl12⟩)
    (c12 : PySem.W.codeIn K cd12 "_law_pair" = true)
    (k12 : PySem.W.keepIn K (.ref f12) = true)
    (a13 : PySem.W.nsIn K mainGlobals "_law_name" = some (some (.ref f13)))
    (l13 : K.lookup f13 = some ⟨oc13, od13, .func (PySem.W.fnOf "_law_name" "_law_name" (defArgs s__law_name) (defBody s__law_name) (defScope s__law_name) .none kV13 dc13 pm13 an13 cd13 ct13), sl13⟩)
    (c13 : PySem.W.codeIn K cd13 "_law_name" = true)
    (k13 : PySem.W.keepIn K (.ref f13) = true)
    (a14 : PySem.W.nsIn K mainGlobals "_law_names_right" = some (some (.ref f14)))
    (l14 : K.lookup f14 = some ⟨oc14, od14, .func (PySem.W.fnOf "_law_names_right" "_law_names_right" (defArgs s__law_names_right) (defBody s__law_names_right) (defScope s__law_names_right) .none kV14 dc14 pm14 an14 cd14 ct14), sl14⟩)
    (c14 : PySem.W.codeIn K cd14 "_law_names_right" = true)
    (k14 : PySem.W.keepIn K (.ref f14) = true)
    (a15 : PySem.W.nsIn K mainGlobals "law" = some (some (.ref f15)))
    (l15 : K.lookup f15 = some ⟨oc15, od15, .func (PySem.W.fnOf "law" "law" (defArgs s_law) (defBody s_law) (defScope s_law) .none kV15 dc15 pm15 an15 cd15 ct15), sl15⟩)
    (c15 : PySem.W.codeIn K cd15 "law" = true)
    (k15 : PySem.W.keepIn K (.ref f15) = true)
    (z0 : PySem.W.nsIn K mainGlobals "isinstance" = some none)
    (z1 : PySem.W.nsIn K mainGlobals "int" = some none)
    (z2 : PySem.W.nsIn K mainGlobals "bool" = some none)
    (z3 : PySem.W.nsIn K mainGlobals "list" = some none)
    (z4 : PySem.W.nsIn K mainGlobals "tuple" = some none)
    (z5 : PySem.W.nsIn K mainGlobals "len" = some none)
    (z6 : PySem.W.nsIn K mainGlobals "str" = some none)
    (z7 : PySem.W.nsIn K mainGlobals "all" = some none)
    (z8 : PySem.W.nsIn K mainGlobals "abs" = some none)
    (z9 : PySem.W.nsIn K mainGlobals "range" = some none)
    (z10 : PySem.W.nsIn K mainGlobals "repr" = some none)
    (gL : PySem.W.nsIn K mainGlobals "LETTERS" = some (some (.str "abcdefghijklmnopqrstuvwxyz" tL)))
    (gN : PySem.W.nsIn K mainGlobals "LONGEST_NAME" = some (some (.int 8 tN)))
    (gB : PySem.W.nsIn K mainGlobals "BARRED_NAMES" = some (some (.ref fB)))
    (lB : K.lookup fB = some ⟨.type "tuple", odB, .seq itB nB, slB⟩)
    (zB : itB.size ≤ sizeLine)
    (vB : Vals [.str "lord", .str "leaps", .str "rides", .str "stone"] itB.toList) :
    ∃ fd : FuncData, (∀ (s : Shared) (v : Value), BindsTo s fd ⟨[v], []⟩ [("script", v)]) ∧ ∀ base : Heap, K.In base → base.Ns mainGlobals mg → FnG l.prog w K mg base CX0 5 fa fd ["script"] (spLaw K) := by
  let T : Tx K mg := {
      a_is_integer := f0,
      d_is_integer := _,
      F_is_integer := fun_mk (st := s_is_integer) l0 c0 k0,
      m_is_integer := PySem.W.mg_of X G a0,
      b_is_integer := (fun_mk (st := s_is_integer) l0 c0 k0).binds (ps := ["value"]) fun _ _ _ _ _ _ us hl => match us, hl with | [_], _ => rfl,
      a_is_within := f1,
      d_is_within := _,
      F_is_within := fun_mk (st := s_is_within) l1 c1 k1,
      m_is_within := PySem.W.mg_of X G a1,
      b_is_within := (fun_mk (st := s_is_within) l1 c1 k1).binds (ps := ["value", "least", "most"]) fun _ _ _ _ _ _ us hl => match us, hl with | [_, _, _], _ => rfl,
      a_is_list := f2,
      d_is_list := _,
      F_is_list := fun_mk (st := s_is_list) l2 c2 k2,
      m_is_list := PySem.W.mg_of X G a2,
      b_is_list := (fun_mk (st := s_is_list) l2 c2 k2).binds (ps := ["value"]) fun _ _ _ _ _ _ us hl => match us, hl with | [_], _ => rfl,
      a_is_square := f3,
      d_is_square := _,
      F_is_square := fun_mk (st := s_is_square) l3 c3 k3,
      m_is_square := PySem.W.mg_of X G a3,
      b_is_square := (fun_mk (st := s_is_square) l3 c3 k3).binds (ps := ["value"]) fun _ _ _ _ _ _ us hl => match us, hl with | [_], _ => rfl,
      a_is_move := f4,
      d_is_move := _,
      F_is_move := fun_mk (st := s_is_move) l4 c4 k4,
      m_is_move := PySem.W.mg_of X G a4,
      b_is_move := (fun_mk (st := s_is_move) l4 c4 k4).binds (ps := ["value"]) fun _ _ _ _ _ _ us hl => match us, hl with | [_], _ => rfl,
      a_is_name := f5,
      d_is_name := _,
      F_is_name := fun_mk (st := s_is_name) l5 c5 k5,
      m_is_name := PySem.W.mg_of X G a5,
      b_is_name := (fun_mk (st := s_is_name) l5 c5 k5).binds (ps := ["value"]) fun _ _ _ _ _ _ us hl => match us, hl with | [_], _ => rfl,
      a__law_crate := f6,
      d__law_crate := _,
      F__law_crate := fun_mk (st := s__law_crate) l6 c6 k6,
      m__law_crate := PySem.W.mg_of X G a6,
      b__law_crate := (fun_mk (st := s__law_crate) l6 c6 k6).binds (ps := ["script"]) fun _ _ _ _ _ _ us hl => match us, hl with | [_], _ => rfl,
      a__law_lift := f7,
      d__law_lift := _,
      F__law_lift := fun_mk (st := s__law_lift) l7 c7 k7,
      m__law_lift := PySem.W.mg_of X G a7,
      b__law_lift := (fun_mk (st := s__law_lift) l7 c7 k7).binds (ps := ["crate", "many"]) fun _ _ _ _ _ _ us hl => match us, hl with | [_, _], _ => rfl,
      a__law_one := f8,
      d__law_one := _,
      F__law_one := fun_mk (st := s__law_one) l8 c8 k8,
      m__law_one := PySem.W.mg_of X G a8,
      b__law_one := (fun_mk (st := s__law_one) l8 c8 k8).binds (ps := ["crate", "some"]) fun _ _ _ _ _ _ us hl => match us, hl with | [_, _], _ => rfl,
      a__law_value := f9,
      d__law_value := _,
      F__law_value := fun_mk (st := s__law_value) l9 c9 k9,
      m__law_value := PySem.W.mg_of X G a9,
      b__law_value := (fun_mk (st := s__law_value) l9 c9 k9).binds (ps := ["crate"]) fun _ _ _ _ _ _ us hl => match us, hl with | [_], _ => rfl,
      a__law_own_integer := f10,
      d__law_own_integer := _,
      F__law_own_integer := fun_mk (st := s__law_own_integer) l10 c10 k10,
      m__law_own_integer := PySem.W.mg_of X G a10,
      b__law_own_integer := (fun_mk (st := s__law_own_integer) l10 c10 k10).binds (ps := ["value"]) fun _ _ _ _ _ _ us hl => match us, hl with | [_], _ => rfl,
      a__law_own_square := f11,
      d__law_own_square := _,
      F__law_own_square := fun_mk (st := s__law_own_square) l11 c11 k11,
      m__law_own_square := PySem.W.mg_of X G a11,
      b__law_own_square := (fun_mk (st := s__law_own_square) l11 c11 k11).binds (ps := ["value"]) fun _ _ _ _ _ _ us hl => match us, hl with | [_], _ => rfl,
      a__law_pair := f12,
      d__law_pair := _,
      F__law_pair := fun_mk (st := s__law_pair) l12 c12 k12,
      m__law_pair := PySem.W.mg_of X G a12,
      b__law_pair := (fun_mk (st := s__law_pair) l12 c12 k12).binds (ps := ["crate"]) fun _ _ _ _ _ _ us hl => match us, hl with | [_], _ => rfl,
      a__law_name := f13,
      d__law_name := _,
      F__law_name := fun_mk (st := s__law_name) l13 c13 k13,
      m__law_name := PySem.W.mg_of X G a13,
      b__law_name := (fun_mk (st := s__law_name) l13 c13 k13).binds (ps := ["crate"]) fun _ _ _ _ _ _ us hl => match us, hl with | [_], _ => rfl,
      a__law_names_right := f14,
      d__law_names_right := _,
      F__law_names_right := fun_mk (st := s__law_names_right) l14 c14 k14,
      m__law_names_right := PySem.W.mg_of X G a14,
      b__law_names_right := (fun_mk (st := s__law_names_right) l14 c14 k14).binds (ps := ["crate"]) fun _ _ _ _ _ _ us hl => match us, hl with | [_], _ => rfl,
      a_law := f15,
      d_law := _,
      F_law := fun_mk (st := s_law) l15 c15 k15,
      m_law := PySem.W.mg_of X G a15,
      b_law := (fun_mk (st := s_law) l15 c15 k15).binds (ps := ["script"]) fun _ _ _ _ _ _ us hl => match us, hl with | [_], _ => rfl,
      z_isinstance := PySem.W.mg_none_of X G z0,
      z_int := PySem.W.mg_none_of X G z1,
      z_bool := PySem.W.mg_none_of X G z2,
      z_list := PySem.W.mg_none_of X G z3,
      z_tuple := PySem.W.mg_none_of X G z4,
      z_len := PySem.W.mg_none_of X G z5,
      z_str := PySem.W.mg_none_of X G z6,
      z_all := PySem.W.mg_none_of X G z7,
      z_abs := PySem.W.mg_none_of X G z8,
      z_range := PySem.W.mg_none_of X G z9,
      z_repr := PySem.W.mg_none_of X G z10,
      g_LETTERS := ⟨_, PySem.W.mg_of X G gL⟩,
      g_LONGEST := ⟨_, PySem.W.mg_of X G gN⟩,
      t_B := fB,
      g_B := PySem.W.mg_of X G gB,
      s_B := fun _ => .inr ⟨_, itB, nB, lB, rfl, rfl, zB, vB⟩,
      kb_is_name := ⟨fun s us ws _ h1 h2 => match us, ws, h1, h2 with | [], [_], _, _ => .of_eq rfl, fun _ _ _ r => r⟩,
      kb_is_integer := ⟨fun s us ws _ h1 h2 => match us, ws, h1, h2 with | [], [_], _, _ => .of_eq rfl, fun _ _ _ r => r⟩,
      kb_is_square := ⟨fun s us ws _ h1 h2 => match us, ws, h1, h2 with | [], [_], _, _ => .of_eq rfl, fun _ _ _ r => r⟩,
      kb_is_move := ⟨fun s us ws _ h1 h2 => match us, ws, h1, h2 with | [], [_], _, _ => .of_eq rfl, fun _ _ _ r => r⟩,
      kb_is_within := ⟨fun s us ws _ h1 h2 => match us, ws, h1, h2 with | [], [_, _, _], _, _ => .of_eq rfl, fun {vs us zs ws} h1 h2 _ r => match zs, ws, r with | [_, _, _], _, .cons a (.cons b (.cons c .nil)) => .cons b (.cons c (.cons a .nil))⟩ }
  have e : T.a_law = fa := by
    have := T.m_law.symm.trans hfa
    exact Value.ref.inj (Option.some.inj this)
  refine ⟨T.d_law, fun s v => .of_eq rfl, fun base _ _ => ?_⟩
  rw [← e]
  exact G_law T
end K1
open PySem PySem.W PyProof.Rows
set_option maxHeartbeats 0 in
theorem PySem.Challenge.cw_gapsame_k01_plain_values_holds : PySem.Challenge.rw_gapsame_k01_plain_values.Holds := by
  w_on; o_law; k_head; (case hw => w_witness2)
  k_fill
  refine Gs.walkG (l := PySem.Challenge.rw_gapsame_k01_plain_values) (k := 5) (x := "script") (sp := K1.spLaw) rfl rfl ⟨rfl, by decide, by decide⟩ (fun w h Y => PySem.W.kIn_of Y) ?F (fun K H a ns hl hS => ⟨a, ns, rfl, hS, hl, fun _ => rfl⟩)
  case F =>
    intro w mg fa h KX G hmg
    refine' K1.all_mk KX G hmg ?a0 ?l0 ?c0 ?k0 ?a1 ?l1 ?c1 ?k1 ?a2 ?l2 ?c2 ?k2 ?a3 ?l3 ?c3 ?k3 ?a4 ?l4 ?c4 ?k4 ?a5 ?l5 ?c5 ?k5 ?a6 ?l6 ?c6 ?k6 ?a7 ?l7 ?c7 ?k7 ?a8 ?l8 ?c8 ?k8 ?a9 ?l9 ?c9 ?k9 ?a10 ?l10 ?c10 ?k10 ?a11 ?l11 ?c11 ?k11 ?a12 ?l12 ?c12 ?k12 ?a13 ?l13 ?c13 ?k13 ?a14 ?l14 ?c14 ?k14 ?a15 ?l15 ?c15 ?k15 ?z0 ?z1 ?z2 ?z3 ?z4 ?z5 ?z6 ?z7 ?z8 ?z9 ?z10 ?gL ?gN ?gB ?lB ?zB ?vB
    (case a0 => k_is)
    (case l0 => k_is)
    (case c0 => k_is)
    (case k0 => k_is)
    (case a1 => k_is)
    (case l1 => k_is)
    (case c1 => k_is)
    (case k1 => k_is)
    (case a2 => k_is)
    (case l2 => k_is)
    (case c2 => k_is)
    (case k2 => k_is)
    (case a3 => k_is)
    (case l3 => k_is)
    (case c3 => k_is)
    (case k3 => k_is)
    (case a4 => k_is)
    (case l4 => k_is)
    (case c4 => k_is)
    (case k4 => k_is)
    (case a5 => k_is)
    (case l5 => k_is)
    (case c5 => k_is)
    (case k5 => k_is)
    (case a6 => k_is)
    (case l6 => k_is)
    (case c6 => k_is)
    (case k6 => k_is)
    (case a7 => k_is)
    (case l7 => k_is)
    (case c7 => k_is)
    (case k7 => k_is)
    (case a8 => k_is)
    (case l8 => k_is)
    (case c8 => k_is)
    (case k8 => k_is)
    (case a9 => k_is)
    (case l9 => k_is)
    (case c9 => k_is)
    (case k9 => k_is)
    (case a10 => k_is)
    (case l10 => k_is)
    (case c10 => k_is)
    (case k10 => k_is)
    (case a11 => k_is)
    (case l11 => k_is)
    (case c11 => k_is)
    (case k11 => k_is)
    (case a12 => k_is)
    (case l12 => k_is)
    (case c12 => k_is)
    (case k12 => k_is)
    (case a13 => k_is)
    (case l13 => k_is)
    (case c13 => k_is)
    (case k13 => k_is)
    (case a14 => k_is)
    (case l14 => k_is)
    (case c14 => k_is)
    (case k14 => k_is)
    (case a15 => k_is)
    (case l15 => k_is)
    (case c15 => k_is)
    (case k15 => k_is)
    (case z0 => k_is)
    (case z1 => k_is)
    (case z2 => k_is)
    (case z3 => k_is)
    (case z4 => k_is)
    (case z5 => k_is)
    (case z6 => k_is)
    (case z7 => k_is)
    (case z8 => k_is)
    (case z9 => k_is)
    (case z10 => k_is)
    (case gL => k_is)
    (case gN => k_is)
    (case gB => k_is)
    (case lB => k_is)
    (case zB => decide)
    (case vB => exact .cons ⟨_, rfl⟩ (.cons ⟨_, rfl⟩ (.cons ⟨_, rfl⟩ (.cons ⟨_, rfl⟩ .nil))))

