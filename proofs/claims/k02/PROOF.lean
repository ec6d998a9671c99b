import PyProof.Rows.All
import Wide.All
import OpenK.AllK
import Wide.FinOn
import HandS.ForMost
import HandS.Defaults
import HandS.Style
import PyProof.ReprRoads
import HandS.More
import HandS.Walk
import HandS.Zip
import KE.GoesZip
import KE.GoesEnum
import KE.GoesMore
import HandS.IsInst
import HandS.NoneIn
import HandS.Conv
import HandS.Wide
import HandS.Gcd
import HandS.Property
import HandS.Codes
import HandS.WideBits
import HandS.Deep
import KE.DatumOrd
import PySem.Challenge.RW_formworld_k02_whole_values_and_tables
set_option Elab.async false
set_option linter.all false
set_option maxRecDepth 100000
set_option maxHeartbeats 8000000
namespace Gu
open PySem PySem.Spec PyProof.Rows L2
section
variable {P : Program} {w : World} {K : PySem.W.Frag} {mg : Str → Option Value} {base : Heap}
/-- a def's promise where no repr is under way around the call -/
structure GOk (P : Program) (w : World) (K : PySem.W.Frag) (mg : Str → Option Value) (base : Heap) (CX : CXT) (lv : Nat) (fa : Addr) (fd : FuncData) (ps : List Str) (sp : Sp) : Prop where
  size : ∀ vs H Q E, sp vs H Q E → vs.length = ps.length
  go : ∀ (B : Around) (out : List Env) (t : Shared) (H : Hp) (ar : Args) (us : List Value) (vs : List V) (Q : VK) (E : XK), B.guards = some [] → Room lv B → Env0 P w K mg base B out t H → BindsTo t fd ar (ps.zip us) → Vals vs us → sp vs H Q E →
    codeAny (model P w) B (.call (.ref fa) ar) (CR CX out P w H t Q E) t
theorem GOk.of {CX : CXT} {lv : Nat} {fa : Addr} {fd : FuncData} {ps : List Str} {sp : Sp} (F : FnOk P w K mg base CX lv fa fd ps sp) : GOk P w K mg base CX lv fa fd ps sp :=
  ⟨F.len, fun B out t H ar us vs Q E _ a b c d e => F.run B out t H ar us vs Q E a b c d e⟩
theorem GOk.mk_of {CX : CXT} {lv : Nat} {fa : Addr} {nm ql : Str} {par : Arguments} {bod : List Stmt} {sco : Scope} {dV kV doc pm cdv ct oc : Value} {an od : Option Addr} {osl : Array (Option Value)} {N ps : List Str} {sp : Sp}
    (lk : K.lookup fa = some ⟨oc, od, .func (PySem.W.fnOf nm ql par bod sco dV kV doc pm an cdv ct), osl⟩) (hcd : PySem.W.codeIn K cdv ql = true) (S : FnScope N ps sco) (size : ∀ vs H Q E, sp vs H Q E → vs.length = ps.length)
    (hb : ∀ (B : Around) (out : List Env) (t : Shared) (H : Hp) (vs : List V) (Q : VK) (E : XK), (B.deeper (envOfC ql sco t.heap.objs.size fa cdv)).guards = some [] → Room lv (B.deeper (envOfC ql sco t.heap.objs.size fa cdv)) → sp vs H Q E →
      ∃ tm, PSs (cxOf CX P w K mg base N ql sco fa cdv B out t H E) bod tm ∧ tm { nx := fun _ H' => Q .non H', rt := Q } (start N vs) H) :
    GOk P w K mg base CX (lv + 1) fa (PySem.W.fnOf nm ql par bod sco dV kV doc pm an cdv ct) ps sp := by
  refine ⟨size, fun B out t H ar us vs Q E hgd hro e0 hbd hvs hsp => ?_⟩
  have inB : ∀ b o, base.get? b = some o → t.heap.get? b = some o := fun b o z => (e0.bs b o z).1
  have KX : K.In t.heap := e0.mod.kin.keeps inB
  have noL : t.heap.NoLimit := e0.mod.nolimit.keeps inB
  have kinds : ∀ y ∈ ps.zip us, sco.names.lookup y.1 = some .local ∨ (sco.names.lookup y.1 = some .cell ∧ ((cellsFrom (t.heap.objs.size + 1) sco.names []).lookup y.1).isSome = true) := by
    rintro ⟨n, v⟩ hy
    exact (S.par n (List.of_mem_zip hy).1).imp id fun z => ⟨z, PySem.W.cellsFrom_some _ _ _ (.inl z)⟩
  refine codeAny_call_function hro.depth (KX _ _ lk) rfl S.co S.gen rfl (PySem.W.codeRec_of KX hcd) (hbd _ _ _ _ (wpAny_newFunctionEnv_cells S.kind kinds fun en he t1 x => ?_))
  subst he
  refine ⟨noL.keeps x.toInCall.keep, codeAny_func ?_⟩
  obtain ⟨tm, hp, hq⟩ := hb B out t H vs Q E hgd (hro.deeper _) hsp
  have J0 := inv_start (CX := CX) (E := E) S hro.hd e0 (size _ _ _ _ hsp) hvs x
  refine wpAny_mono (hp.run [] t1 (start N vs) H _ J0 hq) (fun fl t2 hs => ?_) fun _ _ z => z
  cases fl with
  | ret u =>
    obtain ⟨v, _, H2, J, rv, q⟩ := hs
    exact ⟨v, H2, J.os, J.bare, J.base, J.hok, rv, q⟩
  | next =>
    obtain ⟨_, H2, J, q⟩ := hs
    exact ⟨V.non, H2, J.os, J.bare, J.base, J.hok, rfl, q⟩
  | brk => obtain ⟨_, _, _, q⟩ := hs; exact q.elim
  | cont => obtain ⟨_, _, _, q⟩ := hs; exact q.elim
/-- its body as a term, as for Fun.ok -/
theorem GOk.fun {x qual : Str} {st : Stmt} {fa : Addr} {fd : FuncData} {N ps : List Str} {lv : Nat} {sp : Sp} (F : Fun K x qual st fa fd) (S : FnScope N ps (defScope st)) (size : ∀ vs H Q E, sp vs H Q E → vs.length = ps.length)
    (hb : ∀ (cdv : Value) (B : Around) (out : List Env) (t : Shared) (H : Hp) (vs : List V) (Q : VK) (E : XK), (B.deeper (envOfC qual (defScope st) t.heap.objs.size fa cdv)).guards = some [] → Room lv (B.deeper (envOfC qual (defScope st) t.heap.objs.size fa cdv)) → sp vs H Q E →
      ∃ tm, PSs (cxOf CX0 P w K mg base N qual (defScope st) fa cdv B out t H E).nox (defBody st) tm ∧ tm { nx := fun _ H' => Q .non H', rt := Q } (start N vs) H) : GOk P w K mg base CX0 (lv + 1) fa fd ps sp := by
  obtain ⟨_, _, _, _, _, _, cdv, _, _, rfl, lk, hcd⟩ := F.ex
  refine GOk.mk_of lk hcd S size fun B out t H vs Q E hg hro hsp => ?_
  obtain ⟨tm, hp, q⟩ := hb cdv B out t H vs Q E hg hro hsp
  exact ⟨tm, hp.nox, q⟩
end
section
variable {X : Cx} {CX : CXT} {k : Nat} {f : Addr} {fd : FuncData} {ps : List Str} {sp : Sp} {dvs : List V} {ds : List Value} {E : XK} {x : Str} {p pos : Pos} {e : Expr} {es : List Expr} {t tk : TA} {kws : List Keyword} {ks : List Str} {g : List Value → List Value → List Value} {gV : List V → List V → List V}
theorem ends {pins : List (Addr × Obj)} {σ : L2.St} {H : Hp} {s : Shared} {Q : VK} (hx : Passes CX X E) (I : Inv X pins σ H s) {r : Result} {s' : Shared} (hq : CR CX X.stack X.prog X.w H s Q E r s') :
    match r with | .ok (.ret u) => EP X pins σ Q u s' | .ok _ => False | .error e => X.xe e s' := by
  cases r with
  | error z => exact hx pins σ H s z s' I hq
  | ok fl =>
    cases fl with
    | ret u => exact I.after hq
    | next => exact hq.elim
    | brk => exact hq.elim
    | cont => exact hq.elim
theorem runG {pins : List (Addr × Obj)} {σ : L2.St} {H : Hp} {s : Shared} {Q : VK} {us : List Value} {vs : List V} (F : GOk X.prog X.w X.K X.mg X.base CX k f fd ps sp) (hG : X.A.guards = some []) (hr : Room k X.A) (hb : Binds X.K fd ps ds) (hd : Vals dvs ds) (hx : Passes CX X E)
    (J : Inv X pins σ H s) (rv : Vals vs us) (hsp : sp (vs ++ dvs) H Q E) : wpAny (model X.prog X.w) X.A (call (.ref f) us) (EP X pins σ Q) X.xe s := by
  have rw2 := rv.append hd
  have hl : (us ++ ds).length = ps.length := rw2.length.symm.trans (F.size _ _ _ _ hsp)
  refine wpAny_call (codeAny_mono (F.go X.A X.stack s H ⟨us, []⟩ _ _ Q E hG hr J.env0 (hb s us J.kIn hl) rw2 hsp) fun r s' hq => ?_)
  have z := ends hx J hq
  cases r with
  | error e => exact z
  | ok fl => cases fl <;> exact z
/-- f(e, ..) of such a def -/
theorem pe_callG (F : GOk X.prog X.w X.K X.mg X.base CX k f fd ps sp) (hG : X.A.guards = some []) (hr : Room k X.A) (hg : Gl X x) (hm : X.mg x = some (.ref f)) (hk : PySem.W.keepIn X.K (.ref f) = true) (hb : Binds X.K fd ps ds) (hd : Vals dvs ds) (hx : Passes CX X E)
    (args : PA X (e :: es) t) (hdb : (x == ("__debug__" : Str)) = false := by decide) (hse : starEach (e :: es) X.env = (false, eval e X.env) :: starEach es X.env := by rfl) (hna : (backTo pos (starEach es X.env)).any (·.1) = false := by rfl) : PE X (.Call (.Name x p) (e :: es) [] pos) (tCall sp dvs E t) :=
  ⟨fun pins s σ H Q I h => wpAny_Call_Name_kw (ld_glob I hg hm (PySem.W.callWith_K (h₀ := X.base) I.ok.mod.kin hk (thn (args.run pos pins s σ H _ I h) fun us s1 ⟨vs, H1, I1, r, q⟩ => ⟨I1.kIn, runG F hG hr hb hd hx I1 r q⟩) hse hna) hdb)⟩
/-- f(k = e, ..), keywords alone -/
def tCallO (sp : Sp) (gV : List V → List V → List V) (m : Nat) (E : XK) (tk : TA) : TE := fun σ H Q => tk σ H fun zs H2 => zs.length = m ∧ sp (gV [] zs) H2 Q E
theorem pe_callO (F : FnOk X.prog X.w X.K X.mg X.base CX k f fd ps sp) (hr : Room k X.A) (hg : Gl X x) (hm : X.mg x = some (.ref f)) (hk : PySem.W.keepIn X.K (.ref f) = true) (hb : KBn X.K fd ps 0 ks g gV) (hx : Passes CX X E) (hkw : PK X kws tk)
    (hnm : (backToKw pos (keywordEach kws X.env)).all (·.1.isSome) = true := by rfl) (hks : (backToKw pos (keywordEach kws X.env)).filterMap (·.1) = ks := by rfl)
    (hdb : (x == ("__debug__" : Str)) = false := by decide) (hst : ((backTo pos (starEach [] X.env)).any (·.1) || (backToKw pos (keywordEach kws X.env)).any (·.1.isNone)) = false := by rfl) :
    PE X (.Call (.Name x p) [] kws pos) (tCallO sp gV ks.length E tk) := by
  constructor
  intro pins s σ H Q I h
  apply wpAny_Call_Name_kw
  refine ld_glob I hg hm (PySem.W.callWith_KW0 (h₀ := X.base) I.ok.mod.kin hk hnm ?_ hst) hdb
  refine thn (hkw.run pos pins s σ H _ I h) fun wv s2 ⟨zs, H2, I2, rz, lz, q2⟩ => ⟨I2.kIn, ?_⟩
  rw [hks]
  have r2 := hb.rel .nil rz
  refine wpAny_call (codeAny_mono (F.run X.A X.stack s2 H2 ⟨[], ks.zip wv⟩ _ _ Q E hr I2.env0 (hb.to s2 [] wv I2.kIn rfl (rz.length.symm.trans lz)) r2 q2) fun r s' hq => ?_)
  have z := ends hx I2 hq
  cases r with
  | error e => exact z
  | ok fl => cases fl <;> exact z
/-- repr of data -/
theorem call_reprD (hG : X.A.guards = some []) (hu : X.A.units + 64 < cLine) : CallR X (.builtin "repr") (fun xs H Q => ∃ a d, xs = [V.ref a] ∧ Dp X.K H (.ref a) d ∧ d.showable = true ∧ d.hasDict = false ∧ d.depth < 60 ∧ d.shown.length ≤ sizeLine ∧ Q (.str d.shown) H) := by
  intro pins s σ H xs us Q I rv hw
  obtain ⟨a, d, rfl, hd, hs, hn, hdp, hsz, q⟩ := hw
  cases rv with
  | cons r1 r2 =>
    cases r2
    obtain ⟨as, hr⟩ := Dp.reads I d _ _ hd r1
    cases r1
    exact repr_of_reads' hr hs (fun z => absurd (hn.symm.trans z) (by decide)) hG (by omega) (fun _ _ z => z) (fun h' u tk kp => ⟨.str _, H, I.kept kp, ⟨_, rfl⟩, q⟩) hsz
/-- bools by is, is not -/
theorem op_isB : OpR X (compareOp .IsNot) (fun x y H Q => ∃ b c, x = .bl b ∧ y = .bl c ∧ Q (.bl (b != c)) H) := by
  intro pins s σ H x y v u Q I rx ry hw
  obtain ⟨b1, b2, rfl, rfl, q⟩ := hw
  cases rx
  cases ry
  exact PyProof.Rows.isnot_bool ⟨.bl _, H, I, rfl, q⟩
end
section
/-- the law is called, nothing being under way -/
theorem law_callG {P : Program} {w : World} {K : PySem.W.Frag} {mg mb : Str → Option Value} {CX : CXT} {k : Nat} {fa a : Addr} {fd : FuncData} {x : Str} {sp : Sp} {t : Shared} {vs : List Value} {ns : List Int}
    (KX : K.In t.heap) (hns : t.heap.Ns mainGlobals mg) (hb : t.heap.Ns builtinsNs mb) (hbb : ∀ y : Str, y ≠ "__name__" → mb y = bootBuiltins y) (hlim : t.heap.NoLimit) (hg : t.gens = #[])
    (ha : t.heap.get? a = some { cls := .type "list", data := .seq vs.toArray }) (hi : IntsAre vs ns) (hl : ns.length ≤ sizeLine) (hr : Room k callerA)
    (F : ∀ base : Heap, K.In base → base.Ns mainGlobals mg → GOk P w K mg base CX k fa fd [x] sp) (hbind : ∀ (s : Shared) (u : Value), BindsTo s fd ⟨[u], []⟩ [(x, u)])
    (hkept : ∀ H : Hp, Only H → SqL K H a (ns.map V.int) → sp [.ref a] H (fun v _ => v = .bl true) fun _ _ _ => False) (hCX : ∀ H e s', CX [] H t (fun _ _ _ => False) e s' → False) :
    codeAny (model P w) callerA (.call (.ref fa) ⟨[.ref a], []⟩) (fun r s' => r = .ok (.ret (.bool true)) ∧ OldK t.heap s'.heap ∧ s'.os = t.os ∧ AllBare s'.gens) t := by
  have rv := vals_ints hi
  have main : ∀ H : Hp, Only H → SqL K H a (ns.map V.int) → HOk P w H t.heap → (∀ b, H b ≠ none → b = a) → (H a ≠ none → K.lookup a = none) →
      codeAny (model P w) callerA (.call (.ref fa) ⟨[.ref a], []⟩) (fun r s' => r = .ok (.ret (.bool true)) ∧ OldK t.heap s'.heap ∧ s'.os = t.os ∧ AllBare s'.gens) t := by
    intro H hO hS hok hA hK
    have keep : ∀ {b : Addr} {o : Obj}, t.heap.get? b = some o → (H b ≠ none → False) → (hidT t.heap H).get? b = some o := fun {b o} z n => hidT_get z (by
      cases q : H b with
      | none => rfl
      | some u => exact (n (by rw [q]; simp)).elim)
    have nsB : ∀ {b : Addr} {m : Str → Option Value}, t.heap.Ns b m → (hidT t.heap H).Ns b m := by
      rintro b m ⟨o, es, ep, z, d, r⟩
      refine ⟨o, es, ep, keep z fun hn => ?_, d, r⟩
      have hab := hA b hn
      subst hab
      rw [ha] at z
      cases z
      have bad : Data.seq vs.toArray _ = Data.dict es ep := d
      cases bad
    have KB : K.In (hidT t.heap H) := fun b o z => keep (KX b o z) fun hn => by
      have hab := hA b hn
      subst hab
      rw [hK hn] at z
      cases z
    obtain ⟨mc, c1, c2⟩ := hlim
    have M : Mod K mg (hidT t.heap H) := ⟨KB, nsB hns, ⟨mb, nsB hb, hbb⟩, ⟨mc, nsB c1, c2⟩⟩
    have none0 : ∀ b : Addr, b ∉ ([] : List Addr) := fun b z => absurd z List.not_mem_nil
    have e0 : Env0 P w K mg (hidT t.heap H) callerA [] t H := ⟨rfl, M, fun b o z => of_hidT z, Nat.le_of_eq (hidT_size _ _), trivial, fun b z => absurd z (none0 b), hok, .of_eq hg⟩
    refine codeAny_mono ((F _ KB (nsB hns)).go callerA [] t H ⟨[.ref a], []⟩ [.ref a] [.ref a] _ _ rfl hr e0 (hbind t (.ref a)) (.cons rfl .nil) (hkept H hO hS)) fun r s' z => ?_
    cases r with
    | error e => exact (hCX H e s' z).elim
    | ok fl =>
      cases fl with
      | next => exact z.elim
      | brk => exact z.elim
      | cont => exact z.elim
      | ret u =>
        obtain ⟨v, H2, os, bare, un, hok2, rv2, qv⟩ := z
        have qv2 : v = .bl true := qv
        subst qv2
        cases rv2
        refine ⟨rfl, OldK.of_keep fun b o z => ?_, os, bare⟩
        cases q : H b with
        | none => exact un.keep b o z q (fun y => absurd y (none0 b)) List.not_mem_nil
        | some u =>
          rcases hO b with y | ⟨ob, xs, y⟩
          · rw [q] at y
            cases y
          · obtain ⟨e1, _⟩ := hok b _ y
            obtain ⟨e2, _⟩ := hok2 b _ (un.frzs b ob _ y)
            rw [z] at e1
            cases e1
            exact e2
  cases hk : K.lookup a with
  | some o =>
    have z := KX a o hk
    rw [ha] at z
    cases z
    exact main (fun _ => none) (fun _ => .inl rfl) (.inr ⟨_, vs.toArray, _, hk, rfl, rfl, rfl, by rw [List.size_toArray, hi.length]; exact hl, by simpa using rv⟩) (fun b u y => by have y2 : (none : Option HO) = some u := y; cases y2) (fun b y => absurd rfl y) fun y => absurd rfl y
  | none =>
    refine main (fun b => if b = a then some (.frz { cls := .type "list", data := .seq vs.toArray } (.lst (ns.map V.int))) else none) (fun b => ?_) (.inl (.inr ⟨{ cls := .type "list", data := .seq vs.toArray }, if_pos rfl⟩)) (fun b u y => ?_) (fun b y => ?_) fun _ => hk
    · by_cases hb : b = a
      · exact Or.inr ⟨_, _, if_pos hb⟩
      · exact .inl (if_neg hb)
    · by_cases hb : b = a
      · subst hb
        have y2 := (if_pos rfl).symm.trans y
        cases y2
        refine ⟨ha, ?_, vs, _, rv, ha⟩
        rw [List.length_map]
        exact hl
      · have y2 := (if_neg hb).symm.trans y
        cases y2
    · exact Classical.byContradiction fun hb => y (if_neg hb)
/-- the end of a law, as walk_of -/
theorem walk_ofG {law : PySem.W.OpenLaw} {n k : Nat} {qq : Program} {lo : List Str} {XP : (Str → Option Value) → Heap → Prop} {YP : World → Heap → Prop} {dr : DefRec} {KK : Params → PySem.W.Frag} {sp : World → Sp} {x : Str}
    (hn : law.most = some n) (hsz : n ≤ sizeLine) (hdf : dr.params.defaults = []) (hro : Room k callerA) (hY : ∀ (w : World) (h : Heap), YP w h → (KK w.params).In h)
    (F : ∀ (w : World) (mg : Str → Option Value) (fa : Addr) (h : Heap), (KK w.params).In h → h.Ns mainGlobals mg → mg dr.name = some (.ref fa) →
      ∃ fd : FuncData, (∀ (s : Shared) (u : Value), BindsTo s fd ⟨[u], []⟩ [(x, u)]) ∧ ∀ bs : Heap, (KK w.params).In bs → bs.Ns mainGlobals mg → GOk law.prog w (KK w.params) mg bs CX0 k fa fd [x] (sp w))
    (hkept : ∀ (w : World) (H : Hp) (a : Addr) (ns : List Int), ns.length ≤ n → Only H → SqL (KK w.params) H a (ns.map V.int) → sp w [.ref a] H (fun v _ => v = .bl true) fun _ _ _ => False) : PySem.W.WalkO qq lo XP YP law.row.toRowW dr [] (fun f vs => PySem.call f vs) := by
  apply Att.attach_call hn hdf
  intro w _ t mg mb fa _ _ _ _ a vs ns G Y _ _ _ hmg hobj hints hlen hgens
  obtain ⟨fd, hbn, hF⟩ := F w mg fa _ (hY w _ Y) G.T.g hmg
  exact law_callG (hY w _ Y) G.T.g G.T.b G.T.builtins G.T.nolimit hgens hobj hints (Nat.le_trans hlen hsz) hro hF hbn (fun H hO hS => hkept w H a ns hlen hO hS) fun _ _ _ z => z
end
end Gu

/-! A dict of the module's own top whose keys are integers: k in d, k not in d, d[k]. -/
namespace L2
open PySem PySem.Spec PyProof.Rows
/-- at d stands a dict that tells f -/
def Kdi (K : PySem.W.Frag) (d : Addr) (f : Int → Option Int) : Prop :=
  ∃ (es : Array DictEntry) (n : Nat), K.lookup d = some ⟨.type "dict", none, .dict es n, #[]⟩ ∧ (∀ e ∈ es, ∃ k t, e.key = .int k t ∧ e.hash = hashInt k) ∧ (d == sysModules) = false ∧
    ∀ k, match f k with
      | none => findBy Value.isInt es k = none
      | some v => ∃ t, findBy Value.isInt es k = some (.int v t)
theorem Kdi.map {prog : Program} {w : World} {K : PySem.W.Frag} {h : Heap} {d : Addr} {es : Array DictEntry} {n : Nat} (X : K.In h) (hl : K.lookup d = some ⟨.type "dict", none, .dict es n, #[]⟩) (hk : ∀ e ∈ es, ∃ k t, e.key = .int k t ∧ e.hash = hashInt k) :
    h.MapOf (intKind prog w) d (fun k => findBy Value.isInt es k) :=
  ⟨_, es, n, X _ _ hl, ⟨rfl, rfl, rfl⟩, rfl, fun e he => by
    obtain ⟨k, t, e1, e2⟩ := hk e he
    exact ⟨k, by rw [e1]; exact intKind_is prog w k t, e2⟩, fun _ => rfl⟩
section
variable {X : Cx} {d : Addr} {f : Int → Option Int}
theorem op_in_kdi (D : Kdi X.K d f) : OpR X (compareOp .In) (fun x y H Q => ∃ k : Int, x = .int k ∧ y = .ref d ∧ Q (.bl (f k).isSome) H) := by
  intro pins s σ H x y v u Q I rx ry h
  obtain ⟨k, rfl, rfl, q⟩ := h
  obtain ⟨t, rfl⟩ := rx
  cases ry
  obtain ⟨es, n, hl, hk, low, ht⟩ := D
  refine wpAny_in_of (intKind_is X.prog X.w k t) low (Kdi.map I.kIn hl hk) ?_
  have z := ht k
  cases e : f k with
  | none =>
    rw [e] at z q
    have z' : findBy Value.isInt es k = none := z
    rw [z']
    exact ⟨.bl false, H, I.tok _, rfl, q⟩
  | some v =>
    rw [e] at z q
    obtain ⟨t', z'⟩ := z
    rw [z']
    exact ⟨.bl true, H, I.tok _, rfl, q⟩
theorem op_notIn_kdi (D : Kdi X.K d f) : OpR X (compareOp .NotIn) (fun x y H Q => ∃ k : Int, x = .int k ∧ y = .ref d ∧ Q (.bl (!(f k).isSome)) H) := by
  intro pins s σ H x y v u Q I rx ry h
  obtain ⟨k, rfl, rfl, q⟩ := h
  obtain ⟨t, rfl⟩ := rx
  cases ry
  obtain ⟨es, n, hl, hk, low, ht⟩ := D
  refine wpAny_notIn_of (intKind_is X.prog X.w k t) low (Kdi.map I.kIn hl hk) ?_
  have z := ht k
  cases e : f k with
  | none =>
    rw [e] at z q
    have z' : findBy Value.isInt es k = none := z
    rw [z']
    exact ⟨.bl true, H, I.tok _, rfl, q⟩
  | some v =>
    rw [e] at z q
    obtain ⟨t', z'⟩ := z
    rw [z']
    exact ⟨.bl false, H, I.tok _, rfl, q⟩
theorem ix_kdi (D : Kdi X.K d f) : IxR X (fun x y H Q => ∃ k v : Int, x = .ref d ∧ y = .int k ∧ f k = some v ∧ Q (.int v) H) := by
  intro value slice pins s σ H x y v u Q I rx ry h hs
  obtain ⟨k, r, rfl, rfl, e, q⟩ := h
  obtain rfl : v = Value.ref d := rx
  obtain ⟨t, rfl⟩ := ry
  obtain ⟨es, n, hl, hk, low, ht⟩ := D
  have z := ht k
  rw [e] at z
  obtain ⟨t', z'⟩ := z
  have hm := Kdi.map (prog := X.prog) (w := X.w) I.kIn hl hk
  exact tail_any hm.typeIs slot_dict_getitem.lookup (wpAny_getItem_of (intKind_is X.prog X.w k t) hm z' ⟨.int r, H, I.tok _, ⟨_, rfl⟩, q⟩) hs
end
end L2

/-! A dict of the module's own top whose keys are integers and whose values are objects of the top: d[k]. -/
namespace L2
open PySem PySem.Spec PyProof.Rows
/-- at d stands a dict that tells f -/
def Kdr (K : PySem.W.Frag) (d : Addr) (f : Int → Option Addr) : Prop :=
  ∃ (es : Array DictEntry) (n : Nat), K.lookup d = some ⟨.type "dict", none, .dict es n, #[]⟩ ∧ (∀ e ∈ es, ∃ k t, e.key = .int k t ∧ e.hash = hashInt k) ∧ (d == sysModules) = false ∧
    ∀ k a, f k = some a → findBy Value.isInt es k = some (.ref a)
theorem ix_kdr {X : Cx} {d : Addr} {f : Int → Option Addr} (D : Kdr X.K d f) : IxR X (fun x y H Q => ∃ (k : Int) (a : Addr), x = .ref d ∧ y = .int k ∧ f k = some a ∧ Q (.ref a) H) := by
  intro value slice pins s σ H x y v u Q I rx ry h hs
  obtain ⟨k, r, rfl, rfl, e, q⟩ := h
  obtain rfl : v = Value.ref d := rx
  obtain ⟨t, rfl⟩ := ry
  obtain ⟨es, n, hl, hk, low, ht⟩ := D
  have z := ht k r e
  have hm := Kdi.map (prog := X.prog) (w := X.w) I.kIn hl hk
  exact tail_any hm.typeIs slot_dict_getitem.lookup (wpAny_getItem_of (intKind_is X.prog X.w k t) hm z ⟨.ref r, H, I.tok _, rfl, q⟩) hs
end L2

/-! zip of a tuple and a list; enumerate of a tuple: by the library's draws. -/
namespace L2
open PySem PySem.Spec PyProof.Rows
/-- the tuple at a and the list at b, the items in new pairs -/
def Itm (K : PySem.W.Frag) (a b : Addr) : It :=
  ⟨fun i H => ∃ (xs ys : List V) (x y : V), SqT K H a xs ∧ SqL K H b ys ∧ xs[i]? = some x ∧ ys[i]? = some y,
    fun i H v H' => ∃ T x y, v = .ref T ∧ H T = none ∧ H' = upd H T (.tup [x, y]) ∧ (∀ xs, SqT K H a xs → xs[i]? = some x) ∧ ∀ ys, SqL K H b ys → ys[i]? = some y,
    fun i H => ∃ xs ys : List V, SqT K H a xs ∧ SqL K H b ys ∧ i ≤ xs.length ∧ i ≤ ys.length ∧ (i = xs.length ∨ i = ys.length)⟩
theorem up1 {n k : Nat} (h : 0 < k) : n + k ≠ n := by omega
theorem up2 {n j k : Nat} (h : j ≠ k) : n + j ≠ n + k := by omega
theorem up3 {n a k : Nat} (h : a < n) : n + k ≠ a := by omega
theorem off2 {x a b : Nat} (h1 : x ≠ a) (h2 : x ≠ b) : x ∉ [a, b] := by simp [h1, h2]
theorem sep_at {n a b : Addr} (ha : a < n) (hb : b < n) : ZipSep2 (n + 4) (n + 2) (n + 3) n (n + 1) [n, a] [n + 1, b] :=
  { TIz := up2 (by decide), TOz := up2 (by decide), TITO := up2 (by decide), TIi1 := up1 (by decide), mem1 := by simp, zf1 := off2 (up1 (by decide)) (up3 ha), Tf1 := off2 (up1 (by decide)) (up3 ha),
    TIi2 := up2 (by decide), mem2 := by simp, zf2 := off2 (up2 (by decide)) (up3 hb), Tf2 := off2 (up2 (by decide)) (up3 hb), sep1_2 := off2 (Ne.symm (up1 (by decide))) (Ne.symm (Nat.ne_of_lt hb)), sep2_1 := off2 (up1 (by decide)) (up3 ha) }
theorem turn_zipM {P : Program} {w : World} {K : PySem.W.Frag} {elts : List Expr} {kk : Nat} {tpos : Pos} {n a b : Addr} (ha : a < n) (hb : b < n) :
    Turn P w K (.Tuple elts kk tpos) (Itm K a b) [n + 4, n + 2, n + 3, n, n + 1] (n + 4)
      (fun i h => IsZip h (n + 4) (n + 2) (n + 3) .none ∧ IsTupOf2 h (n + 2) (.ref n) (.ref (n + 1)) ∧ (∃ x y, IsTupOf2 h (n + 3) x y) ∧ h.IsTupleIter n a i ∧ h.IsListIter (n + 1) b i) where
  mem := by simp
  obj := fun i h st c hc => by
    obtain ⟨hz, hTI, ⟨x, y, hTO⟩, ⟨o1, e1, _, d1⟩, ⟨o2, e2, _, d2⟩⟩ := st
    simp only [List.mem_cons, List.not_mem_nil, or_false] at hc
    rcases hc with q | q | q | q | q
    · rw [q]; exact ⟨_, hz, fun v q => nomatch q⟩
    · rw [q]; exact ⟨_, hTI, fun v q => nomatch q⟩
    · rw [q]; exact ⟨_, hTO, fun v q => nomatch q⟩
    · rw [q]; exact ⟨o1, e1, fun v q => by rw [d1] at q; cases q⟩
    · rw [q]; exact ⟨o2, e2, fun v q => by rw [d2] at q; cases q⟩
  keep := fun i h h' st k => by
    obtain ⟨hz, hTI, ⟨x, y, hTO⟩, h1, h2⟩ := st
    exact ⟨k _ (by simp) _ hz, k _ (by simp) _ hTI, ⟨x, y, k _ (by simp) _ hTO⟩, h1.at fun o q => k _ (by simp) o q, h2.at fun o q => k _ (by simp) o q⟩
  item := by
    intro X hP hw hK hc i pins s σ H E I hf st hg
    subst hP hw hK
    obtain ⟨hz, hTI, ⟨x0, y0, hTO⟩, h1, h2⟩ := st
    obtain ⟨xs, ys, x, y, hqx, hqy, hx, hy⟩ := hg
    obtain ⟨its, rv, p, _⟩ := I.tuple hqx
    obtain ⟨its2, rv2, p2, _⟩ := I.list hqy
    obtain ⟨u, hu, ru⟩ := rv.get hx
    obtain ⟨u2, hu2, ru2⟩ := rv2.get hy
    have hzl : n + 4 < s.heap.objs.size := Heap.lt_size hz
    have S := sep_at ha hb
    have hd : X.A.in1.handled = none := I.ok.hd hc
    have l1 : i < its.toArray.size := by
      have := (List.getElem?_eq_some_iff.mp hu).1
      simpa using this
    have l2 : i < its2.toArray.size := by
      have := (List.getElem?_eq_some_iff.mp hu2).1
      simpa using this
    refine wpAny_pyNext_zipD2_item S (Draws.tuple hd n a (Nat.ne_of_lt ha) its.toArray) (Draws.list hd (n + 1) b (Ne.symm (up3 hb)) its2.toArray) hz hTI hTO ⟨h1, p⟩ ⟨h2, p2.isList⟩ l1 l2 fun v1 v2 h' tk hv1 hv2 z' TO' st1 st2 hT hsz hk => ?_
    have e1 : v1 = u := by have := hv1.symm.trans (show its.toArray[i]? = some u by simpa using hu); exact Option.some.inj this
    have e2 : v2 = u2 := by have := hv2.symm.trans (show its2.toArray[i]? = some u2 by simpa using hu2); exact Option.some.inj this
    subst e1 e2
    refine ⟨_, rfl, wpAny_letOwnedTupleGo_zip (s := { s with heap := h', toks := tk }) z' fun h'' z'' sb => ?_⟩
    have hT2 : h''.get? s.heap.objs.size = some { cls := .type "tuple", data := .seq #[v1, v2] } := (sb.2 _ (Nat.ne_of_gt hzl)).trans hT
    have new : ObjOk X.prog X.w (upd H s.heap.objs.size (.tup [x, y])) h'' s.heap.objs.size (.tup [x, y]) :=
      ⟨by show 2 ≤ sizeLine; decide, [v1, v2], .cons ru (.cons ru2 .nil), ⟨_, hT2, rfl, _, rfl⟩⟩
    have J : Inv X pins σ (upd H s.heap.objs.size (.tup [x, y])) { s with heap := h'', toks := tk } :=
      I.turnedNew (t' := tk) (ch := [n + 4, n + 2, n + 3, n, n + 1]) (fun c o off q => (sb.2 c (fun z => off (by simp [z]))).trans (hk c o (fun z => off (by simp [z])) (fun z => off (by simp [z])) (fun z => off (by simp [z])) (fun z => off (by simp [z])) q)) hf (Nat.le_refl _) new
    refine ⟨.ref s.heap.objs.size, _, J, rfl, ⟨_, x, y, rfl, I.hok.fresh (Nat.le_refl _), rfl, fun l hl => by rw [I.tuple_inj hl hqx]; exact hx, fun l hl => by rw [I.list_inj hl hqy]; exact hy⟩, ⟨z'', ?_, ⟨v1, v2, ?_⟩, ?_, ?_⟩, fun c hcm => ?_⟩
    · exact (sb.2 _ S.TIz).trans (hk _ _ S.TIz S.TITO S.TIi1 S.TIi2 hTI)
    · exact (sb.2 _ S.TOz).trans TO'
    · exact st1.1.at fun o q => (sb.2 _ (Ne.symm (up1 (by decide)))).trans q
    · exact st2.1.at fun o q => (sb.2 _ (up2 (by decide))).trans q
    · have hlt : c < s.heap.objs.size := by
        simp only [List.mem_cons, List.not_mem_nil, or_false] at hcm
        have up : ∀ k : Nat, k ≤ 4 → n + k < s.heap.objs.size := fun k h => Nat.lt_of_le_of_lt (Nat.add_le_add_left h n) hzl
        rcases hcm with q | q | q | q | q
        · rw [q]; exact up 4 (by decide)
        · rw [q]; exact up 2 (by decide)
        · rw [q]; exact up 3 (by decide)
        · rw [q]; exact up 0 (by decide)
        · rw [q]; exact up 1 (by decide)
      rw [upd_ne (Nat.ne_of_lt hlt)]
      exact (hf c hcm).1
  done := by
    intro X hP hw hK hc i pins s σ H E I hf st hg
    subst hP hw hK
    obtain ⟨hz, hTI, ⟨x0, y0, hTO⟩, h1, h2⟩ := st
    obtain ⟨xs, ys, hqx, hqy, le1, le2, hend⟩ := hg
    obtain ⟨its, rv, p, _⟩ := I.tuple hqx
    obtain ⟨its2, rv2, p2, _⟩ := I.list hqy
    have l1 := rv.length
    have l2 := rv2.length
    have hd : X.A.in1.handled = none := I.ok.hd hc
    exact wpAny_pyNext_zipD2_end (sep_at ha hb) (Draws.tuple hd n a (Nat.ne_of_lt ha) its.toArray) (Draws.list hd (n + 1) b (Ne.symm (up3 hb)) its2.toArray) hz hTI hTO ⟨h1, p⟩ ⟨h2, p2.isList⟩ (by simp; omega) (by simp; omega) (by simp; omega)
      fun h' tk hk => ⟨rfl, I.turnedL (t' := tk) (ch := [n + 4, n + 2, n + 3, n, n + 1]) (fun c o off q => hk c o (fun z => off (by simp [z])) (fun z => off (by simp [z])) (fun z => off (by simp [z])) (fun z => off (by simp [z])) q) hf⟩
  self := fun A i s Q E st h => wpAny_pyIter_zip st.1 h
def iZipM (K : PySem.W.Frag) (ta : TA) : TI := fun σ H R => ta σ H fun vs H1 => ∃ a b xs ys, vs = [.ref a, .ref b] ∧ SqT K H1 a xs ∧ SqL K H1 b ys ∧ R (Itm K a b) H1
theorem pi_zipM {X : Cx} {e e2 : Expr} {ta : TA} {p pos tpos : Pos} {elts : List Expr} {kk : Nat} (hg : Gl X "zip") (hm : X.mg "zip" = none) (ha : PA X [e, e2] ta)
    (hs : starEach [e, e2] X.env = (false, eval e X.env) :: starEach [e2] X.env := by rfl) (hpl : (backTo pos (starEach [e2] X.env)).any (·.1) = false := by rfl) :
    PI X (.Tuple elts kk tpos) (.Call (.Name "zip" p) [e, e2] [] pos) (iZipM X.K ta) := by
  refine ⟨fun pins s σ H R I h => ?_⟩
  refine Call_ (ld_blt I hg hm PyProof.Rows.boot_zip (PyProof.Rows.callWith_type1 (thn (ha.run pos pins s σ H _ I h) fun us s1 ⟨vs, H1, I1, r1, q1⟩ => ?_) hs hpl))
  obtain ⟨a, b, xs, ys, ex, hqx, hqy, q⟩ := q1
  subst ex
  cases r1 with
  | cons r rr =>
    cases rr with
    | cons r' rr =>
      cases rr
      cases r
      cases r'
      obtain ⟨its, rv, p1, _⟩ := I1.tuple hqx
      obtain ⟨its2, rv2, p2, _⟩ := I1.list hqy
      have la : a < s1.heap.objs.size := by
        obtain ⟨o, ho, _⟩ := p1
        exact Heap.lt_size ho
      have lb : b < s1.heap.objs.size := p2.lt
      refine zip_begins2 (begins_tuple a its.toArray) (begins_list b its2.toArray) p1 p2.isList fun h' hz hTI hTO g1 g2 hsz hk => wpAny_pyIter_zip hz ?_
      have I2 : Inv X pins σ H1 { s1 with heap := h' } := I1.kept (t' := s1.toks) hk
      refine ⟨s1.heap.objs.size + 4, [s1.heap.objs.size + 4, s1.heap.objs.size + 2, s1.heap.objs.size + 3, s1.heap.objs.size, s1.heap.objs.size + 1], _, _, H1, rfl, I2, turn_zipM la lb, ⟨hz, hTI, ⟨_, _, hTO⟩, ⟨_, g1, rfl, rfl⟩, ⟨_, g2, rfl, rfl⟩⟩, fun c hcm => ?_, q⟩
      have hle : s1.heap.objs.size ≤ c := by
        simp only [List.mem_cons, List.not_mem_nil, or_false] at hcm
        rcases hcm with q | q | q | q | q
        · rw [q]; exact Nat.le_add_right _ _
        · rw [q]; exact Nat.le_add_right _ _
        · rw [q]; exact Nat.le_add_right _ _
        · rw [q]; exact Nat.le_refl _
        · rw [q]; exact Nat.le_add_right _ _
      exact I1.fpOk hle (I1.hok.fresh hle)
theorem walk_zipM {K : PySem.W.Frag} {a b : Addr} {xs ys : List V} (hl : xs.length = ys.length) : Walk (Itm K a b) xs.length (fun H => SqT K H a xs ∧ SqL K H b ys) (YPair (fun i => xs[i]?) (fun i => ys[i]?)) :=
  ⟨fun i _ hi q => ⟨xs, ys, xs[i], ys[i]'(by omega), q.1, q.2, by simp [hi], by simp [show i < ys.length by omega]⟩, fun _ q => ⟨xs, ys, q.1, q.2, Nat.le_refl _, Nat.le_of_eq hl, .inl rfl⟩,
    fun i H v H' _ q y => by
      obtain ⟨T, x, y, h1, h2, h3, h4, h5⟩ := y
      exact ⟨T, x, y, h1, h2, h3, h4 xs q.1, h5 ys q.2⟩⟩
theorem walk_zipTT {K : PySem.W.Frag} {a b : Addr} {xs ys : List V} (hl : xs.length = ys.length) : Walk (RZ.ItzT K a b) xs.length (fun H => SqT K H a xs ∧ SqT K H b ys) (YPair (fun i => xs[i]?) (fun i => ys[i]?)) :=
  ⟨fun i _ hi q => ⟨xs, ys, xs[i], ys[i]'(by omega), q.1, q.2, by simp [hi], by simp [show i < ys.length by omega]⟩, fun _ q => ⟨xs, ys, q.1, q.2, .inl (Nat.le_refl _)⟩,
    fun i H v H' _ q y => by
      obtain ⟨T, x, y, h1, h2, h3, h4, h5⟩ := y
      exact ⟨T, x, y, h1, h2, h3, h4 xs q.1, h5 ys q.2⟩⟩
end L2

/-! enumerate of a tuple. -/
namespace PySem
theorem enum_one {v : Value} {o : Obj} {G : Heap → Prop} (B : Begins v o G) :
    Meets (Builtin.«enumerate.__new__» ⟨[.type "enumerate", v], []⟩) (fun _ R s => G s.heap ∧
      R (.ok (.ret (.ref (s.heap.push o).objs.size))) { s with heap := (s.heap.push o).push { cls := .type "enumerate", data := .fields #[.none, .bool false, .ref s.heap.objs.size, rawInt 0, .none, .none] } }) :=
  .of_wp fun prog w A R s h => by
    obtain ⟨hp, g, d, tk, os⟩ := s
    obtain ⟨h1, h⟩ := h
    have hsub := sub_enumerate
    have go : ∀ {A' : Around} {E : Value → Shared → Prop} {Q : Value → Shared → Prop}, Q (.ref hp.objs.size) ⟨hp.push o, g, d, tk, os⟩ → wpAny (model prog w) A' (pyIter v) Q E ⟨hp, g, d, tk, os⟩ :=
      fun q => B.iter prog w _ _ ⟨hp, g, d, tk, os⟩ _ h1 q
    wp_walk using go
    refine wpAny_stack_any fun st => wpAny_pure ?_
    split
    · rename_i c _ _ _ _ _
      cases (c == Value.type "enumerate")
      · wp_walk using go
        exact ⟨_, rfl, h⟩
      · wp_walk using go
        exact ⟨_, rfl, h⟩
    · wp_walk using go
      exact ⟨_, rfl, h⟩
theorem enum_call {prog : Program} {w : World} {A : Around} {E : Value → Shared → Prop} {s : Shared} {v : Value} {o : Obj} {G : Heap → Prop} {Q : Value → Shared → Prop} (B : Begins v o G) (h1 : G s.heap)
    (h : ∀ h', IsEnum h' (s.heap.objs.size + 1) s.heap.objs.size 0 .none → h'.get? s.heap.objs.size = some o → (∀ b x, s.heap.get? b = some x → h'.get? b = some x) → Q (.ref (s.heap.objs.size + 1)) { s with heap := h' }) :
    wpAny (model prog w) A (call (.type "enumerate") [v]) Q E s := by
  refine callType_new F.called_enumerate (by decide) (F.typeCall_enumerate_1 _) (F.newCall_enumerate_1 _) (fun obj => F.args_object_init_2 obj _) F.entry_enumerate_new (enum_one B) ⟨h1, ?_⟩
  have sz : (s.heap.push o).objs.size = s.heap.objs.size + 1 := Heap.size_push ..
  show _ ∧ _
  rw [sz]
  have he : IsEnum ((s.heap.push o).push { cls := .type "enumerate", data := .fields #[.none, .bool false, .ref s.heap.objs.size, rawInt 0, .none, .none] }) (s.heap.objs.size + 1) s.heap.objs.size 0 .none := by
    have z := Heap.get?_push_size (s.heap.push o) (o := { cls := .type "enumerate", data := .fields #[.none, .bool false, .ref s.heap.objs.size, rawInt 0, .none, .none] }) rfl
    rw [sz] at z
    exact z
  exact ⟨⟨_, he, rfl⟩, h _ he (Heap.get?_push_of_some _ (Heap.get?_push_size _ B.free)) fun b x z => Heap.get?_push_of_some _ (Heap.get?_push_of_some _ z)⟩
end PySem
namespace L2
open PySem PySem.Spec PyProof.Rows
/-- the tuple at a, each item in a new pair with its place -/
def IteT (K : PySem.W.Frag) (a : Addr) : It :=
  ⟨fun i H => ∃ (xs : List V) (x : V), SqT K H a xs ∧ xs[i]? = some x,
    fun i H v H' => ∃ T x, v = .ref T ∧ H T = none ∧ H' = upd H T (.tup [.int (i : Nat), x]) ∧ ∀ xs, SqT K H a xs → xs[i]? = some x,
    fun i H => ∃ xs : List V, SqT K H a xs ∧ xs.length = i⟩
theorem turn_enumT {P : Program} {w : World} {K : PySem.W.Frag} {elts : List Expr} {kk : Nat} {tpos : Pos} {n a : Addr} (ha : a < n) :
    Turn P w K (.Tuple elts kk tpos) (IteT K a) [n + 1, n] (n + 1) (fun i h => (∃ old, IsEnum h (n + 1) n ((i : Nat) : Int) old) ∧ h.IsTupleIter n a i) where
  mem := by simp
  obj := fun i h st b hb => by
    obtain ⟨⟨old, he⟩, ⟨o, ho, hc, hd⟩⟩ := st
    simp only [List.mem_cons, List.not_mem_nil, or_false] at hb
    rcases hb with z | z
    · rw [z]; exact ⟨_, he, fun v q => nomatch q⟩
    · rw [z]; exact ⟨o, ho, fun v q => by rw [hd] at q; cases q⟩
  keep := fun i h h' st k => ⟨⟨st.1.choose, k _ (by simp) _ st.1.choose_spec⟩, st.2.at fun o q => k _ (by simp) o q⟩
  item := by
    intro X hP hw hK hc i pins s σ H E I hf st hg
    subst hP hw hK
    obtain ⟨⟨old, he⟩, hit⟩ := st
    obtain ⟨xs, x, hq, hx⟩ := hg
    obtain ⟨its, rv, p, _⟩ := I.tuple hq
    obtain ⟨u, hu, ru⟩ := rv.get hx
    have hel : n + 1 < s.heap.objs.size := Heap.lt_size he
    have hd : X.A.in1.handled = none := I.ok.hd hc
    have l1 : i < its.toArray.size := by
      have := (List.getElem?_eq_some_iff.mp hu).1
      simpa using this
    have ne1 : n + 1 ≠ n := up1 (by decide)
    refine wpAny_pyNext_enum_itemC (Draws.tuple hd n a (Nat.ne_of_lt ha) its.toArray) he ⟨hit, p⟩ l1 ne1 (off2 ne1 (up3 ha)) fun v h' tk hv ho st' hT hsz hk => ?_
    have e1 : v = u := by have := hv.symm.trans (show its.toArray[i]? = some u by simpa using hu); exact Option.some.inj this
    subst e1
    refine ⟨_, rfl, wpAny_letOwnedTupleGo_enum (s := { s with heap := h', toks := tk + 1 }) ho fun h'' he' sb => ?_⟩
    have hT2 : h''.get? s.heap.objs.size = some { cls := .type "tuple", data := .seq #[.int i tk, v] } := (sb.2 _ (Nat.ne_of_gt hel)).trans hT
    have new : ObjOk X.prog X.w (upd H s.heap.objs.size (.tup [.int (i : Nat), x])) h'' s.heap.objs.size (.tup [.int (i : Nat), x]) :=
      ⟨by show 2 ≤ sizeLine; decide, [.int i tk, v], .cons ⟨_, rfl⟩ (.cons ru .nil), ⟨_, hT2, rfl, _, rfl⟩⟩
    have J : Inv X pins σ (upd H s.heap.objs.size (.tup [.int (i : Nat), x])) { s with heap := h'', toks := tk + 1 } :=
      I.turnedNew (t' := tk + 1) (ch := [n + 1, n]) (fun b ob off q => (sb.2 b (fun z => off (by simp [z]))).trans (hk b ob (fun z => off (by simp [z])) (fun z => off (by simp [z])) q)) hf (Nat.le_refl _) new
    refine ⟨.ref s.heap.objs.size, _, J, rfl, ⟨_, x, rfl, I.hok.fresh (Nat.le_refl _), rfl, fun l hl => by rw [I.tuple_inj hl hq]; exact hx⟩, ⟨⟨v, ?_⟩, st'.1.at fun o q => (sb.2 n (Ne.symm ne1)).trans q⟩, fun b hb => ?_⟩
    · have e2 : ((i + 1 : Nat) : Int) = (i : Int) + 1 := by omega
      rw [e2]
      exact he'
    · have hlt : b < s.heap.objs.size := by
        simp only [List.mem_cons, List.not_mem_nil, or_false] at hb
        rcases hb with z | z
        · rw [z]; exact hel
        · rw [z]; exact Nat.lt_of_succ_lt hel
      rw [upd_ne (Nat.ne_of_lt hlt)]
      exact (hf b hb).1
  done := by
    intro X hP hw hK hc i pins s σ H E I hf st hg
    subst hP hw hK
    obtain ⟨⟨old, he⟩, hit⟩ := st
    obtain ⟨xs, hq, hx⟩ := hg
    obtain ⟨its, rv, p, _⟩ := I.tuple hq
    have hl := rv.length
    have hd : X.A.in1.handled = none := I.ok.hd hc
    have e3 : i = its.toArray.size := by simp; omega
    subst e3
    have T : s.TypeIs (.ref (n + 1)) "enumerate" := ⟨_, he, rfl⟩
    unfold pyNext
    refine wpAny_bind (wpAny_attempt (wpAny_callSpecial?_slot (name := Str.ofString "__next__") T F.slot_enumerate_next (wpAny_call_entry F.slot_enumerate_next T F.entry_enumerate_next ?_ (F.args_enumerate_next_1 _))))
    show wpAny _ _ (field (.ref (n + 1)) 2 >>= _) _ _ _
    refine wpAny_bind (wpAny_field he rfl (x := .ref n) rfl ?_)
    refine wpAny_bind ((Draws.tuple hd n a (Nat.ne_of_lt ha) its.toArray).done s _ _ ⟨hit, p⟩ fun h' x he' hx' => ?_)
    obtain ⟨o, ho, hc'⟩ := hx'
    refine wpAny_bind (wpAny_isInstance (T := "StopIteration") (b := true) ⟨o, ho, hc'⟩ isSubtype_stop ?_)
    refine wpAny_pure ⟨rfl, I.turnedL (t' := s.toks) (ch := [n + 1, n]) (fun c ob off q => he' c ob (fun z => off (by simp [z])) q) hf⟩
  self := fun A i s Q E st h => let ⟨⟨_, he⟩, _⟩ := st; wpAny_pyIter_enum he h
def iEnumT (K : PySem.W.Frag) (ta : TA) : TI := fun σ H R => ta σ H fun vs H1 => ∃ a xs, vs = [.ref a] ∧ SqT K H1 a xs ∧ R (IteT K a) H1
theorem pi_enumT {X : Cx} {e : Expr} {ta : TA} {p pos tpos : Pos} {elts : List Expr} {kk : Nat} (hg : Gl X "enumerate") (hm : X.mg "enumerate" = none) (ha : PA X [e] ta) (hs : starEach [e] X.env = [(false, eval e X.env)] := by rfl) :
    PI X (.Tuple elts kk tpos) (.Call (.Name "enumerate" p) [e] [] pos) (iEnumT X.K ta) := by
  refine ⟨fun pins s σ H R I h => ?_⟩
  refine Call_ (ld_blt I hg hm boot_enumerate (PyProof.Rows.callWith_type1 (thn (ha.run pos pins s σ H _ I h) fun us s1 ⟨vs, H1, I1, r1, q1⟩ => ?_) hs rfl))
  obtain ⟨a, xs, ex, hq, q⟩ := q1
  subst ex
  cases r1 with
  | cons r rr =>
    cases rr
    cases r
    obtain ⟨its, rv, p', _⟩ := I1.tuple hq
    have la : a < s1.heap.objs.size := by
      obtain ⟨o, ho, _⟩ := p'
      exact Heap.lt_size ho
    refine enum_call (begins_tuple a its.toArray) p' fun h' he g1 hk => wpAny_pyIter_enum he ?_
    have I2 : Inv X pins σ H1 { s1 with heap := h' } := I1.kept (t' := s1.toks) hk
    refine ⟨s1.heap.objs.size + 1, [s1.heap.objs.size + 1, s1.heap.objs.size], _, _, H1, rfl, I2, turn_enumT la, ⟨⟨.none, he⟩, ⟨_, g1, rfl, rfl⟩⟩, fun b hb => ?_, q⟩
    have hle : s1.heap.objs.size ≤ b := by
      simp only [List.mem_cons, List.not_mem_nil, or_false] at hb
      rcases hb with z | z
      · rw [z]; exact Nat.le_add_right _ _
      · rw [z]; exact Nat.le_refl _
    exact I1.fpOk hle (I1.hok.fresh hle)
theorem walk_enumT {K : PySem.W.Frag} {a : Addr} {xs : List V} : Walk (IteT K a) xs.length (fun H => SqT K H a xs) (YPair (fun i => some (.int (i : Nat))) (fun i => xs[i]?)) :=
  ⟨fun i _ hi q => ⟨xs, xs[i], q, by simp [hi]⟩, fun _ q => ⟨xs, q, rfl⟩, fun i H v H' _ q y => by
    obtain ⟨T, x, h1, h2, h3, h4⟩ := y
    exact ⟨T, _, x, h1, h2, h3, rfl, h4 xs q⟩⟩
end L2

namespace K02
/-- the place of the pair in the row of coefficients -/
def ix (n r k : Nat) : Nat := r * n - r * (r - 1) / 2 + k - r
def ent (c : List Int) (n r k : Nat) : Int := if r = k then 2 * c.getD (ix n r r) 0 else c.getD (ix n (min r k) (max r k)) 0
def rowT (c : List Int) (n r : Nat) : List Int := (List.range n).map fun k => ent c n r k
def tabT (c : List Int) (n : Nat) : List (List Int) := (List.range n).map fun r => rowT c n r
def dotp : List Int → List Int → Int
  | x :: xs, y :: ys => x * y + dotp xs ys
  | _, _ => 0
def prodT (T : List (List Int)) (x y : List Int) : Int := dotp x (T.map fun r => dotp r y)
def places (n : Nat) : List (Nat × Nat) := (List.range n).flatMap fun r => ((List.range n).drop r).map fun k => (r, k)
def valL (c : List Int) (n : Nat) (x : List Int) : Int := ((List.range c.length).map fun k => c.getD k 0 * x.getD ((places n).getD k (0, 0)).1 0 * x.getD ((places n).getD k (0, 0)).2 0).sum
def sz (n : Nat) : Nat := n * (n + 1) / 2
structure Ok (n : Nat) (c : List Int) : Prop where
  n2 : 2 ≤ n
  n5 : n ≤ 5
  len : c.length = sz n
theorem two_le {n : Nat} (h2 : 2 ≤ n) (h5 : n ≤ 5) : n = 2 ∨ n = 3 ∨ n = 4 ∨ n = 5 := by omega
theorem dotp_eq : ∀ (xs ys : List Int), xs.length = ys.length → dotp xs ys = ((List.range ys.length).map fun k => xs.getD k 0 * ys.getD k 0).sum := by
  intro xs
  induction xs with
  | nil => intro ys h; cases ys with
    | nil => rfl
    | cons y ys => cases h
  | cons x xs ih =>
    intro ys h
    cases ys with
    | nil => cases h
    | cons y ys =>
      have h' : xs.length = ys.length := by simpa using h
      show x * y + dotp xs ys = _
      rw [ih ys h', List.length_cons, List.range_succ_eq_map, List.map_cons, List.sum_cons, List.map_map]
      rfl
def ledL (T : List (List Int)) (y : List Int) : List Int := T.map fun r => ((List.range y.length).map fun k => r.getD k 0 * y.getD k 0).sum
def dueL (T : List (List Int)) (x y : List Int) (n : Nat) : Int := ((List.range n).map fun k => x.getD k 0 * (ledL T y).getD k 0).sum
theorem led_eq {T : List (List Int)} {y : List Int} (h : ∀ r ∈ T, r.length = y.length) : (T.map fun r => dotp r y) = ledL T y :=
  List.map_congr_left fun r hr => dotp_eq r y (h r hr)
theorem due_eq {T : List (List Int)} {x y : List Int} {n : Nat} (h : ∀ r ∈ T, r.length = y.length) (hT : T.length = n) (hx : x.length = n) : dueL T x y n = prodT T x y := by
  unfold dueL prodT
  rw [led_eq h, dotp_eq x _ (by rw [hx, ledL, List.length_map, hT]), ledL, List.length_map, hT]
def contL (c : List Int) : Int := c.foldl (fun a b => (Int.gcd a b : Nat)) 0
def betw (c : List Int) (n : Nat) : List Int := ((List.range c.length).filter fun k => decide (((places n).getD k (0, 0)).1 ≠ ((places n).getD k (0, 0)).2)).map fun k => c.getD k 0
def odds (xs : List Int) : List Int := xs.filter fun x => decide (x % 2 = 1)
def evenP (c : List Int) (n : Nat) : Bool := ((List.range n).flatMap fun r => (List.range r).map fun k => decide (ent c n r k % 2 = 0)).all id
theorem mod_even (x : Int) : decide (x % 2 = 0) = !decide (x % 2 = 1) := by
  have h1 := Int.emod_nonneg x (show (2 : Int) ≠ 0 by decide)
  have h2 := Int.emod_lt_of_pos x (show (0 : Int) < 2 by decide)
  by_cases h : x % 2 = 1
  · rw [decide_eq_true h, decide_eq_false (by omega)]; rfl
  · rw [decide_eq_false h, decide_eq_true (by omega)]; rfl
theorem ix_lt : ∀ n : Nat, n < 6 → ∀ r, r < n → ∀ k, k < n → r ≤ k → ix n r k < sz n := by decide +kernel
theorem ix_at' : ∀ n : Nat, n < 6 → ∀ r, r < n → ∀ k, k < n → r ≤ k → ((places n)[ix n r k]? == some (r, k)) = true := by decide +kernel
theorem ix_at {n r k : Nat} (hn : n < 6) (hr : r < n) (hk : k < n) (h : r ≤ k) : (places n)[ix n r k]? = some (r, k) := eq_of_beq (ix_at' n hn r hr k hk h)
theorem ix_no' : ∀ n : Nat, n < 6 → ∀ r, r < n → ∀ k, k < n → r ≤ k → ∀ m, m < ix n r k → ((places n)[m]? == some (r, k)) = false := by decide +kernel
theorem ix_no {n r k m : Nat} (hn : n < 6) (hr : r < n) (hk : k < n) (h : r ≤ k) (hm : m < ix n r k) : (places n)[m]? ≠ some (r, k) := by
  have z := ix_no' n hn r hr k hk h m hm
  intro e
  rw [e] at z
  simp at z
theorem odds_nil (xs : List Int) : decide (odds xs = []) = xs.all fun x => !decide (x % 2 = 1) := by
  induction xs with
  | nil => rfl
  | cons x xs ih =>
    rw [List.all_cons, ← ih]
    unfold odds
    rw [List.filter_cons]
    by_cases h : x % 2 = 1
    · rw [decide_eq_true h]; simp
    · rw [decide_eq_false h]; simp
theorem ix_int : ∀ n : Nat, n < 6 → ∀ r, r < n → ∀ k, k < n → r ≤ k → (r : Int) * n - (r : Int) * ((r : Int) - 1) / 2 + k - r = (ix n r k : Nat) := by decide +kernel
theorem places_len : ∀ n : Nat, n < 6 → (places n).length = sz n := by decide +kernel
theorem places_lt : ∀ n : Nat, n < 6 → ∀ p ∈ places n, p.1 < n ∧ p.2 < n := by decide +kernel
theorem lenI3 {c : List Int} (h : c.length = 3) : ∃ c0 c1 c2 : Int, c = [c0, c1, c2] := by
  match c, h with
  | [c0, c1, c2], _ => exact ⟨c0, c1, c2, rfl⟩
theorem lenI2 {c : List Int} (h : c.length = 2) : ∃ x0 x1 : Int, c = [x0, x1] := by
  match c, h with
  | [x0, x1], _ => exact ⟨x0, x1, rfl⟩
theorem val_eq2 (c0 c1 c2 x0 x1 : Int) : prodT (tabT [c0, c1, c2] 2) [x0, x1] [x0, x1] = 2 * valL [c0, c1, c2] 2 [x0, x1] := by
  simp only [prodT, tabT, rowT, valL, dotp, List.range, List.range.loop, List.map]
  simp [ent, ix, places, List.range, List.range.loop, List.sum_cons, List.sum_nil]
  grind
theorem sym2 (c0 c1 c2 x0 x1 y0 y1 : Int) : prodT (tabT [c0, c1, c2] 2) [x0, x1] [y0, y1] = prodT (tabT [c0, c1, c2] 2) [y0, y1] [x0, x1] := by
  simp only [prodT, tabT, rowT, dotp, List.range, List.range.loop, List.map]
  simp [ent, ix]
  grind
theorem even2 (c0 c1 c2 : Int) : evenP [c0, c1, c2] 2 = decide (odds (betw [c0, c1, c2] 2) = []) := by
  rw [odds_nil]
  simp only [evenP, betw, List.range, List.range.loop]
  simp [ent, ix, places, List.range, List.range.loop, List.filter, mod_even, -Bool.not_eq_eq_eq_not]
  try ac_rfl
theorem lenI6 {c : List Int} (h : c.length = 6) : ∃ c0 c1 c2 c3 c4 c5 : Int, c = [c0, c1, c2, c3, c4, c5] := by
  match c, h with
  | [c0, c1, c2, c3, c4, c5], _ => exact ⟨c0, c1, c2, c3, c4, c5, rfl⟩
theorem val_eq3 (c0 c1 c2 c3 c4 c5 x0 x1 x2 : Int) : prodT (tabT [c0, c1, c2, c3, c4, c5] 3) [x0, x1, x2] [x0, x1, x2] = 2 * valL [c0, c1, c2, c3, c4, c5] 3 [x0, x1, x2] := by
  simp only [prodT, tabT, rowT, valL, dotp, List.range, List.range.loop, List.map]
  simp [ent, ix, places, List.range, List.range.loop, List.sum_cons, List.sum_nil]
  grind
theorem sym3 (c0 c1 c2 c3 c4 c5 x0 x1 x2 y0 y1 y2 : Int) : prodT (tabT [c0, c1, c2, c3, c4, c5] 3) [x0, x1, x2] [y0, y1, y2] = prodT (tabT [c0, c1, c2, c3, c4, c5] 3) [y0, y1, y2] [x0, x1, x2] := by
  simp only [prodT, tabT, rowT, dotp, List.range, List.range.loop, List.map]
  simp [ent, ix]
  grind
theorem even3 (c0 c1 c2 c3 c4 c5 : Int) : evenP [c0, c1, c2, c3, c4, c5] 3 = decide (odds (betw [c0, c1, c2, c3, c4, c5] 3) = []) := by
  rw [odds_nil]
  simp only [evenP, betw, List.range, List.range.loop]
  simp [ent, ix, places, List.range, List.range.loop, List.filter, mod_even, -Bool.not_eq_eq_eq_not]
  try ac_rfl
theorem lenI10 {c : List Int} (h : c.length = 10) : ∃ c0 c1 c2 c3 c4 c5 c6 c7 c8 c9 : Int, c = [c0, c1, c2, c3, c4, c5, c6, c7, c8, c9] := by
  match c, h with
  | [c0, c1, c2, c3, c4, c5, c6, c7, c8, c9], _ => exact ⟨c0, c1, c2, c3, c4, c5, c6, c7, c8, c9, rfl⟩
theorem lenI4 {c : List Int} (h : c.length = 4) : ∃ x0 x1 x2 x3 : Int, c = [x0, x1, x2, x3] := by
  match c, h with
  | [x0, x1, x2, x3], _ => exact ⟨x0, x1, x2, x3, rfl⟩
theorem val_eq4 (c0 c1 c2 c3 c4 c5 c6 c7 c8 c9 x0 x1 x2 x3 : Int) : prodT (tabT [c0, c1, c2, c3, c4, c5, c6, c7, c8, c9] 4) [x0, x1, x2, x3] [x0, x1, x2, x3] = 2 * valL [c0, c1, c2, c3, c4, c5, c6, c7, c8, c9] 4 [x0, x1, x2, x3] := by
  simp only [prodT, tabT, rowT, valL, dotp, List.range, List.range.loop, List.map]
  simp [ent, ix, places, List.range, List.range.loop, List.sum_cons, List.sum_nil]
  grind
theorem sym4 (c0 c1 c2 c3 c4 c5 c6 c7 c8 c9 x0 x1 x2 x3 y0 y1 y2 y3 : Int) : prodT (tabT [c0, c1, c2, c3, c4, c5, c6, c7, c8, c9] 4) [x0, x1, x2, x3] [y0, y1, y2, y3] = prodT (tabT [c0, c1, c2, c3, c4, c5, c6, c7, c8, c9] 4) [y0, y1, y2, y3] [x0, x1, x2, x3] := by
  simp only [prodT, tabT, rowT, dotp, List.range, List.range.loop, List.map]
  simp [ent, ix]
  grind
theorem even4 (c0 c1 c2 c3 c4 c5 c6 c7 c8 c9 : Int) : evenP [c0, c1, c2, c3, c4, c5, c6, c7, c8, c9] 4 = decide (odds (betw [c0, c1, c2, c3, c4, c5, c6, c7, c8, c9] 4) = []) := by
  rw [odds_nil]
  simp only [evenP, betw, List.range, List.range.loop]
  simp [ent, ix, places, List.range, List.range.loop, List.filter, mod_even, -Bool.not_eq_eq_eq_not]
  try ac_rfl
theorem lenI15 {c : List Int} (h : c.length = 15) : ∃ c0 c1 c2 c3 c4 c5 c6 c7 c8 c9 c10 c11 c12 c13 c14 : Int, c = [c0, c1, c2, c3, c4, c5, c6, c7, c8, c9, c10, c11, c12, c13, c14] := by
  match c, h with
  | [c0, c1, c2, c3, c4, c5, c6, c7, c8, c9, c10, c11, c12, c13, c14], _ => exact ⟨c0, c1, c2, c3, c4, c5, c6, c7, c8, c9, c10, c11, c12, c13, c14, rfl⟩
theorem lenI5 {c : List Int} (h : c.length = 5) : ∃ x0 x1 x2 x3 x4 : Int, c = [x0, x1, x2, x3, x4] := by
  match c, h with
  | [x0, x1, x2, x3, x4], _ => exact ⟨x0, x1, x2, x3, x4, rfl⟩
theorem val_eq5 (c0 c1 c2 c3 c4 c5 c6 c7 c8 c9 c10 c11 c12 c13 c14 x0 x1 x2 x3 x4 : Int) : prodT (tabT [c0, c1, c2, c3, c4, c5, c6, c7, c8, c9, c10, c11, c12, c13, c14] 5) [x0, x1, x2, x3, x4] [x0, x1, x2, x3, x4] = 2 * valL [c0, c1, c2, c3, c4, c5, c6, c7, c8, c9, c10, c11, c12, c13, c14] 5 [x0, x1, x2, x3, x4] := by
  simp only [prodT, tabT, rowT, valL, dotp, List.range, List.range.loop, List.map]
  simp [ent, ix, places, List.range, List.range.loop, List.sum_cons, List.sum_nil]
  grind
theorem sym5 (c0 c1 c2 c3 c4 c5 c6 c7 c8 c9 c10 c11 c12 c13 c14 x0 x1 x2 x3 x4 y0 y1 y2 y3 y4 : Int) : prodT (tabT [c0, c1, c2, c3, c4, c5, c6, c7, c8, c9, c10, c11, c12, c13, c14] 5) [x0, x1, x2, x3, x4] [y0, y1, y2, y3, y4] = prodT (tabT [c0, c1, c2, c3, c4, c5, c6, c7, c8, c9, c10, c11, c12, c13, c14] 5) [y0, y1, y2, y3, y4] [x0, x1, x2, x3, x4] := by
  simp only [prodT, tabT, rowT, dotp, List.range, List.range.loop, List.map]
  simp [ent, ix]
  grind
theorem even5 (c0 c1 c2 c3 c4 c5 c6 c7 c8 c9 c10 c11 c12 c13 c14 : Int) : evenP [c0, c1, c2, c3, c4, c5, c6, c7, c8, c9, c10, c11, c12, c13, c14] 5 = decide (odds (betw [c0, c1, c2, c3, c4, c5, c6, c7, c8, c9, c10, c11, c12, c13, c14] 5) = []) := by
  rw [odds_nil]
  simp only [evenP, betw, List.range, List.range.loop]
  simp [ent, ix, places, List.range, List.range.loop, List.filter, mod_even, -Bool.not_eq_eq_eq_not]
  try ac_rfl
theorem val_eq {n : Nat} {c x : List Int} (h : Ok n c) (hx : x.length = n) : prodT (tabT c n) x x = 2 * valL c n x := by
  obtain ⟨h2, h5, hl⟩ := h
  rcases two_le h2 h5 with rfl | rfl | rfl | rfl
  · obtain ⟨c0, c1, c2, rfl⟩ := lenI3 hl
    obtain ⟨x0, x1, rfl⟩ := lenI2 hx
    exact val_eq2 ..
  · obtain ⟨c0, c1, c2, c3, c4, c5, rfl⟩ := lenI6 hl
    obtain ⟨x0, x1, x2, rfl⟩ := lenI3 hx
    exact val_eq3 ..
  · obtain ⟨c0, c1, c2, c3, c4, c5, c6, c7, c8, c9, rfl⟩ := lenI10 hl
    obtain ⟨x0, x1, x2, x3, rfl⟩ := lenI4 hx
    exact val_eq4 ..
  · obtain ⟨c0, c1, c2, c3, c4, c5, c6, c7, c8, c9, c10, c11, c12, c13, c14, rfl⟩ := lenI15 hl
    obtain ⟨x0, x1, x2, x3, x4, rfl⟩ := lenI5 hx
    exact val_eq5 ..
theorem sym_eq {n : Nat} {c x y : List Int} (h : Ok n c) (hx : x.length = n) (hy : y.length = n) : prodT (tabT c n) x y = prodT (tabT c n) y x := by
  obtain ⟨h2, h5, hl⟩ := h
  rcases two_le h2 h5 with rfl | rfl | rfl | rfl
  · obtain ⟨c0, c1, c2, rfl⟩ := lenI3 hl
    obtain ⟨x0, x1, rfl⟩ := lenI2 hx
    obtain ⟨y0, y1, rfl⟩ := lenI2 hy
    exact sym2 ..
  · obtain ⟨c0, c1, c2, c3, c4, c5, rfl⟩ := lenI6 hl
    obtain ⟨x0, x1, x2, rfl⟩ := lenI3 hx
    obtain ⟨y0, y1, y2, rfl⟩ := lenI3 hy
    exact sym3 ..
  · obtain ⟨c0, c1, c2, c3, c4, c5, c6, c7, c8, c9, rfl⟩ := lenI10 hl
    obtain ⟨x0, x1, x2, x3, rfl⟩ := lenI4 hx
    obtain ⟨y0, y1, y2, y3, rfl⟩ := lenI4 hy
    exact sym4 ..
  · obtain ⟨c0, c1, c2, c3, c4, c5, c6, c7, c8, c9, c10, c11, c12, c13, c14, rfl⟩ := lenI15 hl
    obtain ⟨x0, x1, x2, x3, x4, rfl⟩ := lenI5 hx
    obtain ⟨y0, y1, y2, y3, y4, rfl⟩ := lenI5 hy
    exact sym5 ..
theorem even_eq {n : Nat} {c : List Int} (h : Ok n c) : evenP c n = decide (odds (betw c n) = []) := by
  obtain ⟨h2, h5, hl⟩ := h
  rcases two_le h2 h5 with rfl | rfl | rfl | rfl
  · obtain ⟨c0, c1, c2, rfl⟩ := lenI3 hl
    exact even2 ..
  · obtain ⟨c0, c1, c2, c3, c4, c5, rfl⟩ := lenI6 hl
    exact even3 ..
  · obtain ⟨c0, c1, c2, c3, c4, c5, c6, c7, c8, c9, rfl⟩ := lenI10 hl
    exact even4 ..
  · obtain ⟨c0, c1, c2, c3, c4, c5, c6, c7, c8, c9, c10, c11, c12, c13, c14, rfl⟩ := lenI15 hl
    exact even5 ..
end K02

namespace K02
open PySem PySem.Spec PyProof.Rows L2
def topS (i : Nat) : Stmt := PySem.Challenge.pw_formworld_k02_whole_values_and_tables.main.body.getD i (.Pass ⟨0, 0, 0, 0⟩)
def clsBody : Stmt → List Stmt
  | .ClassDef _ _ _ body _ _ _ _ _ _ _ => body
  | _ => []
def formS (i : Nat) : Stmt := (clsBody (topS 30)).getD i (.Pass ⟨0, 0, 0, 0⟩)
abbrev sDot : Stmt := topS 11
abbrev sTable : Stmt := topS 12
abbrev sProd : Stmt := topS 13
abbrev sInt : Stmt := topS 23
abbrev sWithin : Stmt := topS 24
abbrev sBeyond : Stmt := topS 25
abbrev sCheckC : Stmt := topS 26
abbrev sCheckV : Stmt := topS 27
abbrev sInit : Stmt := formS 0
abbrev sUnk : Stmt := formS 3
abbrev sTab : Stmt := formS 4
abbrev sCont : Stmt := formS 8
abbrev sEven : Stmt := formS 9
abbrev sValue : Stmt := formS 10
abbrev sProduct : Stmt := formS 11
abbrev sDip : Stmt := topS 33
abbrev sOneOf : Stmt := topS 34
abbrev sGcd : Stmt := topS 35
abbrev sPlaces : Stmt := topS 36
abbrev sAny : Stmt := topS 37
abbrev sSize : Stmt := topS 38
abbrev sLTable : Stmt := topS 39
abbrev sLValue : Stmt := topS 40
abbrev sLed : Stmt := topS 41
abbrev sJar : Stmt := topS 42
abbrev sVector : Stmt := topS 43
abbrev sContent : Stmt := topS 44
abbrev sRight : Stmt := topS 45
abbrev sLaw : Stmt := topS 46
theorem scDot : FnScope ["row", "other", "left", "right"] ["row", "other"] (defScope sDot) := ⟨rfl, rfl, rfl, by decide +kernel, rfl, by decide +kernel, by decide +kernel⟩
theorem scTable : FnScope ["coefficients", "index", "places", "place"] ["coefficients"] (defScope sTable) := ⟨rfl, rfl, rfl, by decide +kernel, rfl, by decide +kernel, by decide +kernel⟩
theorem scProd : FnScope ["table", "vector", "other", "row"] ["table", "vector", "other"] (defScope sProd) := ⟨rfl, rfl, rfl, by decide +kernel, rfl, by decide +kernel, by decide +kernel⟩
theorem scInt : FnScope ["value"] ["value"] (defScope sInt) := ⟨rfl, rfl, rfl, by decide +kernel, rfl, by decide +kernel, by decide +kernel⟩
theorem scWithin : FnScope ["value", "least", "most"] ["value", "least", "most"] (defScope sWithin) := ⟨rfl, rfl, rfl, by decide +kernel, rfl, by decide +kernel, by decide +kernel⟩
theorem scBeyond : FnScope ["values", "size", "index", "value"] ["values", "size"] (defScope sBeyond) := ⟨rfl, rfl, rfl, by decide +kernel, rfl, by decide +kernel, by decide +kernel⟩
theorem scCheckC : FnScope ["coefficients", "index"] ["coefficients"] (defScope sCheckC) := ⟨rfl, rfl, rfl, by decide +kernel, rfl, by decide +kernel, by decide +kernel⟩
theorem scCheckV : FnScope ["vector", "many", "index"] ["vector", "many"] (defScope sCheckV) := ⟨rfl, rfl, rfl, by decide +kernel, rfl, by decide +kernel, by decide +kernel⟩
theorem scInit : FnScope ["self", "coefficients"] ["self", "coefficients"] (defScope sInit) := ⟨rfl, rfl, rfl, by decide +kernel, rfl, by decide +kernel, by decide +kernel⟩
theorem scUnk : FnScope ["self"] ["self"] (defScope sUnk) := ⟨rfl, rfl, rfl, by decide +kernel, rfl, by decide +kernel, by decide +kernel⟩
theorem scTab : FnScope ["self"] ["self"] (defScope sTab) := ⟨rfl, rfl, rfl, by decide +kernel, rfl, by decide +kernel, by decide +kernel⟩
theorem scCont : FnScope ["self", "content", "coefficient"] ["self"] (defScope sCont) := ⟨rfl, rfl, rfl, by decide +kernel, rfl, by decide +kernel, by decide +kernel⟩
theorem scEven : FnScope ["self", "table", "row", "column"] ["self"] (defScope sEven) := ⟨rfl, rfl, rfl, by decide +kernel, rfl, by decide +kernel, by decide +kernel⟩
theorem scValue : FnScope ["self", "vector"] ["self", "vector"] (defScope sValue) := ⟨rfl, rfl, rfl, by decide +kernel, rfl, by decide +kernel, by decide +kernel⟩
theorem scProduct : FnScope ["self", "vector", "other"] ["self", "vector", "other"] (defScope sProduct) := ⟨rfl, rfl, rfl, by decide +kernel, rfl, by decide +kernel, by decide +kernel⟩
theorem scDip : FnScope ["_law_jar_here", "_law_top", "_law_digit"] ["_law_jar_here", "_law_top"] (defScope sDip) := ⟨rfl, rfl, rfl, by decide +kernel, rfl, by decide +kernel, by decide +kernel⟩
theorem scOneOf : FnScope ["_law_jar_here", "_law_some"] ["_law_jar_here", "_law_some"] (defScope sOneOf) := ⟨rfl, rfl, rfl, by decide +kernel, rfl, by decide +kernel, by decide +kernel⟩
theorem scGcd : FnScope ["_law_one", "_law_two"] ["_law_one", "_law_two"] (defScope sGcd) := ⟨rfl, rfl, rfl, by decide +kernel, rfl, by decide +kernel, by decide +kernel⟩
theorem scPlaces : FnScope ["_law_size_here", "_law_found", "_law_row", "_law_column"] ["_law_size_here"] (defScope sPlaces) := ⟨rfl, rfl, rfl, by decide +kernel, rfl, by decide +kernel, by decide +kernel⟩
theorem scAny : FnScope ["_law_jar_here", "_law_size_here", "_law_most", "_law_pair"] ["_law_jar_here", "_law_size_here", "_law_most"] (defScope sAny) := ⟨rfl, rfl, rfl, by decide +kernel, rfl, by decide +kernel, by decide +kernel⟩
theorem scSize : FnScope ["_law_own"] ["_law_own"] (defScope sSize) := ⟨rfl, rfl, rfl, by decide +kernel, rfl, by decide +kernel, by decide +kernel⟩
theorem scLTable : FnScope ["_law_own", "_law_size_here", "_law_pairs_here", "_law_found", "_law_row", "_law_line", "_law_column", "_law_here"] ["_law_own"] (defScope sLTable) := ⟨rfl, rfl, rfl, by decide +kernel, rfl, by decide +kernel, by decide +kernel⟩
theorem scLValue : FnScope ["_law_own", "_law_vector_here", "_law_pairs_here", "_law_k"] ["_law_own", "_law_vector_here"] (defScope sLValue) := ⟨rfl, rfl, rfl, by decide +kernel, rfl, by decide +kernel, by decide +kernel⟩
theorem scLed : FnScope ["_law_change", "_law_vector_here", "_law_row", "_law_k"] ["_law_change", "_law_vector_here"] (defScope sLed) := ⟨rfl, rfl, rfl, by decide +kernel, rfl, by decide +kernel, by decide +kernel⟩
theorem scJar : FnScope ["_law_cells", "_law_turn", "_law_cell", "_law_mixed", "_law_each"] ["_law_cells", "_law_turn"] (defScope sJar) := ⟨rfl, rfl, rfl, by decide +kernel, rfl, by decide +kernel, by decide +kernel⟩
theorem scVector : FnScope ["_law_jar_here", "_law_size_here", "_law_most", "_law_k"] ["_law_jar_here", "_law_size_here"] (defScope sVector) := ⟨rfl, rfl, rfl, by decide +kernel, rfl, by decide +kernel, by decide +kernel⟩
theorem scContent : FnScope ["_law_own", "_law_found", "_law_each"] ["_law_own"] (defScope sContent) := ⟨rfl, rfl, rfl, by decide +kernel, rfl, by decide +kernel, by decide +kernel⟩
theorem scRight : FnScope ["_law_jar_here", "_law_turn", "_law_size_here", "_law_own", "_law_mine", "_law_table_here", "_law_pairs_here", "_law_between", "_law_even", "_law_told", "_law_again", "_law_one", "_law_two", "_law_due", "_law_each", "_law_k"] ["_law_jar_here"] (defScope sRight) := ⟨rfl, rfl, rfl, by decide +kernel, rfl, by decide +kernel, by decide +kernel⟩
theorem scLaw : FnScope ["_law_cells", "_law_turn"] ["_law_cells"] (defScope sLaw) := ⟨rfl, rfl, rfl, by decide +kernel, rfl, by decide +kernel, by decide +kernel⟩
theorem to {Q : VK} {v v' : V} {H : Hp} (q : Q v H) (e : v = v') : Q v' H := e ▸ q
theorem same_new {H : Hp} {p : Addr} {o : HO} (h : H p = none) : Same H (upd H p o) := fun b x e => (upd_ne (ne_of_none e h)).trans e
def iV (l : List Int) : List V := l.map V.int
def In (B : Int) (xs : List Int) : Prop := ∀ x ∈ xs, -B ≤ x ∧ x ≤ B
theorem In.mono {B B' : Int} {xs : List Int} (h : In B xs) (l : B ≤ B') : In B' xs := fun x hx => ⟨by have := (h x hx).1; omega, by have := (h x hx).2; omega⟩
theorem iV_get {l : List Int} {i : Nat} {x : V} (h : (iV l)[i]? = some x) : ∃ v, l[i]? = some v ∧ x = .int v := by
  unfold iV at h
  rw [List.getElem?_map] at h
  obtain ⟨v, hv, rfl⟩ := Option.map_eq_some_iff.mp h
  exact ⟨v, hv, rfl⟩
theorem iV_at {l : List Int} {i : Nat} {v : Int} (h : l[i]? = some v) : (iV l)[i]? = some (.int v) := by
  unfold iV
  rw [List.getElem?_map, h]
  rfl
theorem iV_len (l : List Int) : (iV l).length = l.length := by unfold iV; rw [List.length_map]
section
variable {P : Program} {w : World} {K : PySem.W.Frag} {mg : Str → Option Value} {base : Heap}
def spInt : Sp := fun vs H Q _ => ∃ i, vs = [.int i] ∧ Q (.bl true) H
theorem ok_int {f : Addr} {fd : FuncData} (F : Fun K "is_integer" "is_integer" sInt f fd) (m1 : mg "isinstance" = none) (m2 : mg "int" = none) (m3 : mg "bool" = none) : FnOk P w K mg base CX0 1 f fd ["value"] spInt := by
  refine F.ok scInt (fun vs H Q E h => ?_) (fun cdv A outer s H vs Q E hr h => ?_)
  · obtain ⟨i, rfl, _⟩ := h
    rfl
  · obtain ⟨i, rfl, q⟩ := h
    refine ⟨_, pss_one (ps_ret (pe_and (pe_callB call_isi (by rfl) m1 boot_isinstance (pa_cons (pv 0) (pa_cons (pe_bltn (v := .ty "int") (by rfl) m2 boot_int rfl) pa_nil)))
      (pe_one (pe_not (pe_callB call_isi (by rfl) m1 boot_isinstance (pa_cons (pv 0) (pa_cons (pe_bltn (v := .ty "bool") (by rfl) m3 (by decide +kernel) rfl) pa_nil))))))), ?_⟩
    refine ⟨.int i, rfl, _, _, _, _, true, rfl, .ty _, .base (.int i), kit_ty (by decide +kernel), true, rfl, iteT ?_⟩
    refine ⟨.int i, rfl, _, _, _, _, false, rfl, .ty _, .base (.int i), kit_ty (by decide +kernel), false, rfl, q⟩
def spWithin : Sp := fun vs H Q _ => ∃ i a b, vs = [.int i, .int a, .int b] ∧ a ≤ i ∧ i ≤ b ∧ Q (.bl true) H
theorem ok_within {f g : Addr} {fd gd : FuncData} (F : Fun K "is_within" "is_within" sWithin f fd) (G : FnOk P w K mg base CX0 1 g gd ["value"] spInt) (mG : mg "is_integer" = some (.ref g)) (kG : PySem.W.keepIn K (.ref g) = true) (bG : Binds K gd ["value"] []) : FnOk P w K mg base CX0 2 f fd ["value", "least", "most"] spWithin := by
  refine F.ok scWithin (fun vs H Q E h => ?_) (fun cdv A outer s H vs Q E hr h => ?_)
  · obtain ⟨i, a, b, rfl, _⟩ := h
    rfl
  · obtain ⟨i, a, b, rfl, h1, h2, q⟩ := h
    refine ⟨_, pss_one (ps_ret (pe_and (pe_call G hr (by rfl) mG kG bG .nil pass0 (pa_cons (pv 0) pa_nil)) (pe_one (pe_chain op_le op_le (pv 1) (pv 0) (pv 2))))), ?_⟩
    refine ⟨.int i, rfl, i, rfl, true, rfl, iteT ?_⟩
    refine ⟨.int a, rfl, .int i, rfl, a, i, rfl, rfl, decide (a ≤ i), rfl, ?_⟩
    rw [if_pos (decide_eq_true h1)]
    refine ⟨.int b, rfl, i, b, rfl, rfl, ?_⟩
    exact to q (congrArg V.bl (decide_eq_true h2).symm)
def spBeyond : Sp := fun vs H Q _ => ∃ (a : Addr) (c : List Int) (B : Int), vs = [.ref a, .int B] ∧ H a = some (.tup (iV c)) ∧ In B c ∧ ∀ H', Same H H' → Q .non H'
theorem ok_beyond {f g : Addr} {fd gd : FuncData} (F : Fun K "first_beyond" "first_beyond" sBeyond f fd) (G : FnOk P w K mg base CX0 2 g gd ["value", "least", "most"] spWithin) (mG : mg "is_within" = some (.ref g)) (kG : PySem.W.keepIn K (.ref g) = true) (bG : Binds K gd ["value", "least", "most"] []) (me : mg "enumerate" = none) : FnOk P w K mg base CX0 3 f fd ["values", "size"] spBeyond := by
  refine F.ok scBeyond (fun vs H Q E h => ?_) (fun cdv A outer s H vs Q E hr h => ?_)
  · obtain ⟨a, c, B, rfl, _⟩ := h
    rfl
  · obtain ⟨a, c, B, rfl, ha, hB, q⟩ := h
    have nd := scBeyond.nd
    refine ⟨_, pss_cons (ps_for PassesOwn.never rfl (pi_enumT (by rfl) me (pa_cons (pv 0) pa_nil)) (pg_tup rfl (pgs_cons (pg_name (i := 2) nd rfl (.inl rfl)) (pgs_cons (pg_name (i := 3) nd rfl (.inl rfl)) pgs_nil)))
        (pss_one (ps_if (pt_not (pt_val (pe_call G hr (by rfl) mG kG bG .nil pass0 (pa_cons (pv 3) (pa_cons (pe_un un_neg (pv 1)) (pa_cons (pv 1) pa_nil)))))) (pss_one ps_never) pss_nil)))
      (pss_one (ps_ret pe_non)), ?_⟩
    refine ⟨.ref a, rfl, a, iV c, rfl, .inl (.inl ha), for_it walk_enumT (fun i σ H' => Same H H' ∧ ∃ x2 x3, σ = [some (.ref a), some (.int B), x2, x3]) ⟨.refl _, _, _, rfl⟩ (fun i σ H' _ p => .inl (.inl (p.1 _ _ ha))) ?_ ?_⟩
    · rintro i x σ H1 H2 hi ⟨sm, x2, x3, rfl⟩ ⟨T, y1, y2, rfl, nT, rfl, e1, e2⟩
      cases e1
      obtain ⟨v, hv, rfl⟩ := iV_get e2
      obtain ⟨b1, b2⟩ := hB v (List.mem_of_getElem? hv)
      refine ⟨T, _, rfl, .inl (.inl upd_same), rfl, _, _, rfl, _, _, rfl, rfl, ?_⟩
      exact ⟨.int v, rfl, .int B, rfl, B, rfl, .int B, rfl, v, -B, B, rfl, b1, b2, true, rfl, iteF ⟨sm.trans (same_new nT), _, _, rfl⟩⟩
    · rintro σ H1 ⟨sm, x2, x3, rfl⟩
      exact q _ sm
def unkF (n : Int) : Option Int := if n = 3 then some 2 else if n = 6 then some 3 else if n = 10 then some 4 else if n = 15 then some 5 else none
theorem unk_sz {n : Nat} (h2 : 2 ≤ n) (h5 : n ≤ 5) : unkF (sz n : Nat) = some (n : Int) := by
  rcases two_le h2 h5 with rfl | rfl | rfl | rfl <;> rfl
def spCheckC : Sp := fun vs H Q _ => ∃ (a : Addr) (n : Nat) (c : List Int), vs = [.ref a] ∧ H a = some (.tup (iV c)) ∧ Ok n c ∧ In (10 ^ 12) c ∧ ∀ H', Same H H' → Q .non H'
theorem ok_checkC {f g dU : Addr} {fd gd : FuncData} {t1 : Tok} (F : Fun K "check_coefficients" "check_coefficients" sCheckC f fd) (G : FnOk P w K mg base CX0 3 g gd ["values", "size"] spBeyond) (mG : mg "first_beyond" = some (.ref g)) (kG : PySem.W.keepIn K (.ref g) = true) (bG : Binds K gd ["values", "size"] [])
    (m1 : mg "isinstance" = none) (mt : mg "tuple" = none) (ml : mg "len" = none) (mU : mg "UNKNOWNS" = some (.ref dU)) (D : Kdi K dU unkF) (mM : mg "MOST_SIZE" = some (.int (10 ^ 12) t1)) : FnOk P w K mg base CX0 4 f fd ["coefficients"] spCheckC := by
  refine F.ok scCheckC (fun vs H Q E h => ?_) (fun cdv A outer s H vs Q E hr h => ?_)
  · obtain ⟨a, n, c, rfl, _⟩ := h
    rfl
  · obtain ⟨a, n, c, rfl, ha, ok, hB, q⟩ := h
    have nd := scCheckC.nd
    refine ⟨_, pss_cons (ps_if (PW.pt (pw_or (pt_not (pt_val (pe_callB call_isi (by rfl) m1 boot_isinstance (pa_cons (pv 0) (pa_cons (pe_bltn (v := .ty "tuple") (by rfl) mt boot_tuple rfl) pa_nil)))))
          (pw_or1 (pt_cmpR (op_notIn_kdi D) (pe_callB call_len_seq (by rfl) ml PySem.boot_len (pa_cons (pv 0) pa_nil)) (pe_glob (v := .ref dU) (by rfl) mU rfl) (by with_unfolding_all rfl))))) (pss_one ps_never) pss_nil)
      (pss_cons (ps_set (i := 1) nd rfl (.inl rfl) (pe_call G hr (by rfl) mG kG bG .nil pass0 (pa_cons (pv 0) (pa_cons (pe_glob (v := .int (10 ^ 12)) (by rfl) mM ⟨_, rfl⟩) pa_nil))))
      (pss_one (ps_if (pt_cmpR op_notN (pv 1) pe_non (nomark _)) (pss_one ps_never) pss_nil))), ?_⟩
    refine ⟨.ref a, rfl, _, _, _, _, true, rfl, .ty _, .base (.tup ha), kit_ty (by decide +kernel), true, rfl, iteF ?_⟩
    refine ⟨.ref a, rfl, a, iV c, rfl, .inr (.inl (.inl ha)), ?_⟩
    rw [iV_len, ok.len]
    refine ⟨_, rfl, rfl, ?_⟩
    rw [unk_sz ok.n2 ok.n5]
    refine ⟨_, rfl, iteF ⟨.ref a, rfl, a, c, _, rfl, ha, hB, fun H1 s1 => ⟨.non, rfl, rfl, _, rfl, iteF (q _ s1)⟩⟩⟩
def spCheckV : Sp := fun vs H Q _ => ∃ (a : Addr) (x : List Int), vs = [.ref a, .int (x.length : Nat)] ∧ H a = some (.tup (iV x)) ∧ In (10 ^ 12) x ∧ ∀ H', Same H H' → Q .non H'
theorem ok_checkV {f g : Addr} {fd gd : FuncData} {t1 : Tok} (F : Fun K "check_vector" "check_vector" sCheckV f fd) (G : FnOk P w K mg base CX0 3 g gd ["values", "size"] spBeyond) (mG : mg "first_beyond" = some (.ref g)) (kG : PySem.W.keepIn K (.ref g) = true) (bG : Binds K gd ["values", "size"] [])
    (m1 : mg "isinstance" = none) (mt : mg "tuple" = none) (ml : mg "len" = none) (mM : mg "MOST_ENTRY" = some (.int (10 ^ 60 * 10 ^ 15) t1)) : FnOk P w K mg base CX0 4 f fd ["vector", "many"] spCheckV := by
  refine F.ok scCheckV (fun vs H Q E h => ?_) (fun cdv A outer s H vs Q E hr h => ?_)
  · obtain ⟨a, x, rfl, _⟩ := h
    rfl
  · obtain ⟨a, x, rfl, ha, hB, q⟩ := h
    have nd := scCheckV.nd
    refine ⟨_, pss_cons (ps_if (PW.pt (pw_or (pt_not (pt_val (pe_callB call_isi (by rfl) m1 boot_isinstance (pa_cons (pv 0) (pa_cons (pe_bltn (v := .ty "tuple") (by rfl) mt boot_tuple rfl) pa_nil)))))
          (pw_or1 (pt_cmpR op_ne (pe_callB call_len_seq (by rfl) ml PySem.boot_len (pa_cons (pv 0) pa_nil)) (pv 1) (nomark _))))) (pss_one ps_never) pss_nil)
      (pss_cons (ps_set (i := 2) nd rfl (.inl rfl) (pe_call G hr (by rfl) mG kG bG .nil pass0 (pa_cons (pv 0) (pa_cons (pe_glob (v := .int (10 ^ 60 * 10 ^ 15)) (by rfl) mM ⟨_, rfl⟩) pa_nil))))
      (pss_one (ps_if (pt_cmpR op_notN (pv 2) pe_non (nomark _)) (pss_one ps_never) pss_nil))), ?_⟩
    refine ⟨.ref a, rfl, _, _, _, _, true, rfl, .ty _, .base (.tup ha), kit_ty (by decide +kernel), true, rfl, iteF ?_⟩
    refine ⟨.ref a, rfl, a, iV x, rfl, .inr (.inl (.inl ha)), .int (x.length : Nat), rfl, rfl, _, rfl, ?_⟩
    rw [iV_len]
    refine ite2 (fun z => ?_) fun _ => ?_
    · simp at z
    · exact ⟨.ref a, rfl, a, x, _, rfl, ha, hB.mono (by decide), fun H1 s1 => ⟨.non, rfl, rfl, _, rfl, iteF (q _ s1)⟩⟩
end
end K02

namespace K02
open PySem PySem.Spec PyProof.Rows L2
/-! ### lists that grow -/
structure Gr (H1 : Hp) (D : Addr) (l : List V) (j : Nat) (H' : Hp) : Prop where
  s : Same H1 H'
  d : H' D = some (.lst (l.take j))
theorem Gr.init {H1 : Hp} {D : Addr} {l : List V} (nD : H1 D = none) : Gr H1 D l 0 (upd H1 D (.lst [])) := ⟨same_new nD, by rw [List.take_zero]; exact upd_same⟩
theorem same_at {H1 H' H'' : Hp} {D : Addr} {o : HO} (nD : H1 D = none) (s : Same H1 H') (s2 : Same H' H'') : Same H1 (upd H'' D o) := fun b x e => by
  rw [upd_ne (ne_of_none e nD)]
  exact s2 _ _ (s _ _ e)
theorem take_snoc {l : List V} {j : Nat} {v : V} (h : l[j]? = some v) : l.take j ++ [v] = l.take (j + 1) := by
  rw [List.take_succ, h]
  rfl
theorem Gr.step {H1 H' H'' : Hp} {D : Addr} {l : List V} {j : Nat} {v : V} (g : Gr H1 D l j H') (nD : H1 D = none) (s2 : Same H' H'') (h : l[j]? = some v) (hl : l.length ≤ 1000) :
    ∃ acc, H'' D = some (.lst acc) ∧ acc.length < sizeLine ∧ Gr H1 D l (j + 1) (upd H'' D (.lst (acc ++ [v]))) := by
  have jl := (List.getElem?_eq_some_iff.mp h).1
  refine ⟨_, s2 _ _ g.d, ?_, same_at nD g.s s2, ?_⟩
  · rw [List.length_take, sizeLine_eq]; omega
  · rw [upd_same, take_snoc h]
theorem Gr.done {H1 H' : Hp} {D : Addr} {l : List V} {n : Nat} (g : Gr H1 D l n H') (h : l.length ≤ n) : H' D = some (.lst l) := by
  rw [g.d, List.take_of_length_le h]
/-- at t stands the tuple of tuples that tells T -/
def Tab (H : Hp) (t : Addr) (T : List (List Int)) : Prop := ∃ as : List Addr, H t = some (.tup (as.map V.ref)) ∧ as.length = T.length ∧ ∀ (i : Nat) (a : Addr) (r : List Int), as[i]? = some a → T[i]? = some r → H a = some (.tup (iV r))
theorem Tab.same {H H' : Hp} {t : Addr} {T : List (List Int)} (h : Tab H t T) (s : Same H H') : Tab H' t T := by
  obtain ⟨as, a, b, c⟩ := h
  exact ⟨as, s _ _ a, b, fun i x r e1 e2 => s _ _ (c i x r e1 e2)⟩
structure GrT (H1 : Hp) (D : Addr) (T : List (List Int)) (i : Nat) (H' : Hp) : Prop where
  s : Same H1 H'
  d : ∃ as : List Addr, as.length = i ∧ H' D = some (.lst (as.map V.ref)) ∧ ∀ (j : Nat) (a : Addr) (r : List Int), as[j]? = some a → T[j]? = some r → H' a = some (.tup (iV r))
theorem GrT.init {H1 : Hp} {D : Addr} {T : List (List Int)} (nD : H1 D = none) : GrT H1 D T 0 (upd H1 D (.lst [])) := ⟨same_new nD, [], rfl, upd_same, fun j a r e => by cases e⟩
theorem GrT.step {H1 H' H'' : Hp} {D p : Addr} {T : List (List Int)} {i : Nat} {r : List Int} (g : GrT H1 D T i H') (nD : H1 D = none) (s2 : Same H' H'') (hp : H'' p = some (.tup (iV r))) (h : T[i]? = some r) (hl : T.length ≤ 1000) :
    ∃ acc, H'' D = some (.lst acc) ∧ acc.length < sizeLine ∧ GrT H1 D T (i + 1) (upd H'' D (.lst (acc ++ [.ref p]))) := by
  obtain ⟨s, as, e, hD, ha⟩ := g
  have hD2 := s2 _ _ hD
  have jl := (List.getElem?_eq_some_iff.mp h).1
  have nt : ∀ a xs, H'' a = some (.tup xs) → a ≠ D := fun a xs z y => by rw [y, hD2] at z; cases z
  refine ⟨_, hD2, by rw [List.length_map, e, sizeLine_eq]; omega, same_at nD s s2, as ++ [p], by rw [List.length_append, e]; rfl, by rw [upd_same, List.map_append]; rfl, fun j a r' e1 e2 => ?_⟩
  by_cases c : j < i
  · rw [List.getElem?_append_left (by omega)] at e1
    have z := s2 _ _ (ha j a r' e1 e2)
    rw [upd_ne (nt _ _ z)]
    exact z
  · have jb : j < i + 1 := by
      have := (List.getElem?_eq_some_iff.mp e1).1
      rw [List.length_append, e] at this
      exact this
    have : j = i := by omega
    subst this
    rw [List.getElem?_append_right (by omega), e, Nat.sub_self] at e1
    cases e1
    rw [h] at e2
    cases e2
    rw [upd_ne (nt _ _ hp)]
    exact hp
theorem GrT.done {H1 H' : Hp} {D : Addr} {T : List (List Int)} (g : GrT H1 D T T.length H') : ∃ ys, H' D = some (.lst ys) ∧ ∀ l, H' l = none → Tab (upd H' l (.tup ys)) l T := by
  obtain ⟨s, as, e, hD, ha⟩ := g
  exact ⟨_, hD, fun l nl => ⟨as, upd_same, e, fun i a r e1 e2 => same_new nl _ _ (ha i a r e1 e2)⟩⟩
theorem pi_or {X : Cx} {tg iter : Expr} {w1 w2 : TI} (h1 : PI X tg iter w1) (h2 : PI X tg iter w2) : PI X tg iter (fun σ H R => w1 σ H R ∨ w2 σ H R) :=
  ⟨fun pins s σ H R I h => h.elim (h1.run pins s σ H R I) (h2.run pins s σ H R I)⟩
theorem dotp_sum : ∀ xs ys : List Int, (List.zipWith (· * ·) xs ys).sum = dotp xs ys
  | [], _ => by simp [dotp]
  | _ :: _, [] => by simp [dotp]
  | x :: xs, y :: ys => by
    rw [List.zipWith_cons_cons, List.sum_cons, dotp_sum xs ys]
    rfl
theorem row_len (c : List Int) (n r : Nat) : (rowT c n r).length = n := by unfold rowT; rw [List.length_map, List.length_range]
theorem tab_len (c : List Int) (n : Nat) : (tabT c n).length = n := by unfold tabT; rw [List.length_map, List.length_range]
theorem row_at {c : List Int} {n r k : Nat} (h : k < n) : (rowT c n r)[k]? = some (ent c n r k) := by unfold rowT; rw [List.getElem?_map, List.getElem?_range h]; rfl
theorem tab_at {c : List Int} {n r : Nat} (h : r < n) : (tabT c n)[r]? = some (rowT c n r) := by unfold tabT; rw [List.getElem?_map, List.getElem?_range h]; rfl
theorem getD_in {c : List Int} {B : Int} (h : In B c) (b0 : 0 ≤ B) (i : Nat) : -B ≤ c.getD i 0 ∧ c.getD i 0 ≤ B := by
  rw [List.getD_eq_getElem?_getD]
  cases e : c[i]? with
  | none => show -B ≤ (0 : Int) ∧ (0 : Int) ≤ B; omega
  | some v => exact h v (List.mem_of_getElem? e)
theorem ent_in {c : List Int} (h : In (10 ^ 12) c) (n r k : Nat) : -(2 * 10 ^ 12) ≤ ent c n r k ∧ ent c n r k ≤ 2 * 10 ^ 12 := by
  have e : (10 : Int) ^ 12 = 1000000000000 := by decide
  unfold ent
  rw [e] at h ⊢
  split
  · have := getD_in h (by decide) (ix n r r); omega
  · have := getD_in h (by decide) (ix n (min r k) (max r k)); omega
theorem row_in {c : List Int} (h : In (10 ^ 12) c) (n r : Nat) : In (2 * 10 ^ 12) (rowT c n r) := by
  intro x hx
  unfold rowT at hx
  obtain ⟨k, _, rfl⟩ := List.mem_map.mp hx
  exact ent_in h n r k
theorem e12 : (10 : Int) ^ 12 = 1000000000000 := by decide
/-! ### where the coefficients stand: PLACES -/
def plT : Nat → List (List Nat)
  | 2 => [[0, 1], [1, 2]]
  | 3 => [[0, 1, 2], [1, 3, 4], [2, 4, 5]]
  | 4 => [[0, 1, 2, 3], [1, 4, 5, 6], [2, 5, 7, 8], [3, 6, 8, 9]]
  | 5 => [[0, 1, 2, 3, 4], [1, 5, 6, 7, 8], [2, 6, 9, 10, 11], [3, 7, 10, 12, 13], [4, 8, 11, 13, 14]]
  | _ => []
def plR (n i : Nat) : List Nat := (plT n).getD i []
theorem pl_all {n : Nat} (h2 : 2 ≤ n) (h5 : n ≤ 5) : ∀ i, i < n → (plR n i).length = n ∧ ∀ j, j < n → (plR n i)[j]? = some (ix n (min i j) (max i j)) ∧ (ix n (min i j) (max i j) = ix n i i ↔ i = j) ∧ ix n (min i j) (max i j) < sz n := by
  rcases two_le h2 h5 with rfl | rfl | rfl | rfl <;> decide
def iN (l : List Nat) : List V := l.map fun k => V.int (k : Nat)
theorem iN_at {l : List Nat} {i k : Nat} (h : l[i]? = some k) : (iN l)[i]? = some (.int (k : Nat)) := by
  unfold iN
  rw [List.getElem?_map, h]
  rfl
/-- the dict PLACES -/
structure Plc (K : PySem.W.Frag) (d : Addr) (f : Int → Option Addr) : Prop where
  d : Kdr K d f
  r : ∀ n, 2 ≤ n → n ≤ 5 → ∃ (a : Addr) (as : List Addr), f (sz n : Nat) = some a ∧ as.length = n ∧ (∀ H, SqT K H a (as.map V.ref)) ∧ ∀ (i : Nat) (b : Addr), as[i]? = some b → ∀ H, SqT K H b (iN (plR n i))
theorem plc_mk {K : PySem.W.Frag} {dP : Addr} {nP : Nat} {a3 : Addr} {w3 : Option Addr} {n3 : Nat} {y3 : Array (Option Value)} {a6 : Addr} {w6 : Option Addr} {n6 : Nat} {y6 : Array (Option Value)} {a10 : Addr} {w10 : Option Addr} {n10 : Nat} {y10 : Array (Option Value)} {a15 : Addr} {w15 : Option Addr} {n15 : Nat} {y15 : Array (Option Value)} {a3_0 : Addr} {w3_0 : Option Addr} {n3_0 : Nat} {y3_0 : Array (Option Value)} {a3_1 : Addr} {w3_1 : Option Addr} {n3_1 : Nat} {y3_1 : Array (Option Value)} {a6_0 : Addr} {w6_0 : Option Addr} {n6_0 : Nat} {y6_0 : Array (Option Value)} {a6_1 : Addr} {w6_1 : Option Addr} {n6_1 : Nat} {y6_1 : Array (Option Value)} {a6_2 : Addr} {w6_2 : Option Addr} {n6_2 : Nat} {y6_2 : Array (Option Value)} {a10_0 : Addr} {w10_0 : Option Addr} {n10_0 : Nat} {y10_0 : Array (Option Value)} {a10_1 : Addr} {w10_1 : Option Addr} {n10_1 : Nat} {y10_1 : Array (Option Value)} {a10_2 : Addr} {w10_2 : Option Addr} {n10_2 : Nat} {y10_2 : Array (Option Value)} {a10_3 : Addr} {w10_3 : Option Addr} {n10_3 : Nat} {y10_3 : Array (Option Value)} {a15_0 : Addr} {w15_0 : Option Addr} {n15_0 : Nat} {y15_0 : Array (Option Value)} {a15_1 : Addr} {w15_1 : Option Addr} {n15_1 : Nat} {y15_1 : Array (Option Value)} {a15_2 : Addr} {w15_2 : Option Addr} {n15_2 : Nat} {y15_2 : Array (Option Value)} {a15_3 : Addr} {w15_3 : Option Addr} {n15_3 : Nat} {y15_3 : Array (Option Value)} {a15_4 : Addr} {w15_4 : Option Addr} {n15_4 : Nat} {y15_4 : Array (Option Value)} {p3 p6 p10 p15 p3_0_0 p3_0_1 p3_1_0 p3_1_1 p6_0_0 p6_0_1 p6_0_2 p6_1_0 p6_1_1 p6_1_2 p6_2_0 p6_2_1 p6_2_2 p10_0_0 p10_0_1 p10_0_2 p10_0_3 p10_1_0 p10_1_1 p10_1_2 p10_1_3 p10_2_0 p10_2_1 p10_2_2 p10_2_3 p10_3_0 p10_3_1 p10_3_2 p10_3_3 p15_0_0 p15_0_1 p15_0_2 p15_0_3 p15_0_4 p15_1_0 p15_1_1 p15_1_2 p15_1_3 p15_1_4 p15_2_0 p15_2_1 p15_2_2 p15_2_3 p15_2_4 p15_3_0 p15_3_1 p15_3_2 p15_3_3 p15_3_4 p15_4_0 p15_4_1 p15_4_2 p15_4_3 p15_4_4 : Tok}
    (lP : K.lookup dP = some ⟨.type "dict", none, .dict #[⟨3, .int 3 p3, .ref a3⟩, ⟨6, .int 6 p6, .ref a6⟩, ⟨10, .int 10 p10, .ref a10⟩, ⟨15, .int 15 p15, .ref a15⟩] nP, #[]⟩) (l3 : K.lookup a3 = some ⟨.type "tuple", w3, .seq #[.ref a3_0, .ref a3_1] n3, y3⟩) (l3_0 : K.lookup a3_0 = some ⟨.type "tuple", w3_0, .seq #[.int 0 p3_0_0, .int 1 p3_0_1] n3_0, y3_0⟩) (l3_1 : K.lookup a3_1 = some ⟨.type "tuple", w3_1, .seq #[.int 1 p3_1_0, .int 2 p3_1_1] n3_1, y3_1⟩) (l6 : K.lookup a6 = some ⟨.type "tuple", w6, .seq #[.ref a6_0, .ref a6_1, .ref a6_2] n6, y6⟩) (l6_0 : K.lookup a6_0 = some ⟨.type "tuple", w6_0, .seq #[.int 0 p6_0_0, .int 1 p6_0_1, .int 2 p6_0_2] n6_0, y6_0⟩) (l6_1 : K.lookup a6_1 = some ⟨.type "tuple", w6_1, .seq #[.int 1 p6_1_0, .int 3 p6_1_1, .int 4 p6_1_2] n6_1, y6_1⟩) (l6_2 : K.lookup a6_2 = some ⟨.type "tuple", w6_2, .seq #[.int 2 p6_2_0, .int 4 p6_2_1, .int 5 p6_2_2] n6_2, y6_2⟩) (l10 : K.lookup a10 = some ⟨.type "tuple", w10, .seq #[.ref a10_0, .ref a10_1, .ref a10_2, .ref a10_3] n10, y10⟩) (l10_0 : K.lookup a10_0 = some ⟨.type "tuple", w10_0, .seq #[.int 0 p10_0_0, .int 1 p10_0_1, .int 2 p10_0_2, .int 3 p10_0_3] n10_0, y10_0⟩) (l10_1 : K.lookup a10_1 = some ⟨.type "tuple", w10_1, .seq #[.int 1 p10_1_0, .int 4 p10_1_1, .int 5 p10_1_2, .int 6 p10_1_3] n10_1, y10_1⟩) (l10_2 : K.lookup a10_2 = some ⟨.type "tuple", w10_2, .seq #[.int 2 p10_2_0, .int 5 p10_2_1, .int 7 p10_2_2, .int 8 p10_2_3] n10_2, y10_2⟩) (l10_3 : K.lookup a10_3 = some ⟨.type "tuple", w10_3, .seq #[.int 3 p10_3_0, .int 6 p10_3_1, .int 8 p10_3_2, .int 9 p10_3_3] n10_3, y10_3⟩) (l15 : K.lookup a15 = some ⟨.type "tuple", w15, .seq #[.ref a15_0, .ref a15_1, .ref a15_2, .ref a15_3, .ref a15_4] n15, y15⟩) (l15_0 : K.lookup a15_0 = some ⟨.type "tuple", w15_0, .seq #[.int 0 p15_0_0, .int 1 p15_0_1, .int 2 p15_0_2, .int 3 p15_0_3, .int 4 p15_0_4] n15_0, y15_0⟩) (l15_1 : K.lookup a15_1 = some ⟨.type "tuple", w15_1, .seq #[.int 1 p15_1_0, .int 5 p15_1_1, .int 6 p15_1_2, .int 7 p15_1_3, .int 8 p15_1_4] n15_1, y15_1⟩) (l15_2 : K.lookup a15_2 = some ⟨.type "tuple", w15_2, .seq #[.int 2 p15_2_0, .int 6 p15_2_1, .int 9 p15_2_2, .int 10 p15_2_3, .int 11 p15_2_4] n15_2, y15_2⟩) (l15_3 : K.lookup a15_3 = some ⟨.type "tuple", w15_3, .seq #[.int 3 p15_3_0, .int 7 p15_3_1, .int 10 p15_3_2, .int 12 p15_3_3, .int 13 p15_3_4] n15_3, y15_3⟩) (l15_4 : K.lookup a15_4 = some ⟨.type "tuple", w15_4, .seq #[.int 4 p15_4_0, .int 8 p15_4_1, .int 11 p15_4_2, .int 13 p15_4_3, .int 14 p15_4_4] n15_4, y15_4⟩) (sP : (dP == sysModules) = false) :
    Plc K dP (fun k => if k = 3 then some a3 else if k = 6 then some a6 else if k = 10 then some a10 else if k = 15 then some a15 else none) := by
  refine ⟨⟨_, _, lP, fun e he => ?_, sP, fun k a e => ?_⟩, fun n h2 h5 => ?_⟩
  · simp only [List.mem_toArray, List.mem_cons, List.not_mem_nil, or_false] at he
    rcases he with rfl | rfl | rfl | rfl
    · exact ⟨3, p3, rfl, by show (3 : Int) = hashInt 3; decide +kernel⟩
    · exact ⟨6, p6, rfl, by show (6 : Int) = hashInt 6; decide +kernel⟩
    · exact ⟨10, p10, rfl, by show (10 : Int) = hashInt 10; decide +kernel⟩
    · exact ⟨15, p15, rfl, by show (15 : Int) = hashInt 15; decide +kernel⟩
  · dsimp only at e
    by_cases z3 : k = 3
    · subst z3; cases e; rfl
    · rw [if_neg z3] at e
      by_cases z6 : k = 6
      · subst z6; cases e; rfl
      · rw [if_neg z6] at e
        by_cases z10 : k = 10
        · subst z10; cases e; rfl
        · rw [if_neg z10] at e
          by_cases z15 : k = 15
          · subst z15; cases e; rfl
          · rw [if_neg z15] at e
            cases e
  · rcases two_le h2 h5 with rfl | rfl | rfl | rfl
    · refine ⟨a3, [a3_0, a3_1], rfl, rfl, fun H => .inr ⟨_, _, _, l3, rfl, rfl, (show (2 : Nat) ≤ sizeLine by decide), .cons rfl (.cons rfl (.nil))⟩, fun i b e H => ?_⟩
      match i, e with
      | 0, e => cases e; exact .inr ⟨_, _, _, l3_0, rfl, rfl, (show (2 : Nat) ≤ sizeLine by decide), .cons ⟨_, rfl⟩ (.cons ⟨_, rfl⟩ (.nil))⟩
      | 1, e => cases e; exact .inr ⟨_, _, _, l3_1, rfl, rfl, (show (2 : Nat) ≤ sizeLine by decide), .cons ⟨_, rfl⟩ (.cons ⟨_, rfl⟩ (.nil))⟩
      | i + 2, e => simp at e
    · refine ⟨a6, [a6_0, a6_1, a6_2], rfl, rfl, fun H => .inr ⟨_, _, _, l6, rfl, rfl, (show (3 : Nat) ≤ sizeLine by decide), .cons rfl (.cons rfl (.cons rfl (.nil)))⟩, fun i b e H => ?_⟩
      match i, e with
      | 0, e => cases e; exact .inr ⟨_, _, _, l6_0, rfl, rfl, (show (3 : Nat) ≤ sizeLine by decide), .cons ⟨_, rfl⟩ (.cons ⟨_, rfl⟩ (.cons ⟨_, rfl⟩ (.nil)))⟩
      | 1, e => cases e; exact .inr ⟨_, _, _, l6_1, rfl, rfl, (show (3 : Nat) ≤ sizeLine by decide), .cons ⟨_, rfl⟩ (.cons ⟨_, rfl⟩ (.cons ⟨_, rfl⟩ (.nil)))⟩
      | 2, e => cases e; exact .inr ⟨_, _, _, l6_2, rfl, rfl, (show (3 : Nat) ≤ sizeLine by decide), .cons ⟨_, rfl⟩ (.cons ⟨_, rfl⟩ (.cons ⟨_, rfl⟩ (.nil)))⟩
      | i + 3, e => simp at e
    · refine ⟨a10, [a10_0, a10_1, a10_2, a10_3], rfl, rfl, fun H => .inr ⟨_, _, _, l10, rfl, rfl, (show (4 : Nat) ≤ sizeLine by decide), .cons rfl (.cons rfl (.cons rfl (.cons rfl (.nil))))⟩, fun i b e H => ?_⟩
      match i, e with
      | 0, e => cases e; exact .inr ⟨_, _, _, l10_0, rfl, rfl, (show (4 : Nat) ≤ sizeLine by decide), .cons ⟨_, rfl⟩ (.cons ⟨_, rfl⟩ (.cons ⟨_, rfl⟩ (.cons ⟨_, rfl⟩ (.nil))))⟩
      | 1, e => cases e; exact .inr ⟨_, _, _, l10_1, rfl, rfl, (show (4 : Nat) ≤ sizeLine by decide), .cons ⟨_, rfl⟩ (.cons ⟨_, rfl⟩ (.cons ⟨_, rfl⟩ (.cons ⟨_, rfl⟩ (.nil))))⟩
      | 2, e => cases e; exact .inr ⟨_, _, _, l10_2, rfl, rfl, (show (4 : Nat) ≤ sizeLine by decide), .cons ⟨_, rfl⟩ (.cons ⟨_, rfl⟩ (.cons ⟨_, rfl⟩ (.cons ⟨_, rfl⟩ (.nil))))⟩
      | 3, e => cases e; exact .inr ⟨_, _, _, l10_3, rfl, rfl, (show (4 : Nat) ≤ sizeLine by decide), .cons ⟨_, rfl⟩ (.cons ⟨_, rfl⟩ (.cons ⟨_, rfl⟩ (.cons ⟨_, rfl⟩ (.nil))))⟩
      | i + 4, e => simp at e
    · refine ⟨a15, [a15_0, a15_1, a15_2, a15_3, a15_4], rfl, rfl, fun H => .inr ⟨_, _, _, l15, rfl, rfl, (show (5 : Nat) ≤ sizeLine by decide), .cons rfl (.cons rfl (.cons rfl (.cons rfl (.cons rfl (.nil)))))⟩, fun i b e H => ?_⟩
      match i, e with
      | 0, e => cases e; exact .inr ⟨_, _, _, l15_0, rfl, rfl, (show (5 : Nat) ≤ sizeLine by decide), .cons ⟨_, rfl⟩ (.cons ⟨_, rfl⟩ (.cons ⟨_, rfl⟩ (.cons ⟨_, rfl⟩ (.cons ⟨_, rfl⟩ (.nil)))))⟩
      | 1, e => cases e; exact .inr ⟨_, _, _, l15_1, rfl, rfl, (show (5 : Nat) ≤ sizeLine by decide), .cons ⟨_, rfl⟩ (.cons ⟨_, rfl⟩ (.cons ⟨_, rfl⟩ (.cons ⟨_, rfl⟩ (.cons ⟨_, rfl⟩ (.nil)))))⟩
      | 2, e => cases e; exact .inr ⟨_, _, _, l15_2, rfl, rfl, (show (5 : Nat) ≤ sizeLine by decide), .cons ⟨_, rfl⟩ (.cons ⟨_, rfl⟩ (.cons ⟨_, rfl⟩ (.cons ⟨_, rfl⟩ (.cons ⟨_, rfl⟩ (.nil)))))⟩
      | 3, e => cases e; exact .inr ⟨_, _, _, l15_3, rfl, rfl, (show (5 : Nat) ≤ sizeLine by decide), .cons ⟨_, rfl⟩ (.cons ⟨_, rfl⟩ (.cons ⟨_, rfl⟩ (.cons ⟨_, rfl⟩ (.cons ⟨_, rfl⟩ (.nil)))))⟩
      | 4, e => cases e; exact .inr ⟨_, _, _, l15_4, rfl, rfl, (show (5 : Nat) ≤ sizeLine by decide), .cons ⟨_, rfl⟩ (.cons ⟨_, rfl⟩ (.cons ⟨_, rfl⟩ (.cons ⟨_, rfl⟩ (.cons ⟨_, rfl⟩ (.nil)))))⟩
      | i + 5, e => simp at e
end K02

namespace K02
open PySem PySem.Spec PyProof.Rows L2
def rTupOf (K : PySem.W.Frag) : List V → Hp → VK → Prop := fun xs H Q => ∃ p ys, xs = [V.ref p] ∧ ((SqL K H p ys ∧ ∀ l, H l = none → Q (.ref l) (upd H l (.tup ys))) ∨ (SqT K H p ys ∧ Q (.ref p) H))
def scR : Scope := { kind := .function, names := [(".0", .local), ("index", .cell), ("places", .cell), ("tuple", .globalImplicit), ("coefficients", .cell)], isGenerator := false, isCoroutine := false, more := [] }
def teRow (K : PySem.W.Frag) : TE := tCB (rTupOf K) (tCons (tLc (iTup K (tVar 2)) (gName 3) tYes (tOp (rI CMul fun i j => .int (i * j)) (tOp (rIxT K) (tVar 0) (tVar 3)) (tIf (tTest (tOp rEq (tVar 3) (tOp (rIxT K) (tVar 2) (tVar 1)))) (tC (.int 2)) (tC (.int 1)))) [3]) tNil)
section
variable {P : Program} {w : World} {K : PySem.W.Frag} {mg : Str → Option Value} {base : Heap}
def spTable : Sp := fun vs H Q _ => ∃ (a : Addr) (c : List Int) (n : Nat), vs = [.ref a] ∧ H a = some (.tup (iV c)) ∧ Ok n c ∧ ∀ H' t, Same H H' → Tab H' t (tabT c n) → Q (.ref t) H'
theorem ok_table {f dP : Addr} {fd : FuncData} {fP : Int → Option Addr} (F : Fun K "table_of" "table_of" sTable f fd)
    (mt : mg "tuple" = none) (ml : mg "len" = none) (me : mg "enumerate" = none) (mP : mg "PLACES" = some (.ref dP)) (D : Plc K dP fP) : FnOk P w K mg base CX0 3 f fd ["coefficients"] spTable := by
  refine F.ok scTable (fun vs H Q E h => ?_) (fun cdv A outer s H vs Q E hr h => ?_)
  · obtain ⟨a, c, n, rfl, _⟩ := h
    rfl
  · obtain ⟨a, c, n, rfl, ha, ok, q⟩ := h
    have nd := scTable.nd
    refine ⟨_, pss_one (ps_ret (pe_callTy call_tuple_of (by rfl) mt boot_tuple (pa_cons (pe_lc (own := [("index", 1), ("places", 2)]) (g := gTup K 2 (gCons (gName 1) (gCons (gName 2) gNil))) (tt := tYes) (te := teRow K) rfl nd
        (pi_enumT (by rfl) me (pa_cons (pe_ix (ix_kdr D.d) (pe_glob (v := .ref dP) (by rfl) mP rfl) (pe_callB call_len_seq (by rfl) ml PySem.boot_len (pa_cons (pv 0) pa_nil)) (fun _ _ => rfl)) pa_nil))
        (blkOk_by (N := ["coefficients", "index", "places", "place"]) (sc := defScope sTable) (by decide +kernel)) (fun _ _ _ _ _ => pg_tup rfl (pgs_cons (pg_name (i := 1) nd rfl (.inr rfl)) (pgs_cons (pg_name (i := 2) nd rfl (.inr rfl)) pgs_nil))) (fun _ _ _ _ _ => pts_nil)
        (fun s1 H1 C1 cl1 fp1 => by
          refine pe_callTy call_tuple_of (by rfl) mt boot_tuple (pa_cons (pe_lc (own := [("place", 3)]) (g := gName 3) (tt := tYes) (wi := iTup K (tVar 2)) (te := tOp (rI CMul fun i j => .int (i * j)) (tOp (rIxT K) (tVar 0) (tVar 3)) (tIf (tTest (tOp rEq (tVar 3) (tOp (rIxT K) (tVar 2) (tVar 1)))) (tC (.int 2)) (tC (.int 1)))) rfl nd (pi_tup ?_)
            (blkOk_by (N := ["coefficients", "index", "places", "place"]) (sc := scR) (by decide +kernel)) (fun _ _ _ _ _ => pg_name (i := 3) nd rfl (.inl rfl)) (fun _ _ _ _ _ => pts_nil) (fun _ _ _ _ _ => ?_)) pa_nil)
          · exact pv 2
          · exact pe_op op_mul (pe_ix ix_tup (pv 0) (pv 3) (fun _ _ => rfl)) (pe_ifExp (pt_cmpR op_eq (pv 3) (pe_ix ix_tup (pv 2) (pv 1) (fun _ _ => rfl)) (nomark _)) pe_int pe_int))) pa_nil))), ?_⟩
    obtain ⟨aP, as, eP, lP, hP, hR⟩ := D.r n ok.n2 ok.n5
    refine ⟨.ref a, rfl, a, iV c, rfl, .inr (.inl (.inl ha)), ?_⟩
    rw [iV_len, ok.len]
    have n5 := ok.n5
    refine ⟨_, aP, rfl, rfl, eP, aP, as.map V.ref, rfl, hP _, fun Dl nD => lc_it walk_enumT (fun i H' => GrT H Dl (tabT c n) i H') (GrT.init nD) (fun i H' _ _ => hP H') ?_ ?_⟩
    · rintro i x H1 H2 hi g1 ⟨T, y1, y2, rfl, nT, rfl, e1, e2⟩
      cases e1
      rw [List.length_map, lP] at hi
      have e2 : (as.map V.ref)[i]? = some y2 := e2
      rw [List.getElem?_map] at e2
      obtain ⟨b, hb, rfl⟩ := Option.map_eq_some_iff.mp e2
      obtain ⟨rl, rg⟩ := pl_all ok.n2 ok.n5 i hi
      have hRb := hR i b hb
      have s12 : Same H1 (upd H1 T (.tup [.int i, .ref b])) := same_new nT
      refine ⟨T, _, rfl, .inl (.inl upd_same), rfl, _, _, rfl, _, _, rfl, rfl, rfl, ?_⟩
      have ha2 := s12 _ _ (g1.s _ _ ha)
      have gl : ∀ j, j < n → (iV c)[ix n (min i j) (max i j)]? = some (.int (c.getD (ix n (min i j) (max i j)) 0)) := fun j hj => iV_at (by
        rw [List.getD_eq_getElem?_getD, List.getElem?_eq_getElem (by rw [ok.len]; exact (rg j hj).2.2)]; rfl)
      refine ⟨.ref b, rfl, b, rfl, ⟨_, hRb _⟩, fun D2 nD2 => lc_tup (xs := iN (plR n i)) (fun j H' => Gr (upd H1 T (.tup [.int i, .ref b])) D2 (iV (rowT c n i)) j H') (Gr.init nD2) (fun j H' _ _ => hRb H') ?_ ?_⟩
      · intro j v H2 hj g2
        unfold iN at hj
        rw [List.getElem?_map] at hj
        obtain ⟨pj, hpj, rfl⟩ := Option.map_eq_some_iff.mp hj
        have jn : j < n := by
          have := (List.getElem?_eq_some_iff.mp hpj).1
          omega
        obtain ⟨g1', g2', g3'⟩ := rg j jn
        obtain ⟨i1, i2, i3⟩ := rg i hi
        rw [hpj] at g1'
        obtain rfl := Option.some.inj g1'
        have e3 : (plR n i)[i]? = some (ix n i i) := by simpa using i1
        refine ⟨rfl, .ref a, rfl, .int _, rfl, a, iV c, _, _, rfl, rfl, .inl (.inl (g2.s _ _ ha2)), atI_nat (gl j jn), .int _, rfl, .ref b, rfl, .int _, rfl, b, _, _, _, rfl, rfl, hRb _, atI_nat (iN_at e3), rfl, _, rfl, ?_⟩
        have key : ∀ m : Int, (m = if i = j then 2 else 1) → ∃ acc, H2 D2 = some (.lst acc) ∧ acc.length < sizeLine ∧ Gr (upd H1 T (.tup [.int i, .ref b])) D2 (iV (rowT c n i)) (j + 1) (upd H2 D2 (.lst (acc ++ [.int (c.getD (ix n (min i j) (max i j)) 0 * m)]))) := by
          intro m hm
          refine g2.step nD2 (.refl _) (iV_at ?_) (by rw [iV_len, row_len]; omega)
          rw [row_at jn, hm]
          unfold ent
          by_cases z : i = j
          · subst z
            rw [if_pos rfl, if_pos rfl, Nat.min_self, Nat.max_self, Int.mul_comm]
          · rw [if_neg z, if_neg z, Int.mul_one]
        refine ite2 (fun z => ?_) (fun z => ?_)
        · have z' := V.int.inj (of_decide_eq_true z)
          exact ⟨_, 2, rfl, rfl, .inr ⟨by decide, by decide⟩, key 2 (by rw [if_pos (g2'.mp (by omega))])⟩
        · have z' : ¬ i = j := fun y => z (decide_eq_true (by rw [g2'.mpr y]))
          exact ⟨_, 1, rfl, rfl, .inr ⟨by decide, by decide⟩, key 1 (by rw [if_neg z'])⟩
      · intro H2 g2
        refine ⟨D2, _, rfl, .inl ⟨.inl (.inl (g2.done (by rw [iV_len, row_len]; unfold iN; rw [List.length_map]; omega))), fun l nl => ?_⟩⟩
        exact g1.step nD ((s12.trans g2.s).trans (same_new nl)) upd_same (tab_at hi) (by rw [tab_len]; omega)
    · intro H1 g1
      have g1' : GrT H Dl (tabT c n) (tabT c n).length H1 := by rw [tab_len]; simpa [lP] using g1
      obtain ⟨ys, hD, ht⟩ := g1'.done
      exact ⟨Dl, ys, rfl, .inl ⟨.inl (.inl hD), fun l nl => q _ l (g1.s.trans (same_new nl)) (ht l nl)⟩⟩
def spDot : Sp := fun vs H Q _ => ∃ (a b : Addr) (xs ys : List Int), vs = [.ref a, .ref b] ∧ H a = some (.tup (iV xs)) ∧ (H b = some (.tup (iV ys)) ∨ H b = some (.lst (iV ys))) ∧ xs.length = ys.length ∧ xs.length ≤ 1000 ∧ In (2 * 10 ^ 12) xs ∧ ∀ H', Same H H' → Q (.int (dotp xs ys)) H'
theorem ok_dot {f : Addr} {fd : FuncData} (F : Fun K "dot" "dot" sDot f fd) (mz : mg "zip" = none) (ms : mg "sum" = none) : FnOk P w K mg base CX0 1 f fd ["row", "other"] spDot := by
  refine F.ok scDot (fun vs H Q E h => ?_) (fun cdv A outer s H vs Q E hr h => ?_)
  · obtain ⟨a, b, xs, ys, rfl, _⟩ := h
    rfl
  · obtain ⟨a, b, xs, ys, rfl, ha, hb, hl, hs, hB, q⟩ := h
    have nd := scDot.nd
    refine ⟨_, pss_one (ps_ret (pe_callB (cr_sum rfl) (by rfl) ms boot_sum (pa_cons (pe_lc (own := [("left", 2), ("right", 3)]) (g := gTup K 2 (gCons (gName 2) (gCons (gName 3) gNil))) (tt := tYes) rfl nd (pi_or (pi_zipM (by rfl) mz (pa_cons (pv 0) (pa_cons (pv 1) pa_nil))) (RZ.pi_zipA (by rfl) mz (pa_cons (pv 0) (pa_cons (pv 1) pa_nil))))
        (blkOk_by (N := ["row", "other", "left", "right"]) (sc := defScope sDot) (by decide +kernel)) (fun _ _ _ _ _ => pg_tup rfl (pgs_cons (pg_name (i := 2) nd rfl (.inl rfl)) (pgs_cons (pg_name (i := 3) nd rfl (.inl rfl)) pgs_nil))) (fun _ _ _ _ _ => pts_nil)
        (fun _ _ _ _ _ => pe_op op_mul (pv 2) (pv 3))) pa_nil))), ?_⟩
    have lz : (iV (List.zipWith (· * ·) xs ys)).length = xs.length := by rw [iV_len, List.length_zipWith]; omega
    have body : ∀ D (nD : H D = none) (i : Nat) (x : V) (H1 H2 : Hp), i < xs.length → Gr H D (iV (List.zipWith (· * ·) xs ys)) i H1 → YPair (fun i => (iV xs)[i]?) (fun i => (iV ys)[i]?) i H1 x H2 →
        gTup K 2 (gCons (gName 2) (gCons (gName 3) gNil)) x (wipe (start ["row", "other", "left", "right"] [.ref a, .ref b]) [2, 3]) H2 fun σ2 H3 => wipe σ2 [2, 3] = wipe (start ["row", "other", "left", "right"] [.ref a, .ref b]) [2, 3] ∧ tYes σ2 H3 fun bb H4 =>
          if bb = true then tOp (rI CMul fun i j => .int (i * j)) (tVar 2) (tVar 3) σ2 H4 fun y H5 => ∃ acc, H5 D = some (.lst acc) ∧ acc.length < sizeLine ∧ Gr H D (iV (List.zipWith (· * ·) xs ys)) (i + 1) (upd H5 D (.lst (acc ++ [y]))) else Gr H D (iV (List.zipWith (· * ·) xs ys)) (i + 1) H4 := by
      rintro D nD i x H1 H2 hi g1 ⟨T, y1, y2, rfl, nT, rfl, e1, e2⟩
      obtain ⟨v1, h1, rfl⟩ := iV_get e1
      obtain ⟨v2, h2, rfl⟩ := iV_get e2
      obtain ⟨b1, b2⟩ := hB v1 (List.mem_of_getElem? h1)
      rw [e12] at b1 b2
      refine ⟨T, _, rfl, .inl (.inl upd_same), rfl, _, _, rfl, _, _, rfl, rfl, rfl, .int v1, rfl, .int v2, rfl, v1, v2, rfl, rfl, .inl ⟨by omega, by omega⟩, ?_⟩
      refine g1.step nD (same_new nT) (iV_at ?_) (by rw [lz]; exact hs)
      rw [List.getElem?_zipWith, h1, h2]
    have fin : ∀ D (nD : H D = none) (H1 : Hp), Gr H D (iV (List.zipWith (· * ·) xs ys)) xs.length H1 → ∃ (a : Addr) (ns : List Int), [V.ref D] = [V.ref a] ∧ SqL K H1 a (ns.map V.int) ∧ Q (.int ns.sum) H1 := fun D nD H1 g1 =>
      ⟨D, List.zipWith (· * ·) xs ys, rfl, .inl (.inl (g1.done (Nat.le_of_eq lz))), by rw [dotp_sum]; exact q _ g1.s⟩
    rcases hb with hb | hb
    · refine .inr ⟨.ref a, rfl, .ref b, rfl, a, b, iV xs, iV ys, rfl, .inr ⟨.inl (.inl ha), .inl (.inl hb), fun D nD => lc_it (walk_zipTT (by rw [iV_len, iV_len]; exact hl)) (fun i H' => Gr H D (iV (List.zipWith (· * ·) xs ys)) i H') (Gr.init nD) (fun i H' _ g => ⟨.inl (.inl (g.s _ _ ha)), .inl (.inl (g.s _ _ hb))⟩) (fun i x H1 H2 hi => body D nD i x H1 H2 (by rw [iV_len] at hi; exact hi)) ?_⟩⟩
      intro H1 g1
      rw [iV_len] at g1
      exact fin D nD H1 g1
    · refine .inl ⟨.ref a, rfl, .ref b, rfl, a, b, iV xs, iV ys, rfl, .inl (.inl ha), .inl (.inl hb), fun D nD => lc_it (walk_zipM (by rw [iV_len, iV_len]; exact hl)) (fun i H' => Gr H D (iV (List.zipWith (· * ·) xs ys)) i H') (Gr.init nD) (fun i H' _ g => ⟨.inl (.inl (g.s _ _ ha)), .inl (.inl (g.s _ _ hb))⟩) (fun i x H1 H2 hi => body D nD i x H1 H2 (by rw [iV_len] at hi; exact hi)) ?_⟩
      intro H1 g1
      rw [iV_len] at g1
      exact fin D nD H1 g1
def spProd : Sp := fun vs H Q _ => ∃ (t a b : Addr) (T : List (List Int)) (x y : List Int), vs = [.ref t, .ref a, .ref b] ∧ Tab H t T ∧ H a = some (.tup (iV x)) ∧ H b = some (.tup (iV y)) ∧ x.length = T.length ∧ T.length ≤ 100 ∧ (∀ r ∈ T, r.length = y.length ∧ In (2 * 10 ^ 12) r) ∧ y.length ≤ 100 ∧ In (2 * 10 ^ 12) x ∧ ∀ H', Same H H' → Q (.int (prodT T x y)) H'
theorem ok_prod {f g : Addr} {fd gd : FuncData} (F : Fun K "product_at" "product_at" sProd f fd) (G : FnOk P w K mg base CX0 1 g gd ["row", "other"] spDot) (mG : mg "dot" = some (.ref g)) (kG : PySem.W.keepIn K (.ref g) = true) (bG : Binds K gd ["row", "other"] []) : FnOk P w K mg base CX0 2 f fd ["table", "vector", "other"] spProd := by
  refine F.ok scProd (fun vs H Q E h => ?_) (fun cdv A outer s H vs Q E hr h => ?_)
  · obtain ⟨t, a, b, T, x, y, rfl, _⟩ := h
    rfl
  · obtain ⟨t, a, b, T, x, y, rfl, hT, ha, hb, hl, hn, hR, hy, hB, q⟩ := h
    have nd := scProd.nd
    obtain ⟨as, ht, hal, har⟩ := hT
    refine ⟨_, pss_one (ps_ret (pe_call G hr (by rfl) mG kG bG .nil pass0 (pa_cons (pv 1) (pa_cons (pe_lc (own := [("row", 3)]) (g := gName 3) (tt := tYes) rfl nd (pi_tup (pv 0)) (blkOk_by (N := ["table", "vector", "other", "row"]) (sc := defScope sProd) (by decide +kernel)) (fun _ _ _ _ _ => pg_name (i := 3) nd rfl (.inl rfl)) (fun _ _ _ _ _ => pts_nil)
        (fun _ _ _ _ _ => pe_call G (hr.mono (by decide)) (by rfl) mG kG bG .nil pass0 (pa_cons (pv 3) (pa_cons (pv 2) pa_nil)))) pa_nil)))), ?_⟩
    have sT : ∀ H', Same H H' → SqT K H' t (as.map V.ref) := fun H' s => .inl (.inl (s _ _ ht))
    refine ⟨.ref a, rfl, .ref t, rfl, t, rfl, ⟨_, sT H (.refl _)⟩, fun D nD => lc_tup (xs := as.map V.ref) (fun i H' => Gr H D (iV (T.map fun r => dotp r y)) i H') (Gr.init nD) (fun i H' _ g => sT H' g.s) ?_ ?_⟩
    · intro i v H1 hi g1
      rw [List.getElem?_map] at hi
      obtain ⟨ra, hra, rfl⟩ := Option.map_eq_some_iff.mp hi
      have il := (List.getElem?_eq_some_iff.mp hra).1
      have hr1 : T[i]? = some T[i] := List.getElem?_eq_getElem (by omega)
      obtain ⟨r1, r2⟩ := hR _ (List.mem_of_getElem? hr1)
      refine ⟨rfl, .ref ra, rfl, .ref b, rfl, ra, b, T[i], y, rfl, g1.s _ _ (har i ra _ hra hr1), .inl (g1.s _ _ hb), r1, by omega, r2, fun H2 s2 => ?_⟩
      refine g1.step nD s2 (iV_at ?_) (by rw [iV_len, List.length_map]; omega)
      rw [List.getElem?_map, hr1]
      rfl
    · intro H1 g1
      have hD := g1.done (by rw [iV_len, List.length_map, List.length_map]; omega)
      exact ⟨a, D, x, _, rfl, g1.s _ _ ha, .inr hD, by rw [List.length_map]; exact hl, by omega, hB, fun H2 s2 => q _ (g1.s.trans s2)⟩
end
end K02

namespace K02
open PySem PySem.Spec PyProof.Rows L2
/-- at x stands a form of n unknowns with the coefficients c -/
def Fo (C : Addr) (H : Hp) (x : Addr) (n : Nat) (c : List Int) : Prop := ∃ dx a, H x = some (.ins C dx [("_coefficients", .ref a)]) ∧ H a = some (.tup (iV c)) ∧ Ok n c ∧ In (10 ^ 12) c
theorem Fo.same {C : Addr} {H H' : Hp} {x : Addr} {n : Nat} {c : List Int} (h : Fo C H x n c) (s : Same H H') : Fo C H' x n c := by
  obtain ⟨dx, a, h1, h2, h3⟩ := h
  exact ⟨dx, a, s _ _ h1, s _ _ h2, h3⟩
section
variable {P : Program} {w : World} {K : PySem.W.Frag} {mg : Str → Option Value} {base : Heap} {C : Addr}
def spInit (C : Addr) : Sp := fun vs H Q _ => ∃ (x dx a : Addr) (n : Nat) (c : List Int), vs = [.ref x, .ref a] ∧ H x = some (.ins C dx []) ∧ H a = some (.tup (iV c)) ∧ Ok n c ∧ In (10 ^ 12) c ∧ ∀ H', Same H H' → Q .non (upd H' x (.ins C dx [("_coefficients", .ref a)]))
theorem ok_init {f g : Addr} {fd gd : FuncData} (F : Fun K "__init__" "Form.__init__" sInit f fd) (G : FnOk P w K mg base CX0 4 g gd ["coefficients"] spCheckC) (mG : mg "check_coefficients" = some (.ref g)) (kG : PySem.W.keepIn K (.ref g) = true) (bG : Binds K gd ["coefficients"] [])
    (c0 : Cls K C) (n0 : NoAttr K C "_coefficients") : FnOk P w K mg base CX0 5 f fd ["self", "coefficients"] (spInit C) := by
  refine F.ok scInit (fun vs H Q E h => ?_) (fun cdv A outer s H vs Q E hr h => ?_)
  · obtain ⟨x, dx, a, n, c, rfl, _⟩ := h
    rfl
  · obtain ⟨x, dx, a, n, c, rfl, hx, ha, ok, hB, q⟩ := h
    refine ⟨_, pss_cons (ps_expr (pe_call G hr (by rfl) mG kG bG .nil pass0 (pa_cons (pv 1) pa_nil))) (pss_one (ps_fld (pv 0) (pv 1) (by rfl))), ?_⟩
    refine ⟨.ref a, rfl, a, n, c, rfl, ha, ok, hB, fun H1 s1 => ⟨.ref a, rfl, .ref x, rfl, x, C, dx, [], rfl, s1 _ _ hx, c0, n0, by decide, q _ s1⟩⟩
def spUnk (C : Addr) : Sp := fun vs H Q _ => ∃ (x : Addr) (n : Nat) (c : List Int), vs = [.ref x] ∧ Fo C H x n c ∧ Q (.int n) H
theorem ok_unk {f dU : Addr} {fd : FuncData} (F : Fun K "unknowns" "Form.unknowns" sUnk f fd) (c0 : Cls K C) (n0 : NoAttr K C "_coefficients") (ml : mg "len" = none) (mU : mg "UNKNOWNS" = some (.ref dU)) (D : Kdi K dU unkF) : FnOk P w K mg base CX0 1 f fd ["self"] (spUnk C) := by
  refine F.ok scUnk (fun vs H Q E h => ?_) (fun cdv A outer s H vs Q E hr h => ?_)
  · obtain ⟨x, n, c, rfl, _⟩ := h
    rfl
  · obtain ⟨x, n, c, rfl, ⟨dx, a, hx, ha, ok, hB⟩, q⟩ := h
    refine ⟨_, pss_one (ps_ret (pe_ix (ix_kdi D) (pe_glob (v := .ref dU) (by rfl) mU rfl) (pe_callB call_len_seq (by rfl) ml PySem.boot_len (pa_cons (pe_fld (pv 0) (by rfl)) pa_nil)) (fun _ _ => rfl))), ?_⟩
    refine ⟨.ref x, rfl, x, C, dx, _, .ref a, rfl, hx, c0, n0, rfl, a, iV c, rfl, .inr (.inl (.inl ha)), ?_⟩
    rw [iV_len, ok.len]
    exact ⟨_, _, rfl, rfl, unk_sz ok.n2 ok.n5, q⟩
def spTab (C : Addr) : Sp := fun vs H Q _ => ∃ (x : Addr) (n : Nat) (c : List Int), vs = [.ref x] ∧ Fo C H x n c ∧ ∀ H' t, Same H H' → Tab H' t (tabT c n) → Q (.ref t) H'
theorem ok_tab {f g : Addr} {fd gd : FuncData} (F : Fun K "table" "Form.table" sTab f fd) (c0 : Cls K C) (n0 : NoAttr K C "_coefficients") (G : FnOk P w K mg base CX0 3 g gd ["coefficients"] spTable) (mG : mg "table_of" = some (.ref g)) (kG : PySem.W.keepIn K (.ref g) = true) (bG : Binds K gd ["coefficients"] []) : FnOk P w K mg base CX0 4 f fd ["self"] (spTab C) := by
  refine F.ok scTab (fun vs H Q E h => ?_) (fun cdv A outer s H vs Q E hr h => ?_)
  · obtain ⟨x, n, c, rfl, _⟩ := h
    rfl
  · obtain ⟨x, n, c, rfl, ⟨dx, a, hx, ha, ok, hB⟩, q⟩ := h
    refine ⟨_, pss_one (ps_ret (pe_call G hr (by rfl) mG kG bG .nil pass0 (pa_cons (pe_fld (pv 0) (by rfl)) pa_nil))), ?_⟩
    exact ⟨.ref x, rfl, x, C, dx, _, .ref a, rfl, hx, c0, n0, rfl, a, c, n, rfl, ha, ok, q⟩
def spCont (C : Addr) : Sp := fun vs H Q _ => ∃ (x : Addr) (n : Nat) (c : List Int), vs = [.ref x] ∧ Fo C H x n c ∧ Q (.int (contL c)) H
theorem foldl_snoc {c : List Int} {i : Nat} {v : Int} (h : c[i]? = some v) (f : Int → Int → Int) (z : Int) : (c.take (i + 1)).foldl f z = f ((c.take i).foldl f z) v := by
  rw [List.take_succ, h, List.foldl_append]
  rfl
theorem ok_cont {f : Addr} {fd : FuncData} (F : Fun K "content" "Form.content" sCont f fd) (c0 : Cls K C) (n0 : NoAttr K C "_coefficients") (mg1 : mg "gcd" = some (.builtin "math.gcd")) : FnOk P w K mg base CX0 1 f fd ["self"] (spCont C) := by
  refine F.ok scCont (fun vs H Q E h => ?_) (fun cdv A outer s H vs Q E hr h => ?_)
  · obtain ⟨x, n, c, rfl, _⟩ := h
    rfl
  · obtain ⟨x, n, c, rfl, ⟨dx, a, hx, ha, ok, hB⟩, q⟩ := h
    have nd := scCont.nd
    refine ⟨_, pss_cons (ps_set (i := 1) nd rfl (.inl rfl) pe_int)
      (pss_cons (ps_for PassesOwn.never rfl (pi_tup (pe_fld (pv 0) (by rfl))) (pg_name (i := 2) nd rfl (.inl rfl)) (pss_one (ps_set (i := 1) nd rfl (.inl rfl) (pe_callBfun cr_gcd (by rfl) mg1 (pa_cons (pv 1) (pa_cons (pv 2) pa_nil))))))
      (pss_one (ps_ret (pv 1)))), ?_⟩
    have hT : SqT K H a (iV c) := .inl (.inl ha)
    refine ⟨.ref x, rfl, x, C, dx, _, .ref a, rfl, hx, c0, n0, rfl, a, rfl, ⟨_, hT⟩, for_tup (xs := iV c) (fun i σ H' => H' = H ∧ ∃ x2, σ = [some (.ref x), some (.int ((c.take i).foldl (fun a b => (Int.gcd a b : Nat)) 0)), x2]) ⟨rfl, _, rfl⟩ (fun i σ H' _ p => p.1 ▸ hT) ?_ ?_⟩
    · rintro i v σ H' hv ⟨rfl, x2, rfl⟩
      obtain ⟨v, hv', rfl⟩ := iV_get hv
      refine ⟨.int _, rfl, .int v, rfl, _, v, rfl, rfl, some (.int v), ?_⟩
      rw [foldl_snoc hv']
      rfl
    · rintro σ H' ⟨rfl, x2, rfl⟩
      refine ⟨.int _, rfl, ?_⟩
      rw [List.take_of_length_le (Nat.le_of_eq (iV_len c).symm)]
      exact q
def spValue (C : Addr) : Sp := fun vs H Q _ => ∃ (x b : Addr) (n : Nat) (c v : List Int), vs = [.ref x, .ref b] ∧ Fo C H x n c ∧ H b = some (.tup (iV v)) ∧ v.length = n ∧ In (10 ^ 12) v ∧ ∀ H', Same H H' → Q (.int (valL c n v)) H'
theorem tab_rows {c : List Int} (hB : In (10 ^ 12) c) (n : Nat) : ∀ r ∈ tabT c n, r.length = n ∧ In (2 * 10 ^ 12) r := by
  intro r hr
  unfold tabT at hr
  obtain ⟨i, _, rfl⟩ := List.mem_map.mp hr
  exact ⟨row_len c n i, row_in hB n i⟩
theorem ok_value {f g1 g2 gu gt pu pt : Addr} {fd d1 d2 du dt : FuncData} (F : Fun K "value" "Form.value" sValue f fd) (c0 : Cls K C)
    (G1 : FnOk P w K mg base CX0 4 g1 d1 ["vector", "many"] spCheckV) (m1 : mg "check_vector" = some (.ref g1)) (k1 : PySem.W.keepIn K (.ref g1) = true) (b1 : Binds K d1 ["vector", "many"] [])
    (G2 : FnOk P w K mg base CX0 2 g2 d2 ["table", "vector", "other"] spProd) (m2 : mg "product_at" = some (.ref g2)) (k2 : PySem.W.keepIn K (.ref g2) = true) (b2 : Binds K d2 ["table", "vector", "other"] [])
    (U : FnOk P w K mg base CX0 1 gu du ["self"] (spUnk C)) (pU : PropOf K C "unknowns" pu gu) (bU : Binds K du ["self"] [])
    (T : FnOk P w K mg base CX0 4 gt dt ["self"] (spTab C)) (pT : PropOf K C "table" pt gt) (bT : Binds K dt ["self"] []) : FnOk P w K mg base CX0 6 f fd ["self", "vector"] (spValue C) := by
  refine F.ok scValue (fun vs H Q E h => ?_) (fun cdv A outer s H vs Q E hr h => ?_)
  · obtain ⟨x, b, n, c, v, rfl, _⟩ := h
    rfl
  · obtain ⟨x, b, n, c, v, rfl, fo, hb, hl, hv, q⟩ := h
    refine ⟨_, pss_cons (ps_expr (pe_call G1 (hr.mono (by decide)) (by rfl) m1 k1 b1 .nil pass0 (pa_cons (pv 1) (pa_cons (pe_prop (pv 0) c0 pU U (hr.mono (by decide)) bU .nil pass0 (by rfl)) pa_nil))))
      (pss_one (ps_ret (pe_op op_fdiv (pe_call G2 (hr.mono (by decide)) (by rfl) m2 k2 b2 .nil pass0 (pa_cons (pe_prop (pv 0) c0 pT T (hr.mono (by decide)) bT .nil pass0 (by rfl)) (pa_cons (pv 1) (pa_cons (pv 1) pa_nil)))) pe_int))), ?_⟩
    obtain ⟨dx, a, hx, ha, ok, hB⟩ := id fo
    refine ⟨.ref b, rfl, .ref x, rfl, x, dx, _, rfl, hx, x, n, c, rfl, fo, b, v, by rw [hl]; rfl, hb, hv, fun H1 s1 => ?_⟩
    have fo1 := fo.same s1
    refine ⟨.ref x, rfl, x, dx, _, rfl, s1 _ _ hx, x, n, c, rfl, fo1, fun H2 t s2 tb => ?_⟩
    have hb2 := s2 _ _ (s1 _ _ hb)
    have n5 := ok.n5
    refine ⟨.ref b, rfl, .ref b, rfl, t, b, b, _, v, v, rfl, tb, hb2, hb2, by rw [tab_len]; exact hl, by rw [tab_len]; omega, fun r hr => ⟨(tab_rows hB n r hr).1.trans hl.symm, (tab_rows hB n r hr).2⟩, by omega, hv.mono (by decide), fun H3 s3 => ?_⟩
    refine ⟨_, 2, rfl, rfl, ⟨by decide, by decide⟩, ?_⟩
    rw [val_eq ok hl]
    show Q (V.int (2 * valL c n v / 2)) H3
    rw [show (2 * valL c n v) / 2 = valL c n v by omega]
    exact q _ (s1.trans (s2.trans s3))
def spProduct (C : Addr) : Sp := fun vs H Q _ => ∃ (x b b2 : Addr) (n : Nat) (c v v2 : List Int), vs = [.ref x, .ref b, .ref b2] ∧ Fo C H x n c ∧ H b = some (.tup (iV v)) ∧ H b2 = some (.tup (iV v2)) ∧ v.length = n ∧ v2.length = n ∧ In (10 ^ 12) v ∧ In (10 ^ 12) v2 ∧ ∀ H', Same H H' → Q (.int (prodT (tabT c n) v v2)) H'
theorem ok_product {f g1 g2 gu gt pu pt : Addr} {fd d1 d2 du dt : FuncData} (F : Fun K "product" "Form.product" sProduct f fd) (c0 : Cls K C)
    (G1 : FnOk P w K mg base CX0 4 g1 d1 ["vector", "many"] spCheckV) (m1 : mg "check_vector" = some (.ref g1)) (k1 : PySem.W.keepIn K (.ref g1) = true) (b1 : Binds K d1 ["vector", "many"] [])
    (G2 : FnOk P w K mg base CX0 2 g2 d2 ["table", "vector", "other"] spProd) (m2 : mg "product_at" = some (.ref g2)) (k2 : PySem.W.keepIn K (.ref g2) = true) (b2 : Binds K d2 ["table", "vector", "other"] [])
    (U : FnOk P w K mg base CX0 1 gu du ["self"] (spUnk C)) (pU : PropOf K C "unknowns" pu gu) (bU : Binds K du ["self"] [])
    (T : FnOk P w K mg base CX0 4 gt dt ["self"] (spTab C)) (pT : PropOf K C "table" pt gt) (bT : Binds K dt ["self"] []) : FnOk P w K mg base CX0 6 f fd ["self", "vector", "other"] (spProduct C) := by
  refine F.ok scProduct (fun vs H Q E h => ?_) (fun cdv A outer s H vs Q E hr h => ?_)
  · obtain ⟨x, b, b2, n, c, v, v2, rfl, _⟩ := h
    rfl
  · obtain ⟨x, b, b2', n, c, v, v2, rfl, fo, hb, hb2, hl, hl2, hv, hv2, q⟩ := h
    refine ⟨_, pss_cons (ps_expr (pe_call G1 (hr.mono (by decide)) (by rfl) m1 k1 b1 .nil pass0 (pa_cons (pv 1) (pa_cons (pe_prop (pv 0) c0 pU U (hr.mono (by decide)) bU .nil pass0 (by rfl)) pa_nil))))
      (pss_cons (ps_expr (pe_call G1 (hr.mono (by decide)) (by rfl) m1 k1 b1 .nil pass0 (pa_cons (pv 2) (pa_cons (pe_prop (pv 0) c0 pU U (hr.mono (by decide)) bU .nil pass0 (by rfl)) pa_nil))))
      (pss_one (ps_ret (pe_call G2 (hr.mono (by decide)) (by rfl) m2 k2 b2 .nil pass0 (pa_cons (pe_prop (pv 0) c0 pT T (hr.mono (by decide)) bT .nil pass0 (by rfl)) (pa_cons (pv 1) (pa_cons (pv 2) pa_nil))))))), ?_⟩
    obtain ⟨dx, a, hx, ha, ok, hB⟩ := id fo
    refine ⟨.ref b, rfl, .ref x, rfl, x, dx, _, rfl, hx, x, n, c, rfl, fo, b, v, by rw [hl]; rfl, hb, hv, fun H1 s1 => ?_⟩
    refine ⟨.ref b2', rfl, .ref x, rfl, x, dx, _, rfl, s1 _ _ hx, x, n, c, rfl, fo.same s1, b2', v2, by rw [hl2]; rfl, s1 _ _ hb2, hv2, fun H2 s2 => ?_⟩
    have s12 := s1.trans s2
    refine ⟨.ref x, rfl, x, dx, _, rfl, s12 _ _ hx, x, n, c, rfl, fo.same s12, fun H3 t s3 tb => ?_⟩
    have s13 := s12.trans s3
    have n5 := ok.n5
    exact ⟨.ref b, rfl, .ref b2', rfl, t, b, b2', _, v, v2, rfl, tb, s13 _ _ hb, s13 _ _ hb2, by rw [tab_len]; exact hl, by rw [tab_len]; omega, fun r hr => ⟨(tab_rows hB n r hr).1.trans hl2.symm, (tab_rows hB n r hr).2⟩, by omega, hv.mono (by decide), fun H4 s4 => q _ (s13.trans s4)⟩
end
end K02

namespace K02
open PySem PySem.Spec PyProof.Rows L2
theorem dV {a b : Int} [Decidable (V.int a = V.int b)] : decide (V.int a = V.int b) = decide (a = b) := decide_eq_decide.mpr ⟨V.int.inj, congrArg _⟩
theorem flat_succ {β : Type} (i : Nat) (f : Nat → List β) : (List.range (i + 1)).flatMap f = (List.range i).flatMap f ++ f i := by
  rw [List.range_succ, List.flatMap_append]
  simp
theorem mapr_succ {β : Type} (i : Nat) (f : Nat → β) : (List.range (i + 1)).map f = (List.range i).map f ++ [f i] := by
  rw [List.range_succ, List.map_append]
  rfl
def teEven (K : PySem.W.Frag) : TE := tOp rEq (tOp (rI (fun _ j => 0 < j) fun i j => .int (i % j)) (tOp (rIxT K) (tOp (rIxT K) (tVar 1) (tVar 2)) (tVar 3)) (tC (.int 2))) (tC (.int 0))
section
variable {P : Program} {w : World} {K : PySem.W.Frag} {mg : Str → Option Value} {base : Heap} {C : Addr}
/-! ### even between -/
def evR (c : List Int) (n r : Nat) (k : Nat) : Bool := decide (ent c n r k % 2 = 0)
def evU (c : List Int) (n i : Nat) : List Bool := (List.range i).flatMap fun r => (List.range r).map fun k => evR c n r k
theorem evU_succ (c : List Int) (n i : Nat) : evU c n (i + 1) = evU c n i ++ (List.range i).map fun k => evR c n i k := flat_succ i _
theorem evU_len (c : List Int) (n : Nat) : ∀ i, i ≤ 5 → (evU c n i).length ≤ 5 * i := by
  intro i
  induction i with
  | zero => intro _; exact Nat.le_refl 0
  | succ i ih =>
    intro h
    have := ih (by omega)
    rw [evU_succ, List.length_append, List.length_map, List.length_range]
    omega
def spEven (C : Addr) : Sp := fun vs H Q _ => ∃ (x : Addr) (n : Nat) (c : List Int), vs = [.ref x] ∧ Fo C H x n c ∧ ∀ H', Same H H' → Q (.bl (evenP c n)) H'
theorem ok_even {f gt pt : Addr} {fd dt : FuncData} (F : Fun K "is_even_between" "Form.is_even_between" sEven f fd) (c0 : Cls K C)
    (T : FnOk P w K mg base CX0 4 gt dt ["self"] (spTab C)) (pT : PropOf K C "table" pt gt) (bT : Binds K dt ["self"] []) (ma : mg "all" = none) (mr : mg "range" = none) (ml : mg "len" = none) : FnOk P w K mg base CX0 6 f fd ["self"] (spEven C) := by
  refine F.ok scEven (fun vs H Q E h => ?_) (fun cdv A outer s H vs Q E hr h => ?_)
  · obtain ⟨x, n, c, rfl, _⟩ := h
    rfl
  · obtain ⟨x, n, c, rfl, fo, q⟩ := h
    have nd := scEven.nd
    refine ⟨_, pss_cons (ps_set (i := 1) nd rfl (.inr rfl) (pe_prop (pv 0) c0 pT T (hr.mono (by decide)) bT .nil pass0 (by rfl)))
      (pss_one (ps_ret (pe_callB (cr_all rfl) (by rfl) ma boot_all (pa_cons (pe_lc2 (own := [("row", 2), ("column", 3)]) (vs1 := [3]) (g := gName 2) (g1 := gName 3) (tt := tYes) (tt1 := tYes) (te := teEven K) rfl nd (pi_range1 rfl mr (pa_cons (pe_callB call_len_seq (by rfl) ml PySem.boot_len (pa_cons (pv 1) pa_nil)) pa_nil))
        (blkOk_by (N := ["self", "table", "row", "column"]) (sc := defScope sEven) (by decide +kernel)) (by decide) (fun _ _ _ _ _ => pg_name (i := 2) nd rfl (.inl rfl)) (fun _ _ _ _ _ => pts_nil)
        (fun _ _ _ _ _ => pi_range1 (by rfl) mr (pa_cons (pv 2) pa_nil)) (fun _ _ _ _ _ => pg_name (i := 3) nd rfl (.inl rfl)) (fun _ _ _ _ _ => pts_nil)
        (fun _ _ _ _ _ => by exact pe_cmpR op_eq (pe_op op_mod (pe_ix ix_tup (pe_ix ix_tup (pv 1) (pv 2) (fun _ _ => rfl)) (pv 3) (fun _ _ => rfl)) pe_int) pe_int (nomark _))) pa_nil)))), ?_⟩
    obtain ⟨dx, a, hx, ha, ok, hB⟩ := id fo
    have n5 := ok.n5
    refine ⟨.ref x, rfl, x, dx, _, rfl, hx, x, n, c, rfl, fo, fun H1 t s1 tb => ?_⟩
    obtain ⟨as, ht, hl, har⟩ := tb
    rw [tab_len] at hl
    have hT : ∀ H', Same H1 H' → SqT K H' t (as.map V.ref) := fun H' s => .inl (.inl (s _ _ ht))
    refine ⟨.ref t, rfl, t, _, rfl, .inr (hT H1 (.refl _)), ((as.map V.ref).length : Nat), rfl, by rw [List.length_map, hl]; omega, by rw [List.length_map, hl]; omega, fun D nD => ?_⟩
    rw [List.length_map, hl, show ((n : Nat) : Int).toNat = n from rfl]
    refine ⟨fun i m H' => m = n - i ∧ i ≤ n ∧ Same H1 H' ∧ H' D = some (.lst ((evU c n i).map V.bl)), ⟨n, rfl, Nat.zero_le _, same_new nD, upd_same⟩, ?_⟩
    rintro i m H2 ⟨rfl, hi, s2, hD⟩
    by_cases hlt : i < n
    · refine .inr ⟨hlt, fun H' => Same H1 H' ∧ H' D = some (.lst ((evU c n (i + 1)).map V.bl)), fun H' p => ⟨n - (i + 1), by omega, rfl, hlt, p.1, p.2⟩, ?_⟩
      rintro v H3 ⟨rfl, rfl⟩
      have e0 : ∀ m : Nat, (0 : Int) + (m : Int) = (m : Int) := fun m => by omega
      refine ⟨rfl, .int (0 + (i : Int)), rfl, _, rfl, by omega, by omega, ?_⟩
      rw [e0, show ((i : Nat) : Int).toNat = i from rfl]
      refine ⟨fun j k H' => k = i - j ∧ j ≤ i ∧ Same H1 H' ∧ H' D = some (.lst ((evU c n i ++ (List.range j).map fun k => evR c n i k).map V.bl)), ⟨i, rfl, Nat.zero_le _, s2, by rw [hD]; simp⟩, ?_⟩
      rintro j k H4 ⟨rfl, hj, s4, hD4⟩
      by_cases hlj : j < i
      · refine .inr ⟨hlj, fun H' => Same H1 H' ∧ H' D = some (.lst ((evU c n i ++ (List.range (j + 1)).map fun k => evR c n i k).map V.bl)), fun H' p => ⟨i - (j + 1), by omega, rfl, hlj, p.1, p.2⟩, ?_⟩
        rintro v H5 ⟨rfl, rfl⟩
        have hai : as[i]? = some as[i] := List.getElem?_eq_getElem (by omega)
        have hro := s4 _ _ (har i _ _ hai (tab_at hlt))
        have at1 : atI (as.map V.ref) (i : Int) = some (.ref as[i]) := by
          exact atI_nat (by rw [List.getElem?_map, hai]; rfl)
        have at2 : atI (iV (rowT c n i)) ((0 : Int) + j) = some (.int (ent c n i j)) := by
          rw [e0]
          exact atI_nat (iV_at (row_at (by omega)))
        refine ⟨rfl, .ref t, rfl, .int (i : Int), rfl, t, _, _, .ref as[i], rfl, rfl, hT _ s4, at1, .int (0 + (j : Int)), rfl, as[i], _, _, _, rfl, rfl, .inl (.inl hro), at2, _, 2, rfl, rfl, (by show (0 : Int) < 2; decide), rfl, ?_⟩
        have := evU_len c n i (by omega)
        refine ⟨_, hD4, ?_, same_at nD s4 (.refl _), ?_⟩
        · rw [List.length_map, List.length_append, List.length_map, List.length_range, sizeLine_eq]; omega
        · rw [upd_same, mapr_succ, ← List.append_assoc, List.map_append (l₂ := [_])]
          have e9 : evR c n i j = decide (V.int (ent c n i j % 2) = V.int 0) := dV.symm
          rw [e9]
          rfl
      · have : j = i := by omega
        subst this
        exact .inl ⟨Nat.le_refl _, s4, by rw [hD4, evU_succ]⟩
    · have : i = n := by omega
      subst this
      exact .inl ⟨Nat.le_refl _, D, evU c i i, rfl, .inl (.inl hD), q _ (s1.trans s2)⟩
end
end K02

namespace K02
open PySem PySem.Spec PyProof.Rows L2
/-- a jar at c -/
def WB (H : Hp) (c : Addr) (B : Nat) : Prop := ∃ a b n : Int, H c = some (.lst [.int a, .int b, .int n]) ∧ 0 ≤ a ∧ 0 ≤ b ∧ b < 2 ^ 40 ∧ 0 ≤ n ∧ n < B
/-- all but c stands -/
def But (c : Addr) (H H' : Hp) : Prop := ∀ b o, b ≠ c → H b = some o → H' b = some o
theorem But.refl {c : Addr} {H : Hp} : But c H H := fun _ _ _ e => e
theorem But.trans {c : Addr} {H H1 H2 : Hp} (h : But c H H1) (h' : But c H1 H2) : But c H H2 := fun b o n e => h' b o n (h b o n e)
theorem But.same {c : Addr} {H H1 : Hp} (h : Same H H1) : But c H H1 := fun b o _ e => h b o e
theorem But.put {c : Addr} {H : Hp} {o : HO} : But c H (upd H c o) := fun b x n e => (upd_ne n).trans e
theorem But.new {c p : Addr} {H : Hp} {o : HO} (h : H p = none) : But c H (upd H p o) := But.same (same_new h)
theorem WB.mono {H : Hp} {c : Addr} {B B' : Nat} (h : WB H c B) (l : B ≤ B') : WB H c B' := by
  obtain ⟨a, b, n, e, h1, h2, h3, h4, h5⟩ := h
  exact ⟨a, b, n, e, h1, h2, h3, h4, by omega⟩
theorem WB.same {H H' : Hp} {c : Addr} {B : Nat} (h : WB H c B) (s : Same H H') : WB H' c B := by
  obtain ⟨a, b, n, e, r⟩ := h
  exact ⟨a, b, n, s _ _ e, r⟩
theorem WB.at {H : Hp} {c : Addr} {B : Nat} (h : WB H c B) : ∃ a b n : Int, H c = some (.lst [.int a, .int b, .int n]) := by
  obtain ⟨a, b, n, e, _⟩ := h
  exact ⟨a, b, n, e⟩
theorem WB.ne {H : Hp} {c p : Addr} {B : Nat} (h : WB H c B) (n : H p = none) : p ≠ c := by
  obtain ⟨_, _, _, e⟩ := h.at
  intro z
  rw [z, e] at n
  cases n
theorem WB.ne_tup {H : Hp} {c p : Addr} {B : Nat} {xs : List V} (h : WB H c B) (n : H p = some (.tup xs)) : p ≠ c := by
  obtain ⟨_, _, _, e⟩ := h.at
  intro z
  rw [z, e] at n
  cases n
theorem WB.ne_ins {H : Hp} {c p C dx : Addr} {B : Nat} {fs : List (Str × V)} (h : WB H c B) (n : H p = some (.ins C dx fs)) : p ≠ c := by
  obtain ⟨_, _, _, e⟩ := h.at
  intro z
  rw [z, e] at n
  cases n
theorem WB.ne_refs {H : Hp} {c p : Addr} {B : Nat} {as : List Addr} (h : WB H c B) (n : H p = some (.lst (as.map V.ref))) : p ≠ c := by
  obtain ⟨_, _, _, e⟩ := h.at
  intro z
  rw [z, e] at n
  cases as with
  | nil => cases n
  | cons _ _ => cases n
theorem But.tup {H H' : Hp} {c p : Addr} {B : Nat} {xs : List V} (b : But c H H') (h : WB H c B) (n : H p = some (.tup xs)) : H' p = some (.tup xs) := b _ _ (h.ne_tup n) n
/-- tuples of integers at as -/
def At (H : Hp) (as : List Addr) (T : List (List Int)) : Prop := as.length = T.length ∧ ∀ (i : Nat) (a : Addr) (r : List Int), as[i]? = some a → T[i]? = some r → H a = some (.tup (iV r))
def LTab (H : Hp) (p : Addr) (T : List (List Int)) : Prop := ∃ as : List Addr, H p = some (.lst (as.map V.ref)) ∧ At H as T
theorem At.same {H H' : Hp} {as : List Addr} {T : List (List Int)} (h : At H as T) (s : Same H H') : At H' as T := ⟨h.1, fun i a r e1 e2 => s _ _ (h.2 i a r e1 e2)⟩
theorem At.but {H H' : Hp} {c : Addr} {B : Nat} {as : List Addr} {T : List (List Int)} (h : At H as T) (wb : WB H c B) (s : But c H H') : At H' as T := ⟨h.1, fun i a r e1 e2 => s.tup wb (h.2 i a r e1 e2)⟩
theorem At.app {H : Hp} {as bs : List Addr} {T U : List (List Int)} (h : At H as T) (h' : At H bs U) : At H (as ++ bs) (T ++ U) := by
  refine ⟨by rw [List.length_append, List.length_append, h.1, h'.1], fun i a r e1 e2 => ?_⟩
  by_cases c : i < as.length
  · rw [List.getElem?_append_left c] at e1
    rw [List.getElem?_append_left (by rw [← h.1]; exact c)] at e2
    exact h.2 i a r e1 e2
  · rw [List.getElem?_append_right (by omega)] at e1
    rw [List.getElem?_append_right (by rw [← h.1]; omega), ← h.1] at e2
    exact h'.2 _ a r e1 e2
theorem LTab.same {H H' : Hp} {p : Addr} {T : List (List Int)} (h : LTab H p T) (s : Same H H') : LTab H' p T := by
  obtain ⟨as, h1, h2⟩ := h
  exact ⟨as, s _ _ h1, h2.same s⟩
theorem LTab.but {H H' : Hp} {p c : Addr} {B : Nat} {T : List (List Int)} (h : LTab H p T) (wb : WB H c B) (s : But c H H') : LTab H' p T := by
  obtain ⟨as, h1, h2⟩ := h
  exact ⟨as, s _ _ (wb.ne_refs h1) h1, h2.but wb s⟩
theorem Tab.but {H H' : Hp} {p c : Addr} {B : Nat} {T : List (List Int)} (h : Tab H p T) (wb : WB H c B) (s : But c H H') : Tab H' p T := by
  obtain ⟨as, h1, h2, h3⟩ := h
  exact ⟨as, s.tup wb h1, h2, fun i a r e1 e2 => s.tup wb (h3 i a r e1 e2)⟩
theorem Fo.but {C : Addr} {H H' : Hp} {x c : Addr} {B n : Nat} {cs : List Int} (h : Fo C H x n cs) (wb : WB H c B) (s : But c H H') : Fo C H' x n cs := by
  obtain ⟨dx, a, h1, h2, h3⟩ := h
  exact ⟨dx, a, s _ _ (wb.ne_ins h1) h1, s.tup wb h2, h3⟩
section
variable {P : Program} {w : World} {K : PySem.W.Frag} {mg : Str → Option Value} {base : Heap} {C : Addr}
def spJar (K : PySem.W.Frag) : Sp := fun vs H Q _ => ∃ (a : Addr) (ns : List Int) (i : Nat), vs = [.ref a, .int i] ∧ SqL K H a (ns.map V.int) ∧ i ≤ 5 ∧ ns.length ≤ 63 ∧ ∀ H' c, Same H H' → H c = none → WB H' c 1 → Q (.ref c) H'
theorem cut5 (ns : List Int) : cutV (ns.map V.int) none (some 5) = (ns.take 5).map V.int := by
  unfold cutV
  rw [show HT.sIx (ns.map V.int).length 0 none = 0 from HT.sIx_none _ _, List.drop_zero, Nat.sub_zero, show HT.sIx (ns.map V.int).length (ns.map V.int).length (some 5) = min 5 (ns.map V.int).length from HT.sIx_nat _ _ 5, List.map_take]
  by_cases h : 5 ≤ (ns.map V.int).length
  · rw [Nat.min_eq_left h]
  · rw [Nat.min_eq_right (by omega), List.take_of_length_le Nat.le.refl, List.take_of_length_le (show _ ≤ 5 by omega)]
theorem l3 : 3 ≤ sizeLine := by decide
theorem l2 : 2 ≤ sizeLine := by decide
theorem l1 : 1 ≤ sizeLine := by decide
theorem l0 : 0 ≤ sizeLine := by decide
theorem ok_jar {f : Addr} {fd : FuncData} (F : Fun K "_law_jar" "_law_jar" sJar f fd) (mi : mg "int" = none) (ml : mg "len" = none) (ma : mg "abs" = none) : FnOk P w K mg base CX0 1 f fd ["_law_cells", "_law_turn"] (spJar K) := by
  refine F.ok scJar (fun vs H Q E h => ?_) (fun cdv A outer s H vs Q E hr h => ?_)
  · obtain ⟨a, ns, i, rfl, _⟩ := h
    rfl
  · obtain ⟨a, ns, i, rfl, hS, hi, hl, q⟩ := h
    have nd := scJar.nd
    have md : (0 : Int) < 2147482709 := by decide
    obtain ⟨tR, hR, qR⟩ : ∃ t, PSs (cxOf CX0 P w K mg base ["_law_cells", "_law_turn", "_law_cell", "_law_mixed", "_law_each"] "_law_jar" (defScope sJar) f cdv A outer s H E).nox ((defBody sJar).drop 1) t ∧
        ∀ (own : Int) (x3 x4 : Option V), t { nx := fun _ H' => Q .non H', rt := Q } [some (.ref a), some (.int i), some (.int own), x3, x4] H := by
      refine ⟨_, pss_cons (ps_set (i := 3) nd rfl (.inl rfl) (pe_op op_add pe_int (pe_op op_mul pe_int (pv 1))))
        (pss_cons (ps_for PassesOwn.never rfl (pi_list (pe_op op_cat (pe_slice sl_list (pv 0) po_none (po_some pe_int)) (pe_lst (pa_cons (pv 2) pa_nil)))) (pg_name (i := 4) nd rfl (.inl rfl))
          (pss_one (ps_set (i := 3) nd rfl (.inl rfl) (pe_op op_mod (pe_callTy call_int1 (by rfl) mi boot_int (pa_cons (pe_op op_add (pe_op op_mul (pv 3) pe_int) (pv 4)) pa_nil)) pe_int))))
        (pss_one (ps_ret (pe_lst (pa_cons (pe_ifExp (PW.pt (pw_or (pt_cmpR op_lt (pv 2) pe_int (nomark _)) (pw_or1 (pt_cmpR op_ge (pv 2) (pe_op op_pow pe_int pe_int) (nomark _))))) (pe_callB call_abs (by rfl) ma boot_abs (pa_cons (pv 2) pa_nil)) pe_int) (pa_cons (pv 3) (pa_cons pe_int pa_nil))))))), ?_⟩
      intro own x3 x4
      refine ⟨.int i, rfl, 9011, i, rfl, rfl, .inl ⟨by decide, by decide⟩, 40009, _, rfl, rfl, .ref a, rfl, 5, rfl, a, _, rfl, hS, fun l nl => ⟨.int own, rfl, l1, fun l' nl' => ?_⟩⟩
      have sm := (same_new (o := .lst (cutV (ns.map V.int) none (some 5))) nl).trans (same_new (o := .lst [.int own]) nl')
      have hL : (upd (upd H l (.lst (cutV (ns.map V.int) none (some 5)))) l' (.lst [.int own])) l = some (.lst (cutV (ns.map V.int) none (some 5))) := same_new nl' _ _ upd_same
      have hL' : (upd (upd H l (.lst (cutV (ns.map V.int) none (some 5)))) l' (.lst [.int own])) l' = some (.lst [.int own]) := upd_same
      generalize upd (upd H l (.lst (cutV (ns.map V.int) none (some 5)))) l' (.lst [.int own]) = H2 at *
      have ll : (cutV (ns.map V.int) none (some 5)).length ≤ 63 := Nat.le_trans (cutV_length _ _ _) (by rw [List.length_map]; exact hl)
      refine ⟨l, l', _, _, rfl, rfl, hL, hL', by rw [sizeLine_eq]; show _ + 1 ≤ _; omega, fun p np => ?_⟩
      have e5 : cutV (ns.map V.int) none (some 5) ++ [V.int own] = (ns.take 5 ++ [own]).map V.int := by rw [cut5, List.map_append]; rfl
      rw [e5]
      have sm2 := sm.trans (same_new (o := .lst ((ns.take 5 ++ [own]).map V.int)) np)
      have hP : SqL K (upd H2 p (.lst ((ns.take 5 ++ [own]).map V.int))) p ((ns.take 5 ++ [own]).map V.int) := .inl (.inl upd_same)
      generalize upd H2 p (.lst ((ns.take 5 ++ [own]).map V.int)) = H3 at *
      refine ⟨p, rfl, ⟨_, hP⟩, for_list (xs := (ns.take 5 ++ [own]).map V.int) (fun j σ H' => H' = H3 ∧ ∃ (mx : Int) (x4 : Option V), σ = [some (.ref a), some (.int i), some (.int own), some (.int mx), x4] ∧ 0 ≤ mx ∧ mx < 2 ^ 40)
        ⟨rfl, 40009 + 9011 * i, x4, rfl, by omega, by have : (2 : Int) ^ 40 = 1099511627776 := by decide
                                                      omega⟩ (fun j σ H' _ hP' => hP'.1 ▸ hP) ?_ ?_⟩
      · rintro j x σ H' hx ⟨rfl, mx, x3, rfl, m0, m1⟩
        rw [List.getElem?_map] at hx
        obtain ⟨v, hv, rfl⟩ := Option.map_eq_some_iff.mp hx
        refine ⟨.int mx, rfl, mx, 24007, rfl, rfl, .inr ⟨by decide, by decide⟩, .int v, rfl, _, v, rfl, rfl, .inl ⟨_, rfl, _, 2147482709, rfl, rfl, md, rfl, _, some (.int v), rfl, Int.emod_nonneg _ (by decide), ?_⟩⟩
        have := Int.emod_lt_of_pos (mx * 24007 + v) md
        have e40 : (2 : Int) ^ 40 = 1099511627776 := by decide
        rw [e40]
        omega
      · rintro σ H' ⟨rfl, mx, x3, rfl, m0, m1⟩
        have ab : 0 ≤ (if own < 0 then -own else own) := by split <;> omega
        have fin : ∀ v : Int, 0 ≤ v → ∀ c, H' c = none → Q (.ref c) (upd H' c (.lst [.int v, .int mx, .int 0])) := fun v v0 c nc => q _ c (sm2.trans (same_new nc)) (sm2.free nc) ⟨_, _, 0, upd_same, v0, m0, m1, by decide, by decide⟩
        refine ⟨.int own, rfl, own, 0, rfl, rfl, _, rfl, ite2 (fun _ => ?_) (fun _ => ?_)⟩
        · exact iteT ⟨.int own, rfl, own, rfl, .int mx, rfl, l3, fin _ ab⟩
        · refine ⟨.int own, rfl, 10, 18, rfl, rfl, ⟨by decide, by decide, by decide⟩, own, _, rfl, rfl, _, rfl, ite2 (fun _ => ⟨.int own, rfl, own, rfl, .int mx, rfl, l3, fin _ ab⟩) (fun _ => ⟨.int mx, rfl, l3, fin _ (Int.le_refl 0)⟩)⟩
    refine ⟨_, pss_cons (ps_set (i := 2) nd rfl (.inl rfl) (pe_ifExp (pt_cmpR op_lt (pv 1) (pe_callB call_len_seq (by rfl) ml PySem.boot_len (pa_cons (pv 0) pa_nil)) (nomark _)) (pe_ix ix_list (pv 0) (pv 1) (fun _ _ => rfl)) (pe_op op_add (pe_op op_mul pe_int (pv 1)) pe_int))) hR, ?_⟩
    refine ⟨.int i, rfl, .ref a, rfl, a, _, rfl, .inl hS, i, _, rfl, rfl, _, rfl, ite2 (fun z => ?_) (fun z => ?_)⟩
    · have hlt : (i : Int) < ((ns.map V.int).length : Nat) := of_decide_eq_true z
      have hlt2 : i < ns.length := by rw [List.length_map] at hlt; omega
      refine ⟨.ref a, rfl, .int i, rfl, a, _, i, .int ns[i], rfl, rfl, hS, atI_nat ?_, qR _ _ _⟩
      rw [List.getElem?_map, List.getElem?_eq_getElem hlt2]
      rfl
    · exact ⟨.int i, rfl, 53, i, rfl, rfl, .inl ⟨by decide, by decide⟩, _, 8, rfl, rfl, qR _ _ _⟩
def spDip : Sp := fun vs H Q _ => ∃ (c : Addr) (m : Int) (B : Nat), vs = [.ref c, .int m] ∧ 0 < m ∧ m < 2 ^ 60 ∧ WB H c B ∧ B ≤ 1000000 ∧ ∀ H' r, 0 ≤ r → r < m → But c H H' → WB H' c (B + 1) → Q (.int r) H'
theorem cdivp {i m : Int} (m0 : 0 < m) (mb : m < 2 ^ 60) : CDivP i m := by
  refine ⟨m0, PyProof.noPylong_of_log2 ?_⟩
  have e60 : (2 : Int) ^ 60 = 1152921504606846976 := by decide
  rw [e60] at mb
  have h0 : m.natAbs ≠ 0 := by omega
  have : m.natAbs.log2 < 60 := (Nat.log2_lt h0).mpr (by show m.natAbs < 1152921504606846976; omega)
  omega
theorem ok_dip {f : Addr} {fd : FuncData} (F : Fun K "_law_dip" "_law_dip" sDip f fd) (mi : mg "int" = none) (md : mg "divmod" = none) : FnOk P w K mg base CX0 1 f fd ["_law_jar_here", "_law_top"] spDip := by
  refine F.ok scDip (fun vs H Q E h => ?_) (fun cdv A outer s H vs Q E hr h => ?_)
  · obtain ⟨c, m, B, rfl, _⟩ := h
    rfl
  · obtain ⟨c, m, B, rfl, m0, mb, ⟨a, b, n, hc, a0, b0, b1, n0, n1⟩, hB, q⟩ := h
    have nd := scDip.nd
    refine ⟨_, pss_cons (ps_asg (pe_op op_add (pe_ix ix_list (pv 0) pe_int (fun _ _ => rfl)) pe_int) (pg_sub (pv 0) pe_int set_list))
      (pss_cons (ps_if (pt_cmpR op_gt (pe_ix ix_list (pv 0) pe_int (fun _ _ => rfl)) pe_int (nomark _))
        (pss_cons (ps_asg (pe_callB call_divmodW (by rfl) md boot_divmod (pa_cons (pe_ix ix_list (pv 0) pe_int (fun _ _ => rfl)) (pa_cons (pv 1) pa_nil)))
            (pg_tup rfl (pgs_cons (pg_sub (pv 0) pe_int set_list) (pgs_cons (pg_name (i := 2) nd rfl (.inl rfl)) pgs_nil))))
        (pss_one (ps_ret (pv 2)))) pss_nil)
      (pss_cons (ps_asg (pe_op op_mod (pe_callTy call_int1 (by rfl) mi boot_int (pa_cons (pe_op op_add (pe_op op_mul (pe_ix ix_list (pv 0) pe_int (fun _ _ => rfl)) pe_int)
          (pe_op op_mul pe_int (pe_ix ix_list (pv 0) pe_int (fun _ _ => rfl)))) pa_nil)) pe_int) (pg_sub (pv 0) pe_int set_list))
      (pss_one (ps_ret (pe_op op_mod (pe_callTy call_int1 (by rfl) mi boot_int (pa_cons (pe_op op_fdiv (pe_ix ix_list (pv 0) pe_int (fun _ _ => rfl)) pe_int) pa_nil)) (pv 1)))))), ?_⟩
    have q1 : SqL K H c [.int a, .int b, .int n] := .inl (.inl hc)
    refine ⟨.ref c, rfl, c, _, 2, .int n, rfl, rfl, q1, rfl, n, 1, rfl, rfl, .ref c, rfl, c, [.int a, .int b, .int n], 2, 2, rfl, rfl, hc, rfl, ?_⟩
    have q2 : SqL K (upd H c (.lst [.int a, .int b, .int (n + 1)])) c [.int a, .int b, .int (n + 1)] := .inl (.inl upd_same)
    refine ⟨.ref c, rfl, c, _, 0, .int a, rfl, rfl, q2, rfl, a, 0, rfl, rfl, _, rfl, ite2 (fun z => ?_) (fun z => ?_)⟩
    · refine ⟨.ref c, rfl, c, _, 0, .int a, rfl, rfl, q2, rfl, .int m, rfl, a, m, rfl, cdivp m0 mb, fun p np => ?_⟩
      have pc : c ≠ p := ne_of_none upd_same np
      refine ⟨p, _, rfl, .inl (.inl upd_same), rfl, _, _, rfl, .ref c, rfl, c, [.int a, .int b, .int (n + 1)], 0, 0, rfl, rfl, (upd_ne pc).trans upd_same, rfl, _, _, rfl, rfl, ?_⟩
      refine ⟨.int (a % m), rfl, q _ _ (Int.emod_nonneg _ (by omega)) (Int.emod_lt_of_pos _ m0) (But.put.trans ((But.new np).trans But.put)) ⟨a / m, b, n + 1, upd_same, Int.ediv_nonneg a0 (by omega), b0, b1, by omega, by omega⟩⟩
    · refine ⟨.ref c, rfl, c, _, 1, .int b, rfl, rfl, q2, rfl, b, 48271, rfl, rfl, .inr ⟨by decide, by decide⟩, ?_⟩
      refine ⟨.ref c, rfl, c, _, 2, .int (n + 1), rfl, rfl, q2, rfl, 30029, n + 1, rfl, rfl, .inl ⟨by decide, by decide⟩, _, _, rfl, rfl, .inl ⟨_, rfl, _, 2147483399, rfl, rfl, (by show (0 : Int) < 2147483399; decide), ?_⟩⟩
      generalize b * 48271 + 30029 * (n + 1) = y
      have y0 : 0 ≤ y % 2147483399 := Int.emod_nonneg _ (by decide)
      have y1 : y % 2147483399 < 2147483399 := Int.emod_lt_of_pos _ (by decide)
      refine ⟨.ref c, rfl, c, [.int a, .int b, .int (n + 1)], 1, 1, rfl, rfl, upd_same, rfl, ?_⟩
      have e40 : (2 : Int) ^ 40 = 1099511627776 := by decide
      refine ⟨.ref c, rfl, c, [.int a, .int (y % 2147483399), .int (n + 1)], 1, .int (y % 2147483399), rfl, rfl, .inl (.inl upd_same), rfl, _, 512, rfl, rfl, ⟨by decide, by decide⟩, .inl ⟨_, rfl, .int m, rfl, _, m, rfl, rfl, m0, ?_⟩⟩
      exact q _ _ (Int.emod_nonneg _ (by omega)) (Int.emod_lt_of_pos _ m0) (But.put.trans But.put) ⟨a, y % 2147483399, n + 1, upd_same, a0, y0, by rw [e40]; omega, by omega, by omega⟩
def spOneOf : Sp := fun vs H Q _ => ∃ (c l : Addr) (xs : List Int) (B : Nat), vs = [.ref c, .ref l] ∧ H l = some (.lst (iV xs)) ∧ l ≠ c ∧ 0 < xs.length ∧ xs.length ≤ 100 ∧ WB H c B ∧ B ≤ 1000000 ∧ ∀ H' v, v ∈ xs → But c H H' → WB H' c (B + 1) → Q (.int v) H'
theorem ok_oneOf {f g : Addr} {fd gd : FuncData} (F : Fun K "_law_one_of" "_law_one_of" sOneOf f fd) (G : FnOk P w K mg base CX0 1 g gd ["_law_jar_here", "_law_top"] spDip) (mG : mg "_law_dip" = some (.ref g)) (kG : PySem.W.keepIn K (.ref g) = true) (bG : Binds K gd ["_law_jar_here", "_law_top"] []) (ml : mg "len" = none) : FnOk P w K mg base CX0 2 f fd ["_law_jar_here", "_law_some"] spOneOf := by
  refine F.ok scOneOf (fun vs H Q E h => ?_) (fun cdv A outer s H vs Q E hr h => ?_)
  · obtain ⟨c, l, xs, B, rfl, _⟩ := h
    rfl
  · obtain ⟨c, l, xs, B, rfl, hl, lc, x0, x1, wb, hB, q⟩ := h
    refine ⟨_, pss_one (ps_ret (pe_ix ix_list (pv 1) (pe_call G hr (by rfl) mG kG bG .nil pass0 (pa_cons (pv 0) (pa_cons (pe_callB call_len_seq (by rfl) ml PySem.boot_len (pa_cons (pv 1) pa_nil)) pa_nil))) (fun _ _ => rfl))), ?_⟩
    have e60 : (2 : Int) ^ 60 = 1152921504606846976 := by decide
    refine ⟨.ref l, rfl, .ref c, rfl, .ref l, rfl, l, _, rfl, .inl (.inl (.inl hl)), c, _, B, rfl, by rw [iV_len]; omega, by rw [iV_len, e60]; omega, wb, hB, fun H1 r r0 r1 bt wb1 => ?_⟩
    rw [iV_len] at r1
    have hr1 : xs[r.toNat]? = some xs[r.toNat] := List.getElem?_eq_getElem (by omega)
    refine ⟨l, iV xs, r, .int xs[r.toNat], rfl, rfl, .inl (.inl (bt _ _ lc hl)), ?_, q _ _ (List.mem_of_getElem? hr1) bt wb1⟩
    have z := atI_nat (iV_at hr1)
    rw [show ((r.toNat : Nat) : Int) = r by omega] at z
    exact z
def spGcd : Sp := fun vs H Q _ => ∃ a b : Int, vs = [.int a, .int b] ∧ ∀ H', Same H H' → Q (.int (Int.gcd a b : Nat)) H'
theorem ok_gcd {f : Addr} {fd : FuncData} (F : Fun K "_law_gcd" "_law_gcd" sGcd f fd) (mi : mg "int" = none) (ma : mg "abs" = none) : FnOk P w K mg base CX0 1 f fd ["_law_one", "_law_two"] spGcd := by
  refine F.ok scGcd (fun vs H Q E h => ?_) (fun cdv A outer s H vs Q E hr h => ?_)
  · obtain ⟨a, b, rfl, _⟩ := h
    rfl
  · obtain ⟨a, b, rfl, q⟩ := h
    have nd := scGcd.nd
    refine ⟨_, pss_cons (ps_par (i := 0) (j := 1) rfl nd rfl rfl (by decide) rfl rfl (pa_cons (pe_callB call_abs (by rfl) ma boot_abs (pa_cons (pv 0) pa_nil)) (pa_cons (pe_callB call_abs (by rfl) ma boot_abs (pa_cons (pv 1) pa_nil)) pa_nil)) (by rfl))
      (pss_cons (ps_while PassesOwn.never (pt_cmpR op_gt (pv 1) pe_int (nomark _)) (pss_one (ps_par (i := 0) (j := 1) rfl nd rfl rfl (by decide) rfl rfl (pa_cons (pv 1) (pa_cons (pe_op op_mod (pe_callTy call_int1 (by rfl) mi boot_int (pa_cons (pv 0) pa_nil)) (pv 1)) pa_nil)) (by rfl))))
      (pss_one (ps_ret (pv 0)))), ?_⟩
    have ab : ∀ x : Int, (if x < 0 then -x else x) = ((x.natAbs : Nat) : Int) := fun x => by split <;> omega
    refine ⟨.int a, rfl, a, rfl, .int b, rfl, b, rfl, ?_⟩
    rw [ab, ab]
    refine ⟨_, _, rfl, ?_⟩
    refine ⟨fun m σ H' => H' = H ∧ ∃ x y : Nat, σ = [some (.int x), some (.int y)] ∧ Nat.gcd x y = Int.gcd a b ∧ m = y, ⟨_, rfl, a.natAbs, b.natAbs, rfl, rfl, rfl⟩, fun m σ H' hW => ?_⟩
    obtain ⟨rfl, x, y, rfl, hg, hm⟩ := hW
    refine ⟨.int y, rfl, y, 0, rfl, rfl, _, rfl, ite2 (fun z => ?_) (fun z => ?_)⟩
    · have y0 : (0 : Int) < y := of_decide_eq_true z
      have y0' : 0 < y := by omega
      refine ⟨fun σ H'' => H'' = H' ∧ σ = [some (.int y), some (.int ((x % y : Nat) : Int))], ?_, ?_⟩
      · rintro σ' H'' ⟨rfl, rfl⟩
        refine ⟨x % y, by rw [hm]; exact Nat.mod_lt _ y0', rfl, y, x % y, rfl, ?_, rfl⟩
        rw [← hg, Nat.gcd_comm x y, Nat.gcd_rec y x, Nat.gcd_comm]
      · exact ⟨.int y, rfl, .int x, rfl, .inl ⟨_, rfl, .int y, rfl, x, y, rfl, rfl, y0, _, _, rfl, rfl, rfl⟩⟩
    · have y0 : y = 0 := by
        have : ¬ (0 : Int) < y := fun h => z (decide_eq_true h)
        omega
      subst y0
      refine ⟨.int x, rfl, ?_⟩
      rw [Nat.gcd_zero_right] at hg
      rw [hg]
      exact q _ (.refl _)
end
end K02

namespace K02
open PySem PySem.Spec PyProof.Rows L2
theorem GrT.at {H1 H' : Hp} {D : Addr} {T : List (List Int)} {n : Nat} (g : GrT H1 D T n H') (h : n = T.length) : ∃ as : List Addr, H' D = some (.lst (as.map V.ref)) ∧ At H' as T := by
  obtain ⟨s, as, e, hD, ha⟩ := g
  exact ⟨as, hD, e.trans h, ha⟩
/-- the pairs of a row, of the rows below i -/
def prR (n r : Nat) : List (List Int) := ((List.range n).drop r).map fun k : Nat => [((r : Nat) : Int), ((k : Nat) : Int)]
def prU (n i : Nat) : List (List Int) := (List.range i).flatMap fun r => prR n r
theorem prU_eq (n : Nat) : prU n n = (places n).map fun p : Nat × Nat => [((p.1 : Nat) : Int), ((p.2 : Nat) : Int)] := by
  unfold prU places prR
  rw [List.map_flatMap]
  congr 1
  funext r
  rw [List.map_map]
  rfl
theorem prU_len : ∀ n : Nat, n < 6 → ∀ i : Nat, i < 6 → (prU n i).length < 40 := by decide +kernel
theorem prR_at {n r j : Nat} (h : r + j < n) : (prR n r)[j]? = some [(r : Int), ((r + j : Nat) : Int)] := by
  unfold prR
  rw [List.getElem?_map, List.getElem?_drop, List.getElem?_range h]
  rfl
theorem prR_len (n r : Nat) : (prR n r).length = n - r := by unfold prR; rw [List.length_map, List.length_drop, List.length_range]
theorem big60 : (2 : Int) ^ 60 = 1152921504606846976 := by decide
def cutIn (xs : List Int) (B : Int) : Prop := In B xs
theorem In.nil (B : Int) : In B [] := fun x hx => by cases hx
theorem In.snoc {B : Int} {xs : List Int} {v : Int} (h : In B xs) (h1 : -B ≤ v) (h2 : v ≤ B) : In B (xs ++ [v]) := by
  intro x hx
  rcases List.mem_append.mp hx with h' | h'
  · exact h x h'
  · rw [List.mem_singleton.mp h']; exact ⟨h1, h2⟩
section
variable {P : Program} {w : World} {K : PySem.W.Frag} {mg : Str → Option Value} {base : Heap} {C : Addr}
def spPlaces : Sp := fun vs H Q _ => ∃ n : Nat, vs = [.int n] ∧ n ≤ 5 ∧ ∀ H' l, Same H H' → LTab H' l (prU n n) → Q (.ref l) H'
theorem ok_places {f : Addr} {fd : FuncData} (F : Fun K "_law_places" "_law_places" sPlaces f fd) (mr : mg "range" = none) : FnOk P w K mg base CX0 1 f fd ["_law_size_here"] spPlaces := by
  refine F.ok scPlaces (fun vs H Q E h => ?_) (fun cdv A outer s H vs Q E hr h => ?_)
  · obtain ⟨n, rfl, _⟩ := h
    rfl
  · obtain ⟨n, rfl, n5, q⟩ := h
    have nd := scPlaces.nd
    refine ⟨_, pss_cons (ps_set (i := 1) nd rfl (.inl rfl) (pe_lst pa_nil))
      (pss_cons (ps_for PassesOwn.never rfl (pi_range1 rfl mr (pa_cons (pv 0) pa_nil)) (pg_name (i := 2) nd rfl (.inr rfl))
        (pss_one (ps_set (i := 1) nd rfl (.inl rfl) (pe_op op_cat (pv 1) (pe_lc (own := [("_law_column", 3)]) (g := gName 3) (tt := tYes) rfl nd (pi_range2 rfl mr (pa_cons (pv 2) (pa_cons (pv 0) pa_nil)))
          (blkOk_by (N := ["_law_size_here", "_law_found", "_law_row", "_law_column"]) (sc := defScope sPlaces) (by decide +kernel)) (fun _ _ _ _ _ => pg_name (i := 3) nd rfl (.inl rfl)) (fun _ _ _ _ _ => pts_nil)
          (fun _ _ _ _ _ => pe_tup (pa_cons (pv 2) (pa_cons (pv 3) pa_nil))))))))
      (pss_one (ps_ret (pv 1)))), ?_⟩
    refine ⟨l0, fun l nl => ?_⟩
    refine ⟨.int n, rfl, n, rfl, by omega, by omega, for_range (n := ((n : Int).toNat)) (fun i σ H' => Same H H' ∧ ∃ l x2 x3, σ = [some (.int n), some (.ref l), x2, x3] ∧ LTab H' l (prU n i)) ⟨same_new nl, l, _, _, rfl, [], upd_same, rfl, fun i a r e => by cases e⟩ ?_ ?_⟩
    · rintro i σ H1 hi ⟨sm, l, x2, x3, rfl, as, hl, hat⟩
      have i6 : i < n := by simpa using hi
      refine ⟨.ref l, rfl, .int (0 + (i : Int)), rfl, .int n, rfl, _, _, rfl, ⟨by omega, by omega, by omega, by omega⟩, fun D nD => lc_range (lo := 0 + (i : Int)) (n := ((n : Int) - (0 + (i : Int))).toNat) (fun j H' => GrT H1 D (prR n i) j H') (GrT.init nD) ?_ ?_⟩
      · intro j H2 hj g
        have jn : i + j < n := by omega
        refine ⟨rfl, .int (0 + (i : Int)), rfl, .int (0 + (i : Int) + (j : Int)), rfl, l2, fun p np => ?_⟩
        refine g.step nD (same_new np) (r := [(i : Int), ((i + j : Nat) : Int)]) ?_ (prR_at jn) (by rw [prR_len]; omega)
        rw [upd_same]
        have e1 : (0 : Int) + (i : Int) = (i : Int) := by omega
        have e2 : (i : Int) + (j : Int) = ((i + j : Nat) : Int) := by omega
        show some (HO.tup [V.int (0 + (i : Int)), V.int (0 + (i : Int) + (j : Int))]) = _
        rw [e1, e2]
        rfl
      · intro H2 g
        obtain ⟨bs, hD, hbt⟩ := g.at (by rw [prR_len]; omega)
        have := prU_len n (by omega) i (by omega)
        refine ⟨l, D, _, _, rfl, rfl, g.s _ _ hl, hD, by rw [List.length_map, List.length_map, hat.1, hbt.1, prR_len, sizeLine_eq]; omega, fun p np => ?_⟩
        refine ⟨sm.trans (g.s.trans (same_new np)), p, _, _, rfl, as ++ bs, by rw [upd_same, List.map_append], ?_⟩
        have := ((hat.same g.s).app hbt).same (same_new (o := .lst (as.map V.ref ++ bs.map V.ref)) np)
        rw [show prU n (i + 1) = prU n i ++ prR n i from flat_succ i _]
        exact this
    · rintro σ H1 ⟨sm, l, x2, x3, rfl, lt⟩
      exact ⟨.ref l, rfl, q _ l sm lt⟩
def spAny : Sp := fun vs H Q _ => ∃ (c : Addr) (n : Nat) (most : Int) (B : Nat), vs = [.ref c, .int n, .int most] ∧ n ≤ 5 ∧ 0 ≤ most ∧ most ≤ 10 ^ 12 ∧ WB H c B ∧ B + 100 ≤ 1000000 ∧ ∀ H' a cs, But c H H' → WB H' c (B + 40) → H' a = some (.tup (iV cs)) → cs.length = sz n → In most cs → Q (.ref a) H'
theorem ok_any {f g1 g2 : Addr} {fd d1 d2 : FuncData} (F : Fun K "_law_any" "_law_any" sAny f fd) (G1 : FnOk P w K mg base CX0 1 g1 d1 ["_law_jar_here", "_law_top"] spDip) (m1 : mg "_law_dip" = some (.ref g1)) (k1 : PySem.W.keepIn K (.ref g1) = true) (b1 : Binds K d1 ["_law_jar_here", "_law_top"] [])
    (G2 : FnOk P w K mg base CX0 1 g2 d2 ["_law_size_here"] spPlaces) (m2 : mg "_law_places" = some (.ref g2)) (k2 : PySem.W.keepIn K (.ref g2) = true) (b2 : Binds K d2 ["_law_size_here"] []) (mt : mg "tuple" = none) : FnOk P w K mg base CX0 2 f fd ["_law_jar_here", "_law_size_here", "_law_most"] spAny := by
  refine F.ok scAny (fun vs H Q E h => ?_) (fun cdv A outer s H vs Q E hr h => ?_)
  · obtain ⟨c, n, most, B, rfl, _⟩ := h
    rfl
  · obtain ⟨c, n, most, B, rfl, n5, m0, mm, wb, hB, q⟩ := h
    have nd := scAny.nd
    rw [e12] at mm
    refine ⟨_, pss_one (ps_ret (pe_callTy call_tuple_of (by rfl) mt boot_tuple (pa_cons (pe_lc (own := [("_law_pair", 3)]) (g := gName 3) (tt := tYes) rfl nd (pi_list (pe_call G2 hr (by rfl) m2 k2 b2 .nil pass0 (pa_cons (pv 1) pa_nil)))
        (blkOk_by (N := ["_law_jar_here", "_law_size_here", "_law_most", "_law_pair"]) (sc := defScope sAny) (by decide +kernel)) (fun _ _ _ _ _ => pg_name (i := 3) nd rfl (.inl rfl)) (fun _ _ _ _ _ => pts_nil)
        (fun _ _ _ _ _ => pe_op op_sub (pe_call G1 hr (by rfl) m1 k1 b1 .nil pass0 (pa_cons (pv 0) (pa_cons (pe_op op_add (pe_op op_mul pe_int (pv 2)) pe_int) pa_nil))) (pv 2))) pa_nil))), ?_⟩
    refine ⟨.int n, rfl, n, rfl, n5, fun H1 l s1 lt => ?_⟩
    obtain ⟨as, hl, hat⟩ := lt
    have wb1 := wb.same s1
    have lc := wb1.ne_refs hl
    have al : as.length = sz n := by rw [hat.1, prU_eq, List.length_map, places_len n (by omega)]
    have sl : sz n ≤ 15 := by
      have : ∀ m : Nat, m < 6 → sz m ≤ 15 := by decide +kernel
      exact this n (by omega)
    refine ⟨l, rfl, ⟨_, .inl (.inl hl)⟩, fun D nD => lc_list (xs := as.map V.ref) (fun i H' => But c H1 H' ∧ WB H' c (B + i) ∧ ∃ cs : List Int, cs.length = i ∧ In most cs ∧ H' D = some (.lst (iV cs))) ⟨But.new nD, wb1.same (same_new nD), [], rfl, In.nil _, upd_same⟩ (fun i H' _ z => .inl (.inl (z.1 _ _ lc hl))) ?_ ?_⟩
    · rintro i x H2 hx ⟨bt, wb2, cs, hcs, hin, hD⟩
      have il : i < 15 := by
        have := (List.getElem?_eq_some_iff.mp hx).1
        rw [List.length_map] at this
        omega
      have Dc := wb1.ne nD
      refine ⟨rfl, .ref c, rfl, .int most, rfl, 2, most, rfl, rfl, .inl ⟨by decide, by decide⟩, _, 1, rfl, rfl, c, _, B + i, rfl, by omega, by rw [big60]; omega, wb2, by omega, fun H3 r r0 r1 bt3 wb3 => ?_⟩
      have hD3 := bt3 _ _ Dc hD
      refine ⟨.int most, rfl, r, most, rfl, rfl, _, hD3, by rw [iV_len, hcs, sizeLine_eq]; omega, ?_, ?_, cs ++ [r - most], by rw [List.length_append, hcs]; rfl, hin.snoc (by omega) (by omega), ?_⟩
      · intro b o bc e
        rw [upd_ne (ne_of_none e nD)]
        exact bt3 _ _ bc (bt _ _ bc e)
      · obtain ⟨a', b', n', e, r'⟩ := wb3
        exact ⟨a', b', n', by rw [upd_ne (Ne.symm Dc)]; exact e, r'⟩
      · rw [upd_same]
        unfold iV
        rw [List.map_append]
        rfl
    · rintro H2 ⟨bt, wb2, cs, hcs, hin, hD⟩
      rw [List.length_map, al] at hcs
      rw [List.length_map, al] at wb2
      refine ⟨D, _, rfl, .inl ⟨.inl (.inl hD), fun t nt => ?_⟩⟩
      exact q _ t cs ((But.same s1).trans (bt.trans (But.new nt))) ((wb2.same (same_new nt)).mono (by omega)) upd_same hcs hin
def spSize : Sp := fun vs H Q _ => ∃ (a : Addr) (n : Nat) (c : List Int), vs = [.ref a] ∧ H a = some (.tup (iV c)) ∧ Ok n c ∧ ∀ H', Same H H' → Q (.int n) H'
theorem ok_size {f : Addr} {fd : FuncData} (F : Fun K "_law_size" "_law_size" sSize f fd) (ml : mg "len" = none) : FnOk P w K mg base CX0 1 f fd ["_law_own"] spSize := by
  refine F.ok scSize (fun vs H Q E h => ?_) (fun cdv A outer s H vs Q E hr h => ?_)
  · obtain ⟨a, n, c, rfl, _⟩ := h
    rfl
  · obtain ⟨a, n, c, rfl, ha, ok, q⟩ := h
    have hu : A.units + 3 + 1 < cLine := by have := hr.units; have e : (A.deeper (envOfC "_law_size" (defScope sSize) s.heap.objs.size f cdv)).units = A.units + 3 := rfl; omega
    refine ⟨_, pss_one (ps_ret (pe_dget hu (pe_disp (pps_cons pe_int pe_int (pps_cons pe_int pe_int (pps_cons pe_int pe_int (pps_cons pe_int pe_int pps_nil)))) rfl rfl (by decide) (by decide)) (pe_callB call_len_seq (by rfl) ml PySem.boot_len (pa_cons (pv 0) pa_nil)) (fun _ _ => rfl))), ?_⟩
    intro p np
    refine ⟨upd_same, [(.inl 3, .int 2), (.inl 6, .int 3), (.inl 10, .int 4), (.inl 15, .int 5)], rfl, by decide, ?_⟩
    have sm : Same H (upd (upd H p (.dK [])) p (.dK (mergeK [] [(.inl 3, .int 2), (.inl 6, .int 3), (.inl 10, .int 4), (.inl 15, .int 5)]))) := fun b o e => by
      have n := ne_of_none e np
      rw [upd_ne n, upd_ne n]
      exact e
    have hp : (upd (upd H p (.dK [])) p (.dK (mergeK [] [(.inl 3, .int 2), (.inl 6, .int 3), (.inl 10, .int 4), (.inl 15, .int 5)]))) p = some (.dK (mergeK [] [(.inl 3, .int 2), (.inl 6, .int 3), (.inl 10, .int 4), (.inl 15, .int 5)])) := upd_same
    generalize upd (upd H p (.dK [])) p (.dK (mergeK [] [(.inl 3, .int 2), (.inl 6, .int 3), (.inl 10, .int 4), (.inl 15, .int 5)])) = H2 at *
    refine ⟨.ref a, rfl, a, iV c, rfl, .inr (.inl (.inl (sm _ _ ha))), p, .int n, rfl, ?_, q _ sm⟩
    rw [iV_len, ok.len]
    refine .inl ⟨_, .inl ((sz n : Nat) : Int), .inl hp, rfl, ?_⟩
    rcases two_le ok.n2 ok.n5 with rfl | rfl | rfl | rfl <;> rfl
def spVector : Sp := fun vs H Q _ => ∃ (c : Addr) (n : Nat) (B : Nat), vs = [.ref c, .int n] ∧ n ≤ 5 ∧ WB H c B ∧ B + 100 ≤ 1000000 ∧ ∀ H' a x, But c H H' → WB H' c (B + 40) → H' a = some (.tup (iV x)) → x.length = n → In (10 ^ 12) x → Q (.ref a) H'
theorem ok_vector {f g1 g2 : Addr} {fd d1 d2 : FuncData} (F : Fun K "_law_vector" "_law_vector" sVector f fd) (G1 : FnOk P w K mg base CX0 1 g1 d1 ["_law_jar_here", "_law_top"] spDip) (m1 : mg "_law_dip" = some (.ref g1)) (k1 : PySem.W.keepIn K (.ref g1) = true) (b1 : Binds K d1 ["_law_jar_here", "_law_top"] [])
    (G2 : FnOk P w K mg base CX0 2 g2 d2 ["_law_jar_here", "_law_some"] spOneOf) (m2 : mg "_law_one_of" = some (.ref g2)) (k2 : PySem.W.keepIn K (.ref g2) = true) (b2 : Binds K d2 ["_law_jar_here", "_law_some"] []) (mt : mg "tuple" = none) (mr : mg "range" = none) : FnOk P w K mg base CX0 3 f fd ["_law_jar_here", "_law_size_here"] spVector := by
  refine F.ok scVector (fun vs H Q E h => ?_) (fun cdv A outer s H vs Q E hr h => ?_)
  · obtain ⟨c, n, B, rfl, _⟩ := h
    rfl
  · obtain ⟨c, n, B, rfl, n5, wb, hB, q⟩ := h
    have nd := scVector.nd
    refine ⟨_, pss_cons (ps_set (i := 2) nd rfl (.inr rfl) (pe_call G2 hr (by rfl) m2 k2 b2 .nil pass0 (pa_cons (pv 0) (pa_cons (pe_lst (pa_cons pe_int (pa_cons pe_int (pa_cons pe_int (pa_cons (pe_op op_pow pe_int pe_int) pa_nil))))) pa_nil))))
      (pss_one (ps_ret (pe_callTy call_tuple_of (by rfl) mt boot_tuple (pa_cons (pe_lc (own := [("_law_k", 3)]) (g := gName 3) (tt := tYes) rfl nd (pi_range1 rfl mr (pa_cons (pv 1) pa_nil))
        (blkOk_by (N := ["_law_jar_here", "_law_size_here", "_law_most", "_law_k"]) (sc := defScope sVector) (by decide +kernel)) (fun _ _ _ _ _ => pg_name (i := 3) nd rfl (.inl rfl)) (fun _ _ _ _ _ => pts_nil)
        (fun _ _ _ _ _ => pe_op op_sub (pe_call G1 (hr.mono (by decide)) (by rfl) m1 k1 b1 .nil pass0 (pa_cons (pv 0) (pa_cons (pe_op op_add (pe_op op_mul pe_int (pv 2)) pe_int) pa_nil))) (pv 2))) pa_nil)))), ?_⟩
    refine ⟨.ref c, rfl, 10, 12, rfl, rfl, ⟨by decide, by decide, by decide⟩, by decide, fun L nL => ?_⟩
    have wb0 := wb.same (same_new (o := .lst [.int 1, .int 3, .int 50, .int (10 ^ 12)]) nL)
    refine ⟨c, L, [1, 3, 50, 10 ^ 12], B, rfl, upd_same, wb.ne nL, by decide, by decide, wb0, by omega, fun H1 most hm bt0 wb1 => ?_⟩
    have bt1 : But c H H1 := (But.new nL).trans bt0
    have m0 : 0 ≤ most ∧ most ≤ 1000000000000 := by
      rw [e12] at hm
      simp only [List.mem_cons, List.not_mem_nil, or_false] at hm
      omega
    obtain ⟨m0, mm⟩ := m0
    refine ⟨.int n, rfl, n, rfl, by omega, by omega, fun D nD => lc_range (lo := 0) (n := ((n : Int).toNat)) (fun i H' => But c H1 H' ∧ WB H' c (B + 1 + i) ∧ ∃ cs : List Int, cs.length = i ∧ In most cs ∧ H' D = some (.lst (iV cs))) ⟨But.new nD, wb1.same (same_new nD), [], rfl, In.nil _, upd_same⟩ ?_ ?_⟩
    · rintro i H2 hi ⟨bt, wb2, cs, hcs, hin, hD⟩
      have i6 : i < n := by simpa using hi
      have Dc := wb1.ne nD
      refine ⟨rfl, .ref c, rfl, .int most, rfl, 2, most, rfl, rfl, .inl ⟨by decide, by decide⟩, _, 1, rfl, rfl, c, _, B + 1 + i, rfl, by omega, by rw [big60]; omega, wb2, by omega, fun H3 r r0 r1 bt3 wb3 => ?_⟩
      have hD3 := bt3 _ _ Dc hD
      refine ⟨.int most, rfl, r, most, rfl, rfl, _, hD3, by rw [iV_len, hcs, sizeLine_eq]; omega, ?_, ?_, cs ++ [r - most], by rw [List.length_append, hcs]; rfl, hin.snoc (by omega) (by omega), ?_⟩
      · intro b o bc e
        rw [upd_ne (ne_of_none e nD)]
        exact bt3 _ _ bc (bt _ _ bc e)
      · obtain ⟨a', b', n', e, r'⟩ := wb3
        exact ⟨a', b', n', by rw [upd_ne (Ne.symm Dc)]; exact e, r'⟩
      · rw [upd_same]
        unfold iV
        rw [List.map_append]
        rfl
    · rintro H2 ⟨bt, wb2, cs, hcs, hin, hD⟩
      have hcs : cs.length = n := by simpa using hcs
      have wb2 : WB H2 c (B + 1 + n) := by simpa using wb2
      refine ⟨D, _, rfl, .inl ⟨.inl (.inl hD), fun t nt => ?_⟩⟩
      exact q _ t cs (bt1.trans (bt.trans (But.new nt))) ((wb2.same (same_new nt)).mono (by omega)) upd_same hcs (hin.mono (by rw [e12]; exact mm))
def spContent : Sp := fun vs H Q _ => ∃ (a : Addr) (c : List Int), vs = [.ref a] ∧ H a = some (.tup (iV c)) ∧ ∀ H', Same H H' → Q (.int (contL c)) H'
theorem ok_content {f g : Addr} {fd gd : FuncData} (F : Fun K "_law_content" "_law_content" sContent f fd) (G : FnOk P w K mg base CX0 1 g gd ["_law_one", "_law_two"] spGcd) (mG : mg "_law_gcd" = some (.ref g)) (kG : PySem.W.keepIn K (.ref g) = true) (bG : Binds K gd ["_law_one", "_law_two"] []) : FnOk P w K mg base CX0 2 f fd ["_law_own"] spContent := by
  refine F.ok scContent (fun vs H Q E h => ?_) (fun cdv A outer s H vs Q E hr h => ?_)
  · obtain ⟨a, c, rfl, _⟩ := h
    rfl
  · obtain ⟨a, c, rfl, ha, q⟩ := h
    have nd := scContent.nd
    refine ⟨_, pss_cons (ps_set (i := 1) nd rfl (.inl rfl) pe_int)
      (pss_cons (ps_for PassesOwn.never rfl (pi_tup (pv 0)) (pg_name (i := 2) nd rfl (.inl rfl)) (pss_one (ps_set (i := 1) nd rfl (.inl rfl) (pe_call G hr (by rfl) mG kG bG .nil pass0 (pa_cons (pv 1) (pa_cons (pv 2) pa_nil))))))
      (pss_one (ps_ret (pv 1)))), ?_⟩
    refine ⟨.ref a, rfl, a, rfl, ⟨_, .inl (.inl ha)⟩, for_tup (xs := iV c) (fun i σ H' => Same H H' ∧ ∃ x2, σ = [some (.ref a), some (.int ((c.take i).foldl (fun a b => (Int.gcd a b : Nat)) 0)), x2]) ⟨.refl _, _, rfl⟩ (fun i σ H' _ p => .inl (.inl (p.1 _ _ ha))) ?_ ?_⟩
    · rintro i v σ H' hv ⟨sm, x2, rfl⟩
      obtain ⟨v, hv', rfl⟩ := iV_get hv
      refine ⟨.int _, rfl, .int v, rfl, _, v, rfl, fun H2 s2 => ⟨sm.trans s2, some (.int v), ?_⟩⟩
      rw [foldl_snoc hv']
      rfl
    · rintro σ H' ⟨sm, x2, rfl⟩
      refine ⟨.int _, rfl, ?_⟩
      rw [List.take_of_length_le (Nat.le_of_eq (iV_len c).symm)]
      exact q _ sm
end
end K02

namespace K02
open PySem PySem.Spec PyProof.Rows L2
def scL : Scope := { kind := .function, names := [(".0", .local), ("_law_row", .cell), ("sum", .globalImplicit), ("range", .globalImplicit), ("len", .globalImplicit), ("_law_vector_here", .cell)], isGenerator := false, isCoroutine := false, more := [] }
def rLenS (K : PySem.W.Frag) : List V → Hp → VK → Prop := fun xs H Q => ∃ p ys, xs = [V.ref p] ∧ (SqL K H p ys ∨ SqT K H p ys) ∧ Q (.int ys.length) H
def rMulI : R2 := rI CMul fun i j => .int (i * j)
def teLed (K : PySem.W.Frag) : TE := tCB (rSum K) (tCons (tLc (iRng1 (tCons (tCB (rLenS K) (tCons (tVar 1) tNil)) tNil)) (gName 3) tYes (tOp rMulI (tOp (rIxT K) (tVar 2) (tVar 3)) (tOp (rIxT K) (tVar 1) (tVar 3))) [3]) tNil)
def teVal (K : PySem.W.Frag) : TE := tOp rMulI (tOp rMulI (tOp (rIxT K) (tVar 0) (tVar 3)) (tOp (rIxT K) (tVar 1) (tOp (rIxT K) (tOp (rIxL K) (tVar 2) (tVar 3)) (tC (.int 0))))) (tOp (rIxT K) (tVar 1) (tOp (rIxT K) (tOp (rIxL K) (tVar 2) (tVar 3)) (tC (.int 1))))
theorem getD_at {l : List Int} {i : Nat} (h : i < l.length) : l[i]? = some (l.getD i 0) := by
  rw [List.getD_eq_getElem?_getD, List.getElem?_eq_getElem h]
  rfl
section
variable {P : Program} {w : World} {K : PySem.W.Frag} {mg : Str → Option Value} {base : Heap} {C : Addr}
def spLed : Sp := fun vs H Q _ => ∃ (t b : Addr) (T : List (List Int)) (y : List Int), vs = [.ref t, .ref b] ∧ Tab H t T ∧ H b = some (.tup (iV y)) ∧ T.length ≤ 100 ∧ (∀ r ∈ T, r.length = y.length ∧ In (2 * 10 ^ 12) r) ∧ y.length ≤ 100 ∧ ∀ H' a, Same H H' → H' a = some (.tup (iV (ledL T y))) → Q (.ref a) H'
theorem ok_led {f : Addr} {fd : FuncData} (F : Fun K "_law_led" "_law_led" sLed f fd) (mt : mg "tuple" = none) (ms : mg "sum" = none) (mr : mg "range" = none) (ml : mg "len" = none) : FnOk P w K mg base CX0 1 f fd ["_law_change", "_law_vector_here"] spLed := by
  refine F.ok scLed (fun vs H Q E h => ?_) (fun cdv A outer s H vs Q E hr h => ?_)
  · obtain ⟨t, b, T, y, rfl, _⟩ := h
    rfl
  · obtain ⟨t, b, T, y, rfl, hT, hb, hn, hR, hy, q⟩ := h
    have nd := scLed.nd
    obtain ⟨as, ht, hal, har⟩ := hT
    refine ⟨_, pss_one (ps_ret (pe_callTy call_tuple_of (by rfl) mt boot_tuple (pa_cons (pe_lc (own := [("_law_row", 2)]) (g := gName 2) (tt := tYes) (te := teLed K) rfl nd (pi_tup (pv 0)) (blkOk_by (N := ["_law_change", "_law_vector_here", "_law_row", "_law_k"]) (sc := defScope sLed) (by decide +kernel)) (fun _ _ _ _ _ => pg_name (i := 2) nd rfl (.inr rfl)) (fun _ _ _ _ _ => pts_nil)
        (fun s1 H1 C1 cl1 fp1 => by
          refine pe_callB (cr_sum rfl) (by rfl) ms boot_sum (pa_cons (pe_lc (own := [("_law_k", 3)]) (g := gName 3) (tt := tYes) (wi := iRng1 (tCons (tCB (rLenS K) (tCons (tVar 1) tNil)) tNil)) (te := tOp rMulI (tOp (rIxT K) (tVar 2) (tVar 3)) (tOp (rIxT K) (tVar 1) (tVar 3))) rfl nd (pi_range1 rfl mr (pa_cons ?_ pa_nil))
            (blkOk_by (N := ["_law_change", "_law_vector_here", "_law_row", "_law_k"]) (sc := scL) (by decide +kernel)) (fun _ _ _ _ _ => pg_name (i := 3) nd rfl (.inl rfl)) (fun _ _ _ _ _ => pts_nil) (fun _ _ _ _ _ => ?_)) pa_nil)
          · exact pe_callB call_len_seq (by rfl) ml PySem.boot_len (pa_cons (pv 1) pa_nil)
          · exact pe_op op_mul (pe_ix ix_tup (pv 2) (pv 3) (fun _ _ => rfl)) (pe_ix ix_tup (pv 1) (pv 3) (fun _ _ => rfl)))) pa_nil))), ?_⟩
    have sT : ∀ H', Same H H' → SqT K H' t (as.map V.ref) := fun H' s => .inl (.inl (s _ _ ht))
    refine ⟨.ref t, rfl, t, rfl, ⟨_, sT H (.refl _)⟩, fun D nD => lc_tup (xs := as.map V.ref) (fun i H' => Gr H D (iV (ledL T y)) i H') (Gr.init nD) (fun i H' _ g => sT H' g.s) ?_ ?_⟩
    · intro i v H1 hi g1
      rw [List.getElem?_map] at hi
      obtain ⟨ra, hra, rfl⟩ := Option.map_eq_some_iff.mp hi
      have il := (List.getElem?_eq_some_iff.mp hra).1
      have hr1 : T[i]? = some T[i] := List.getElem?_eq_getElem (by omega)
      obtain ⟨r1, r2⟩ := hR _ (List.mem_of_getElem? hr1)
      generalize T[i] = row at hr1 r1 r2
      have hb1 := g1.s _ _ hb
      have ha1 := g1.s _ _ (har i ra _ hra hr1)
      refine ⟨rfl, .ref b, rfl, b, _, rfl, .inr (.inl (.inl hb1)), ((iV y).length : Nat), rfl, by rw [iV_len]; omega, by rw [iV_len]; omega, fun D2 nD2 => lc_range (lo := 0) (n := (((iV y).length : Nat) : Int).toNat) (fun j H' => Gr H1 D2 (iV ((List.range y.length).map fun k => row.getD k 0 * y.getD k 0)) j H') (Gr.init nD2) ?_ ?_⟩
      · intro j H2 hj g2
        rw [iV_len] at hj
        have jy : j < y.length := by simpa using hj
        have e0 : (0 : Int) + (j : Int) = (j : Int) := by omega
        obtain ⟨b1, b2⟩ := getD_in r2 (by decide) j
        rw [e12] at b1 b2
        refine ⟨rfl, .ref ra, rfl, .int (0 + (j : Int)), rfl, ra, iV row, _, .int (row.getD j 0), rfl, rfl, .inl (.inl (g2.s _ _ ha1)), by rw [e0]; exact atI_nat (iV_at (getD_at (by omega))), .ref b, rfl, .int (0 + (j : Int)), rfl, b, iV y, _, .int (y.getD j 0), rfl, rfl, .inl (.inl (g2.s _ _ hb1)), by rw [e0]; exact atI_nat (iV_at (getD_at jy)), _, _, rfl, rfl, .inl ⟨by omega, by omega⟩, ?_⟩
        refine g2.step nD2 (.refl _) (iV_at ?_) (by rw [iV_len, List.length_map, List.length_range]; omega)
        rw [List.getElem?_map, List.getElem?_range jy]
        rfl
      · intro H2 g2
        rw [iV_len] at g2
        refine ⟨D2, _, rfl, .inl (.inl (g2.done (by rw [iV_len, List.length_map, List.length_range]; simp))), ?_⟩
        refine g1.step nD g2.s (iV_at ?_) (by rw [iV_len, ledL, List.length_map]; omega)
        unfold ledL
        rw [List.getElem?_map, hr1]
        rfl
    · intro H1 g1
      refine ⟨D, _, rfl, .inl ⟨.inl (.inl (g1.done (by rw [iV_len, ledL, List.length_map, List.length_map]; omega))), fun a na => q _ a (g1.s.trans (same_new na)) upd_same⟩⟩
def spLValue : Sp := fun vs H Q _ => ∃ (a b : Addr) (n : Nat) (c x : List Int), vs = [.ref a, .ref b] ∧ H a = some (.tup (iV c)) ∧ H b = some (.tup (iV x)) ∧ Ok n c ∧ x.length = n ∧ In (10 ^ 12) c ∧ In (10 ^ 12) x ∧ ∀ H', Same H H' → Q (.int (valL c n x)) H'
theorem ok_lvalue {f g : Addr} {fd gd : FuncData} (F : Fun K "_law_value" "_law_value" sLValue f fd) (G : FnOk P w K mg base CX0 1 g gd ["_law_size_here"] spPlaces) (mG : mg "_law_places" = some (.ref g)) (kG : PySem.W.keepIn K (.ref g) = true) (bG : Binds K gd ["_law_size_here"] []) (ms : mg "sum" = none) (mr : mg "range" = none) (ml : mg "len" = none) : FnOk P w K mg base CX0 2 f fd ["_law_own", "_law_vector_here"] spLValue := by
  refine F.ok scLValue (fun vs H Q E h => ?_) (fun cdv A outer s H vs Q E hr h => ?_)
  · obtain ⟨a, b, n, c, x, rfl, _⟩ := h
    rfl
  · obtain ⟨a, b, n, c, x, rfl, ha, hb, ok, hx, hc, hxb, q⟩ := h
    have nd := scLValue.nd
    have n5 := ok.n5
    refine ⟨_, pss_cons (ps_set (i := 2) nd rfl (.inr rfl) (pe_call G hr (by rfl) mG kG bG .nil pass0 (pa_cons (pe_callB call_len_seq (by rfl) ml PySem.boot_len (pa_cons (pv 1) pa_nil)) pa_nil)))
      (pss_one (ps_ret (pe_callB (cr_sum rfl) (by rfl) ms boot_sum (pa_cons (pe_lc (own := [("_law_k", 3)]) (g := gName 3) (tt := tYes) (te := teVal K) rfl nd (pi_range1 rfl mr (pa_cons (pe_callB call_len_seq (by rfl) ml PySem.boot_len (pa_cons (pv 0) pa_nil)) pa_nil)) (blkOk_by (N := ["_law_own", "_law_vector_here", "_law_pairs_here", "_law_k"]) (sc := defScope sLValue) (by decide +kernel)) (fun _ _ _ _ _ => pg_name (i := 3) nd rfl (.inl rfl)) (fun _ _ _ _ _ => pts_nil)
        (fun _ _ _ _ _ => by exact pe_op op_mul (pe_op op_mul (pe_ix ix_tup (pv 0) (pv 3) (fun _ _ => rfl)) (pe_ix ix_tup (pv 1) (pe_ix ix_tup (pe_ix ix_list (pv 2) (pv 3) (fun _ _ => rfl)) pe_int (fun _ _ => rfl)) (fun _ _ => rfl))) (pe_ix ix_tup (pv 1) (pe_ix ix_tup (pe_ix ix_list (pv 2) (pv 3) (fun _ _ => rfl)) pe_int (fun _ _ => rfl)) (fun _ _ => rfl)))) pa_nil)))), ?_⟩
    refine ⟨.ref b, rfl, b, _, rfl, .inr (.inl (.inl hb)), n, by rw [iV_len, hx]; rfl, n5, fun H1 l s1 lt => ?_⟩
    obtain ⟨as, hl, hat⟩ := lt
    have ha1 := s1 _ _ ha
    have hb1 := s1 _ _ hb
    have al : as.length = sz n := by rw [hat.1, prU_eq, List.length_map, places_len n (by omega)]
    have sl : sz n ≤ 15 := by
      have : ∀ m : Nat, m < 6 → sz m ≤ 15 := by decide +kernel
      exact this n (by omega)
    refine ⟨.ref a, rfl, a, _, rfl, .inr (.inl (.inl ha1)), ((iV c).length : Nat), rfl, by rw [iV_len, ok.len]; omega, by rw [iV_len, ok.len]; omega, fun D nD => lc_range (lo := 0) (n := (((iV c).length : Nat) : Int).toNat)
      (fun j H' => Gr H1 D (iV ((List.range c.length).map fun k => c.getD k 0 * x.getD ((places n).getD k (0, 0)).1 0 * x.getD ((places n).getD k (0, 0)).2 0)) j H') (Gr.init nD) ?_ ?_⟩
    · intro j H2 hj g2
      rw [iV_len] at hj
      have jc : j < c.length := by simpa using hj
      have jn : j < sz n := by rw [← ok.len]; exact jc
      have e0 : (0 : Int) + (j : Int) = (j : Int) := by omega
      have hp : (places n)[j]? = some ((places n).getD j (0, 0)) := by
        rw [List.getD_eq_getElem?_getD, List.getElem?_eq_getElem (by rw [places_len n (by omega)]; exact jn)]
        rfl
      obtain ⟨p1, p2⟩ := places_lt n (by omega) _ (List.mem_of_getElem? hp)
      have hT : (prU n n)[j]? = some [(((places n).getD j (0, 0)).1 : Int), (((places n).getD j (0, 0)).2 : Int)] := by
        rw [prU_eq, List.getElem?_map, hp]
        rfl
      have haj : as[j]? = some as[j] := List.getElem?_eq_getElem (by omega)
      have hj2 := g2.s _ _ (hat.2 j _ _ haj hT)
      have hl2 : SqL K H2 l (as.map V.ref) := .inl (.inl (g2.s _ _ hl))
      have ha2 : SqT K H2 a (iV c) := .inl (.inl (g2.s _ _ ha1))
      have hb2 : SqT K H2 b (iV x) := .inl (.inl (g2.s _ _ hb1))
      generalize (places n).getD j (0, 0) = pr at hp p1 p2 hT hj2 ⊢
      generalize as[j] = aj at haj hj2
      have tj : SqT K H2 aj (iV [(pr.1 : Int), (pr.2 : Int)]) := .inl (.inl hj2)
      obtain ⟨b1, b2⟩ := getD_in hc (by decide) j
      obtain ⟨b3, b4⟩ := getD_in hxb (by decide) pr.2
      rw [e12] at b1 b2 b3 b4
      have atl : atI (as.map V.ref) ((0 : Int) + j) = some (.ref aj) := by
        rw [e0]
        exact atI_nat (by rw [List.getElem?_map, haj]; rfl)
      refine ⟨rfl, .ref a, rfl, .int (0 + (j : Int)), rfl, a, _, _, .int (c.getD j 0), rfl, rfl, ha2, by rw [e0]; exact atI_nat (iV_at (getD_at jc)), .ref b, rfl, .ref l, rfl, .int (0 + (j : Int)), rfl, l, _, _, .ref aj, rfl, rfl, hl2, atl, aj, _, 0, .int (pr.1 : Int), rfl, rfl, tj, rfl, b, _, _, .int (x.getD pr.1 0), rfl, rfl, hb2, atI_nat (iV_at (getD_at (by omega))), _, _, rfl, rfl, .inl ⟨by omega, by omega⟩,
        .ref b, rfl, .ref l, rfl, .int (0 + (j : Int)), rfl, l, _, _, .ref aj, rfl, rfl, hl2, atl, aj, _, 1, .int (pr.2 : Int), rfl, rfl, tj, rfl, b, _, _, .int (x.getD pr.2 0), rfl, rfl, hb2, atI_nat (iV_at (getD_at (by omega))), _, _, rfl, rfl, .inr ⟨by omega, by omega⟩, ?_⟩
      refine g2.step nD (.refl _) (iV_at ?_) (by rw [iV_len, List.length_map, List.length_range, ok.len]; omega)
      rw [List.getElem?_map, List.getElem?_range jc]
      show some (c.getD j 0 * x.getD ((places n).getD j (0, 0)).1 0 * x.getD ((places n).getD j (0, 0)).2 0) = _
      rw [show (places n).getD j (0, 0) = pr by rw [List.getD_eq_getElem?_getD, hp]; rfl]
    · intro H2 g2
      rw [iV_len] at g2
      refine ⟨D, _, rfl, .inl (.inl (g2.done (by rw [iV_len, List.length_map, List.length_range]; simp))), ?_⟩
      exact q _ (s1.trans g2.s)
end
end K02

namespace K02
open PySem PySem.Spec PyProof.Rows L2
def pdR (r : List Int) : PyData := .tuple (r.map PyData.int)
theorem dp_ints {K : PySem.W.Frag} {H : Hp} : ∀ r : List Int, DpAll K H (iV r) (r.map PyData.int)
  | [] => .nil
  | x :: r => .cons (.int x) (dp_ints r)
theorem dp_tup {K : PySem.W.Frag} {H : Hp} {a : Addr} {r : List Int} (h : H a = some (.tup (iV r))) : Dp K H (.ref a) (pdR r) := .tup (.inl (.inl h)) (dp_ints r)
theorem dp_at {K : PySem.W.Frag} {H : Hp} : ∀ (as : List Addr) (T : List (List Int)), At H as T → DpAll K H (as.map V.ref) (T.map pdR)
  | [], T, h => by
    have : T = [] := List.length_eq_zero_iff.mp h.1.symm
    subst this
    exact .nil
  | a :: as, T, h => by
    cases T with
    | nil => cases h.1
    | cons r T =>
      exact .cons (dp_tup (h.2 0 a r rfl rfl)) (dp_at as T ⟨by have := h.1; simpa using this, fun i a' r' e1 e2 => h.2 (i + 1) a' r' e1 e2⟩)
theorem dp_ltab {K : PySem.W.Frag} {H : Hp} {p : Addr} {T : List (List Int)} (h : LTab H p T) : Dp K H (.ref p) (.list (T.map pdR)) := by
  obtain ⟨as, h1, h2⟩ := h
  exact .lst (.inl (.inl h1)) (dp_at as T h2)
theorem tab_at' {H : Hp} {p : Addr} {T : List (List Int)} (h : Tab H p T) : ∃ as : List Addr, H p = some (.tup (as.map V.ref)) ∧ At H as T := by
  obtain ⟨as, h1, h2, h3⟩ := h
  exact ⟨as, h1, h2, h3⟩
theorem dp_tab {K : PySem.W.Frag} {H : Hp} {p : Addr} {T : List (List Int)} (h : Tab H p T) : Dp K H (.ref p) (.tuple (T.map pdR)) := by
  obtain ⟨as, h1, h2⟩ := tab_at' h
  exact .tup (.inl (.inl h1)) (dp_at as T h2)
theorem pair_eqv (x y x' y' : Int) : PyData.eqv (pdR [x, y]) (pdR [x', y']) = decide (x = x' ∧ y = y') := by
  show ((x == x') && ((y == y') && true)) = _
  rw [Bool.and_true]
  by_cases h1 : x = x'
  · by_cases h2 : y = y'
    · simp [h1, h2]
    · simp [h2]
  · simp [h1]
theorem pr_shaped : ∀ n : Nat, n < 6 → SeqAt.shaped (.list ((prU n n).map pdR)) = true := by decide +kernel
section
variable {P : Program} {w : World} {K : PySem.W.Frag} {mg : Str → Option Value} {base : Heap} {C : Addr}
def spLTable : Sp := fun vs H Q _ => ∃ (a : Addr) (n : Nat) (c : List Int), vs = [.ref a] ∧ H a = some (.tup (iV c)) ∧ Ok n c ∧ ∀ H' t, Same H H' → Tab H' t (tabT c n) → Q (.ref t) H'
theorem ok_ltable {f g1 g2 : Addr} {fd d1 d2 : FuncData} (F : Fun K "_law_table" "_law_table" sLTable f fd) (G1 : FnOk P w K mg base CX0 1 g1 d1 ["_law_own"] spSize) (m1 : mg "_law_size" = some (.ref g1)) (k1 : PySem.W.keepIn K (.ref g1) = true) (b1 : Binds K d1 ["_law_own"] [])
    (G2 : FnOk P w K mg base CX0 1 g2 d2 ["_law_size_here"] spPlaces) (m2 : mg "_law_places" = some (.ref g2)) (k2 : PySem.W.keepIn K (.ref g2) = true) (b2 : Binds K d2 ["_law_size_here"] []) (mt : mg "tuple" = none) (mr : mg "range" = none) (mn : mg "min" = none) (mx : mg "max" = none) : FnOk P w K mg base CX0 2 f fd ["_law_own"] spLTable := by
  refine F.ok scLTable (fun vs H Q E h => ?_) (fun cdv A outer s H vs Q E hr h => ?_)
  · obtain ⟨a, n, c, rfl, _⟩ := h
    rfl
  · obtain ⟨a, n, c, rfl, ha, ok, q⟩ := h
    have nd := scLTable.nd
    have n5 := ok.n5
    have hu : A.units + 3 + 65 < cLine := by have := hr.un; have e : (A.deeper (envOfC "_law_table" (defScope sLTable) s.heap.objs.size f cdv)).units = A.units + 3 := rfl; omega
    refine ⟨_, pss_cons (ps_par (i := 1) (j := 2) rfl nd rfl rfl (by decide) rfl rfl (pa_cons (pe_call G1 hr (by rfl) m1 k1 b1 .nil pass0 (pa_cons (pv 0) pa_nil)) (pa_cons (pe_call G2 hr (by rfl) m2 k2 b2 .nil pass0 (pa_cons (pe_call G1 hr (by rfl) m1 k1 b1 .nil pass0 (pa_cons (pv 0) pa_nil)) pa_nil)) pa_nil)) (by rfl))
      (pss_cons (ps_set (i := 3) nd rfl (.inl rfl) (pe_lst pa_nil))
      (pss_cons (ps_for PassesOwn.never rfl (pi_range1 rfl mr (pa_cons (pv 1) pa_nil)) (pg_name (i := 4) nd rfl (.inl rfl))
        (pss_cons (ps_set (i := 5) nd rfl (.inl rfl) (pe_lst pa_nil))
        (pss_cons (ps_for PassesOwn.never rfl (pi_range1 rfl mr (pa_cons (pv 1) pa_nil)) (pg_name (i := 6) nd rfl (.inl rfl))
          (pss_cons (ps_set (i := 7) nd rfl (.inl rfl) (pe_ix ix_tup (pv 0) (pe_bm PySem.F.plainAttrs_list PySem.F.slot_list_index PySem.F.type_list_index (mt_indexD hu) (pv 2) (pa_cons (pe_tup (pa_cons (pe_callB (call_min2 rfl) (by rfl) mn boot_min (pa_cons (pv 4) (pa_cons (pv 6) pa_nil))) (pa_cons (pe_callB (call_max2 rfl) (by rfl) mx boot_max (pa_cons (pv 4) (pa_cons (pv 6) pa_nil))) pa_nil))) pa_nil)) (fun _ _ => rfl)))
          (pss_one (ps_expr (pe_bm PySem.F.plainAttrs_list PySem.F.slot_list_append PySem.F.type_list_append mt_append (pv 5) (pa_cons (pe_ifExp (pt_cmpR op_eq (pv 4) (pv 6) (nomark _)) (pe_op op_mul pe_int (pv 7)) (pv 7)) pa_nil))))))
        (pss_one (ps_expr (pe_bm PySem.F.plainAttrs_list PySem.F.slot_list_append PySem.F.type_list_append mt_append (pv 3) (pa_cons (pe_callTy call_tuple_of (by rfl) mt boot_tuple (pa_cons (pv 5) pa_nil)) pa_nil)))))))
      (pss_one (ps_ret (pe_callTy call_tuple_of (by rfl) mt boot_tuple (pa_cons (pv 3) pa_nil)))))), ?_⟩
    refine ⟨.ref a, rfl, a, n, c, rfl, ha, ok, fun Hs0 ss0 => ⟨.ref a, rfl, a, n, c, rfl, ss0 _ _ ha, ok, fun Hs1 ss1 => ⟨n, rfl, n5, fun H1 l s1 lt => ⟨_, _, rfl, ?_⟩⟩⟩⟩
    have s01 := ss0.trans (ss1.trans s1)
    have ha1 := s01 _ _ ha
    refine ⟨l0, fun fo nf => ?_⟩
    refine ⟨.int n, rfl, n, rfl, by omega, by omega, for_range (n := ((n : Int).toNat)) (fun i σ H' => GrT H1 fo (tabT c n) i H' ∧ ∃ x4 x5 x6 x7, σ = [some (.ref a), some (.int n), some (.ref l), some (.ref fo), x4, x5, x6, x7]) ⟨GrT.init nf, _, _, _, _, rfl⟩ ?_ ?_⟩
    · rintro i σ H2 hi ⟨g1, x4, x5, x6, x7, rfl⟩
      have i6 : i < n := by simpa using hi
      have e0 : ∀ m : Nat, (0 : Int) + (m : Int) = (m : Int) := fun m => by omega
      refine ⟨l0, fun ln nln => ?_⟩
      have ha2 := g1.s _ _ ha1
      have lt2 := lt.same g1.s
      refine ⟨.int n, rfl, n, rfl, by omega, by omega, for_range (n := ((n : Int).toNat)) (fun j σ H' => Gr H2 ln (iV (rowT c n i)) j H' ∧ ∃ x6 x7, σ = [some (.ref a), some (.int n), some (.ref l), some (.ref fo), some (.int (0 + (i : Int))), some (.ref ln), x6, x7]) ⟨Gr.init nln, _, _, rfl⟩ ?_ ?_⟩
      · rintro j σ H3 hj ⟨g2, x6, x7, rfl⟩
        have j6 : j < n := by simpa using hj
        have lt3 := lt2.same g2.s
        have ha3 := g2.s _ _ ha2
        have m1 : (if (0 + (j : Int)) < (0 + (i : Int)) then (0 + (j : Int)) else (0 + (i : Int))) = ((min i j : Nat) : Int) := by split <;> omega
        have m2 : (if (0 + (j : Int)) > (0 + (i : Int)) then (0 + (j : Int)) else (0 + (i : Int))) = ((max i j : Nat) : Int) := by split <;> omega
        have n6 : n < 6 := by omega
        have hmin : min i j < n := by omega
        have hmax : max i j < n := by omega
        have hle : min i j ≤ max i j := by omega
        have iat := ix_at n6 hmin hmax hle
        have ilt := ix_lt n n6 _ hmin _ hmax hle
        obtain ⟨las, hl3, _⟩ := id lt3
        refine ⟨.ref a, rfl, .ref l, rfl, .inl ⟨rfl, _, .inl (.inl hl3)⟩, .int (0 + (i : Int)), rfl, .int (0 + (j : Int)), rfl, _, _, rfl, .int (0 + (i : Int)), rfl, .int (0 + (j : Int)), rfl, _, _, rfl, l2, fun tp ntp => ?_⟩
        rw [m1, m2]
        have s4 := same_new (o := .tup [V.int ((min i j : Nat) : Int), V.int ((max i j : Nat) : Int)]) ntp
        have htp : (upd H3 tp (.tup [V.int ((min i j : Nat) : Int), V.int ((max i j : Nat) : Int)])) tp = some (.tup (iV [((min i j : Nat) : Int), ((max i j : Nat) : Int)])) := upd_same
        generalize upd H3 tp (.tup [V.int ((min i j : Nat) : Int), V.int ((max i j : Nat) : Int)]) = H4 at *
        refine ⟨l, .ref tp, pdR [((min i j : Nat) : Int), ((max i j : Nat) : Int)], (prU n n).map pdR, ix n (min i j) (max i j), pdR [((min i j : Nat) : Int), ((max i j : Nat) : Int)], rfl, rfl, dp_ltab (lt3.same s4), dp_tup htp, pr_shaped n n6, rfl, ?_, by rw [pair_eqv]; exact decide_eq_true ⟨rfl, rfl⟩, ?_, ?_⟩
        · rw [List.getElem?_map, prU_eq, List.getElem?_map, iat]
          rfl
        · intro m z' hm hz
          rw [List.getElem?_map, prU_eq, List.getElem?_map] at hz
          obtain ⟨r', hr', rfl⟩ := Option.map_eq_some_iff.mp hz
          obtain ⟨pr, hpr, rfl⟩ := Option.map_eq_some_iff.mp hr'
          rw [pair_eqv]
          refine decide_eq_false fun e => ix_no n6 hmin hmax hle hm ?_
          rw [hpr]
          obtain ⟨e1, e2⟩ := e
          have e1' : pr.1 = min i j := by omega
          have e2' : pr.2 = max i j := by omega
          rw [← e1', ← e2']
        · refine ⟨a, iV c, _, .int (c.getD (ix n (min i j) (max i j)) 0), rfl, rfl, .inl (.inl (s4 _ _ ha3)), atI_nat (iV_at (getD_at (by rw [ok.len]; exact ilt))), ?_⟩
          have hln4 : H4 ln = some (.lst ((iV (rowT c n i)).take j)) := s4 _ _ g2.d
          obtain ⟨acc, h1, h2, h3⟩ := g2.step nln s4 (iV_at (row_at j6)) (by rw [iV_len, row_len]; omega)
          have fin : ∀ v : Int, v = ent c n i j → rAppend (.ref ln) [.int v] H4 fun _ H5 => Gr H2 ln (iV (rowT c n i)) (j + 1) H5 ∧ ∃ x6 x7, [some (V.ref a), some (.int n), some (.ref l), some (.ref fo), some (.int (0 + (i : Int))), some (.ref ln), some (.int (0 + (j : Int))), some (.int (c.getD (ix n (min i j) (max i j)) 0))] = [some (.ref a), some (.int n), some (.ref l), some (.ref fo), some (.int (0 + (i : Int))), some (.ref ln), x6, x7] := by
            rintro v rfl
            exact ⟨ln, acc, _, rfl, rfl, h1, h2, h3, _, _, rfl⟩
          refine ⟨.ref ln, rfl, .inl ⟨rfl, _, .inl (.inl hln4)⟩, .int (0 + (i : Int)), rfl, .int (0 + (j : Int)), rfl, rfl, _, rfl, ite2 (fun z => ?_) (fun z => ?_)⟩
          · have e : i = j := by have := V.int.inj (of_decide_eq_true z); omega
            refine ⟨.int _, rfl, 2, _, rfl, rfl, .inl ⟨by decide, by decide⟩, fin _ ?_⟩
            unfold ent
            rw [if_pos e, ← e, Nat.min_self, Nat.max_self]
          · have e : ¬ i = j := fun y => z (decide_eq_true (by rw [y]))
            refine ⟨.int _, rfl, fin _ ?_⟩
            unfold ent
            rw [if_neg e]
      · rintro σ H3 ⟨g2, x6, x7, rfl⟩
        have hln : H3 ln = some (.lst (iV (rowT c n i))) := g2.done (by rw [iV_len, row_len]; simp)
        obtain ⟨_, las, _, hfo, _⟩ := id g1
        have hfo3 := g2.s _ _ hfo
        refine ⟨.ref fo, rfl, .inl ⟨rfl, _, .inl (.inl hfo3)⟩, .ref ln, rfl, ln, _, rfl, .inl ⟨.inl (.inl hln), fun t nt => ?_⟩⟩
        obtain ⟨acc, h1, h2, h3⟩ := g1.step nf (g2.s.trans (same_new nt)) upd_same (tab_at i6) (by rw [tab_len]; omega)
        exact ⟨fo, acc, _, rfl, rfl, h1, h2, h3, _, _, _, _, rfl⟩
    · rintro σ H2 ⟨g1, x4, x5, x6, x7, rfl⟩
      have g1' : GrT H1 fo (tabT c n) (tabT c n).length H2 := by rw [tab_len]; simpa using g1
      obtain ⟨ys, hD, ht⟩ := g1'.done
      exact ⟨.ref fo, rfl, fo, ys, rfl, .inl ⟨.inl (.inl hD), fun t nt => q _ t (s01.trans (g1.s.trans (same_new nt))) (ht t nt)⟩⟩
end
end K02

namespace K02
open PySem PySem.Spec PyProof.Rows L2
/-! ### what repr asks of the data -/
structure Shd (d : PyData) (k W : Nat) : Prop where
  s1 : d.showable = true
  s2 : d.hasDict = false
  s3 : d.depth ≤ k
  s4 : d.leavesShort 41 = true
  s5 : d.weight ≤ W
structure ShdA (ds : List PyData) (k W : Nat) : Prop where
  s1 : PyData.showableAll ds = true
  s2 : PyData.hasDictAll ds = false
  s3 : PyData.depthAll ds ≤ k
  s4 : PyData.leavesShortAll 41 ds = true
  s5 : PyData.weightAll ds ≤ W
theorem ShdA.nil {k W : Nat} : ShdA [] k W := ⟨rfl, rfl, Nat.zero_le _, rfl, Nat.zero_le _⟩
theorem ShdA.cons {d : PyData} {ds : List PyData} {k w W : Nat} (h : Shd d k w) (t : ShdA ds k W) : ShdA (d :: ds) k (w + 1 + W) := by
  obtain ⟨a1, a2, a3, a4, a5⟩ := h
  obtain ⟨b1, b2, b3, b4, b5⟩ := t
  refine ⟨?_, ?_, ?_, ?_, ?_⟩
  · rw [PyData.showableAll.eq_2, a1, b1]; rfl
  · rw [PyData.hasDictAll.eq_2, a2, b2]; rfl
  · rw [PyData.depthAll.eq_2]; exact Nat.max_le.mpr ⟨a3, b3⟩
  · rw [PyData.leavesShortAll.eq_2, a4, b4]; rfl
  · rw [PyData.weightAll.eq_2]; omega
theorem ShdA.tup {ds : List PyData} {k W : Nat} (h : ShdA ds k W) : Shd (.tuple ds) (k + 1) W :=
  ⟨h.s1, h.s2, Nat.succ_le_succ h.s3, h.s4, h.s5⟩
theorem ShdA.lst {ds : List PyData} {k W : Nat} (h : ShdA ds k W) : Shd (.list ds) (k + 1) W :=
  ⟨h.s1, h.s2, Nat.succ_le_succ h.s3, h.s4, h.s5⟩
theorem Shd.mono {d : PyData} {k k' W W' : Nat} (h : Shd d k W) (l : k ≤ k') (l2 : W ≤ W') : Shd d k' W' := ⟨h.s1, h.s2, Nat.le_trans h.s3 l, h.s4, Nat.le_trans h.s5 l2⟩
theorem ShdA.mono {d : List PyData} {k k' W W' : Nat} (h : ShdA d k W) (l : k ≤ k') (l2 : W ≤ W') : ShdA d k' W' := ⟨h.s1, h.s2, Nat.le_trans h.s3 l, h.s4, Nat.le_trans h.s5 l2⟩
theorem Shd.bool (b : Bool) {k W : Nat} : Shd (.bool b) k W := ⟨rfl, rfl, Nat.zero_le _, rfl, Nat.zero_le _⟩
theorem Shd.int {x : Int} (h : x.natAbs < 10 ^ 40) (k : Nat) : Shd (.int x) k 140 := by
  have lg : x.natAbs.log2 < 139 := by
    by_cases z : x.natAbs = 0
    · rw [z]; decide
    · rw [Nat.log2_lt z]
      exact Nat.lt_trans h (by decide +kernel)
  refine ⟨?_, rfl, Nat.zero_le _, ?_, ?_⟩
  · exact decide_eq_true (Nat.lt_trans lg (by decide))
  · have e := int_text_length_le10 (k := 40) (by decide) (a := x) h
    refine decide_eq_true ?_
    show (Str.ofString (toString x)).length ≤ 41
    rw [PySem.ofString_length]
    exact e
  · show (if (x == 0) = true then 0 else x.natAbs.log2 + 1) ≤ 140
    split <;> omega
theorem shd_ints : ∀ r : List Int, (∀ x ∈ r, x.natAbs < 10 ^ 40) → ShdA (r.map PyData.int) 0 (141 * r.length)
  | [], _ => .nil
  | x :: r, h => ((ShdA.cons (Shd.int (h x (by simp)) 0) (shd_ints r fun y hy => h y (by simp [hy]))).mono (Nat.le_refl _) (by rw [List.length_cons]; omega))
theorem shd_rows : ∀ T : List (List Int), (∀ r ∈ T, r.length ≤ 5 ∧ ∀ x ∈ r, x.natAbs < 10 ^ 40) → ShdA (T.map pdR) 1 (706 * T.length)
  | [], _ => .nil
  | r :: T, h => by
    obtain ⟨h1, h2⟩ := h r (by simp)
    have a := (shd_ints r h2).tup
    have b := ShdA.cons a (shd_rows T fun r' hr' => h r' (by simp [hr']))
    exact b.mono (Nat.le_refl _) (by rw [List.length_cons]; omega)
theorem Shd.fits {d : PyData} {k W : Nat} (h : Shd d k W) (hk : k < 60) (hW : W ≤ 100000) : d.showable = true ∧ d.hasDict = false ∧ d.depth < 60 ∧ d.shown.length ≤ sizeLine := by
  refine ⟨h.s1, h.s2, Nat.lt_of_le_of_lt h.s3 hk, ?_⟩
  have := PyData.shown_le 41 (by decide) d h.s4
  have := h.s5
  rw [sizeLine_eq]
  omega
/-! ### bounds -/
theorem in_abs {B : Nat} {x : Int} (h1 : -(B : Int) ≤ x) (h2 : x ≤ B) : x.natAbs ≤ B := by omega
theorem sum_abs {M : Nat} : ∀ l : List Int, (∀ x ∈ l, x.natAbs ≤ M) → l.sum.natAbs ≤ l.length * M
  | [], _ => by simp
  | x :: l, h => by
    have h1 := h x (by simp)
    have h2 := sum_abs l fun y hy => h y (by simp [hy])
    rw [List.sum_cons, List.length_cons, Nat.succ_mul]
    have := Int.natAbs_add_le x l.sum
    omega
theorem mul_abs {a b : Int} {A B : Nat} (h1 : a.natAbs ≤ A) (h2 : b.natAbs ≤ B) : (a * b).natAbs ≤ A * B := by
  rw [Int.natAbs_mul]
  exact Nat.mul_le_mul h1 h2
theorem getD_abs {c : List Int} (h : In (10 ^ 12) c) (i : Nat) : (c.getD i 0).natAbs ≤ 10 ^ 12 := by
  have := getD_in h (by decide) i
  rw [e12] at this
  exact in_abs this.1 this.2
theorem dotp_abs {A B : Nat} : ∀ xs ys : List Int, (∀ x ∈ xs, x.natAbs ≤ A) → (∀ y ∈ ys, y.natAbs ≤ B) → (dotp xs ys).natAbs ≤ xs.length * (A * B)
  | [], _, _, _ => by simp [dotp]
  | _ :: _, [], _, _ => by simp [dotp]
  | x :: xs, y :: ys, h1, h2 => by
    have a := mul_abs (h1 x (by simp)) (h2 y (by simp))
    have b := dotp_abs xs ys (fun z hz => h1 z (by simp [hz])) fun z hz => h2 z (by simp [hz])
    show (x * y + dotp xs ys).natAbs ≤ _
    rw [List.length_cons, Nat.succ_mul]
    have := Int.natAbs_add_le (x * y) (dotp xs ys)
    omega
theorem in_all {x : List Int} (h : In (10 ^ 12) x) : ∀ y ∈ x, y.natAbs ≤ 10 ^ 12 := fun y hy => by
  have := h y hy
  rw [e12] at this
  exact in_abs this.1 this.2
theorem in_all2 {x : List Int} (h : In (2 * 10 ^ 12) x) : ∀ y ∈ x, y.natAbs ≤ 2 * 10 ^ 12 := fun y hy => by
  have := h y hy
  rw [e12] at this
  exact in_abs this.1 this.2
theorem val_abs {n : Nat} {c x : List Int} (ok : Ok n c) (hc : In (10 ^ 12) c) (hx : In (10 ^ 12) x) : (valL c n x).natAbs < 10 ^ 40 := by
  have h := sum_abs (M := 10 ^ 12 * 10 ^ 12 * 10 ^ 12) ((List.range c.length).map fun k => c.getD k 0 * x.getD ((places n).getD k (0, 0)).1 0 * x.getD ((places n).getD k (0, 0)).2 0) (fun y hy => by
    obtain ⟨k, _, rfl⟩ := List.mem_map.mp hy
    exact mul_abs (mul_abs (getD_abs hc _) (getD_abs hx _)) (getD_abs hx _))
  rw [List.length_map, List.length_range] at h
  have h : (valL c n x).natAbs ≤ c.length * (10 ^ 12 * 10 ^ 12 * 10 ^ 12) := h
  rw [ok.len] at h
  have sl : sz n ≤ 15 := by
    have : ∀ m : Nat, m < 6 → sz m ≤ 15 := by decide +kernel
    exact this n (by have := ok.n5; omega)
  have : sz n * (10 ^ 12 * 10 ^ 12 * 10 ^ 12) ≤ 15 * (10 ^ 12 * 10 ^ 12 * 10 ^ 12) := Nat.mul_le_mul_right _ sl
  exact Nat.lt_of_le_of_lt (Nat.le_trans h this) (by decide +kernel)
theorem prod_abs {n : Nat} {c x y : List Int} (ok : Ok n c) (hc : In (10 ^ 12) c) (hx : In (10 ^ 12) x) (hy : In (10 ^ 12) y) (lx : x.length = n) : (prodT (tabT c n) x y).natAbs < 10 ^ 40 := by
  have n5 := ok.n5
  have h := dotp_abs (A := 10 ^ 12) (B := 5 * (2 * 10 ^ 12 * 10 ^ 12)) x ((tabT c n).map fun r => dotp r y) (in_all hx) (fun z hz => by
    obtain ⟨r, hr, rfl⟩ := List.mem_map.mp hz
    obtain ⟨r1, r2⟩ := tab_rows hc n r hr
    refine Nat.le_trans (dotp_abs r y (in_all2 r2) (in_all hy)) ?_
    rw [r1]
    exact Nat.mul_le_mul_right _ n5)
  rw [lx] at h
  have : n * (10 ^ 12 * (5 * (2 * 10 ^ 12 * 10 ^ 12))) ≤ 5 * (10 ^ 12 * (5 * (2 * 10 ^ 12 * 10 ^ 12))) := Nat.mul_le_mul_right _ n5
  exact Nat.lt_of_le_of_lt (Nat.le_trans h this) (by decide +kernel)
theorem cont_abs {c : List Int} (hc : In (10 ^ 12) c) : (contL c).natAbs < 10 ^ 40 := by
  have key : ∀ (l : List Int) (z : Int), z.natAbs ≤ 10 ^ 12 → (∀ y ∈ l, y.natAbs ≤ 10 ^ 12) → (l.foldl (fun a b => ((Int.gcd a b : Nat) : Int)) z).natAbs ≤ 10 ^ 12 := by
    intro l
    induction l with
    | nil => intro z h _; exact h
    | cons x l ih =>
      intro z h hl
      refine ih _ ?_ fun y hy => hl y (by simp [hy])
      show Nat.gcd z.natAbs x.natAbs ≤ 10 ^ 12
      by_cases e : z.natAbs = 0
      · rw [e, Nat.gcd_zero_left]; exact hl x (by simp)
      · exact Nat.le_trans (Nat.gcd_le_left _ (by omega)) h
  exact Nat.lt_of_le_of_lt (key c 0 (by decide) (in_all hc)) (by decide +kernel)
/-! ### max and min of a tuple of integers -/
theorem lt_int (a b : Int) : W.DatumOrd.lt a b = decide (a < b) := rfl
theorem max_of : ∀ (xs : List Int) (x : Int), (∀ y ∈ x :: xs, y ≤ W.maxOf x xs) := by
  intro xs
  induction xs with
  | nil => intro x y hy; rw [List.mem_singleton.mp hy]; exact Int.le_refl _
  | cons z xs ih =>
    intro x y hy
    show y ≤ W.maxOf (if W.DatumOrd.lt x z = true then z else x) xs
    rw [lt_int]
    have top : ∀ v : Int, x ≤ v → z ≤ v → v = (if decide (x < z) = true then z else x) → y ≤ W.maxOf v xs := fun v h1 h2 _ => by
      have h0 := ih v v (by simp)
      rcases List.mem_cons.mp hy with rfl | hy
      · omega
      · rcases List.mem_cons.mp hy with rfl | hy
        · omega
        · exact ih v y (by simp [hy])
    refine top _ ?_ ?_ rfl
    · split <;> rename_i h <;> simp at h <;> omega
    · split <;> rename_i h <;> simp at h <;> omega
theorem min_of : ∀ (xs : List Int) (x : Int), (∀ y ∈ x :: xs, W.minOf x xs ≤ y) := by
  intro xs
  induction xs with
  | nil => intro x y hy; rw [List.mem_singleton.mp hy]; exact Int.le_refl _
  | cons z xs ih =>
    intro x y hy
    show W.minOf (if W.DatumOrd.lt z x = true then z else x) xs ≤ y
    rw [lt_int]
    have top : ∀ v : Int, v ≤ x → v ≤ z → v = (if decide (z < x) = true then z else x) → W.minOf v xs ≤ y := fun v h1 h2 _ => by
      have h0 := ih v v (by simp)
      rcases List.mem_cons.mp hy with rfl | hy
      · omega
      · rcases List.mem_cons.mp hy with rfl | hy
        · omega
        · exact ih v y (by simp [hy])
    refine top _ ?_ ?_ rfl
    · split <;> rename_i h <;> simp at h <;> omega
    · split <;> rename_i h <;> simp at h <;> omega
section
variable {X : Cx}
def rMaxT (K : PySem.W.Frag) : List V → Hp → VK → Prop := fun vs H Q => ∃ (a : Addr) (ns : List Int), vs = [V.ref a] ∧ SqT K H a (iV ns) ∧ 0 < ns.length ∧ ∀ m : Int, (∀ y ∈ ns, y ≤ m) → Q (.int m) H
def rMinT (K : PySem.W.Frag) : List V → Hp → VK → Prop := fun vs H Q => ∃ (a : Addr) (ns : List Int), vs = [V.ref a] ∧ SqT K H a (iV ns) ∧ 0 < ns.length ∧ ∀ m : Int, (∀ y ∈ ns, m ≤ y) → Q (.int m) H
theorem holds_is {h : Heap} {v : Value} {m : Int} (H : PySem.W.Holds h v m) : ∃ t, v = .int m t := by
  obtain ⟨as, r⟩ := H
  cases r
  exact ⟨_, rfl⟩
theorem cr_maxT (hc : X.calm = true) (hu : X.A.units + 1 < cLine) : CallR X (.builtin "max") (rMaxT X.K) := by
  intro pins s σ H vs us Q I r h
  obtain ⟨a, ns, rfl, hs, hne, q⟩ := h
  obtain ⟨its, rv, hl, _⟩ := I.tuple hs
  rw [Vals.ref1 r]
  cases ns with
  | nil => cases hne
  | cons x xs =>
    exact PySem.W.max_tuple_datum (I.ok.hd hc) hl (PySem.W.HoldAll.of_ints rv.ints) hu fun i v h' tk _ hv hk => by
      obtain ⟨t, rfl⟩ := holds_is hv
      exact ⟨.int _, H, I.kept hk, ⟨_, rfl⟩, q _ (max_of xs x)⟩
theorem cr_minT (hc : X.calm = true) (hu : X.A.units + 1 < cLine) : CallR X (.builtin "min") (rMinT X.K) := by
  intro pins s σ H vs us Q I r h
  obtain ⟨a, ns, rfl, hs, hne, q⟩ := h
  obtain ⟨its, rv, hl, _⟩ := I.tuple hs
  rw [Vals.ref1 r]
  cases ns with
  | nil => cases hne
  | cons x xs =>
    exact PySem.W.min_tuple_datum (I.ok.hd hc) hl (PySem.W.HoldAll.of_ints rv.ints) hu fun i v h' tk _ hv hk => by
      obtain ⟨t, rfl⟩ := holds_is hv
      exact ⟨.int _, H, I.kept hk, ⟨_, rfl⟩, q _ (min_of xs x)⟩
end
/-! ### a method, its arguments by name alone -/
section
variable {X : Cx} {CX : CXT} {k : Nat} {f C : Addr} {fd : FuncData} {ps ks : List Str} {sp : Sp} {E : XK} {m : Str} {pos apos : Pos} {o : Expr} {kws : List Keyword} {ta : TE} {tk : TA} {g : List Value → List Value → List Value} {gV : List V → List V → List V}
def tMethO (C : Addr) (m : Str) (sp : Sp) (gV : List V → List V → List V) (n : Nat) (E : XK) (ta : TE) (tk : TA) : TE := fun σ H Q => ta σ H fun x H1 => ∃ a dx fs, x = .ref a ∧ H1 a = some (.ins C dx fs) ∧ fs.lookup m = none ∧
  tk σ H1 fun zs H2 => zs.length = n ∧ sp (gV [x] zs) H2 Q E
theorem pe_methO {pl : Sem Bool} (he : PE X o ta) (c : Cls X.K C) (hm : Meth X.K C m f) (F : FnOk X.prog X.w X.K X.mg X.base CX k f fd ps sp) (hr : Room k X.A) (hb : KBn X.K fd ps 1 ks g gV) (hx : Passes CX X E) (hkw : PK X kws tk)
    (hnm : (backToKw pos (keywordEach kws X.env)).all (·.1.isSome) = true := by rfl) (hks : (backToKw pos (keywordEach kws X.env)).filterMap (·.1) = ks := by rfl)
    (hst : ((backTo pos (starEach [] X.env)).any (·.1) || (backToKw pos (keywordEach kws X.env)).any (·.1.isNone)) = false := by rfl)
    (ht : eval (.Call (.Attribute o m apos) [] kws pos) X.env = (do
      let ov ← eval o X.env
      standAt apos.atName
      let (f, first) ← holding [ov] (getMethod ov m pl)
      callWith pos f first (backTo pos (starEach [] X.env)) (backToKw pos (keywordEach kws X.env))) := by rfl) :
    PE X (.Call (.Attribute o m apos) [] kws pos) (tMethO C m sp gV ks.length E ta tk) := by
  refine ⟨fun pins s σ H Q I h => ?_⟩
  refine PySem.W.methodCall_KW (pl := pl) (thn (he.run pins s σ H _ I h) fun u s1 ⟨x, H1, I1, rx, a, dx, fs, ex, ea, l, q⟩ => ?_) ht
  subst ex
  obtain rfl : u = Value.ref a := rx
  refine getmeth_ok I1 ea c hm l ?_
  refine PySem.W.callWith_KW0 (first := [.ref a]) (h₀ := X.base) I.ok.mod.kin hm.kp hnm ?_ hst
  refine thn (hkw.run pos pins s1 σ H1 _ I1 q) fun wv s2 ⟨zs, H2, I2, rz, lz, q2⟩ => ⟨I2.kIn, ?_⟩
  rw [hks]
  have r2 := hb.rel (.cons (show RelV (.ref a) (.ref a) from rfl) .nil) rz
  refine wpAny_call (codeAny_mono (F.run X.A X.stack s2 H2 ⟨[.ref a], ks.zip wv⟩ _ _ Q E hr I2.env0 (hb.to s2 [.ref a] wv I2.kIn rfl (rz.length.symm.trans lz)) r2 q2) fun r s' hq => ?_)
  have z := Gu.ends hx I2 hq
  cases r with
  | error e => exact z
  | ok fl => cases fl <;> exact z
end
end K02

namespace K02
open PySem PySem.Spec PyProof.Rows L2
theorem ne_ite {c A B : Prop} [Decidable c] (h1 : ¬ c → A) (h2 : c → B) : if (!decide c) = true then A else B := by
  by_cases h : c
  · rw [decide_eq_true h]; exact h2 h
  · rw [decide_eq_false h]; exact h1 h
def bodyOf : Stmt → List Stmt
  | .For _ _ body _ _ => body
  | _ => []
def gw1 : List Value → List Value → List Value := fun us ws => [us.getD 0 .none, ws.getD 0 .none]
def gv1 : List V → List V → List V := fun vs zs => [vs.getD 0 .non, zs.getD 0 .non]
def gw2 : List Value → List Value → List Value := fun us ws => [us.getD 0 .none, ws.getD 1 .none, ws.getD 0 .none]
def gv2 : List V → List V → List V := fun vs zs => [vs.getD 0 .non, zs.getD 1 .non, zs.getD 0 .non]
structure Tl (P : Program) (w : World) (K : PySem.W.Frag) (mg : Str → Option Value) (base : Heap) (C fI pT gT pC gC pE gE gv gp fD fO fA fL fP fC fV fW fE : Addr) (dI dT dC dE dv dp eD eO eA eL eP eC eV eW eE : FuncData) : Prop where
  c0 : Cls K C
  hM : Mk K C fI
  I : FnOk P w K mg base CX0 5 fI dI ["self", "coefficients"] (spInit C)
  mF : mg "Form" = some (.ref C)
  bI : Binds K dI ["self", "coefficients"] []
  T : FnOk P w K mg base CX0 4 gT dT ["self"] (spTab C)
  hT : PropOf K C "table" pT gT
  bT : Binds K dT ["self"] []
  Cn : FnOk P w K mg base CX0 1 gC dC ["self"] (spCont C)
  hC : PropOf K C "content" pC gC
  bC : Binds K dC ["self"] []
  Ev : FnOk P w K mg base CX0 6 gE dE ["self"] (spEven C)
  hE : PropOf K C "is_even_between" pE gE
  bE : Binds K dE ["self"] []
  V : FnOk P w K mg base CX0 6 gv dv ["self", "vector"] (spValue C)
  hV : Meth K C "value" gv
  bV : Binds K dv ["self", "vector"] []
  wV : KBn K dv ["self", "vector"] 1 ["vector"] gw1 gv1
  Pr : FnOk P w K mg base CX0 6 gp dp ["self", "vector", "other"] (spProduct C)
  hP : Meth K C "product" gp
  bP : Binds K dp ["self", "vector", "other"] []
  wP : KBn K dp ["self", "vector", "other"] 1 ["other", "vector"] gw2 gv2
  D : FnOk P w K mg base CX0 1 fD eD ["_law_jar_here", "_law_top"] spDip
  mD : mg "_law_dip" = some (.ref fD)
  kD : PySem.W.keepIn K (.ref fD) = true
  bD : Binds K eD ["_law_jar_here", "_law_top"] []
  O : FnOk P w K mg base CX0 2 fO eO ["_law_jar_here", "_law_some"] spOneOf
  mO : mg "_law_one_of" = some (.ref fO)
  kO : PySem.W.keepIn K (.ref fO) = true
  bO : Binds K eO ["_law_jar_here", "_law_some"] []
  A : FnOk P w K mg base CX0 2 fA eA ["_law_jar_here", "_law_size_here", "_law_most"] spAny
  mA : mg "_law_any" = some (.ref fA)
  kA : PySem.W.keepIn K (.ref fA) = true
  bA : Binds K eA ["_law_jar_here", "_law_size_here", "_law_most"] []
  L : FnOk P w K mg base CX0 2 fL eL ["_law_own"] spLTable
  mL : mg "_law_table" = some (.ref fL)
  kL : PySem.W.keepIn K (.ref fL) = true
  bL : Binds K eL ["_law_own"] []
  Pl : FnOk P w K mg base CX0 1 fP eP ["_law_size_here"] spPlaces
  mP : mg "_law_places" = some (.ref fP)
  kP : PySem.W.keepIn K (.ref fP) = true
  bPl : Binds K eP ["_law_size_here"] []
  Ct : FnOk P w K mg base CX0 2 fC eC ["_law_own"] spContent
  mC : mg "_law_content" = some (.ref fC)
  kC : PySem.W.keepIn K (.ref fC) = true
  bCt : Binds K eC ["_law_own"] []
  Ve : FnOk P w K mg base CX0 3 fV eV ["_law_jar_here", "_law_size_here"] spVector
  mV : mg "_law_vector" = some (.ref fV)
  kV : PySem.W.keepIn K (.ref fV) = true
  bVe : Binds K eV ["_law_jar_here", "_law_size_here"] []
  Va : FnOk P w K mg base CX0 2 fW eW ["_law_own", "_law_vector_here"] spLValue
  mW : mg "_law_value" = some (.ref fW)
  kW : PySem.W.keepIn K (.ref fW) = true
  bVa : Binds K eW ["_law_own", "_law_vector_here"] []
  Le : FnOk P w K mg base CX0 1 fE eE ["_law_change", "_law_vector_here"] spLed
  mE : mg "_law_led" = some (.ref fE)
  kE : PySem.W.keepIn K (.ref fE) = true
  bLe : Binds K eE ["_law_change", "_law_vector_here"] []
  n_tuple : mg "tuple" = none
  n_max : mg "max" = none
  n_min : mg "min" = none
  n_repr : mg "repr" = none
  n_range : mg "range" = none
  n_len : mg "len" = none
  n_int : mg "int" = none
  n_sum : mg "sum" = none
def teDue (K : PySem.W.Frag) : TE := tOp rMulI (tOp (rIxT K) (tVar 11) (tVar 15)) (tOp (rIxT K) (tCall spLed [] E0 (tCons (tVar 5) (tCons (tVar 12) tNil))) (tVar 15))
theorem led_abs {n : Nat} {c y : List Int} (ok : Ok n c) (hc : In (10 ^ 12) c) (hy : In (10 ^ 12) y) : True := trivial
section
variable {P : Program} {w : World} {K : PySem.W.Frag} {mg : Str → Option Value} {base : Heap}
variable {C fI pT gT pC gC pE gE gv gp fD fO fA fL fP fC fV fW fE : Addr} {dI dT dC dE dv dp eD eO eA eL eP eC eV eW eE : FuncData}
abbrev Nr : List Str := ["_law_jar_here", "_law_turn", "_law_size_here", "_law_own", "_law_mine", "_law_table_here", "_law_pairs_here", "_law_between", "_law_even", "_law_told", "_law_again", "_law_one", "_law_two", "_law_due", "_law_each", "_law_k"]
abbrev outB : List Stmt := bodyOf ((defBody sRight).getD 0 (.Pass ⟨0, 0, 0, 0⟩))
theorem againOk {f : Addr} {cdv : Value} {A : Around} {out : List Env} {s : Shared} {H : Hp} {E : XK} (T0 : Tl P w K mg base C fI pT gT pC gC pE gE gv gp fD fO fA fL fP fC fV fW fE dI dT dC dE dv dp eD eO eA eL eP eC eV eW eE)
    (hG : (A.deeper (envOfC "_law_right" (defScope sRight) s.heap.objs.size f cdv)).guards = some []) (hr : Room 7 (A.deeper (envOfC "_law_right" (defScope sRight) s.heap.objs.size f cdv))) :
    ∃ t, PSs (cxOf CX0 P w K mg base Nr "_law_right" (defScope sRight) f cdv A out s H E).nox (outB.drop 9) t ∧
      ∀ (Dn : Ends) (ch a m tb : Addr) (n : Nat) (c : List Int) (B : Nat) (x1 x6 x7 x8 x9 x10 x11 x12 x13 x14 x15 : Option V) (H1 : Hp), Ok n c → In (10 ^ 12) c → H1 a = some (.tup (iV c)) → Fo C H1 m n c → Tab H1 tb (tabT c n) → WB H1 ch B → B ≤ 900000 →
        (∀ H' y9 y10 y11 y12 y13 y14 y15, But ch H1 H' → WB H' ch (B + 320) → Dn.nx [some (.ref ch), x1, some (.int n), some (.ref a), some (.ref m), some (.ref tb), x6, x7, x8, y9, y10, y11, y12, y13, y14, y15] H') →
        t Dn [some (.ref ch), x1, some (.int n), some (.ref a), some (.ref m), some (.ref tb), x6, x7, x8, x9, x10, x11, x12, x13, x14, x15] H1 := by
  have hu : (A.deeper (envOfC "_law_right" (defScope sRight) s.heap.objs.size f cdv)).units + 64 < cLine := by have := hr.units; omega
  have nd := scRight.nd
  refine ⟨_, pss_one (ps_for PassesOwn.never rfl (pi_range1 rfl T0.n_range (pa_cons pe_int pa_nil)) (pg_name (i := 10) nd rfl (.inl rfl))
      (pss_cons (ps_asg (pe_tup (pa_cons (pe_call T0.Ve (hr.mono (by decide)) (by rfl) T0.mV T0.kV T0.bVe .nil pass0 (pa_cons (pv 0) (pa_cons (pv 2) pa_nil))) (pa_cons (pe_call T0.Ve (hr.mono (by decide)) (by rfl) T0.mV T0.kV T0.bVe .nil pass0 (pa_cons (pv 0) (pa_cons (pv 2) pa_nil))) pa_nil)))
          (pg_tup rfl (pgs_cons (pg_name (i := 11) nd rfl (.inr rfl)) (pgs_cons (pg_name (i := 12) nd rfl (.inr rfl)) pgs_nil))))
      (pss_cons (ps_set (i := 13) nd rfl (.inl rfl) (pe_call T0.Va (hr.mono (by decide)) (by rfl) T0.mW T0.kW T0.bVa .nil pass0 (pa_cons (pv 3) (pa_cons (pv 11) pa_nil))))
      (pss_cons (ps_if (pt_cmpR op_ne (pe_callB (Gu.call_reprD hG hu) (by rfl) T0.n_repr boot_repr (pa_cons (pe_lst (pa_cons (pe_meth (pv 4) T0.c0 T0.hV T0.V (hr.mono (by decide)) T0.bV .nil pass0 (pa_cons (pv 11) pa_nil)) (pa_cons (pe_methO (pv 4) T0.c0 T0.hV T0.V (hr.mono (by decide)) T0.wV pass0 (pk_cons (pv 11) pk_nil)) pa_nil))) pa_nil))
            (pe_callB (Gu.call_reprD hG hu) (by rfl) T0.n_repr boot_repr (pa_cons (pe_lst (pa_cons (pv 13) (pa_cons (pv 13) pa_nil))) pa_nil)) (nomark _)) (pss_one (ps_ret pe_bl)) pss_nil)
      (pss_cons (ps_set (i := 13) nd rfl (.inl rfl) (pe_callB (cr_sum rfl) (by rfl) T0.n_sum boot_sum (pa_cons (pe_lc (own := [("_law_k", 15)]) (g := gName 15) (tt := tYes) (te := teDue K) rfl nd (pi_range1 rfl T0.n_range (pa_cons (pv 2) pa_nil))
          (blkOk_by (N := Nr) (sc := defScope sRight) (by decide +kernel)) (fun _ _ _ _ _ => pg_name (i := 15) nd rfl (.inl rfl)) (fun _ _ _ _ _ => pts_nil)
          (fun _ _ _ _ _ => by exact pe_op op_mul (pe_ix ix_tup (pv 11) (pv 15) (fun _ _ => rfl)) (pe_ix ix_tup (pe_call T0.Le (hr.mono (by decide)) (by rfl) T0.mE T0.kE T0.bLe .nil pass0 (pa_cons (pv 5) (pa_cons (pv 12) pa_nil))) (pv 15) (fun _ _ => rfl)))) pa_nil)))
      (pss_cons (ps_set (i := 9) nd rfl (.inl rfl) (pe_lst (pa_cons (pe_meth (pv 4) T0.c0 T0.hP T0.Pr (hr.mono (by decide)) T0.bP .nil pass0 (pa_cons (pv 11) (pa_cons (pv 12) pa_nil))) (pa_cons (pe_methO (pv 4) T0.c0 T0.hP T0.Pr (hr.mono (by decide)) T0.wP pass0 (pk_cons (pv 12) (pk_cons (pv 11) pk_nil))) (pa_cons (pe_meth (pv 4) T0.c0 T0.hP T0.Pr (hr.mono (by decide)) T0.bP .nil pass0 (pa_cons (pv 12) (pa_cons (pv 11) pa_nil))) pa_nil)))))
      (pss_one (ps_if (PW.pt (pw_or (pt_cmpR op_ne (pe_callB (Gu.call_reprD hG hu) (by rfl) T0.n_repr boot_repr (pa_cons (pv 9) pa_nil)) (pe_callB (Gu.call_reprD hG hu) (by rfl) T0.n_repr boot_repr (pa_cons (pe_lst (pa_cons (pv 13) (pa_cons (pv 13) (pa_cons (pv 13) pa_nil)))) pa_nil)) (nomark _))
            (pw_or1 (pt_cmpR op_ne (pe_meth (pv 4) T0.c0 T0.hP T0.Pr (hr.mono (by decide)) T0.bP .nil pass0 (pa_cons (pv 11) (pa_cons (pv 11) pa_nil))) (pe_op op_mul pe_int (pe_meth (pv 4) T0.c0 T0.hV T0.V (hr.mono (by decide)) T0.bV .nil pass0 (pa_cons (pv 11) pa_nil))) (nomark _))))) (pss_one (ps_ret pe_bl)) pss_nil)))))))), ?_⟩
  intro Dn ch a m tb n c B x1 x6 x7 x8 x9 x10 x11 x12 x13 x14 x15 H1 ok hc ha fo ht wb hB k
  have n5 := ok.n5
  refine ⟨4, rfl, by decide, by decide, for_range (n := ((4 : Int).toNat)) (fun i σ H' => But ch H1 H' ∧ WB H' ch (B + 80 * i) ∧ ∃ y9 y10 y11 y12 y13 y14 y15, σ = [some (.ref ch), x1, some (.int n), some (.ref a), some (.ref m), some (.ref tb), x6, x7, x8, y9, y10, y11, y12, y13, y14, y15])
    ⟨.refl, wb, _, _, _, _, _, _, _, rfl⟩ ?_ ?_⟩
  · rintro i σ H2 hi ⟨bt2, wb2, y9, y10, y11, y12, y13, y14, y15, rfl⟩
    have i4 : i < 4 := hi
    have rows : ∀ v : List Int, v.length = n → ∀ r ∈ tabT c n, r.length = v.length ∧ In (2 * 10 ^ 12) r := fun v hv r hr' => ⟨(tab_rows hc n r hr').1.trans hv.symm, (tab_rows hc n r hr').2⟩
    refine ⟨.ref ch, rfl, .int n, rfl, ch, n, B + 80 * i, rfl, n5, wb2, by omega, fun H3 b1 v1 bt3 wb3 hb1 lv1 in1 => ⟨.ref ch, rfl, .int n, rfl, ch, n, B + 80 * i + 40, rfl, n5, wb3, by omega, fun H4 b2 v2 bt4 wb4 hb2 lv2 in2 => ⟨l2, fun t nt => ⟨t, _, rfl, .inl (.inl upd_same), rfl, _, _, rfl, _, _, rfl, rfl, ?_⟩⟩⟩⟩
    have s5 := same_new (o := .tup [.ref b1, .ref b2]) nt
    have bt5 : But ch H1 (upd H4 t (.tup [.ref b1, .ref b2])) := bt2.trans (bt3.trans (bt4.trans (But.same s5)))
    have hb1' := s5 _ _ (bt4.tup wb3 hb1)
    have hb2' := s5 _ _ hb2
    have wb5 := wb4.same s5
    generalize upd H4 t (.tup [.ref b1, .ref b2]) = H5 at *
    have ha5 := bt5.tup wb ha
    have fo5 := fo.but wb bt5
    have ht5 := ht.but wb bt5
    obtain ⟨dx, ca, hm5, _⟩ := id fo5
    refine ⟨.ref a, rfl, .ref b1, rfl, a, b1, n, c, v1, rfl, ha5, hb1', ok, lv1, hc, in1, fun H6 s6 => ?_⟩
    -- values
    refine ⟨.ref m, rfl, m, dx, _, rfl, s6 _ _ hm5, rfl, .ref b1, rfl, m, b1, n, c, v1, rfl, fo5.same s6, s6 _ _ hb1', lv1, in1, fun H7 s7 => ?_⟩
    have s67 := s6.trans s7
    refine ⟨.ref m, rfl, m, dx, _, rfl, s67 _ _ hm5, rfl, .ref b1, rfl, rfl, m, b1, n, c, v1, rfl, fo5.same s67, s67 _ _ hb1', lv1, in1, fun H8 s8 => ⟨l2, fun L nL => ?_⟩⟩
    have s9 := same_new (o := .lst [.int (valL c n v1), .int (valL c n v1)]) nL
    have sv := (ShdA.cons (Shd.int (val_abs ok hc in1) 0) (ShdA.cons (Shd.int (val_abs ok hc in1) 0) (.nil (W := 0)))).lst.fits (by decide) (by decide)
    obtain ⟨v1', v2', v3', v4'⟩ := sv
    refine ⟨L, _, rfl, .lst (.inl (.inl upd_same)) (.cons (.int _) (.cons (.int _) .nil)), v1', v2', v3', v4', .int (valL c n v1), rfl, .int (valL c n v1), rfl, l2, fun L2 nL2 => ?_⟩
    have s10 := same_new (o := .lst [.int (valL c n v1), .int (valL c n v1)]) nL2
    refine ⟨L2, _, rfl, .lst (.inl (.inl upd_same)) (.cons (.int _) (.cons (.int _) .nil)), v1', v2', v3', v4', rfl, _, rfl, ne_ite (fun z => absurd rfl z) (fun _ => ?_)⟩
    have s11 := s67.trans (s8.trans (s9.trans s10))
    generalize upd (upd H8 L (.lst [.int (valL c n v1), .int (valL c n v1)])) L2 (.lst [.int (valL c n v1), .int (valL c n v1)]) = H11 at *
    -- the sum
    have hb1b := s11 _ _ hb1'
    have hb2b := s11 _ _ hb2'
    have ht11 := ht5.same s11
    have lled : (ledL (tabT c n) v2).length = n := by unfold ledL; rw [List.length_map, tab_len]
    refine ⟨.int n, rfl, n, rfl, by omega, by omega, fun D nD => lc_range (lo := 0) (n := ((n : Int).toNat)) (fun j H' => Gr H11 D (iV ((List.range n).map fun k => v1.getD k 0 * (ledL (tabT c n) v2).getD k 0)) j H') (Gr.init nD) ?_ ?_⟩
    · intro j H12 hj g
      have jn : j < n := by simpa using hj
      have e0 : (0 : Int) + (j : Int) = (j : Int) := by omega
      obtain ⟨q1, q2⟩ := getD_in in1 (by decide) j
      rw [e12] at q1 q2
      refine ⟨rfl, .ref b1, rfl, .int (0 + (j : Int)), rfl, b1, iV v1, _, .int (v1.getD j 0), rfl, rfl, .inl (.inl (g.s _ _ hb1b)), by rw [e0]; exact atI_nat (iV_at (getD_at (by omega))), .ref tb, rfl, .ref b2, rfl, tb, b2, tabT c n, v2, rfl, ht11.same g.s, g.s _ _ hb2b, by rw [tab_len]; omega, rows v2 lv2, by omega, fun H13 q s13 hq => ?_⟩
      refine ⟨.int (0 + (j : Int)), rfl, q, iV (ledL (tabT c n) v2), _, .int ((ledL (tabT c n) v2).getD j 0), rfl, rfl, .inl (.inl hq), by rw [e0]; exact atI_nat (iV_at (getD_at (by omega))), _, _, rfl, rfl, .inl ⟨by omega, by omega⟩, ?_⟩
      refine g.step nD s13 (iV_at ?_) (by rw [iV_len, List.length_map, List.length_range]; omega)
      rw [List.getElem?_map, List.getElem?_range jn]
      rfl
    · intro H12 g
      refine ⟨D, _, rfl, .inl (.inl (g.done (by rw [iV_len, List.length_map, List.length_range]; simp))), ?_⟩
      have edue : ((List.range n).map fun k => v1.getD k 0 * (ledL (tabT c n) v2).getD k 0).sum = prodT (tabT c n) v1 v2 := due_eq (fun r hr' => (rows v2 lv2 r hr').1) (tab_len c n) lv1
      rw [edue]
      have s12 := s11.trans g.s
      have fo12 := fo5.same s12
      -- products
      refine ⟨.ref m, rfl, m, dx, _, rfl, s12 _ _ hm5, rfl, .ref b1, rfl, .ref b2, rfl, m, b1, b2, n, c, v1, v2, rfl, fo12, s12 _ _ hb1', s12 _ _ hb2', lv1, lv2, in1, in2, fun H13 s13 => ?_⟩
      have s14 := s12.trans s13
      refine ⟨.ref m, rfl, m, dx, _, rfl, s14 _ _ hm5, rfl, .ref b2, rfl, .ref b1, rfl, rfl, m, b1, b2, n, c, v1, v2, rfl, fo5.same s14, s14 _ _ hb1', s14 _ _ hb2', lv1, lv2, in1, in2, fun H14 s15 => ?_⟩
      have s16 := s14.trans s15
      refine ⟨.ref m, rfl, m, dx, _, rfl, s16 _ _ hm5, rfl, .ref b2, rfl, .ref b1, rfl, m, b2, b1, n, c, v2, v1, rfl, fo5.same s16, s16 _ _ hb2', s16 _ _ hb1', lv2, lv1, in2, in1, fun H15 s17 => ⟨l3, fun L3 nL3 => ?_⟩⟩
      rw [sym_eq ok lv2 lv1]
      have s18 := s16.trans (s17.trans (same_new (o := .lst [.int (prodT (tabT c n) v1 v2), .int (prodT (tabT c n) v1 v2), .int (prodT (tabT c n) v1 v2)]) nL3))
      have hp := prod_abs ok hc in1 in2 lv1
      obtain ⟨p1, p2, p3, p4⟩ := (ShdA.cons (Shd.int hp 0) (ShdA.cons (Shd.int hp 0) (ShdA.cons (Shd.int hp 0) (.nil (W := 0))))).lst.fits (by decide) (by decide)
      refine ⟨.ref L3, rfl, L3, _, rfl, .lst (.inl (.inl upd_same)) (.cons (.int _) (.cons (.int _) (.cons (.int _) .nil))), p1, p2, p3, p4, .int (prodT (tabT c n) v1 v2), rfl, .int (prodT (tabT c n) v1 v2), rfl, .int (prodT (tabT c n) v1 v2), rfl, l3, fun L4 nL4 => ?_⟩
      have s19 := s18.trans (same_new (o := .lst [.int (prodT (tabT c n) v1 v2), .int (prodT (tabT c n) v1 v2), .int (prodT (tabT c n) v1 v2)]) nL4)
      refine ⟨L4, _, rfl, .lst (.inl (.inl upd_same)) (.cons (.int _) (.cons (.int _) (.cons (.int _) .nil))), p1, p2, p3, p4, rfl, _, rfl, ne_ite (fun z => absurd rfl z) (fun _ => ?_)⟩
      generalize upd (upd H15 L3 (.lst [.int (prodT (tabT c n) v1 v2), .int (prodT (tabT c n) v1 v2), .int (prodT (tabT c n) v1 v2)])) L4 (.lst [.int (prodT (tabT c n) v1 v2), .int (prodT (tabT c n) v1 v2), .int (prodT (tabT c n) v1 v2)]) = H16 at *
      refine ⟨.ref m, rfl, m, dx, _, rfl, s19 _ _ hm5, rfl, .ref b1, rfl, .ref b1, rfl, m, b1, b1, n, c, v1, v1, rfl, fo5.same s19, s19 _ _ hb1', s19 _ _ hb1', lv1, lv1, in1, in1, fun H17 s20 => ?_⟩
      have s21 := s19.trans s20
      refine ⟨.ref m, rfl, m, dx, _, rfl, s21 _ _ hm5, rfl, .ref b1, rfl, m, b1, n, c, v1, rfl, fo5.same s21, s21 _ _ hb1', lv1, in1, fun H18 s22 => ?_⟩
      refine ⟨2, _, rfl, rfl, .inl ⟨by decide, by decide⟩, rfl, _, rfl, ne_ite (fun z => absurd (congrArg V.int (val_eq ok lv1)) z) (fun _ => ?_)⟩
      have s23 := s21.trans s22
      exact ⟨bt5.trans (But.same s23), (wb5.same s23).mono (by omega), _, _, _, _, _, _, _, rfl⟩
  · rintro σ H2 ⟨bt2, wb2, y9, y10, y11, y12, y13, y14, y15, rfl⟩
    exact k _ _ _ _ _ _ _ _ bt2 wb2
end
end K02

namespace K02
open PySem PySem.Spec PyProof.Rows L2
theorem filt_succ (i : Nat) (p : Nat → Bool) (f : Nat → Int) : ((List.range (i + 1)).filter p).map f = ((List.range i).filter p).map f ++ (if p i = true then [f i] else []) := by
  rw [List.range_succ, List.filter_append, List.map_append]
  by_cases h : p i = true
  · rw [if_pos h, List.filter_cons, if_pos h]; rfl
  · rw [if_neg h, List.filter_cons, if_neg h]; rfl
theorem odds_take {l : List Int} {i : Nat} {v : Int} (h : l[i]? = some v) : odds (l.take (i + 1)) = odds (l.take i) ++ (if v % 2 = 1 then [v] else []) := by
  rw [List.take_succ, h]
  unfold odds
  rw [List.filter_append]
  congr 1
  by_cases e : v % 2 = 1
  · rw [if_pos e]; simp [e]
  · rw [if_neg e]; simp [e]
theorem odds_len (l : List Int) : (odds l).length ≤ l.length := List.length_filter_le _ _
theorem ints_shaped (l : List Int) : SeqAt.shaped (.list (l.map PyData.int)) = true := by
  have h1 : ∀ l : List Int, PyData.canLayAll0 (l.map PyData.int) = true := by
    intro l
    induction l with
    | nil => rfl
    | cons x l ih =>
      show (PyData.canLay0 (.int x) && PyData.canLayAll0 (l.map PyData.int)) = true
      rw [ih]; rfl
  have h2 : ∀ l : List Int, PyData.depthAll (l.map PyData.int) = 0 := by
    intro l
    induction l with
    | nil => rfl
    | cons x l ih =>
      show PyData.depthAll (PyData.int x :: l.map PyData.int) = 0
      rw [PyData.depthAll.eq_2, ih]; rfl
  show (PyData.canLayAll0 (l.map PyData.int) && decide (PyData.depthAll (l.map PyData.int) + 1 ≤ 64)) = true
  rw [h1, h2]; rfl
theorem eqv_nil (l : List Int) : PyData.eqv (.list (l.map PyData.int)) (.list []) = decide (l = []) := by
  cases l with
  | nil => rfl
  | cons x l => rfl
def ttBet (K : PySem.W.Frag) : TT := tTest (tOp rNe (tOp (rIxT K) (tOp (rIxL K) (tVar 6) (tVar 15)) (tC (.int 0))) (tOp (rIxT K) (tOp (rIxL K) (tVar 6) (tVar 15)) (tC (.int 1))))
section
variable {P : Program} {w : World} {K : PySem.W.Frag} {mg : Str → Option Value} {base : Heap}
variable {C fI pT gT pC gC pE gE gv gp fD fO fA fL fP fC fV fW fE : Addr} {dI dT dC dE dv dp eD eO eA eL eP eC eV eW eE : FuncData}
theorem middleOk {f : Addr} {cdv : Value} {A : Around} {out : List Env} {s : Shared} {H : Hp} {E : XK} (T0 : Tl P w K mg base C fI pT gT pC gC pE gE gv gp fD fO fA fL fP fC fV fW fE dI dT dC dE dv dp eD eO eA eL eP eC eV eW eE)
    (hG : (A.deeper (envOfC "_law_right" (defScope sRight) s.heap.objs.size f cdv)).guards = some []) (hr : Room 7 (A.deeper (envOfC "_law_right" (defScope sRight) s.heap.objs.size f cdv))) :
    ∃ t, PSs (cxOf CX0 P w K mg base Nr "_law_right" (defScope sRight) f cdv A out s H E).nox (outB.drop 3) t ∧
      ∀ (Dn : Ends) (ch a : Addr) (n : Nat) (c : List Int) (B : Nat) (x1 x4 x5 x6 x7 x8 x9 x10 x11 x12 x13 x14 x15 : Option V) (H1 : Hp), Ok n c → In (10 ^ 12) c → H1 a = some (.tup (iV c)) → WB H1 ch B → B ≤ 800000 →
        (∀ H' y3 y4 y5 y6 y7 y8 y9 y10 y11 y12 y13 y14 y15, But ch H1 H' → WB H' ch (B + 320) → Dn.nx [some (.ref ch), x1, some (.int n), y3, y4, y5, y6, y7, y8, y9, y10, y11, y12, y13, y14, y15] H') →
        t Dn [some (.ref ch), x1, some (.int n), some (.ref a), x4, x5, x6, x7, x8, x9, x10, x11, x12, x13, x14, x15] H1 := by
  have hu : (A.deeper (envOfC "_law_right" (defScope sRight) s.heap.objs.size f cdv)).units + 64 < cLine := by have := hr.units; omega
  have nd := scRight.nd
  obtain ⟨tF, hF, qF⟩ := againOk (out := out) (H := H) (E := E) T0 hG hr
  refine ⟨_, pss_cons (ps_asg (pe_tup (pa_cons (pe_make T0.hM T0.I (hr.mono (by decide)) (by rfl) T0.mF T0.bI .nil pass0 (pa_cons (pv 3) pa_nil)) (pa_cons (pe_call T0.L (hr.mono (by decide)) (by rfl) T0.mL T0.kL T0.bL .nil pass0 (pa_cons (pv 3) pa_nil)) pa_nil)))
          (pg_tup rfl (pgs_cons (pg_name (i := 4) nd rfl (.inl rfl)) (pgs_cons (pg_name (i := 5) nd rfl (.inr rfl)) pgs_nil))))
    (pss_cons (ps_set (i := 6) nd rfl (.inr rfl) (pe_call T0.Pl (hr.mono (by decide)) (by rfl) T0.mP T0.kP T0.bPl .nil pass0 (pa_cons (pv 2) pa_nil)))
    (pss_cons (ps_setLc (i := 7) (own := [("_law_k", 15)]) (g := gName 15) (tt := ttBet K) (te := tOp (rIxT K) (tVar 3) (tVar 15)) rfl nd rfl rfl (sw_true rfl rfl rfl (by decide +kernel)) (pi_range1 rfl T0.n_range (pa_cons (pe_callB call_len_seq (by rfl) T0.n_len PySem.boot_len (pa_cons (pv 3) pa_nil)) pa_nil))
          (blkOk_by (N := Nr) (sc := defScope sRight) (by decide +kernel)) (fun _ _ _ _ _ => pg_name (i := 15) nd rfl (.inl rfl))
          (fun _ _ _ _ _ => by exact pts_one (pt_cmpR op_ne (pe_ix ix_tup (pe_ix ix_list (pv 6) (pv 15) (fun _ _ => rfl)) pe_int (fun _ _ => rfl)) (pe_ix ix_tup (pe_ix ix_list (pv 6) (pv 15) (fun _ _ => rfl)) pe_int (fun _ _ => rfl)) (nomark _)))
          (fun _ _ _ _ _ => by exact pe_ix ix_tup (pv 3) (pv 15) (fun _ _ => rfl)))
    (pss_cons (ps_set (i := 8) nd rfl (.inl rfl) (pe_cmpR (op_eqD (X := (cxOf CX0 P w K mg base Nr "_law_right" (defScope sRight) f cdv A out s H E).nox) hu) (pe_lc (own := [("_law_each", 14)]) (g := gName 14) rfl nd (pi_list (pv 7))
          (blkOk_by (N := Nr) (sc := defScope sRight) (by decide +kernel)) (fun _ _ _ _ _ => pg_name (i := 14) nd rfl (.inl rfl))
          (fun _ _ _ _ _ => pts_one (pt_cmpR op_eq (pe_op op_mod (pe_callTy call_int1 (by rfl) T0.n_int boot_int (pa_cons (pv 14) pa_nil)) pe_int) pe_int (nomark _))) (fun _ _ _ _ _ => pv 14)) (pe_lst pa_nil) (nomark _)))
    (pss_cons (ps_set (i := 9) nd rfl (.inl rfl) (pe_lst (pa_cons (pe_prop (pv 4) T0.c0 T0.hT T0.T (hr.mono (by decide)) T0.bT .nil pass0 (by rfl)) (pa_cons (pe_prop (pv 4) T0.c0 T0.hC T0.Cn (hr.mono (by decide)) T0.bC .nil pass0 (by rfl)) (pa_cons (pe_prop (pv 4) T0.c0 T0.hE T0.Ev (hr.mono (by decide)) T0.bE .nil pass0 (by rfl)) pa_nil)))))
    (pss_cons (ps_if (pt_cmpR op_ne (pe_callB (Gu.call_reprD hG hu) (by rfl) T0.n_repr boot_repr (pa_cons (pv 9) pa_nil))
          (pe_callB (Gu.call_reprD hG hu) (by rfl) T0.n_repr boot_repr (pa_cons (pe_lst (pa_cons (pv 5) (pa_cons (pe_call T0.Ct (hr.mono (by decide)) (by rfl) T0.mC T0.kC T0.bCt .nil pass0 (pa_cons (pv 3) pa_nil)) (pa_cons (pv 8) pa_nil)))) pa_nil)) (nomark _)) (pss_one (ps_ret pe_bl)) pss_nil) hF))))), ?_⟩
  intro Dn ch a n c B x1 x4 x5 x6 x7 x8 x9 x10 x11 x12 x13 x14 x15 H1 ok hc ha wb hB k
  have n5 := ok.n5
  have sl : sz n ≤ 15 := by
    have : ∀ m : Nat, m < 6 → sz m ≤ 15 := by decide +kernel
    exact this n (by omega)
  -- the form
  refine ⟨.ref a, rfl, fun m dx nm ndx dxm => ?_⟩
  have am : a ≠ m := ne_of_none ha nm
  have adx : a ≠ dx := ne_of_none ha ndx
  refine ⟨m, dx, a, n, c, rfl, upd_same, by rw [upd_ne am, upd_ne adx]; exact ha, ok, hc, fun H2 s2 => ⟨rfl, ?_⟩⟩
  have sF : Same H1 (upd H2 m (.ins C dx [("_coefficients", .ref a)])) := fun b o e => by
    have b1 := ne_of_none e nm
    have b2 := ne_of_none e ndx
    rw [upd_ne b1]
    refine s2 _ _ ?_
    rw [upd_ne b1, upd_ne b2]
    exact e
  have hm : (upd H2 m (.ins C dx [("_coefficients", .ref a)])) m = some (.ins C dx [("_coefficients", .ref a)]) := upd_same
  generalize upd H2 m (.ins C dx [("_coefficients", .ref a)]) = H3 at *
  have fo3 : Fo C H3 m n c := ⟨dx, a, hm, sF _ _ ha, ok, hc⟩
  refine ⟨.ref a, rfl, a, n, c, rfl, sF _ _ ha, ok, fun H4 tb s4 ht4 => ⟨l2, fun t nt => ⟨t, _, rfl, .inl (.inl upd_same), rfl, _, _, rfl, _, _, rfl, rfl, ?_⟩⟩⟩
  have s5 := s4.trans (same_new (o := .tup [.ref m, .ref tb]) nt)
  have ht5 := ht4.same (same_new (o := .tup [.ref m, .ref tb]) nt)
  have s15 := sF.trans s5
  have fo5 := fo3.same s5
  have hm5 := s5 _ _ hm
  generalize upd H4 t (.tup [.ref m, .ref tb]) = H5 at *
  refine ⟨.int n, rfl, n, rfl, n5, fun H6 l s6 lt => ?_⟩
  obtain ⟨as, hl, hat⟩ := lt
  have s16 := s15.trans s6
  have ha6 := s16 _ _ ha
  have al : as.length = sz n := by rw [hat.1, prU_eq, List.length_map, places_len n (by omega)]
  -- between
  refine ⟨.ref a, rfl, a, _, rfl, .inr (.inl (.inl ha6)), ((iV c).length : Nat), rfl, by rw [iV_len, ok.len]; omega, by rw [iV_len, ok.len]; omega, fun D nD => lc_range (lo := 0) (n := (((iV c).length : Nat) : Int).toNat)
    (fun j H' => Same H6 H' ∧ H' D = some (.lst (iV (((List.range j).filter fun k => decide (((places n).getD k (0, 0)).1 ≠ ((places n).getD k (0, 0)).2)).map fun k => c.getD k 0)))) ⟨same_new nD, upd_same⟩ ?_ ?_⟩
  · rintro j H7 hj ⟨s7, hD⟩
    rw [iV_len] at hj
    have jc : j < c.length := by simpa using hj
    have jn : j < sz n := by rw [← ok.len]; exact jc
    have e0 : (0 : Int) + (j : Int) = (j : Int) := by omega
    have hp : (places n)[j]? = some ((places n).getD j (0, 0)) := by
      rw [List.getD_eq_getElem?_getD, List.getElem?_eq_getElem (by rw [places_len n (by omega)]; exact jn)]
      rfl
    have hT : (prU n n)[j]? = some [(((places n).getD j (0, 0)).1 : Int), (((places n).getD j (0, 0)).2 : Int)] := by
      rw [prU_eq, List.getElem?_map, hp]
      rfl
    have haj : as[j]? = some as[j] := List.getElem?_eq_getElem (by omega)
    have hj7 := s7 _ _ (hat.2 j _ _ haj hT)
    have tj : SqT K H7 as[j] (iV [(((places n).getD j (0, 0)).1 : Int), (((places n).getD j (0, 0)).2 : Int)]) := .inl (.inl hj7)
    have hl7 : SqL K H7 l (as.map V.ref) := .inl (.inl (s7 _ _ hl))
    have atl : atI (as.map V.ref) ((0 : Int) + j) = some (.ref as[j]) := by
      rw [e0]
      exact atI_nat (by rw [List.getElem?_map, haj]; rfl)
    have lf : (((List.range j).filter fun k => decide (((places n).getD k (0, 0)).1 ≠ ((places n).getD k (0, 0)).2)).map fun k => c.getD k 0).length ≤ 15 := by
      rw [List.length_map]
      have := List.length_filter_le (fun k => decide (((places n).getD k (0, 0)).1 ≠ ((places n).getD k (0, 0)).2)) (List.range j)
      rw [List.length_range] at this
      omega
    refine ⟨rfl, .ref l, rfl, .int (0 + (j : Int)), rfl, l, _, _, .ref as[j], rfl, rfl, hl7, atl, as[j], _, 0, .int _, rfl, rfl, tj, rfl, .ref l, rfl, .int (0 + (j : Int)), rfl, l, _, _, .ref as[j], rfl, rfl, hl7, atl, as[j], _, 1, .int _, rfl, rfl, tj, rfl, rfl, _, rfl, ne_ite (fun z => ?_) (fun z => ?_)⟩
    · have hne : ((places n).getD j (0, 0)).1 ≠ ((places n).getD j (0, 0)).2 := fun y => z (by rw [y])
      refine ⟨.ref a, rfl, .int (0 + (j : Int)), rfl, a, _, _, .int (c.getD j 0), rfl, rfl, .inl (.inl (s7 _ _ ha6)), by rw [e0]; exact atI_nat (iV_at (getD_at jc)), _, hD, by rw [iV_len, sizeLine_eq]; omega, same_at nD s7 (.refl _), ?_⟩
      rw [upd_same, filt_succ, if_pos (decide_eq_true hne)]
      unfold iV
      rw [List.map_append]
      rfl
    · have heq : ((places n).getD j (0, 0)).1 = ((places n).getD j (0, 0)).2 := by have := V.int.inj z; omega
      refine ⟨s7, ?_⟩
      rw [hD, filt_succ, if_neg (by rw [decide_eq_true_eq]; exact fun y => y heq), List.append_nil]
  · rintro H7 ⟨s7, hD⟩
    have hD7 : H7 D = some (.lst (iV (betw c n))) := by rw [hD, iV_len]; rfl
    have lb : (betw c n).length ≤ 15 := by
      unfold betw
      rw [List.length_map]
      have := List.length_filter_le (fun k => decide (((places n).getD k (0, 0)).1 ≠ ((places n).getD k (0, 0)).2)) (List.range c.length)
      rw [List.length_range] at this
      have := ok.len
      omega
    have s17 := s16.trans s7
    -- even
    refine ⟨.ref D, rfl, D, rfl, ⟨_, .inl (.inl hD7)⟩, fun D2 nD2 => lc_list (xs := iV (betw c n)) (fun i H' => Same H7 H' ∧ H' D2 = some (.lst (iV (odds ((betw c n).take i))))) ⟨same_new nD2, upd_same⟩ (fun i H' _ z => .inl (.inl (z.1 _ _ hD7))) ?_ ?_⟩
    · rintro i x H8 hx ⟨s8, hD2⟩
      obtain ⟨v, hv, rfl⟩ := iV_get hx
      have lo : (odds ((betw c n).take i)).length ≤ 15 := by
        have := odds_len ((betw c n).take i)
        rw [List.length_take] at this
        omega
      refine ⟨rfl, .int v, rfl, .inl ⟨_, rfl, v, 2, rfl, rfl, (by show (0 : Int) < 2; decide), rfl, _, rfl, ite2 (fun z => ?_) (fun z => ?_)⟩⟩
      · have hz : v % 2 = 1 := V.int.inj (of_decide_eq_true z)
        refine ⟨.int v, rfl, _, hD2, by rw [iV_len, sizeLine_eq]; omega, same_at nD2 s8 (.refl _), ?_⟩
        rw [upd_same, odds_take hv, if_pos hz]
        unfold iV
        rw [List.map_append]
        rfl
      · have hz : ¬ v % 2 = 1 := fun y => z (decide_eq_true (congrArg V.int y))
        refine ⟨s8, ?_⟩
        rw [hD2, odds_take hv, if_neg hz, List.append_nil]
    · rintro H8 ⟨s8, hD2⟩
      have hD8 : H8 D2 = some (.lst (iV (odds (betw c n)))) := by rw [hD2, List.take_of_length_le (by rw [iV_len]; exact Nat.le_refl _)]
      refine ⟨l0, fun L nL => ?_⟩
      have s9 := same_new (o := .lst []) nL
      refine ⟨_, .list [], .lst (.inl (.inl (s9 _ _ hD8))) (dp_ints _), .lst (.inl (.inl upd_same)) .nil, ints_shaped _, rfl, ?_⟩
      rw [eqv_nil, ← even_eq ok]
      have s19 := s17.trans (s8.trans s9)
      have s59 := s6.trans (s7.trans (s8.trans s9))
      generalize upd H8 L (.lst []) = H9 at *
      have fo9 := fo5.same s59
      -- told
      refine ⟨.ref m, rfl, m, dx, _, rfl, s59 _ _ hm5, m, n, c, rfl, fo9, fun H10 t1 s10 ht10 => ?_⟩
      have s5a := s59.trans s10
      refine ⟨.ref m, rfl, m, dx, _, rfl, s5a _ _ hm5, m, n, c, rfl, fo5.same s5a, .ref m, rfl, m, dx, _, rfl, s5a _ _ hm5, m, n, c, rfl, fo5.same s5a, fun H11 s11 => ⟨l3, fun L1 nL1 => ?_⟩⟩
      have s12 := same_new (o := .lst [.ref t1, .int (contL c), .bl (evenP c n)]) nL1
      have s5b := s5a.trans (s11.trans s12)
      have hL1 : (upd H11 L1 (.lst [.ref t1, .int (contL c), .bl (evenP c n)])) L1 = some (.lst [.ref t1, .int (contL c), .bl (evenP c n)]) := upd_same
      have htl := (ht10.same s11).same s12
      generalize upd H11 L1 (.lst [.ref t1, .int (contL c), .bl (evenP c n)]) = H12 at *
      have rw5 : ∀ r ∈ tabT c n, r.length ≤ 5 ∧ ∀ x ∈ r, x.natAbs < 10 ^ 40 := fun r hr' => by
        obtain ⟨r1, r2⟩ := tab_rows hc n r hr'
        exact ⟨by omega, fun x hx => Nat.lt_of_le_of_lt (in_all2 r2 x hx) (by decide +kernel)⟩
      have hsh := (ShdA.cons (shd_rows (tabT c n) rw5).tup (ShdA.cons (Shd.int (cont_abs hc) 2) (ShdA.cons (Shd.bool (evenP c n) (W := 0)) (.nil (W := 0))))).lst
      obtain ⟨p1, p2, p3, p4⟩ := hsh.fits (by decide) (by rw [tab_len]; omega)
      refine ⟨.ref L1, rfl, L1, _, rfl, .lst (.inl (.inl hL1)) (.cons (dp_tab htl) (.cons (.int _) (.cons (.bl _) .nil))), p1, p2, p3, p4, .ref tb, rfl, .ref a, rfl, a, c, rfl, s5b _ _ (s15 _ _ ha), fun H13 s13 => ⟨.bl (evenP c n), rfl, l3, fun L2 nL2 => ?_⟩⟩
      have s14 := same_new (o := .lst [.ref tb, .int (contL c), .bl (evenP c n)]) nL2
      have s5c := s5b.trans (s13.trans s14)
      refine ⟨L2, _, rfl, .lst (.inl (.inl upd_same)) (.cons (dp_tab (ht5.same s5c)) (.cons (.int _) (.cons (.bl _) .nil))), p1, p2, p3, p4, rfl, _, rfl, ne_ite (fun z => absurd rfl z) (fun _ => ?_)⟩
      generalize upd H13 L2 (.lst [.ref tb, .int (contL c), .bl (evenP c n)]) = H14 at *
      have s1c := s15.trans s5c
      exact qF Dn ch a m tb n c B x1 _ _ _ _ _ _ _ _ _ _ H14 ok hc (s1c _ _ ha) (fo5.same s5c) (ht5.same s5c) (wb.same s1c) (by omega) fun H' y9 y10 y11 y12 y13 y14 y15 bt wb' => k H' _ _ _ _ _ _ _ _ _ _ _ _ _ ((But.same s1c).trans bt) wb'
def spRight : Sp := fun vs H Q _ => ∃ c, vs = [.ref c] ∧ WB H c 1 ∧ ∀ H', But c H H' → Q (.bl true) H'
theorem ok_right {f : Addr} {fd : FuncData} (F : Fun K "_law_right" "_law_right" sRight f fd) (T0 : Tl P w K mg base C fI pT gT pC gC pE gE gv gp fD fO fA fL fP fC fV fW fE dI dT dC dE dv dp eD eO eA eL eP eC eV eW eE) :
    Gu.GOk P w K mg base CX0 8 f fd ["_law_jar_here"] spRight := by
  refine Gu.GOk.fun F scRight (fun vs H Q E h => ?_) (fun cdv A out s H vs Q E hG hr h => ?_)
  · obtain ⟨c, rfl, _⟩ := h
    rfl
  · obtain ⟨ch, rfl, wb, q⟩ := h
    have nd := scRight.nd
    have hu1 : (A.deeper (envOfC "_law_right" (defScope sRight) s.heap.objs.size f cdv)).units + 1 < cLine := by have := hr.units; omega
    obtain ⟨tM, hM, qM⟩ := middleOk (out := out) (H := H) (E := E) T0 hG hr
    refine ⟨_, pss_cons (ps_for PassesOwn.never rfl (pi_range1 rfl T0.n_range (pa_cons pe_int pa_nil)) (pg_name (i := 1) nd rfl (.inl rfl))
        (pss_cons (ps_set (i := 2) nd rfl (.inl rfl) (pe_op op_add pe_int (pe_call T0.D (hr.mono (by decide)) (by rfl) T0.mD T0.kD T0.bD .nil pass0 (pa_cons (pv 0) (pa_cons pe_int pa_nil)))))
        (pss_cons (ps_set (i := 3) nd rfl (.inr rfl) (pe_call T0.A (hr.mono (by decide)) (by rfl) T0.mA T0.kA T0.bA .nil pass0 (pa_cons (pv 0) (pa_cons (pv 2) (pa_cons (pe_call T0.O (hr.mono (by decide)) (by rfl) T0.mO T0.kO T0.bO .nil pass0 (pa_cons (pv 0) (pa_cons (pe_lst (pa_cons pe_int (pa_cons pe_int (pa_cons pe_int (pa_cons (pe_op op_pow pe_int pe_int) pa_nil))))) pa_nil))) pa_nil)))))
        (pss_cons (ps_if (PW.pt (pw_and (pt_cmpR op_eq (pe_call T0.D (hr.mono (by decide)) (by rfl) T0.mD T0.kD T0.bD .nil pass0 (pa_cons (pv 0) (pa_cons pe_int pa_nil))) pe_int (nomark _))
              (pw_and (pt_cmpR op_lt (pe_callB (cr_maxT rfl hu1) (by rfl) T0.n_max boot_max (pa_cons (pv 3) pa_nil)) (pe_op op_pow pe_int pe_int) (nomark _))
              (pw_and1 (pt_cmpR op_gt (pe_callB (cr_minT rfl hu1) (by rfl) T0.n_min boot_min (pa_cons (pv 3) pa_nil)) (pe_un un_neg (pe_op op_pow pe_int pe_int)) (nomark _))))))
            (pss_one (ps_set (i := 3) nd rfl (.inr rfl) (pe_callTy call_tuple_of (by rfl) T0.n_tuple boot_tuple (pa_cons (pe_lc (own := [("_law_each", 14)]) (g := gName 14) (tt := tYes) rfl nd (pi_tup (pv 3)) (blkOk_by (N := Nr) (sc := defScope sRight) (by decide +kernel)) (fun _ _ _ _ _ => pg_name (i := 14) nd rfl (.inl rfl)) (fun _ _ _ _ _ => pts_nil)
              (fun _ _ _ _ _ => pe_op op_mul pe_int (pv 14))) pa_nil)))) pss_nil) hM))))
      (pss_one (ps_ret pe_bl)), ?_⟩
    refine ⟨4, rfl, by decide, by decide, for_range (n := ((4 : Int).toNat)) (fun i σ H' => But ch H H' ∧ WB H' ch (1 + 400 * i) ∧ ∃ x1 x2 x3 x4 x5 x6 x7 x8 x9 x10 x11 x12 x13 x14 x15, σ = [some (.ref ch), x1, x2, x3, x4, x5, x6, x7, x8, x9, x10, x11, x12, x13, x14, x15])
      ⟨.refl, wb, _, _, _, _, _, _, _, _, _, _, _, _, _, _, _, rfl⟩ ?_ ?_⟩
    · rintro i σ H1 hi ⟨bt, wb1, x1, x2, x3, x4, x5, x6, x7, x8, x9, x10, x11, x12, x13, x14, x15, rfl⟩
      have i4 : i < 4 := hi
      refine ⟨.ref ch, rfl, ch, 4, 1 + 400 * i, rfl, by decide, by decide, wb1, by omega, fun H2 r r0 r1 bt2 wb2 => ⟨2, r, rfl, rfl, ?_⟩⟩
      obtain ⟨n, hn⟩ : ∃ n : Nat, 2 + r = (n : Int) := ⟨(2 + r).toNat, by omega⟩
      have n2 : 2 ≤ n := by omega
      have n5 : n ≤ 5 := by omega
      show _
      refine ⟨.ref ch, rfl, .int (2 + r), rfl, .ref ch, rfl, 10, 12, rfl, rfl, ⟨by decide, by decide, by decide⟩, by decide, fun L nL => ?_⟩
      have wbL := wb2.same (same_new (o := .lst [.int 1, .int 9, .int 1000, .int (10 ^ 12)]) nL)
      refine ⟨ch, L, [1, 9, 1000, 10 ^ 12], 1 + 400 * i + 1, rfl, upd_same, wb2.ne nL, by decide, by decide, wbL, by omega, fun H3 most hm bt3 wb3 => ?_⟩
      have bt13 : But ch H1 H3 := bt2.trans ((But.new nL).trans bt3)
      have m0 : 0 ≤ most ∧ most ≤ 1000000000000 := by
        rw [e12] at hm
        simp only [List.mem_cons, List.not_mem_nil, or_false] at hm
        omega
      refine ⟨ch, n, most, 1 + 400 * i + 1 + 1, by rw [hn]; rfl, n5, m0.1, by rw [e12]; exact m0.2, wb3, by omega, fun H4 a c bt4 wb4 ha lc hin => ?_⟩
      have ok : Ok n c := ⟨n2, n5, lc⟩
      have hc : In (10 ^ 12) c := hin.mono (by rw [e12]; exact m0.2)
      refine ⟨.ref ch, rfl, ch, 4, 1 + 400 * i + 1 + 1 + 40, rfl, by decide, by decide, wb4, by omega, fun H5 r5 r50 r51 bt5 wb5 => ?_⟩
      have ha5 := bt5.tup wb4 ha
      have bt15 := bt.trans (bt13.trans (bt4.trans bt5))
      have esl : ∀ x3' : Option V, [some (V.ref ch), some (V.int (0 + (i : Int))), some (V.int (2 + r)), x3', x4, x5, x6, x7, x8, x9, x10, x11, x12, x13, x14, x15] = [some (V.ref ch), some (V.int (0 + (i : Int))), some (V.int n), x3', x4, x5, x6, x7, x8, x9, x10, x11, x12, x13, x14, x15] := fun x3' => by rw [hn]
      have fin : ∀ (Dn : Ends) (H' : Hp) (a' : Addr) (c' : List Int), (∀ σ H'', (But ch H H'' ∧ WB H'' ch (1 + 400 * (i + 1)) ∧ ∃ x1 x2 x3 x4 x5 x6 x7 x8 x9 x10 x11 x12 x13 x14 x15, σ = [some (.ref ch), x1, x2, x3, x4, x5, x6, x7, x8, x9, x10, x11, x12, x13, x14, x15]) → Dn.nx σ H'') → Same H5 H' → H' a' = some (.tup (iV c')) → Ok n c' → In (10 ^ 12) c' →
          tM Dn [some (V.ref ch), some (V.int (0 + (i : Int))), some (V.int (2 + r)), some (.ref a'), x4, x5, x6, x7, x8, x9, x10, x11, x12, x13, x14, x15] H' := fun Dn H' a' c' hDn s' ha' ok' hc' => by
        rw [esl]
        exact qM Dn ch a' n c' (1 + 400 * i + 1 + 1 + 40 + 1) _ _ _ _ _ _ _ _ _ _ _ _ _ H' ok' hc' ha' (wb5.same s') (by omega) fun H'' y3 y4 y5 y6 y7 y8 y9 y10 y11 y12 y13 y14 y15 bt' wb' => hDn _ _ ⟨bt15.trans ((But.same s').trans bt'), wb'.mono (by omega), _, _, _, _, _, _, _, _, _, _, _, _, _, _, _, rfl⟩
      have c0 : 0 < c.length := by
        rw [lc]
        rcases two_le n2 n5 with rfl | rfl | rfl | rfl <;> decide
      refine ⟨rfl, _, rfl, ite2 (fun _ => ?_) (fun _ => iteF (fin _ _ _ _ (fun _ _ h => h) (.refl _) ha5 ok hc))⟩
      refine ⟨.ref a, rfl, a, c, rfl, .inl (.inl ha5), c0, fun M hM => ⟨10, 11, rfl, rfl, ⟨by decide, by decide, by decide⟩, M, _, rfl, rfl, _, rfl, ite2 (fun z2 => ?_) (fun _ => iteF (fin _ _ _ _ (fun _ _ h => h) (.refl _) ha5 ok hc))⟩⟩
      refine ⟨.ref a, rfl, a, c, rfl, .inl (.inl ha5), c0, fun N hN => ⟨10, 11, rfl, rfl, ⟨by decide, by decide, by decide⟩, _, rfl, N, _, rfl, rfl, _, rfl, ite2 (fun z3 => ?_) (fun _ => fin _ _ _ _ (fun _ _ h => h) (.refl _) ha5 ok hc)⟩⟩
      have e11 : (10 : Int) ^ 11 = 100000000000 := by decide
      have hM2 : M < 10 ^ 11 := of_decide_eq_true z2
      have hN2 : -(10 ^ 11) < N := of_decide_eq_true z3
      rw [e11] at hM2 hN2
      have hc2 : In (10 ^ 12) (c.map fun x => 2 * x) := fun y hy => by
        obtain ⟨x, hx, rfl⟩ := List.mem_map.mp hy
        have h1 := hM x hx
        have h2 := hN x hx
        rw [e12]
        omega
      have ok2 : Ok n (c.map fun x => 2 * x) := ⟨n2, n5, by rw [List.length_map]; exact lc⟩
      refine ⟨.ref a, rfl, a, rfl, ⟨_, .inl (.inl ha5)⟩, fun D nD => lc_tup (xs := iV c) (fun j H' => Gr H5 D (iV (c.map fun x => 2 * x)) j H') (Gr.init nD) (fun j H' _ g => .inl (.inl (g.s _ _ ha5))) ?_ ?_⟩
      · intro j x H6 hx g
        obtain ⟨v, hv, rfl⟩ := iV_get hx
        refine ⟨rfl, .int v, rfl, 2, v, rfl, rfl, .inl ⟨by decide, by decide⟩, ?_⟩
        refine g.step nD (.refl _) (iV_at ?_) (by
          rw [iV_len, List.length_map, lc]
          have : ∀ m : Nat, m < 6 → sz m ≤ 15 := by decide +kernel
          have := this n (by omega)
          omega)
        rw [List.getElem?_map, hv]
        rfl
      · intro H6 g
        refine ⟨D, _, rfl, .inl ⟨.inl (.inl (g.done (by rw [iV_len, iV_len, List.length_map]; exact Nat.le_refl _))), fun t nt => ?_⟩⟩
        exact fin _ _ t _ (fun _ _ h => h) (g.s.trans (same_new nt)) upd_same ok2 hc2
    · rintro σ H1 ⟨bt, wb1, x1, x2, x3, x4, x5, x6, x7, x8, x9, x10, x11, x12, x13, x14, x15, rfl⟩
      exact q _ bt
end
end K02

namespace K02
open PySem PySem.Spec PyProof.Rows L2
theorem kwValue {K : PySem.W.Frag} {f : Addr} {fd : FuncData} (F : Fun K "value" "Form.value" sValue f fd) : KBn K fd ["self", "vector"] 1 ["vector"] gw1 gv1 := by
  obtain ⟨_, _, kV, doc, pm, an, cdv, ct, _, rfl, _, _⟩ := F.ex
  refine ⟨fun s us ws X h1 h2 => .of_eq ?_, fun r rz => ?_⟩
  · match us, ws, h1, h2 with
    | [_], [_], _, _ => rfl
  · cases r with
    | nil => cases rz with
      | nil => exact .cons rfl (.cons rfl .nil)
      | cons a b => exact .cons rfl (.cons a .nil)
    | cons c d => cases rz with
      | nil => exact .cons c (.cons rfl .nil)
      | cons a b => exact .cons c (.cons a .nil)
theorem vals_getD {vs : List V} {us : List Value} (r : Vals vs us) (i : Nat) : RelV (vs.getD i .non) (us.getD i .none) := by
  induction r generalizing i with
  | nil => rfl
  | cons a b ih =>
    cases i with
    | zero => exact a
    | succ i => exact ih i
theorem kwProduct {K : PySem.W.Frag} {f : Addr} {fd : FuncData} (F : Fun K "product" "Form.product" sProduct f fd) : KBn K fd ["self", "vector", "other"] 1 ["other", "vector"] gw2 gv2 := by
  obtain ⟨_, _, kV, doc, pm, an, cdv, ct, _, rfl, _, _⟩ := F.ex
  refine ⟨fun s us ws X h1 h2 => .of_eq ?_, fun r rz => .cons (vals_getD r 0) (.cons (vals_getD rz 1) (.cons (vals_getD rz 0) .nil))⟩
  · match us, ws, h1, h2 with
    | [_], [_, _], _, _ => rfl
theorem kdi_unk {K : PySem.W.Frag} {dU : Addr} {nU : Nat} {u1 u2 u3 u4 u5 u6 u7 u8 : Tok} (l : K.lookup dU = some ⟨.type "dict", none, .dict #[⟨3, .int 3 u1, .int 2 u2⟩, ⟨6, .int 6 u3, .int 3 u4⟩, ⟨10, .int 10 u5, .int 4 u6⟩, ⟨15, .int 15 u7, .int 5 u8⟩] nU, #[]⟩) (s : (dU == sysModules) = false) : Kdi K dU unkF := by
  refine ⟨_, _, l, fun e he => ?_, s, fun k => ?_⟩
  · simp only [List.mem_toArray, List.mem_cons, List.not_mem_nil, or_false] at he
    rcases he with rfl | rfl | rfl | rfl
    · exact ⟨3, u1, rfl, by show (3 : Int) = hashInt 3; decide +kernel⟩
    · exact ⟨6, u3, rfl, by show (6 : Int) = hashInt 6; decide +kernel⟩
    · exact ⟨10, u5, rfl, by show (10 : Int) = hashInt 10; decide +kernel⟩
    · exact ⟨15, u7, rfl, by show (15 : Int) = hashInt 15; decide +kernel⟩
  · by_cases h3 : k = 3
    · subst h3; exact ⟨u2, rfl⟩
    · by_cases h6 : k = 6
      · subst h6; exact ⟨u4, rfl⟩
      · by_cases h10 : k = 10
        · subst h10; exact ⟨u6, rfl⟩
        · by_cases h15 : k = 15
          · subst h15; exact ⟨u8, rfl⟩
          · have e : unkF k = none := by unfold unkF; rw [if_neg h3, if_neg h6, if_neg h10, if_neg h15]
            rw [e]
            show findBy Value.isInt _ k = none
            unfold findBy
            simp [Value.isInt, Ne.symm h3, Ne.symm h6, Ne.symm h10, Ne.symm h15, h3, h6, h10, h15]
section
variable {P : Program} {w : World} {K : PySem.W.Frag} {mg : Str → Option Value} {base : Heap}
def spLaw (K : PySem.W.Frag) : Sp := fun vs H Q _ => ∃ (a : Addr) (ns : List Int), vs = [.ref a] ∧ SqL K H a (ns.map V.int) ∧ ns.length ≤ 63 ∧ ∀ H', Q (.bl true) H'
theorem ok_law {f fC fR : Addr} {fd dC dR : FuncData} (F : Fun K "law" "law" sLaw f fd) (GC : FnOk P w K mg base CX0 1 fC dC ["_law_cells", "_law_turn"] (spJar K)) (mC : mg "_law_jar" = some (.ref fC)) (kC : PySem.W.keepIn K (.ref fC) = true) (bC : Binds K dC ["_law_cells", "_law_turn"] [])
    (GR : Gu.GOk P w K mg base CX0 8 fR dR ["_law_jar_here"] spRight) (mR : mg "_law_right" = some (.ref fR)) (kR : PySem.W.keepIn K (.ref fR) = true) (bR : Binds K dR ["_law_jar_here"] []) (ma : mg "all" = none) (mr : mg "range" = none) (mm : mg "max" = none) (mn : mg "min" = none) (ml : mg "len" = none) :
    Gu.GOk P w K mg base CX0 9 f fd ["_law_cells"] (spLaw K) := by
  refine Gu.GOk.fun F scLaw (fun vs H Q E h => ?_) (fun cdv A out s H vs Q E hG hr h => ?_)
  · obtain ⟨a, ns, rfl, _⟩ := h
    rfl
  · obtain ⟨a, ns, rfl, hS, hl, q⟩ := h
    refine ⟨_, pss_one (ps_ret (pe_callB (cr_all rfl) (by rfl) ma boot_all (pa_cons (pe_lc (own := [("_law_turn", 1)]) (g := gName 1) (tt := tYes) rfl scLaw.nd
        (pi_range1 rfl mr (pa_cons (pe_callB (call_max2 rfl) (by rfl) mm boot_max (pa_cons pe_int (pa_cons (pe_callB (call_min2 rfl) (by rfl) mn boot_min (pa_cons (pe_callB call_len_seq (by rfl) ml PySem.boot_len (pa_cons (pv 0) pa_nil)) (pa_cons pe_int pa_nil))) pa_nil))) pa_nil))
        (blkOk_by (N := ["_law_cells", "_law_turn"]) (sc := defScope sLaw) (by decide +kernel)) (fun _ _ _ _ _ => pg_name (i := 1) scLaw.nd rfl (.inl rfl)) (fun _ _ _ _ _ => pts_nil)
        (fun _ _ _ _ _ => Gu.pe_callG GR hG hr (by rfl) mR kR bR .nil pass0 (pa_cons (pe_call GC (hr.mono (by decide)) (by rfl) mC kC bC .nil pass0 (pa_cons (pv 0) (pa_cons (pv 1) pa_nil))) pa_nil))) pa_nil))), ?_⟩
    refine ⟨.ref a, rfl, a, _, rfl, .inl hS, _, 6, rfl, 2, _, rfl, _, rfl, ?_⟩
    generalize hj : (if (if (6 : Int) < ((ns.map V.int).length : Nat) then (6 : Int) else ((ns.map V.int).length : Nat)) > 2 then (if (6 : Int) < ((ns.map V.int).length : Nat) then (6 : Int) else ((ns.map V.int).length : Nat)) else 2) = j
    have j6 : j ≤ 6 ∧ 0 ≤ j := by
      rw [← hj]
      constructor <;> repeat' split
      all_goals omega
    refine ⟨by omega, by omega, fun D nD => lc_range (lo := 0) (n := j.toNat) (fun i H' => Same H H' ∧ H' D = some (.lst ((List.replicate i true).map V.bl))) ⟨same_new nD, upd_same⟩ ?_ ?_⟩
    · rintro i H' hi ⟨sm, hD⟩
      have e0 : (0 : Int) + i = i := by omega
      rw [e0]
      refine ⟨rfl, .ref a, rfl, .int i, rfl, a, ns, i, rfl, sm.seq hS, by omega, hl, fun H2 c s2 nc wc => ⟨c, rfl, wc, fun H3 bt => ?_⟩⟩
      have Dc : D ≠ c := fun e => by rw [e, nc] at hD; cases hD
      refine ⟨_, bt _ _ Dc (s2 _ _ hD), ?_, fun b o e => ?_, ?_⟩
      · rw [List.length_map, List.length_replicate, sizeLine_eq]; omega
      · rw [upd_ne (ne_of_none e nD)]
        have e1 := sm _ _ e
        have bc : b ≠ c := fun z => by rw [z, nc] at e1; cases e1
        exact bt _ _ bc (s2 _ _ e1)
      · rw [upd_same, List.replicate_succ', List.map_append]
        rfl
    · rintro H' ⟨sm, hD⟩
      refine ⟨D, _, rfl, .inl (.inl hD), to (q _) (congrArg V.bl ?_)⟩
      rw [List.all_replicate]
      cases j.toNat <;> rfl
end
theorem all_mk {l : PySem.W.OpenLaw} {w : World} {K : PySem.W.Frag} {h : Heap} {mg : Str → Option Value} {fa : Addr} (X : K.In h) (G : h.Ns mainGlobals mg) (hfa : mg "law" = some (.ref fa))
    {fX1 : Addr} {odX1 anX1 : Option Addr} {slX1 : Array (Option Value)} {ocX1 kVX1 dcX1 pmX1 cdX1 ctX1 : Value} {fX4 : Addr} {odX4 anX4 : Option Addr} {slX4 : Array (Option Value)} {ocX4 kVX4 dcX4 pmX4 cdX4 ctX4 : Value} {fX5 : Addr} {odX5 anX5 : Option Addr} {slX5 : Array (Option Value)} {ocX5 kVX5 dcX5 pmX5 cdX5 ctX5 : Value} {fX6 : Addr} {odX6 anX6 : Option Addr} {slX6 : Array (Option Value)} {ocX6 kVX6 dcX6 pmX6 cdX6 ctX6 : Value} {fX7 : Addr} {odX7 anX7 : Option Addr} {slX7 : Array (Option Value)} {ocX7 kVX7 dcX7 pmX7 cdX7 ctX7 : Value} {fX8 : Addr} {odX8 anX8 : Option Addr} {slX8 : Array (Option Value)} {ocX8 kVX8 dcX8 pmX8 cdX8 ctX8 : Value} {fX9 : Addr} {odX9 anX9 : Option Addr} {slX9 : Array (Option Value)} {ocX9 kVX9 dcX9 pmX9 cdX9 ctX9 : Value} {fY1 : Addr} {odY1 anY1 : Option Addr} {slY1 : Array (Option Value)} {ocY1 kVY1 dcY1 pmY1 cdY1 ctY1 : Value} {fA : Addr} {odA anA : Option Addr} {slA : Array (Option Value)} {ocA kVA dcA pmA cdA ctA : Value} {fB : Addr} {odB anB : Option Addr} {slB : Array (Option Value)} {ocB kVB dcB pmB cdB ctB : Value} {fD : Addr} {odD anD : Option Addr} {slD : Array (Option Value)} {ocD kVD dcD pmD cdD ctD : Value} {fE : Addr} {odE anE : Option Addr} {slE : Array (Option Value)} {ocE kVE dcE pmE cdE ctE : Value} {fI : Addr} {odI anI : Option Addr} {slI : Array (Option Value)} {ocI kVI dcI pmI cdI ctI : Value} {fL : Addr} {odL anL : Option Addr} {slL : Array (Option Value)} {ocL kVL dcL pmL cdL ctL : Value} {fM : Addr} {odM anM : Option Addr} {slM : Array (Option Value)} {ocM kVM dcM pmM cdM ctM : Value} {fN : Addr} {odN anN : Option Addr} {slN : Array (Option Value)} {ocN kVN dcN pmN cdN ctN : Value} {fO : Addr} {odO anO : Option Addr} {slO : Array (Option Value)} {ocO kVO dcO pmO cdO ctO : Value} {fZ9 : Addr} {odZ9 anZ9 : Option Addr} {slZ9 : Array (Option Value)} {ocZ9 kVZ9 dcZ9 pmZ9 cdZ9 ctZ9 : Value} {fV : Addr} {odV anV : Option Addr} {slV : Array (Option Value)} {ocV kVV dcV pmV cdV ctV : Value} {fW : Addr} {odW anW : Option Addr} {slW : Array (Option Value)} {ocW kVW dcW pmW cdW ctW : Value} {fR : Addr} {odR anR : Option Addr} {slR : Array (Option Value)} {ocR kVR dcR pmR cdR ctR : Value} {fS : Addr} {odS anS : Option Addr} {slS : Array (Option Value)} {ocS kVS dcS pmS cdS ctS : Value} {C dU : Addr} {nU : Nat} {u1 u2 u3 u4 u5 u6 u7 u8 t1 t2 : Tok} {fF1 : Addr} {odF1 anF1 : Option Addr} {slF1 : Array (Option Value)} {ocF1 kVF1 dcF1 pmF1 cdF1 ctF1 : Value} {fF2 : Addr} {odF2 anF2 : Option Addr} {slF2 : Array (Option Value)} {ocF2 kVF2 dcF2 pmF2 cdF2 ctF2 : Value} {fF3 : Addr} {odF3 anF3 : Option Addr} {slF3 : Array (Option Value)} {ocF3 kVF3 dcF3 pmF3 cdF3 ctF3 : Value} {fP1 pP1 : Addr} {rP1 : List Value} {odP1 anP1 : Option Addr} {slP1 : Array (Option Value)} {ocP1 kVP1 dcP1 pmP1 cdP1 ctP1 : Value} {fP2 pP2 : Addr} {rP2 : List Value} {odP2 anP2 : Option Addr} {slP2 : Array (Option Value)} {ocP2 kVP2 dcP2 pmP2 cdP2 ctP2 : Value} {fP3 pP3 : Addr} {rP3 : List Value} {odP3 anP3 : Option Addr} {slP3 : Array (Option Value)} {ocP3 kVP3 dcP3 pmP3 cdP3 ctP3 : Value} {fP4 pP4 : Addr} {rP4 : List Value} {odP4 anP4 : Option Addr} {slP4 : Array (Option Value)} {ocP4 kVP4 dcP4 pmP4 cdP4 ctP4 : Value} {dP : Addr} {nP : Nat} {a3 : Addr} {w3 : Option Addr} {n3 : Nat} {y3 : Array (Option Value)} {a6 : Addr} {w6 : Option Addr} {n6 : Nat} {y6 : Array (Option Value)} {a10 : Addr} {w10 : Option Addr} {n10 : Nat} {y10 : Array (Option Value)} {a15 : Addr} {w15 : Option Addr} {n15 : Nat} {y15 : Array (Option Value)} {a3_0 : Addr} {w3_0 : Option Addr} {n3_0 : Nat} {y3_0 : Array (Option Value)} {a3_1 : Addr} {w3_1 : Option Addr} {n3_1 : Nat} {y3_1 : Array (Option Value)} {a6_0 : Addr} {w6_0 : Option Addr} {n6_0 : Nat} {y6_0 : Array (Option Value)} {a6_1 : Addr} {w6_1 : Option Addr} {n6_1 : Nat} {y6_1 : Array (Option Value)} {a6_2 : Addr} {w6_2 : Option Addr} {n6_2 : Nat} {y6_2 : Array (Option Value)} {a10_0 : Addr} {w10_0 : Option Addr} {n10_0 : Nat} {y10_0 : Array (Option Value)} {a10_1 : Addr} {w10_1 : Option Addr} {n10_1 : Nat} {y10_1 : Array (Option Value)} {a10_2 : Addr} {w10_2 : Option Addr} {n10_2 : Nat} {y10_2 : Array (Option Value)} {a10_3 : Addr} {w10_3 : Option Addr} {n10_3 : Nat} {y10_3 : Array (Option Value)} {a15_0 : Addr} {w15_0 : Option Addr} {n15_0 : Nat} {y15_0 : Array (Option Value)} {a15_1 : Addr} {w15_1 : Option Addr} {n15_1 : Nat} {y15_1 : Array (Option Value)} {a15_2 : Addr} {w15_2 : Option Addr} {n15_2 : Nat} {y15_2 : Array (Option Value)} {a15_3 : Addr} {w15_3 : Option Addr} {n15_3 : Nat} {y15_3 : Array (Option Value)} {a15_4 : Addr} {w15_4 : Option Addr} {n15_4 : Nat} {y15_4 : Array (Option Value)} {p3 p6 p10 p15 p3_0_0 p3_0_1 p3_1_0 p3_1_1 p6_0_0 p6_0_1 p6_0_2 p6_1_0 p6_1_1 p6_1_2 p6_2_0 p6_2_1 p6_2_2 p10_0_0 p10_0_1 p10_0_2 p10_0_3 p10_1_0 p10_1_1 p10_1_2 p10_1_3 p10_2_0 p10_2_1 p10_2_2 p10_2_3 p10_3_0 p10_3_1 p10_3_2 p10_3_3 p15_0_0 p15_0_1 p15_0_2 p15_0_3 p15_0_4 p15_1_0 p15_1_1 p15_1_2 p15_1_3 p15_1_4 p15_2_0 p15_2_1 p15_2_2 p15_2_3 p15_2_4 p15_3_0 p15_3_1 p15_3_2 p15_3_3 p15_3_4 p15_4_0 p15_4_1 p15_4_2 p15_4_3 p15_4_4 : Tok}
    (aX1 : PySem.W.nsIn K mainGlobals "dot" = some (some (.ref fX1))) (lX1 : K.lookup fX1 = some ⟨ocX1, odX1, .func (PySem.W.fnOf "dot" "dot" (defArgs sDot) (defBody sDot) (defScope sDot) .none kVX1 dcX1 pmX1 anX1 cdX1 ctX1), slX1⟩) (cX1 : PySem.W.codeIn K cdX1 "dot" = true) (kX1 : PySem.W.keepIn K (.ref fX1) = true)
    (aX4 : PySem.W.nsIn K mainGlobals "table_of" = some (some (.ref fX4))) (lX4 : K.lookup fX4 = some ⟨ocX4, odX4, .func (PySem.W.fnOf "table_of" "table_of" (defArgs sTable) (defBody sTable) (defScope sTable) .none kVX4 dcX4 pmX4 anX4 cdX4 ctX4), slX4⟩) (cX4 : PySem.W.codeIn K cdX4 "table_of" = true) (kX4 : PySem.W.keepIn K (.ref fX4) = true)
    (aX5 : PySem.W.nsIn K mainGlobals "product_at" = some (some (.ref fX5))) (lX5 : K.lookup fX5 = some ⟨ocX5, odX5, .func (PySem.W.fnOf "product_at" "product_at" (defArgs sProd) (defBody sProd) (defScope sProd) .none kVX5 dcX5 pmX5 anX5 cdX5 ctX5), slX5⟩) (cX5 : PySem.W.codeIn K cdX5 "product_at" = true) (kX5 : PySem.W.keepIn K (.ref fX5) = true)
    (aX6 : PySem.W.nsIn K mainGlobals "is_integer" = some (some (.ref fX6))) (lX6 : K.lookup fX6 = some ⟨ocX6, odX6, .func (PySem.W.fnOf "is_integer" "is_integer" (defArgs sInt) (defBody sInt) (defScope sInt) .none kVX6 dcX6 pmX6 anX6 cdX6 ctX6), slX6⟩) (cX6 : PySem.W.codeIn K cdX6 "is_integer" = true) (kX6 : PySem.W.keepIn K (.ref fX6) = true)
    (aX7 : PySem.W.nsIn K mainGlobals "is_within" = some (some (.ref fX7))) (lX7 : K.lookup fX7 = some ⟨ocX7, odX7, .func (PySem.W.fnOf "is_within" "is_within" (defArgs sWithin) (defBody sWithin) (defScope sWithin) .none kVX7 dcX7 pmX7 anX7 cdX7 ctX7), slX7⟩) (cX7 : PySem.W.codeIn K cdX7 "is_within" = true) (kX7 : PySem.W.keepIn K (.ref fX7) = true)
    (aX8 : PySem.W.nsIn K mainGlobals "first_beyond" = some (some (.ref fX8))) (lX8 : K.lookup fX8 = some ⟨ocX8, odX8, .func (PySem.W.fnOf "first_beyond" "first_beyond" (defArgs sBeyond) (defBody sBeyond) (defScope sBeyond) .none kVX8 dcX8 pmX8 anX8 cdX8 ctX8), slX8⟩) (cX8 : PySem.W.codeIn K cdX8 "first_beyond" = true) (kX8 : PySem.W.keepIn K (.ref fX8) = true)
    (aX9 : PySem.W.nsIn K mainGlobals "check_coefficients" = some (some (.ref fX9))) (lX9 : K.lookup fX9 = some ⟨ocX9, odX9, .func (PySem.W.fnOf "check_coefficients" "check_coefficients" (defArgs sCheckC) (defBody sCheckC) (defScope sCheckC) .none kVX9 dcX9 pmX9 anX9 cdX9 ctX9), slX9⟩) (cX9 : PySem.W.codeIn K cdX9 "check_coefficients" = true) (kX9 : PySem.W.keepIn K (.ref fX9) = true)
    (aY1 : PySem.W.nsIn K mainGlobals "check_vector" = some (some (.ref fY1))) (lY1 : K.lookup fY1 = some ⟨ocY1, odY1, .func (PySem.W.fnOf "check_vector" "check_vector" (defArgs sCheckV) (defBody sCheckV) (defScope sCheckV) .none kVY1 dcY1 pmY1 anY1 cdY1 ctY1), slY1⟩) (cY1 : PySem.W.codeIn K cdY1 "check_vector" = true) (kY1 : PySem.W.keepIn K (.ref fY1) = true)
    (aA : PySem.W.nsIn K mainGlobals "_law_dip" = some (some (.ref fA))) (lA : K.lookup fA = some ⟨ocA, odA, .func (PySem.W.fnOf "_law_dip" "_law_dip" (defArgs sDip) (defBody sDip) (defScope sDip) .none kVA dcA pmA anA cdA ctA), slA⟩) (cA : PySem.W.codeIn K cdA "_law_dip" = true) (kA : PySem.W.keepIn K (.ref fA) = true)
    (aB : PySem.W.nsIn K mainGlobals "_law_one_of" = some (some (.ref fB))) (lB : K.lookup fB = some ⟨ocB, odB, .func (PySem.W.fnOf "_law_one_of" "_law_one_of" (defArgs sOneOf) (defBody sOneOf) (defScope sOneOf) .none kVB dcB pmB anB cdB ctB), slB⟩) (cB : PySem.W.codeIn K cdB "_law_one_of" = true) (kB : PySem.W.keepIn K (.ref fB) = true)
    (aD : PySem.W.nsIn K mainGlobals "_law_gcd" = some (some (.ref fD))) (lD : K.lookup fD = some ⟨ocD, odD, .func (PySem.W.fnOf "_law_gcd" "_law_gcd" (defArgs sGcd) (defBody sGcd) (defScope sGcd) .none kVD dcD pmD anD cdD ctD), slD⟩) (cD : PySem.W.codeIn K cdD "_law_gcd" = true) (kD : PySem.W.keepIn K (.ref fD) = true)
    (aE : PySem.W.nsIn K mainGlobals "_law_places" = some (some (.ref fE))) (lE : K.lookup fE = some ⟨ocE, odE, .func (PySem.W.fnOf "_law_places" "_law_places" (defArgs sPlaces) (defBody sPlaces) (defScope sPlaces) .none kVE dcE pmE anE cdE ctE), slE⟩) (cE : PySem.W.codeIn K cdE "_law_places" = true) (kE : PySem.W.keepIn K (.ref fE) = true)
    (aI : PySem.W.nsIn K mainGlobals "_law_any" = some (some (.ref fI))) (lI : K.lookup fI = some ⟨ocI, odI, .func (PySem.W.fnOf "_law_any" "_law_any" (defArgs sAny) (defBody sAny) (defScope sAny) .none kVI dcI pmI anI cdI ctI), slI⟩) (cI : PySem.W.codeIn K cdI "_law_any" = true) (kI : PySem.W.keepIn K (.ref fI) = true)
    (aL : PySem.W.nsIn K mainGlobals "_law_size" = some (some (.ref fL))) (lL : K.lookup fL = some ⟨ocL, odL, .func (PySem.W.fnOf "_law_size" "_law_size" (defArgs sSize) (defBody sSize) (defScope sSize) .none kVL dcL pmL anL cdL ctL), slL⟩) (cL : PySem.W.codeIn K cdL "_law_size" = true) (kL : PySem.W.keepIn K (.ref fL) = true)
    (aM : PySem.W.nsIn K mainGlobals "_law_table" = some (some (.ref fM))) (lM : K.lookup fM = some ⟨ocM, odM, .func (PySem.W.fnOf "_law_table" "_law_table" (defArgs sLTable) (defBody sLTable) (defScope sLTable) .none kVM dcM pmM anM cdM ctM), slM⟩) (cM : PySem.W.codeIn K cdM "_law_table" = true) (kM : PySem.W.keepIn K (.ref fM) = true)
    (aN : PySem.W.nsIn K mainGlobals "_law_value" = some (some (.ref fN))) (lN : K.lookup fN = some ⟨ocN, odN, .func (PySem.W.fnOf "_law_value" "_law_value" (defArgs sLValue) (defBody sLValue) (defScope sLValue) .none kVN dcN pmN anN cdN ctN), slN⟩) (cN : PySem.W.codeIn K cdN "_law_value" = true) (kN : PySem.W.keepIn K (.ref fN) = true)
    (aO : PySem.W.nsIn K mainGlobals "_law_led" = some (some (.ref fO))) (lO : K.lookup fO = some ⟨ocO, odO, .func (PySem.W.fnOf "_law_led" "_law_led" (defArgs sLed) (defBody sLed) (defScope sLed) .none kVO dcO pmO anO cdO ctO), slO⟩) (cO : PySem.W.codeIn K cdO "_law_led" = true) (kO : PySem.W.keepIn K (.ref fO) = true)
    (aZ9 : PySem.W.nsIn K mainGlobals "_law_jar" = some (some (.ref fZ9))) (lZ9 : K.lookup fZ9 = some ⟨ocZ9, odZ9, .func (PySem.W.fnOf "_law_jar" "_law_jar" (defArgs sJar) (defBody sJar) (defScope sJar) .none kVZ9 dcZ9 pmZ9 anZ9 cdZ9 ctZ9), slZ9⟩) (cZ9 : PySem.W.codeIn K cdZ9 "_law_jar" = true) (kZ9 : PySem.W.keepIn K (.ref fZ9) = true)
    (aV : PySem.W.nsIn K mainGlobals "_law_vector" = some (some (.ref fV))) (lV : K.lookup fV = some ⟨ocV, odV, .func (PySem.W.fnOf "_law_vector" "_law_vector" (defArgs sVector) (defBody sVector) (defScope sVector) .none kVV dcV pmV anV cdV ctV), slV⟩) (cV : PySem.W.codeIn K cdV "_law_vector" = true) (kV : PySem.W.keepIn K (.ref fV) = true)
    (aW : PySem.W.nsIn K mainGlobals "_law_content" = some (some (.ref fW))) (lW : K.lookup fW = some ⟨ocW, odW, .func (PySem.W.fnOf "_law_content" "_law_content" (defArgs sContent) (defBody sContent) (defScope sContent) .none kVW dcW pmW anW cdW ctW), slW⟩) (cW : PySem.W.codeIn K cdW "_law_content" = true) (kW : PySem.W.keepIn K (.ref fW) = true)
    (aR : PySem.W.nsIn K mainGlobals "_law_right" = some (some (.ref fR))) (lR : K.lookup fR = some ⟨ocR, odR, .func (PySem.W.fnOf "_law_right" "_law_right" (defArgs sRight) (defBody sRight) (defScope sRight) .none kVR dcR pmR anR cdR ctR), slR⟩) (cR : PySem.W.codeIn K cdR "_law_right" = true) (kR : PySem.W.keepIn K (.ref fR) = true)
    (aS : PySem.W.nsIn K mainGlobals "law" = some (some (.ref fS))) (lS : K.lookup fS = some ⟨ocS, odS, .func (PySem.W.fnOf "law" "law" (defArgs sLaw) (defBody sLaw) (defScope sLaw) .none kVS dcS pmS anS cdS ctS), slS⟩) (cS : PySem.W.codeIn K cdS "law" = true) (kS : PySem.W.keepIn K (.ref fS) = true)
    (z_isinstance : PySem.W.nsIn K mainGlobals "isinstance" = some none)
    (z_int : PySem.W.nsIn K mainGlobals "int" = some none)
    (z_bool : PySem.W.nsIn K mainGlobals "bool" = some none)
    (z_range : PySem.W.nsIn K mainGlobals "range" = some none)
    (z_len : PySem.W.nsIn K mainGlobals "len" = some none)
    (z_divmod : PySem.W.nsIn K mainGlobals "divmod" = some none)
    (z_abs : PySem.W.nsIn K mainGlobals "abs" = some none)
    (z_max : PySem.W.nsIn K mainGlobals "max" = some none)
    (z_min : PySem.W.nsIn K mainGlobals "min" = some none)
    (z_repr : PySem.W.nsIn K mainGlobals "repr" = some none)
    (z_tuple : PySem.W.nsIn K mainGlobals "tuple" = some none)
    (z_sum : PySem.W.nsIn K mainGlobals "sum" = some none)
    (z_zip : PySem.W.nsIn K mainGlobals "zip" = some none)
    (z_enumerate : PySem.W.nsIn K mainGlobals "enumerate" = some none)
    (z_all : PySem.W.nsIn K mainGlobals "all" = some none)
    (gF : PySem.W.nsIn K mainGlobals "Form" = some (some (.ref C)))
    (pg : PySem.W.plainGet K C Str.empty = true)
    (hd : PySem.W.hasDictIn K C = true)
    (po : PySem.W.plainOver K C = true)
    (sa : PySem.W.findIn K (.ref C) "__setattr__" = some (some (.builtin "object.__setattr__")))
    (mk : PySem.W.makesIn K C = true)
    (kc : PySem.W.keepIn K (.ref C) = true)
    (nC : PySem.W.findIn K (.ref C) "_coefficients" = some none)
    (qF1 : PySem.W.findIn K (.ref C) "__init__" = some (some (.ref fF1)))
    (iF1 : PySem.W.isFn K (.ref fF1) = true)
    (lF1 : K.lookup fF1 = some ⟨ocF1, odF1, .func (PySem.W.fnOf "__init__" "Form.__init__" (defArgs sInit) (defBody sInit) (defScope sInit) .none kVF1 dcF1 pmF1 anF1 cdF1 ctF1), slF1⟩)
    (cF1 : PySem.W.codeIn K cdF1 "Form.__init__" = true)
    (kF1 : PySem.W.keepIn K (.ref fF1) = true)
    (qF2 : PySem.W.findIn K (.ref C) "value" = some (some (.ref fF2)))
    (iF2 : PySem.W.isFn K (.ref fF2) = true)
    (lF2 : K.lookup fF2 = some ⟨ocF2, odF2, .func (PySem.W.fnOf "value" "Form.value" (defArgs sValue) (defBody sValue) (defScope sValue) .none kVF2 dcF2 pmF2 anF2 cdF2 ctF2), slF2⟩)
    (cF2 : PySem.W.codeIn K cdF2 "Form.value" = true)
    (kF2 : PySem.W.keepIn K (.ref fF2) = true)
    (qF3 : PySem.W.findIn K (.ref C) "product" = some (some (.ref fF3)))
    (iF3 : PySem.W.isFn K (.ref fF3) = true)
    (lF3 : K.lookup fF3 = some ⟨ocF3, odF3, .func (PySem.W.fnOf "product" "Form.product" (defArgs sProduct) (defBody sProduct) (defScope sProduct) .none kVF3 dcF3 pmF3 anF3 cdF3 ctF3), slF3⟩)
    (cF3 : PySem.W.codeIn K cdF3 "Form.product" = true)
    (kF3 : PySem.W.keepIn K (.ref fF3) = true)
    (qP1 : PySem.W.findIn K (.ref C) "unknowns" = some (some (.ref pP1)))
    (gP1 : PySem.W.specialIn K (.ref pP1) "__get__" = some (some (.builtin "property.__get__")))
    (tP1 : PySem.W.takesIn K (.ref pP1) = some true)
    (eP1 : PySem.W.recIn K pP1 "property" = some (.ref fP1 :: rP1))
    (lP1 : K.lookup fP1 = some ⟨ocP1, odP1, .func (PySem.W.fnOf "unknowns" "Form.unknowns" (defArgs sUnk) (defBody sUnk) (defScope sUnk) .none kVP1 dcP1 pmP1 anP1 cdP1 ctP1), slP1⟩)
    (cP1 : PySem.W.codeIn K cdP1 "Form.unknowns" = true)
    (kP1 : PySem.W.keepIn K (.ref fP1) = true)
    (qP2 : PySem.W.findIn K (.ref C) "table" = some (some (.ref pP2)))
    (gP2 : PySem.W.specialIn K (.ref pP2) "__get__" = some (some (.builtin "property.__get__")))
    (tP2 : PySem.W.takesIn K (.ref pP2) = some true)
    (eP2 : PySem.W.recIn K pP2 "property" = some (.ref fP2 :: rP2))
    (lP2 : K.lookup fP2 = some ⟨ocP2, odP2, .func (PySem.W.fnOf "table" "Form.table" (defArgs sTab) (defBody sTab) (defScope sTab) .none kVP2 dcP2 pmP2 anP2 cdP2 ctP2), slP2⟩)
    (cP2 : PySem.W.codeIn K cdP2 "Form.table" = true)
    (kP2 : PySem.W.keepIn K (.ref fP2) = true)
    (qP3 : PySem.W.findIn K (.ref C) "content" = some (some (.ref pP3)))
    (gP3 : PySem.W.specialIn K (.ref pP3) "__get__" = some (some (.builtin "property.__get__")))
    (tP3 : PySem.W.takesIn K (.ref pP3) = some true)
    (eP3 : PySem.W.recIn K pP3 "property" = some (.ref fP3 :: rP3))
    (lP3 : K.lookup fP3 = some ⟨ocP3, odP3, .func (PySem.W.fnOf "content" "Form.content" (defArgs sCont) (defBody sCont) (defScope sCont) .none kVP3 dcP3 pmP3 anP3 cdP3 ctP3), slP3⟩)
    (cP3 : PySem.W.codeIn K cdP3 "Form.content" = true)
    (kP3 : PySem.W.keepIn K (.ref fP3) = true)
    (qP4 : PySem.W.findIn K (.ref C) "is_even_between" = some (some (.ref pP4)))
    (gP4 : PySem.W.specialIn K (.ref pP4) "__get__" = some (some (.builtin "property.__get__")))
    (tP4 : PySem.W.takesIn K (.ref pP4) = some true)
    (eP4 : PySem.W.recIn K pP4 "property" = some (.ref fP4 :: rP4))
    (lP4 : K.lookup fP4 = some ⟨ocP4, odP4, .func (PySem.W.fnOf "is_even_between" "Form.is_even_between" (defArgs sEven) (defBody sEven) (defScope sEven) .none kVP4 dcP4 pmP4 anP4 cdP4 ctP4), slP4⟩)
    (cP4 : PySem.W.codeIn K cdP4 "Form.is_even_between" = true)
    (kP4 : PySem.W.keepIn K (.ref fP4) = true)
    (gU : PySem.W.nsIn K mainGlobals "UNKNOWNS" = some (some (.ref dU)))
    (lU : K.lookup dU = some ⟨.type "dict", none, .dict #[⟨3, .int 3 u1, .int 2 u2⟩, ⟨6, .int 6 u3, .int 3 u4⟩, ⟨10, .int 10 u5, .int 4 u6⟩, ⟨15, .int 15 u7, .int 5 u8⟩] nU, #[]⟩)
    (sU : (dU == sysModules) = false)
    (g1 : PySem.W.nsIn K mainGlobals "MOST_SIZE" = some (some (.int (10 ^ 12) t1)))
    (g2 : PySem.W.nsIn K mainGlobals "MOST_ENTRY" = some (some (.int (10 ^ 60 * 10 ^ 15) t2)))
    (gg : PySem.W.nsIn K mainGlobals "gcd" = some (some (.builtin "math.gcd")))
    (gP : PySem.W.nsIn K mainGlobals "PLACES" = some (some (.ref dP)))
    (lP : K.lookup dP = some ⟨.type "dict", none, .dict #[⟨3, .int 3 p3, .ref a3⟩, ⟨6, .int 6 p6, .ref a6⟩, ⟨10, .int 10 p10, .ref a10⟩, ⟨15, .int 15 p15, .ref a15⟩] nP, #[]⟩)
    (l3 : K.lookup a3 = some ⟨.type "tuple", w3, .seq #[.ref a3_0, .ref a3_1] n3, y3⟩)
    (l3_0 : K.lookup a3_0 = some ⟨.type "tuple", w3_0, .seq #[.int 0 p3_0_0, .int 1 p3_0_1] n3_0, y3_0⟩)
    (l3_1 : K.lookup a3_1 = some ⟨.type "tuple", w3_1, .seq #[.int 1 p3_1_0, .int 2 p3_1_1] n3_1, y3_1⟩)
    (l6 : K.lookup a6 = some ⟨.type "tuple", w6, .seq #[.ref a6_0, .ref a6_1, .ref a6_2] n6, y6⟩)
    (l6_0 : K.lookup a6_0 = some ⟨.type "tuple", w6_0, .seq #[.int 0 p6_0_0, .int 1 p6_0_1, .int 2 p6_0_2] n6_0, y6_0⟩)
    (l6_1 : K.lookup a6_1 = some ⟨.type "tuple", w6_1, .seq #[.int 1 p6_1_0, .int 3 p6_1_1, .int 4 p6_1_2] n6_1, y6_1⟩)
    (l6_2 : K.lookup a6_2 = some ⟨.type "tuple", w6_2, .seq #[.int 2 p6_2_0, .int 4 p6_2_1, .int 5 p6_2_2] n6_2, y6_2⟩)
    (l10 : K.lookup a10 = some ⟨.type "tuple", w10, .seq #[.ref a10_0, .ref a10_1, .ref a10_2, .ref a10_3] n10, y10⟩)
    (l10_0 : K.lookup a10_0 = some ⟨.type "tuple", w10_0, .seq #[.int 0 p10_0_0, .int 1 p10_0_1, .int 2 p10_0_2, .int 3 p10_0_3] n10_0, y10_0⟩)
    (l10_1 : K.lookup a10_1 = some ⟨.type "tuple", w10_1, .seq #[.int 1 p10_1_0, .int 4 p10_1_1, .int 5 p10_1_2, .int 6 p10_1_3] n10_1, y10_1⟩)
    (l10_2 : K.lookup a10_2 = some ⟨.type "tuple", w10_2, .seq #[.int 2 p10_2_0, .int 5 p10_2_1, .int 7 p10_2_2, .int 8 p10_2_3] n10_2, y10_2⟩)
    (l10_3 : K.lookup a10_3 = some ⟨.type "tuple", w10_3, .seq #[.int 3 p10_3_0, .int 6 p10_3_1, .int 8 p10_3_2, .int 9 p10_3_3] n10_3, y10_3⟩)
    (l15 : K.lookup a15 = some ⟨.type "tuple", w15, .seq #[.ref a15_0, .ref a15_1, .ref a15_2, .ref a15_3, .ref a15_4] n15, y15⟩)
    (l15_0 : K.lookup a15_0 = some ⟨.type "tuple", w15_0, .seq #[.int 0 p15_0_0, .int 1 p15_0_1, .int 2 p15_0_2, .int 3 p15_0_3, .int 4 p15_0_4] n15_0, y15_0⟩)
    (l15_1 : K.lookup a15_1 = some ⟨.type "tuple", w15_1, .seq #[.int 1 p15_1_0, .int 5 p15_1_1, .int 6 p15_1_2, .int 7 p15_1_3, .int 8 p15_1_4] n15_1, y15_1⟩)
    (l15_2 : K.lookup a15_2 = some ⟨.type "tuple", w15_2, .seq #[.int 2 p15_2_0, .int 6 p15_2_1, .int 9 p15_2_2, .int 10 p15_2_3, .int 11 p15_2_4] n15_2, y15_2⟩)
    (l15_3 : K.lookup a15_3 = some ⟨.type "tuple", w15_3, .seq #[.int 3 p15_3_0, .int 7 p15_3_1, .int 10 p15_3_2, .int 12 p15_3_3, .int 13 p15_3_4] n15_3, y15_3⟩)
    (l15_4 : K.lookup a15_4 = some ⟨.type "tuple", w15_4, .seq #[.int 4 p15_4_0, .int 8 p15_4_1, .int 11 p15_4_2, .int 13 p15_4_3, .int 14 p15_4_4] n15_4, y15_4⟩)
    (sP : (dP == sysModules) = false) :
    ∃ fd : FuncData, (∀ (s : Shared) (v : Value), BindsTo s fd ⟨[v], []⟩ [("_law_cells", v)]) ∧ ∀ base : Heap, K.In base → base.Ns mainGlobals mg → Gu.GOk l.prog w K mg base CX0 9 fa fd ["_law_cells"] (spLaw K) := by
  have e := hfa.symm.trans (PySem.W.mg_of X G aS)
  cases e
  have FX1 := fun_mk (st := sDot) lX1 cX1 kX1
  have mX1 := PySem.W.mg_of X G aX1
  have bX1 := FX1.binds (ps := ["row", "other"]) fun _ _ _ _ _ _ us hl => match us, hl with | [_, _], _ => rfl
  have FX4 := fun_mk (st := sTable) lX4 cX4 kX4
  have mX4 := PySem.W.mg_of X G aX4
  have bX4 := FX4.binds (ps := ["coefficients"]) fun _ _ _ _ _ _ us hl => match us, hl with | [_], _ => rfl
  have FX5 := fun_mk (st := sProd) lX5 cX5 kX5
  have mX5 := PySem.W.mg_of X G aX5
  have bX5 := FX5.binds (ps := ["table", "vector", "other"]) fun _ _ _ _ _ _ us hl => match us, hl with | [_, _, _], _ => rfl
  have FX6 := fun_mk (st := sInt) lX6 cX6 kX6
  have mX6 := PySem.W.mg_of X G aX6
  have bX6 := FX6.binds (ps := ["value"]) fun _ _ _ _ _ _ us hl => match us, hl with | [_], _ => rfl
  have FX7 := fun_mk (st := sWithin) lX7 cX7 kX7
  have mX7 := PySem.W.mg_of X G aX7
  have bX7 := FX7.binds (ps := ["value", "least", "most"]) fun _ _ _ _ _ _ us hl => match us, hl with | [_, _, _], _ => rfl
  have FX8 := fun_mk (st := sBeyond) lX8 cX8 kX8
  have mX8 := PySem.W.mg_of X G aX8
  have bX8 := FX8.binds (ps := ["values", "size"]) fun _ _ _ _ _ _ us hl => match us, hl with | [_, _], _ => rfl
  have FX9 := fun_mk (st := sCheckC) lX9 cX9 kX9
  have mX9 := PySem.W.mg_of X G aX9
  have bX9 := FX9.binds (ps := ["coefficients"]) fun _ _ _ _ _ _ us hl => match us, hl with | [_], _ => rfl
  have FY1 := fun_mk (st := sCheckV) lY1 cY1 kY1
  have mY1 := PySem.W.mg_of X G aY1
  have bY1 := FY1.binds (ps := ["vector", "many"]) fun _ _ _ _ _ _ us hl => match us, hl with | [_, _], _ => rfl
  have FA := fun_mk (st := sDip) lA cA kA
  have mA := PySem.W.mg_of X G aA
  have bA := FA.binds (ps := ["_law_jar_here", "_law_top"]) fun _ _ _ _ _ _ us hl => match us, hl with | [_, _], _ => rfl
  have FB := fun_mk (st := sOneOf) lB cB kB
  have mB := PySem.W.mg_of X G aB
  have bB := FB.binds (ps := ["_law_jar_here", "_law_some"]) fun _ _ _ _ _ _ us hl => match us, hl with | [_, _], _ => rfl
  have FD := fun_mk (st := sGcd) lD cD kD
  have mD := PySem.W.mg_of X G aD
  have bD := FD.binds (ps := ["_law_one", "_law_two"]) fun _ _ _ _ _ _ us hl => match us, hl with | [_, _], _ => rfl
  have FE := fun_mk (st := sPlaces) lE cE kE
  have mE := PySem.W.mg_of X G aE
  have bE := FE.binds (ps := ["_law_size_here"]) fun _ _ _ _ _ _ us hl => match us, hl with | [_], _ => rfl
  have FI := fun_mk (st := sAny) lI cI kI
  have mI := PySem.W.mg_of X G aI
  have bI := FI.binds (ps := ["_law_jar_here", "_law_size_here", "_law_most"]) fun _ _ _ _ _ _ us hl => match us, hl with | [_, _, _], _ => rfl
  have FL := fun_mk (st := sSize) lL cL kL
  have mL := PySem.W.mg_of X G aL
  have bL := FL.binds (ps := ["_law_own"]) fun _ _ _ _ _ _ us hl => match us, hl with | [_], _ => rfl
  have FM := fun_mk (st := sLTable) lM cM kM
  have mM := PySem.W.mg_of X G aM
  have bM := FM.binds (ps := ["_law_own"]) fun _ _ _ _ _ _ us hl => match us, hl with | [_], _ => rfl
  have FN := fun_mk (st := sLValue) lN cN kN
  have mN := PySem.W.mg_of X G aN
  have bN := FN.binds (ps := ["_law_own", "_law_vector_here"]) fun _ _ _ _ _ _ us hl => match us, hl with | [_, _], _ => rfl
  have FO := fun_mk (st := sLed) lO cO kO
  have mO := PySem.W.mg_of X G aO
  have bO := FO.binds (ps := ["_law_change", "_law_vector_here"]) fun _ _ _ _ _ _ us hl => match us, hl with | [_, _], _ => rfl
  have FZ9 := fun_mk (st := sJar) lZ9 cZ9 kZ9
  have mZ9 := PySem.W.mg_of X G aZ9
  have bZ9 := FZ9.binds (ps := ["_law_cells", "_law_turn"]) fun _ _ _ _ _ _ us hl => match us, hl with | [_, _], _ => rfl
  have FV := fun_mk (st := sVector) lV cV kV
  have mV := PySem.W.mg_of X G aV
  have bV := FV.binds (ps := ["_law_jar_here", "_law_size_here"]) fun _ _ _ _ _ _ us hl => match us, hl with | [_, _], _ => rfl
  have FW := fun_mk (st := sContent) lW cW kW
  have mW := PySem.W.mg_of X G aW
  have bW := FW.binds (ps := ["_law_own"]) fun _ _ _ _ _ _ us hl => match us, hl with | [_], _ => rfl
  have FR := fun_mk (st := sRight) lR cR kR
  have mR := PySem.W.mg_of X G aR
  have bR := FR.binds (ps := ["_law_jar_here"]) fun _ _ _ _ _ _ us hl => match us, hl with | [_], _ => rfl
  have FS := fun_mk (st := sLaw) lS cS kS
  have mS := PySem.W.mg_of X G aS
  have bS := FS.binds (ps := ["_law_cells"]) fun _ _ _ _ _ _ us hl => match us, hl with | [_], _ => rfl
  have n_isinstance := PySem.W.mg_none_of X G z_isinstance
  have n_int := PySem.W.mg_none_of X G z_int
  have n_bool := PySem.W.mg_none_of X G z_bool
  have n_range := PySem.W.mg_none_of X G z_range
  have n_len := PySem.W.mg_none_of X G z_len
  have n_divmod := PySem.W.mg_none_of X G z_divmod
  have n_abs := PySem.W.mg_none_of X G z_abs
  have n_max := PySem.W.mg_none_of X G z_max
  have n_min := PySem.W.mg_none_of X G z_min
  have n_repr := PySem.W.mg_none_of X G z_repr
  have n_tuple := PySem.W.mg_none_of X G z_tuple
  have n_sum := PySem.W.mg_none_of X G z_sum
  have n_zip := PySem.W.mg_none_of X G z_zip
  have n_enumerate := PySem.W.mg_none_of X G z_enumerate
  have n_all := PySem.W.mg_none_of X G z_all
  have FF1 := fun_mk (st := sInit) lF1 cF1 kF1
  have bF1 := FF1.binds (ps := ["self", "coefficients"]) fun _ _ _ _ _ _ us hl => match us, hl with | [_, _], _ => rfl
  have FF2 := fun_mk (st := sValue) lF2 cF2 kF2
  have bF2 := FF2.binds (ps := ["self", "vector"]) fun _ _ _ _ _ _ us hl => match us, hl with | [_, _], _ => rfl
  have FF3 := fun_mk (st := sProduct) lF3 cF3 kF3
  have bF3 := FF3.binds (ps := ["self", "vector", "other"]) fun _ _ _ _ _ _ us hl => match us, hl with | [_, _, _], _ => rfl
  have FP1 := fun_mk (st := sUnk) lP1 cP1 kP1
  have bP1 := FP1.binds (ps := ["self"]) fun _ _ _ _ _ _ us hl => match us, hl with | [_], _ => rfl
  have hP1 : PropOf K C "unknowns" pP1 fP1 := ⟨qP1, gP1, tP1, _, eP1⟩
  have FP2 := fun_mk (st := sTab) lP2 cP2 kP2
  have bP2 := FP2.binds (ps := ["self"]) fun _ _ _ _ _ _ us hl => match us, hl with | [_], _ => rfl
  have hP2 : PropOf K C "table" pP2 fP2 := ⟨qP2, gP2, tP2, _, eP2⟩
  have FP3 := fun_mk (st := sCont) lP3 cP3 kP3
  have bP3 := FP3.binds (ps := ["self"]) fun _ _ _ _ _ _ us hl => match us, hl with | [_], _ => rfl
  have hP3 : PropOf K C "content" pP3 fP3 := ⟨qP3, gP3, tP3, _, eP3⟩
  have FP4 := fun_mk (st := sEven) lP4 cP4 kP4
  have bP4 := FP4.binds (ps := ["self"]) fun _ _ _ _ _ _ us hl => match us, hl with | [_], _ => rfl
  have hP4 : PropOf K C "is_even_between" pP4 fP4 := ⟨qP4, gP4, tP4, _, eP4⟩
  have mF := PySem.W.mg_of X G gF
  have mU := PySem.W.mg_of X G gU
  have m1 := PySem.W.mg_of X G g1
  have m2 := PySem.W.mg_of X G g2
  have mgcd := PySem.W.mg_of X G gg
  have KD := kdi_unk lU sU
  have mP := PySem.W.mg_of X G gP
  have KP := plc_mk lP l3 l3_0 l3_1 l6 l6_0 l6_1 l6_2 l10 l10_0 l10_1 l10_2 l10_3 l15 l15_0 l15_1 l15_2 l15_3 l15_4 sP
  have c0 : Cls K C := ⟨pg, hd, po, sa⟩
  refine ⟨PySem.W.fnOf "law" "law" (defArgs sLaw) (defBody sLaw) (defScope sLaw) .none kVS dcS pmS anS cdS ctS, fun s v => .of_eq rfl, fun base _ _ => ?_⟩
  have G1 : FnOk l.prog w K mg base CX0 _ _ _ _ _ := ok_dot FX1 n_zip n_sum
  have G4 : FnOk l.prog w K mg base CX0 _ _ _ _ _ := ok_table FX4 n_tuple n_len n_enumerate mP KP
  have G5 : FnOk l.prog w K mg base CX0 _ _ _ _ _ := ok_prod FX5 G1 mX1 kX1 bX1
  have G6 : FnOk l.prog w K mg base CX0 _ _ _ _ _ := ok_int FX6 n_isinstance n_int n_bool
  have G7 : FnOk l.prog w K mg base CX0 _ _ _ _ _ := ok_within FX7 G6 mX6 kX6 bX6
  have G8 : FnOk l.prog w K mg base CX0 _ _ _ _ _ := ok_beyond FX8 G7 mX7 kX7 bX7 n_enumerate
  have G9 : FnOk l.prog w K mg base CX0 _ _ _ _ _ := ok_checkC FX9 G8 mX8 kX8 bX8 n_isinstance n_tuple n_len mU KD m1
  have H1 : FnOk l.prog w K mg base CX0 _ _ _ _ _ := ok_checkV FY1 G8 mX8 kX8 bX8 n_isinstance n_tuple n_len m2
  have I1 : FnOk l.prog w K mg base CX0 _ _ _ _ _ := ok_init FF1 G9 mX9 kX9 bX9 c0 nC
  have P1 : FnOk l.prog w K mg base CX0 _ _ _ _ _ := ok_unk FP1 c0 nC n_len mU KD
  have P2 : FnOk l.prog w K mg base CX0 _ _ _ _ _ := ok_tab FP2 c0 nC G4 mX4 kX4 bX4
  have P3 : FnOk l.prog w K mg base CX0 _ _ _ _ _ := ok_cont FP3 c0 nC mgcd
  have P4 : FnOk l.prog w K mg base CX0 _ _ _ _ _ := ok_even FP4 c0 P2 hP2 bP2 n_all n_range n_len
  have I2 : FnOk l.prog w K mg base CX0 _ _ _ _ _ := ok_value FF2 c0 H1 mY1 kY1 bY1 G5 mX5 kX5 bX5 P1 hP1 bP1 P2 hP2 bP2
  have I3 : FnOk l.prog w K mg base CX0 _ _ _ _ _ := ok_product FF3 c0 H1 mY1 kY1 bY1 G5 mX5 kX5 bX5 P1 hP1 bP1 P2 hP2 bP2
  have GA : FnOk l.prog w K mg base CX0 _ _ _ _ _ := ok_dip FA n_int n_divmod
  have GB : FnOk l.prog w K mg base CX0 _ _ _ _ _ := ok_oneOf FB GA mA kA bA n_len
  have GD : FnOk l.prog w K mg base CX0 _ _ _ _ _ := ok_gcd FD n_int n_abs
  have GE : FnOk l.prog w K mg base CX0 _ _ _ _ _ := ok_places FE n_range
  have GI : FnOk l.prog w K mg base CX0 _ _ _ _ _ := ok_any FI GA mA kA bA GE mE kE bE n_tuple
  have GL : FnOk l.prog w K mg base CX0 _ _ _ _ _ := ok_size FL n_len
  have GM : FnOk l.prog w K mg base CX0 _ _ _ _ _ := ok_ltable FM GL mL kL bL GE mE kE bE n_tuple n_range n_min n_max
  have GN : FnOk l.prog w K mg base CX0 _ _ _ _ _ := ok_lvalue FN GE mE kE bE n_sum n_range n_len
  have GO : FnOk l.prog w K mg base CX0 _ _ _ _ _ := ok_led FO n_tuple n_sum n_range n_len
  have GU : FnOk l.prog w K mg base CX0 _ _ _ _ _ := ok_jar FZ9 n_int n_len n_abs
  have GV : FnOk l.prog w K mg base CX0 _ _ _ _ _ := ok_vector FV GA mA kA bA GB mB kB bB n_tuple n_range
  have GW : FnOk l.prog w K mg base CX0 _ _ _ _ _ := ok_content FW GD mD kD bD
  exact ok_law FS GU mZ9 kZ9 bZ9 (ok_right FR ⟨c0, ⟨mk, qF1, iF1, kc⟩, I1, mF, bF1, P2, hP2, bP2, P3, hP3, bP3, P4, hP4, bP4, I2, ⟨qF2, iF2, kF2⟩, bF2, kwValue FF2, I3, ⟨qF3, iF3, kF3⟩, bF3, kwProduct FF3, GA, mA, kA, bA, GB, mB, kB, bB, GI, mI, kI, bI, GM, mM, kM, bM, GE, mE, kE, bE, GW, mW, kW, bW, GV, mV, kV, bV, GN, mN, kN, bN, GO, mO, kO, bO, n_tuple, n_max, n_min, n_repr, n_range, n_len, n_int, n_sum⟩) mR kR bR n_all n_range n_max n_min n_len
end K02

open PySem PySem.W PyProof.Rows
set_option maxHeartbeats 0 in
theorem PySem.Challenge.cw_formworld_k02_whole_values_and_tables_holds : PySem.Challenge.rw_formworld_k02_whole_values_and_tables.Holds := by
  w_on; o_law; k_head; (case hw => w_witness2)
  k_fill
  refine Gu.walk_ofG (law := PySem.Challenge.rw_formworld_k02_whole_values_and_tables) (n := 63) (k := 9) (x := "_law_cells") (sp := fun w => K02.spLaw _) rfl (by decide) rfl ⟨rfl, by decide, by decide⟩ (fun w h Y => PySem.W.kIn_of Y) ?F (fun _ _ a ns hl _ hS => ⟨a, ns, rfl, hS, hl, fun _ => rfl⟩)
  case F =>
    intro w mg fa h KX G hmg
    refine' K02.all_mk KX G hmg ?aX1 ?lX1 ?cX1 ?kX1 ?aX4 ?lX4 ?cX4 ?kX4 ?aX5 ?lX5 ?cX5 ?kX5 ?aX6 ?lX6 ?cX6 ?kX6 ?aX7 ?lX7 ?cX7 ?kX7 ?aX8 ?lX8 ?cX8 ?kX8 ?aX9 ?lX9 ?cX9 ?kX9 ?aY1 ?lY1 ?cY1 ?kY1 ?aA ?lA ?cA ?kA ?aB ?lB ?cB ?kB ?aD ?lD ?cD ?kD ?aE ?lE ?cE ?kE ?aI ?lI ?cI ?kI ?aL ?lL ?cL ?kL ?aM ?lM ?cM ?kM ?aN ?lN ?cN ?kN ?aO ?lO ?cO ?kO ?aZ9 ?lZ9 ?cZ9 ?kZ9 ?aV ?lV ?cV ?kV ?aW ?lW ?cW ?kW ?aR ?lR ?cR ?kR ?aS ?lS ?cS ?kS ?z_isinstance ?z_int ?z_bool ?z_range ?z_len ?z_divmod ?z_abs ?z_max ?z_min ?z_repr ?z_tuple ?z_sum ?z_zip ?z_enumerate ?z_all ?gF ?pg ?hd ?po ?sa ?mk ?kc ?nC ?qF1 ?iF1 ?lF1 ?cF1 ?kF1 ?qF2 ?iF2 ?lF2 ?cF2 ?kF2 ?qF3 ?iF3 ?lF3 ?cF3 ?kF3 ?qP1 ?gP1 ?tP1 ?eP1 ?lP1 ?cP1 ?kP1 ?qP2 ?gP2 ?tP2 ?eP2 ?lP2 ?cP2 ?kP2 ?qP3 ?gP3 ?tP3 ?eP3 ?lP3 ?cP3 ?kP3 ?qP4 ?gP4 ?tP4 ?eP4 ?lP4 ?cP4 ?kP4 ?gU ?lU ?sU ?g1 ?g2 ?gg ?gP ?lP ?l3 ?l3_0 ?l3_1 ?l6 ?l6_0 ?l6_1 ?l6_2 ?l10 ?l10_0 ?l10_1 ?l10_2 ?l10_3 ?l15 ?l15_0 ?l15_1 ?l15_2 ?l15_3 ?l15_4 ?sP
    (case aX1 => k_is); (case lX1 => k_is); (case cX1 => k_is); (case kX1 => k_is); (case aX4 => k_is); (case lX4 => k_is); (case cX4 => k_is); (case kX4 => k_is); (case aX5 => k_is); (case lX5 => k_is); (case cX5 => k_is); (case kX5 => k_is); (case aX6 => k_is); (case lX6 => k_is); (case cX6 => k_is); (case kX6 => k_is); (case aX7 => k_is); (case lX7 => k_is); (case cX7 => k_is); (case kX7 => k_is); (case aX8 => k_is); (case lX8 => k_is); (case cX8 => k_is); (case kX8 => k_is); (case aX9 => k_is); (case lX9 => k_is); (case cX9 => k_is); (case kX9 => k_is); (case aY1 => k_is); (case lY1 => k_is); (case cY1 => k_is); (case kY1 => k_is); (case aA => k_is); (case lA => k_is); (case cA => k_is); (case kA => k_is); (case aB => k_is); (case lB => k_is); (case cB => k_is); (case kB => k_is); (case aD => k_is); (case lD => k_is); (case cD => k_is); (case kD => k_is); (case aE => k_is); (case lE => k_is); (case cE => k_is); (case kE => k_is); (case aI => k_is); (case lI => k_is); (case cI => k_is); (case kI => k_is); (case aL => k_is); (case lL => k_is); (case cL => k_is); (case kL => k_is); (case aM => k_is); (case lM => k_is); (case cM => k_is); (case kM => k_is); (case aN => k_is); (case lN => k_is); (case cN => k_is); (case kN => k_is); (case aO => k_is); (case lO => k_is); (case cO => k_is); (case kO => k_is); (case aZ9 => k_is); (case lZ9 => k_is); (case cZ9 => k_is); (case kZ9 => k_is); (case aV => k_is); (case lV => k_is); (case cV => k_is); (case kV => k_is); (case aW => k_is); (case lW => k_is); (case cW => k_is); (case kW => k_is); (case aR => k_is); (case lR => k_is); (case cR => k_is); (case kR => k_is); (case aS => k_is); (case lS => k_is); (case cS => k_is); (case kS => k_is); (case z_isinstance => k_is); (case z_int => k_is); (case z_bool => k_is); (case z_range => k_is); (case z_len => k_is); (case z_divmod => k_is); (case z_abs => k_is); (case z_max => k_is); (case z_min => k_is); (case z_repr => k_is); (case z_tuple => k_is); (case z_sum => k_is); (case z_zip => k_is); (case z_enumerate => k_is); (case z_all => k_is); (case gF => k_is); (case pg => k_is); (case hd => k_is); (case po => k_is); (case sa => k_is); (case mk => k_is); (case kc => k_is); (case nC => k_is); (case qF1 => k_is); (case iF1 => k_is); (case lF1 => k_is); (case cF1 => k_is); (case kF1 => k_is); (case qF2 => k_is); (case iF2 => k_is); (case lF2 => k_is); (case cF2 => k_is); (case kF2 => k_is); (case qF3 => k_is); (case iF3 => k_is); (case lF3 => k_is); (case cF3 => k_is); (case kF3 => k_is); (case qP1 => k_is); (case gP1 => k_is); (case tP1 => k_is); (case eP1 => k_is); (case lP1 => k_is); (case cP1 => k_is); (case kP1 => k_is); (case qP2 => k_is); (case gP2 => k_is); (case tP2 => k_is); (case eP2 => k_is); (case lP2 => k_is); (case cP2 => k_is); (case kP2 => k_is); (case qP3 => k_is); (case gP3 => k_is); (case tP3 => k_is); (case eP3 => k_is); (case lP3 => k_is); (case cP3 => k_is); (case kP3 => k_is); (case qP4 => k_is); (case gP4 => k_is); (case tP4 => k_is); (case eP4 => k_is); (case lP4 => k_is); (case cP4 => k_is); (case kP4 => k_is); (case gU => k_is); (case lU => k_is); (case sU => first | rfl | decide | k_is); (case g1 => k_is); (case g2 => k_is); (case gg => k_is); (case gP => k_is); (case lP => k_is); (case l3 => k_is); (case l3_0 => k_is); (case l3_1 => k_is); (case l6 => k_is); (case l6_0 => k_is); (case l6_1 => k_is); (case l6_2 => k_is); (case l10 => k_is); (case l10_0 => k_is); (case l10_1 => k_is); (case l10_2 => k_is); (case l10_3 => k_is); (case l15 => k_is); (case l15_0 => k_is); (case l15_1 => k_is); (case l15_2 => k_is); (case l15_3 => k_is); (case l15_4 => k_is); (case sP => first | rfl | decide | k_is)
