import PyProof.Rows.All
import Wide.All
import OpenK.AllK
import Wide.FinOn
import HandS.ForMost
import HandS.Defaults
import HandS.Style
import PyProof.ReprRoads
import HandS.Gcd
import HandS.Wide
import Flt.RightSqrt
import PyProof.ExcBaseAll.ArithmeticError
import PyProof.ExcBaseAll.ValueError
import KE.KIsAll
import KE.KExcIs
import KE.KExcInit
import HandS.Exc
import HandS.ExcIs
import HandS.IsInst
import HandS.WordsExc
import HandS.NoneIn
import HandS.Conv
import HandS.Walk
import PySem.Challenge.RW_formworld_k54_whole_least_units
set_option Elab.async false
set_option linter.all false
set_option maxRecDepth 100000
set_option maxHeartbeats 8000000
namespace Gu
open PySem PySem.Spec PyProof.Rows L2
section
variable {P : Program} {w : World} {K : PySem.W.Frag} {mg : Str → Option Value} {base : Heap}
/-- a def's promise where no repr is under way around the call -/
structure GOk (P : Program) (w : World) (K : PySem.W.Frag) (mg : Str → Option Value) (base : Heap) (CX : CXT) (lv : Nat) (fa : Addr) (fd : FuncData) (ps : List Str) (sp : Sp) : Prop where
  size : ∀ vs H Q E, sp vs H Q E → vs.length = ps.length
  go : ∀ (B : Around) (out : List Env) (t : Shared) (H : Hp) (ar : Args) (us : List Value) (vs : List V) (Q : VK) (E : XK), B.guards = some [] → Room lv B → Env0 P w K mg base B out t H → BindsTo t fd ar (ps.zip us) → Vals vs us → sp vs H Q E →
    codeAny (model P w) B (.call (.ref fa) ar) (CR CX out P w H t Q E) t
theorem GOk.of {CX : CXT} {lv : Nat} {fa : Addr} {fd : FuncData} {ps : List Str} {sp : Sp} (F : FnOk P w K mg base CX lv fa fd ps sp) : GOk P w K mg base CX lv fa fd ps sp :=
  ⟨F.len, fun B out t H ar us vs Q E _ a b c d e => F.run B out t H ar us vs Q E a b c d e⟩
theorem GOk.mk_of {CX : CXT} {lv : Nat} {fa : Addr} {nm ql : Str} {par : Arguments} {bod : List Stmt} {sco : Scope} {dV kV doc pm cdv ct oc : Value} {an od : Option Addr} {osl : Array (Option Value)} {N ps : List Str} {sp : Sp}
    (lk : K.lookup fa = some ⟨oc, od, .func (PySem.W.fnOf nm ql par bod sco dV kV doc pm an cdv ct), osl⟩) (hcd : PySem.W.codeIn K cdv ql = true) (S : FnScope N ps sco) (size : ∀ vs H Q E, sp vs H Q E → vs.length = ps.length)
    (hb : ∀ (B : Around) (out : List Env) (t : Shared) (H : Hp) (vs : List V) (Q : VK) (E : XK), (B.deeper (envOfC ql sco t.heap.objs.size fa cdv)).guards = some [] → Room lv (B.deeper (envOfC ql sco t.heap.objs.size fa cdv)) → sp vs H Q E →
      ∃ tm, PSs (cxOf CX P w K mg base N ql sco fa cdv B out t H E) bod tm ∧ tm { nx := fun _ H' => Q .non H', rt := Q } (start N vs) H) :
    GOk P w K mg base CX (lv + 1) fa (PySem.W.fnOf nm ql par bod sco dV kV doc pm an cdv ct) ps sp := by
  refine ⟨size, fun B out t H ar us vs Q E hgd hro e0 hbd hvs hsp => ?_⟩
  have inB : ∀ b o, base.get? b = some o → t.heap.get? b = some o := fun b o z => (e0.bs b o z).1
  have KX : K.In t.heap := e0.mod.kin.keeps inB
  have noL : t.heap.NoLimit := e0.mod.nolimit.keeps inB
  have kinds : ∀ y ∈ ps.zip us, sco.names.lookup y.1 = some .local ∨ (sco.names.lookup y.1 = some .cell ∧ ((cellsFrom (t.heap.objs.size + 1) sco.names []).lookup y.1).isSome = true) := by
    rintro ⟨n, v⟩ hy
    exact (S.par n (List.of_mem_zip hy).1).imp id fun z => ⟨z, PySem.W.cellsFrom_some _ _ _ (.inl z)⟩
  refine codeAny_call_function hro.depth (KX _ _ lk) rfl S.co S.gen rfl (PySem.W.codeRec_of KX hcd) (hbd _ _ _ _ (wpAny_newFunctionEnv_cells S.kind kinds fun en he t1 x => ?_))
  subst he
  refine ⟨noL.keeps x.toInCall.keep, codeAny_func ?_⟩
  obtain ⟨tm, hp, hq⟩ := hb B out t H vs Q E hgd (hro.deeper _) hsp
  have J0 := inv_start (CX := CX) (E := E) S hro.hd e0 (size _ _ _ _ hsp) hvs x
  refine wpAny_mono (hp.run [] t1 (start N vs) H _ J0 hq) (fun fl t2 hs => ?_) fun _ _ z => z
  cases fl with
  | ret u =>
    obtain ⟨v, _, H2, J, rv, q⟩ := hs
    exact ⟨v, H2, J.os, J.bare, J.base, J.hok, rv, q⟩
  | next =>
    obtain ⟨_, H2, J, q⟩ := hs
    exact ⟨V.non, H2, J.os, J.bare, J.base, J.hok, rfl, q⟩
  | brk => obtain ⟨_, _, _, q⟩ := hs; exact q.elim
  | cont => obtain ⟨_, _, _, q⟩ := hs; exact q.elim
/-- its body as a term, as for Fun.ok -/
theorem GOk.fun {x qual : Str} {st : Stmt} {fa : Addr} {fd : FuncData} {N ps : List Str} {lv : Nat} {sp : Sp} (F : Fun K x qual st fa fd) (S : FnScope N ps (defScope st)) (size : ∀ vs H Q E, sp vs H Q E → vs.length = ps.length)
    (hb : ∀ (cdv : Value) (B : Around) (out : List Env) (t : Shared) (H : Hp) (vs : List V) (Q : VK) (E : XK), (B.deeper (envOfC qual (defScope st) t.heap.objs.size fa cdv)).guards = some [] → Room lv (B.deeper (envOfC qual (defScope st) t.heap.objs.size fa cdv)) → sp vs H Q E →
      ∃ tm, PSs (cxOf CX0 P w K mg base N qual (defScope st) fa cdv B out t H E).nox (defBody st) tm ∧ tm { nx := fun _ H' => Q .non H', rt := Q } (start N vs) H) : GOk P w K mg base CX0 (lv + 1) fa fd ps sp := by
  obtain ⟨_, _, _, _, _, _, cdv, _, _, rfl, lk, hcd⟩ := F.ex
  refine GOk.mk_of lk hcd S size fun B out t H vs Q E hg hro hsp => ?_
  obtain ⟨tm, hp, q⟩ := hb cdv B out t H vs Q E hg hro hsp
  exact ⟨tm, hp.nox, q⟩
end
section
variable {X : Cx} {CX : CXT} {k : Nat} {f : Addr} {fd : FuncData} {ps : List Str} {sp : Sp} {dvs : List V} {ds : List Value} {E : XK} {x : Str} {p pos : Pos} {e : Expr} {es : List Expr} {t tk : TA} {kws : List Keyword} {ks : List Str} {g : List Value → List Value → List Value} {gV : List V → List V → List V}
theorem ends {pins : List (Addr × Obj)} {σ : L2.St} {H : Hp} {s : Shared} {Q : VK} (hx : Passes CX X E) (I : Inv X pins σ H s) {r : Result} {s' : Shared} (hq : CR CX X.stack X.prog X.w H s Q E r s') :
    match r with | .ok (.ret u) => EP X pins σ Q u s' | .ok _ => False | .error e => X.xe e s' := by
  cases r with
  | error z => exact hx pins σ H s z s' I hq
  | ok fl =>
    cases fl with
    | ret u => exact I.after hq
    | next => exact hq.elim
    | brk => exact hq.elim
    | cont => exact hq.elim
theorem runG {pins : List (Addr × Obj)} {σ : L2.St} {H : Hp} {s : Shared} {Q : VK} {us : List Value} {vs : List V} (F : GOk X.prog X.w X.K X.mg X.base CX k f fd ps sp) (hG : X.A.guards = some []) (hr : Room k X.A) (hb : Binds X.K fd ps ds) (hd : Vals dvs ds) (hx : Passes CX X E)
    (J : Inv X pins σ H s) (rv : Vals vs us) (hsp : sp (vs ++ dvs) H Q E) : wpAny (model X.prog X.w) X.A (call (.ref f) us) (EP X pins σ Q) X.xe s := by
  have rw2 := rv.append hd
  have hl : (us ++ ds).length = ps.length := rw2.length.symm.trans (F.size _ _ _ _ hsp)
  refine wpAny_call (codeAny_mono (F.go X.A X.stack s H ⟨us, []⟩ _ _ Q E hG hr J.env0 (hb s us J.kIn hl) rw2 hsp) fun r s' hq => ?_)
  have z := ends hx J hq
  cases r with
  | error e => exact z
  | ok fl => cases fl <;> exact z
/-- f(e, ..) of such a def -/
theorem pe_callG (F : GOk X.prog X.w X.K X.mg X.base CX k f fd ps sp) (hG : X.A.guards = some []) (hr : Room k X.A) (hg : Gl X x) (hm : X.mg x = some (.ref f)) (hk : PySem.W.keepIn X.K (.ref f) = true) (hb : Binds X.K fd ps ds) (hd : Vals dvs ds) (hx : Passes CX X E)
    (args : PA X (e :: es) t) (hdb : (x == ("__debug__" : Str)) = false := by decide) (hse : starEach (e :: es) X.env = (false, eval e X.env) :: starEach es X.env := by rfl) (hna : (backTo pos (starEach es X.env)).any (·.1) = false := by rfl) : PE X (.Call (.Name x p) (e :: es) [] pos) (tCall sp dvs E t) :=
  ⟨fun pins s σ H Q I h => wpAny_Call_Name_kw (ld_glob I hg hm (PySem.W.callWith_K (h₀ := X.base) I.ok.mod.kin hk (thn (args.run pos pins s σ H _ I h) fun us s1 ⟨vs, H1, I1, r, q⟩ => ⟨I1.kIn, runG F hG hr hb hd hx I1 r q⟩) hse hna) hdb)⟩
/-- f(k = e, ..), keywords alone -/
def tCallO (sp : Sp) (gV : List V → List V → List V) (m : Nat) (E : XK) (tk : TA) : TE := fun σ H Q => tk σ H fun zs H2 => zs.length = m ∧ sp (gV [] zs) H2 Q E
theorem pe_callO (F : FnOk X.prog X.w X.K X.mg X.base CX k f fd ps sp) (hr : Room k X.A) (hg : Gl X x) (hm : X.mg x = some (.ref f)) (hk : PySem.W.keepIn X.K (.ref f) = true) (hb : KBn X.K fd ps 0 ks g gV) (hx : Passes CX X E) (hkw : PK X kws tk)
    (hnm : (backToKw pos (keywordEach kws X.env)).all (·.1.isSome) = true := by rfl) (hks : (backToKw pos (keywordEach kws X.env)).filterMap (·.1) = ks := by rfl)
    (hdb : (x == ("__debug__" : Str)) = false := by decide) (hst : ((backTo pos (starEach [] X.env)).any (·.1) || (backToKw pos (keywordEach kws X.env)).any (·.1.isNone)) = false := by rfl) :
    PE X (.Call (.Name x p) [] kws pos) (tCallO sp gV ks.length E tk) := by
  constructor
  intro pins s σ H Q I h
  apply wpAny_Call_Name_kw
  refine ld_glob I hg hm (PySem.W.callWith_KW0 (h₀ := X.base) I.ok.mod.kin hk hnm ?_ hst) hdb
  refine thn (hkw.run pos pins s σ H _ I h) fun wv s2 ⟨zs, H2, I2, rz, lz, q2⟩ => ⟨I2.kIn, ?_⟩
  rw [hks]
  have r2 := hb.rel .nil rz
  refine wpAny_call (codeAny_mono (F.run X.A X.stack s2 H2 ⟨[], ks.zip wv⟩ _ _ Q E hr I2.env0 (hb.to s2 [] wv I2.kIn rfl (rz.length.symm.trans lz)) r2 q2) fun r s' hq => ?_)
  have z := ends hx I2 hq
  cases r with
  | error e => exact z
  | ok fl => cases fl <;> exact z
/-- repr of data -/
theorem call_reprD (hG : X.A.guards = some []) (hu : X.A.units + 64 < cLine) : CallR X (.builtin "repr") (fun xs H Q => ∃ a d, xs = [V.ref a] ∧ Dp X.K H (.ref a) d ∧ d.showable = true ∧ d.hasDict = false ∧ d.depth < 60 ∧ d.shown.length ≤ sizeLine ∧ Q (.str d.shown) H) := by
  intro pins s σ H xs us Q I rv hw
  obtain ⟨a, d, rfl, hd, hs, hn, hdp, hsz, q⟩ := hw
  cases rv with
  | cons r1 r2 =>
    cases r2
    obtain ⟨as, hr⟩ := Dp.reads I d _ _ hd r1
    cases r1
    exact repr_of_reads' hr hs (fun z => absurd (hn.symm.trans z) (by decide)) hG (by omega) (fun _ _ z => z) (fun h' u tk kp => ⟨.str _, H, I.kept kp, ⟨_, rfl⟩, q⟩) hsz
/-- bools by is, is not -/
theorem op_isB : OpR X (compareOp .IsNot) (fun x y H Q => ∃ b c, x = .bl b ∧ y = .bl c ∧ Q (.bl (b != c)) H) := by
  intro pins s σ H x y v u Q I rx ry hw
  obtain ⟨b1, b2, rfl, rfl, q⟩ := hw
  cases rx
  cases ry
  exact PyProof.Rows.isnot_bool ⟨.bl _, H, I, rfl, q⟩
end
section
/-- the law is called, nothing being under way -/
theorem law_callG {P : Program} {w : World} {K : PySem.W.Frag} {mg mb : Str → Option Value} {CX : CXT} {k : Nat} {fa a : Addr} {fd : FuncData} {x : Str} {sp : Sp} {t : Shared} {vs : List Value} {ns : List Int}
    (KX : K.In t.heap) (hns : t.heap.Ns mainGlobals mg) (hb : t.heap.Ns builtinsNs mb) (hbb : ∀ y : Str, y ≠ "__name__" → mb y = bootBuiltins y) (hlim : t.heap.NoLimit) (hg : t.gens = #[])
    (ha : t.heap.get? a = some { cls := .type "list", data := .seq vs.toArray }) (hi : IntsAre vs ns) (hl : ns.length ≤ sizeLine) (hr : Room k callerA)
    (F : ∀ base : Heap, K.In base → base.Ns mainGlobals mg → GOk P w K mg base CX k fa fd [x] sp) (hbind : ∀ (s : Shared) (u : Value), BindsTo s fd ⟨[u], []⟩ [(x, u)])
    (hkept : ∀ H : Hp, Only H → SqL K H a (ns.map V.int) → sp [.ref a] H (fun v _ => v = .bl true) fun _ _ _ => False) (hCX : ∀ H e s', CX [] H t (fun _ _ _ => False) e s' → False) :
    codeAny (model P w) callerA (.call (.ref fa) ⟨[.ref a], []⟩) (fun r s' => r = .ok (.ret (.bool true)) ∧ OldK t.heap s'.heap ∧ s'.os = t.os ∧ AllBare s'.gens) t := by
  have rv := vals_ints hi
  have main : ∀ H : Hp, Only H → SqL K H a (ns.map V.int) → HOk P w H t.heap → (∀ b, H b ≠ none → b = a) → (H a ≠ none → K.lookup a = none) →
      codeAny (model P w) callerA (.call (.ref fa) ⟨[.ref a], []⟩) (fun r s' => r = .ok (.ret (.bool true)) ∧ OldK t.heap s'.heap ∧ s'.os = t.os ∧ AllBare s'.gens) t := by
    intro H hO hS hok hA hK
    have keep : ∀ {b : Addr} {o : Obj}, t.heap.get? b = some o → (H b ≠ none → False) → (hidT t.heap H).get? b = some o := fun {b o} z n => hidT_get z (by
      cases q : H b with
      | none => rfl
      | some u => exact (n (by rw [q]; simp)).elim)
    have nsB : ∀ {b : Addr} {m : Str → Option Value}, t.heap.Ns b m → (hidT t.heap H).Ns b m := by
      rintro b m ⟨o, es, ep, z, d, r⟩
      refine ⟨o, es, ep, keep z fun hn => ?_, d, r⟩
      have hab := hA b hn
      subst hab
      rw [ha] at z
      cases z
      have bad : Data.seq vs.toArray _ = Data.dict es ep := d
      cases bad
    have KB : K.In (hidT t.heap H) := fun b o z => keep (KX b o z) fun hn => by
      have hab := hA b hn
      subst hab
      rw [hK hn] at z
      cases z
    obtain ⟨mc, c1, c2⟩ := hlim
    have M : Mod K mg (hidT t.heap H) := ⟨KB, nsB hns, ⟨mb, nsB hb, hbb⟩, ⟨mc, nsB c1, c2⟩⟩
    have none0 : ∀ b : Addr, b ∉ ([] : List Addr) := fun b z => absurd z List.not_mem_nil
    have e0 : Env0 P w K mg (hidT t.heap H) callerA [] t H := ⟨rfl, M, fun b o z => of_hidT z, Nat.le_of_eq (hidT_size _ _), trivial, fun b z => absurd z (none0 b), hok, .of_eq hg⟩
    refine codeAny_mono ((F _ KB (nsB hns)).go callerA [] t H ⟨[.ref a], []⟩ [.ref a] [.ref a] _ _ rfl hr e0 (hbind t (.ref a)) (.cons rfl .nil) (hkept H hO hS)) fun r s' z => ?_
    cases r with
    | error e => exact (hCX H e s' z).elim
    | ok fl =>
      cases fl with
      | next => exact z.elim
      | brk => exact z.elim
      | cont => exact z.elim
      | ret u =>
        obtain ⟨v, H2, os, bare, un, hok2, rv2, qv⟩ := z
        have qv2 : v = .bl true := qv
        subst qv2
        cases rv2
        refine ⟨rfl, OldK.of_keep fun b o z => ?_, os, bare⟩
        cases q : H b with
        | none => exact un.keep b o z q (fun y => absurd y (none0 b)) List.not_mem_nil
        | some u =>
          rcases hO b with y | ⟨ob, xs, y⟩
          · rw [q] at y
            cases y
          · obtain ⟨e1, _⟩ := hok b _ y
            obtain ⟨e2, _⟩ := hok2 b _ (un.frzs b ob _ y)
            rw [z] at e1
            cases e1
            exact e2
  cases hk : K.lookup a with
  | some o =>
    have z := KX a o hk
    rw [ha] at z
    cases z
    exact main (fun _ => none) (fun _ => .inl rfl) (.inr ⟨_, vs.toArray, _, hk, rfl, rfl, rfl, by rw [List.size_toArray, hi.length]; exact hl, by simpa using rv⟩) (fun b u y => by have y2 : (none : Option HO) = some u := y; cases y2) (fun b y => absurd rfl y) fun y => absurd rfl y
  | none =>
    refine main (fun b => if b = a then some (.frz { cls := .type "list", data := .seq vs.toArray } (.lst (ns.map V.int))) else none) (fun b => ?_) (.inl (.inr ⟨{ cls := .type "list", data := .seq vs.toArray }, if_pos rfl⟩)) (fun b u y => ?_) (fun b y => ?_) fun _ => hk
    · by_cases hb : b = a
      · exact Or.inr ⟨_, _, if_pos hb⟩
      · exact .inl (if_neg hb)
    · by_cases hb : b = a
      · subst hb
        have y2 := (if_pos rfl).symm.trans y
        cases y2
        refine ⟨ha, ?_, vs, _, rv, ha⟩
        rw [List.length_map]
        exact hl
      · have y2 := (if_neg hb).symm.trans y
        cases y2
    · exact Classical.byContradiction fun hb => y (if_neg hb)
/-- the end of a law, as walk_of -/
theorem walk_ofG {law : PySem.W.OpenLaw} {n k : Nat} {qq : Program} {lo : List Str} {XP : (Str → Option Value) → Heap → Prop} {YP : World → Heap → Prop} {dr : DefRec} {KK : Params → PySem.W.Frag} {sp : World → Sp} {x : Str}
    (hn : law.most = some n) (hsz : n ≤ sizeLine) (hdf : dr.params.defaults = []) (hro : Room k callerA) (hY : ∀ (w : World) (h : Heap), YP w h → (KK w.params).In h)
    (F : ∀ (w : World) (mg : Str → Option Value) (fa : Addr) (h : Heap), (KK w.params).In h → h.Ns mainGlobals mg → mg dr.name = some (.ref fa) →
      ∃ fd : FuncData, (∀ (s : Shared) (u : Value), BindsTo s fd ⟨[u], []⟩ [(x, u)]) ∧ ∀ bs : Heap, (KK w.params).In bs → bs.Ns mainGlobals mg → GOk law.prog w (KK w.params) mg bs CX0 k fa fd [x] (sp w))
    (hkept : ∀ (w : World) (H : Hp) (a : Addr) (ns : List Int), ns.length ≤ n → Only H → SqL (KK w.params) H a (ns.map V.int) → sp w [.ref a] H (fun v _ => v = .bl true) fun _ _ _ => False) : PySem.W.WalkO qq lo XP YP law.row.toRowW dr [] (fun f vs => PySem.call f vs) := by
  apply Att.attach_call hn hdf
  intro w _ t mg mb fa _ _ _ _ a vs ns G Y _ _ _ hmg hobj hints hlen hgens
  obtain ⟨fd, hbn, hF⟩ := F w mg fa _ (hY w _ Y) G.T.g hmg
  exact law_callG (hY w _ Y) G.T.g G.T.b G.T.builtins G.T.nolimit hgens hobj hints (Nat.le_trans hlen hsz) hro hF hbn (fun H hO hS => hkept w H a ns hlen hO hS) fun _ _ _ z => z
end
end Gu

/-! isqrt, and three comparisons in a row. -/
namespace L2
open PySem PySem.Spec PyProof.Rows
theorem iteT' {c : Bool} {A B : Prop} (hc : c = true) (h : A) : if c = true then A else B := by rw [if_pos hc]; exact h
theorem iteF' {c : Bool} {A B : Prop} (hc : c = false) (h : B) : if c = true then A else B := by rw [hc]; exact iteF h
section
variable {X : Cx}
theorem sq_one {r z : Int} {a : Int} (r0 : 0 ≤ r) (z0 : 0 ≤ z) (h1 : r * r ≤ a) (h2 : a < (r + 1) * (r + 1)) (h3 : z * z ≤ a) (h4 : a < (z + 1) * (z + 1)) : r = z := by
  have m : ∀ x y : Int, 0 ≤ x → x ≤ y → x * x ≤ y * y := fun x y hx h => Int.mul_le_mul h h hx (by omega)
  by_cases h : r ≤ z
  · by_cases h' : z ≤ r
    · omega
    · have := m (r + 1) z (by omega) (by omega)
      omega
  · have := m (z + 1) r (by omega) (by omega)
    omega
def rIsqrt : List V → Hp → VK → Prop := fun vs H Q => ∃ a r : Int, vs = [.int a] ∧ 0 ≤ r ∧ r * r ≤ a ∧ a < (r + 1) * (r + 1) ∧ a < 2 ^ 200 ∧ Q (.int r) H
theorem cr_isqrt : CallR X (.builtin "math.isqrt") rIsqrt := by
  intro pins s σ H vs us Q I rr h
  obtain ⟨a, r, rfl, r0, h1, h2, h3, q⟩ := h
  cases rr with
  | cons ra rn =>
    cases rn
    obtain ⟨t, rfl⟩ := ra
    have a0 : 0 ≤ a := Int.le_trans (Int.mul_nonneg r0 r0) h1
    obtain ⟨n, rfl⟩ : ∃ n : Nat, a = n := ⟨a.toNat, by omega⟩
    have en : ((n : Nat) : Int).toNat = n := rfl
    have hn : n < 2 ^ 200 := by
      have e : ((2 ^ 200 : Nat) : Int) = (2 : Int) ^ 200 := by rw [Int.natCast_pow]; rfl
      rw [← e] at h3
      exact Int.ofNat_lt.mp h3
    have hl : n.log2 ≤ 199 := PySem.W.mg_log hn
    have g := PySem.W.mg_run_isqrt (n : Int) t (by omega) (by rw [en]; omega) (by rw [en]; omega)
    rw [en] at g
    have e : ((Float64.isqrt n : Nat) : Int) = r := by
      obtain ⟨s1, s2⟩ := Float64.isqrt_spec n
      have c1 : ((Float64.isqrt n * Float64.isqrt n : Nat) : Int) ≤ n := Int.ofNat_le.mpr s1
      have c2 : (n : Int) < (((Float64.isqrt n + 1) * (Float64.isqrt n + 1) : Nat) : Int) := Int.ofNat_lt.mpr s2
      rw [Int.natCast_mul] at c1 c2
      exact sq_one (Int.natCast_nonneg _) r0 c1 c2 h1 h2
    rw [e] at g
    exact call_function_meets PySem.W.MGF.kind_isqrt PySem.W.MGF.plain_isqrt PySem.W.MGF.entry_isqrt (PySem.W.MGF.args_isqrt _) g.meets ⟨.int r, H, I.tok _, ⟨_, rfl⟩, q⟩
variable {a b c d : Expr} {ta tb tc td : TE} {pos : Pos}
def tChain3 (r r' r'' : R2) (ta tb tc td : TE) : TE := fun σ H Q => ta σ H fun x H1 => tb σ H1 fun y H2 => r x y H2 fun z H3 => ∃ k, z = .bl k ∧
  (if k = true then tc σ H3 fun u H4 => r' y u H4 fun z' H5 => ∃ k', z' = .bl k' ∧ (if k' = true then td σ H5 fun v H6 => r'' u v H6 Q else Q (.bl false) H5) else Q (.bl false) H3)
theorem pe_chain3 {o o' o'' : CmpOp} {r r' r'' : R2} (h1 : OpR X (compareOp o) r) (h2 : OpR X (compareOp o') r') (h3 : OpR X (compareOp o'') r'') (ha : PE X a ta) (hb : PE X b tb) (hc : PE X c tc) (hd : PE X d td)
    (hm : lastMarks [o, o', o''] [b, c, d] = false := by with_unfolding_all rfl) : PE X (.Compare a [o, o', o''] [b, c, d] pos) (tChain3 r r' r'' ta tb tc td) := by
  refine ⟨fun pins s σ H Q I h => ?_⟩
  refine Compare_chain (thn (ha.run pins s σ H _ I h) fun v0 s1 ⟨x, H1, I1, r1, q1⟩ => chain_link (thn (hb.run pins s1 σ H1 _ I1 q1) fun u s2 ⟨y, H2, I2, r2, q2⟩ =>
    thn (h1 pins s2 σ H2 x y v0 u _ I2 r1 r2 q2) fun w s3 ⟨z, H3, I3, r3, k, e, q3⟩ => ?_)) hm
  subst e
  cases r3
  refine wpAny_truthy_bool ?_
  cases k with
  | false => exact ite_ff ⟨V.bl false, H3, I3, rfl, q3⟩
  | true =>
    refine ite_tt (chain_link (thn (hc.run pins s3 σ H3 _ I3 q3) fun w' s4 ⟨y', H4, I4, r4, q4⟩ =>
      thn (h2 pins s4 σ H4 y y' u w' _ I4 r2 r4 q4) fun w2 s5 ⟨z', H5, I5, r5, k', e', q5⟩ => ?_))
    subst e'
    cases r5
    refine wpAny_truthy_bool ?_
    cases k' with
    | false => exact ite_ff ⟨.bl false, H5, I5, rfl, q5⟩
    | true => exact ite_tt (chain_last (thn (hd.run pins s5 σ H5 _ I5 q5) fun w3 s6 ⟨z'', H6, I6, r6, q6⟩ => h3 pins s6 σ H6 y' z'' w' w3 Q I6 r4 r6 q6))
end
end L2

/-! Own errors with one field that is kept: made, raised, caught, read, asked for their class. -/
namespace PySem
namespace XErr
open PySem.W PySem.Calls PyProof.Rows PySem.HandSPX
def inA (y : Str) (p1 p2 : Pos) : Arguments :=
  { posonlyargs := [], args := [{ arg := "self", annotation := none, pos := p1 }, { arg := y, annotation := none, pos := p2 }],
    vararg := none, kwonlyargs := [], kw_defaults := [], kwarg := none, defaults := [] }
def inB (y : Str) (q1 q2 q3 q4 : Pos) : List Stmt :=
  [.Assign [.Attribute (.Name "self" q1) y q2] (.Name y q3) q4]
def inS (y : Str) : Scope :=
  { kind := .function, names := [("self", .local), (y, .local)], isGenerator := false, isCoroutine := false, more := [] }
/-- the field's name -/
def Fld (y : Str) : Prop := y = "given" ∨ y = "index"
/-- what is written of the class x at D, its field y, its maker J -/
def Bases (bm : List Value) : Prop := bm.contains (.type "object") = true ∧ ∀ self : Value, refuseLoop self "__setattr__" bm = pure ()
theorem Bases.own {bm : List Value} (h : Bases bm) (c : Addr) : Bases (.ref c :: bm) :=
  ⟨by rw [List.contains_cons, h.1, Bool.or_true], fun self => (refuseLoop_ref self "__setattr__" c bm).trans (h.2 self)⟩
theorem bases_arith : Bases [.type "ArithmeticError", .type "Exception", .type "BaseException", .type "object"] := ⟨by decide +kernel, PySem.F.store_ArithmeticError.passes⟩
theorem bases_value : Bases [.type "ValueError", .type "Exception", .type "BaseException", .type "object"] := ⟨by decide +kernel, PySem.F.store_ValueError.passes⟩
structure Cls (K : Frag) (mg : Str → Option Value) (x y q : Str) (B nw : String) (bmB : List Value) (D J : Addr) : Prop where
  fl : Fld y
  at0 : mg x = some (.ref D)
  base : ∃ it, ExcBaseFacts B nw it bmB
  row : ∃ nm qq N bs bm sn sub ab col dd k0 k1 k2 k3 k5,
    K.lookup D = some (excClassObj nm qq D N bs bm true sn sub ab col dd k0 k1 k2 k3 k5 nw) ∧ Bases bm ∧
      ∀ X : String, bm.contains (.type X) = bmB.contains (.type X)
  store : findIn K (.ref D) "__setattr__" = some (some (.builtin "object.__setattr__"))
  load : findIn K (.ref D) "__getattribute__" = some (some (.builtin "BaseException.__getattribute__"))
  load2 : findIn K (.ref D) "__getattr__" = some none
  free : findIn K (.ref D) y = some none
  ini : findIn K (.ref D) "__init__" = some (some (.ref J))
  iniT : typeIn K (.ref J) = some (.type "function")
  kept : keepIn K (.ref D) = true
  exc : subIn K (.ref D) (.type "BaseException") = some true
  typ : typeIn K (.ref D) = some (.type "type")
  dic : hasDictIn K D = true
  own : exmOne K (.ref D) (.ref D) = some true
  code : ∃ (oc : Value) (od : Option Addr) (doc pm : Value) (an : Option Addr) (cdv ct : Value) (osl : Array (Option Value)) (p1 p2 q1 q2 q3 q4 : Pos),
    K.lookup J = some ⟨oc, od, .func (fnOf "__init__" q (inA y p1 p2) (inB y q1 q2 q3 q4) (inS y) .none .none doc pm an cdv ct), osl⟩ ∧ codeIn K cdv q = true
theorem one_fits (v : Value) : [v].length ≤ sizeLine := by rw [sizeLine_eq]; exact (by decide : 1 ≤ 16777216)
theorem loc {M : Model} {s : Shared} {nm : Str} {sc : Scope} {L a : Addr} {cd : Value} {m : Str → Option Value} {z : Str} {pos : Pos} {v : Value}
    {Q : Value → Shared → Prop} {A : Around} {E : Value → Shared → Prop} (hn : s.heap.Ns L m) (hv : m z = some v) (h : Q v s)
    (hk : sc.kind = .function) (hl : (envOfC nm sc L a cd).kindOf z = some .local) (hd : (z == ("__debug__" : Str)) = false) :
    wpAny M A (eval (.Name z pos) (envOfC nm sc L a cd)) Q E s :=
  wpAny_Name (wpAny_loadName_local hk hl hn hv h) hd
/-- behind the maker -/
structure Filled (h h' : Heap) (y : Str) (x D dx t1 : Addr) (v : Value) : Prop where
  keep : ∀ b o, b ≠ x → h.get? b = some o → h'.get? b = some o
  obj : h'.get? x = some { cls := .ref D, dict := some dx, data := .fields #[.ref t1, .none, .none, .none, .bool false, .none] }
  dbig : h.objs.size ≤ dx
  dne : dx ≠ x
  ns : h'.Ns1 dx (fun z => if z = y then some v else none)
/-- an error that was made -/
structure Made (h h' : Heap) (y : Str) (e D d : Addr) (v : Value) : Prop where
  keep : ∀ b o, h.get? b = some o → h'.get? b = some o
  new : h.objs.size ≤ e
  obj : ∃ oe vs, h'.get? e = some oe ∧ oe.cls = .ref D ∧ oe.dict = some d ∧ oe.data = .fields vs ∧ vs[1]? = some .none
  dbig : h.objs.size ≤ d
  dne : d ≠ e
  ns : h'.Ns1 d (fun z => if z = y then some v else none)
section
variable {prog : Program} {w : World} {A : Around} {R : Result → Shared → Prop} {hp : Heap} {g : Array GenState} {d : Drawn} {t : Nat} {os : OsState}
/-- the first store into such an error -/
theorem stored {K : Frag} {fl : Str} {tk : Tok} {v : Value} {x D : Addr} {fs : Array Value} {cd : ClassData} (X : K.In hp) (hx : hp.get? x = some { cls := .ref D, data := .fields fs })
    (hcd : clsIn K D = some cd) (hm : Bases cd.mro) (hh : cd.hasDict = true) (ha : findIn K (.ref D) fl = some none)
    (kq : ∀ h' tk' dx, (∀ b o, b ≠ x → hp.get? b = some o → h'.get? b = some o) → hp.objs.size ≤ dx → dx ≠ x →
      h'.get? x = some { cls := .ref D, dict := some dx, data := .fields fs } → h'.Ns1 dx (fun z => if z = fl then some v else none) → R (.ok (.ret .none)) ⟨h', g, d, tk', os⟩) :
    codeAny (model prog w) A (.call (.builtin "object.__setattr__") ⟨[.ref x, .str fl tk, v], []⟩) R ⟨hp, g, d, t, os⟩ := by
  have I : InstAt hp x { cls := .ref D, data := .fields fs } D none := ⟨hx, rfl, rfl, trivial⟩
  have so := PySem.F.store_object
  have ne : cd.mro.isEmpty = false := by
    cases e : cd.mro with
    | nil => have := hm.1; rw [e] at this; exact absurd this (by decide)
    | cons _ _ => rfl
  have far : x ≠ hp.objs.size := Nat.ne_of_lt (Heap.lt_size hx)
  have sub : Looks (model prog w) hp (isInstance (.ref x) (.type "object")) true :=
    I.type.andThen (looks_mroIn X (by unfold mroIn; rw [hcd, Option.bind_some, if_neg (by rw [ne]; decide), hm.1]))
  refine codeAny_call_builtin so.slot.plain so.entry (@PySem.W.check_slot (model prog w) _ _ ⟨hp, g, d, t, os⟩ "object.__setattr__" "object" "__setattr__" (.ref x) [.str fl tk, v] [] _ so.kind so.split sub (so.args (.ref x) (.str fl tk) v) ?_)
  have order : Looks (model prog w) hp (mroOf (.ref D)) cd.mro := (looks_clsIn X hcd).andThen .now
  have taker : Looks (model prog w) hp (Builtin.ObjectAttr.storeTaker? none) none := .now
  have here : Looks (model prog w) hp (classData D) cd := looks_clsIn X hcd
  rw [osa_eq, refuse_eq]
  refine wpAny_bind (wpAny_bind (I.type.at (wpAny_bind (order.at ?_))))
  rw [hm.2]
  refine wpAny_pure (wpAny_bind (I.type.at (wpAny_bind ((looks_findIn X ha).at (wpAny_bind (taker.at ?_))))))
  show wpAny _ _ (Builtin.ObjectAttr.storeInOwnDict (.ref x) (.ref D) (.str fl tk) fl v false) _ _ _
  obtain ⟨c1, c2, c3, c4, c5, c6, c7, c8, c9, c10, c11⟩ := cd
  dsimp only at hh
  subst hh
  unfold Builtin.ObjectAttr.storeInOwnDict Builtin.ObjectAttr.ownDictForStores
  repeat (first | with_reducible refine store_in_new ?_ ?_ | with_reducible refine wpAny_loadPart_at hx ?_ | with_reducible refine here.at ?_ | wp_step)
  · exact ⟨_, #[], _, (Heap.get?_update_ne _ _ _ _ far.symm).trans (Heap.get?_push_at rfl rfl), rfl, fun e he => absurd he (by simp), fun _ => rfl⟩
  · intro h' tk' hn' rest
    have hx₁ : (hp.push { cls := .type "dict", data := .dict #[] }).get? x = some { cls := .ref D, data := .fields fs } := Heap.get?_push_of_some _ hx
    refine kq h' tk' hp.objs.size (fun b o off at0 => ?_) (Nat.le_refl _) far.symm ?_ hn'
    · exact (rest.2 b (Nat.ne_of_lt (Heap.lt_size at0))).trans ((Heap.get?_update_ne _ _ _ _ off).trans (Heap.get?_push_of_some _ at0))
    · exact (rest.2 x far).trans (Heap.get?_update_self _ hx₁ rfl)
end
section
variable {prog : Program} {w : World} {A : Around} {E : Value → Shared → Prop} {R : Result → Shared → Prop} {s : Shared} {K : Frag} {mg : Str → Option Value}
  {n y q : Str} {B nw : String} {bmB : List Value} {D J : Addr}
theorem fill (Z : Cls K mg n y q B nw bmB D J) {x t0 : Addr} {v : Value} (X : K.In s.heap) (lim : s.heap.NoLimit) (hx : s.heap.get? x = some (excO D t0))
    (hnx : K.lookup x = none) (room : A.depth < recursionLimit)
    (hq : ∀ h' tk dx, Filled s.heap h' y x D dx t0 v → R (.ok (.ret .none)) { s with heap := h', toks := tk }) :
    codeAny (model prog w) A (.call (.ref J) ⟨[.ref x, v], []⟩) R s := by
  obtain ⟨oc, od, doc, pm, an, cdv, ct, osl, p1, p2, q1, q2, q3, q4, ho, hcd⟩ := Z.code
  obtain ⟨nm, qq, N, bs, bm, sn, sub, ab, col, dd, k0, k1, k2, k3, k5, hC, hbm, hB⟩ := Z.row
  have hcl : clsIn K D = some { name := nm, bases := bs, mro := .ref D :: bm, ns := N, qualname := qq, hasDict := true, slotNames := sn, subclasses := sub, abstract := ab, collection := col, hasDel := false } := by unfold clsIn; rw [hC] <;> rfl
  have e1 : (y == ("__debug__" : Str)) = false := by rcases Z.fl with rfl | rfl <;> decide
  have e2 : (y == ("self" : Str)) = false := by rcases Z.fl with rfl | rfl <;> decide
  refine Att.call_fn (binds := [("self", .ref x), (y, v)]) X lim ho hcd room ?_ ?_ (fun s₁ IC => ?_) rfl rfl rfl
  · rcases Z.fl with rfl | rfl <;> exact BindsTo.of_eq (by first | rfl | with_unfolding_all rfl)
  · rcases Z.fl with rfl | rfl <;> first | rfl | decide | with_unfolding_all rfl
  obtain ⟨h₁, tk₁, rfl⟩ := IC.toInCall.same
  have k : ∀ b o, s.heap.get? b = some o → h₁.get? b = some o := IC.toInCall.keep
  have hn := IC.toInCall.ns
  have hxL : s.heap.objs.size ≠ x := Nat.ne_of_gt (Heap.lt_size hx)
  have X₁ : K.In h₁ := X.keeps k
  have hx₁ := k _ _ hx
  show wpAny _ _ (execs _ _) _ _ _
  refine wpAny_execs_cons (plainObj_wpAny_Assign_Attribute ?_)
  have g1 : ∀ {Q : Value → Shared → Prop} {A' : Around} {E' : Value → Shared → Prop} {cd : Value} {a : Addr} {nm : Str}, Q v ⟨h₁, s.gens, s.drawn, tk₁, s.os⟩ → wpAny (model prog w) A' (eval (.Name y q3) (envOfC nm (inS y) s.heap.objs.size a cd)) Q E' ⟨h₁, s.gens, s.drawn, tk₁, s.os⟩ := by
    intro Q A' E' cd a nm hh
    rcases Z.fl with rfl | rfl
    · exact loc hn (by first | rfl | with_unfolding_all rfl | kernel_rfl) hh rfl rfl (by decide)
    · exact loc hn (by first | rfl | with_unfolding_all rfl | kernel_rfl) hh rfl rfl (by decide)
  have g2 : ∀ {Q : Value → Shared → Prop} {A' : Around} {E' : Value → Shared → Prop} {cd : Value} {a : Addr} {nm : Str}, Q (.ref x) ⟨h₁, s.gens, s.drawn, tk₁, s.os⟩ → wpAny (model prog w) A' (eval (.Name "self" q1) (envOfC nm (inS y) s.heap.objs.size a cd)) Q E' ⟨h₁, s.gens, s.drawn, tk₁, s.os⟩ := by
    intro Q A' E' cd a nm hh
    rcases Z.fl with rfl | rfl
    · exact loc hn (by first | rfl | with_unfolding_all rfl | kernel_rfl) hh rfl rfl (by decide)
    · exact loc hn (by first | rfl | with_unfolding_all rfl | kernel_rfl) hh rfl rfl (by decide)
  refine g1 (g2 ?_)
  refine set_plain X₁ (ox := excO D t0) (od := none) ⟨hx₁, rfl, rfl, trivial⟩ Z.store ?_
  refine stored X₁ hx₁ hcl (hbm.own D) rfl Z.free (fun h₃ tk₃ dx k₃ dn dne hx₃ hn₃ => ?_)
  show wpAny _ _ (execs _ _) _ _ _
  have z : s.heap.objs.size < h₁.objs.size := hn.lt
  exact wpAny_execs_nil (hq h₃ tk₃ dx ⟨fun b o hb e => k₃ b o hb (k b o e), hx₃, Nat.le_of_lt (Nat.lt_of_lt_of_le z dn), dne, hn₃⟩)
theorem made (Z : Cls K mg n y q B nw bmB D J) {v : Value} (X : K.In s.heap) (lim : s.heap.NoLimit) (room : A.depth + 1 < recursionLimit)
    (hq : ∀ h' tk e d, Made s.heap h' y e D d v → R (.ok (.ret (.ref e))) { s with heap := h', toks := tk }) :
    codeAny (model prog w) A (.call (.ref D) ⟨[v], []⟩) R s := by
  obtain ⟨nm, qq, N, bs, bm, sn, sub, ab, col, dd, k0, k1, k2, k3, k5, hC, hbm, hB⟩ := Z.row
  obtain ⟨it, hF⟩ := Z.base
  obtain ⟨hp, g, dr, tk, os⟩ := s
  have k : ∀ b o, hp.get? b = some o → ((hp.push (kdv_tup [v])).push (excO D hp.objs.size)).get? b = some o :=
    fun a ob e => Heap.get?_push_of_some _ (Heap.get?_push_of_some _ e)
  have hget : ((hp.push (kdv_tup [v])).push (excO D hp.objs.size)).get? (hp.objs.size + 1) = some (excO D hp.objs.size) := by heap_get
  have hnx : K.lookup (hp.objs.size + 1) = none := by
    cases e : K.lookup (hp.objs.size + 1) with
    | none => rfl
    | some o => exact absurd (Nat.lt_of_succ_lt (Heap.lt_size (show hp.get? (hp.objs.size + 1) = some o from X _ _ e))) (Nat.lt_irrefl _)
  refine call_own hF hB (X _ _ hC) (looks_findIn X Z.ini) (fun self => bind_fn X self Z.iniT) (one_fits v) ?_
  refine fill (s := ⟨(hp.push (kdv_tup [v])).push (excO D hp.objs.size), g, dr, tk, os⟩) Z (X.keeps k) (lim.keeps k) hget hnx ?_ fun h' tk' dx ⟨k', hx, dn, dne, hns⟩ => ?_
  · show A.depth + 1 < recursionLimit
    exact room
  · have old : ∀ b o, hp.get? b = some o → h'.get? b = some o :=
      fun b o e => k' b o (Nat.ne_of_lt (Nat.lt_succ_of_lt (Heap.lt_size e))) (k b o e)
    have z : hp.objs.size + 1 + 1 ≤ dx := by
      first
        | (simpa only [Heap.size_push] using dn)
        | exact dn
        | (have r := dn; rw [Heap.size_push, Heap.size_push] at r; exact r)
    exact ⟨rfl, hq h' tk' (hp.objs.size + 1) dx ⟨old, Nat.le_succ _, ⟨_, _, hx, rfl, rfl, rfl, rfl⟩,
      Nat.le_trans (Nat.le_trans (Nat.le_succ _) (Nat.le_succ _)) z, dne, hns⟩⟩
end
end XErr
end PySem
namespace L2
open PySem PySem.Spec PyProof.Rows
theorem relO_err {y : Str} {v : V} {v' : Value} (r : RelV v v') (f : Str) : RelO (List.lookup f [(y, v)]) (if f = y then some v' else none) := by
  by_cases hw : f = y
  · subst hw
    rw [if_pos rfl, show List.lookup f [(f, v)] = some v by simp [List.lookup]]
    exact r
  · rw [if_neg hw, show List.lookup f [(y, v)] = none by simp [List.lookup, show (f == y) = false by simpa using hw]]
    trivial
section
variable {X : Cx} {x y q : Str} {B nw : String} {bmB : List Value} {D J : Addr}
/-- x(e), to be raised -/
def tErr (y : Str) (D : Addr) (ta : TA) : St → Hp → XK → Prop := fun σ H Q =>
  ta σ H fun vs H1 => ∃ v, vs = [v] ∧ ∀ d, H1 d = none → Q (.ref D) (some d) (upd H1 d (.xd [(y, v)]))
theorem pmk_err {a : Expr} {ta : TA} {p pos : Pos} {k : Nat} (Z : PySem.XErr.Cls X.K X.mg x y q B nw bmB D J) (hr : Room k X.A) (ha : PA X [a] ta) (hg : Gl X x) (hdb : (x == ("__debug__" : Str)) = false)
    (he : starEach (a :: []) X.env = (false, eval a X.env) :: starEach [] X.env) (hpl : (backTo pos (starEach [] X.env)).any (·.1) = false) :
    PMk X (.Call (.Name x p) [a] [] pos) (tErr y D ta) := by
  intro pins s σ H Q I h
  refine wpAny_Call_Name_kw (ld_glob I hg Z.at0 ?_ hdb)
  refine PySem.W.callWith_K (h₀ := X.base) I.ok.mod.kin Z.kept (thn (ha.run pos pins s σ H _ I h) fun us s1 hh => ?_) he hpl
  obtain ⟨vs, H1, I1, r1, v, ev, q1⟩ := hh
  subst ev
  refine ⟨I1.kIn, ?_⟩
  cases r1 with
  | cons rv rn =>
    rename_i v' us'
    cases rn
    show wpAny _ _ (call (.ref D) [v']) _ _ _
    have lim := I1.nolimit
    obtain ⟨hp, g, dr, tk, os⟩ := s1
    refine wpAny_call (PySem.XErr.made Z I1.kIn lim (by have := hr.dp; omega) fun h' tk' e d M => ?_)
    show MkP X pins σ Q (.ref e) ⟨h', g, dr, tk', os⟩
    obtain ⟨oe, fv, hoe, hc, hd, hdat, h1⟩ := M.obj
    have hns := M.ns
    obtain ⟨G', g1, g2⟩ := restrict h' fun b => decide (b ≠ e)
    have gk : ∀ b, b ≠ e → G'.get? b = h'.get? b := fun b hb => g1 b (decide_eq_true hb)
    have ge : G'.get? e = none := g2 e (by simp)
    have old : ∀ b o, hp.get? b = some o → G'.get? b = some o :=
      fun b o z => (gk b (Nat.ne_of_lt (Nat.lt_of_lt_of_le (Heap.lt_size z) M.new))).trans (M.keep b o z)
    have ob : ObjOk X.prog X.w (upd H1 d (.xd [(y, v)])) G' d (.xd [(y, v)]) :=
      ⟨_, hns.at (fun o z => (gk d M.dne).trans z), fun f => relO_err rv f⟩
    have I2 : Inv X pins σ (upd H1 d (.xd [(y, v)])) ⟨G', g, dr, tk', os⟩ := I1.laid (t' := tk') old M.dbig ob
    refine ⟨e, oe, fv, ⟨G', g, dr, tk', os⟩, _, .ref D, some d, rfl, I2, fun b o z => ?_, ge, hoe, ⟨hc, hd⟩, hdat, h1, ?_, rfl, I1.bare, raises_own Z.exc Z.typ, q1 d (I1.hok.fresh M.dbig)⟩
    · by_cases hb : b = e
      · have z' : G'.get? b = some o := z
        rw [hb, ge] at z'; cases z'
      · exact (gk b hb).symm.trans z
    · rw [upd_ne (Ne.symm M.dne)]
      exact I1.hok.fresh M.new
/-- raise x(e) -/
def tRaiseE (y : Str) (D : Addr) (W : WX) (ta : TA) : TS := fun _ σ H => tErr y D ta σ H fun cls d H' => W cls d σ H'
theorem ps_raiseE {a : Expr} {ta : TA} {W : WX} {p pos pos2 : Pos} {k : Nat} (hc : X.calm = true) (Z : PySem.XErr.Cls X.K X.mg x y q B nw bmB D J) (hr : Room k X.A) (tk : Takes X W) (ha : PA X [a] ta) (hg : Gl X x := by rfl)
    (hdb : (x == ("__debug__" : Str)) = false := by decide) (he : starEach (a :: []) X.env = (false, eval a X.env) :: starEach [] X.env := by rfl) (hpl : (backTo pos (starEach [] X.env)).any (·.1) = false := by rfl) :
    PS X (.Raise (some (.Call (.Name x p) [a] [] pos)) none pos2) (tRaiseE y D W ta) := ps_raise hc tk (pmk_err Z hr ha hg hdb he hpl)
/-- e.y of the error that the suite holds at a -/
def tByE (y : Str) (D a : Addr) (cls : Value) (d : Option Addr) (te : TE) : TE := fun σ H Q =>
  te σ H fun u H1 => u = .ref a ∧ cls = .ref D ∧ ∃ (dd : Addr) (v : V), d = some dd ∧ H1 dd = some (.xd [(y, v)]) ∧ Q v H1
theorem pe_byE {a : Addr} {oe : Obj} {cls : Value} {d : Option Addr} {pn : List (Addr × Obj)} {e : Expr} {te : TE} {pos : Pos} (Z : PySem.XErr.Cls X.K X.mg x y q B nw bmB D J) (hz : Zc cls d oe) (hf : ∃ vs, oe.data = .fields vs) (he : PE (X.suite a ((a, oe) :: pn)) e te)
    (hb : attributeBase e y X.env (eval e X.env) = eval e X.env := by rfl) :
    PE (X.suite a ((a, oe) :: pn)) (.Attribute e y pos) (tByE y D a cls d te) := by
  refine ⟨fun pins s σ H Q I h => ?_⟩
  refine attr_of hb (thn (he.run pins s σ H _ I h) fun u s1 hh => ?_)
  obtain ⟨z, H1, I1, rx, ex, ec, dd, v, ed, ea, qq⟩ := hh
  subst ex
  obtain rfl : u = Value.ref a := rx
  subst ec
  subst ed
  obtain ⟨ha, _⟩ := I1.pin (a, oe) (List.mem_append_left _ List.mem_cons_self)
  obtain ⟨vs, hd⟩ := hf
  have hx : ObjOk X.prog X.w H1 s1.heap dd (.xd [(y, v)]) := I1.hok dd _ ea
  obtain ⟨mA, hns, hr⟩ := hx
  obtain ⟨od, ho, hl⟩ := lookIn_ns hns
  have l : List.lookup y [(y, v)] = some v := by simp [List.lookup]
  obtain ⟨u, hu, ru⟩ := RelO.some_of (v := v) (o := mA y) (by rw [← l]; exact hr y)
  have I2 : PySem.W.InstAt s1.heap a oe D (some od) := ⟨ha, hz.1, by unfold PySem.W.notCls; rw [hd] <;> rfl, by rw [hz.2]; exact ho⟩
  exact HandSPX.exc_get I1.kIn I2 Z.load Z.load2 Z.exc (PySem.W.findObj_own Z.dic Z.free rfl (by rw [hl, hu])) (handed_of ru) ⟨v, H1, I1.tok _, ru, qq⟩
/-- isinstance(e, c) of that error -/
def rIsF (K : PySem.W.Frag) (y : Str) (D a : Addr) (cls : Value) (d : Option Addr) : List V → Hp → VK → Prop := fun xs H Q =>
  ∃ (c : V) (cv : Value) (b : Bool) (dd : Addr) (v : V), xs = [.ref a, c] ∧ cls = .ref D ∧ d = some dd ∧ H dd = some (.xd [(y, v)]) ∧ (∀ u, RelV c u → u = cv) ∧ PySem.W.kitOne K (.ref D) cv = some b ∧ Q (.bl b) H
theorem call_isF {a : Addr} {oe : Obj} {cls : Value} {d : Option Addr} {pn : List (Addr × Obj)} (C : ExcC X.K D) (hz : Zc cls d oe) (hf : ∃ vs, oe.data = .fields vs) : CallR (X.suite a ((a, oe) :: pn)) (.builtin "isinstance") (rIsF X.K y D a cls d) := by
  intro pins s σ H xs us Qq I r h
  obtain ⟨c, cv, bb, dd, v, rfl, rfl, rfl, ea, hcv, e, qq⟩ := h
  cases r with
  | cons rx rr =>
    cases rr with
    | cons rt rr =>
      cases rr
      cases rx
      have ec := hcv _ rt
      subst ec
      obtain ⟨hget, _⟩ := I.pin (a, oe) (List.mem_append_left _ List.mem_cons_self)
      obtain ⟨vs, hv⟩ := hf
      have hx : ObjOk X.prog X.w H s.heap dd (.xd [(y, v)]) := I.hok dd _ ea
      obtain ⟨mA, hns, hr⟩ := hx
      obtain ⟨od, ho, hl⟩ := lookIn_ns hns
      have I2 : PySem.W.InstAt s.heap a oe D (some od) := ⟨hget, hz.1, by unfold PySem.W.notCls; rw [hv] <;> rfl, by rw [hz.2]; exact ho⟩
      have hcl : (PySem.W.clsIn X.K D).isSome = true := by
        obtain ⟨cd, hc, _⟩ := PySem.W.any_some C.hd
        rw [hc]; rfl
      exact PySem.W.kia_one (PySem.W.kitx_exc hcl C.hg C.hk C.hs C.ha C.hn C.ht C.hm) I.kIn I2 e (fun z => nomatch z)
        fun tk => ⟨.bl bb, H, I.kept (t' := tk) fun _ _ z => z, rfl, qq⟩
/-- a def that may raise, where it doesn't -/
theorem FnOk.calm {P : Program} {w : World} {K : PySem.W.Frag} {mg : Str → Option Value} {base : Heap} {k : Nat} {f : Addr} {fd : FuncData} {ps : List Str} {sp : Sp} (F : FnOk P w K mg base (L2.CX P w) k f fd ps sp) :
    FnOk P w K mg base CX0 k f fd ps (fun vs H Q _ => sp vs H Q fun _ _ _ => False) :=
  ⟨fun vs H Q _ h => F.len vs H Q _ h, fun A outer s H args us vs Q E hr he hb hv hs =>
    codeAny_mono (F.run A outer s H args us vs Q (fun _ _ _ => False) hr he hb hv hs) fun r s' z => by
      cases r with
      | error e =>
        obtain ⟨_, _, _, _, _, _, _, _, _, _, _, _, q⟩ := z
        exact q.elim
      | ok fl => cases fl <;> exact z⟩
end
end L2

namespace K54
def ab (x : Int) : Int := if x < 0 then -x else x
def rootUp : Nat → Int → Int → Int
  | 0, _, r => r
  | k + 1, D, r => if (r + 1) * (r + 1) ≤ D then rootUp k D (r + 1) else r
/-- the root of D, a whole number -/
def wOf (D : Int) : Int := rootUp 32 D 0
structure Row where
  a : Int
  b : Int
  c : Int
deriving DecidableEq
structure Path where
  r : Row
  l0 : Int
  l1 : Int
  r0 : Int
  r1 : Int
def redB (w : Int) (r : Row) : Bool := decide (0 < r.b) && decide (r.b ≤ w) && decide (w < 2 * ab r.a + r.b) && decide (2 * ab r.a - r.b ≤ w)
def midB (w : Int) (r : Row) : Int := (if ab r.c ≤ w then w else ab r.c) - ((if ab r.c ≤ w then w else ab r.c) + r.b) % (2 * ab r.c)
def rowB (D w : Int) (r : Row) : Row := ⟨r.c, midB w r, (midB w r * midB w r - D).fdiv (4 * r.c)⟩
def okR (r : Row) : Bool := decide (r.a ≠ 0) && decide (r.c ≠ 0) && decide (ab r.a < 1000) && decide (ab r.b < 1000) && decide (ab r.c < 1000)
def goRed : Nat → Int → Int → Row → Option Row
  | 0, _, _, _ => none
  | k + 1, D, w, r => if okR r = true then (if redB w r = true then some r else goRed k D w (rowB D w r)) else none
def manyB (w : Int) (r : Row) : Int := (r.b + midB w r).fdiv (2 * r.c)
def pathB (D w : Int) (p : Path) : Path := ⟨rowB D w p.r, p.r0, p.r1, manyB w p.r * p.r0 - p.l0, manyB w p.r * p.r1 - p.l1⟩
def goRing : Nat → Int → Int → Row → Path → Option Path
  | 0, _, _, _, _ => none
  | k + 1, D, w, r, p => if okR p.r = true then (if p.r = r then some p else goRing k D w r (pathB D w p)) else none
def mainR (D : Int) : Row := ⟨1, D % 2, (D % 2 - D).fdiv 4⟩
def startP (r : Row) : Path := ⟨r, 1, 0, 0, 1⟩
def progR (D w : Int) : Option Row := goRed 6 D w (mainR D)
def progP (D w : Int) (r : Row) : Option Path := goRing 100 D w r (pathB D w (startP r))
/-- the law's own way -/
structure Lw where
  p : Int
  q : Int
  ot : Int
  tt : Int
  ob : Int
  tb : Int
def lk (w : Int) (s : Lw) : Int := (s.p + w) / s.q
def lot (w : Int) (s : Lw) : Int := lk w s * s.ot + s.tt
def lob (w : Int) (s : Lw) : Int := lk w s * s.ob + s.tb
def lT (w ld : Int) (s : Lw) : Int := 2 * lot w s - ld * lob w s
def lN (D w ld : Int) (s : Lw) : Int := lT w ld s * lT w ld s - D * lob w s * lob w s
def lnext (D w : Int) (s : Lw) : Lw := ⟨lk w s * s.q - s.p, (D - (lk w s * s.q - s.p) * (lk w s * s.q - s.p)) / s.q, lot w s, s.ot, lob w s, s.ob⟩
def okL (w ld : Int) (s : Lw) : Bool := decide (0 < s.q) && decide (s.q < 1000) && decide (ab s.p < 1000) && decide (ab (lk w s) < 1000) && decide (ab (lT w ld s) < 2 ^ 200) && decide (ab (lob w s) < 2 ^ 200)
def goPair : Nat → Int → Int → Int → Lw → Option Lw
  | 0, _, _, _, _ => none
  | k + 1, D, w, ld, s => if okL w ld s = true then (if lN D w ld s = 4 ∨ lN D w ld s = -4 then some s else goPair k D w ld (lnext D w s)) else none
def leadOf (D w : Int) : Int := w - (w - D) % 2
def startL (D w : Int) : Lw := ⟨leadOf D w, 2, 1, 0, 0, 1⟩
def isqB : Nat → Int → Int → Int
  | 0, _, r => r
  | k + 1, v, r => if (r + 2 ^ k) * (r + 2 ^ k) ≤ v then isqB k v (r + 2 ^ k) else isqB k v r
def ns (v r : Int) : Bool := decide (r * r < v) && decide (v < (r + 1) * (r + 1)) && decide (0 ≤ r)
/-- no square among D u u + e for u from 1 to n -/
def noSq (D e S : Int) : Nat → Bool
  | 0 => true
  | n + 1 => (ns (D * (n + 1) * (n + 1) + e) ((n + 1) * S / 1000) || ns (D * (n + 1) * (n + 1) + e) ((n + 1) * S / 1000 + 1) || ns (D * (n + 1) * (n + 1) + e) ((n + 1) * S / 1000 - 1)) && noSq D e S n
def lim (u : Int) : Nat := if u ≤ 60 then (u - 1).toNat else 60
def okW (D w : Int) : Bool := decide (2 ≤ w) && decide (w ≤ 31) && decide (w * w < D) && decide (D < (w + 1) * (w + 1))
def okMinus (T U : Int) : Bool := let r := isqB 60 (T - 2) 0
  decide (0 < r) && decide (r * r ≤ T - 2) && decide (T - 2 < (r + 1) * (r + 1)) && (!(decide (r * r = T - 2)) || !(decide (U % r = 0)))
def okEnd (D S T U t u : Int) : Bool := decide (3 ≤ T) && decide (1 ≤ U) && decide (T < 2 ^ 120) && decide (U < 2 ^ 120) && decide (1 ≤ t) && decide (1 ≤ u) && decide (T * T - D * U * U = 4) && noSq D 4 S (lim U) &&
  (if t * t - D * u * u = 4 then decide (T = t) && decide (U = u) && okMinus T U && noSq D (-4) S 60
   else decide (t * t - D * u * u = -4) && decide (T * 2 = t * t + D * u * u) && decide (U = t * u) && noSq D (-4) S (lim u))
def uT (p : Path) : Int := ab (p.l0 + p.r1)
def uU (r : Row) (p : Path) : Int := ab (p.l1.fdiv r.a)
def okAll (D w : Int) : Bool := okW D w && (match progR D w with
  | none => false
  | some r => match progP D w r with
    | none => false
    | some p => decide (r.b * r.b - 4 * r.a * r.c = D) && match goPair 60 D w (leadOf D w) (startL D w) with
      | none => false
      | some s => okEnd D (isqB 16 (D * 1000000) 0) (uT p) (uU r p) (lT w (leadOf D w) s) (lob w s))
def valid (D : Int) : Bool := decide (5 ≤ D) && decide (D ≤ 1000) && decide (D % 4 < 2) && !(decide (wOf D * wOf D = D))
theorem all1 : ((List.range 250).all fun i => !(valid (5 + i)) || okAll (5 + i) (wOf (5 + i))) = true := by decide +kernel
theorem all2 : ((List.range 250).all fun i => !(valid (255 + i)) || okAll (255 + i) (wOf (255 + i))) = true := by decide +kernel
theorem all3 : ((List.range 250).all fun i => !(valid (505 + i)) || okAll (505 + i) (wOf (505 + i))) = true := by decide +kernel
theorem all4 : ((List.range 246).all fun i => !(valid (755 + i)) || okAll (755 + i) (wOf (755 + i))) = true := by decide +kernel
theorem pick {m : Int} {n : Nat} (h : ((List.range n).all fun i => !(valid (m + i)) || okAll (m + i) (wOf (m + i))) = true) {D : Int} (hv : valid D = true) (h1 : m ≤ D) (h2 : D < m + n) : okAll D (wOf D) = true := by
  have z := List.all_eq_true.mp h (D - m).toNat (List.mem_range.mpr (by omega))
  have e : m + ((D - m).toNat : Int) = D := by omega
  rw [e, hv] at z
  simpa using z
theorem bounds {D : Int} (h : valid D = true) : 5 ≤ D ∧ D ≤ 1000 ∧ D % 4 < 2 ∧ wOf D * wOf D ≠ D := by
  unfold valid at h
  simp only [Bool.and_eq_true, decide_eq_true_eq, Bool.not_eq_true', decide_eq_false_iff_not] at h
  exact ⟨h.1.1.1, h.1.1.2, h.1.2, h.2⟩
theorem all_ok {D : Int} (h : valid D = true) : okAll D (wOf D) = true := by
  have b := bounds h
  by_cases h1 : D < 255
  · exact pick all1 h (by omega) (by omega)
  · by_cases h2 : D < 505
    · exact pick all2 h (by omega) (by omega)
    · by_cases h3 : D < 755
      · exact pick all3 h (by omega) (by omega)
      · exact pick all4 h (by omega) (by omega)
theorem wall : ((List.range 996).all fun i => let D : Int := 5 + i
  decide (2 ≤ wOf D) && decide (wOf D ≤ 31) && decide (wOf D * wOf D ≤ D) && decide (D < (wOf D + 1) * (wOf D + 1))) = true := by decide +kernel
theorem wok {D : Int} (h1 : 5 ≤ D) (h2 : D ≤ 1000) : 2 ≤ wOf D ∧ wOf D ≤ 31 ∧ wOf D * wOf D ≤ D ∧ D < (wOf D + 1) * (wOf D + 1) := by
  have z := List.all_eq_true.mp wall (D - 5).toNat (List.mem_range.mpr (by omega))
  have e : (5 : Int) + ((D - 5).toNat : Int) = D := by omega
  simp only [e, Bool.and_eq_true, decide_eq_true_eq] at z
  exact ⟨z.1.1.1, z.1.1.2, z.1.2, z.2⟩
end K54

namespace K54
theorem ab_eq (x : Int) : ab x = (x.natAbs : Int) := by unfold ab; split <;> omega
/-- what is known of D -/
structure Know (D w : Int) (r : Row) (p : Path) (s : Lw) (T U t u : Int) : Prop where
  d5 : 5 ≤ D
  dt : D ≤ 1000
  dm : D % 4 < 2
  w2 : 2 ≤ w
  wt : w ≤ 31
  wl : w * w < D
  wu : D < (w + 1) * (w + 1)
  hr : progR D w = some r
  disc : r.b * r.b - 4 * r.a * r.c = D
  hp : progP D w r = some p
  hs : goPair 60 D w (leadOf D w) (startL D w) = some s
  eT : T = uT p
  eU : U = uU r p
  et : t = lT w (leadOf D w) s
  eu : u = lob w s
  T3 : 3 ≤ T
  U1 : 1 ≤ U
  Tb : T < 2 ^ 120
  Ub : U < 2 ^ 120
  t1 : 1 ≤ t
  u1 : 1 ≤ u
  unit : T * T - D * U * U = 4
  no4 : ∀ v : Nat, 1 ≤ v → v ≤ 60 → (v : Int) < U → ∀ x : Int, 0 ≤ x → x * x ≠ D * v * v + 4
  ways : (t * t - D * u * u = 4 ∧ T = t ∧ U = u ∧ (∃ r : Int, 0 < r ∧ r * r ≤ T - 2 ∧ T - 2 < (r + 1) * (r + 1) ∧ (r * r ≠ T - 2 ∨ U % r ≠ 0)) ∧ ∀ v : Nat, 1 ≤ v → v ≤ 60 → ∀ x : Int, 0 ≤ x → x * x ≠ D * v * v + -4) ∨
    (t * t - D * u * u = -4 ∧ T * 2 = t * t + D * u * u ∧ U = t * u ∧ ∀ v : Nat, 1 ≤ v → v ≤ 60 → (v : Int) < u → ∀ x : Int, 0 ≤ x → x * x ≠ D * v * v + -4)
theorem mono_sq {a b : Int} (h0 : 0 ≤ a) (h : a ≤ b) : a * a ≤ b * b := Int.mul_le_mul h h h0 (by omega)
theorem ns_ne {v r x : Int} (h : ns v r = true) (h0 : 0 ≤ x) : x * x ≠ v := by
  unfold ns at h
  simp only [Bool.and_eq_true, decide_eq_true_eq] at h
  obtain ⟨⟨h1, h2⟩, h3⟩ := h
  intro e
  by_cases z : x ≤ r
  · have := mono_sq h0 z
    omega
  · have := mono_sq (a := r + 1) (b := x) (by omega) (by omega)
    omega
theorem noSq_ne {D e S : Int} : ∀ {n : Nat}, noSq D e S n = true → ∀ v : Nat, 1 ≤ v → v ≤ n → ∀ x : Int, 0 ≤ x → x * x ≠ D * v * v + e
  | 0, _, v, h1, h2, _, _ => by omega
  | n + 1, h, v, h1, h2, x, h0 => by
    unfold noSq at h
    rw [Bool.and_eq_true] at h
    by_cases z : v ≤ n
    · exact noSq_ne h.2 v h1 z x h0
    · have e2 : v = n + 1 := by omega
      subst e2
      have := h.1
      simp only [Bool.or_eq_true] at this
      rcases this with (h | h) | h
      · exact ns_ne h h0
      · exact ns_ne h h0
      · exact ns_ne h h0
theorem lim_le {u : Int} {v : Nat} (h1 : v ≤ 60) (h2 : (v : Int) < u) : v ≤ lim u := by
  unfold lim
  split <;> omega
theorem know {D : Int} (h : valid D = true) : ∃ r p s T U t u, Know D (wOf D) r p s T U t u := by
  have b := bounds h
  have k := all_ok h
  unfold okAll at k
  rw [Bool.and_eq_true] at k
  obtain ⟨k1, k2⟩ := k
  unfold okW at k1
  simp only [Bool.and_eq_true, decide_eq_true_eq] at k1
  obtain ⟨⟨⟨w2, wt⟩, wl⟩, wu⟩ := k1
  cases e1 : progR D (wOf D) with
  | none => rw [e1] at k2; cases k2
  | some r =>
    rw [e1] at k2
    dsimp only at k2
    cases e2 : progP D (wOf D) r with
    | none => rw [e2] at k2; cases k2
    | some p =>
      rw [e2] at k2
      dsimp only at k2
      rw [Bool.and_eq_true, decide_eq_true_eq] at k2
      obtain ⟨dd, k2⟩ := k2
      cases e3 : goPair 60 D (wOf D) (leadOf D (wOf D)) (startL D (wOf D)) with
      | none => rw [e3] at k2; cases k2
      | some s =>
        rw [e3] at k2
        dsimp only at k2
        refine ⟨r, p, s, uT p, uU r p, lT (wOf D) (leadOf D (wOf D)) s, lob (wOf D) s, ?_⟩
        generalize hT : uT p = T at *
        generalize hU : uU r p = U at *
        generalize ht : lT (wOf D) (leadOf D (wOf D)) s = t at *
        generalize hu : lob (wOf D) s = u at *
        unfold okEnd at k2
        simp only [Bool.and_eq_true, decide_eq_true_eq] at k2
        obtain ⟨⟨⟨⟨⟨⟨⟨⟨T3, U1⟩, Tb⟩, Ub⟩, t1⟩, u1⟩, un⟩, n4⟩, kk⟩ := k2
        refine ⟨b.1, b.2.1, b.2.2.1, w2, wt, wl, wu, e1, dd, e2, e3, hT.symm, hU.symm, ht.symm, hu.symm, T3, U1, Tb, Ub, t1, u1, un, fun v h1 h2 h3 => noSq_ne n4 v h1 (lim_le h2 h3), ?_⟩
        by_cases z : t * t - D * u * u = 4
        · rw [if_pos z] at kk
          simp only [Bool.and_eq_true, decide_eq_true_eq] at kk
          obtain ⟨⟨⟨a1, a2⟩, a3⟩, a4⟩ := kk
          refine .inl ⟨z, a1, a2, ⟨isqB 60 (T - 2) 0, ?_⟩, fun v h1 h2 => noSq_ne a4 v h1 h2⟩
          unfold okMinus at a3
          simp only [Bool.and_eq_true, decide_eq_true_eq, Bool.or_eq_true, Bool.not_eq_true', decide_eq_false_iff_not] at a3
          exact ⟨a3.1.1.1, a3.1.1.2, a3.1.2, a3.2⟩
        · rw [if_neg z] at kk
          simp only [Bool.and_eq_true, decide_eq_true_eq] at kk
          obtain ⟨⟨⟨a1, a2⟩, a3⟩, a4⟩ := kk
          exact .inr ⟨a1, a2, a3, fun v h1 h2 h3 => noSq_ne a4 v h1 (lim_le h2 h3)⟩
end K54

namespace K54
open PySem PySem.Spec PyProof.Rows L2
def topS (i : Nat) : Stmt := PySem.Challenge.pw_formworld_k54_whole_least_units.main.body.getD i (.Pass ⟨0, 0, 0, 0⟩)
abbrev sIsSq : Stmt := topS 10
abbrev sCols : Stmt := topS 12
abbrev sInt : Stmt := topS 15
abbrev sWithin : Stmt := topS 16
abbrev sDisc : Stmt := topS 17
abbrev sCheck : Stmt := topS 18
abbrev sDAt : Stmt := topS 20
abbrev sMain : Stmt := topS 21
abbrev sRed : Stmt := topS 22
abbrev sMid : Stmt := topS 23
abbrev sRowB : Stmt := topS 24
abbrev sPathB : Stmt := topS 25
abbrev sRedB : Stmt := topS 26
abbrev sAround : Stmt := topS 27
abbrev sReq : Stmt := topS 29
abbrev sLeast : Stmt := topS 32
abbrev sMinus : Stmt := topS 33
abbrev sPower : Stmt := topS 34
abbrev sUnitOf : Stmt := topS 35
abbrev sProd : Stmt := topS 36
abbrev sWell : Stmt := topS 38
abbrev sDip : Stmt := topS 39
abbrev sRoot : Stmt := topS 40
abbrev sWhole : Stmt := topS 41
abbrev sAbove : Stmt := topS 42
abbrev sPair : Stmt := topS 43
abbrev sUnit : Stmt := topS 44
abbrev sSea : Stmt := topS 45
abbrev sPowR : Stmt := topS 46
abbrev sRight : Stmt := topS 47
abbrev sLaw : Stmt := topS 48
theorem scIsSq : FnScope ["number"] ["number"] (defScope sIsSq) := ⟨rfl, rfl, rfl, by decide +kernel, rfl, by decide +kernel, by decide +kernel⟩
theorem scCols : FnScope ["rows", "index", "row"] ["rows"] (defScope sCols) := ⟨rfl, rfl, rfl, by decide +kernel, rfl, by decide +kernel, by decide +kernel⟩
theorem scInt : FnScope ["value"] ["value"] (defScope sInt) := ⟨rfl, rfl, rfl, by decide +kernel, rfl, by decide +kernel, by decide +kernel⟩
theorem scWithin : FnScope ["value", "least", "most"] ["value", "least", "most"] (defScope sWithin) := ⟨rfl, rfl, rfl, by decide +kernel, rfl, by decide +kernel, by decide +kernel⟩
theorem scDisc : FnScope ["value"] ["value"] (defScope sDisc) := ⟨rfl, rfl, rfl, by decide +kernel, rfl, by decide +kernel, by decide +kernel⟩
theorem scCheck : FnScope ["number", "least", "most"] ["number", "least", "most"] (defScope sCheck) := ⟨rfl, rfl, rfl, by decide +kernel, rfl, by decide +kernel, by decide +kernel⟩
theorem scDAt : FnScope ["row", "first", "both", "second"] ["row"] (defScope sDAt) := ⟨rfl, rfl, rfl, by decide +kernel, rfl, by decide +kernel, by decide +kernel⟩
theorem scMain : FnScope ["discriminant", "both"] ["discriminant"] (defScope sMain) := ⟨rfl, rfl, rfl, by decide +kernel, rfl, by decide +kernel, by decide +kernel⟩
theorem scRed : FnScope ["row", "discriminant", "first", "both", "second", "root"] ["row", "discriminant"] (defScope sRed) := ⟨rfl, rfl, rfl, by decide +kernel, rfl, by decide +kernel, by decide +kernel⟩
theorem scMid : FnScope ["row", "discriminant", "size", "root", "top"] ["row", "discriminant"] (defScope sMid) := ⟨rfl, rfl, rfl, by decide +kernel, rfl, by decide +kernel, by decide +kernel⟩
theorem scRowB : FnScope ["row", "discriminant", "middle"] ["row", "discriminant"] (defScope sRowB) := ⟨rfl, rfl, rfl, by decide +kernel, rfl, by decide +kernel, by decide +kernel⟩
theorem scPathB : FnScope ["path", "discriminant", "row", "left", "right", "behind", "many"] ["path", "discriminant"] (defScope sPathB) := ⟨rfl, rfl, rfl, by decide +kernel, rfl, by decide +kernel, by decide +kernel⟩
theorem scRedB : FnScope ["row", "discriminant"] ["row", "discriminant"] (defScope sRedB) := ⟨rfl, rfl, rfl, by decide +kernel, rfl, by decide +kernel, by decide +kernel⟩
theorem scAround : FnScope ["reduced", "discriminant", "path"] ["reduced"] (defScope sAround) := ⟨rfl, rfl, rfl, by decide +kernel, rfl, by decide +kernel, by decide +kernel⟩
theorem scReq : FnScope ["discriminant"] ["discriminant"] (defScope sReq) := ⟨rfl, rfl, rfl, by decide +kernel, rfl, by decide +kernel, by decide +kernel⟩
theorem scLeast : FnScope ["discriminant"] ["discriminant"] (defScope sLeast) := ⟨rfl, rfl, rfl, by decide +kernel, rfl, by decide +kernel, by decide +kernel⟩
theorem scMinus : FnScope ["discriminant", "first", "second", "root"] ["discriminant"] (defScope sMinus) := ⟨rfl, rfl, rfl, by decide +kernel, rfl, by decide +kernel, by decide +kernel⟩
theorem scPower : FnScope ["discriminant", "many", "unit", "power", "_"] ["discriminant", "many"] (defScope sPower) := ⟨rfl, rfl, rfl, by decide +kernel, rfl, by decide +kernel, by decide +kernel⟩
theorem scUnitOf : FnScope ["discriminant", "reduced", "change"] ["discriminant"] (defScope sUnitOf) := ⟨rfl, rfl, rfl, by decide +kernel, rfl, by decide +kernel, by decide +kernel⟩
theorem scProd : FnScope ["unit", "other", "discriminant", "first", "second", "other_first", "other_second"] ["unit", "other", "discriminant"] (defScope sProd) := ⟨rfl, rfl, rfl, by decide +kernel, rfl, by decide +kernel, by decide +kernel⟩
theorem scWell : FnScope ["_law_script", "_law_k", "_law_cell", "_law_mixed", "_law_each"] ["_law_script", "_law_k"] (defScope sWell) := ⟨rfl, rfl, rfl, by decide +kernel, rfl, by decide +kernel, by decide +kernel⟩
theorem scDip : FnScope ["_law_well_here", "_law_much", "_law_digit"] ["_law_well_here", "_law_much"] (defScope sDip) := ⟨rfl, rfl, rfl, by decide +kernel, rfl, by decide +kernel, by decide +kernel⟩
theorem scRoot : FnScope ["_law_value", "_law_found", "_law_step"] ["_law_value"] (defScope sRoot) := ⟨rfl, rfl, rfl, by decide +kernel, rfl, by decide +kernel, by decide +kernel⟩
theorem scWhole : FnScope ["_law_whole"] ["_law_whole"] (defScope sWhole) := ⟨rfl, rfl, rfl, by decide +kernel, rfl, by decide +kernel, by decide +kernel⟩
theorem scAbove : FnScope ["_law_well_here", "_law_top", "_law_again", "_law_whole"] ["_law_well_here", "_law_top"] (defScope sAbove) := ⟨rfl, rfl, rfl, by decide +kernel, rfl, by decide +kernel, by decide +kernel⟩
theorem scPair : FnScope ["_law_whole", "_law_lead", "_law_p", "_law_q", "_law_one_top", "_law_two_top", "_law_one_bottom", "_law_two_bottom", "_law_step", "_law_k", "_law_t", "_law_u"] ["_law_whole"] (defScope sPair) := ⟨rfl, rfl, rfl, by decide +kernel, rfl, by decide +kernel, by decide +kernel⟩
theorem scUnit : FnScope ["_law_whole", "_law_t", "_law_u"] ["_law_whole"] (defScope sUnit) := ⟨rfl, rfl, rfl, by decide +kernel, rfl, by decide +kernel, by decide +kernel⟩
theorem scSea : FnScope ["_law_whole", "_law_end", "_law_most", "_law_u", "_law_square"] ["_law_whole", "_law_end", "_law_most"] (defScope sSea) := ⟨rfl, rfl, rfl, by decide +kernel, rfl, by decide +kernel, by decide +kernel⟩
theorem scPowR : FnScope ["_law_well_here", "_law_whole", "_law_base", "_law_much", "_law_due", "_law_turn", "_law_told", "e"] ["_law_well_here", "_law_whole", "_law_base"] (defScope sPowR) := ⟨rfl, rfl, rfl, by decide +kernel, rfl, by decide +kernel, by decide +kernel⟩
theorem scRight : FnScope ["_law_well_here", "_law_turn", "_law_whole", "_law_first", "_law_base", "_law_due", "_law_told", "_law_near"] ["_law_well_here"] (defScope sRight) := ⟨rfl, rfl, rfl, by decide +kernel, rfl, by decide +kernel, by decide +kernel⟩
theorem scLaw : FnScope ["_law_script", "_law_k"] ["_law_script"] (defScope sLaw) := ⟨rfl, rfl, rfl, by decide +kernel, rfl, by decide +kernel, by decide +kernel⟩
theorem to {Q : VK} {v v' : V} {H : Hp} (q : Q v H) (e : v = v') : Q v' H := e ▸ q
theorem same_new {H : Hp} {p : Addr} {o : HO} (h : H p = none) : Same H (upd H p o) := fun b x e => (upd_ne (ne_of_none e h)).trans e
/-- w is the root of n -/
structure Rt (n w : Int) : Prop where
  w0 : 0 ≤ w
  lo : w * w ≤ n
  hi : n < (w + 1) * (w + 1)
section
variable {P : Program} {w : World} {K : PySem.W.Frag} {mg : Str → Option Value} {base : Heap}
def spInt : Sp := fun vs H Q _ => ∃ i, vs = [.int i] ∧ Q (.bl true) H
theorem ok_int {f : Addr} {fd : FuncData} (F : Fun K "is_integer" "is_integer" sInt f fd) (m1 : mg "isinstance" = none) (m2 : mg "int" = none) (m3 : mg "bool" = none) : FnOk P w K mg base CX0 1 f fd ["value"] spInt := by
  refine F.ok scInt (fun vs H Q E h => ?_) (fun cdv A outer s H vs Q E hr h => ?_)
  · obtain ⟨i, rfl, _⟩ := h
    rfl
  · obtain ⟨i, rfl, q⟩ := h
    refine ⟨_, pss_one (ps_ret (pe_and (pe_callB call_isi (by rfl) m1 boot_isinstance (pa_cons (pv 0) (pa_cons (pe_bltn (v := .ty "int") (by rfl) m2 boot_int rfl) pa_nil)))
      (pe_one (pe_not (pe_callB call_isi (by rfl) m1 boot_isinstance (pa_cons (pv 0) (pa_cons (pe_bltn (v := .ty "bool") (by rfl) m3 (by decide +kernel) rfl) pa_nil))))))), ?_⟩
    refine ⟨.int i, rfl, _, _, _, _, true, rfl, .ty _, .base (.int i), kit_ty (by decide +kernel), true, rfl, iteT ?_⟩
    refine ⟨.int i, rfl, _, _, _, _, false, rfl, .ty _, .base (.int i), kit_ty (by decide +kernel), false, rfl, q⟩
def spWithin : Sp := fun vs H Q _ => ∃ i a b, vs = [.int i, .int a, .int b] ∧ a ≤ i ∧ i ≤ b ∧ Q (.bl true) H
theorem ok_within {f g : Addr} {fd gd : FuncData} (F : Fun K "is_within" "is_within" sWithin f fd) (G : FnOk P w K mg base CX0 1 g gd ["value"] spInt) (mG : mg "is_integer" = some (.ref g)) (kG : PySem.W.keepIn K (.ref g) = true) (bG : Binds K gd ["value"] []) : FnOk P w K mg base CX0 2 f fd ["value", "least", "most"] spWithin := by
  refine F.ok scWithin (fun vs H Q E h => ?_) (fun cdv A outer s H vs Q E hr h => ?_)
  · obtain ⟨i, a, b, rfl, _⟩ := h
    rfl
  · obtain ⟨i, a, b, rfl, h1, h2, q⟩ := h
    refine ⟨_, pss_one (ps_ret (pe_and (pe_call G hr (by rfl) mG kG bG .nil pass0 (pa_cons (pv 0) pa_nil)) (pe_one (pe_chain op_le op_le (pv 1) (pv 0) (pv 2))))), ?_⟩
    refine ⟨.int i, rfl, i, rfl, true, rfl, iteT ?_⟩
    refine ⟨.int a, rfl, .int i, rfl, a, i, rfl, rfl, decide (a ≤ i), rfl, ?_⟩
    rw [if_pos (decide_eq_true h1)]
    refine ⟨.int b, rfl, i, b, rfl, rfl, ?_⟩
    exact to q (congrArg V.bl (decide_eq_true h2).symm)
def spIsSq : Sp := fun vs H Q _ => ∃ n r : Int, vs = [.int n] ∧ Rt n r ∧ n < 1000000 ∧ Q (.bl (decide (r * r = n))) H
theorem ok_isSq {f : Addr} {fd : FuncData} (F : Fun K "is_square" "is_square" sIsSq f fd) (mq : mg "isqrt" = some (.builtin "math.isqrt")) : FnOk P w K mg base CX0 1 f fd ["number"] spIsSq := by
  refine F.ok scIsSq (fun vs H Q E h => ?_) (fun cdv A outer s H vs Q E hr h => ?_)
  · obtain ⟨n, r, rfl, _⟩ := h
    rfl
  · obtain ⟨n, r, rfl, ⟨r0, h1, h2⟩, h3, q⟩ := h
    refine ⟨_, pss_one (ps_ret (pe_and (pe_cmpR op_ge (pv 0) pe_int (nomark _)) (pe_one (pe_cmpR op_eq (pe_op op_pow (pe_callBfun cr_isqrt (by rfl) mq (pa_cons (pv 0) pa_nil)) pe_int) (pv 0) (nomark _))))), ?_⟩
    have n0 : 0 ≤ n := Int.le_trans (Int.mul_nonneg r0 r0) h1
    have rb : r ≤ 1000 := by
      by_cases h : r ≤ 1000
      · exact h
      · have := mono_sq (a := 1000) (b := r) (by decide) (by omega)
        omega
    refine ⟨.int n, rfl, n, 0, rfl, rfl, _, rfl, ?_⟩
    refine iteT' (decide_eq_true n0) ⟨.int n, rfl, n, r, rfl, r0, h1, h2, Int.lt_trans h3 (by decide), r, 2, rfl, rfl, ⟨by decide, by decide, by omega⟩, .int n, rfl, rfl, ?_⟩
    refine to q (congrArg V.bl ?_)
    show decide (r * r = n) = decide (V.int (r ^ (2 : Nat)) = V.int n)
    rw [Int.pow_succ, Int.pow_succ, Int.pow_zero, Int.one_mul]
    by_cases e : r * r = n
    · rw [decide_eq_true e, decide_eq_true (congrArg V.int e)]
    · rw [decide_eq_false e, decide_eq_false fun z => e (V.int.inj z)]
/-- D is a discriminant above 0, w its root -/
structure Dw (D w : Int) : Prop where
  d5 : 5 ≤ D
  dt : D ≤ 1000
  dm : D % 4 < 2
  w2 : 2 ≤ w
  wt : w ≤ 31
  wl : w * w < D
  wu : D < (w + 1) * (w + 1)
theorem Dw.rt {D w : Int} (h : Dw D w) : Rt D w := ⟨by have := h.w2; omega, by have := h.wl; omega, h.wu⟩
theorem Know.dw {D w : Int} {r : Row} {p : Path} {s : Lw} {T U t u : Int} (h : Know D w r p s T U t u) : Dw D w := ⟨h.d5, h.dt, h.dm, h.w2, h.wt, h.wl, h.wu⟩
def spDisc : Sp := fun vs H Q _ => ∃ D w : Int, vs = [.int D] ∧ Dw D w ∧ Q (.bl true) H
theorem ok_disc {f g g2 : Addr} {fd gd gd2 : FuncData} {t1 t2 : Tok} (F : Fun K "is_discriminant" "is_discriminant" sDisc f fd) (G : FnOk P w K mg base CX0 2 g gd ["value", "least", "most"] spWithin) (mG : mg "is_within" = some (.ref g)) (kG : PySem.W.keepIn K (.ref g) = true) (bG : Binds K gd ["value", "least", "most"] [])
    (S : FnOk P w K mg base CX0 1 g2 gd2 ["number"] spIsSq) (mS : mg "is_square" = some (.ref g2)) (kS : PySem.W.keepIn K (.ref g2) = true) (bS : Binds K gd2 ["number"] []) (m1 : mg "LEAST_DISCRIMINANT" = some (.int (-(10 ^ 5)) t1)) (m2 : mg "MOST_DISCRIMINANT" = some (.int 1000 t2)) :
    FnOk P w K mg base CX0 3 f fd ["value"] spDisc := by
  refine F.ok scDisc (fun vs H Q E h => ?_) (fun cdv A outer s H vs Q E hr h => ?_)
  · obtain ⟨D, w, rfl, _⟩ := h
    rfl
  · obtain ⟨D, w, rfl, dw, q⟩ := h
    have d5 := dw.d5
    have dt := dw.dt
    refine ⟨_, pss_one (ps_ret (pe_and (pe_call G hr (by rfl) mG kG bG .nil pass0 (pa_cons (pv 0) (pa_cons (pe_glob (v := .int (-(10 ^ 5))) (by rfl) m1 ⟨_, rfl⟩) (pa_cons (pe_glob (v := .int 1000) (by rfl) m2 ⟨_, rfl⟩) pa_nil))))
      (pe_and (pe_cmpR op_lt (pe_op op_mod (pv 0) pe_int) pe_int (nomark _)) (pe_one (pe_not (pe_call S (hr.mono (by decide)) (by rfl) mS kS bS .nil pass0 (pa_cons (pv 0) pa_nil))))))), ?_⟩
    refine ⟨.int D, rfl, D, _, _, rfl, by omega, dt, true, rfl, iteT ?_⟩
    refine ⟨.int D, rfl, D, 4, rfl, rfl, (by show (0 : Int) < 4; decide), _, 2, rfl, rfl, _, rfl, iteT' (decide_eq_true dw.dm) ?_⟩
    refine ⟨.int D, rfl, D, w, rfl, dw.rt, by omega, _, rfl, ?_⟩
    refine to q (congrArg V.bl ?_)
    rw [decide_eq_false (by have := dw.wl; omega)]
    rfl
def spCheck : Sp := fun vs H Q _ => ∃ i a b, vs = [.int i, .int a, .int b] ∧ a ≤ i ∧ i ≤ b ∧ Q .non H
theorem ok_check {f g : Addr} {fd gd : FuncData} (F : Fun K "check_number" "check_number" sCheck f fd) (G : FnOk P w K mg base CX0 2 g gd ["value", "least", "most"] spWithin) (mG : mg "is_within" = some (.ref g)) (kG : PySem.W.keepIn K (.ref g) = true) (bG : Binds K gd ["value", "least", "most"] []) : FnOk P w K mg base CX0 3 f fd ["number", "least", "most"] spCheck := by
  refine F.ok scCheck (fun vs H Q E h => ?_) (fun cdv A outer s H vs Q E hr h => ?_)
  · obtain ⟨i, a, b, rfl, _⟩ := h
    rfl
  · obtain ⟨i, a, b, rfl, h1, h2, q⟩ := h
    refine ⟨_, pss_one (ps_if (pt_not (pt_val (pe_call G hr (by rfl) mG kG bG .nil pass0 (pa_cons (pv 0) (pa_cons (pv 1) (pa_cons (pv 2) pa_nil)))))) (pss_one ps_never) pss_nil), ?_⟩
    exact ⟨.int i, rfl, .int a, rfl, .int b, rfl, i, a, b, rfl, h1, h2, true, rfl, iteF q⟩
def spReq : Sp := fun vs H Q _ => ∃ D w : Int, vs = [.int D] ∧ Dw D w ∧ Q .non H
theorem ok_req {f g : Addr} {fd gd : FuncData} (F : Fun K "require_mixed_discriminant" "require_mixed_discriminant" sReq f fd) (G : FnOk P w K mg base CX0 3 g gd ["value"] spDisc) (mG : mg "is_discriminant" = some (.ref g)) (kG : PySem.W.keepIn K (.ref g) = true) (bG : Binds K gd ["value"] []) : FnOk P w K mg base CX0 4 f fd ["discriminant"] spReq := by
  refine F.ok scReq (fun vs H Q E h => ?_) (fun cdv A outer s H vs Q E hr h => ?_)
  · obtain ⟨D, w, rfl, _⟩ := h
    rfl
  · obtain ⟨D, w, rfl, dw, q⟩ := h
    have d5 := dw.d5
    refine ⟨_, pss_one (ps_if (PW.pt (pw_or (pt_not (pt_val (pe_call G hr (by rfl) mG kG bG .nil pass0 (pa_cons (pv 0) pa_nil)))) (pw_or1 (pt_cmpR op_lt (pv 0) pe_int (nomark _))))) (pss_one ps_never) pss_nil), ?_⟩
    exact ⟨.int D, rfl, D, w, rfl, dw, true, rfl, iteF ⟨.int D, rfl, D, 0, rfl, rfl, _, rfl, ite2 (fun z => absurd (of_decide_eq_true z) (by omega)) fun _ => q⟩⟩
end
end K54

namespace K54
open PySem PySem.Spec PyProof.Rows L2
def rV (r : Row) : List V := [.int r.a, .int r.b, .int r.c]
def two (x y : Int) : List V := [.int x, .int y]
theorem okR_of {r : Row} (h : okR r = true) : r.a ≠ 0 ∧ r.c ≠ 0 ∧ ab r.a < 1000 ∧ ab r.b < 1000 ∧ ab r.c < 1000 := by
  unfold okR at h
  simp only [Bool.and_eq_true, decide_eq_true_eq] at h
  exact ⟨h.1.1.1.1, h.1.1.1.2, h.1.1.2, h.1.2, h.2⟩
theorem l2 : 2 ≤ sizeLine := by decide
theorem l3 : 3 ≤ sizeLine := by decide
section
variable {P : Program} {w : World} {K : PySem.W.Frag} {mg : Str → Option Value} {base : Heap}
def spDAt : Sp := fun vs H Q _ => ∃ (t : Addr) (r : Row), vs = [.ref t] ∧ H t = some (.tup (rV r)) ∧ okR r = true ∧ Q (.int (r.b * r.b - 4 * r.a * r.c)) H
theorem ok_dAt {f : Addr} {fd : FuncData} (F : Fun K "discriminant_at" "discriminant_at" sDAt f fd) : FnOk P w K mg base CX0 1 f fd ["row"] spDAt := by
  refine F.ok scDAt (fun vs H Q E h => ?_) (fun cdv A outer s H vs Q E hr h => ?_)
  · obtain ⟨t, r, rfl, _⟩ := h
    rfl
  · obtain ⟨t, r, rfl, ht, ho, q⟩ := h
    obtain ⟨_, _, ha, hb, hc⟩ := okR_of ho
    rw [ab_eq] at ha hb hc
    have nd := scDAt.nd
    refine ⟨_, pss_cons (ps_asg (pv 0) (pg_tup rfl (pgs_cons (pg_name (i := 1) nd rfl (.inl rfl)) (pgs_cons (pg_name (i := 2) nd rfl (.inl rfl)) (pgs_cons (pg_name (i := 3) nd rfl (.inl rfl)) pgs_nil)))))
      (pss_one (ps_ret (pe_op op_sub (pe_op op_mul (pv 2) (pv 2)) (pe_op op_mul (pe_op op_mul pe_int (pv 1)) (pv 3))))), ?_⟩
    refine ⟨.ref t, rfl, t, rV r, rfl, .inl (.inl ht), rfl, _, _, rfl, _, _, rfl, _, _, rfl, rfl, ?_⟩
    exact ⟨.int r.b, rfl, .int r.b, rfl, r.b, r.b, rfl, rfl, .inl ⟨by omega, by omega⟩, .int r.a, rfl, 4, r.a, rfl, rfl, .inl ⟨by decide, by decide⟩, .int r.c, rfl, _, r.c, rfl, rfl, .inr ⟨by omega, by omega⟩, _, _, rfl, rfl, q⟩
def spMain : Sp := fun vs H Q _ => ∃ D : Int, vs = [.int D] ∧ ∀ t, H t = none → Q (.ref t) (upd H t (.tup (rV (mainR D))))
theorem ok_main {f : Addr} {fd : FuncData} (F : Fun K "main_row" "main_row" sMain f fd) : FnOk P w K mg base CX0 1 f fd ["discriminant"] spMain := by
  refine F.ok scMain (fun vs H Q E h => ?_) (fun cdv A outer s H vs Q E hr h => ?_)
  · obtain ⟨D, rfl, _⟩ := h
    rfl
  · obtain ⟨D, rfl, q⟩ := h
    have nd := scMain.nd
    refine ⟨_, pss_cons (ps_set (i := 1) nd rfl (.inl rfl) (pe_op op_mod (pv 0) pe_int))
      (pss_one (ps_ret (pe_tup (pa_cons pe_int (pa_cons (pv 1) (pa_cons (pe_op op_fdivN (pe_op op_sub (pv 1) (pv 0)) pe_int) pa_nil)))))), ?_⟩
    refine ⟨.int D, rfl, D, 2, rfl, rfl, (by show (0 : Int) < 2; decide), ?_⟩
    exact ⟨.int (D % 2), rfl, .int (D % 2), rfl, .int D, rfl, D % 2, D, rfl, rfl, _, 4, rfl, rfl, ⟨by decide, by decide⟩, l3, q⟩
def spRed : Sp := fun vs H Q _ => ∃ (t : Addr) (r : Row) (D v : Int), vs = [.ref t, .int D] ∧ H t = some (.tup (rV r)) ∧ Dw D v ∧ Q (.bl (redB v r)) H
theorem ok_red {f : Addr} {fd : FuncData} (F : Fun K "is_reduced_row" "is_reduced_row" sRed f fd) (mq : mg "isqrt" = some (.builtin "math.isqrt")) (ma : mg "abs" = none) : FnOk P w K mg base CX0 1 f fd ["row", "discriminant"] spRed := by
  refine F.ok scRed (fun vs H Q E h => ?_) (fun cdv A outer s H vs Q E hr h => ?_)
  · obtain ⟨t, r, D, v, rfl, _⟩ := h
    rfl
  · obtain ⟨t, r, D, v, rfl, ht, dw, q⟩ := h
    have nd := scRed.nd
    have d5 := dw.d5
    have dt := dw.dt
    refine ⟨_, pss_cons (ps_asg (pv 0) (pg_tup rfl (pgs_cons (pg_name (i := 2) nd rfl (.inl rfl)) (pgs_cons (pg_name (i := 3) nd rfl (.inl rfl)) (pgs_cons (pg_name (i := 4) nd rfl (.inl rfl)) pgs_nil)))))
      (pss_cons (ps_if (pt_cmpR op_lt (pv 1) pe_int (nomark _)) (pss_one ps_never) pss_nil)
      (pss_cons (ps_set (i := 5) nd rfl (.inl rfl) (pe_callBfun cr_isqrt (by rfl) mq (pa_cons (pv 1) pa_nil)))
      (pss_one (ps_ret (pe_and (pe_chain3 op_lt op_le op_lt pe_int (pv 3) (pv 5) (pe_op op_add (pe_op op_mul pe_int (pe_callB call_abs (by rfl) ma boot_abs (pa_cons (pv 2) pa_nil))) (pv 3)))
        (pe_one (pe_cmpR op_le (pe_op op_sub (pe_op op_mul pe_int (pe_callB call_abs (by rfl) ma boot_abs (pa_cons (pv 2) pa_nil))) (pv 3)) (pv 5) (nomark _)))))))), ?_⟩
    refine ⟨.ref t, rfl, t, rV r, rfl, .inl (.inl ht), rfl, _, _, rfl, _, _, rfl, _, _, rfl, rfl, ?_⟩
    refine ⟨.int D, rfl, D, 0, rfl, rfl, _, rfl, ite2 (fun z => absurd (of_decide_eq_true z) (by omega)) fun _ => ?_⟩
    refine ⟨.int D, rfl, D, v, rfl, dw.rt.w0, dw.rt.lo, dw.rt.hi, Int.lt_of_le_of_lt dt (by decide), ?_⟩
    have sh : redB v r = (decide (0 < r.b) && decide (r.b ≤ v) && decide (v < 2 * (if r.a < 0 then -r.a else r.a) + r.b) && decide (2 * (if r.a < 0 then -r.a else r.a) - r.b ≤ v)) := rfl
    rw [sh] at q
    refine ⟨.int r.b, rfl, 0, r.b, rfl, rfl, _, rfl, ?_⟩
    cases e1 : decide (0 < r.b) with
    | false => rw [e1] at q; exact iteF ⟨_, rfl, iteF q⟩
    | true =>
      rw [e1] at q
      refine iteT ⟨.int v, rfl, r.b, v, rfl, rfl, _, rfl, ?_⟩
      cases e2 : decide (r.b ≤ v) with
      | false => rw [e2] at q; exact iteF ⟨_, rfl, iteF q⟩
      | true =>
        rw [e2] at q
        refine iteT ⟨.int r.a, rfl, r.a, rfl, 2, _, rfl, rfl, .inl ⟨by decide, by decide⟩, .int r.b, rfl, _, r.b, rfl, rfl, v, _, rfl, rfl, _, rfl, ?_⟩
        cases e3 : decide (v < 2 * (if r.a < 0 then -r.a else r.a) + r.b) with
        | false => rw [e3] at q; exact iteF q
        | true =>
          rw [e3] at q
          exact iteT ⟨.int r.a, rfl, r.a, rfl, 2, _, rfl, rfl, .inl ⟨by decide, by decide⟩, .int r.b, rfl, _, r.b, rfl, rfl, .int v, rfl, _, v, rfl, rfl, q⟩
def spMid : Sp := fun vs H Q _ => ∃ (t : Addr) (r : Row) (D v : Int), vs = [.ref t, .int D] ∧ H t = some (.tup (rV r)) ∧ okR r = true ∧ Dw D v ∧ Q (.int (midB v r)) H
theorem ok_mid {f : Addr} {fd : FuncData} (F : Fun K "middle_behind" "middle_behind" sMid f fd) (mq : mg "isqrt" = some (.builtin "math.isqrt")) (ma : mg "abs" = none) (mm : mg "max" = none) : FnOk P w K mg base CX0 1 f fd ["row", "discriminant"] spMid := by
  refine F.ok scMid (fun vs H Q E h => ?_) (fun cdv A outer s H vs Q E hr h => ?_)
  · obtain ⟨t, r, D, v, rfl, _⟩ := h
    rfl
  · obtain ⟨t, r, D, v, rfl, ht, ho, dw, q⟩ := h
    obtain ⟨_, c0, ha, hb, hc⟩ := okR_of ho
    have nd := scMid.nd
    have d5 := dw.d5
    have dt := dw.dt
    have hT : SqT K H t (rV r) := .inl (.inl ht)
    refine ⟨_, pss_cons (ps_set (i := 2) nd rfl (.inl rfl) (pe_callB call_abs (by rfl) ma boot_abs (pa_cons (pe_ix ix_tup (pv 0) pe_int (fun _ _ => rfl)) pa_nil)))
      (pss_cons (ps_set (i := 3) nd rfl (.inl rfl) (pe_callBfun cr_isqrt (by rfl) mq (pa_cons (pe_callB (call_max2 rfl) (by rfl) mm boot_max (pa_cons (pv 1) (pa_cons pe_int pa_nil))) pa_nil)))
      (pss_cons (ps_set (i := 4) nd rfl (.inl rfl) (pe_ifExp (pt_cmpR op_le (pv 2) (pv 3) (nomark _)) (pv 3) (pv 2)))
      (pss_one (ps_ret (pe_op op_sub (pv 4) (pe_op op_mod (pe_op op_add (pv 4) (pe_ix ix_tup (pv 0) pe_int (fun _ _ => rfl))) (pe_op op_mul pe_int (pv 2)))))))), ?_⟩
    refine ⟨.ref t, rfl, t, rV r, 2, .int r.c, rfl, rfl, hT, rfl, r.c, rfl, ?_⟩
    rw [show (if r.c < 0 then -r.c else r.c) = ab r.c from rfl]
    have z0 : 0 < ab r.c := by rw [ab_eq]; omega
    refine ⟨.int D, rfl, D, 0, rfl, ?_⟩
    rw [if_neg (show ¬ (0 > D) by omega)]
    refine ⟨D, v, rfl, dw.rt.w0, dw.rt.lo, dw.rt.hi, Int.lt_of_le_of_lt dt (by decide), ?_⟩
    have fin : ∀ top : Int, top = (if ab r.c ≤ v then v else ab r.c) → Q (.int (top - (top + r.b) % (2 * ab r.c))) H := fun top e => by rw [e]; exact q
    refine ⟨.int (ab r.c), rfl, .int v, rfl, ab r.c, v, rfl, rfl, _, rfl, ite2 (fun z => ?_) (fun z => ?_)⟩
    · refine ⟨.int v, rfl, .int v, rfl, .int v, rfl, .ref t, rfl, t, rV r, 1, .int r.b, rfl, rfl, hT, rfl, v, r.b, rfl, rfl, .int (ab r.c), rfl, 2, ab r.c, rfl, rfl, .inl ⟨by decide, by decide⟩, _, _, rfl, rfl, (by show 0 < 2 * ab r.c; omega), v, _, rfl, rfl, fin v (by rw [if_pos (of_decide_eq_true z)])⟩
    · refine ⟨.int (ab r.c), rfl, .int (ab r.c), rfl, .int (ab r.c), rfl, .ref t, rfl, t, rV r, 1, .int r.b, rfl, rfl, hT, rfl, ab r.c, r.b, rfl, rfl, .int (ab r.c), rfl, 2, ab r.c, rfl, rfl, .inl ⟨by decide, by decide⟩, _, _, rfl, rfl, (by show 0 < 2 * ab r.c; omega), ab r.c, _, rfl, rfl, fin (ab r.c) (by rw [if_neg fun y => z (decide_eq_true y)])⟩
theorem mid_small {v : Int} {r : Row} (v0 : 0 ≤ v) (vt : v ≤ 31) (h : okR r = true) : ab (midB v r) < 4000 := by
  obtain ⟨_, c0, ha, hb, hc⟩ := okR_of h
  have z0 : 0 < ab r.c := by rw [ab_eq]; omega
  unfold midB
  generalize (if ab r.c ≤ v then v else ab r.c) + r.b = x
  have m1 := Int.emod_nonneg x (show 2 * ab r.c ≠ 0 by omega)
  have m2 := Int.emod_lt_of_pos x (show 0 < 2 * ab r.c by omega)
  generalize x % (2 * ab r.c) = y at *
  simp only [ab_eq] at *
  split <;> omega
def spRowB : Sp := fun vs H Q _ => ∃ (t : Addr) (r : Row) (D v : Int), vs = [.ref t, .int D] ∧ H t = some (.tup (rV r)) ∧ okR r = true ∧ Dw D v ∧ ∀ t', H t' = none → Q (.ref t') (upd H t' (.tup (rV (rowB D v r))))
theorem ok_rowB {f g : Addr} {fd gd : FuncData} (F : Fun K "row_behind" "row_behind" sRowB f fd) (G : FnOk P w K mg base CX0 1 g gd ["row", "discriminant"] spMid) (mG : mg "middle_behind" = some (.ref g)) (kG : PySem.W.keepIn K (.ref g) = true) (bG : Binds K gd ["row", "discriminant"] []) : FnOk P w K mg base CX0 2 f fd ["row", "discriminant"] spRowB := by
  refine F.ok scRowB (fun vs H Q E h => ?_) (fun cdv A outer s H vs Q E hr h => ?_)
  · obtain ⟨t, r, D, v, rfl, _⟩ := h
    rfl
  · obtain ⟨t, r, D, v, rfl, ht, ho, dw, q⟩ := h
    obtain ⟨_, c0, ha, hb, hc⟩ := okR_of ho
    have nd := scRowB.nd
    have hT : SqT K H t (rV r) := .inl (.inl ht)
    have ms := mid_small dw.rt.w0 dw.wt ho
    rw [ab_eq] at ms hc
    refine ⟨_, pss_cons (ps_set (i := 2) nd rfl (.inl rfl) (pe_call G hr (by rfl) mG kG bG .nil pass0 (pa_cons (pv 0) (pa_cons (pv 1) pa_nil))))
      (pss_one (ps_ret (pe_tup (pa_cons (pe_ix ix_tup (pv 0) pe_int (fun _ _ => rfl)) (pa_cons (pv 2) (pa_cons (pe_op op_fdivN (pe_op op_sub (pe_op op_mul (pv 2) (pv 2)) (pv 1)) (pe_op op_mul pe_int (pe_ix ix_tup (pv 0) pe_int (fun _ _ => rfl)))) pa_nil)))))), ?_⟩
    refine ⟨.ref t, rfl, .int D, rfl, t, r, D, v, rfl, ht, ho, dw, ?_⟩
    refine ⟨.ref t, rfl, t, rV r, 2, .int r.c, rfl, rfl, hT, rfl, .int (midB v r), rfl, .int (midB v r), rfl, .int (midB v r), rfl, midB v r, midB v r, rfl, rfl, .inl ⟨by omega, by omega⟩, .int D, rfl, _, D, rfl, rfl, .ref t, rfl, t, rV r, 2, .int r.c, rfl, rfl, hT, rfl, 4, r.c, rfl, rfl, .inl ⟨by decide, by decide⟩, _, _, rfl, rfl, ⟨by show (4 : Int) * r.c ≠ 0; omega, by show ((4 : Int) * r.c).natAbs < 1073741824; omega⟩, l3, q⟩
end
end K54

namespace K54
open PySem PySem.Spec PyProof.Rows L2
/-- a path at pt -/
def HasP (H : Hp) (pt : Addr) (p : Path) : Prop := ∃ tr tl tq, H pt = some (.tup [.ref tr, .ref tl, .ref tq]) ∧ H tr = some (.tup (rV p.r)) ∧ H tl = some (.tup (two p.l0 p.l1)) ∧ H tq = some (.tup (two p.r0 p.r1))
theorem HasP.same {H H' : Hp} {pt : Addr} {p : Path} (h : HasP H pt p) (s : Same H H') : HasP H' pt p := by
  obtain ⟨a, b, c, h1, h2, h3, h4⟩ := h
  exact ⟨a, b, c, s _ _ h1, s _ _ h2, s _ _ h3, s _ _ h4⟩
theorem many_small {v : Int} {r : Row} (v0 : 0 ≤ v) (vt : v ≤ 31) (h : okR r = true) : -8000 ≤ manyB v r ∧ manyB v r ≤ 8000 := by
  obtain ⟨_, c0, ha, hb, hc⟩ := okR_of h
  have ms := mid_small v0 vt h
  unfold manyB
  generalize midB v r = m at *
  simp only [ab_eq] at *
  obtain ⟨e, _, h1, h2⟩ := fdiv_fmod_facts (r.b + m) (2 * r.c)
  generalize (r.b + m).fmod (2 * r.c) = f at *
  generalize hg : (r.b + m).fdiv (2 * r.c) = g at *
  have z : (g * (2 * r.c)).natAbs ≤ 8000 := by
    have : g * (2 * r.c) = r.b + m - f := by omega
    rw [this]
    rcases Int.lt_or_gt_of_ne c0 with c | c
    · have := h2 (by omega); omega
    · have := h1 (by omega); omega
  rw [Int.natAbs_mul] at z
  have : g.natAbs ≤ g.natAbs * (2 * r.c).natAbs := Nat.le_mul_of_pos_right _ (by omega)
  omega
theorem many_fd {r : Row} (h : okR r = true) : 2 * r.c ≠ 0 ∧ (2 * r.c).natAbs < 1073741824 := by
  obtain ⟨_, c0, ha, hb, hc⟩ := okR_of h
  simp only [ab_eq] at *
  omega
section
variable {P : Program} {w : World} {K : PySem.W.Frag} {mg : Str → Option Value} {base : Heap}
def spPathB : Sp := fun vs H Q _ => ∃ (t : Addr) (p : Path) (D v : Int), vs = [.ref t, .int D] ∧ HasP H t p ∧ okR p.r = true ∧ Dw D v ∧ ∀ H' q, Same H H' → HasP H' q (pathB D v p) → Q (.ref q) H'
theorem ok_pathB {f g : Addr} {fd gd : FuncData} (F : Fun K "path_behind" "path_behind" sPathB f fd) (G : FnOk P w K mg base CX0 2 g gd ["row", "discriminant"] spRowB) (mG : mg "row_behind" = some (.ref g)) (kG : PySem.W.keepIn K (.ref g) = true) (bG : Binds K gd ["row", "discriminant"] []) : FnOk P w K mg base CX0 3 f fd ["path", "discriminant"] spPathB := by
  refine F.ok scPathB (fun vs H Q E h => ?_) (fun cdv A outer s H vs Q E hr h => ?_)
  · obtain ⟨t, p, D, v, rfl, _⟩ := h
    rfl
  · obtain ⟨t, p, D, v, rfl, ⟨tr, tl, tq, h1, h2, h3, h4⟩, ho, dw, q⟩ := h
    have nd := scPathB.nd
    have mS := many_small dw.rt.w0 dw.wt ho
    refine ⟨_, pss_cons (ps_asg (pv 0) (pg_tup rfl (pgs_cons (pg_name (i := 2) nd rfl (.inl rfl)) (pgs_cons (pg_name (i := 3) nd rfl (.inl rfl)) (pgs_cons (pg_name (i := 4) nd rfl (.inl rfl)) pgs_nil)))))
      (pss_cons (ps_set (i := 5) nd rfl (.inl rfl) (pe_call G hr (by rfl) mG kG bG .nil pass0 (pa_cons (pv 2) (pa_cons (pv 1) pa_nil))))
      (pss_cons (ps_set (i := 6) nd rfl (.inl rfl) (pe_op op_fdivN (pe_op op_add (pe_ix ix_tup (pv 2) pe_int (fun _ _ => rfl)) (pe_ix ix_tup (pv 5) pe_int (fun _ _ => rfl))) (pe_op op_mul pe_int (pe_ix ix_tup (pv 2) pe_int (fun _ _ => rfl)))))
      (pss_one (ps_ret (pe_tup (pa_cons (pv 5) (pa_cons (pv 4) (pa_cons (pe_tup (pa_cons (pe_op op_sub (pe_op op_mul (pv 6) (pe_ix ix_tup (pv 4) pe_int (fun _ _ => rfl))) (pe_ix ix_tup (pv 3) pe_int (fun _ _ => rfl))) (pa_cons (pe_op op_sub (pe_op op_mul (pv 6) (pe_ix ix_tup (pv 4) pe_int (fun _ _ => rfl))) (pe_ix ix_tup (pv 3) pe_int (fun _ _ => rfl))) pa_nil))) pa_nil)))))))), ?_⟩
    refine ⟨.ref t, rfl, t, _, rfl, .inl (.inl h1), rfl, _, _, rfl, _, _, rfl, _, _, rfl, rfl, ?_⟩
    refine ⟨.ref tr, rfl, .int D, rfl, tr, p.r, D, v, rfl, h2, ho, dw, fun nb nnb => ?_⟩
    have s1 : Same H (upd H nb (.tup (rV (rowB D v p.r)))) := same_new nnb
    generalize hH1 : upd H nb (.tup (rV (rowB D v p.r))) = H1 at *
    have hb : H1 nb = some (.tup (rV (rowB D v p.r))) := by rw [← hH1]; exact upd_same
    have t2 : SqT K H1 tr (rV p.r) := .inl (.inl (s1 _ _ h2))
    have t3 : SqT K H1 tl (two p.l0 p.l1) := .inl (.inl (s1 _ _ h3))
    have t4 : SqT K H1 tq (two p.r0 p.r1) := .inl (.inl (s1 _ _ h4))
    refine ⟨.ref tr, rfl, tr, rV p.r, 1, .int p.r.b, rfl, rfl, t2, rfl, .ref nb, rfl, nb, rV (rowB D v p.r), 1, .int (midB v p.r), rfl, rfl, .inl (.inl hb), rfl, _, _, rfl, rfl, .ref tr, rfl, tr, rV p.r, 2, .int p.r.c, rfl, rfl, t2, rfl, 2, _, rfl, rfl, .inl ⟨by decide, by decide⟩, _, _, rfl, rfl, many_fd ho, ?_⟩
    refine ⟨.ref nb, rfl, .ref tq, rfl, .int (manyB v p.r), rfl, .ref tq, rfl, tq, two p.r0 p.r1, 0, .int p.r0, rfl, rfl, t4, rfl, manyB v p.r, p.r0, rfl, rfl, .inl ⟨by omega, by omega⟩, .ref tl, rfl, tl, two p.l0 p.l1, 0, .int p.l0, rfl, rfl, t3, rfl, _, _, rfl, rfl, ?_⟩
    refine ⟨.int (manyB v p.r), rfl, .ref tq, rfl, tq, two p.r0 p.r1, 1, .int p.r1, rfl, rfl, t4, rfl, manyB v p.r, p.r1, rfl, rfl, .inl ⟨by omega, by omega⟩, .ref tl, rfl, tl, two p.l0 p.l1, 1, .int p.l1, rfl, rfl, t3, rfl, _, _, rfl, rfl, l2, fun n1 nn1 => ⟨l3, fun n2 nn2 => ?_⟩⟩
    have s2 := same_new (o := .tup [.int (manyB v p.r * p.r0 - p.l0), .int (manyB v p.r * p.r1 - p.l1)]) nn1
    have s3 := same_new (o := .tup [.ref nb, .ref tq, .ref n1]) nn2
    refine q _ n2 (s1.trans (s2.trans s3)) ⟨nb, tq, n1, upd_same, s3 _ _ (s2 _ _ hb), s3 _ _ (s2 _ _ (s1 _ _ h4)), ?_⟩
    exact s3 _ _ upd_same
def spRedB : Sp := fun vs H Q _ => ∃ (t : Addr) (r r' : Row) (k : Nat) (D v : Int), vs = [.ref t, .int D] ∧ H t = some (.tup (rV r)) ∧ Dw D v ∧ goRed k D v r = some r' ∧ ∀ H' q, Same H H' → okR r' = true → H' q = some (.tup (rV r')) → Q (.ref q) H'
theorem ok_redB {f g g2 : Addr} {fd gd gd2 : FuncData} (F : Fun K "reduced_behind" "reduced_behind" sRedB f fd) (G : FnOk P w K mg base CX0 1 g gd ["row", "discriminant"] spRed) (mG : mg "is_reduced_row" = some (.ref g)) (kG : PySem.W.keepIn K (.ref g) = true) (bG : Binds K gd ["row", "discriminant"] [])
    (S : FnOk P w K mg base CX0 2 g2 gd2 ["row", "discriminant"] spRowB) (mS : mg "row_behind" = some (.ref g2)) (kS : PySem.W.keepIn K (.ref g2) = true) (bS : Binds K gd2 ["row", "discriminant"] []) : FnOk P w K mg base CX0 3 f fd ["row", "discriminant"] spRedB := by
  refine F.ok scRedB (fun vs H Q E h => ?_) (fun cdv A outer s H vs Q E hr h => ?_)
  · obtain ⟨t, r, r', k, D, v, rfl, _⟩ := h
    rfl
  · obtain ⟨t, r, r', k, D, v, rfl, ht, dw, hk, q⟩ := h
    have nd := scRedB.nd
    refine ⟨_, pss_cons (ps_while PassesOwn.never (pt_not (pt_val (pe_call G (hr.mono (by decide)) (by rfl) mG kG bG .nil pass0 (pa_cons (pv 0) (pa_cons (pv 1) pa_nil)))))
        (pss_one (ps_set (i := 0) nd rfl (.inl rfl) (pe_call S hr (by rfl) mS kS bS .nil pass0 (pa_cons (pv 0) (pa_cons (pv 1) pa_nil))))))
      (pss_one (ps_ret (pv 0))), ?_⟩
    refine ⟨fun j σ H' => Same H H' ∧ ∃ (t : Addr) (r : Row), σ = [some (.ref t), some (.int D)] ∧ H' t = some (.tup (rV r)) ∧ goRed j D v r = some r', ⟨k, .refl _, t, r, rfl, ht, hk⟩, fun j σ H' hW => ?_⟩
    obtain ⟨sm, t1, r1, rfl, h1, e1⟩ := hW
    cases j with
    | zero => cases e1
    | succ j =>
      have hok : okR r1 = true := by
        cases z : okR r1 with
        | true => rfl
        | false => unfold goRed at e1; rw [z] at e1; cases e1
      unfold goRed at e1
      rw [if_pos hok] at e1
      refine ⟨.ref t1, rfl, .int D, rfl, t1, r1, D, v, rfl, h1, dw, _, rfl, ?_⟩
      cases z : redB v r1 with
      | true =>
        rw [z, if_pos rfl] at e1
        cases e1
        exact iteF ⟨.ref t1, rfl, q _ t1 sm hok h1⟩
      | false =>
        rw [z, if_neg (by decide)] at e1
        refine iteT ⟨fun σ H'' => Same H H'' ∧ ∃ (t : Addr) (r : Row), σ = [some (.ref t), some (.int D)] ∧ H'' t = some (.tup (rV r)) ∧ goRed j D v r = some r', ?_, ?_⟩
        · rintro σ' H'' ⟨a, t2, r2, b, c, d⟩
          exact ⟨j, Nat.lt_succ_self _, a, t2, r2, b, c, d⟩
        · refine ⟨.ref t1, rfl, .int D, rfl, t1, r1, D, v, rfl, h1, hok, dw, fun t' n' => ?_⟩
          exact ⟨sm.trans (same_new n'), t', _, rfl, upd_same, e1⟩
/-! ### columns_of -/
def scO : Scope := { kind := .function, names := [(".0", .local), ("index", .cell), ("tuple", .globalImplicit), ("rows", .cell)], isGenerator := false, isCoroutine := false, more := [] }
def rTupOf (K : PySem.W.Frag) : List V → Hp → VK → Prop := fun xs H Q => ∃ p ys, xs = [V.ref p] ∧ ((SqL K H p ys ∧ ∀ l, H l = none → Q (.ref l) (upd H l (.tup ys))) ∨ (SqT K H p ys ∧ Q (.ref p) H))
def teCol (K : PySem.W.Frag) : TE := tCB (rTupOf K) (tCons (tLc (iTup K (tVar 0)) (gName 2) tYes (tOp (rIxT K) (tVar 2) (tVar 1)) [2]) tNil)
def spCols : Sp := fun vs H Q _ => ∃ (t t1 t2 : Addr) (a b c d : Int), vs = [.ref t] ∧ H t = some (.tup [.ref t1, .ref t2]) ∧ H t1 = some (.tup (two a b)) ∧ H t2 = some (.tup (two c d)) ∧
  ∀ H' q q1 q2, Same H H' → H' q = some (.tup [.ref q1, .ref q2]) → H' q1 = some (.tup (two a c)) → H' q2 = some (.tup (two b d)) → Q (.ref q) H'
theorem ok_cols {f : Addr} {fd : FuncData} (F : Fun K "columns_of" "columns_of" sCols f fd) (mt : mg "tuple" = none) (mr : mg "range" = none) (ml : mg "len" = none) : FnOk P w K mg base CX0 1 f fd ["rows"] spCols := by
  refine F.ok scCols (fun vs H Q E h => ?_) (fun cdv A outer s H vs Q E hr h => ?_)
  · obtain ⟨t, t1, t2, a, b, c, d, rfl, _⟩ := h
    rfl
  · obtain ⟨t, t1, t2, a, b, c, d, rfl, h0, h1, h2, q⟩ := h
    have nd := scCols.nd
    refine ⟨_, pss_one (ps_ret (pe_callTy call_tuple_of (by rfl) mt boot_tuple (pa_cons (pe_lc (own := [("index", 1)]) (g := gName 1) (tt := tYes) (te := teCol K) rfl nd (pi_range1 rfl mr (pa_cons (pe_callB call_len_seq (by rfl) ml PySem.boot_len (pa_cons (pv 0) pa_nil)) pa_nil))
        (blkOk_by (N := ["rows", "index", "row"]) (sc := defScope sCols) (by decide +kernel)) (fun _ _ _ _ _ => pg_name (i := 1) nd rfl (.inr rfl)) (fun _ _ _ _ _ => pts_nil)
        (fun s1 H1 C1 cl1 fp1 => by
          refine pe_callTy call_tuple_of (by rfl) mt boot_tuple (pa_cons (pe_lc (own := [("row", 2)]) (g := gName 2) (tt := tYes) (wi := iTup K (tVar 0)) (te := tOp (rIxT K) (tVar 2) (tVar 1)) rfl nd (pi_tup ?_)
            (blkOk_by (N := ["rows", "index", "row"]) (sc := scO) (by decide +kernel)) (fun _ _ _ _ _ => pg_name (i := 2) nd rfl (.inl rfl)) (fun _ _ _ _ _ => pts_nil) (fun _ _ _ _ _ => ?_)) pa_nil)
          · exact pv 0
          · exact pe_ix ix_tup (pv 2) (pv 1) (fun _ _ => rfl))) pa_nil))), ?_⟩
    have lt2 : ([.ref t1, .ref t2] : List V).length = 2 := rfl
    have sz1 : 1 < sizeLine := by decide
    have sz0 : 0 < sizeLine := by decide
    -- one column
    have colOk : ∀ (i : Nat) (x y : Int), atI (two a b) i = some (.int x) → atI (two c d) i = some (.int y) → True := fun _ _ _ _ _ => trivial
    refine ⟨.ref t, rfl, t, _, rfl, .inr (.inl (.inl h0)), 2, rfl, by decide, by decide, fun D nD => lc_range (lo := 0) (n := 2)
      (fun i H' => Same H H' ∧ ∃ l, H' D = some (.lst l) ∧ l.length = i ∧ (i = 1 → ∃ q1, l = [.ref q1] ∧ H' q1 = some (.tup (two a c))) ∧ (i = 2 → ∃ q1 q2, l = [.ref q1, .ref q2] ∧ H' q1 = some (.tup (two a c)) ∧ H' q2 = some (.tup (two b d))))
      ⟨same_new nD, [], upd_same, rfl, fun z => by omega, fun z => by omega⟩ ?_ ?_⟩
    · rintro i H1 hi ⟨sm, l, hD, hl, hl1, _⟩
      have g0 := sm _ _ h0
      have g1 := sm _ _ h1
      have g2 := sm _ _ h2
      obtain ⟨x, y, ex, ey, exy⟩ : ∃ x y : Int, atI (two a b) (0 + (i : Int)) = some (.int x) ∧ atI (two c d) (0 + (i : Int)) = some (.int y) ∧ ((i = 0 ∧ x = a ∧ y = c) ∨ (i = 1 ∧ x = b ∧ y = d)) := by
        rcases (show i = 0 ∨ i = 1 by omega) with rfl | rfl
        · exact ⟨a, c, rfl, rfl, .inl ⟨rfl, rfl, rfl⟩⟩
        · exact ⟨b, d, rfl, rfl, .inr ⟨rfl, rfl, rfl⟩⟩
      refine ⟨rfl, .ref t, rfl, t, rfl, ⟨_, .inl (.inl g0)⟩, fun D2 nD2 => lc_tup (xs := [.ref t1, .ref t2]) (fun j H' => Same H1 H' ∧ ∃ m, H' D2 = some (.lst m) ∧ m = (two x y).take j) ⟨same_new nD2, [], upd_same, rfl⟩ (fun _ _ _ z => .inl (.inl (z.1 _ _ g0))) ?_ ?_⟩
      · rintro j z H2 hj ⟨sm2, m, hm, em⟩
        have k1 := sm2 _ _ g1
        have k2 := sm2 _ _ g2
        have D2n : ∀ b o, H1 b = some o → b ≠ D2 := fun b o e z => by rw [z, nD2] at e; cases e
        have jl : j < 2 := (List.getElem?_eq_some_iff.mp hj).1
        rcases (show j = 0 ∨ j = 1 by omega) with rfl | rfl
        · cases hj
          refine ⟨rfl, .ref t1, rfl, .int (0 + (i : Int)), rfl, t1, two a b, 0 + (i : Int), .int x, rfl, rfl, .inl (.inl k1), ex, m, hm, by rw [em]; exact sz0, fun b o e => ?_, _, upd_same, by rw [em]; rfl⟩
          rw [upd_ne (D2n b o e)]
          exact sm2 _ _ e
        · cases hj
          refine ⟨rfl, .ref t2, rfl, .int (0 + (i : Int)), rfl, t2, two c d, 0 + (i : Int), .int y, rfl, rfl, .inl (.inl k2), ey, m, hm, by rw [em]; exact sz1, fun b o e => ?_, _, upd_same, by rw [em]; rfl⟩
          rw [upd_ne (D2n b o e)]
          exact sm2 _ _ e
      · rintro H2 ⟨sm2, m, hm, em⟩
        have em' : m = two x y := em
        subst em'
        refine ⟨D2, _, rfl, .inl ⟨.inl (.inl hm), fun n nn => ?_⟩⟩
        have s3 := same_new (o := .tup (two x y)) nn
        have hD2 := s3 _ _ (sm2 _ _ hD)
        refine ⟨l, hD2, by rw [hl, sizeLine_eq]; omega, fun b o e => ?_, _, upd_same, by rw [List.length_append, hl]; rfl, fun z => ?_, fun z => ?_⟩
        · rw [upd_ne (ne_of_none e nD)]
          exact s3 _ _ (sm2 _ _ (sm _ _ e))
        · have i0 : i = 0 := by omega
          subst i0
          have nD' : n ≠ D := fun z => by rw [z, sm2 _ _ hD] at nn; cases nn
          rcases exy with ⟨_, rfl, rfl⟩ | ⟨z, _⟩
          · exact ⟨n, by rw [List.length_eq_zero_iff.mp hl]; rfl, by rw [upd_ne nD']; exact upd_same⟩
          · cases z
        · have i1 : i = 1 := by omega
          subst i1
          obtain ⟨q1, rfl, hq1⟩ := hl1 rfl
          have nD' : n ≠ D := fun z => by rw [z, sm2 _ _ hD] at nn; cases nn
          have qD : q1 ≠ D := fun z => by rw [z, hD] at hq1; cases hq1
          rcases exy with ⟨z, _⟩ | ⟨_, rfl, rfl⟩
          · cases z
          · exact ⟨q1, n, rfl, by rw [upd_ne qD]; exact s3 _ _ (sm2 _ _ hq1), by rw [upd_ne nD']; exact upd_same⟩
    · rintro H1 ⟨sm, l, hD, hl, _, hl2⟩
      obtain ⟨q1, q2, rfl, hq1, hq2⟩ := hl2 rfl
      refine ⟨D, _, rfl, .inl ⟨.inl (.inl hD), fun n nn => ?_⟩⟩
      have s3 := same_new (o := .tup [.ref q1, .ref q2]) nn
      exact q _ n q1 q2 (sm.trans s3) upd_same (s3 _ _ hq1) (s3 _ _ hq2)
end
end K54

namespace K54
open PySem PySem.Spec PyProof.Rows L2
def dR (r : Row) : PyData := .tuple [.int r.a, .int r.b, .int r.c]
theorem dpR {K : PySem.W.Frag} {H : Hp} {t : Addr} {r : Row} (h : H t = some (.tup (rV r))) : Dp K H (.ref t) (dR r) :=
  .tup (.inl (.inl h)) (.cons (.int _) (.cons (.int _) (.cons (.int _) .nil)))
theorem dR_eqv (r r' : Row) : PyData.eqv (dR r) (dR r') = decide (r = r') := by
  show ((r.a == r'.a) && ((r.b == r'.b) && ((r.c == r'.c) && true))) = _
  cases r with
  | mk a b c =>
    cases r' with
    | mk a' b' c' =>
      rw [Bool.and_true]
      by_cases h1 : a = a'
      · by_cases h2 : b = b'
        · by_cases h3 : c = c'
          · subst h1 h2 h3; simp
          · have : ¬ (Row.mk a b c = Row.mk a' b' c') := fun e => h3 (Row.mk.inj e).2.2
            rw [decide_eq_false this]; simp [h3]
        · have : ¬ (Row.mk a b c = Row.mk a' b' c') := fun e => h2 (Row.mk.inj e).2.1
          rw [decide_eq_false this]; simp [h2]
      · have : ¬ (Row.mk a b c = Row.mk a' b' c') := fun e => h1 (Row.mk.inj e).1
        rw [decide_eq_false this]; simp [h1]
theorem dR_shaped (r : Row) : SeqAt.shaped (dR r) = true := rfl
def d2 (x y : Int) : PyData := .tuple [.int x, .int y]
theorem dp2 {K : PySem.W.Frag} {H : Hp} {t : Addr} {x y : Int} (h : H t = some (.tup (two x y))) : Dp K H (.ref t) (d2 x y) :=
  .tup (.inl (.inl h)) (.cons (.int _) (.cons (.int _) .nil))
theorem d2_shaped (x y : Int) : SeqAt.shaped (d2 x y) = true := rfl
theorem d2_eqv (x y x' y' : Int) : PyData.eqv (d2 x y) (d2 x' y') = decide (x = x' ∧ y = y') := by
  show ((x == x') && ((y == y') && true)) = _
  rw [Bool.and_true]
  by_cases h1 : x = x'
  · by_cases h2 : y = y'
    · simp [h1, h2]
    · simp [h2]
  · simp [h1]
section
variable {P : Program} {w : World} {K : PySem.W.Frag} {mg : Str → Option Value} {base : Heap}
def spAround : Sp := fun vs H Q _ => ∃ (t : Addr) (r : Row) (D v : Int) (p : Path), vs = [.ref t] ∧ H t = some (.tup (rV r)) ∧ okR r = true ∧ Dw D v ∧ r.b * r.b - 4 * r.a * r.c = D ∧ progP D v r = some p ∧
  ∀ H' q q1 q2, Same H H' → H' q = some (.tup [.ref q1, .ref q2]) → H' q1 = some (.tup (two p.l0 p.r0)) → H' q2 = some (.tup (two p.l1 p.r1)) → Q (.ref q) H'
theorem ok_around {f g g2 g3 : Addr} {fd gd gd2 gd3 : FuncData} (F : Fun K "change_around" "change_around" sAround f fd) (G : FnOk P w K mg base CX0 1 g gd ["row"] spDAt) (mG : mg "discriminant_at" = some (.ref g)) (kG : PySem.W.keepIn K (.ref g) = true) (bG : Binds K gd ["row"] [])
    (S : FnOk P w K mg base CX0 3 g2 gd2 ["path", "discriminant"] spPathB) (mS : mg "path_behind" = some (.ref g2)) (kS : PySem.W.keepIn K (.ref g2) = true) (bS : Binds K gd2 ["path", "discriminant"] [])
    (C : FnOk P w K mg base CX0 1 g3 gd3 ["rows"] spCols) (mC : mg "columns_of" = some (.ref g3)) (kC : PySem.W.keepIn K (.ref g3) = true) (bC : Binds K gd3 ["rows"] []) : FnOk P w K mg base CX0 4 f fd ["reduced"] spAround := by
  refine F.ok scAround (fun vs H Q E h => ?_) (fun cdv A outer s H vs Q E hr h => ?_)
  · obtain ⟨t, r, D, v, p, rfl, _⟩ := h
    rfl
  · obtain ⟨t, r, D, v, p, rfl, ht, ho, dw, hD, hp, q⟩ := h
    have nd := scAround.nd
    have hu : (A.deeper (envOfC "change_around" (defScope sAround) s.heap.objs.size f cdv)).units + 64 < cLine := by have := hr.units; omega
    refine ⟨_, pss_cons (ps_set (i := 1) nd rfl (.inl rfl) (pe_call G (hr.mono (by decide)) (by rfl) mG kG bG .nil pass0 (pa_cons (pv 0) pa_nil)))
      (pss_cons (ps_set (i := 2) nd rfl (.inl rfl) (pe_call S hr (by rfl) mS kS bS .nil pass0 (pa_cons (pe_tup (pa_cons (pv 0) (pa_cons (pe_tup (pa_cons pe_int (pa_cons pe_int pa_nil))) (pa_cons (pe_tup (pa_cons pe_int (pa_cons pe_int pa_nil))) pa_nil)))) (pa_cons (pv 1) pa_nil))))
      (pss_cons (ps_while PassesOwn.never (pt_cmpR (op_neD (X := (cxOf CX0 P w K mg base ["reduced", "discriminant", "path"] "change_around" (defScope sAround) f cdv A outer s H E).nox) hu) (pe_ix ix_tup (pv 2) pe_int (fun _ _ => rfl)) (pv 0) (nomark _))
        (pss_one (ps_set (i := 2) nd rfl (.inl rfl) (pe_call S hr (by rfl) mS kS bS .nil pass0 (pa_cons (pv 2) (pa_cons (pv 1) pa_nil))))))
      (pss_one (ps_ret (pe_call C (hr.mono (by decide)) (by rfl) mC kC bC .nil pass0 (pa_cons (pe_slice sl_tup (pv 2) (po_some pe_int) po_none) pa_nil)))))), ?_⟩
    refine ⟨.ref t, rfl, t, r, rfl, ht, ho, ?_⟩
    rw [hD]
    refine ⟨.ref t, rfl, l2, fun n1 nn1 => ⟨l2, fun n2 nn2 => ⟨l3, fun n3 nn3 => ⟨.int D, rfl, ?_⟩⟩⟩⟩
    have s1 := same_new (o := .tup [.int 1, .int 0]) nn1
    have s2 := same_new (o := .tup [.int 0, .int 1]) nn2
    have s3 := same_new (o := .tup [.ref t, .ref n1, .ref n2]) nn3
    have h0 : HasP (upd (upd (upd H n1 (.tup [.int 1, .int 0])) n2 (.tup [.int 0, .int 1])) n3 (.tup [.ref t, .ref n1, .ref n2])) n3 (startP r) :=
      ⟨t, n1, n2, upd_same, s3 _ _ (s2 _ _ (s1 _ _ ht)), s3 _ _ (s2 _ _ upd_same), s3 _ _ upd_same⟩
    have s03 := s1.trans (s2.trans s3)
    generalize upd (upd (upd H n1 (.tup [.int 1, .int 0])) n2 (.tup [.int 0, .int 1])) n3 (.tup [.ref t, .ref n1, .ref n2]) = H3 at *
    refine ⟨n3, startP r, D, v, rfl, h0, ho, dw, fun H4 pt s4 hp4 => ?_⟩
    have s04 := s03.trans s4
    refine ⟨fun j σ H' => Same H H' ∧ ∃ (pt : Addr) (p' : Path), σ = [some (.ref t), some (.int D), some (.ref pt)] ∧ HasP H' pt p' ∧ goRing j D v r p' = some p, ⟨100, s04, pt, _, rfl, hp4, hp⟩, fun j σ H' hW => ?_⟩
    obtain ⟨sm, pt1, p1, rfl, hp1, e1⟩ := hW
    cases j with
    | zero => cases e1
    | succ j =>
      have hok : okR p1.r = true := by
        cases z : okR p1.r with
        | true => rfl
        | false => unfold goRing at e1; rw [z] at e1; cases e1
      unfold goRing at e1
      rw [if_pos hok] at e1
      have hp1' := hp1
      obtain ⟨tr, tl, tq, a1, a2, a3, a4⟩ := hp1
      refine ⟨.ref pt1, rfl, pt1, _, 0, .ref tr, rfl, rfl, .inl (.inl a1), rfl, .ref t, rfl, dR p1.r, dR r, dpR a2, dpR (sm _ _ ht), rfl, rfl, _, rfl, ?_⟩
      rw [dR_eqv]
      by_cases z : p1.r = r
      · rw [if_pos z] at e1
        cases e1
        rw [decide_eq_true z]
        refine iteF ⟨.ref pt1, rfl, 1, rfl, pt1, _, rfl, .inl (.inl a1), ?_, fun n nn => ?_⟩
        · rintro ⟨z, _⟩
          revert z
          show ¬ (1 = 0)
          decide
        · have sn := same_new (o := .tup (cutV [.ref tr, .ref tl, .ref tq] (some 1) none)) nn
          have ec : cutV [V.ref tr, .ref tl, .ref tq] (some 1) none = [V.ref tl, .ref tq] := rfl
          rw [ec] at sn ⊢
          exact ⟨n, tl, tq, p.l0, p.l1, p.r0, p.r1, rfl, upd_same, sn _ _ a3, sn _ _ a4, fun H' q0 q1 q2 s' b1 b2 b3 => q H' q0 q1 q2 (sm.trans (sn.trans s')) b1 b2 b3⟩
      · rw [if_neg z] at e1
        rw [decide_eq_false z]
        refine iteT ⟨fun σ H'' => Same H H'' ∧ ∃ (pt : Addr) (p' : Path), σ = [some (.ref t), some (.int D), some (.ref pt)] ∧ HasP H'' pt p' ∧ goRing j D v r p' = some p, ?_, ?_⟩
        · rintro σ' H'' ⟨a, b⟩
          exact ⟨j, Nat.lt_succ_self _, a, b⟩
        · exact ⟨.ref pt1, rfl, .int D, rfl, pt1, p1, D, v, rfl, hp1', hok, dw, fun H5 pt5 s5 h5 => ⟨sm.trans s5, pt5, _, rfl, h5, e1⟩⟩
/-! ### unit_of -/
def spUnitOf : Sp := fun vs H Q _ => ∃ (D v : Int) (r : Row) (p : Path) (s : Lw) (T U t u : Int), vs = [.int D] ∧ Know D v r p s T U t u ∧ ∀ H' q, Same H H' → H' q = some (.tup (two T U)) → Q (.ref q) H'
theorem ok_unitOf {f g g2 g3 : Addr} {fd gd gd2 gd3 : FuncData} (F : Fun K "unit_of" "unit_of" sUnitOf f fd) (G : FnOk P w K mg base CX0 1 g gd ["discriminant"] spMain) (mG : mg "main_row" = some (.ref g)) (kG : PySem.W.keepIn K (.ref g) = true) (bG : Binds K gd ["discriminant"] [])
    (S : FnOk P w K mg base CX0 3 g2 gd2 ["row", "discriminant"] spRedB) (mS : mg "reduced_behind" = some (.ref g2)) (kS : PySem.W.keepIn K (.ref g2) = true) (bS : Binds K gd2 ["row", "discriminant"] [])
    (C : FnOk P w K mg base CX0 4 g3 gd3 ["reduced"] spAround) (mC : mg "change_around" = some (.ref g3)) (kC : PySem.W.keepIn K (.ref g3) = true) (bC : Binds K gd3 ["reduced"] []) (ma : mg "abs" = none) : FnOk P w K mg base CX0 5 f fd ["discriminant"] spUnitOf := by
  refine F.ok scUnitOf (fun vs H Q E h => ?_) (fun cdv A outer s H vs Q E hr h => ?_)
  · obtain ⟨D, v, r, p, s, T, U, t, u, rfl, _⟩ := h
    rfl
  · obtain ⟨D, v, r, p, ls, T, U, t, u, rfl, kn, q⟩ := h
    have nd := scUnitOf.nd
    refine ⟨_, pss_cons (ps_set (i := 1) nd rfl (.inl rfl) (pe_call S (hr.mono (by decide)) (by rfl) mS kS bS .nil pass0 (pa_cons (pe_call G (hr.mono (by decide)) (by rfl) mG kG bG .nil pass0 (pa_cons (pv 0) pa_nil)) (pa_cons (pv 0) pa_nil))))
      (pss_cons (ps_set (i := 2) nd rfl (.inl rfl) (pe_call C hr (by rfl) mC kC bC .nil pass0 (pa_cons (pv 1) pa_nil)))
      (pss_one (ps_ret (pe_tup (pa_cons (pe_callB call_abs (by rfl) ma boot_abs (pa_cons (pe_op op_add (pe_ix ix_tup (pe_ix ix_tup (pv 2) pe_int (fun _ _ => rfl)) pe_int (fun _ _ => rfl)) (pe_ix ix_tup (pe_ix ix_tup (pv 2) pe_int (fun _ _ => rfl)) pe_int (fun _ _ => rfl))) pa_nil))
        (pa_cons (pe_callB call_abs (by rfl) ma boot_abs (pa_cons (pe_op op_fdivN (pe_ix ix_tup (pe_ix ix_tup (pv 2) pe_int (fun _ _ => rfl)) pe_int (fun _ _ => rfl)) (pe_ix ix_tup (pv 1) pe_int (fun _ _ => rfl))) pa_nil)) pa_nil)))))), ?_⟩
    refine ⟨.int D, rfl, D, rfl, fun n nn => ⟨.int D, rfl, n, _, r, 6, D, v, rfl, upd_same, kn.dw, kn.hr, fun H2 n2 s2 hok h2 => ?_⟩⟩
    obtain ⟨a0, c0, ha, _, _⟩ := okR_of hok
    rw [ab_eq] at ha
    have s1 := same_new (o := .tup (rV (mainR D))) nn
    refine ⟨.ref n2, rfl, n2, r, D, v, p, rfl, h2, hok, kn.dw, kn.disc, kn.hp, fun H3 q0 q1 q2 s3 b1 b2 b3 => ?_⟩
    have t0 : SqT K H3 q0 [.ref q1, .ref q2] := .inl (.inl b1)
    have t1 : SqT K H3 q1 (two p.l0 p.r0) := .inl (.inl b2)
    have t2 : SqT K H3 q2 (two p.l1 p.r1) := .inl (.inl b3)
    have t3 : SqT K H3 n2 (rV r) := .inl (.inl (s3 _ _ h2))
    refine ⟨.ref q0, rfl, q0, _, 0, .ref q1, rfl, rfl, t0, rfl, q1, _, 0, .int p.l0, rfl, rfl, t1, rfl, .ref q0, rfl, q0, _, 1, .ref q2, rfl, rfl, t0, rfl, q2, _, 1, .int p.r1, rfl, rfl, t2, rfl, p.l0, p.r1, rfl, rfl, _, rfl, ?_⟩
    refine ⟨.ref q0, rfl, q0, _, 1, .ref q2, rfl, rfl, t0, rfl, q2, _, 0, .int p.l1, rfl, rfl, t2, rfl, .ref n2, rfl, n2, _, 0, .int r.a, rfl, rfl, t3, rfl, p.l1, r.a, rfl, rfl, ⟨a0, by omega⟩, _, rfl, l2, fun m nm => ?_⟩
    refine q _ m (s1.trans (s2.trans (s3.trans (same_new nm)))) ?_
    rw [upd_same, kn.eT, kn.eU]
    rfl
end
end K54

namespace K54
open PySem PySem.Spec PyProof.Rows L2
theorem nb {x : Int} {n : Nat} (h0 : 0 ≤ x) (h : x < 2 ^ n) : x.natAbs < 2 ^ n := by
  have e : ((2 ^ n : Nat) : Int) = (2 : Int) ^ n := by rw [Int.natCast_pow]; rfl
  rw [← e] at h
  generalize 2 ^ n = m at *
  omega
theorem wm {x y : Int} {a b : Nat} (hx0 : 0 ≤ x) (hx : x < 2 ^ a) (hy0 : 0 ≤ y) (hy : y < 2 ^ b) (h0 : 0 < a) (h1 : 0 < b) (h : a + b ≤ 1000000) : CMulW x y := wide_mul (nb hx0 hx) (nb hy0 hy) h0 h1 h
theorem le_sq {r a : Int} (h0 : 0 ≤ r) (h : r * r ≤ a) : r ≤ a := by
  by_cases z : r = 0
  · subst z; simpa using h
  · have : r * 1 ≤ r * r := Int.mul_le_mul_of_nonneg_left (by omega) h0
    omega
/-- powers of a unit, by multiplying -/
def pw (D T U : Int) : Nat → Int × Int
  | 0 => (2, 0)
  | n + 1 => (((pw D T U n).1 * T + D * (pw D T U n).2 * U) / 2, ((pw D T U n).1 * U + (pw D T U n).2 * T) / 2)
theorem pw_one (D T U : Int) : pw D T U 1 = (T, U) := by
  show ((2 * T + D * 0 * U) / 2, (2 * U + 0 * T) / 2) = (T, U)
  congr 1
  · rw [Int.mul_zero, Int.zero_mul]; omega
  · rw [Int.zero_mul]; omega
theorem two_pow_pos (n : Nat) : (0 : Int) < 2 ^ n := Int.pow_pos (by decide)
theorem mul_lt_pow {x y : Int} {a b : Nat} (hx0 : 0 ≤ x) (hx : x < 2 ^ a) (hy0 : 0 ≤ y) (hy : y < 2 ^ b) : x * y < 2 ^ (a + b) := by
  rw [Int.pow_add]
  exact Int.lt_of_le_of_lt (Int.mul_le_mul_of_nonneg_right (by omega) hy0) (Int.mul_lt_mul_of_pos_left hy (two_pow_pos a))
theorem pow_mono {a b : Nat} (h : a ≤ b) : (2 : Int) ^ a ≤ 2 ^ b := by
  have e : ∀ n : Nat, ((2 ^ n : Nat) : Int) = (2 : Int) ^ n := fun n => by rw [Int.natCast_pow]; rfl
  rw [← e, ← e]
  exact Int.ofNat_le.mpr (Nat.pow_le_pow_right (by decide) h)
theorem pw_bd {D T U : Int} (d0 : 0 ≤ D) (d1 : D < 2 ^ 10) (t0 : 0 ≤ T) (t1 : T < 2 ^ 120) (u0 : 0 ≤ U) (u1 : U < 2 ^ 120) : ∀ n : Nat, 0 ≤ (pw D T U n).1 ∧ (pw D T U n).1 < 2 ^ (131 * n + 2) ∧ 0 ≤ (pw D T U n).2 ∧ (pw D T U n).2 < 2 ^ (131 * n + 2)
  | 0 => by show (0 : Int) ≤ 2 ∧ (2 : Int) < 2 ^ 2 ∧ (0 : Int) ≤ 0 ∧ (0 : Int) < 2 ^ 2; decide
  | n + 1 => by
    obtain ⟨a0, a1, b0, b1⟩ := pw_bd d0 d1 t0 t1 u0 u1 n
    show 0 ≤ ((pw D T U n).1 * T + D * (pw D T U n).2 * U) / 2 ∧ ((pw D T U n).1 * T + D * (pw D T U n).2 * U) / 2 < _ ∧ 0 ≤ ((pw D T U n).1 * U + (pw D T U n).2 * T) / 2 ∧ ((pw D T U n).1 * U + (pw D T U n).2 * T) / 2 < _
    generalize (pw D T U n).1 = a at *
    generalize (pw D T U n).2 = b at *
    have k1 := mul_lt_pow a0 a1 t0 t1
    have k2 := mul_lt_pow d0 d1 b0 b1
    have k3 := mul_lt_pow (Int.mul_nonneg d0 b0) k2 u0 u1
    have k4 := mul_lt_pow a0 a1 u0 u1
    have k5 := mul_lt_pow b0 b1 t0 t1
    have p1 := Int.mul_nonneg a0 t0
    have p2 := Int.mul_nonneg (Int.mul_nonneg d0 b0) u0
    have p3 := Int.mul_nonneg a0 u0
    have p4 := Int.mul_nonneg b0 t0
    have m1 := pow_mono (show 131 * n + 2 + 120 ≤ 131 * (n + 1) + 2 by omega)
    have m2 := pow_mono (show 10 + (131 * n + 2) + 120 ≤ 131 * (n + 1) + 2 by omega)
    generalize a * T = x1 at *
    generalize D * b * U = x2 at *
    generalize a * U = x3 at *
    generalize b * T = x4 at *
    generalize (2 : Int) ^ (131 * (n + 1) + 2) = M at *
    refine ⟨by omega, by omega, by omega, by omega⟩
section
variable {P : Program} {w : World} {K : PySem.W.Frag} {mg : Str → Option Value} {base : Heap}
theorem ok_least {f g g2 : Addr} {fd gd gd2 : FuncData} (F : Fun K "least_unit" "least_unit" sLeast f fd) (G : FnOk P w K mg base CX0 4 g gd ["discriminant"] spReq) (mG : mg "require_mixed_discriminant" = some (.ref g)) (kG : PySem.W.keepIn K (.ref g) = true) (bG : Binds K gd ["discriminant"] [])
    (S : FnOk P w K mg base CX0 5 g2 gd2 ["discriminant"] spUnitOf) (mS : mg "unit_of" = some (.ref g2)) (kS : PySem.W.keepIn K (.ref g2) = true) (bS : Binds K gd2 ["discriminant"] []) : FnOk P w K mg base CX0 6 f fd ["discriminant"] spUnitOf := by
  refine F.ok scLeast (fun vs H Q E h => ?_) (fun cdv A outer s H vs Q E hr h => ?_)
  · obtain ⟨D, v, r, p, s, T, U, t, u, rfl, _⟩ := h
    rfl
  · obtain ⟨D, v, r, p, ls, T, U, t, u, rfl, kn, q⟩ := h
    refine ⟨_, pss_cons (ps_expr (pe_call G (hr.mono (by decide)) (by rfl) mG kG bG .nil pass0 (pa_cons (pv 0) pa_nil)))
      (pss_one (ps_ret (pe_call S hr (by rfl) mS kS bS .nil pass0 (pa_cons (pv 0) pa_nil)))), ?_⟩
    exact ⟨.int D, rfl, D, v, rfl, kn.dw, .int D, rfl, D, v, r, p, ls, T, U, t, u, rfl, kn, q⟩
def spMinus : Sp := fun vs H Q _ => ∃ (D v : Int) (r : Row) (p : Path) (s : Lw) (T U t u : Int), vs = [.int D] ∧ Know D v r p s T U t u ∧ (t * t - D * u * u = 4 → ∀ H', Same H H' → Q .non H') ∧ (t * t - D * u * u = -4 → ∀ H' q, Same H H' → H' q = some (.tup (two t u)) → Q (.ref q) H')
theorem ok_minus {f g g2 : Addr} {fd gd gd2 : FuncData} (F : Fun K "least_minus_unit" "least_minus_unit" sMinus f fd) (G : FnOk P w K mg base CX0 4 g gd ["discriminant"] spReq) (mG : mg "require_mixed_discriminant" = some (.ref g)) (kG : PySem.W.keepIn K (.ref g) = true) (bG : Binds K gd ["discriminant"] [])
    (S : FnOk P w K mg base CX0 5 g2 gd2 ["discriminant"] spUnitOf) (mS : mg "unit_of" = some (.ref g2)) (kS : PySem.W.keepIn K (.ref g2) = true) (bS : Binds K gd2 ["discriminant"] []) (mq : mg "isqrt" = some (.builtin "math.isqrt")) : FnOk P w K mg base CX0 6 f fd ["discriminant"] spMinus := by
  refine F.ok scMinus (fun vs H Q E h => ?_) (fun cdv A outer s H vs Q E hr h => ?_)
  · obtain ⟨D, v, r, p, s, T, U, t, u, rfl, _⟩ := h
    rfl
  · obtain ⟨D, v, r, p, ls, T, U, t, u, rfl, kn, q4, qm⟩ := h
    have nd := scMinus.nd
    have T3 := kn.T3
    have U1 := kn.U1
    have t1 := kn.t1
    have u1 := kn.u1
    refine ⟨_, pss_cons (ps_expr (pe_call G (hr.mono (by decide)) (by rfl) mG kG bG .nil pass0 (pa_cons (pv 0) pa_nil)))
      (pss_cons (ps_asg (pe_call S hr (by rfl) mS kS bS .nil pass0 (pa_cons (pv 0) pa_nil)) (pg_tup rfl (pgs_cons (pg_name (i := 1) nd rfl (.inl rfl)) (pgs_cons (pg_name (i := 2) nd rfl (.inl rfl)) pgs_nil))))
      (pss_cons (ps_set (i := 3) nd rfl (.inl rfl) (pe_callBfun cr_isqrt (by rfl) mq (pa_cons (pe_op op_sub (pv 1) pe_int) pa_nil)))
      (pss_cons (ps_if (PW.pt (pw_or (pt_cmpR op_ne (pe_op op_mulW (pv 3) (pv 3)) (pe_op op_sub (pv 1) pe_int) (nomark _)) (pw_or1 (pt_cmpR op_ne (pe_op op_mod (pv 2) (pv 3)) pe_int (nomark _))))) (pss_one (ps_ret pe_non)) pss_nil)
      (pss_one (ps_ret (pe_tup (pa_cons (pv 3) (pa_cons (pe_op op_fdivW (pv 2) (pv 3)) pa_nil)))))))), ?_⟩
    refine ⟨.int D, rfl, D, v, rfl, kn.dw, .int D, rfl, D, v, r, p, ls, T, U, t, u, rfl, kn, fun H1 q1 s1 h1 => ?_⟩
    refine ⟨q1, _, rfl, .inl (.inl h1), rfl, _, _, rfl, _, _, rfl, rfl, ?_⟩
    obtain ⟨R, R0, R1, R2, hR⟩ : ∃ R : Int, 0 < R ∧ R * R ≤ T - 2 ∧ T - 2 < (R + 1) * (R + 1) ∧ ((t * t - D * u * u = 4 ∧ (R * R ≠ T - 2 ∨ U % R ≠ 0)) ∨ (t * t - D * u * u = -4 ∧ R = t ∧ R * R = T - 2 ∧ U % R = 0 ∧ U / R = u)) := by
      rcases kn.ways with ⟨e, _, _, ⟨R, R0, R1, R2, R3⟩, _⟩ | ⟨e, e2, e3, _⟩
      · exact ⟨R, R0, R1, R2, .inl ⟨e, R3⟩⟩
      · have eT : T = t * t + 2 := by omega
        refine ⟨t, by omega, by omega, ?_, .inr ⟨e, rfl, by omega, ?_, ?_⟩⟩
        · have : (t + 1) * (t + 1) = t * t + t + t + 1 := by rw [Int.add_mul, Int.mul_add, Int.one_mul, Int.mul_one]; omega
          omega
        · rw [e3, Int.mul_emod_right]
        · rw [e3, Int.mul_ediv_cancel_left _ (by omega)]
    have Tb := kn.Tb
    have Ub := kn.Ub
    have RT : R < 2 ^ 120 := by have := le_sq (by omega) R1; omega
    refine ⟨.int T, rfl, T, 2, rfl, rfl, T - 2, R, rfl, by omega, R1, R2, Int.lt_trans (Int.lt_of_le_of_lt (show T - 2 ≤ T by omega) Tb) (by decide +kernel), ?_⟩
    refine ⟨.int R, rfl, .int R, rfl, R, R, rfl, rfl, wm (by omega) RT (by omega) RT (by decide) (by decide) (by decide), .int T, rfl, T, 2, rfl, rfl, rfl, _, rfl, ?_⟩
    have mk : R * R = T - 2 → U % R = 0 → t * t - D * u * u = -4 ∧ R = t ∧ U / R = u := by
      intro a b
      rcases hR with ⟨_, h | h⟩ | ⟨e, e1, _, _, e2⟩
      · exact absurd a h
      · exact absurd b h
      · exact ⟨e, e1, e2⟩
    have no : (R * R ≠ T - 2 ∨ U % R ≠ 0) → t * t - D * u * u = 4 := by
      intro a
      rcases hR with ⟨e, _⟩ | ⟨_, _, b, c, _⟩
      · exact e
      · rcases a with a | a
        · exact absurd b a
        · exact absurd c a
    by_cases z : R * R = T - 2
    · rw [show (!decide (V.int (R * R) = V.int (T - 2))) = false by rw [decide_eq_true (congrArg V.int z)]; rfl]
      refine iteF ⟨.int U, rfl, .int R, rfl, U, R, rfl, rfl, R0, rfl, _, rfl, ?_⟩
      by_cases y : U % R = 0
      · rw [show (!decide (V.int (U % R) = V.int 0)) = false by rw [decide_eq_true (congrArg V.int y)]; rfl]
        obtain ⟨e1, e2, e3⟩ := mk z y
        refine iteF ⟨.int R, rfl, .int U, rfl, .int R, rfl, U, R, rfl, rfl, wide_div R0 (nb (by omega) RT) (by decide) (by decide), l2, fun n nn => ?_⟩
        refine qm e1 _ n (s1.trans (same_new nn)) ?_
        rw [upd_same]
        show some (HO.tup [V.int R, V.int (U / R)]) = _
        rw [e3, e2]
        rfl
      · rw [show (!decide (V.int (U % R) = V.int 0)) = true by rw [decide_eq_false fun e => y (V.int.inj e)]; rfl]
        exact iteT (q4 (no (.inr y)) _ s1)
    · rw [show (!decide (V.int (R * R) = V.int (T - 2))) = true by rw [decide_eq_false fun e => z (V.int.inj e)]; rfl]
      exact iteT (q4 (no (.inl z)) _ s1)
def spProd : Sp := fun vs H Q _ => ∃ (ta tb : Addr) (a b c d D : Int) (n : Nat), vs = [.ref ta, .ref tb, .int D] ∧ H ta = some (.tup (two a b)) ∧ H tb = some (.tup (two c d)) ∧ 0 ≤ a ∧ a < 2 ^ n ∧ 0 ≤ b ∧ b < 2 ^ n ∧ 0 ≤ c ∧ c < 2 ^ n ∧ 0 ≤ d ∧ d < 2 ^ n ∧ 0 ≤ D ∧ D < 2 ^ 10 ∧ 0 < n ∧ n ≤ 100000 ∧
  ∀ q, H q = none → Q (.ref q) (upd H q (.tup (two ((a * c + D * b * d) / 2) ((a * d + b * c) / 2))))
theorem ok_prod {f : Addr} {fd : FuncData} (F : Fun K "unit_product" "unit_product" sProd f fd) : FnOk P w K mg base CX0 1 f fd ["unit", "other", "discriminant"] spProd := by
  refine F.ok scProd (fun vs H Q E h => ?_) (fun cdv A outer s H vs Q E hr h => ?_)
  · obtain ⟨ta, tb, a, b, c, d, D, n, rfl, _⟩ := h
    rfl
  · obtain ⟨ta, tb, a, b, c, d, D, n, rfl, ha, hb, a0, a1, b0, b1, c0, c1, d0, d1, D0, D1, n0, nn, q⟩ := h
    have nd := scProd.nd
    refine ⟨_, pss_cons (ps_asg (pv 0) (pg_tup rfl (pgs_cons (pg_name (i := 3) nd rfl (.inl rfl)) (pgs_cons (pg_name (i := 4) nd rfl (.inl rfl)) pgs_nil))))
      (pss_cons (ps_asg (pv 1) (pg_tup rfl (pgs_cons (pg_name (i := 5) nd rfl (.inl rfl)) (pgs_cons (pg_name (i := 6) nd rfl (.inl rfl)) pgs_nil))))
      (pss_one (ps_ret (pe_tup (pa_cons (pe_op op_fdiv (pe_op op_add (pe_op op_mulW (pv 3) (pv 5)) (pe_op op_mulW (pe_op op_mulW (pv 2) (pv 4)) (pv 6))) pe_int)
        (pa_cons (pe_op op_fdiv (pe_op op_add (pe_op op_mulW (pv 3) (pv 6)) (pe_op op_mulW (pv 4) (pv 5))) pe_int) pa_nil)))))), ?_⟩
    refine ⟨.ref ta, rfl, ta, _, rfl, .inl (.inl ha), rfl, _, _, rfl, _, _, rfl, rfl, ?_⟩
    refine ⟨.ref tb, rfl, tb, _, rfl, .inl (.inl hb), rfl, _, _, rfl, _, _, rfl, rfl, ?_⟩
    refine ⟨.int a, rfl, .int c, rfl, a, c, rfl, rfl, wm a0 a1 c0 c1 n0 n0 (by omega), .int D, rfl, .int b, rfl, D, b, rfl, rfl, wm D0 D1 b0 b1 (by decide) n0 (by omega), .int d, rfl, _, d, rfl, rfl, wm (Int.mul_nonneg D0 b0) (mul_lt_pow D0 D1 b0 b1) d0 d1 (by omega) n0 (by omega), _, _, rfl, rfl, _, 2, rfl, rfl, ⟨by decide, by decide⟩, ?_⟩
    exact ⟨.int a, rfl, .int d, rfl, a, d, rfl, rfl, wm a0 a1 d0 d1 n0 n0 (by omega), .int b, rfl, .int c, rfl, b, c, rfl, rfl, wm b0 b1 c0 c1 n0 n0 (by omega), _, _, rfl, rfl, _, 2, rfl, rfl, ⟨by decide, by decide⟩, l2, q⟩
end
end K54

namespace K54
open PySem PySem.Spec PyProof.Rows L2
section
variable {P : Program} {w : World} {K : PySem.W.Frag} {mg : Str → Option Value} {base : Heap} {C J : Addr}
abbrev TG (K : PySem.W.Frag) (mg : Str → Option Value) (C J : Addr) : Prop := PySem.XErr.Cls K mg "TooGreat" "given" "TooGreat.__init__" "ArithmeticError" "ArithmeticError.__new__" [.type "ArithmeticError", .type "Exception", .type "BaseException", .type "object"] C J
def spPower (C : Addr) : Sp := fun vs H Q E => ∃ (D v : Int) (r : Row) (p : Path) (s : Lw) (T U t u : Int) (n : Nat), vs = [.int D, .int n] ∧ 1 ≤ n ∧ n ≤ 100 ∧ Know D v r p s T U t u ∧
  (10 ^ 75 < (pw D T U n).1 → ∀ H' d, Same H H' → H' d = some (.xd [("given", .int (pw D T U n).1)]) → E (.ref C) (some d) H') ∧
  ((pw D T U n).1 ≤ 10 ^ 75 → ∀ H' q, Same H H' → H' q = some (.tup (two (pw D T U n).1 (pw D T U n).2)) → Q (.ref q) H')
theorem ok_power {f g g2 g3 g4 : Addr} {fd gd gd2 gd3 gd4 : FuncData} {t1 t2 : Tok} (F : Fun K "unit_power" "unit_power" sPower f fd) (Z : TG K mg C J) (G : FnOk P w K mg base CX0 4 g gd ["discriminant"] spReq) (mG : mg "require_mixed_discriminant" = some (.ref g)) (kG : PySem.W.keepIn K (.ref g) = true) (bG : Binds K gd ["discriminant"] [])
    (N : FnOk P w K mg base CX0 3 g3 gd3 ["number", "least", "most"] spCheck) (mN : mg "check_number" = some (.ref g3)) (kN : PySem.W.keepIn K (.ref g3) = true) (bN : Binds K gd3 ["number", "least", "most"] [])
    (S : FnOk P w K mg base CX0 5 g2 gd2 ["discriminant"] spUnitOf) (mS : mg "unit_of" = some (.ref g2)) (kS : PySem.W.keepIn K (.ref g2) = true) (bS : Binds K gd2 ["discriminant"] [])
    (R : FnOk P w K mg base CX0 1 g4 gd4 ["unit", "other", "discriminant"] spProd) (mR : mg "unit_product" = some (.ref g4)) (kR : PySem.W.keepIn K (.ref g4) = true) (bR : Binds K gd4 ["unit", "other", "discriminant"] [])
    (mr : mg "range" = none) (m1 : mg "MOST_EXPONENT" = some (.int 100 t1)) (m2 : mg "MOST_ENTRY" = some (.int (10 ^ 60 * 10 ^ 15) t2)) : FnOk P w K mg base (L2.CX P w) 6 f fd ["discriminant", "many"] (spPower C) := by
  refine F.okX scPower (fun vs H Q E h => ?_) (fun cdv A outer s H vs Q E hr h => ?_)
  · obtain ⟨D, v, r, p, s, T, U, t, u, n, rfl, _⟩ := h
    rfl
  · obtain ⟨D, v, r, p, ls, T, U, t, u, n, rfl, n1, n100, kn, qe, qq⟩ := h
    have nd := scPower.nd
    refine ⟨_, pss_cons (ps_expr (pe_call G (hr.mono (by decide)) (by rfl) mG kG bG .nil pass0 (pa_cons (pv 0) pa_nil)))
      (pss_cons (ps_expr (pe_call N (hr.mono (by decide)) (by rfl) mN kN bN .nil pass0 (pa_cons (pv 1) (pa_cons pe_int (pa_cons (pe_glob (v := .int 100) (by rfl) m1 ⟨_, rfl⟩) pa_nil)))))
      (pss_cons (ps_set (i := 2) nd rfl (.inl rfl) (pe_call S hr (by rfl) mS kS bS .nil pass0 (pa_cons (pv 0) pa_nil)))
      (pss_cons (ps_set (i := 3) nd rfl (.inl rfl) (pv 2))
      (pss_cons (ps_for (passes_of rfl) rfl (pi_range1 rfl mr (pa_cons (pe_op op_sub (pv 1) pe_int) pa_nil)) (pg_name (i := 4) nd rfl (.inl rfl))
        (pss_one (ps_set (i := 3) nd rfl (.inl rfl) (pe_call R (hr.mono (by decide)) (by rfl) mR kR bR .nil pass0 (pa_cons (pv 3) (pa_cons (pv 2) (pa_cons (pv 0) pa_nil)))))))
      (pss_cons (ps_if (pt_cmpR op_gt (pe_ix ix_tup (pv 3) pe_int (fun _ _ => rfl)) (pe_glob (v := .int (10 ^ 60 * 10 ^ 15)) (by rfl) m2 ⟨_, rfl⟩) (nomark _))
        (pss_one (ps_raiseE rfl Z hr (takes_of rfl rfl rfl rfl) (by exact (pa_cons (pe_ix ix_tup (pv 3) pe_int (fun _ _ => rfl)) pa_nil)))) pss_nil)
      (pss_one (ps_ret (pv 3)))))))), ?_⟩
    refine ⟨.int D, rfl, D, v, rfl, kn.dw, .int n, rfl, n, 1, 100, rfl, by omega, by omega, ?_⟩
    refine ⟨.int D, rfl, D, v, r, p, ls, T, U, t, u, rfl, kn, fun H1 q1 s1 h1 => ?_⟩
    refine ⟨.ref q1, rfl, .int n, rfl, n, 1, rfl, rfl, _, rfl, by omega, by omega, ?_⟩
    have d5 := kn.d5
    have dt := kn.dt
    have D1 : D < 2 ^ 10 := Int.lt_of_le_of_lt dt (by decide)
    have bd := pw_bd (D := D) (T := T) (U := U) (by omega) D1 (by have := kn.T3; omega) kn.Tb (by have := kn.U1; omega) kn.Ub
    have en : ((n : Int) - 1).toNat = n - 1 := by omega
    rw [en]
    refine for_range (n := n - 1) (fun i σ H' => Same H1 H' ∧ ∃ (q2 : Addr) (x : Option V), σ = [some (.int D), some (.int n), some (.ref q1), some (.ref q2), x] ∧ H' q2 = some (.tup (two (pw D T U (i + 1)).1 (pw D T U (i + 1)).2)))
      ⟨.refl _, q1, none, rfl, by rw [pw_one]; exact h1⟩ ?_ ?_
    · rintro i σ H' hi ⟨sm, q2, x, rfl, h2⟩
      obtain ⟨a0, a1, b0, b1⟩ := bd (i + 1)
      have m1 := pow_mono (show 131 * (i + 1) + 2 ≤ 20000 by omega)
      have m2 := pow_mono (show 120 ≤ 20000 by decide)
      have Tb := kn.Tb
      have Ub := kn.Ub
      refine ⟨.ref q2, rfl, .ref q1, rfl, .int D, rfl, q2, q1, _, _, T, U, D, 20000, rfl, h2, sm _ _ h1, a0, Int.lt_of_lt_of_le a1 m1, b0, Int.lt_of_lt_of_le b1 m1, by have := kn.T3; omega, Int.lt_of_lt_of_le Tb m2, by have := kn.U1; omega, Int.lt_of_lt_of_le Ub m2, by omega, D1, by decide, by decide, fun q3 n3 => ?_⟩
      exact ⟨sm.trans (same_new n3), q3, _, rfl, upd_same⟩
    · rintro σ H' ⟨sm, q2, x, rfl, h2⟩
      rw [show n - 1 + 1 = n by omega] at h2
      have t2 : SqT K H' q2 (two (pw D T U n).1 (pw D T U n).2) := .inl (.inl h2)
      have e75 : ((10 : Int) ^ 60 * 10 ^ 15) = 10 ^ 75 := by decide +kernel
      refine ⟨.ref q2, rfl, q2, _, 0, .int (pw D T U n).1, rfl, rfl, t2, rfl, _, _, rfl, rfl, _, rfl, ite2 (fun z => ?_) (fun z => ?_)⟩
      · have hz : 10 ^ 75 < (pw D T U n).1 := by have : ((10 : Int) ^ 60 * 10 ^ 15) < (pw D T U n).1 := of_decide_eq_true z; rw [e75] at this; exact this
        exact ⟨.ref q2, rfl, q2, _, 0, .int (pw D T U n).1, rfl, rfl, t2, rfl, _, rfl, fun d nd => qe hz _ d (s1.trans (sm.trans (same_new nd))) upd_same⟩
      · have hz : (pw D T U n).1 ≤ 10 ^ 75 := by
          have : ¬ ((10 : Int) ^ 60 * 10 ^ 15) < (pw D T U n).1 := fun y => z (decide_eq_true y)
          rw [e75] at this
          exact Int.not_lt.mp this
        exact ⟨.ref q2, rfl, qq hz _ q2 (s1.trans sm) h2⟩
end
end K54

namespace K54
open PySem PySem.Spec PyProof.Rows L2
/-- a well at c -/
def WB (H : Hp) (c : Addr) (B : Nat) : Prop := ∃ m a n : Int, H c = some (.lst [.int m, .int a, .int n]) ∧ 0 ≤ m ∧ m < 2 ^ 40 ∧ 0 ≤ a ∧ 0 ≤ n ∧ n < B
/-- all but c stands -/
def But (c : Addr) (H H' : Hp) : Prop := ∀ b o, b ≠ c → H b = some o → H' b = some o
theorem But.refl {c : Addr} {H : Hp} : But c H H := fun _ _ _ e => e
theorem But.trans {c : Addr} {H H1 H2 : Hp} (h : But c H H1) (h' : But c H1 H2) : But c H H2 := fun b o n e => h' b o n (h b o n e)
theorem But.same {c : Addr} {H H1 : Hp} (h : Same H H1) : But c H H1 := fun b o _ e => h b o e
theorem But.put {c : Addr} {H : Hp} {o : HO} : But c H (upd H c o) := fun b x n e => (upd_ne n).trans e
theorem But.new {c p : Addr} {H : Hp} {o : HO} (h : H p = none) : But c H (upd H p o) := But.same (same_new h)
theorem WB.mono {H : Hp} {c : Addr} {B B' : Nat} (h : WB H c B) (l : B ≤ B') : WB H c B' := by
  obtain ⟨a, b, n, e, h1, h2, h3, h4, h5⟩ := h
  exact ⟨a, b, n, e, h1, h2, h3, h4, by omega⟩
theorem WB.same {H H' : Hp} {c : Addr} {B : Nat} (h : WB H c B) (s : Same H H') : WB H' c B := by
  obtain ⟨a, b, n, e, r⟩ := h
  exact ⟨a, b, n, s _ _ e, r⟩
theorem ne_ite {c A B : Prop} [Decidable c] (h1 : ¬ c → A) (h2 : c → B) : if (!decide c) = true then A else B := by
  by_cases h : c
  · rw [decide_eq_true h]; exact h2 h
  · rw [decide_eq_false h]; exact h1 h
section
variable {P : Program} {w : World} {K : PySem.W.Frag} {mg : Str → Option Value} {base : Heap}
def spWell (K : PySem.W.Frag) : Sp := fun vs H Q _ => ∃ (a : Addr) (ns : List Int) (i : Nat), vs = [.ref a, .int i] ∧ SqL K H a (ns.map V.int) ∧ i ≤ 5 ∧ ns.length ≤ 63 ∧ ∀ H' c, Same H H' → H c = none → WB H' c 1 → Q (.ref c) H'
theorem cut4 (ns : List Int) : cutV (ns.map V.int) none (some 4) = (ns.take 4).map V.int := by
  unfold cutV
  rw [show HT.sIx (ns.map V.int).length 0 none = 0 from HT.sIx_none _ _, List.drop_zero, Nat.sub_zero, show HT.sIx (ns.map V.int).length (ns.map V.int).length (some 4) = min 4 (ns.map V.int).length from HT.sIx_nat _ _ 4, List.map_take]
  by_cases h : 4 ≤ (ns.map V.int).length
  · rw [Nat.min_eq_left h]
  · rw [Nat.min_eq_right (by omega), List.take_of_length_le Nat.le.refl, List.take_of_length_le (show _ ≤ 4 by omega)]
theorem ok_well {f : Addr} {fd : FuncData} (F : Fun K "_law_well" "_law_well" sWell f fd) (mi : mg "int" = none) (ml : mg "len" = none) (ma : mg "abs" = none) : FnOk P w K mg base CX0 1 f fd ["_law_script", "_law_k"] (spWell K) := by
  refine F.ok scWell (fun vs H Q E h => ?_) (fun cdv A outer s H vs Q E hr h => ?_)
  · obtain ⟨a, ns, i, rfl, _⟩ := h
    rfl
  · obtain ⟨a, ns, i, rfl, hS, hi, hl, q⟩ := h
    have nd := scWell.nd
    have md : (0 : Int) < 2147483629 := by decide
    obtain ⟨tR, hR, qR⟩ : ∃ t, PSs (cxOf CX0 P w K mg base ["_law_script", "_law_k", "_law_cell", "_law_mixed", "_law_each"] "_law_well" (defScope sWell) f cdv A outer s H E).nox ((defBody sWell).drop 1) t ∧
        ∀ (own : Int) (x3 x4 : Option V), t { nx := fun _ H' => Q .non H', rt := Q } [some (.ref a), some (.int i), some (.int own), x3, x4] H := by
      refine ⟨_, pss_cons (ps_set (i := 3) nd rfl (.inl rfl) (pe_op op_add pe_int (pe_op op_mul pe_int (pv 1))))
        (pss_cons (ps_for PassesOwn.never rfl (pi_list (pe_slice sl_list (pv 0) po_none (po_some pe_int))) (pg_name (i := 4) nd rfl (.inl rfl))
          (pss_one (ps_set (i := 3) nd rfl (.inl rfl) (pe_op op_mod (pe_callTy call_int1 (by rfl) mi boot_int (pa_cons (pe_op op_add (pe_op op_add (pe_op op_mul (pv 3) pe_int) (pe_op op_mod (pe_callTy call_int1 (by rfl) mi boot_int (pa_cons (pv 4) pa_nil)) pe_int)) pe_int) pa_nil)) pe_int))))
        (pss_cons (ps_set (i := 3) nd rfl (.inl rfl) (pe_op op_mod (pe_callTy call_int1 (by rfl) mi boot_int (pa_cons (pe_op op_add (pe_op op_add (pe_op op_mul (pv 3) pe_int) (pe_op op_mod (pe_callTy call_int1 (by rfl) mi boot_int (pa_cons (pv 2) pa_nil)) pe_int)) pe_int) pa_nil)) pe_int))
        (pss_one (ps_ret (pe_lst (pa_cons (pv 3) (pa_cons (pe_ifExp (pt_cmpR op_ge (pe_callB call_abs (by rfl) ma boot_abs (pa_cons (pv 2) pa_nil)) (pe_op op_pow pe_int pe_int) (nomark _)) (pe_callB call_abs (by rfl) ma boot_abs (pa_cons (pv 2) pa_nil)) pe_int) (pa_cons pe_int pa_nil)))))))), ?_⟩
      intro own x3 x4
      refine ⟨.int i, rfl, 7907, i, rfl, rfl, .inl ⟨by decide, by decide⟩, 104729, _, rfl, rfl, .ref a, rfl, 4, rfl, a, _, rfl, hS, fun l nl => ?_⟩
      have sm := same_new (o := .lst (cutV (ns.map V.int) none (some 4))) nl
      have hL : SqL K (upd H l (.lst (cutV (ns.map V.int) none (some 4)))) l ((ns.take 4).map V.int) := by
        rw [← cut4]
        exact .inl (.inl upd_same)
      refine ⟨l, rfl, ⟨_, hL⟩, for_list (xs := (ns.take 4).map V.int) (fun j σ H' => H' = upd H l (.lst (cutV (ns.map V.int) none (some 4))) ∧ ∃ (mx : Int) (x4 : Option V), σ = [some (.ref a), some (.int i), some (.int own), some (.int mx), x4] ∧ 0 ≤ mx ∧ mx < 2147483629)
        ⟨rfl, 104729 + 7907 * i, x4, rfl, by omega, by omega⟩ (fun j σ H' _ hP => hP.1 ▸ hL) ?_ ?_⟩
      · rintro j x σ H' hx ⟨rfl, mx, x3, rfl, m0, m1⟩
        rw [List.getElem?_map] at hx
        obtain ⟨v, hv, rfl⟩ := Option.map_eq_some_iff.mp hx
        refine ⟨.int mx, rfl, mx, 48271, rfl, rfl, .inr ⟨by decide, by decide⟩, .int v, rfl, .inl ⟨_, rfl, v, 2147483587, rfl, rfl, (by show (0 : Int) < 2147483587; decide), _, _, rfl, rfl, _, 13, rfl, rfl, .inl ⟨_, rfl, _, 2147483629, rfl, rfl, md, rfl, _, some (.int v), rfl, Int.emod_nonneg _ (by decide), Int.emod_lt_of_pos _ md⟩⟩⟩
      · rintro σ H' ⟨rfl, mx, x3, rfl, m0, m1⟩
        refine ⟨.int mx, rfl, mx, 69621, rfl, rfl, .inr ⟨by decide, by decide⟩, .int own, rfl, .inl ⟨_, rfl, own, 2147483579, rfl, rfl, (by show (0 : Int) < 2147483579; decide), _, _, rfl, rfl, _, 5, rfl, rfl, .inl ⟨_, rfl, _, 2147483629, rfl, rfl, md, ?_⟩⟩⟩
        generalize mx * 69621 + own % 2147483579 + 5 = y
        have y0 : 0 ≤ y % 2147483629 := Int.emod_nonneg _ (by decide)
        have y1 : y % 2147483629 < 2147483629 := Int.emod_lt_of_pos _ md
        have ab : 0 ≤ (if own < 0 then -own else own) := by split <;> omega
        refine ⟨.int (y % 2147483629), rfl, .int own, rfl, own, rfl, 10, 18, rfl, rfl, ⟨by decide, by decide, by decide⟩, _, _, rfl, rfl, _, rfl, ite2 (fun _ => ⟨.int own, rfl, own, rfl, ?_⟩) (fun _ => ?_)⟩
        · exact ⟨l3, fun c nc => q _ c (sm.trans (same_new nc)) (sm.free nc) ⟨_, _, 0, upd_same, y0, by omega, ab, by decide, by decide⟩⟩
        · exact ⟨l3, fun c nc => q _ c (sm.trans (same_new nc)) (sm.free nc) ⟨_, _, 0, upd_same, y0, by omega, Int.le_refl 0, by decide, by decide⟩⟩
    refine ⟨_, pss_cons (ps_set (i := 2) nd rfl (.inl rfl) (pe_ifExp (pt_cmpR op_lt (pv 1) (pe_callB call_len_seq (by rfl) ml PySem.boot_len (pa_cons (pv 0) pa_nil)) (nomark _)) (pe_ix ix_list (pv 0) (pv 1) (fun _ _ => rfl)) pe_int)) hR, ?_⟩
    refine ⟨.int i, rfl, .ref a, rfl, a, _, rfl, .inl hS, i, _, rfl, rfl, _, rfl, ite2 (fun z => ?_) (fun z => ?_)⟩
    · have hlt : (i : Int) < ((ns.map V.int).length : Nat) := of_decide_eq_true z
      have hlt2 : i < ns.length := by rw [List.length_map] at hlt; omega
      refine ⟨.ref a, rfl, .int i, rfl, a, _, i, .int ns[i], rfl, rfl, hS, atI_nat ?_, qR _ _ _⟩
      rw [List.getElem?_map, List.getElem?_eq_getElem hlt2]
      rfl
    · exact qR _ _ _
def spDip : Sp := fun vs H Q _ => ∃ (c : Addr) (m : Int) (B : Nat), vs = [.ref c, .int m] ∧ 0 < m ∧ m < 1073741824 ∧ WB H c B ∧ B ≤ 1000000 ∧ ∀ H' r, 0 ≤ r → r < m → But c H H' → WB H' c (B + 1) → Q (.int r) H'
theorem ok_dip {f : Addr} {fd : FuncData} (F : Fun K "_law_dip" "_law_dip" sDip f fd) (mi : mg "int" = none) (md : mg "divmod" = none) : FnOk P w K mg base CX0 1 f fd ["_law_well_here", "_law_much"] spDip := by
  refine F.ok scDip (fun vs H Q E h => ?_) (fun cdv A outer s H vs Q E hr h => ?_)
  · obtain ⟨c, m, B, rfl, _⟩ := h
    rfl
  · obtain ⟨c, m, B, rfl, m0, mb, ⟨b, a, n, hc, b0, b1, a0, n0, n1⟩, hB, q⟩ := h
    have nd := scDip.nd
    refine ⟨_, pss_cons (ps_if (pt_cmpR op_gt (pe_ix ix_list (pv 0) pe_int (fun _ _ => rfl)) pe_int (nomark _))
        (pss_cons (ps_asg (pe_callB call_divmod (by rfl) md boot_divmod (pa_cons (pe_ix ix_list (pv 0) pe_int (fun _ _ => rfl)) (pa_cons (pv 1) pa_nil)))
            (pg_tup rfl (pgs_cons (pg_sub (pv 0) pe_int set_list) (pgs_cons (pg_name (i := 2) nd rfl (.inl rfl)) pgs_nil))))
        (pss_one (ps_ret (pv 2)))) pss_nil)
      (pss_cons (ps_asg (pe_op op_add (pe_ix ix_list (pv 0) pe_int (fun _ _ => rfl)) pe_int) (pg_sub (pv 0) pe_int set_list))
      (pss_cons (ps_asg (pe_op op_mod (pe_callTy call_int1 (by rfl) mi boot_int (pa_cons (pe_op op_add (pe_op op_add (pe_op op_mul (pe_ix ix_list (pv 0) pe_int (fun _ _ => rfl)) pe_int)
          (pe_op op_mul (pe_op op_mul pe_int (pe_ix ix_list (pv 0) pe_int (fun _ _ => rfl))) (pe_ix ix_list (pv 0) pe_int (fun _ _ => rfl)))) pe_int) pa_nil)) pe_int) (pg_sub (pv 0) pe_int set_list))
      (pss_one (ps_ret (pe_op op_mod (pe_callTy call_int1 (by rfl) mi boot_int (pa_cons (pe_op op_fdiv (pe_ix ix_list (pv 0) pe_int (fun _ _ => rfl)) pe_int) pa_nil)) (pv 1)))))), ?_⟩
    have q1 : SqL K H c [.int b, .int a, .int n] := .inl (.inl hc)
    refine ⟨.ref c, rfl, c, _, 1, .int a, rfl, rfl, q1, rfl, a, 0, rfl, rfl, _, rfl, ite2 (fun z => ?_) (fun z => ?_)⟩
    · refine ⟨.ref c, rfl, c, _, 1, .int a, rfl, rfl, q1, rfl, .int m, rfl, a, m, rfl, ⟨m0, mb⟩, fun p np => ?_⟩
      have pc : c ≠ p := ne_of_none hc np
      refine ⟨p, _, rfl, .inl (.inl upd_same), rfl, _, _, rfl, .ref c, rfl, c, [.int b, .int a, .int n], 1, 1, rfl, rfl, (upd_ne pc).trans hc, rfl, _, _, rfl, rfl, ?_⟩
      refine ⟨.int (a % m), rfl, q _ _ (Int.emod_nonneg _ (by omega)) (Int.emod_lt_of_pos _ m0) ((But.new np).trans But.put) ⟨b, a / m, n, upd_same, b0, b1, Int.ediv_nonneg a0 (by omega), n0, by omega⟩⟩
    · refine ⟨.ref c, rfl, c, _, 2, .int n, rfl, rfl, q1, rfl, n, 1, rfl, rfl, .ref c, rfl, c, [.int b, .int a, .int n], 2, 2, rfl, rfl, hc, rfl, ?_⟩
      have q2 : SqL K (upd H c (.lst [.int b, .int a, .int (n + 1)])) c [.int b, .int a, .int (n + 1)] := .inl (.inl upd_same)
      refine ⟨.ref c, rfl, c, _, 0, .int b, rfl, rfl, q2, rfl, b, 39373, rfl, rfl, .inr ⟨by decide, by decide⟩, ?_⟩
      refine ⟨.ref c, rfl, c, _, 2, .int (n + 1), rfl, rfl, q2, rfl, 7, n + 1, rfl, rfl, .inl ⟨by decide, by decide⟩, .ref c, rfl, c, _, 2, .int (n + 1), rfl, rfl, q2, rfl, _, n + 1, rfl, rfl, .inr ⟨by omega, by omega⟩, _, _, rfl, rfl, _, 101, rfl, rfl, .inl ⟨_, rfl, _, 2147483629, rfl, rfl, (by show (0 : Int) < 2147483629; decide), ?_⟩⟩
      generalize b * 39373 + 7 * (n + 1) * (n + 1) + 101 = y
      have y0 : 0 ≤ y % 2147483629 := Int.emod_nonneg _ (by decide)
      have y1 : y % 2147483629 < 2147483629 := Int.emod_lt_of_pos _ (by decide)
      refine ⟨.ref c, rfl, c, [.int b, .int a, .int (n + 1)], 0, 0, rfl, rfl, upd_same, rfl, ?_⟩
      refine ⟨.ref c, rfl, c, [.int (y % 2147483629), .int a, .int (n + 1)], 0, .int (y % 2147483629), rfl, rfl, .inl (.inl upd_same), rfl, _, 64, rfl, rfl, ⟨by decide, by decide⟩, .inl ⟨_, rfl, .int m, rfl, _, m, rfl, rfl, m0, ?_⟩⟩
      exact q _ _ (Int.emod_nonneg _ (by omega)) (Int.emod_lt_of_pos _ m0) (But.put.trans But.put) ⟨y % 2147483629, a, n + 1, upd_same, y0, by omega, a0, by omega, by omega⟩
/-! ### the law's own root -/
def spRoot : Sp := fun vs H Q _ => ∃ n r : Int, vs = [.int n] ∧ Rt n r ∧ n < 2 ^ 40 ∧ ∀ H', Same H H' → Q (.int r) H'
theorem ok_root {f : Addr} {fd : FuncData} (F : Fun K "_law_root" "_law_root" sRoot f fd) : FnOk P w K mg base CX0 1 f fd ["_law_value"] spRoot := by
  refine F.ok scRoot (fun vs H Q E h => ?_) (fun cdv A outer s H vs Q E hr h => ?_)
  · obtain ⟨n, r, rfl, _⟩ := h
    rfl
  · obtain ⟨n, r, rfl, ⟨r0, h1, h2⟩, nb, q⟩ := h
    have nd := scRoot.nd
    refine ⟨_, pss_cons (ps_asg (pe_tup (pa_cons pe_int (pa_cons pe_int pa_nil))) (pg_tup rfl (pgs_cons (pg_name (i := 1) nd rfl (.inl rfl)) (pgs_cons (pg_name (i := 2) nd rfl (.inl rfl)) pgs_nil))))
      (pss_cons (ps_while PassesOwn.never (pt_cmpR op_le (pe_op op_mul (pv 2) (pv 2)) (pv 0) (nomark _)) (pss_one (ps_set (i := 2) nd rfl (.inl rfl) (pe_op op_mul pe_int (pv 2)))))
      (pss_cons (ps_while PassesOwn.never (pt_cmpR op_gt (pv 2) pe_int (nomark _))
        (pss_cons (ps_if (pt_cmpR op_le (pe_op op_mul (pe_op op_add (pv 1) (pv 2)) (pe_op op_add (pv 1) (pv 2))) (pv 0) (nomark _)) (pss_one (ps_set (i := 1) nd rfl (.inl rfl) (pe_op op_add (pv 1) (pv 2)))) pss_nil)
        (pss_one (ps_set (i := 2) nd rfl (.inl rfl) (pe_op op_fdiv (pv 2) pe_int)))))
      (pss_one (ps_ret (pv 1))))), ?_⟩
    have n0 : 0 ≤ n := Int.le_trans (Int.mul_nonneg r0 r0) h1
    have fin : ∀ f0 : Int, 0 ≤ f0 → f0 * f0 ≤ n → n < (f0 + 1) * (f0 + 1) → ∀ H', Same H H' → Q (.int f0) H' := fun f0 a b c => by rw [sq_one a r0 b c h1 h2]; exact q
    refine ⟨l2, fun t nt => ⟨t, _, rfl, .inl (.inl upd_same), rfl, _, _, rfl, _, _, rfl, rfl, ?_⟩⟩
    have st0 := same_new (o := .tup [.int 0, .int 1]) nt
    generalize upd H t (.tup [.int 0, .int 1]) = H0 at *
    refine ⟨fun m σ H' => H' = H0 ∧ ∃ i : Nat, σ = [some (.int n), some (.int 0), some (.int (2 ^ i))] ∧ m + i = 20, ⟨20, rfl, 0, rfl, rfl⟩, fun m σ H' hW => ?_⟩
    obtain ⟨rfl, i, rfl, hm⟩ := hW
    have pi0 : (0 : Int) < 2 ^ i := two_pow_pos i
    have pib : (2 : Int) ^ i ≤ 2 ^ 20 := pow_mono (by omega)
    have e20 : (2 : Int) ^ 20 = 1048576 := by decide
    rw [e20] at pib
    refine ⟨.int (2 ^ i), rfl, .int (2 ^ i), rfl, 2 ^ i, 2 ^ i, rfl, rfl, .inl ⟨by omega, by omega⟩, .int n, rfl, _, n, rfl, rfl, _, rfl, ite2 (fun z => ?_) (fun z => ?_)⟩
    · have hz : (2 : Int) ^ i * 2 ^ i ≤ n := of_decide_eq_true z
      have i20 : i < 20 := by
        by_cases c : i < 20
        · exact c
        · exfalso
          have e : i = 20 := by omega
          subst e
          have : (2 : Int) ^ 20 * 2 ^ 20 = 2 ^ 40 := by decide
          omega
      refine ⟨fun σ H'' => H'' = H' ∧ σ = [some (.int n), some (.int 0), some (.int (2 ^ (i + 1)))], ?_, ?_⟩
      · rintro σ' H'' ⟨rfl, rfl⟩
        exact ⟨m - 1, by omega, rfl, i + 1, rfl, by omega⟩
      · refine ⟨.int (2 ^ i), rfl, 2, _, rfl, rfl, .inl ⟨by decide, by decide⟩, rfl, ?_⟩
        rw [Int.pow_succ, Int.mul_comm]
        rfl
    · have hz : n < (2 : Int) ^ i * 2 ^ i := by
        have : ¬ ((2 : Int) ^ i * 2 ^ i ≤ n) := fun y => z (decide_eq_true y)
        omega
      refine ⟨fun m σ H'' => H'' = H' ∧ ∃ f0 st : Int, σ = [some (.int n), some (.int f0), some (.int st)] ∧ m = st.toNat ∧ 0 ≤ f0 ∧ f0 * f0 ≤ n ∧ ((st = 0 ∧ n < (f0 + 1) * (f0 + 1)) ∨ ∃ j : Nat, st = 2 ^ j ∧ j ≤ 20 ∧ n < (f0 + 2 * st) * (f0 + 2 * st)), ⟨_, rfl, 0, 2 ^ i, rfl, rfl, by decide, by simpa using n0, .inr ⟨i, rfl, by omega, ?_⟩⟩, fun m σ H'' hW => ?_⟩
      · have := mono_sq (a := 2 ^ i) (b := 0 + 2 * 2 ^ i) (by omega) (by omega)
        omega
      · obtain ⟨rfl, f0, st, rfl, rfl, f00, ff, hst⟩ := hW
        have fb : f0 < 2 ^ 40 := by have := le_sq f00 ff; omega
        refine ⟨.int st, rfl, st, 0, rfl, rfl, _, rfl, ite2 (fun y => ?_) (fun y => ?_)⟩
        · have y' : 0 < st := of_decide_eq_true y
          rcases hst with ⟨e, _⟩ | ⟨j, e, j20, hj⟩
          · omega
          · have sb : st ≤ 1048576 := by
              have : (2 : Int) ^ j ≤ 2 ^ 20 := pow_mono j20
              omega
            have e40 : (2 : Int) ^ 40 = 1099511627776 := by decide
            rw [e40] at fb
            have nxt : ∀ f1 : Int, 0 ≤ f1 → f1 * f1 ≤ n → n < (f1 + st) * (f1 + st) → (st / 2 = 0 ∧ n < (f1 + 1) * (f1 + 1)) ∨ ∃ j : Nat, st / 2 = 2 ^ j ∧ j ≤ 20 ∧ n < (f1 + 2 * (st / 2)) * (f1 + 2 * (st / 2)) := by
              intro f1 _ _ h
              cases j with
              | zero =>
                have e1 : st = 1 := e
                rw [e1] at h ⊢
                exact .inl ⟨by decide, h⟩
              | succ j =>
                have e1 : st = 2 * 2 ^ j := by rw [e, Int.pow_succ, Int.mul_comm]
                have e2 : st / 2 = 2 ^ j := by omega
                rw [e2]
                rw [e1] at h
                exact .inr ⟨j, rfl, by omega, h⟩
            refine ⟨fun σ H3 => H3 = H'' ∧ ∃ f1 : Int, σ = [some (.int n), some (.int f1), some (.int (st / 2))] ∧ 0 ≤ f1 ∧ f1 * f1 ≤ n ∧ n < (f1 + st) * (f1 + st), ?_, ?_⟩
            · rintro σ' H3 ⟨rfl, f1, rfl, a, b, c⟩
              exact ⟨_, by omega, rfl, f1, st / 2, rfl, rfl, a, b, nxt f1 a b c⟩
            · refine ⟨.int f0, rfl, .int st, rfl, f0, st, rfl, rfl, .int f0, rfl, .int st, rfl, f0, st, rfl, rfl, f0 + st, f0 + st, rfl, rfl, .inl ⟨by omega, by omega⟩, .int n, rfl, _, n, rfl, rfl, _, rfl, ite2 (fun x => ?_) (fun x => ?_)⟩
              · have hx : (f0 + st) * (f0 + st) ≤ n := of_decide_eq_true x
                refine ⟨.int f0, rfl, .int st, rfl, f0, st, rfl, rfl, .int st, rfl, st, 2, rfl, rfl, ⟨by decide, by decide⟩, rfl, f0 + st, rfl, by omega, hx, ?_⟩
                have : f0 + st + st = f0 + 2 * st := by omega
                rw [this]
                exact hj
              · have hx : ¬ ((f0 + st) * (f0 + st) ≤ n) := fun y => x (decide_eq_true y)
                exact ⟨.int st, rfl, st, 2, rfl, rfl, ⟨by decide, by decide⟩, rfl, f0, rfl, f00, ff, by omega⟩
        · have y' : ¬ 0 < st := fun h => y (decide_eq_true h)
          rcases hst with ⟨e, hlt⟩ | ⟨j, e, _, _⟩
          · exact ⟨.int f0, rfl, fin f0 f00 ff hlt _ st0⟩
          · have := two_pow_pos j
            omega
end
end K54

namespace K54
open PySem PySem.Spec PyProof.Rows L2
theorem rt_ex {n : Int} (h : 0 ≤ n) : ∃ r, Rt n r := by
  obtain ⟨m, rfl⟩ : ∃ m : Nat, n = m := ⟨n.toNat, by omega⟩
  obtain ⟨s1, s2⟩ := Float64.isqrt_spec m
  refine ⟨(Float64.isqrt m : Nat), Int.natCast_nonneg _, ?_, ?_⟩
  · rw [← Int.natCast_mul]; exact Int.ofNat_le.mpr s1
  · have : (((Float64.isqrt m + 1) * (Float64.isqrt m + 1) : Nat) : Int) = ((Float64.isqrt m : Nat) + 1) * ((Float64.isqrt m : Nat) + 1) := by rw [Int.natCast_mul]; rfl
    rw [← this]
    exact Int.ofNat_lt.mpr s2
theorem Know.tu {D w : Int} {r : Row} {p : Path} {s : Lw} {T U t u : Int} (h : Know D w r p s T U t u) : t < 2 ^ 121 ∧ u < 2 ^ 121 := by
  have t1 := h.t1
  have u1 := h.u1
  have Tb := h.Tb
  have Ub := h.Ub
  have d5 := h.d5
  have T3 := h.T3
  have e : (2 : Int) ^ 121 = 2 * 2 ^ 120 := by decide +kernel
  rw [e]
  generalize (2 : Int) ^ 120 = M at *
  rcases h.ways with ⟨_, a, b, _⟩ | ⟨a, b, _, _⟩
  · omega
  · have h1 : 0 ≤ t * t := Int.mul_nonneg (by omega) (by omega)
    have h2 : u * u ≤ D * u * u := by
      rw [Int.mul_assoc]
      have := Int.mul_le_mul_of_nonneg_right (show 1 ≤ D by omega) (Int.mul_nonneg (show 0 ≤ u by omega) (show 0 ≤ u by omega))
      omega
    have h3 : 0 ≤ u * u := Int.mul_nonneg (by omega) (by omega)
    have h4 := le_sq (r := t) (a := 2 * T) (by omega) (by omega)
    have h5 := le_sq (r := u) (a := 2 * T) (by omega) (by omega)
    omega
theorem okL_of {w ld : Int} {s : Lw} (h : okL w ld s = true) : 0 < s.q ∧ s.q < 1000 ∧ s.p.natAbs < 1000 ∧ (lk w s).natAbs < 1000 ∧ (lT w ld s).natAbs < 2 ^ 200 ∧ (lob w s).natAbs < 2 ^ 200 := by
  unfold okL at h
  simp only [Bool.and_eq_true, decide_eq_true_eq, ab_eq] at h
  obtain ⟨⟨⟨⟨⟨a, b⟩, c⟩, d⟩, e⟩, f⟩ := h
  have e2 : ((2 ^ 200 : Nat) : Int) = (2 : Int) ^ 200 := by rw [Int.natCast_pow]; rfl
  rw [← e2] at e f
  exact ⟨a, b, by omega, by omega, Int.ofNat_lt.mp e, Int.ofNat_lt.mp f⟩
theorem in_two (N : Int) : (([V.int 4, V.int (-4)] : List V).any fun y => eqV y (.int N)) = decide (N = 4 ∨ N = -4) := by
  show (eqV (.int 4) (.int N) || (eqV (.int (-4)) (.int N) || false)) = _
  have e : ∀ a b : Int, eqV (.int a) (.int b) = decide (a = b) := fun a b => by
    first
      | rfl
      | (show (a == b) = _; rfl)
      | (by_cases h : a = b <;> simp [eqV, h])
  rw [e, e]
  by_cases h1 : N = 4
  · subst h1; rfl
  · by_cases h2 : N = -4
    · subst h2; rfl
    · rw [decide_eq_false (fun z => h1 z.symm), decide_eq_false (fun z => h2 z.symm), decide_eq_false (fun z => z.elim h1 h2)]; rfl
/-- what the search finds -/
def Sea (D e : Int) : Option (Int × Nat) → Prop
  | none => ∀ v : Nat, 1 ≤ v → v ≤ 60 → ∀ x : Int, 0 ≤ x → x * x ≠ D * v * v + e
  | some (x, v) => 1 ≤ v ∧ v ≤ 60 ∧ 0 ≤ x ∧ x * x = D * v * v + e ∧ ∀ v' : Nat, 1 ≤ v' → v' < v → ∀ y : Int, 0 ≤ y → y * y ≠ D * v' * v' + e
def oV : Option (Int × Nat) → List V
  | none => []
  | some (x, v) => two x v
theorem sea_ex (D e : Int) : ∃ o, Sea D e o := by
  have key : ∀ n : Nat, (∃ x : Int, ∃ v : Nat, v ≤ n ∧ 1 ≤ v ∧ 0 ≤ x ∧ x * x = D * v * v + e ∧ ∀ v' : Nat, 1 ≤ v' → v' < v → ∀ y : Int, 0 ≤ y → y * y ≠ D * v' * v' + e) ∨ ∀ v : Nat, 1 ≤ v → v ≤ n → ∀ x : Int, 0 ≤ x → x * x ≠ D * v * v + e := by
    intro n
    induction n with
    | zero => exact .inr fun v h1 h2 => by omega
    | succ n ih =>
      rcases ih with ⟨x, v, h1, h2⟩ | h
      · exact .inl ⟨x, v, by omega, h2⟩
      · by_cases z : ∃ x : Int, 0 ≤ x ∧ x * x = D * ((n + 1 : Nat) : Int) * ((n + 1 : Nat) : Int) + e
        · obtain ⟨x, x0, hx⟩ := z
          exact .inl ⟨x, n + 1, Nat.le_refl _, by omega, x0, hx, fun v' a b => h v' a (by omega)⟩
        · refine .inr fun v a b x x0 hx => ?_
          by_cases c : v ≤ n
          · exact h v a c x x0 hx
          · have : v = n + 1 := by omega
            subst this
            exact z ⟨x, x0, hx⟩
  rcases key 60 with ⟨x, v, h1, h2, h3, h4, h5⟩ | h
  · exact ⟨some (x, v), h2, h1, h3, h4, h5⟩
  · exact ⟨none, h⟩
section
variable {P : Program} {w : World} {K : PySem.W.Frag} {mg : Str → Option Value} {base : Heap}
def spWhole : Sp := fun vs H Q _ => ∃ D : Int, vs = [.int D] ∧ 5 ≤ D ∧ D ≤ 1000 ∧ ∀ H', Same H H' → Q (.bl (valid D)) H'
theorem ok_whole {f g : Addr} {fd gd : FuncData} (F : Fun K "_law_is_whole" "_law_is_whole" sWhole f fd) (G : FnOk P w K mg base CX0 1 g gd ["_law_value"] spRoot) (mG : mg "_law_root" = some (.ref g)) (kG : PySem.W.keepIn K (.ref g) = true) (bG : Binds K gd ["_law_value"] []) (mi : mg "int" = none) : FnOk P w K mg base CX0 2 f fd ["_law_whole"] spWhole := by
  refine F.ok scWhole (fun vs H Q E h => ?_) (fun cdv A outer s H vs Q E hr h => ?_)
  · obtain ⟨D, rfl, _⟩ := h
    rfl
  · obtain ⟨D, rfl, d5, dt, q⟩ := h
    obtain ⟨w2, wt, wl, wu⟩ := wok d5 dt
    refine ⟨_, pss_cons (ps_if (PW.pt (pw_or (pt_not (pt_chain op_le op_le (pe_un un_neg pe_int) (pv 0) pe_int)) (pw_or1 (pt_cmpR op_gt (pe_op op_mod (pe_callTy call_int1 (by rfl) mi boot_int (pa_cons (pv 0) pa_nil)) pe_int) pe_int (nomark _))))) (pss_one (ps_ret pe_bl)) pss_nil)
      (pss_one (ps_ret (pe_or (pe_cmpR op_lt (pv 0) pe_int (nomark _)) (pe_one (pe_cmpR op_ne (pe_op op_mul (pe_call G hr (by rfl) mG kG bG .nil pass0 (pa_cons (pv 0) pa_nil)) (pe_call G hr (by rfl) mG kG bG .nil pass0 (pa_cons (pv 0) pa_nil))) (pv 0) (nomark _)))))), ?_⟩
    have v0 : valid D = (decide (D % 4 < 2) && !(decide (wOf D * wOf D = D))) := by unfold valid; rw [decide_eq_true d5, decide_eq_true dt]; rfl
    refine ⟨100000, rfl, .int D, rfl, -100000, D, rfl, rfl, _, rfl, iteT' (decide_eq_true (by omega)) ⟨D, 1000, rfl, rfl, _, rfl, ?_⟩⟩
    rw [decide_eq_true dt]
    refine iteF ⟨.int D, rfl, .inl ⟨D, rfl, D, 4, rfl, rfl, (by show (0 : Int) < 4; decide), _, 1, rfl, rfl, _, rfl, ite2 (fun z => ?_) (fun z => ?_)⟩⟩
    · have z' : D % 4 > 1 := of_decide_eq_true z
      refine to (q H (Same.refl _)) (congrArg V.bl ?_)
      rw [v0, decide_eq_false (by omega)]
      rfl
    · have z' : ¬ (D % 4 > 1) := fun y => z (decide_eq_true y)
      rw [v0, decide_eq_true (show D % 4 < 2 by omega)] at q
      refine ⟨.int D, rfl, D, 0, rfl, rfl, _, rfl, ?_⟩
      rw [decide_eq_false (show ¬ D < 0 by omega)]
      refine iteF ⟨.int D, rfl, D, wOf D, rfl, ⟨by omega, wl, wu⟩, by omega, fun H1 s1 => ?_⟩
      refine ⟨.int D, rfl, D, wOf D, rfl, ⟨by omega, wl, wu⟩, by omega, fun H2 s2 => ?_⟩
      refine ⟨wOf D, wOf D, rfl, rfl, .inl ⟨by omega, by omega⟩, .int D, rfl, rfl, to (q H2 (s1.trans s2)) (congrArg V.bl ?_)⟩
      by_cases y : wOf D * wOf D = D
      · rw [decide_eq_true y, decide_eq_true (congrArg V.int y)]; rfl
      · rw [decide_eq_false y, decide_eq_false fun e => y (V.int.inj e)]; rfl
def spAbove : Sp := fun vs H Q _ => ∃ (c : Addr) (top : Int) (B : Nat), vs = [.ref c, .int top] ∧ 5 ≤ top ∧ top ≤ 1000 ∧ WB H c B ∧ B ≤ 100000 ∧ ∀ H' D, valid D = true → But c H H' → WB H' c (B + 40) → Q (.int D) H'
theorem ok_above {f g g2 : Addr} {fd gd gd2 : FuncData} (F : Fun K "_law_above" "_law_above" sAbove f fd) (G : FnOk P w K mg base CX0 1 g gd ["_law_well_here", "_law_much"] spDip) (mG : mg "_law_dip" = some (.ref g)) (kG : PySem.W.keepIn K (.ref g) = true) (bG : Binds K gd ["_law_well_here", "_law_much"] [])
    (S : FnOk P w K mg base CX0 2 g2 gd2 ["_law_whole"] spWhole) (mS : mg "_law_is_whole" = some (.ref g2)) (kS : PySem.W.keepIn K (.ref g2) = true) (bS : Binds K gd2 ["_law_whole"] []) (mr : mg "range" = none) : FnOk P w K mg base CX0 3 f fd ["_law_well_here", "_law_top"] spAbove := by
  refine F.ok scAbove (fun vs H Q E h => ?_) (fun cdv A outer s H vs Q E hr h => ?_)
  · obtain ⟨c, top, B, rfl, _⟩ := h
    rfl
  · obtain ⟨c, top, B, rfl, t5, tt, hW, hB, q⟩ := h
    have nd := scAbove.nd
    refine ⟨_, pss_cons (ps_for PassesOwn.never rfl (pi_range1 rfl mr (pa_cons pe_int pa_nil)) (pg_name (i := 2) nd rfl (.inl rfl))
        (pss_cons (ps_set (i := 3) nd rfl (.inl rfl) (pe_op op_add pe_int (pe_call G (hr.mono (by decide)) (by rfl) mG kG bG .nil pass0 (pa_cons (pv 0) (pa_cons (pe_op op_sub (pv 1) pe_int) pa_nil)))))
        (pss_one (ps_if (pt_val (pe_call S hr (by rfl) mS kS bS .nil pass0 (pa_cons (pv 3) pa_nil))) (pss_one (ps_ret (pv 3))) pss_nil))))
      (pss_one (ps_ret pe_int)), ?_⟩
    refine ⟨40, rfl, by decide, by decide, for_range (n := ((40 : Int).toNat)) (fun i σ H' => But c H H' ∧ WB H' c (B + i) ∧ ∃ x2 x3, σ = [some (.ref c), some (.int top), x2, x3]) ⟨.refl, hW, _, _, rfl⟩ ?_ ?_⟩
    · rintro i σ H1 hi ⟨bt, wb, x2, x3, rfl⟩
      have hi' : i < 40 := hi
      refine ⟨.ref c, rfl, .int top, rfl, top, 4, rfl, rfl, c, top - 4, B + i, rfl, by omega, by omega, wb, by omega, fun H2 r r0 r1 bt2 wb2 => ⟨5, r, rfl, rfl, ?_⟩⟩
      refine ⟨.int (5 + r), rfl, 5 + r, rfl, by omega, by omega, fun H3 s3 => ⟨_, rfl, ?_⟩⟩
      have bt3 := bt.trans (bt2.trans (But.same s3))
      cases z : valid (5 + r) with
      | true => exact iteT ⟨.int (5 + r), rfl, q _ _ z bt3 ((wb2.same s3).mono (by omega))⟩
      | false => exact iteF ⟨bt3, wb2.same s3, _, _, rfl⟩
    · rintro σ H1 ⟨bt, wb, x2, x3, rfl⟩
      exact q _ 12 (by decide +kernel) bt wb
def spPair : Sp := fun vs H Q _ => ∃ (D v : Int) (r : Row) (p : Path) (s : Lw) (T U t u : Int), vs = [.int D] ∧ Know D v r p s T U t u ∧ ∀ H' q, Same H H' → H' q = some (.tup (two t u)) → Q (.ref q) H'
theorem ok_pair {f g : Addr} {fd gd : FuncData} (F : Fun K "_law_pair" "_law_pair" sPair f fd) (G : FnOk P w K mg base CX0 1 g gd ["_law_value"] spRoot) (mG : mg "_law_root" = some (.ref g)) (kG : PySem.W.keepIn K (.ref g) = true) (bG : Binds K gd ["_law_value"] []) (mi : mg "int" = none) (mr : mg "range" = none) : FnOk P w K mg base CX0 2 f fd ["_law_whole"] spPair := by
  refine F.ok scPair (fun vs H Q E h => ?_) (fun cdv A outer s H vs Q E hr h => ?_)
  · obtain ⟨D, v, r, p, s, T, U, t, u, rfl, _⟩ := h
    rfl
  · obtain ⟨D, v, r, p, sF, T, U, t, u, rfl, kn, q⟩ := h
    have nd := scPair.nd
    have d5 := kn.d5
    have dt := kn.dt
    have w2 := kn.w2
    have wt := kn.wt
    have rt := kn.dw.rt
    refine ⟨_, pss_cons (ps_set (i := 1) nd rfl (.inl rfl) (pe_call G hr (by rfl) mG kG bG .nil pass0 (pa_cons (pv 0) pa_nil)))
      (pss_cons (ps_set (i := 1) nd rfl (.inl rfl) (pe_op op_sub (pv 1) (pe_op op_mod (pe_callTy call_int1 (by rfl) mi boot_int (pa_cons (pe_op op_sub (pv 1) (pv 0)) pa_nil)) pe_int)))
      (pss_cons (ps_asg (pe_tup (pa_cons (pv 1) (pa_cons pe_int (pa_cons pe_int (pa_cons pe_int (pa_cons pe_int (pa_cons pe_int pa_nil))))))) (pg_tup rfl (pgs_cons (pg_name (i := 2) nd rfl (.inl rfl)) (pgs_cons (pg_name (i := 3) nd rfl (.inl rfl)) (pgs_cons (pg_name (i := 4) nd rfl (.inl rfl)) (pgs_cons (pg_name (i := 5) nd rfl (.inl rfl)) (pgs_cons (pg_name (i := 6) nd rfl (.inl rfl)) (pgs_cons (pg_name (i := 7) nd rfl (.inl rfl)) pgs_nil))))))))
      (pss_cons (ps_for PassesOwn.never rfl (pi_range1 rfl mr (pa_cons pe_int pa_nil)) (pg_name (i := 8) nd rfl (.inl rfl))
        (pss_cons (ps_set (i := 9) nd rfl (.inl rfl) (pe_op op_fdiv (pe_op op_add (pv 2) (pe_call G hr (by rfl) mG kG bG .nil pass0 (pa_cons (pv 0) pa_nil))) (pv 3)))
        (pss_cons (ps_par (i := 4) (j := 5) rfl nd rfl rfl (by decide) rfl rfl (pa_cons (pe_op op_add (pe_op op_mul (pv 9) (pv 4)) (pv 5)) (pa_cons (pv 4) pa_nil)) (by rfl))
        (pss_cons (ps_par (i := 6) (j := 7) rfl nd rfl rfl (by decide) rfl rfl (pa_cons (pe_op op_add (pe_op op_mul (pv 9) (pv 6)) (pv 7)) (pa_cons (pv 6) pa_nil)) (by rfl))
        (pss_cons (ps_par (i := 10) (j := 11) rfl nd rfl rfl (by decide) rfl rfl (pa_cons (pe_op op_sub (pe_op op_mul pe_int (pv 4)) (pe_op op_mul (pv 1) (pv 6))) (pa_cons (pv 6) pa_nil)) (by rfl))
        (pss_cons (ps_if (pt_cmpR op_in_seq (pe_op op_sub (pe_op op_mulW (pv 10) (pv 10)) (pe_op op_mulW (pe_op op_mul (pv 0) (pv 11)) (pv 11))) (pe_tup (pa_cons pe_int (pa_cons (pe_un un_neg pe_int) pa_nil))) (by rfl))
          (pss_one (ps_ret (pe_tup (pa_cons (pv 10) (pa_cons (pv 11) pa_nil))))) pss_nil)
        (pss_cons (ps_set (i := 2) nd rfl (.inl rfl) (pe_op op_sub (pe_op op_mul (pv 9) (pv 3)) (pv 2)))
        (pss_one (ps_set (i := 3) nd rfl (.inl rfl) (pe_op op_fdiv (pe_op op_sub (pv 0) (pe_op op_mul (pv 2) (pv 2))) (pv 3)))))))))))
      (pss_one (ps_ret (pe_tup (pa_cons pe_int (pa_cons pe_int pa_nil)))))))), ?_⟩
    refine ⟨.int D, rfl, D, v, rfl, rt, by omega, fun H1 s1 => ?_⟩
    refine ⟨.int v, rfl, .int v, rfl, .int D, rfl, v, D, rfl, rfl, .inl ⟨_, rfl, v - D, 2, rfl, rfl, (by show (0 : Int) < 2; decide), v, _, rfl, rfl, ?_⟩⟩
    have hld : leadOf D v = v - (v - D) % 2 := rfl
    have ldb : -64 < leadOf D v ∧ leadOf D v < 64 := by rw [hld]; omega
    refine ⟨.int (leadOf D v), rfl, (by show 6 ≤ sizeLine; decide), fun n nn => ⟨n, _, rfl, .inl (.inl upd_same), rfl, _, _, rfl, _, _, rfl, _, _, rfl, _, _, rfl, _, _, rfl, _, _, rfl, rfl, ?_⟩⟩
    have s2 := same_new (o := .tup [.int (leadOf D v), .int 2, .int 1, .int 0, .int 0, .int 1]) nn
    refine ⟨400, rfl, by decide, by decide, for_range (n := ((400 : Int).toNat)) (fun i σ H' => Same H H' ∧ i ≤ 60 ∧ ∃ (ls : Lw) (x8 x9 x10 x11 : Option V), σ = [some (.int D), some (.int (leadOf D v)), some (.int ls.p), some (.int ls.q), some (.int ls.ot), some (.int ls.tt), some (.int ls.ob), some (.int ls.tb), x8, x9, x10, x11] ∧ goPair (60 - i) D v (leadOf D v) ls = some sF)
      ⟨s1.trans s2, by omega, startL D v, none, none, none, none, rfl, kn.hs⟩ ?_ ?_⟩
    · rintro i σ H2 hi ⟨sm, i60, ls, x8, x9, x10, x11, rfl, hg⟩
      obtain ⟨k, hk⟩ : ∃ k, 60 - i = k + 1 := by
        cases z : 60 - i with
        | zero => rw [z] at hg; cases hg
        | succ k => exact ⟨k, rfl⟩
      rw [hk] at hg
      unfold goPair at hg
      have ho : okL v (leadOf D v) ls = true := by
        cases z : okL v (leadOf D v) ls with
        | true => rfl
        | false => rw [z] at hg; cases hg
      rw [if_pos ho] at hg
      obtain ⟨q0, q1, pb, kb, Tb, Ub⟩ := okL_of ho
      refine ⟨.int ls.p, rfl, .int D, rfl, D, v, rfl, rt, by omega, fun H3 s3 => ⟨ls.p, v, rfl, rfl, .int ls.q, rfl, _, ls.q, rfl, rfl, ⟨q0, by omega⟩, ?_⟩⟩
      refine ⟨.int (lk v ls), rfl, .int ls.ot, rfl, lk v ls, ls.ot, rfl, rfl, .inl ⟨by omega, by omega⟩, .int ls.tt, rfl, _, ls.tt, rfl, rfl, .int ls.ot, rfl, _, _, rfl, ?_⟩
      refine ⟨.int (lk v ls), rfl, .int ls.ob, rfl, lk v ls, ls.ob, rfl, rfl, .inl ⟨by omega, by omega⟩, .int ls.tb, rfl, _, ls.tb, rfl, rfl, .int ls.ob, rfl, _, _, rfl, ?_⟩
      refine ⟨.int (lot v ls), rfl, 2, lot v ls, rfl, rfl, .inl ⟨by decide, by decide⟩, .int (leadOf D v), rfl, .int (lob v ls), rfl, leadOf D v, lob v ls, rfl, rfl, .inl ⟨by omega, by omega⟩, _, _, rfl, rfl, .int (lob v ls), rfl, _, _, rfl, ?_⟩
      have DU : (D * lob v ls).natAbs < 2 ^ 220 := by
        rw [Int.natAbs_mul]
        have a1 : D.natAbs * (lob v ls).natAbs ≤ 1000 * (lob v ls).natAbs := Nat.mul_le_mul_right _ (by omega)
        have a2 : 1000 * (lob v ls).natAbs < 1000 * 2 ^ 200 := by generalize 2 ^ 200 = M at *; omega
        have a3 : 1000 * 2 ^ 200 < 2 ^ 220 := by decide +kernel
        omega
      refine ⟨.int (lT v (leadOf D v) ls), rfl, .int (lT v (leadOf D v) ls), rfl, _, _, rfl, rfl, wide_mul Tb Tb (by decide) (by decide) (by decide), .int D, rfl, .int (lob v ls), rfl, D, lob v ls, rfl, rfl, .inl ⟨by omega, by omega⟩, .int (lob v ls), rfl, D * lob v ls, lob v ls, rfl, rfl, wide_mul DU Ub (by decide) (by decide) (by decide), _, _, rfl, rfl, 4, rfl, l2, fun m nm => ?_⟩
      have s4 := same_new (o := .tup [.int 4, .int (-4)]) nm
      refine ⟨m, _, rfl, .inr (.inl (.inl upd_same)), rfl, rfl, _, rfl, ?_⟩
      have eI : (if false = true then !inV (V.int (lN D v (leadOf D v) ls)) [V.int 4, V.int (-4)] else inV (V.int (lN D v (leadOf D v) ls)) [V.int 4, V.int (-4)]) = decide (lN D v (leadOf D v) ls = 4 ∨ lN D v (leadOf D v) ls = -4) := in_two _
      refine (show (if (if false = true then !inV (V.int (lN D v (leadOf D v) ls)) [V.int 4, V.int (-4)] else inV (V.int (lN D v (leadOf D v) ls)) [V.int 4, V.int (-4)]) = true then _ else _) from ?_)
      rw [eI]
      have sm4 := sm.trans (s3.trans s4)
      refine ite2 (fun z => ?_) (fun z => ?_)
      · rw [if_pos (of_decide_eq_true z)] at hg
        cases hg
        refine ⟨.int (lT v (leadOf D v) sF), rfl, .int (lob v sF), rfl, l2, fun n5 nn5 => q _ n5 (sm4.trans (same_new nn5)) ?_⟩
        rw [upd_same, kn.et, kn.eu]
        rfl
      · rw [if_neg fun y => z (decide_eq_true y)] at hg
        have kq : (lk v ls * ls.q).natAbs ≤ 1000000 := by
          rw [Int.natAbs_mul]
          exact Nat.mul_le_mul (show (lk v ls).natAbs ≤ 1000 by omega) (show ls.q.natAbs ≤ 1000 by omega)
        refine ⟨.int (lk v ls), rfl, .int ls.q, rfl, lk v ls, ls.q, rfl, rfl, .inl ⟨by omega, by omega⟩, .int ls.p, rfl, _, ls.p, rfl, rfl, ?_⟩
        refine ⟨.int D, rfl, .int (lk v ls * ls.q - ls.p), rfl, .int (lk v ls * ls.q - ls.p), rfl, _, _, rfl, rfl, .inl ⟨by omega, by omega⟩, D, _, rfl, rfl, .int ls.q, rfl, _, ls.q, rfl, rfl, ⟨q0, by omega⟩, ?_⟩
        have i59 : i + 1 ≤ 60 := by omega
        have ek : 60 - (i + 1) = k := by omega
        exact ⟨sm4, i59, lnext D v ls, _, _, _, _, rfl, by rw [ek]; exact hg⟩
    · rintro σ H2 ⟨sm, i60, _⟩
      exact absurd i60 (by decide)
end
end K54

namespace K54
open PySem PySem.Spec PyProof.Rows L2
theorem next_sq {x : Int} (h : 0 ≤ x) : x * x < (x + 1) * (x + 1) := by
  have h2 : (x + 1) * (x + 1) = x * x + x + x + 1 := by rw [Int.add_mul, Int.mul_add, Int.one_mul, Int.mul_one]; omega
  omega
theorem natAbs_lt {x : Int} {n : Nat} (h0 : 0 ≤ x) (h : x < 2 ^ n) : x.natAbs < 2 ^ n := nb h0 h
theorem du_lt {D u : Int} (d5 : 5 ≤ D) (dt : D ≤ 1000) (u1 : 1 ≤ u) (ub : u < 2 ^ 121) : 0 ≤ D * u ∧ D * u < 2 ^ 131 := by
  refine ⟨Int.mul_nonneg (by omega) (by omega), ?_⟩
  have := mul_lt_pow (x := D) (y := u) (a := 10) (b := 121) (by omega) (Int.lt_of_le_of_lt dt (by decide)) (by omega) ub
  exact this
section
variable {P : Program} {w : World} {K : PySem.W.Frag} {mg : Str → Option Value} {base : Heap}
theorem ok_unit {f g : Addr} {fd gd : FuncData} (F : Fun K "_law_unit" "_law_unit" sUnit f fd) (G : FnOk P w K mg base CX0 2 g gd ["_law_whole"] spPair) (mG : mg "_law_pair" = some (.ref g)) (kG : PySem.W.keepIn K (.ref g) = true) (bG : Binds K gd ["_law_whole"] []) : FnOk P w K mg base CX0 3 f fd ["_law_whole"] spUnitOf := by
  refine F.ok scUnit (fun vs H Q E h => ?_) (fun cdv A outer s H vs Q E hr h => ?_)
  · obtain ⟨D, v, r, p, s, T, U, t, u, rfl, _⟩ := h
    rfl
  · obtain ⟨D, v, r, p, ls, T, U, t, u, rfl, kn, q⟩ := h
    have nd := scUnit.nd
    have d5 := kn.d5
    have dt := kn.dt
    have t1 := kn.t1
    have u1 := kn.u1
    obtain ⟨tb, ub⟩ := kn.tu
    obtain ⟨du0, du1⟩ := du_lt d5 dt u1 ub
    refine ⟨_, pss_cons (ps_asg (pe_call G hr (by rfl) mG kG bG .nil pass0 (pa_cons (pv 0) pa_nil)) (pg_tup rfl (pgs_cons (pg_name (i := 1) nd rfl (.inl rfl)) (pgs_cons (pg_name (i := 2) nd rfl (.inl rfl)) pgs_nil))))
      (pss_cons (ps_if (pt_cmpR op_eq (pe_op op_sub (pe_op op_mulW (pv 1) (pv 1)) (pe_op op_mulW (pe_op op_mul (pv 0) (pv 2)) (pv 2))) pe_int (nomark _)) (pss_one (ps_ret (pe_tup (pa_cons (pv 1) (pa_cons (pv 2) pa_nil))))) pss_nil)
      (pss_one (ps_ret (pe_tup (pa_cons (pe_op op_fdiv (pe_op op_add (pe_op op_mulW (pv 1) (pv 1)) (pe_op op_mulW (pe_op op_mul (pv 0) (pv 2)) (pv 2))) pe_int) (pa_cons (pe_op op_mulW (pv 1) (pv 2)) pa_nil)))))), ?_⟩
    refine ⟨.int D, rfl, D, v, r, p, ls, T, U, t, u, rfl, kn, fun H1 q1 s1 h1 => ⟨q1, _, rfl, .inl (.inl h1), rfl, _, _, rfl, _, _, rfl, rfl, ?_⟩⟩
    have wt : CMulW t t := wm (by omega) tb (by omega) tb (by decide) (by decide) (by decide)
    have wu : CMulW (D * u) u := wm du0 du1 (by omega) ub (by decide) (by decide) (by decide)
    have wtu : CMulW t u := wm (by omega) tb (by omega) ub (by decide) (by decide) (by decide)
    refine ⟨.int t, rfl, .int t, rfl, t, t, rfl, rfl, wt, .int D, rfl, .int u, rfl, D, u, rfl, rfl, .inl ⟨by omega, by omega⟩, .int u, rfl, D * u, u, rfl, rfl, wu, _, _, rfl, rfl, rfl, _, rfl, ite2 (fun z => ?_) (fun z => ?_)⟩
    · have hz : t * t - D * u * u = 4 := V.int.inj (of_decide_eq_true z)
      refine ⟨.int t, rfl, .int u, rfl, l2, fun n nn => q _ n (s1.trans (same_new nn)) ?_⟩
      rw [upd_same]
      rcases kn.ways with ⟨_, e1, e2, _⟩ | ⟨e, _⟩
      · rw [e1, e2]; rfl
      · omega
    · have hz : ¬ (t * t - D * u * u = 4) := fun y => z (decide_eq_true (congrArg V.int y))
      refine ⟨.int t, rfl, .int t, rfl, t, t, rfl, rfl, wt, .int D, rfl, .int u, rfl, D, u, rfl, rfl, .inl ⟨by omega, by omega⟩, .int u, rfl, D * u, u, rfl, rfl, wu, _, _, rfl, rfl, _, 2, rfl, rfl, ⟨by decide, by decide⟩, .int t, rfl, .int u, rfl, t, u, rfl, rfl, wtu, l2, fun n nn => q _ n (s1.trans (same_new nn)) ?_⟩
      rw [upd_same]
      rcases kn.ways with ⟨e, _⟩ | ⟨_, e1, e2, _⟩
      · exact absurd e hz
      · have e3 : (t * t + D * u * u) / 2 = T := by omega
        show some (HO.tup [V.int ((t * t + D * u * u) / 2), V.int (t * u)]) = _
        rw [e3, ← e2]
        rfl
def spSea : Sp := fun vs H Q _ => ∃ (D e : Int) (o : Option (Int × Nat)), vs = [.int D, .int e, .int 60] ∧ 5 ≤ D ∧ D ≤ 1000 ∧ (e = 4 ∨ e = -4) ∧ Sea D e o ∧ ∀ H' q, Same H H' → H' q = some (.tup (oV o)) → Q (.ref q) H'
theorem ok_sea {f g : Addr} {fd gd : FuncData} (F : Fun K "_law_searched" "_law_searched" sSea f fd) (G : FnOk P w K mg base CX0 1 g gd ["_law_value"] spRoot) (mG : mg "_law_root" = some (.ref g)) (kG : PySem.W.keepIn K (.ref g) = true) (bG : Binds K gd ["_law_value"] []) (mr : mg "range" = none) : FnOk P w K mg base CX0 2 f fd ["_law_whole", "_law_end", "_law_most"] spSea := by
  refine F.ok scSea (fun vs H Q E h => ?_) (fun cdv A outer s H vs Q E hr h => ?_)
  · obtain ⟨D, e, o, rfl, _⟩ := h
    rfl
  · obtain ⟨D, e, o, rfl, d5, dt, he, hs, q⟩ := h
    have nd := scSea.nd
    refine ⟨_, pss_cons (ps_for PassesOwn.never rfl (pi_range2 rfl mr (pa_cons pe_int (pa_cons (pe_op op_add (pv 2) pe_int) pa_nil))) (pg_name (i := 3) nd rfl (.inl rfl))
        (pss_cons (ps_set (i := 4) nd rfl (.inl rfl) (pe_op op_add (pe_op op_mul (pe_op op_mul (pv 0) (pv 3)) (pv 3)) (pv 1)))
        (pss_one (ps_if (PW.pt (pw_and (pt_cmpR op_gt (pv 4) pe_int (nomark _)) (pw_and1 (pt_cmpR op_eq (pe_op op_mul (pe_call G hr (by rfl) mG kG bG .nil pass0 (pa_cons (pv 4) pa_nil)) (pe_call G hr (by rfl) mG kG bG .nil pass0 (pa_cons (pv 4) pa_nil))) (pv 4) (nomark _)))))
          (pss_one (ps_ret (pe_tup (pa_cons (pe_call G hr (by rfl) mG kG bG .nil pass0 (pa_cons (pv 4) pa_nil)) (pa_cons (pv 3) pa_nil))))) pss_nil))))
      (pss_one (ps_ret (pe_tup pa_nil))), ?_⟩
    refine ⟨.int 60, rfl, 60, 1, rfl, rfl, 1, 61, rfl, ⟨by decide, by decide, by decide, by decide⟩, for_range (lo := 1) (n := ((61 : Int) - 1).toNat) (fun i σ H' => Same H H' ∧ i ≤ 60 ∧ (∃ x3 x4, σ = [some (.int D), some (.int e), some (.int 60), x3, x4]) ∧ ∀ v : Nat, 1 ≤ v → v ≤ i → ∀ x : Int, 0 ≤ x → x * x ≠ D * v * v + e)
      ⟨.refl _, by decide, ⟨_, _, rfl⟩, fun v h1 h2 => by omega⟩ ?_ ?_⟩
    · rintro i σ H1 hi ⟨sm, i60, ⟨x3, x4, rfl⟩, no⟩
      have hi' : i < 60 := hi
      have ev : (1 : Int) + (i : Int) = ((i + 1 : Nat) : Int) := by omega
      rw [ev]
      generalize hv : i + 1 = v at *
      have v1 : 1 ≤ v := by omega
      have v60 : v ≤ 60 := by omega
      have dv0 : 0 ≤ D * v := Int.mul_nonneg (by omega) (by omega)
      have dv1 : D * v ≤ 60000 := by
        have := Int.mul_le_mul (a := D) (b := (v : Int)) (c := 1000) (d := 60) dt (by omega) (by omega) (by decide)
        omega
      have dvv : D * v * v ≤ 3600000 := by
        have := Int.mul_le_mul (a := D * v) (b := (v : Int)) (c := 60000) (d := 60) dv1 (by omega) (by omega) (by decide)
        omega
      have dv5 : 5 ≤ D * v * v := by
        have a1 : 5 * 1 ≤ D * v := Int.mul_le_mul d5 (by omega) (by decide) (by omega)
        have a2 : 5 * 1 ≤ D * v * v := Int.mul_le_mul (by omega) (by omega) (by decide) dv0
        omega
      obtain ⟨rt, hrt⟩ := rt_ex (n := D * v * v + e) (by omega)
      have sb : D * v * v + e < 2 ^ 40 := by have : (2 : Int) ^ 40 = 1099511627776 := by decide
                                             omega
      have rb : rt < 2 ^ 40 := by have := le_sq hrt.w0 hrt.lo; omega
      have e40 : (2 : Int) ^ 40 = 1099511627776 := by decide
      rw [e40] at rb
      have r0 := hrt.w0
      refine ⟨.int D, rfl, .int v, rfl, D, v, rfl, rfl, .inl ⟨by omega, by omega⟩, .int v, rfl, D * v, v, rfl, rfl, .inl ⟨by omega, by omega⟩, .int e, rfl, _, e, rfl, rfl, ?_⟩
      refine ⟨.int (D * v * v + e), rfl, _, 0, rfl, rfl, _, rfl, iteT' (decide_eq_true (by omega)) ?_⟩
      refine ⟨.int (D * v * v + e), rfl, _, rt, rfl, hrt, sb, fun H2 s2 => ⟨.int (D * v * v + e), rfl, _, rt, rfl, hrt, sb, fun H3 s3 => ⟨rt, rt, rfl, rfl, .inl ⟨by omega, by omega⟩, .int (D * v * v + e), rfl, rfl, _, rfl, ite2 (fun z => ?_) (fun z => ?_)⟩⟩⟩
      · have hz : rt * rt = D * v * v + e := V.int.inj (of_decide_eq_true z)
        refine ⟨.int (D * v * v + e), rfl, _, rt, rfl, hrt, sb, fun H4 s4 => ⟨.int v, rfl, l2, fun n nn => q _ n (sm.trans (s2.trans (s3.trans (s4.trans (same_new nn))))) ?_⟩⟩
        rw [upd_same]
        cases o with
        | none => exact absurd hz (hs v v1 v60 rt r0)
        | some xo =>
          obtain ⟨xo, vo⟩ := xo
          obtain ⟨o1, o2, o3, o4, o5⟩ := hs
          have evo : vo = v := by
            by_cases c : vo < v
            · exact absurd o4 (no vo o1 (by omega) xo o3)
            · by_cases c2 : v < vo
              · exact absurd hz (o5 v v1 c2 rt r0)
              · omega
          subst evo
          have : xo = rt := sq_one o3 r0 (show xo * xo ≤ D * vo * vo + e by omega) (by rw [← o4]; exact next_sq o3) hrt.lo hrt.hi
          rw [this]
          rfl
      · have hz : ¬ rt * rt = D * v * v + e := fun y => z (decide_eq_true (congrArg V.int y))
        refine ⟨sm.trans (s2.trans s3), by omega, ⟨_, _, rfl⟩, fun v' h1 h2 x x0 hx => ?_⟩
        by_cases c : v' ≤ i
        · exact no v' h1 c x x0 hx
        · have : v' = v := by omega
          subst this
          have : x = rt := sq_one x0 r0 (show x * x ≤ D * v' * v' + e by omega) (by rw [← hx]; exact next_sq x0) hrt.lo hrt.hi
          rw [this] at hx
          exact hz hx
    · rintro σ H1 ⟨sm, i60, ⟨x3, x4, rfl⟩, no⟩
      refine ⟨by decide, fun n nn => q _ n (sm.trans (same_new nn)) ?_⟩
      rw [upd_same]
      cases o with
      | none => rfl
      | some xo =>
        obtain ⟨xo, vo⟩ := xo
        obtain ⟨o1, o2, o3, o4, o5⟩ := hs
        exact absurd o4 (no vo o1 o2 xo o3)
end
end K54

namespace K54
open PySem PySem.Spec PyProof.Rows L2
theorem kwLeast {K : PySem.W.Frag} {f : Addr} {fd : FuncData} (F : Fun K "least_unit" "least_unit" sLeast f fd) : KBn K fd ["discriminant"] 0 ["discriminant"] (fun _ ws => [ws.getD 0 .none]) (fun _ zs => [zs.getD 0 .non]) := by
  obtain ⟨_, _, kV, doc, pm, an, cdv, ct, _, rfl, _, _⟩ := F.ex
  refine ⟨fun s us ws X h1 h2 => .of_eq ?_, fun _ rz => ?_⟩
  · match us, ws, h1, h2 with
    | [], [_], _, _ => rfl
  · cases rz with
    | nil => exact .cons rfl .nil
    | cons r1 r2 => exact .cons r1 .nil
theorem kwMinus {K : PySem.W.Frag} {f : Addr} {fd : FuncData} (F : Fun K "least_minus_unit" "least_minus_unit" sMinus f fd) : KBn K fd ["discriminant"] 0 ["discriminant"] (fun _ ws => [ws.getD 0 .none]) (fun _ zs => [zs.getD 0 .non]) := by
  obtain ⟨_, _, kV, doc, pm, an, cdv, ct, _, rfl, _, _⟩ := F.ex
  refine ⟨fun s us ws X h1 h2 => .of_eq ?_, fun _ rz => ?_⟩
  · match us, ws, h1, h2 with
    | [], [_], _, _ => rfl
  · cases rz with
    | nil => exact .cons rfl .nil
    | cons r1 r2 => exact .cons r1 .nil
theorem kwPower {K : PySem.W.Frag} {f : Addr} {fd : FuncData} (F : Fun K "unit_power" "unit_power" sPower f fd) : KBn K fd ["discriminant", "many"] 0 ["many", "discriminant"] (fun _ ws => [ws.getD 1 .none, ws.getD 0 .none]) (fun _ zs => [zs.getD 1 .non, zs.getD 0 .non]) := by
  obtain ⟨_, _, kV, doc, pm, an, cdv, ct, _, rfl, _, _⟩ := F.ex
  refine ⟨fun s us ws X h1 h2 => .of_eq ?_, fun _ rz => ?_⟩
  · match us, ws, h1, h2 with
    | [], [_, _], _, _ => rfl
  · cases rz with
    | nil => exact .cons rfl (.cons rfl .nil)
    | cons r1 r2 =>
      cases r2 with
      | nil => exact .cons rfl (.cons r1 .nil)
      | cons r2 r3 => exact .cons r2 (.cons r1 .nil)
def big75 : TE := tOp (rI CMulW fun i j => .int (i * j)) (tOp (rI CPow fun i j => .int (i ^ j.toNat)) (tC (.int 10)) (tC (.int 50))) (tOp (rI CPow fun i j => .int (i ^ j.toNat)) (tC (.int 10)) (tC (.int 25)))
theorem big_ok : CMulW ((10 : Int) ^ 50) (10 ^ 25) := by show ((10 : Int) ^ 50).natAbs.log2 + ((10 : Int) ^ 25).natAbs.log2 < 1000000; decide +kernel
/-- return isinstance(e, NoAnswer) and due[0] > .. and e.given == due[0] -/
def tsPow (K : PySem.W.Frag) (C CN : Addr) : Addr → Value → Option Addr → TS := fun a cls d =>
  tRet (tAndV (tCB (rIsF K "given" C a cls d) (tCons (tVar 7) (tCons (tC (.ref CN)) tNil)))
    (tAndV (tOp (rI0 fun i j => .bl (decide (j < i))) (tOp (rIxT K) (tVar 4) (tC (.int 0))) big75)
      (tOp rEq (tByE "given" C a cls d (tVar 7)) (tOp (rIxT K) (tVar 4) (tC (.int 0))))))
section
variable {P : Program} {w : World} {K : PySem.W.Frag} {mg : Str → Option Value} {base : Heap} {C CN J : Addr}
structure KnowP (P : Program) (w : World) (K : PySem.W.Frag) (mg : Str → Option Value) (base : Heap) (C CN J fD fP : Addr) (dD dP : FuncData) : Prop where
  Z : TG K mg C J
  X : ExcC K C
  N : mg "NoAnswer" = some (.ref CN)
  kit : PySem.W.kitOne K (.ref C) (.ref CN) = some true
  D : FnOk P w K mg base CX0 1 fD dD ["_law_well_here", "_law_much"] spDip
  mD : mg "_law_dip" = some (.ref fD)
  kD : PySem.W.keepIn K (.ref fD) = true
  bD : Binds K dD ["_law_well_here", "_law_much"] []
  P : FnOk P w K mg base (L2.CX P w) 6 fP dP ["discriminant", "many"] (spPower C)
  mP : mg "unit_power" = some (.ref fP)
  kP : PySem.W.keepIn K (.ref fP) = true
  bP : Binds K dP ["discriminant", "many"] []
  wP : KBn K dP ["discriminant", "many"] 0 ["many", "discriminant"] (fun _ ws => [ws.getD 1 .none, ws.getD 0 .none]) (fun _ zs => [zs.getD 1 .non, zs.getD 0 .non])
  mr : mg "range" = none
  ms : mg "isinstance" = none
def spPowR : Sp := fun vs H Q _ => ∃ (c tb : Addr) (D v : Int) (r : Row) (p : Path) (s : Lw) (T U t u : Int) (B : Nat), vs = [.ref c, .int D, .ref tb] ∧ Know D v r p s T U t u ∧ H tb = some (.tup (two T U)) ∧ WB H c B ∧ B ≤ 900000 ∧ ∀ H', But c H H' → WB H' c (B + 3) → Q (.bl true) H'
theorem ok_powR {f fD fP : Addr} {fd dD dP : FuncData} (F : Fun K "_law_power_right" "_law_power_right" sPowR f fd) (T0 : KnowP P w K mg base C CN J fD fP dD dP) : FnOk P w K mg base CX0 7 f fd ["_law_well_here", "_law_whole", "_law_base"] spPowR := by
  refine F.ok scPowR (fun vs H Q E h => ?_) (fun cdv A outer s H vs Q E hr h => ?_)
  · obtain ⟨c, tb, D, v, r, p, s, T, U, t, u, B, rfl, _⟩ := h
    rfl
  · obtain ⟨c, tb, D, v, r, p, ls, T, U, t, u, B, rfl, kn, hb, hW, hB, q⟩ := h
    have nd := scPowR.nd
    have hu : (A.deeper (envOfC "_law_power_right" (defScope sPowR) s.heap.objs.size f cdv)).units + 64 < cLine := by have := hr.units; omega
    have hr1 := hr.mono (show 1 ≤ 6 by decide)
    have cP := FnOk.calm T0.P
    refine ⟨_, pss_cons (ps_set (i := 3) nd rfl (.inl rfl) (pe_op op_add pe_int (pe_ix ix_list (pe_lst (pa_cons (pe_call T0.D hr1 (by rfl) T0.mD T0.kD T0.bD .nil pass0 (pa_cons (pv 0) (pa_cons pe_int pa_nil))) (pa_cons (pe_call T0.D hr1 (by rfl) T0.mD T0.kD T0.bD .nil pass0 (pa_cons (pv 0) (pa_cons pe_int pa_nil))) pa_nil)))
          (pe_call T0.D hr1 (by rfl) T0.mD T0.kD T0.bD .nil pass0 (pa_cons (pv 0) (pa_cons pe_int pa_nil))) (fun _ _ => rfl))))
      (pss_cons (ps_set (i := 4) nd rfl (.inl rfl) (pe_tup (pa_cons pe_int (pa_cons pe_int pa_nil))))
      (pss_cons (ps_for PassesOwn.never rfl (pi_range1 rfl T0.mr (pa_cons (pv 3) pa_nil)) (pg_name (i := 5) nd rfl (.inl rfl))
        (pss_one (ps_set (i := 4) nd rfl (.inl rfl) (pe_tup (pa_cons (pe_op op_fdiv (pe_op op_add (pe_op op_mulW (pe_ix ix_tup (pv 4) pe_int (fun _ _ => rfl)) (pe_ix ix_tup (pv 2) pe_int (fun _ _ => rfl))) (pe_op op_mulW (pe_op op_mulW (pv 1) (pe_ix ix_tup (pv 4) pe_int (fun _ _ => rfl))) (pe_ix ix_tup (pv 2) pe_int (fun _ _ => rfl)))) pe_int)
          (pa_cons (pe_op op_fdiv (pe_op op_add (pe_op op_mulW (pe_ix ix_tup (pv 4) pe_int (fun _ _ => rfl)) (pe_ix ix_tup (pv 2) pe_int (fun _ _ => rfl))) (pe_op op_mulW (pe_ix ix_tup (pv 4) pe_int (fun _ _ => rfl)) (pe_ix ix_tup (pv 2) pe_int (fun _ _ => rfl)))) pe_int) pa_nil))))))
      (pss_cons (ps_try_as (i := 7) (tb := fun W => tAsg (tCallS (spPower C) (WE W) (tCons (tVar 1) (tCons (tVar 3) tNil))) (gName 6)) (ts := tsPow K C CN) (Wout := fun _ _ _ _ => False) rfl rfl nd rfl rfl ⟨rfl, by decide, .inl T0.Z.at0⟩ takes0
          (fun W pn xe tk _ => pss_one (ps_set (i := 6) nd rfl (.inl rfl) (by exact (pe_callS T0.P hr rfl T0.mP T0.kP T0.bP (fun σ => passAt tk σ) (by exact (pa_cons (pv 1) (pa_cons (pv 3) pa_nil)))))))
          (fun a oe cls d pn hz hf => pss_one (ps_ret (by exact (pe_and (pe_callB (call_isF (y := "given") T0.X hz hf) (by rfl) T0.ms boot_isinstance (by exact (pa_cons (pv 7) (pa_cons (pe_glob (v := .ref CN) (by rfl) T0.N rfl) pa_nil))))
            (pe_and (pe_cmpR op_gt (by exact (pe_ix ix_tup (pv 4) pe_int (fun _ _ => rfl))) (by exact (pe_op op_mulW (pe_op op_pow pe_int pe_int) (pe_op op_pow pe_int pe_int))) (nomark _))
              (pe_one (pe_cmpR op_eq (by exact (pe_byE T0.Z hz hf (pv 7))) (by exact (pe_ix ix_tup (pv 4) pe_int (fun _ _ => rfl))) (nomark _)))))))))
      (pss_one (ps_ret (pe_and (pe_cmpR (op_eqD (X := (cxOf CX0 P w K mg base ["_law_well_here", "_law_whole", "_law_base", "_law_much", "_law_due", "_law_turn", "_law_told", "e"] "_law_power_right" (defScope sPowR) f cdv A outer s H E).nox) hu) (pv 6) (pv 4) (nomark _))
        (pe_and (pe_cmpR op_le (pe_ix ix_tup (pv 4) pe_int (fun _ _ => rfl)) (pe_op op_mulW (pe_op op_pow pe_int pe_int) (pe_op op_pow pe_int pe_int)) (nomark _))
          (pe_one (pe_cmpR (op_eqD (X := (cxOf CX0 P w K mg base ["_law_well_here", "_law_whole", "_law_base", "_law_much", "_law_due", "_law_turn", "_law_told", "e"] "_law_power_right" (defScope sPowR) f cdv A outer s H E).nox) hu) (Gu.pe_callO cP hr (by rfl) T0.mP T0.kP T0.wP pass0 (pk_cons (pv 3) (pk_cons (pv 1) pk_nil))) (pv 4) (nomark _)))))))))), ?_⟩
    refine ⟨.ref c, rfl, c, 6, B, rfl, by decide, by decide, hW, by omega, fun H1 r1 r10 r11 bt1 wb1 => ?_⟩
    refine ⟨.ref c, rfl, c, 100, B + 1, rfl, by decide, by decide, wb1, by omega, fun H2 r2 r20 r21 bt2 wb2 => ⟨l2, fun L nL => ?_⟩⟩
    have sL := same_new (o := .lst [.int r1, .int r2]) nL
    have wb2' := wb2.same sL
    refine ⟨.ref c, rfl, c, 2, B + 2, rfl, by decide, by decide, wb2', by omega, fun H4 r3 r30 r31 bt4 wb4 => ?_⟩
    have nWL : ∀ {H : Hp} {c tb : Addr} {B : Nat} {xs : List V}, WB H c B → H tb = some (.tup xs) → tb ≠ c := by
      rintro H c tb B xs ⟨_, _, _, e, _⟩ h rfl
      rw [e] at h
      cases h
    have Lc : L ≠ c := by
      intro e
      obtain ⟨_, _, _, e2, _⟩ := wb2
      rw [e, e2] at nL
      cases nL
    have hL4 : H4 L = some (.lst [.int r1, .int r2]) := bt4 _ _ Lc upd_same
    have btA : But c H H4 := bt1.trans (bt2.trans ((But.same sL).trans bt4))
    have hb4 : H4 tb = some (.tup (two T U)) := btA _ _ (nWL hW hb) hb
    obtain ⟨m, hm1, hm2, hm3⟩ : ∃ m : Nat, atI ([.int r1, .int r2] : List V) r3 = some (.int m) ∧ m ≤ 99 ∧ (1 : Int) + m = ((m + 1 : Nat) : Int) := by
      rcases (show r3 = 0 ∨ r3 = 1 by omega) with rfl | rfl
      · exact ⟨r1.toNat, by rw [show ((r1.toNat : Nat) : Int) = r1 by omega]; rfl, by omega, by omega⟩
      · exact ⟨r2.toNat, by rw [show ((r2.toNat : Nat) : Int) = r2 by omega]; rfl, by omega, by omega⟩
    refine ⟨L, _, r3, .int m, rfl, rfl, .inl (.inl hL4), hm1, 1, m, rfl, rfl, ?_⟩
    generalize hn : m + 1 = n at *
    refine ⟨l2, fun t0 nt0 => ?_⟩
    have s5 := same_new (o := .tup [.int 2, .int 0]) nt0
    have h5 : (upd H4 t0 (.tup [.int 2, .int 0])) t0 = some (.tup (two (pw D T U 0).1 (pw D T U 0).2)) := upd_same
    generalize upd H4 t0 (.tup [.int 2, .int 0]) = H5 at *
    have d5 := kn.d5
    have dt := kn.dt
    have D1 : D < 2 ^ 10 := Int.lt_of_le_of_lt dt (by decide)
    have T0' : 0 ≤ T := by have := kn.T3; omega
    have U0' : 0 ≤ U := by have := kn.U1; omega
    have bd := pw_bd (D := D) (T := T) (U := U) (by omega) D1 T0' kn.Tb U0' kn.Ub
    have hb5 := s5 _ _ hb4
    refine ⟨.int (1 + m), rfl, 1 + m, rfl, by omega, by omega, ?_⟩
    rw [show ((1 : Int) + m).toNat = n by omega]
    refine for_range (n := n) (fun i σ H' => Same H5 H' ∧ ∃ (td : Addr) (x5 : Option V), σ = [some (.ref c), some (.int D), some (.ref tb), some (.int (1 + m)), some (.ref td), x5, none, none] ∧ H' td = some (.tup (two (pw D T U i).1 (pw D T U i).2)))
      ⟨.refl _, t0, none, rfl, h5⟩ ?_ ?_
    · rintro i σ H6 hi ⟨sm, td, x5, rfl, hd⟩
      obtain ⟨a0, a1, b0, b1⟩ := bd i
      have M1 := pow_mono (show 131 * i + 2 ≤ 20000 by omega)
      have M2 := pow_mono (show 120 ≤ 20000 by decide)
      have a1' := Int.lt_of_lt_of_le a1 M1
      have b1' := Int.lt_of_lt_of_le b1 M1
      have t1' := Int.lt_of_lt_of_le kn.Tb M2
      have u1' := Int.lt_of_lt_of_le kn.Ub M2
      have tD : SqT K H6 td (two (pw D T U i).1 (pw D T U i).2) := .inl (.inl hd)
      have tB : SqT K H6 tb (two T U) := .inl (.inl (sm _ _ hb5))
      have step : (pw D T U (i + 1)) = (((pw D T U i).1 * T + D * (pw D T U i).2 * U) / 2, ((pw D T U i).1 * U + (pw D T U i).2 * T) / 2) := rfl
      generalize (pw D T U i).1 = a at *
      generalize (pw D T U i).2 = b at *
      have k0 : CMulW a T := wm a0 a1' T0' t1' (by decide) (by decide) (by decide)
      have k1 : CMulW D b := wm (by omega) D1 b0 b1' (by decide) (by decide) (by decide)
      have k2 : CMulW (D * b) U := wm (Int.mul_nonneg (by omega) b0) (mul_lt_pow (by omega) D1 b0 b1') U0' u1' (by decide) (by decide) (by decide)
      have k3 : CMulW a U := wm a0 a1' U0' u1' (by decide) (by decide) (by decide)
      have k4 : CMulW b T := wm b0 b1' T0' t1' (by decide) (by decide) (by decide)
      refine ⟨.ref td, rfl, td, _, 0, .int a, rfl, rfl, tD, rfl, .ref tb, rfl, tb, _, 0, .int T, rfl, rfl, tB, rfl, a, T, rfl, rfl, k0, .int D, rfl, .ref td, rfl, td, _, 1, .int b, rfl, rfl, tD, rfl, D, b, rfl, rfl, k1, .ref tb, rfl, tb, _, 1, .int U, rfl, rfl, tB, rfl, D * b, U, rfl, rfl, k2, _, _, rfl, rfl, _, 2, rfl, rfl, ⟨by decide, by decide⟩, ?_⟩
      refine ⟨.ref td, rfl, td, _, 0, .int a, rfl, rfl, tD, rfl, .ref tb, rfl, tb, _, 1, .int U, rfl, rfl, tB, rfl, a, U, rfl, rfl, k3, .ref td, rfl, td, _, 1, .int b, rfl, rfl, tD, rfl, .ref tb, rfl, tb, _, 0, .int T, rfl, rfl, tB, rfl, b, T, rfl, rfl, k4, _, _, rfl, rfl, _, 2, rfl, rfl, ⟨by decide, by decide⟩, l2, fun t7 nt7 => ?_⟩
      refine ⟨sm.trans (same_new nt7), t7, _, rfl, ?_⟩
      rw [upd_same, step]
      rfl
    · rintro σ H6 ⟨sm, td, x5, rfl, hd⟩
      have e75 : ((10 : Int) ^ 50 * 10 ^ 25) = 10 ^ 75 := by decide +kernel
      have bt6 : But c H H6 := btA.trans ((But.same s5).trans (But.same sm))
      have wb6 : WB H6 c (B + 3) := (wb4.same s5).same sm
      have p10 : ∀ k : Int, k = 50 ∨ k = 25 → CPow 10 k := by
        rintro k (rfl | rfl)
        · exact ⟨by decide, by decide, by decide⟩
        · exact ⟨by decide, by decide, by decide⟩
      refine ⟨.int D, rfl, .int (1 + m), rfl, D, v, r, p, ls, T, U, t, u, n, by rw [hm3], by omega, by omega, kn, fun hz H7 d s7 hd7 => ?_, fun hz H7 q7 s7 h7 => ?_⟩
      · refine ⟨true, T0.Z.own, fun _ a ha => ?_, fun z => Bool.noConfusion z⟩
        have tD : SqT K H7 td (two (pw D T U n).1 (pw D T U n).2) := .inl (.inl (s7 _ _ hd))
        refine ⟨.ref a, rfl, .ref CN, .ref CN, true, d, .int (pw D T U n).1, rfl, rfl, rfl, hd7, fun u h => h, T0.kit, true, rfl, iteT ?_⟩
        refine ⟨.ref td, rfl, td, _, 0, .int (pw D T U n).1, rfl, rfl, tD, rfl, 10, 50, rfl, rfl, p10 50 (.inl rfl), 10, 25, rfl, rfl, p10 25 (.inr rfl), (10 : Int) ^ 50, (10 : Int) ^ 25, rfl, rfl, big_ok, _, _, rfl, rfl, _, rfl, iteT' (decide_eq_true (by rw [e75]; exact hz)) ?_⟩
        refine ⟨.ref a, rfl, rfl, rfl, d, .int (pw D T U n).1, rfl, hd7, .ref td, rfl, td, _, 0, .int (pw D T U n).1, rfl, rfl, tD, rfl, rfl, ?_⟩
        refine to (q H7 (bt6.trans (But.same s7)) (wb6.same s7)) (congrArg V.bl ?_)
        rw [decide_eq_true rfl]
      · have hd7 := s7 _ _ hd
        have tD : SqT K H7 td (two (pw D T U n).1 (pw D T U n).2) := .inl (.inl hd7)
        have eqv : PyData.eqv (d2 (pw D T U n).1 (pw D T U n).2) (d2 (pw D T U n).1 (pw D T U n).2) = true := by rw [d2_eqv]; exact decide_eq_true ⟨rfl, rfl⟩
        refine ⟨.ref q7, rfl, .ref td, rfl, _, _, dp2 h7, dp2 hd7, rfl, rfl, _, rfl, iteT' eqv ?_⟩
        refine ⟨.ref td, rfl, td, _, 0, .int (pw D T U n).1, rfl, rfl, tD, rfl, 10, 50, rfl, rfl, p10 50 (.inl rfl), 10, 25, rfl, rfl, p10 25 (.inr rfl), (10 : Int) ^ 50, (10 : Int) ^ 25, rfl, rfl, big_ok, _, _, rfl, rfl, _, rfl, iteT' (decide_eq_true (by rw [e75]; exact hz)) ?_⟩
        refine ⟨.int (1 + m), rfl, .int D, rfl, rfl, D, v, r, p, ls, T, U, t, u, n, by rw [← hm3]; rfl, by omega, by omega, kn, fun hy => absurd hy (Int.not_lt.mpr hz), fun _ H8 q8 s8 h8 => ?_⟩
        refine ⟨.ref td, rfl, _, _, dp2 h8, dp2 (s8 _ _ hd7), rfl, rfl, ?_⟩
        exact to (q H8 (bt6.trans ((But.same s7).trans (But.same s8))) ((wb6.same s7).same s8)) (congrArg V.bl eqv.symm)
end
end K54

namespace K54
open PySem PySem.Spec PyProof.Rows L2
theorem sq_eq {x y : Int} (hx : 0 ≤ x) (hy : 0 ≤ y) (h : x * x = y * y) : x = y :=
  sq_one hx hy (a := x * x) (Int.le_refl _) (next_sq hx) (by omega) (by rw [h]; exact next_sq hy)
theorem sea_is {D e a b : Int} {o : Option (Int × Nat)} (h : Sea D e o) (hb : 1 ≤ b) (ha : 0 ≤ a) (hab : a * a = D * b * b + e) (no : ∀ v : Nat, 1 ≤ v → v ≤ 60 → (v : Int) < b → ∀ x : Int, 0 ≤ x → x * x ≠ D * v * v + e) :
    (b ≤ 60 ∧ o = some (a, b.toNat)) ∨ (60 < b ∧ o = none) := by
  have eb : ((b.toNat : Nat) : Int) = b := by omega
  cases o with
  | none =>
    refine .inr ⟨?_, rfl⟩
    by_cases z : b ≤ 60
    · exact absurd (by rw [eb]; exact hab) (h b.toNat (by omega) (by omega) a ha)
    · omega
  | some xo =>
    obtain ⟨x, v⟩ := xo
    obtain ⟨h1, h2, h3, h4, h5⟩ := h
    have vb : b ≤ v := by
      by_cases z : (v : Int) < b
      · exact absurd h4 (no v h1 h2 z x h3)
      · omega
    refine .inl ⟨by omega, ?_⟩
    have e1 : v = b.toNat := by
      by_cases z : b.toNat < v
      · exact absurd (by rw [eb]; exact hab) (h5 b.toNat (by omega) z a ha)
      · omega
    subst e1
    rw [eb] at h4
    rw [sq_eq h3 ha (by omega)]
theorem sea_none {D e : Int} {o : Option (Int × Nat)} (h : Sea D e o) (no : ∀ v : Nat, 1 ≤ v → v ≤ 60 → ∀ x : Int, 0 ≤ x → x * x ≠ D * v * v + e) : o = none := by
  cases o with
  | none => rfl
  | some xo =>
    obtain ⟨x, v⟩ := xo
    obtain ⟨h1, h2, h3, h4, _⟩ := h
    exact absurd h4 (no v h1 h2 x h3)
def d0 : PyData := .tuple []
theorem dp0 {K : PySem.W.Frag} {H : Hp} {t : Addr} (h : H t = some (.tup [])) : Dp K H (.ref t) d0 := .tup (.inl (.inl h)) .nil
/-- the law's due, None or a pair -/
inductive Due (K : PySem.W.Frag) (H : Hp) (t u : Int) : V → PyData → Prop
  | none : Due K H t u .non .none
  | pair {a : Addr} : H a = some (.tup (two t u)) → Due K H t u (.ref a) (d2 t u)
theorem Due.dp {K : PySem.W.Frag} {H : Hp} {t u : Int} {v : V} {d : PyData} (h : Due K H t u v d) : Dp K H v d := by
  cases h with
  | none => exact .non
  | pair h => exact dp2 h
theorem Due.same {K : PySem.W.Frag} {H H' : Hp} {t u : Int} {v : V} {d : PyData} (h : Due K H t u v d) (s : Same H H') : Due K H' t u v d := by
  cases h with
  | none => exact .none
  | pair h => exact .pair (s _ _ h)
/-- a list of two such, as repr wants it -/
structure Shows (d : PyData) : Prop where
  s1 : (PyData.list [d, d]).showable = true
  s2 : (PyData.list [d, d]).hasDict = false
  s3 : (PyData.list [d, d]).depth < 60
  s4 : (PyData.list [d, d]).shown.length ≤ sizeLine
theorem shows_none : Shows .none := ⟨by decide +kernel, rfl, by decide +kernel, by decide +kernel⟩
theorem shows_pair {t u : Int} (ht : t.natAbs < 2 ^ 121) (hu : u.natAbs < 2 ^ 121) : Shows (d2 t u) := by
  have lg : ∀ x : Int, x.natAbs < 2 ^ 121 → x.natAbs.log2 < 1920 := fun x hx => by
    by_cases z : x.natAbs = 0
    · rw [z]; decide
    · rw [Nat.log2_lt z]
      exact Nat.lt_trans hx (by decide +kernel)
  have sh : ∀ x : Int, x.natAbs < 2 ^ 121 → (PyData.shown (.int x)).length ≤ 41 := fun x hx => by
    have e := int_text_length_le10 (k := 40) (by decide) (a := x) (Nat.lt_trans hx (by decide +kernel))
    show (Str.ofString (toString x)).length ≤ 41
    rw [PySem.ofString_length]
    exact e
  have wt : ∀ x : Int, x.natAbs < 2 ^ 121 → (PyData.int x).weight ≤ 122 := fun x hx => by
    show (if (x == 0) = true then 0 else x.natAbs.log2 + 1) ≤ 122
    split
    · omega
    · rename_i z
      have z0 : x.natAbs ≠ 0 := fun y => z (by have : x = 0 := by omega
                                               rw [this]; rfl)
      have := (Nat.log2_lt z0).mpr hx
      omega
  refine ⟨?_, rfl, by show (2 : Nat) < 60; decide, ?_⟩
  · show ((decide (t.natAbs.log2 < 1920) && (decide (u.natAbs.log2 < 1920) && true)) && ((decide (t.natAbs.log2 < 1920) && (decide (u.natAbs.log2 < 1920) && true)) && true)) = true
    rw [decide_eq_true (lg t ht), decide_eq_true (lg u hu)]
    rfl
  · have h := PyData.shown_le 41 (by decide) (.list [d2 t u, d2 t u]) (by
      show ((decide ((PyData.shown (.int t)).length ≤ 41) && (decide ((PyData.shown (.int u)).length ≤ 41) && true)) && ((decide ((PyData.shown (.int t)).length ≤ 41) && (decide ((PyData.shown (.int u)).length ≤ 41) && true)) && true)) = true
      rw [decide_eq_true (sh t ht), decide_eq_true (sh u hu)]
      rfl)
    have w : (PyData.list [d2 t u, d2 t u]).weight ≤ 600 := by
      show (((PyData.int t).weight + 1 + ((PyData.int u).weight + 1 + 0)) + 1 + (((PyData.int t).weight + 1 + ((PyData.int u).weight + 1 + 0)) + 1 + 0)) ≤ 600
      have := wt t ht
      have := wt u hu
      omega
    rw [sizeLine_eq]
    omega
section
variable {P : Program} {w : World} {K : PySem.W.Frag} {mg : Str → Option Value} {base : Heap}
theorem dpl {H : Hp} {a : Addr} {x y : V} {d e : PyData} (h : H a = some (.lst [x, y])) (hx : Dp K H x d) (hy : Dp K H y e) : Dp K H (.ref a) (.list [d, e]) := .lst (.inl (.inl h)) (.cons hx (.cons hy .nil))
structure KnowR (P : Program) (w : World) (K : PySem.W.Frag) (mg : Str → Option Value) (base : Heap) (fA fD fP fU fL fM fS fW : Addr) (dA dD dP dU dL dM dS dW : FuncData) : Prop where
  A : FnOk P w K mg base CX0 3 fA dA ["_law_well_here", "_law_top"] spAbove
  mA : mg "_law_above" = some (.ref fA)
  kA : PySem.W.keepIn K (.ref fA) = true
  bA : Binds K dA ["_law_well_here", "_law_top"] []
  D : FnOk P w K mg base CX0 1 fD dD ["_law_well_here", "_law_much"] spDip
  mD : mg "_law_dip" = some (.ref fD)
  kD : PySem.W.keepIn K (.ref fD) = true
  bD : Binds K dD ["_law_well_here", "_law_much"] []
  Pr : FnOk P w K mg base CX0 2 fP dP ["_law_whole"] spPair
  mP : mg "_law_pair" = some (.ref fP)
  kP : PySem.W.keepIn K (.ref fP) = true
  bP : Binds K dP ["_law_whole"] []
  U : FnOk P w K mg base CX0 3 fU dU ["_law_whole"] spUnitOf
  mU : mg "_law_unit" = some (.ref fU)
  kU : PySem.W.keepIn K (.ref fU) = true
  bU : Binds K dU ["_law_whole"] []
  L : FnOk P w K mg base CX0 6 fL dL ["discriminant"] spUnitOf
  mL : mg "least_unit" = some (.ref fL)
  kL : PySem.W.keepIn K (.ref fL) = true
  bL : Binds K dL ["discriminant"] []
  wL : KBn K dL ["discriminant"] 0 ["discriminant"] (fun _ ws => [ws.getD 0 .none]) (fun _ zs => [zs.getD 0 .non])
  M : FnOk P w K mg base CX0 6 fM dM ["discriminant"] spMinus
  mM : mg "least_minus_unit" = some (.ref fM)
  kM : PySem.W.keepIn K (.ref fM) = true
  bM : Binds K dM ["discriminant"] []
  wM : KBn K dM ["discriminant"] 0 ["discriminant"] (fun _ ws => [ws.getD 0 .none]) (fun _ zs => [zs.getD 0 .non])
  S : FnOk P w K mg base CX0 2 fS dS ["_law_whole", "_law_end", "_law_most"] spSea
  mS : mg "_law_searched" = some (.ref fS)
  kS : PySem.W.keepIn K (.ref fS) = true
  bS : Binds K dS ["_law_whole", "_law_end", "_law_most"] []
  W : FnOk P w K mg base CX0 7 fW dW ["_law_well_here", "_law_whole", "_law_base"] spPowR
  mW : mg "_law_power_right" = some (.ref fW)
  kW : PySem.W.keepIn K (.ref fW) = true
  bW : Binds K dW ["_law_well_here", "_law_whole", "_law_base"] []
  mr : mg "range" = none
  mp : mg "repr" = none
def bodyOf : Stmt → List Stmt
  | .For (body := b) .. => b
  | _ => []
def spRight : Sp := fun vs H Q _ => ∃ c : Addr, vs = [.ref c] ∧ WB H c 10 ∧ ∀ H', But c H H' → Q (.bl true) H'
theorem ok_right {f fA fD fP fU fL fM fS fW : Addr} {fd dA dD dP dU dL dM dS dW : FuncData} (F : Fun K "_law_right" "_law_right" sRight f fd) (T0 : KnowR P w K mg base fA fD fP fU fL fM fS fW dA dD dP dU dL dM dS dW) : Gu.GOk P w K mg base CX0 8 f fd ["_law_well_here"] spRight := by
  refine Gu.GOk.fun F scRight (fun vs H Q E h => ?_) (fun cdv A out s H vs Q E hG hr h => ?_)
  · obtain ⟨c, rfl, _⟩ := h
    rfl
  · obtain ⟨ch, rfl, hC0, q⟩ := h
    have hu : (A.deeper (envOfC "_law_right" (defScope sRight) s.heap.objs.size f cdv)).units + 64 < cLine := by have := hr.units; omega
    have nd := scRight.nd
    have nWL : ∀ {H : Hp} {c tb : Addr} {B : Nat} {xs : List V}, WB H c B → H tb = some (.tup xs) → tb ≠ c := by
      rintro H c tb B xs ⟨_, _, _, e, _⟩ h rfl
      rw [e] at h
      cases h
    obtain ⟨tC, hC, qC⟩ : ∃ tt, PSs (cxOf CX0 P w K mg base ["_law_well_here", "_law_turn", "_law_whole", "_law_first", "_law_base", "_law_due", "_law_told", "_law_near"] "_law_right" (defScope sRight) f cdv A out s H E).nox ((bodyOf ((defBody sRight).getD 0 (.Pass ⟨0, 0, 0, 0⟩))).drop 11) tt ∧
        ∀ (Dn : Ends) (D v : Int) (r : Row) (p : Path) (ls : Lw) (T U t u : Int) (B : Nat) (tf tb : Addr) (dv : V) (dd : PyData) (x1 x6 x7 : Option V) H1, Know D v r p ls T U t u → WB H1 ch B → B ≤ 900000 → H1 tf = some (.tup (two t u)) → H1 tb = some (.tup (two T U)) → ((t * t - D * u * u = 4 ∧ dv = .non ∧ dd = .none) ∨ (t * t - D * u * u = -4 ∧ dv = .ref tf ∧ dd = d2 t u)) →
          (∀ H' x6 x7, But ch H1 H' → WB H' ch (B + 3) → Dn.nx [some (.ref ch), x1, some (.int D), some (.ref tf), some (.ref tb), some dv, x6, x7] H') →
          tt Dn [some (.ref ch), x1, some (.int D), some (.ref tf), some (.ref tb), some dv, x6, x7] H1 := by
      refine ⟨_, pss_one (ps_if (pt_not (pt_val (pe_call T0.W hr (by rfl) T0.mW T0.kW T0.bW .nil pass0 (pa_cons (pv 0) (pa_cons (pv 2) (pa_cons (pv 4) pa_nil)))))) (pss_one (ps_ret pe_bl)) pss_nil), ?_⟩
      intro Dn D v r p ls T U t u B tf tb dv dd x1 x6 x7 H1 kn wb hB hf hb hdue k
      have d5 := kn.d5
      have dt := kn.dt
      have T3 := kn.T3
      have U1 := kn.U1
      have t1 := kn.t1
      have u1 := kn.u1

      exact ⟨.ref ch, rfl, .int D, rfl, .ref tb, rfl, ch, tb, D, v, r, p, ls, T, U, t, u, B, rfl, kn, hb, wb, hB, fun H' b w' => ⟨_, rfl, iteF (k H' _ _ b w')⟩⟩
    have z0 : 0 ≤ sizeLine := by decide
    have hasTwo : ∀ (H' : Hp) (n : Addr) (x : Int) (y : Int), 0 ≤ y → H' n = some (.tup (oV (some (x, y.toNat)))) → H' n = some (.tup (two x y)) := by
      intro H' n x y hy h
      have : ((y.toNat : Nat) : Int) = y := by omega
      rw [h]
      show some (HO.tup (two x ((y.toNat : Nat) : Int))) = _
      rw [this]
    obtain ⟨tB, hB, qB⟩ : ∃ tt, PSs (cxOf CX0 P w K mg base ["_law_well_here", "_law_turn", "_law_whole", "_law_first", "_law_base", "_law_due", "_law_told", "_law_near"] "_law_right" (defScope sRight) f cdv A out s H E).nox ((bodyOf ((defBody sRight).getD 0 (.Pass ⟨0, 0, 0, 0⟩))).drop 9) tt ∧
        ∀ (Dn : Ends) (D v : Int) (r : Row) (p : Path) (ls : Lw) (T U t u : Int) (B : Nat) (tf tb : Addr) (dv : V) (dd : PyData) (x1 x6 x7 : Option V) H1, Know D v r p ls T U t u → WB H1 ch B → B ≤ 900000 → H1 tf = some (.tup (two t u)) → H1 tb = some (.tup (two T U)) → ((t * t - D * u * u = 4 ∧ dv = .non ∧ dd = .none) ∨ (t * t - D * u * u = -4 ∧ dv = .ref tf ∧ dd = d2 t u)) →
          (∀ H' x6 x7, But ch H1 H' → WB H' ch (B + 3) → Dn.nx [some (.ref ch), x1, some (.int D), some (.ref tf), some (.ref tb), some dv, x6, x7] H') →
          tt Dn [some (.ref ch), x1, some (.int D), some (.ref tf), some (.ref tb), some dv, x6, x7] H1 := by
      refine ⟨_, pss_cons (ps_set (i := 7) nd rfl (.inl rfl) (pe_call T0.S (hr.mono (by decide)) (by rfl) T0.mS T0.kS T0.bS .nil pass0 (pa_cons (pv 2) (pa_cons (pe_un un_neg pe_int) (pa_cons pe_int pa_nil)))))
        (pss_cons (ps_if (PW.pt (pw_or (PW.pt (pw_and (pt_cmpR (op_neD (X := (cxOf CX0 P w K mg base ["_law_well_here", "_law_turn", "_law_whole", "_law_first", "_law_base", "_law_due", "_law_told", "_law_near"] "_law_right" (defScope sRight) f cdv A out s H E).nox) hu) (pv 7) (pe_tup pa_nil) (nomark _)) (pw_and1 (pt_cmpR (op_neD (X := (cxOf CX0 P w K mg base ["_law_well_here", "_law_turn", "_law_whole", "_law_first", "_law_base", "_law_due", "_law_told", "_law_near"] "_law_right" (defScope sRight) f cdv A out s H E).nox) hu) (pv 7) (pv 5) (nomark _)))))
            (pw_or1 (PW.pt (pw_and (pt_cmpR (op_eqD (X := (cxOf CX0 P w K mg base ["_law_well_here", "_law_turn", "_law_whole", "_law_first", "_law_base", "_law_due", "_law_told", "_law_near"] "_law_right" (defScope sRight) f cdv A out s H E).nox) hu) (pv 7) (pe_tup pa_nil) (nomark _)) (pw_and (pt_cmpR op_notN (pv 5) pe_non (nomark _)) (pw_and1 (pt_cmpR op_le (pe_ix ix_tup (pv 5) pe_int (fun _ _ => rfl)) pe_int (nomark _))))))))) (pss_one (ps_ret pe_bl)) pss_nil) hC), ?_⟩
      intro Dn D v r p ls T U t u B tf tb dv dd x1 x6 x7 H1 kn wb hB hf hb hdue k
      have d5 := kn.d5
      have dt := kn.dt
      have T3 := kn.T3
      have U1 := kn.U1
      have t1 := kn.t1
      have u1 := kn.u1
      have fin : ∀ H', Same H1 H' → ∀ x6' x7', tC Dn [some (.ref ch), x1, some (.int D), some (.ref tf), some (.ref tb), some dv, x6', x7'] H' := fun H' sH x6' x7' =>
        qC Dn D v r p ls T U t u B tf tb dv dd x1 x6' x7' H' kn (wb.same sH) hB (sH _ _ hf) (sH _ _ hb) hdue fun H'' y6 y7 b w' => k H'' y6 y7 ((But.same sH).trans b) w'

      obtain ⟨om, hom⟩ := sea_ex D (-4)
      refine ⟨.int D, rfl, 4, rfl, D, -4, om, rfl, d5, dt, .inr rfl, hom, fun H10 n1 s10 hn1 => ?_⟩
      -- nothing was found, and that is right
      rcases hdue with ⟨e4, rfl, rfl⟩ | ⟨em, rfl, rfl⟩
      · have eo : om = none := sea_none hom (by
          rcases kn.ways with ⟨_, _, _, _, h⟩ | ⟨h, _⟩
          · exact h
          · omega)
        subst eo
        have hn : H10 n1 = some (.tup []) := hn1
        refine ⟨.ref n1, rfl, z0, fun e1 ne1 => ?_⟩
        have se := same_new (o := .tup []) ne1
        refine ⟨_, _, dp0 (se _ _ hn), dp0 upd_same, rfl, rfl, _, rfl, iteF ?_⟩
        refine ⟨.ref n1, rfl, z0, fun e2 ne2 => ?_⟩
        have se2 := same_new (o := .tup []) ne2
        refine ⟨_, _, dp0 (se2 _ _ (se _ _ hn)), dp0 upd_same, rfl, rfl, _, rfl, iteT ?_⟩
        exact ⟨.non, rfl, rfl, _, rfl, iteF (fin _ (s10.trans (se.trans se2)) _ _)⟩
      · have un : t * t = D * u * u + -4 := by omega
        have hf10 := s10 _ _ hf
        have etu : PyData.eqv (d2 t u) (d2 t u) = true := by rw [d2_eqv]; exact decide_eq_true ⟨rfl, rfl⟩
        have no : ∀ v : Nat, 1 ≤ v → v ≤ 60 → (v : Int) < u → ∀ x : Int, 0 ≤ x → x * x ≠ D * v * v + -4 := by
          rcases kn.ways with ⟨h, _⟩ | ⟨_, _, _, h⟩
          · omega
          · exact h
        rcases sea_is hom u1 (by omega) un no with ⟨u60, rfl⟩ | ⟨u60, rfl⟩
        · have hn := hasTwo _ _ _ _ (by omega) hn1
          refine ⟨.ref n1, rfl, z0, fun e1 ne1 => ?_⟩
          have se := same_new (o := .tup []) ne1
          refine ⟨_, _, dp2 (se _ _ hn), dp0 upd_same, rfl, rfl, _, rfl, iteT ?_⟩
          refine ⟨.ref n1, rfl, .ref tf, rfl, _, _, dp2 (se _ _ hn), dp2 (se _ _ hf10), rfl, rfl, _, rfl, ?_⟩
          rw [etu]
          refine iteF ⟨.ref n1, rfl, z0, fun e2 ne2 => ?_⟩
          have se2 := same_new (o := .tup []) ne2
          refine ⟨_, _, dp2 (se2 _ _ (se _ _ hn)), dp0 upd_same, rfl, rfl, _, rfl, iteF ?_⟩
          exact fin _ (s10.trans (se.trans se2)) _ _
        · have hn : H10 n1 = some (.tup []) := hn1
          refine ⟨.ref n1, rfl, z0, fun e1 ne1 => ?_⟩
          have se := same_new (o := .tup []) ne1
          refine ⟨_, _, dp0 (se _ _ hn), dp0 upd_same, rfl, rfl, _, rfl, iteF ?_⟩
          refine ⟨.ref n1, rfl, z0, fun e2 ne2 => ?_⟩
          have se2 := same_new (o := .tup []) ne2
          refine ⟨_, _, dp0 (se2 _ _ (se _ _ hn)), dp0 upd_same, rfl, rfl, _, rfl, iteT ?_⟩
          have tB2 : SqT K (upd (upd H10 e1 (.tup [])) e2 (.tup [])) tf (two t u) := .inl (.inl (se2 _ _ (se _ _ hf10)))
          refine ⟨.ref tf, rfl, rfl, _, rfl, iteT ?_⟩
          refine ⟨.ref tf, rfl, tf, _, 1, .int u, rfl, rfl, tB2, rfl, u, 60, rfl, rfl, _, rfl, iteF' (decide_eq_false (by omega)) ?_⟩
          exact fin _ (s10.trans (se.trans se2)) _ _
    obtain ⟨tG, hG2, qG⟩ : ∃ tt, PSs (cxOf CX0 P w K mg base ["_law_well_here", "_law_turn", "_law_whole", "_law_first", "_law_base", "_law_due", "_law_told", "_law_near"] "_law_right" (defScope sRight) f cdv A out s H E).nox ((bodyOf ((defBody sRight).getD 0 (.Pass ⟨0, 0, 0, 0⟩))).drop 6) tt ∧
        ∀ (Dn : Ends) (D v : Int) (r : Row) (p : Path) (ls : Lw) (T U t u : Int) (B : Nat) (tf tb : Addr) (dv : V) (dd : PyData) (x1 x6 x7 : Option V) H1, Know D v r p ls T U t u → WB H1 ch B → B ≤ 900000 → H1 tf = some (.tup (two t u)) → H1 tb = some (.tup (two T U)) → ((t * t - D * u * u = 4 ∧ dv = .non ∧ dd = .none) ∨ (t * t - D * u * u = -4 ∧ dv = .ref tf ∧ dd = d2 t u)) →
          (∀ H' x6 x7, But ch H1 H' → WB H' ch (B + 3) → Dn.nx [some (.ref ch), x1, some (.int D), some (.ref tf), some (.ref tb), some dv, x6, x7] H') →
          tt Dn [some (.ref ch), x1, some (.int D), some (.ref tf), some (.ref tb), some dv, x6, x7] H1 := by
      refine ⟨_, pss_cons (ps_if (PW.pt (pw_or (pt_cmpR op_ne (pe_op op_sub (pe_op op_mulW (pe_ix ix_tup (pv 4) pe_int (fun _ _ => rfl)) (pe_ix ix_tup (pv 4) pe_int (fun _ _ => rfl))) (pe_op op_mulW (pe_op op_mul (pv 2) (pe_ix ix_tup (pv 4) pe_int (fun _ _ => rfl))) (pe_ix ix_tup (pv 4) pe_int (fun _ _ => rfl)))) pe_int (nomark _))
            (pw_or1 (pt_cmpR op_lt (pe_ix ix_tup (pv 4) pe_int (fun _ _ => rfl)) pe_int (nomark _))))) (pss_one (ps_ret pe_bl)) pss_nil)
        (pss_cons (ps_set (i := 7) nd rfl (.inl rfl) (pe_call T0.S (hr.mono (by decide)) (by rfl) T0.mS T0.kS T0.bS .nil pass0 (pa_cons (pv 2) (pa_cons pe_int (pa_cons pe_int pa_nil)))))
        (pss_cons (ps_if (PW.pt (pw_or (PW.pt (pw_and (pt_cmpR (op_neD (X := (cxOf CX0 P w K mg base ["_law_well_here", "_law_turn", "_law_whole", "_law_first", "_law_base", "_law_due", "_law_told", "_law_near"] "_law_right" (defScope sRight) f cdv A out s H E).nox) hu) (pv 7) (pe_tup pa_nil) (nomark _)) (pw_and1 (pt_cmpR (op_neD (X := (cxOf CX0 P w K mg base ["_law_well_here", "_law_turn", "_law_whole", "_law_first", "_law_base", "_law_due", "_law_told", "_law_near"] "_law_right" (defScope sRight) f cdv A out s H E).nox) hu) (pv 7) (pv 4) (nomark _)))))
            (pw_or1 (PW.pt (pw_and (pt_cmpR (op_eqD (X := (cxOf CX0 P w K mg base ["_law_well_here", "_law_turn", "_law_whole", "_law_first", "_law_base", "_law_due", "_law_told", "_law_near"] "_law_right" (defScope sRight) f cdv A out s H E).nox) hu) (pv 7) (pe_tup pa_nil) (nomark _)) (pw_and1 (pt_cmpR op_le (pe_ix ix_tup (pv 4) pe_int (fun _ _ => rfl)) pe_int (nomark _)))))))) (pss_one (ps_ret pe_bl)) pss_nil) hB)), ?_⟩
      intro Dn D v r p ls T U t u B tf tb dv dd x1 x6 x7 H1 kn wb hB hf hb hdue k
      have d5 := kn.d5
      have dt := kn.dt
      have T3 := kn.T3
      have U1 := kn.U1
      have t1 := kn.t1
      have u1 := kn.u1
      have fin : ∀ H', Same H1 H' → ∀ x6' x7', tB Dn [some (.ref ch), x1, some (.int D), some (.ref tf), some (.ref tb), some dv, x6', x7'] H' := fun H' sH x6' x7' =>
        qB Dn D v r p ls T U t u B tf tb dv dd x1 x6' x7' H' kn (wb.same sH) hB (sH _ _ hf) (sH _ _ hb) hdue fun H'' y6 y7 b w' => k H'' y6 y7 ((But.same sH).trans b) w'

      have eTU : PyData.eqv (d2 T U) (d2 T U) = true := by rw [d2_eqv]; exact decide_eq_true ⟨rfl, rfl⟩
      have tB : SqT K H1 tb (two T U) := .inl (.inl hb)
      have kT : CMulW T T := wm (by omega) kn.Tb (by omega) kn.Tb (by decide) (by decide) (by decide)
      have DU0 : 0 ≤ D * U := Int.mul_nonneg (by omega) (by omega)
      have DU1 : D * U < 2 ^ 130 := mul_lt_pow (a := 10) (b := 120) (by omega) (Int.lt_of_le_of_lt dt (by decide)) (by omega) kn.Ub
      have kU : CMulW (D * U) U := wm DU0 DU1 (by omega) kn.Ub (by decide) (by decide) (by decide)
      refine ⟨.ref tb, rfl, tb, _, 0, .int T, rfl, rfl, tB, rfl, .ref tb, rfl, tb, _, 0, .int T, rfl, rfl, tB, rfl, T, T, rfl, rfl, kT, .int D, rfl, .ref tb, rfl, tb, _, 1, .int U, rfl, rfl, tB, rfl, D, U, rfl, rfl, .inl ⟨by omega, by omega⟩, .ref tb, rfl, tb, _, 1, .int U, rfl, rfl, tB, rfl, D * U, U, rfl, rfl, kU, _, _, rfl, rfl, rfl, _, rfl, ne_ite (fun z => absurd (congrArg V.int kn.unit) z) (fun _ => ?_)⟩
      refine ⟨.ref tb, rfl, tb, _, 1, .int U, rfl, rfl, tB, rfl, U, 1, rfl, rfl, _, rfl, ite2 (fun z => absurd (of_decide_eq_true z) (by omega)) fun _ => ?_⟩
      obtain ⟨o4, ho4⟩ := sea_ex D 4
      refine ⟨.int D, rfl, D, 4, o4, rfl, d5, dt, .inl rfl, ho4, fun H10 n1 s10 hn1 => ?_⟩
      have hb10 := s10 _ _ hb
      have un : T * T = D * U * U + 4 := by have := kn.unit; omega
      rcases sea_is ho4 U1 (by omega) un kn.no4 with ⟨U60, rfl⟩ | ⟨U60, rfl⟩
      · have hn := hasTwo _ _ _ _ (by omega) hn1
        refine ⟨.ref n1, rfl, z0, fun e1 ne1 => ?_⟩
        have se := same_new (o := .tup []) ne1
        refine ⟨_, _, dp2 (se _ _ hn), dp0 upd_same, rfl, rfl, _, rfl, iteT ?_⟩
        refine ⟨.ref n1, rfl, .ref tb, rfl, _, _, dp2 (se _ _ hn), dp2 (se _ _ hb10), rfl, rfl, _, rfl, ?_⟩
        rw [eTU]
        refine iteF ⟨.ref n1, rfl, z0, fun e2 ne2 => ?_⟩
        have se2 := same_new (o := .tup []) ne2
        refine ⟨_, _, dp2 (se2 _ _ (se _ _ hn)), dp0 upd_same, rfl, rfl, _, rfl, iteF ?_⟩
        exact fin _ (s10.trans (se.trans se2)) _ _
      · have hn : H10 n1 = some (.tup []) := hn1
        refine ⟨.ref n1, rfl, z0, fun e1 ne1 => ?_⟩
        have se := same_new (o := .tup []) ne1
        refine ⟨_, _, dp0 (se _ _ hn), dp0 upd_same, rfl, rfl, _, rfl, iteF ?_⟩
        refine ⟨.ref n1, rfl, z0, fun e2 ne2 => ?_⟩
        have se2 := same_new (o := .tup []) ne2
        refine ⟨_, _, dp0 (se2 _ _ (se _ _ hn)), dp0 upd_same, rfl, rfl, _, rfl, iteT ?_⟩
        have tB2 : SqT K (upd (upd H10 e1 (.tup [])) e2 (.tup [])) tb (two T U) := .inl (.inl (se2 _ _ (se _ _ hb10)))
        refine ⟨.ref tb, rfl, tb, _, 1, .int U, rfl, rfl, tB2, rfl, U, 60, rfl, rfl, _, rfl, iteF' (decide_eq_false (by omega)) ?_⟩
        exact fin _ (s10.trans (se.trans se2)) _ _
    obtain ⟨tA, hA, qA⟩ : ∃ tt, PSs (cxOf CX0 P w K mg base ["_law_well_here", "_law_turn", "_law_whole", "_law_first", "_law_base", "_law_due", "_law_told", "_law_near"] "_law_right" (defScope sRight) f cdv A out s H E).nox ((bodyOf ((defBody sRight).getD 0 (.Pass ⟨0, 0, 0, 0⟩))).drop 3) tt ∧
        ∀ (Dn : Ends) (D v : Int) (r : Row) (p : Path) (ls : Lw) (T U t u : Int) (B : Nat) (tf tb : Addr) (dv : V) (dd : PyData) (x1 x6 x7 : Option V) H1, Know D v r p ls T U t u → WB H1 ch B → B ≤ 900000 → H1 tf = some (.tup (two t u)) → H1 tb = some (.tup (two T U)) → ((t * t - D * u * u = 4 ∧ dv = .non ∧ dd = .none) ∨ (t * t - D * u * u = -4 ∧ dv = .ref tf ∧ dd = d2 t u)) →
          (∀ H' x6 x7, But ch H1 H' → WB H' ch (B + 3) → Dn.nx [some (.ref ch), x1, some (.int D), some (.ref tf), some (.ref tb), some dv, x6, x7] H') →
          tt Dn [some (.ref ch), x1, some (.int D), some (.ref tf), some (.ref tb), some dv, x6, x7] H1 := by
      refine ⟨_, pss_cons (ps_set (i := 6) nd rfl (.inl rfl) (pe_lst (pa_cons (pe_call T0.L (hr.mono (by decide)) (by rfl) T0.mL T0.kL T0.bL .nil pass0 (pa_cons (pv 2) pa_nil)) (pa_cons (Gu.pe_callO T0.L (hr.mono (by decide)) (by rfl) T0.mL T0.kL T0.wL pass0 (pk_cons (pv 2) pk_nil)) pa_nil))))
        (pss_cons (ps_if (pt_cmpR (op_neD (X := (cxOf CX0 P w K mg base ["_law_well_here", "_law_turn", "_law_whole", "_law_first", "_law_base", "_law_due", "_law_told", "_law_near"] "_law_right" (defScope sRight) f cdv A out s H E).nox) hu) (pv 6) (pe_lst (pa_cons (pv 4) (pa_cons (pv 4) pa_nil))) (nomark _)) (pss_one (ps_ret pe_bl)) pss_nil)
        (pss_cons (ps_if (pt_cmpR op_ne (pe_callB (Gu.call_reprD hG hu) (by rfl) T0.mp boot_repr (pa_cons (pe_lst (pa_cons (pe_call T0.M (hr.mono (by decide)) (by rfl) T0.mM T0.kM T0.bM .nil pass0 (pa_cons (pv 2) pa_nil)) (pa_cons (Gu.pe_callO T0.M (hr.mono (by decide)) (by rfl) T0.mM T0.kM T0.wM pass0 (pk_cons (pv 2) pk_nil)) pa_nil))) pa_nil))
            (pe_callB (Gu.call_reprD hG hu) (by rfl) T0.mp boot_repr (pa_cons (pe_lst (pa_cons (pv 5) (pa_cons (pv 5) pa_nil))) pa_nil)) (nomark _)) (pss_one (ps_ret pe_bl)) pss_nil) hG2)), ?_⟩
      intro Dn D v r p ls T U t u B tf tb dv dd x1 x6 x7 H1 kn wb hB hf hb hdue k
      have d5 := kn.d5
      have dt := kn.dt
      have T3 := kn.T3
      have U1 := kn.U1
      have t1 := kn.t1
      have u1 := kn.u1
      have fin : ∀ H', Same H1 H' → ∀ x6' x7', tG Dn [some (.ref ch), x1, some (.int D), some (.ref tf), some (.ref tb), some dv, x6', x7'] H' := fun H' sH x6' x7' =>
        qG Dn D v r p ls T U t u B tf tb dv dd x1 x6' x7' H' kn (wb.same sH) hB (sH _ _ hf) (sH _ _ hb) hdue fun H'' y6 y7 b w' => k H'' y6 y7 ((But.same sH).trans b) w'

      obtain ⟨tb1, ub1⟩ := kn.tu
      have eTU : PyData.eqv (d2 T U) (d2 T U) = true := by rw [d2_eqv]; exact decide_eq_true ⟨rfl, rfl⟩
      refine ⟨.int D, rfl, D, v, r, p, ls, T, U, t, u, rfl, kn, fun H2 q1 s2 h1 => ?_⟩
      refine ⟨.int D, rfl, rfl, D, v, r, p, ls, T, U, t, u, rfl, kn, fun H3 q2 s3 h2 => ⟨l2, fun L nL => ?_⟩⟩
      have sL := same_new (o := .lst [.ref q1, .ref q2]) nL
      have s14 := s2.trans (s3.trans sL)
      have g1 := sL _ _ (s3 _ _ h1)
      have g2 := sL _ _ h2
      have gL : (upd H3 L (.lst [.ref q1, .ref q2])) L = some (.lst [.ref q1, .ref q2]) := upd_same
      generalize upd H3 L (.lst [.ref q1, .ref q2]) = H4 at *
      refine ⟨.ref L, rfl, .ref tb, rfl, .ref tb, rfl, l2, fun L2 nL2 => ?_⟩
      have sL2 := same_new (o := .lst [.ref tb, .ref tb]) nL2
      have hb5 := sL2 _ _ (s14 _ _ hb)
      refine ⟨_, _, dpl (sL2 _ _ gL) (dp2 (sL2 _ _ g1)) (dp2 (sL2 _ _ g2)), dpl upd_same (dp2 hb5) (dp2 hb5), rfl, rfl, _, rfl, ?_⟩
      have e1 : PyData.eqv (.list [d2 T U, d2 T U]) (.list [d2 T U, d2 T U]) = true := by
        show (PyData.eqv (d2 T U) (d2 T U) && (PyData.eqv (d2 T U) (d2 T U) && true)) = true
        rw [eTU]; rfl
      rw [e1]
      have s15 := s14.trans sL2
      generalize upd H4 L2 (.lst [.ref tb, .ref tb]) = H5 at *
      refine iteF ?_
      rcases hdue with ⟨e4, rfl, rfl⟩ | ⟨em, rfl, rfl⟩
      · have sh := shows_none
        refine ⟨.int D, rfl, D, v, r, p, ls, T, U, t, u, rfl, kn, fun _ H6 s6 => ?_, fun e => absurd e (by omega)⟩
        refine ⟨.int D, rfl, rfl, D, v, r, p, ls, T, U, t, u, rfl, kn, fun _ H7 s7 => ⟨l2, fun L3 nL3 => ?_⟩, fun e => absurd e (by omega)⟩
        have s8 := same_new (o := .lst [.non, .non]) nL3
        refine ⟨L3, _, rfl, dpl upd_same .non .non, sh.s1, sh.s2, sh.s3, sh.s4, .non, rfl, .non, rfl, l2, fun L4 nL4 => ?_⟩
        have s9 := same_new (o := .lst [.non, .non]) nL4
        refine ⟨L4, _, rfl, dpl upd_same .non .non, sh.s1, sh.s2, sh.s3, sh.s4, rfl, _, rfl, ne_ite (fun z => absurd rfl z) (fun _ => ?_)⟩
        exact fin _ (s15.trans (s6.trans (s7.trans (s8.trans s9)))) _ _
      · have sh := shows_pair (t := t) (u := u) (nb (by omega) tb1) (nb (by omega) ub1)
        refine ⟨.int D, rfl, D, v, r, p, ls, T, U, t, u, rfl, kn, fun e => absurd e (by omega), fun _ H6 m1 s6 hm1 => ?_⟩
        refine ⟨.int D, rfl, rfl, D, v, r, p, ls, T, U, t, u, rfl, kn, fun e => absurd e (by omega), fun _ H7 m2 s7 hm2 => ⟨l2, fun L3 nL3 => ?_⟩⟩
        have s8 := same_new (o := .lst [.ref m1, .ref m2]) nL3
        refine ⟨L3, _, rfl, dpl upd_same (dp2 (s8 _ _ (s7 _ _ hm1))) (dp2 (s8 _ _ hm2)), sh.s1, sh.s2, sh.s3, sh.s4, .ref tf, rfl, .ref tf, rfl, l2, fun L4 nL4 => ?_⟩
        have s9 := same_new (o := .lst [.ref tf, .ref tf]) nL4
        have s19 := s15.trans (s6.trans (s7.trans (s8.trans s9)))
        have hf9 := s19 _ _ hf
        refine ⟨L4, _, rfl, dpl upd_same (dp2 hf9) (dp2 hf9), sh.s1, sh.s2, sh.s3, sh.s4, rfl, _, rfl, ne_ite (fun z => absurd rfl z) (fun _ => ?_)⟩
        exact fin _ s19 _ _
    refine ⟨_, pss_cons (ps_for PassesOwn.never rfl (pi_range1 rfl T0.mr (pa_cons pe_int pa_nil)) (pg_name (i := 1) nd rfl (.inl rfl))
        (pss_cons (ps_set (i := 2) nd rfl (.inl rfl) (pe_call T0.A (hr.mono (by decide)) (by rfl) T0.mA T0.kA T0.bA .nil pass0 (pa_cons (pv 0) (pa_cons (pe_ix ix_list (pe_lst (pa_cons pe_int (pa_cons pe_int (pa_cons pe_int pa_nil)))) (pe_call T0.D (hr.mono (by decide)) (by rfl) T0.mD T0.kD T0.bD .nil pass0 (pa_cons (pv 0) (pa_cons pe_int pa_nil))) (fun _ _ => rfl)) pa_nil))))
        (pss_cons (ps_par (i := 3) (j := 4) rfl nd rfl rfl (by decide) rfl rfl (pa_cons (pe_call T0.Pr (hr.mono (by decide)) (by rfl) T0.mP T0.kP T0.bP .nil pass0 (pa_cons (pv 2) pa_nil)) (pa_cons (pe_call T0.U (hr.mono (by decide)) (by rfl) T0.mU T0.kU T0.bU .nil pass0 (pa_cons (pv 2) pa_nil)) pa_nil)) (by rfl))
        (pss_cons (ps_set (i := 5) nd rfl (.inl rfl) (pe_ifExp (pt_cmpR (op_eqD (X := (cxOf CX0 P w K mg base ["_law_well_here", "_law_turn", "_law_whole", "_law_first", "_law_base", "_law_due", "_law_told", "_law_near"] "_law_right" (defScope sRight) f cdv A out s H E).nox) hu) (pv 3) (pv 4) (nomark _)) pe_non (pv 3))) hA))))
      (pss_one (ps_ret pe_bl)), ?_⟩
    refine ⟨3, rfl, by decide, by decide, for_range (n := ((3 : Int).toNat)) (fun i σ H' => But ch H H' ∧ WB H' ch (10 + 60 * i) ∧ ∃ x1 x2 x3 x4 x5 x6 x7, σ = [some (.ref ch), x1, x2, x3, x4, x5, x6, x7])
      ⟨.refl, hC0, _, _, _, _, _, _, _, rfl⟩ ?_ ?_⟩
    · rintro i σ H1 hi ⟨bt, wb, x1, x2, x3, x4, x5, x6, x7, rfl⟩
      have hi3 : i < 3 := hi
      refine ⟨.ref ch, rfl, l3, fun L nL => ⟨.ref ch, rfl, ch, 3, 10 + 60 * i, rfl, by decide, by decide, wb.same (same_new nL), by omega, fun H2 r3 r30 r31 bt2 wb2 => ?_⟩⟩
      have sL := same_new (o := .lst [.int 60, .int 400, .int 1000]) nL
      have Lc : L ≠ ch := by
        intro e
        obtain ⟨_, _, _, e2, _⟩ := wb
        rw [e, e2] at nL
        cases nL
      have hL : H2 L = some (.lst [.int 60, .int 400, .int 1000]) := bt2 _ _ Lc upd_same
      obtain ⟨top, hat, ht5, htt⟩ : ∃ top : Int, atI ([.int 60, .int 400, .int 1000] : List V) r3 = some (.int top) ∧ 5 ≤ top ∧ top ≤ 1000 := by
        rcases (show r3 = 0 ∨ r3 = 1 ∨ r3 = 2 by omega) with rfl | rfl | rfl
        · exact ⟨60, rfl, by decide, by decide⟩
        · exact ⟨400, rfl, by decide, by decide⟩
        · exact ⟨1000, rfl, by decide, by decide⟩
      refine ⟨L, _, r3, .int top, rfl, rfl, .inl (.inl hL), hat, ch, top, 10 + 60 * i + 1, rfl, ht5, htt, wb2, by omega, fun H3 D hv bt3 wb3 => ?_⟩
      obtain ⟨r, p, ls, T, U, t, u, kn⟩ := know hv
      refine ⟨.int D, rfl, D, _, r, p, ls, T, U, t, u, rfl, kn, fun H4 tf s4 h4 => ⟨.int D, rfl, D, _, r, p, ls, T, U, t, u, rfl, kn, fun H5 tb s5 h5 => ⟨_, _, rfl, ?_⟩⟩⟩
      have h4' := s5 _ _ h4
      have btA : But ch H H5 := bt.trans ((But.same sL).trans (bt2.trans (bt3.trans ((But.same s4).trans (But.same s5)))))
      have wbA := (wb3.same s4).same s5
      refine ⟨.ref tf, rfl, .ref tb, rfl, _, _, dp2 h4', dp2 h5, rfl, rfl, _, rfl, ?_⟩
      rw [d2_eqv]
      rcases kn.ways with ⟨e4, eT, eU, _⟩ | ⟨em, e2, e3, _⟩
      · rw [decide_eq_true ⟨eT.symm, eU.symm⟩]
        exact iteT (qA _ D _ r p ls T U t u (10 + 60 * i + 1 + 40) tf tb .non .none _ _ _ H5 kn wbA (by omega) h4' h5 (.inl ⟨e4, rfl, rfl⟩) fun H' y6 y7 b w' => ⟨btA.trans b, w'.mono (by omega), _, _, _, _, _, _, _, rfl⟩)
      · have ne : ¬ (t = T ∧ u = U) := by
          rintro ⟨rfl, rfl⟩
          have := kn.unit
          omega
        rw [decide_eq_false ne]
        exact iteF ⟨.ref tf, rfl, qA _ D _ r p ls T U t u (10 + 60 * i + 1 + 40) tf tb (.ref tf) (d2 t u) _ _ _ H5 kn wbA (by omega) h4' h5 (.inr ⟨em, rfl, rfl⟩) fun H' y6 y7 b w' => ⟨btA.trans b, w'.mono (by omega), _, _, _, _, _, _, _, rfl⟩⟩
    · rintro σ H1 ⟨bt, wb, x1, x2, x3, x4, x5, x6, x7, rfl⟩
      exact q H1 bt
end
end K54

namespace K54
open PySem PySem.Spec PyProof.Rows L2
section
variable {P : Program} {w : World} {K : PySem.W.Frag} {mg : Str → Option Value} {base : Heap}
def spLaw (K : PySem.W.Frag) : Sp := fun vs H Q _ => ∃ (a : Addr) (ns : List Int), vs = [.ref a] ∧ SqL K H a (ns.map V.int) ∧ ns.length ≤ 63 ∧ ∀ H', Q (.bl true) H'
theorem ok_law {f fC fR : Addr} {fd dC dR : FuncData} (F : Fun K "law" "law" sLaw f fd) (GC : FnOk P w K mg base CX0 1 fC dC ["_law_script", "_law_k"] (spWell K)) (mC : mg "_law_well" = some (.ref fC)) (kC : PySem.W.keepIn K (.ref fC) = true) (bC : Binds K dC ["_law_script", "_law_k"] [])
    (GR : Gu.GOk P w K mg base CX0 8 fR dR ["_law_well_here"] spRight) (mR : mg "_law_right" = some (.ref fR)) (kR : PySem.W.keepIn K (.ref fR) = true) (bR : Binds K dR ["_law_well_here"] []) (mr : mg "range" = none) (mm : mg "max" = none) (mn : mg "min" = none) (ml : mg "len" = none) :
    Gu.GOk P w K mg base CX0 9 f fd ["_law_script"] (spLaw K) := by
  refine Gu.GOk.fun F scLaw (fun vs H Q E h => ?_) (fun cdv A out s H vs Q E hG hr h => ?_)
  · obtain ⟨a, ns, rfl, _⟩ := h
    rfl
  · obtain ⟨a, ns, rfl, hS, hl, q⟩ := h
    have nd := scLaw.nd
    refine ⟨_, pss_cons (ps_for PassesOwn.never rfl (pi_range1 rfl mr (pa_cons (pe_callB (call_max2 rfl) (by rfl) mm boot_max (pa_cons pe_int (pa_cons (pe_callB (call_min2 rfl) (by rfl) mn boot_min (pa_cons (pe_callB call_len_seq (by rfl) ml PySem.boot_len (pa_cons (pv 0) pa_nil)) (pa_cons pe_int pa_nil))) pa_nil))) pa_nil)) (pg_name (i := 1) nd rfl (.inl rfl))
        (pss_one (ps_if (pt_not (pt_val (Gu.pe_callG GR hG hr (by rfl) mR kR bR .nil pass0 (pa_cons (pe_call GC (hr.mono (by decide)) (by rfl) mC kC bC .nil pass0 (pa_cons (pv 0) (pa_cons (pv 1) pa_nil))) pa_nil)))) (pss_one (ps_ret pe_bl)) pss_nil)))
      (pss_one (ps_ret pe_bl)), ?_⟩
    refine ⟨.ref a, rfl, a, _, rfl, .inl hS, _, 6, rfl, 2, _, rfl, _, rfl, ?_⟩
    generalize hj : (if (if (6 : Int) < ((ns.map V.int).length : Nat) then (6 : Int) else ((ns.map V.int).length : Nat)) > 2 then (if (6 : Int) < ((ns.map V.int).length : Nat) then (6 : Int) else ((ns.map V.int).length : Nat)) else 2) = j
    have j6 : j ≤ 6 ∧ 0 ≤ j := by
      rw [← hj]
      constructor <;> repeat' split
      all_goals omega
    refine ⟨by omega, by omega, for_range (lo := 0) (n := j.toNat) (fun i σ H' => Same H H' ∧ ∃ x1, σ = [some (.ref a), x1]) ⟨.refl _, _, rfl⟩ ?_ ?_⟩
    · rintro i σ H1 hi ⟨sm, x1, rfl⟩
      have e0 : (0 : Int) + i = i := by omega
      rw [e0]
      refine ⟨.ref a, rfl, .int i, rfl, a, ns, i, rfl, sm.seq hS, by omega, hl, fun H2 c s2 nc wc => ⟨c, rfl, wc.mono (by decide), fun H3 bt => ⟨_, rfl, iteF ⟨fun b o e => ?_, _, rfl⟩⟩⟩⟩
      have e1 := sm _ _ e
      have bc : b ≠ c := fun z => by rw [z, nc] at e1; cases e1
      exact bt _ _ bc (s2 _ _ e1)
    · rintro σ H1 ⟨sm, x1, rfl⟩
      exact q _
end
theorem all_mk {l : PySem.W.OpenLaw} {w : World} {K : PySem.W.Frag} {h : Heap} {mg : Str → Option Value} {fa : Addr} (X : K.In h) (G : h.Ns mainGlobals mg) (hfa : mg "law" = some (.ref fa))
    {fX1 : Addr} {odX1 anX1 : Option Addr} {slX1 : Array (Option Value)} {ocX1 kVX1 dcX1 pmX1 cdX1 ctX1 : Value} {fX2 : Addr} {odX2 anX2 : Option Addr} {slX2 : Array (Option Value)} {ocX2 kVX2 dcX2 pmX2 cdX2 ctX2 : Value} {fX3 : Addr} {odX3 anX3 : Option Addr} {slX3 : Array (Option Value)} {ocX3 kVX3 dcX3 pmX3 cdX3 ctX3 : Value} {fX4 : Addr} {odX4 anX4 : Option Addr} {slX4 : Array (Option Value)} {ocX4 kVX4 dcX4 pmX4 cdX4 ctX4 : Value} {fX5 : Addr} {odX5 anX5 : Option Addr} {slX5 : Array (Option Value)} {ocX5 kVX5 dcX5 pmX5 cdX5 ctX5 : Value} {fX6 : Addr} {odX6 anX6 : Option Addr} {slX6 : Array (Option Value)} {ocX6 kVX6 dcX6 pmX6 cdX6 ctX6 : Value} {fX7 : Addr} {odX7 anX7 : Option Addr} {slX7 : Array (Option Value)} {ocX7 kVX7 dcX7 pmX7 cdX7 ctX7 : Value} {fX8 : Addr} {odX8 anX8 : Option Addr} {slX8 : Array (Option Value)} {ocX8 kVX8 dcX8 pmX8 cdX8 ctX8 : Value} {fX9 : Addr} {odX9 anX9 : Option Addr} {slX9 : Array (Option Value)} {ocX9 kVX9 dcX9 pmX9 cdX9 ctX9 : Value} {fY1 : Addr} {odY1 anY1 : Option Addr} {slY1 : Array (Option Value)} {ocY1 kVY1 dcY1 pmY1 cdY1 ctY1 : Value} {fY2 : Addr} {odY2 anY2 : Option Addr} {slY2 : Array (Option Value)} {ocY2 kVY2 dcY2 pmY2 cdY2 ctY2 : Value} {fY3 : Addr} {odY3 anY3 : Option Addr} {slY3 : Array (Option Value)} {ocY3 kVY3 dcY3 pmY3 cdY3 ctY3 : Value} {fY4 : Addr} {odY4 anY4 : Option Addr} {slY4 : Array (Option Value)} {ocY4 kVY4 dcY4 pmY4 cdY4 ctY4 : Value} {fY5 : Addr} {odY5 anY5 : Option Addr} {slY5 : Array (Option Value)} {ocY5 kVY5 dcY5 pmY5 cdY5 ctY5 : Value} {fY6 : Addr} {odY6 anY6 : Option Addr} {slY6 : Array (Option Value)} {ocY6 kVY6 dcY6 pmY6 cdY6 ctY6 : Value} {fY7 : Addr} {odY7 anY7 : Option Addr} {slY7 : Array (Option Value)} {ocY7 kVY7 dcY7 pmY7 cdY7 ctY7 : Value} {fY8 : Addr} {odY8 anY8 : Option Addr} {slY8 : Array (Option Value)} {ocY8 kVY8 dcY8 pmY8 cdY8 ctY8 : Value} {fY9 : Addr} {odY9 anY9 : Option Addr} {slY9 : Array (Option Value)} {ocY9 kVY9 dcY9 pmY9 cdY9 ctY9 : Value} {fZ1 : Addr} {odZ1 anZ1 : Option Addr} {slZ1 : Array (Option Value)} {ocZ1 kVZ1 dcZ1 pmZ1 cdZ1 ctZ1 : Value} {fZ2 : Addr} {odZ2 anZ2 : Option Addr} {slZ2 : Array (Option Value)} {ocZ2 kVZ2 dcZ2 pmZ2 cdZ2 ctZ2 : Value} {fA : Addr} {odA anA : Option Addr} {slA : Array (Option Value)} {ocA kVA dcA pmA cdA ctA : Value} {fB : Addr} {odB anB : Option Addr} {slB : Array (Option Value)} {ocB kVB dcB pmB cdB ctB : Value} {fD : Addr} {odD anD : Option Addr} {slD : Array (Option Value)} {ocD kVD dcD pmD cdD ctD : Value} {fE : Addr} {odE anE : Option Addr} {slE : Array (Option Value)} {ocE kVE dcE pmE cdE ctE : Value} {fI : Addr} {odI anI : Option Addr} {slI : Array (Option Value)} {ocI kVI dcI pmI cdI ctI : Value} {fO : Addr} {odO anO : Option Addr} {slO : Array (Option Value)} {ocO kVO dcO pmO cdO ctO : Value} {fL : Addr} {odL anL : Option Addr} {slL : Array (Option Value)} {ocL kVL dcL pmL cdL ctL : Value} {fM : Addr} {odM anM : Option Addr} {slM : Array (Option Value)} {ocM kVM dcM pmM cdM ctM : Value} {fN : Addr} {odN anN : Option Addr} {slN : Array (Option Value)} {ocN kVN dcN pmN cdN ctN : Value} {fR : Addr} {odR anR : Option Addr} {slR : Array (Option Value)} {ocR kVR dcR pmR cdR ctR : Value} {fS : Addr} {odS anS : Option Addr} {slS : Array (Option Value)} {ocS kVS dcS pmS cdS ctS : Value} {C CN J : Addr} {nmT qT : Str} {NT : Addr} {bsT : List Value} {snT : List Str} {subT : List Value} {abT : Bool} {colT : Option Bool} {ddT : Option Addr} {v0 v1 v2 v3 v5 : Option Value} {odT anT : Option Addr} {slT : Array (Option Value)} {ocT dcT pmT cdT ctT : Value} {p1 p2 q1 q2 q3 q4 : Pos} {t1 t2 t3 t4 : Tok}
    (aX1 : PySem.W.nsIn K mainGlobals "is_square" = some (some (.ref fX1))) (lX1 : K.lookup fX1 = some ⟨ocX1, odX1, .func (PySem.W.fnOf "is_square" "is_square" (defArgs sIsSq) (defBody sIsSq) (defScope sIsSq) .none kVX1 dcX1 pmX1 anX1 cdX1 ctX1), slX1⟩) (cX1 : PySem.W.codeIn K cdX1 "is_square" = true) (kX1 : PySem.W.keepIn K (.ref fX1) = true)
    (aX2 : PySem.W.nsIn K mainGlobals "columns_of" = some (some (.ref fX2))) (lX2 : K.lookup fX2 = some ⟨ocX2, odX2, .func (PySem.W.fnOf "columns_of" "columns_of" (defArgs sCols) (defBody sCols) (defScope sCols) .none kVX2 dcX2 pmX2 anX2 cdX2 ctX2), slX2⟩) (cX2 : PySem.W.codeIn K cdX2 "columns_of" = true) (kX2 : PySem.W.keepIn K (.ref fX2) = true)
    (aX3 : PySem.W.nsIn K mainGlobals "is_integer" = some (some (.ref fX3))) (lX3 : K.lookup fX3 = some ⟨ocX3, odX3, .func (PySem.W.fnOf "is_integer" "is_integer" (defArgs sInt) (defBody sInt) (defScope sInt) .none kVX3 dcX3 pmX3 anX3 cdX3 ctX3), slX3⟩) (cX3 : PySem.W.codeIn K cdX3 "is_integer" = true) (kX3 : PySem.W.keepIn K (.ref fX3) = true)
    (aX4 : PySem.W.nsIn K mainGlobals "is_within" = some (some (.ref fX4))) (lX4 : K.lookup fX4 = some ⟨ocX4, odX4, .func (PySem.W.fnOf "is_within" "is_within" (defArgs sWithin) (defBody sWithin) (defScope sWithin) .none kVX4 dcX4 pmX4 anX4 cdX4 ctX4), slX4⟩) (cX4 : PySem.W.codeIn K cdX4 "is_within" = true) (kX4 : PySem.W.keepIn K (.ref fX4) = true)
    (aX5 : PySem.W.nsIn K mainGlobals "is_discriminant" = some (some (.ref fX5))) (lX5 : K.lookup fX5 = some ⟨ocX5, odX5, .func (PySem.W.fnOf "is_discriminant" "is_discriminant" (defArgs sDisc) (defBody sDisc) (defScope sDisc) .none kVX5 dcX5 pmX5 anX5 cdX5 ctX5), slX5⟩) (cX5 : PySem.W.codeIn K cdX5 "is_discriminant" = true) (kX5 : PySem.W.keepIn K (.ref fX5) = true)
    (aX6 : PySem.W.nsIn K mainGlobals "check_number" = some (some (.ref fX6))) (lX6 : K.lookup fX6 = some ⟨ocX6, odX6, .func (PySem.W.fnOf "check_number" "check_number" (defArgs sCheck) (defBody sCheck) (defScope sCheck) .none kVX6 dcX6 pmX6 anX6 cdX6 ctX6), slX6⟩) (cX6 : PySem.W.codeIn K cdX6 "check_number" = true) (kX6 : PySem.W.keepIn K (.ref fX6) = true)
    (aX7 : PySem.W.nsIn K mainGlobals "discriminant_at" = some (some (.ref fX7))) (lX7 : K.lookup fX7 = some ⟨ocX7, odX7, .func (PySem.W.fnOf "discriminant_at" "discriminant_at" (defArgs sDAt) (defBody sDAt) (defScope sDAt) .none kVX7 dcX7 pmX7 anX7 cdX7 ctX7), slX7⟩) (cX7 : PySem.W.codeIn K cdX7 "discriminant_at" = true) (kX7 : PySem.W.keepIn K (.ref fX7) = true)
    (aX8 : PySem.W.nsIn K mainGlobals "main_row" = some (some (.ref fX8))) (lX8 : K.lookup fX8 = some ⟨ocX8, odX8, .func (PySem.W.fnOf "main_row" "main_row" (defArgs sMain) (defBody sMain) (defScope sMain) .none kVX8 dcX8 pmX8 anX8 cdX8 ctX8), slX8⟩) (cX8 : PySem.W.codeIn K cdX8 "main_row" = true) (kX8 : PySem.W.keepIn K (.ref fX8) = true)
    (aX9 : PySem.W.nsIn K mainGlobals "is_reduced_row" = some (some (.ref fX9))) (lX9 : K.lookup fX9 = some ⟨ocX9, odX9, .func (PySem.W.fnOf "is_reduced_row" "is_reduced_row" (defArgs sRed) (defBody sRed) (defScope sRed) .none kVX9 dcX9 pmX9 anX9 cdX9 ctX9), slX9⟩) (cX9 : PySem.W.codeIn K cdX9 "is_reduced_row" = true) (kX9 : PySem.W.keepIn K (.ref fX9) = true)
    (aY1 : PySem.W.nsIn K mainGlobals "middle_behind" = some (some (.ref fY1))) (lY1 : K.lookup fY1 = some ⟨ocY1, odY1, .func (PySem.W.fnOf "middle_behind" "middle_behind" (defArgs sMid) (defBody sMid) (defScope sMid) .none kVY1 dcY1 pmY1 anY1 cdY1 ctY1), slY1⟩) (cY1 : PySem.W.codeIn K cdY1 "middle_behind" = true) (kY1 : PySem.W.keepIn K (.ref fY1) = true)
    (aY2 : PySem.W.nsIn K mainGlobals "row_behind" = some (some (.ref fY2))) (lY2 : K.lookup fY2 = some ⟨ocY2, odY2, .func (PySem.W.fnOf "row_behind" "row_behind" (defArgs sRowB) (defBody sRowB) (defScope sRowB) .none kVY2 dcY2 pmY2 anY2 cdY2 ctY2), slY2⟩) (cY2 : PySem.W.codeIn K cdY2 "row_behind" = true) (kY2 : PySem.W.keepIn K (.ref fY2) = true)
    (aY3 : PySem.W.nsIn K mainGlobals "path_behind" = some (some (.ref fY3))) (lY3 : K.lookup fY3 = some ⟨ocY3, odY3, .func (PySem.W.fnOf "path_behind" "path_behind" (defArgs sPathB) (defBody sPathB) (defScope sPathB) .none kVY3 dcY3 pmY3 anY3 cdY3 ctY3), slY3⟩) (cY3 : PySem.W.codeIn K cdY3 "path_behind" = true) (kY3 : PySem.W.keepIn K (.ref fY3) = true)
    (aY4 : PySem.W.nsIn K mainGlobals "reduced_behind" = some (some (.ref fY4))) (lY4 : K.lookup fY4 = some ⟨ocY4, odY4, .func (PySem.W.fnOf "reduced_behind" "reduced_behind" (defArgs sRedB) (defBody sRedB) (defScope sRedB) .none kVY4 dcY4 pmY4 anY4 cdY4 ctY4), slY4⟩) (cY4 : PySem.W.codeIn K cdY4 "reduced_behind" = true) (kY4 : PySem.W.keepIn K (.ref fY4) = true)
    (aY5 : PySem.W.nsIn K mainGlobals "change_around" = some (some (.ref fY5))) (lY5 : K.lookup fY5 = some ⟨ocY5, odY5, .func (PySem.W.fnOf "change_around" "change_around" (defArgs sAround) (defBody sAround) (defScope sAround) .none kVY5 dcY5 pmY5 anY5 cdY5 ctY5), slY5⟩) (cY5 : PySem.W.codeIn K cdY5 "change_around" = true) (kY5 : PySem.W.keepIn K (.ref fY5) = true)
    (aY6 : PySem.W.nsIn K mainGlobals "require_mixed_discriminant" = some (some (.ref fY6))) (lY6 : K.lookup fY6 = some ⟨ocY6, odY6, .func (PySem.W.fnOf "require_mixed_discriminant" "require_mixed_discriminant" (defArgs sReq) (defBody sReq) (defScope sReq) .none kVY6 dcY6 pmY6 anY6 cdY6 ctY6), slY6⟩) (cY6 : PySem.W.codeIn K cdY6 "require_mixed_discriminant" = true) (kY6 : PySem.W.keepIn K (.ref fY6) = true)
    (aY7 : PySem.W.nsIn K mainGlobals "least_unit" = some (some (.ref fY7))) (lY7 : K.lookup fY7 = some ⟨ocY7, odY7, .func (PySem.W.fnOf "least_unit" "least_unit" (defArgs sLeast) (defBody sLeast) (defScope sLeast) .none kVY7 dcY7 pmY7 anY7 cdY7 ctY7), slY7⟩) (cY7 : PySem.W.codeIn K cdY7 "least_unit" = true) (kY7 : PySem.W.keepIn K (.ref fY7) = true)
    (aY8 : PySem.W.nsIn K mainGlobals "least_minus_unit" = some (some (.ref fY8))) (lY8 : K.lookup fY8 = some ⟨ocY8, odY8, .func (PySem.W.fnOf "least_minus_unit" "least_minus_unit" (defArgs sMinus) (defBody sMinus) (defScope sMinus) .none kVY8 dcY8 pmY8 anY8 cdY8 ctY8), slY8⟩) (cY8 : PySem.W.codeIn K cdY8 "least_minus_unit" = true) (kY8 : PySem.W.keepIn K (.ref fY8) = true)
    (aY9 : PySem.W.nsIn K mainGlobals "unit_power" = some (some (.ref fY9))) (lY9 : K.lookup fY9 = some ⟨ocY9, odY9, .func (PySem.W.fnOf "unit_power" "unit_power" (defArgs sPower) (defBody sPower) (defScope sPower) .none kVY9 dcY9 pmY9 anY9 cdY9 ctY9), slY9⟩) (cY9 : PySem.W.codeIn K cdY9 "unit_power" = true) (kY9 : PySem.W.keepIn K (.ref fY9) = true)
    (aZ1 : PySem.W.nsIn K mainGlobals "unit_of" = some (some (.ref fZ1))) (lZ1 : K.lookup fZ1 = some ⟨ocZ1, odZ1, .func (PySem.W.fnOf "unit_of" "unit_of" (defArgs sUnitOf) (defBody sUnitOf) (defScope sUnitOf) .none kVZ1 dcZ1 pmZ1 anZ1 cdZ1 ctZ1), slZ1⟩) (cZ1 : PySem.W.codeIn K cdZ1 "unit_of" = true) (kZ1 : PySem.W.keepIn K (.ref fZ1) = true)
    (aZ2 : PySem.W.nsIn K mainGlobals "unit_product" = some (some (.ref fZ2))) (lZ2 : K.lookup fZ2 = some ⟨ocZ2, odZ2, .func (PySem.W.fnOf "unit_product" "unit_product" (defArgs sProd) (defBody sProd) (defScope sProd) .none kVZ2 dcZ2 pmZ2 anZ2 cdZ2 ctZ2), slZ2⟩) (cZ2 : PySem.W.codeIn K cdZ2 "unit_product" = true) (kZ2 : PySem.W.keepIn K (.ref fZ2) = true)
    (aA : PySem.W.nsIn K mainGlobals "_law_well" = some (some (.ref fA))) (lA : K.lookup fA = some ⟨ocA, odA, .func (PySem.W.fnOf "_law_well" "_law_well" (defArgs sWell) (defBody sWell) (defScope sWell) .none kVA dcA pmA anA cdA ctA), slA⟩) (cA : PySem.W.codeIn K cdA "_law_well" = true) (kA : PySem.W.keepIn K (.ref fA) = true)
    (aB : PySem.W.nsIn K mainGlobals "_law_dip" = some (some (.ref fB))) (lB : K.lookup fB = some ⟨ocB, odB, .func (PySem.W.fnOf "_law_dip" "_law_dip" (defArgs sDip) (defBody sDip) (defScope sDip) .none kVB dcB pmB anB cdB ctB), slB⟩) (cB : PySem.W.codeIn K cdB "_law_dip" = true) (kB : PySem.W.keepIn K (.ref fB) = true)
    (aD : PySem.W.nsIn K mainGlobals "_law_root" = some (some (.ref fD))) (lD : K.lookup fD = some ⟨ocD, odD, .func (PySem.W.fnOf "_law_root" "_law_root" (defArgs sRoot) (defBody sRoot) (defScope sRoot) .none kVD dcD pmD anD cdD ctD), slD⟩) (cD : PySem.W.codeIn K cdD "_law_root" = true) (kD : PySem.W.keepIn K (.ref fD) = true)
    (aE : PySem.W.nsIn K mainGlobals "_law_is_whole" = some (some (.ref fE))) (lE : K.lookup fE = some ⟨ocE, odE, .func (PySem.W.fnOf "_law_is_whole" "_law_is_whole" (defArgs sWhole) (defBody sWhole) (defScope sWhole) .none kVE dcE pmE anE cdE ctE), slE⟩) (cE : PySem.W.codeIn K cdE "_law_is_whole" = true) (kE : PySem.W.keepIn K (.ref fE) = true)
    (aI : PySem.W.nsIn K mainGlobals "_law_above" = some (some (.ref fI))) (lI : K.lookup fI = some ⟨ocI, odI, .func (PySem.W.fnOf "_law_above" "_law_above" (defArgs sAbove) (defBody sAbove) (defScope sAbove) .none kVI dcI pmI anI cdI ctI), slI⟩) (cI : PySem.W.codeIn K cdI "_law_above" = true) (kI : PySem.W.keepIn K (.ref fI) = true)
    (aO : PySem.W.nsIn K mainGlobals "_law_pair" = some (some (.ref fO))) (lO : K.lookup fO = some ⟨ocO, odO, .func (PySem.W.fnOf "_law_pair" "_law_pair" (defArgs sPair) (defBody sPair) (defScope sPair) .none kVO dcO pmO anO cdO ctO), slO⟩) (cO : PySem.W.codeIn K cdO "_law_pair" = true) (kO : PySem.W.keepIn K (.ref fO) = true)
    (aL : PySem.W.nsIn K mainGlobals "_law_unit" = some (some (.ref fL))) (lL : K.lookup fL = some ⟨ocL, odL, .func (PySem.W.fnOf "_law_unit" "_law_unit" (defArgs sUnit) (defBody sUnit) (defScope sUnit) .none kVL dcL pmL anL cdL ctL), slL⟩) (cL : PySem.W.codeIn K cdL "_law_unit" = true) (kL : PySem.W.keepIn K (.ref fL) = true)
    (aM : PySem.W.nsIn K mainGlobals "_law_searched" = some (some (.ref fM))) (lM : K.lookup fM = some ⟨ocM, odM, .func (PySem.W.fnOf "_law_searched" "_law_searched" (defArgs sSea) (defBody sSea) (defScope sSea) .none kVM dcM pmM anM cdM ctM), slM⟩) (cM : PySem.W.codeIn K cdM "_law_searched" = true) (kM : PySem.W.keepIn K (.ref fM) = true)
    (aN : PySem.W.nsIn K mainGlobals "_law_power_right" = some (some (.ref fN))) (lN : K.lookup fN = some ⟨ocN, odN, .func (PySem.W.fnOf "_law_power_right" "_law_power_right" (defArgs sPowR) (defBody sPowR) (defScope sPowR) .none kVN dcN pmN anN cdN ctN), slN⟩) (cN : PySem.W.codeIn K cdN "_law_power_right" = true) (kN : PySem.W.keepIn K (.ref fN) = true)
    (aR : PySem.W.nsIn K mainGlobals "_law_right" = some (some (.ref fR))) (lR : K.lookup fR = some ⟨ocR, odR, .func (PySem.W.fnOf "_law_right" "_law_right" (defArgs sRight) (defBody sRight) (defScope sRight) .none kVR dcR pmR anR cdR ctR), slR⟩) (cR : PySem.W.codeIn K cdR "_law_right" = true) (kR : PySem.W.keepIn K (.ref fR) = true)
    (aS : PySem.W.nsIn K mainGlobals "law" = some (some (.ref fS))) (lS : K.lookup fS = some ⟨ocS, odS, .func (PySem.W.fnOf "law" "law" (defArgs sLaw) (defBody sLaw) (defScope sLaw) .none kVS dcS pmS anS cdS ctS), slS⟩) (cS : PySem.W.codeIn K cdS "law" = true) (kS : PySem.W.keepIn K (.ref fS) = true)
    (z_isinstance : PySem.W.nsIn K mainGlobals "isinstance" = some none)
    (z_int : PySem.W.nsIn K mainGlobals "int" = some none)
    (z_bool : PySem.W.nsIn K mainGlobals "bool" = some none)
    (z_range : PySem.W.nsIn K mainGlobals "range" = some none)
    (z_len : PySem.W.nsIn K mainGlobals "len" = some none)
    (z_divmod : PySem.W.nsIn K mainGlobals "divmod" = some none)
    (z_abs : PySem.W.nsIn K mainGlobals "abs" = some none)
    (z_max : PySem.W.nsIn K mainGlobals "max" = some none)
    (z_min : PySem.W.nsIn K mainGlobals "min" = some none)
    (z_repr : PySem.W.nsIn K mainGlobals "repr" = some none)
    (z_tuple : PySem.W.nsIn K mainGlobals "tuple" = some none)
    (gT : PySem.W.nsIn K mainGlobals "TooGreat" = some (some (.ref C)))
    (gN : PySem.W.nsIn K mainGlobals "NoAnswer" = some (some (.ref CN)))
    (xT : K.lookup C = some (excClassObj nmT qT C NT bsT [.ref CN, .type "ArithmeticError", .type "Exception", .type "BaseException", .type "object"] true snT subT abT colT ddT v0 v1 v2 v3 v5 "ArithmeticError.__new__"))
    (saT : PySem.W.findIn K (.ref C) "__setattr__" = some (some (.builtin "object.__setattr__")))
    (gaT : PySem.W.findIn K (.ref C) "__getattribute__" = some (some (.builtin "BaseException.__getattribute__")))
    (ggT : PySem.W.findIn K (.ref C) "__getattr__" = some none)
    (nbT : PySem.W.findIn K (.ref C) "given" = some none)
    (jT : PySem.W.findIn K (.ref C) "__init__" = some (some (.ref J)))
    (jtT : PySem.W.typeIn K (.ref J) = some (.type "function"))
    (ljT : K.lookup J = some ⟨ocT, odT, .func (PySem.W.fnOf "__init__" "TooGreat.__init__" (PySem.XErr.inA "given" p1 p2) (PySem.XErr.inB "given" q1 q2 q3 q4) (PySem.XErr.inS "given") .none .none dcT pmT anT cdT ctT), slT⟩)
    (cjT : PySem.W.codeIn K cdT "TooGreat.__init__" = true)
    (kcT : PySem.W.keepIn K (.ref C) = true)
    (ecT : PySem.W.subIn K (.ref C) (.type "BaseException") = some true)
    (tcT : PySem.W.typeIn K (.ref C) = some (.type "type"))
    (hcT : PySem.W.hasDictIn K C = true)
    (scT : PySem.W.subIn K (.ref C) (.ref C) = some true)
    (clT : PySem.W.findIn K (.ref C) "__class__" = some (some (.builtin "object.__class__")))
    (spT : PySem.W.specialIn K (.builtin "object.__class__") "__get__" = some (some (.builtin "getset_descriptor.__get__")))
    (tkT : PySem.W.takesIn K (.builtin "object.__class__") = some true)
    (moT : PySem.W.mroIn K C (.type "object") = some true)
    (kitT : PySem.W.kitOne K (.ref C) (.ref CN) = some true)
    (gq : PySem.W.nsIn K mainGlobals "isqrt" = some (some (.builtin "math.isqrt")))
    (g1 : PySem.W.nsIn K mainGlobals "LEAST_DISCRIMINANT" = some (some (.int (-(10 ^ 5)) t1)))
    (g2 : PySem.W.nsIn K mainGlobals "MOST_DISCRIMINANT" = some (some (.int 1000 t2)))
    (g3 : PySem.W.nsIn K mainGlobals "MOST_EXPONENT" = some (some (.int 100 t3)))
    (g4 : PySem.W.nsIn K mainGlobals "MOST_ENTRY" = some (some (.int (10 ^ 60 * 10 ^ 15) t4))) :
    ∃ fd : FuncData, (∀ (s : Shared) (v : Value), BindsTo s fd ⟨[v], []⟩ [("_law_script", v)]) ∧ ∀ base : Heap, K.In base → base.Ns mainGlobals mg → Gu.GOk l.prog w K mg base CX0 9 fa fd ["_law_script"] (spLaw K) := by
  have e := hfa.symm.trans (PySem.W.mg_of X G aS)
  cases e
  have FX1 := fun_mk (st := sIsSq) lX1 cX1 kX1
  have mX1 := PySem.W.mg_of X G aX1
  have bX1 := FX1.binds (ps := ["number"]) fun _ _ _ _ _ _ us hl => match us, hl with | [_], _ => rfl
  have FX2 := fun_mk (st := sCols) lX2 cX2 kX2
  have mX2 := PySem.W.mg_of X G aX2
  have bX2 := FX2.binds (ps := ["rows"]) fun _ _ _ _ _ _ us hl => match us, hl with | [_], _ => rfl
  have FX3 := fun_mk (st := sInt) lX3 cX3 kX3
  have mX3 := PySem.W.mg_of X G aX3
  have bX3 := FX3.binds (ps := ["value"]) fun _ _ _ _ _ _ us hl => match us, hl with | [_], _ => rfl
  have FX4 := fun_mk (st := sWithin) lX4 cX4 kX4
  have mX4 := PySem.W.mg_of X G aX4
  have bX4 := FX4.binds (ps := ["value", "least", "most"]) fun _ _ _ _ _ _ us hl => match us, hl with | [_, _, _], _ => rfl
  have FX5 := fun_mk (st := sDisc) lX5 cX5 kX5
  have mX5 := PySem.W.mg_of X G aX5
  have bX5 := FX5.binds (ps := ["value"]) fun _ _ _ _ _ _ us hl => match us, hl with | [_], _ => rfl
  have FX6 := fun_mk (st := sCheck) lX6 cX6 kX6
  have mX6 := PySem.W.mg_of X G aX6
  have bX6 := FX6.binds (ps := ["number", "least", "most"]) fun _ _ _ _ _ _ us hl => match us, hl with | [_, _, _], _ => rfl
  have FX7 := fun_mk (st := sDAt) lX7 cX7 kX7
  have mX7 := PySem.W.mg_of X G aX7
  have bX7 := FX7.binds (ps := ["row"]) fun _ _ _ _ _ _ us hl => match us, hl with | [_], _ => rfl
  have FX8 := fun_mk (st := sMain) lX8 cX8 kX8
  have mX8 := PySem.W.mg_of X G aX8
  have bX8 := FX8.binds (ps := ["discriminant"]) fun _ _ _ _ _ _ us hl => match us, hl with | [_], _ => rfl
  have FX9 := fun_mk (st := sRed) lX9 cX9 kX9
  have mX9 := PySem.W.mg_of X G aX9
  have bX9 := FX9.binds (ps := ["row", "discriminant"]) fun _ _ _ _ _ _ us hl => match us, hl with | [_, _], _ => rfl
  have FY1 := fun_mk (st := sMid) lY1 cY1 kY1
  have mY1 := PySem.W.mg_of X G aY1
  have bY1 := FY1.binds (ps := ["row", "discriminant"]) fun _ _ _ _ _ _ us hl => match us, hl with | [_, _], _ => rfl
  have FY2 := fun_mk (st := sRowB) lY2 cY2 kY2
  have mY2 := PySem.W.mg_of X G aY2
  have bY2 := FY2.binds (ps := ["row", "discriminant"]) fun _ _ _ _ _ _ us hl => match us, hl with | [_, _], _ => rfl
  have FY3 := fun_mk (st := sPathB) lY3 cY3 kY3
  have mY3 := PySem.W.mg_of X G aY3
  have bY3 := FY3.binds (ps := ["path", "discriminant"]) fun _ _ _ _ _ _ us hl => match us, hl with | [_, _], _ => rfl
  have FY4 := fun_mk (st := sRedB) lY4 cY4 kY4
  have mY4 := PySem.W.mg_of X G aY4
  have bY4 := FY4.binds (ps := ["row", "discriminant"]) fun _ _ _ _ _ _ us hl => match us, hl with | [_, _], _ => rfl
  have FY5 := fun_mk (st := sAround) lY5 cY5 kY5
  have mY5 := PySem.W.mg_of X G aY5
  have bY5 := FY5.binds (ps := ["reduced"]) fun _ _ _ _ _ _ us hl => match us, hl with | [_], _ => rfl
  have FY6 := fun_mk (st := sReq) lY6 cY6 kY6
  have mY6 := PySem.W.mg_of X G aY6
  have bY6 := FY6.binds (ps := ["discriminant"]) fun _ _ _ _ _ _ us hl => match us, hl with | [_], _ => rfl
  have FY7 := fun_mk (st := sLeast) lY7 cY7 kY7
  have mY7 := PySem.W.mg_of X G aY7
  have bY7 := FY7.binds (ps := ["discriminant"]) fun _ _ _ _ _ _ us hl => match us, hl with | [_], _ => rfl
  have FY8 := fun_mk (st := sMinus) lY8 cY8 kY8
  have mY8 := PySem.W.mg_of X G aY8
  have bY8 := FY8.binds (ps := ["discriminant"]) fun _ _ _ _ _ _ us hl => match us, hl with | [_], _ => rfl
  have FY9 := fun_mk (st := sPower) lY9 cY9 kY9
  have mY9 := PySem.W.mg_of X G aY9
  have bY9 := FY9.binds (ps := ["discriminant", "many"]) fun _ _ _ _ _ _ us hl => match us, hl with | [_, _], _ => rfl
  have FZ1 := fun_mk (st := sUnitOf) lZ1 cZ1 kZ1
  have mZ1 := PySem.W.mg_of X G aZ1
  have bZ1 := FZ1.binds (ps := ["discriminant"]) fun _ _ _ _ _ _ us hl => match us, hl with | [_], _ => rfl
  have FZ2 := fun_mk (st := sProd) lZ2 cZ2 kZ2
  have mZ2 := PySem.W.mg_of X G aZ2
  have bZ2 := FZ2.binds (ps := ["unit", "other", "discriminant"]) fun _ _ _ _ _ _ us hl => match us, hl with | [_, _, _], _ => rfl
  have FA := fun_mk (st := sWell) lA cA kA
  have mA := PySem.W.mg_of X G aA
  have bA := FA.binds (ps := ["_law_script", "_law_k"]) fun _ _ _ _ _ _ us hl => match us, hl with | [_, _], _ => rfl
  have FB := fun_mk (st := sDip) lB cB kB
  have mB := PySem.W.mg_of X G aB
  have bB := FB.binds (ps := ["_law_well_here", "_law_much"]) fun _ _ _ _ _ _ us hl => match us, hl with | [_, _], _ => rfl
  have FD := fun_mk (st := sRoot) lD cD kD
  have mD := PySem.W.mg_of X G aD
  have bD := FD.binds (ps := ["_law_value"]) fun _ _ _ _ _ _ us hl => match us, hl with | [_], _ => rfl
  have FE := fun_mk (st := sWhole) lE cE kE
  have mE := PySem.W.mg_of X G aE
  have bE := FE.binds (ps := ["_law_whole"]) fun _ _ _ _ _ _ us hl => match us, hl with | [_], _ => rfl
  have FI := fun_mk (st := sAbove) lI cI kI
  have mI := PySem.W.mg_of X G aI
  have bI := FI.binds (ps := ["_law_well_here", "_law_top"]) fun _ _ _ _ _ _ us hl => match us, hl with | [_, _], _ => rfl
  have FO := fun_mk (st := sPair) lO cO kO
  have mO := PySem.W.mg_of X G aO
  have bO := FO.binds (ps := ["_law_whole"]) fun _ _ _ _ _ _ us hl => match us, hl with | [_], _ => rfl
  have FL := fun_mk (st := sUnit) lL cL kL
  have mL := PySem.W.mg_of X G aL
  have bL := FL.binds (ps := ["_law_whole"]) fun _ _ _ _ _ _ us hl => match us, hl with | [_], _ => rfl
  have FM := fun_mk (st := sSea) lM cM kM
  have mM := PySem.W.mg_of X G aM
  have bM := FM.binds (ps := ["_law_whole", "_law_end", "_law_most"]) fun _ _ _ _ _ _ us hl => match us, hl with | [_, _, _], _ => rfl
  have FN := fun_mk (st := sPowR) lN cN kN
  have mN := PySem.W.mg_of X G aN
  have bN := FN.binds (ps := ["_law_well_here", "_law_whole", "_law_base"]) fun _ _ _ _ _ _ us hl => match us, hl with | [_, _, _], _ => rfl
  have FR := fun_mk (st := sRight) lR cR kR
  have mR := PySem.W.mg_of X G aR
  have bR := FR.binds (ps := ["_law_well_here"]) fun _ _ _ _ _ _ us hl => match us, hl with | [_], _ => rfl
  have FS := fun_mk (st := sLaw) lS cS kS
  have mS := PySem.W.mg_of X G aS
  have bS := FS.binds (ps := ["_law_script"]) fun _ _ _ _ _ _ us hl => match us, hl with | [_], _ => rfl
  have n_isinstance := PySem.W.mg_none_of X G z_isinstance
  have n_int := PySem.W.mg_none_of X G z_int
  have n_bool := PySem.W.mg_none_of X G z_bool
  have n_range := PySem.W.mg_none_of X G z_range
  have n_len := PySem.W.mg_none_of X G z_len
  have n_divmod := PySem.W.mg_none_of X G z_divmod
  have n_abs := PySem.W.mg_none_of X G z_abs
  have n_max := PySem.W.mg_none_of X G z_max
  have n_min := PySem.W.mg_none_of X G z_min
  have n_repr := PySem.W.mg_none_of X G z_repr
  have n_tuple := PySem.W.mg_none_of X G z_tuple
  have mq := PySem.W.mg_of X G gq
  have m1 := PySem.W.mg_of X G g1
  have m2 := PySem.W.mg_of X G g2
  have m3 := PySem.W.mg_of X G g3
  have m4 := PySem.W.mg_of X G g4
  have mCN := PySem.W.mg_of X G gN
  have TGZ : TG K mg C J :=
    { fl := .inl rfl, at0 := PySem.W.mg_of X G gT, base := ⟨_, PySem.F.excBase_ArithmeticError⟩,
      row := ⟨nmT, qT, NT, bsT, _, snT, subT, abT, colT, ddT, v0, v1, v2, v3, v5, xT, PySem.XErr.bases_arith.own CN, fun Y => by rw [List.contains_cons]; rfl⟩,
      store := saT, load := gaT, load2 := ggT, free := nbT, ini := jT, iniT := jtT, kept := kcT, exc := ecT, typ := tcT, dic := hcT, own := PySem.W.exm_ref ecT hcT tcT scT,
      code := ⟨_, _, _, _, _, _, _, _, _, _, _, _, _, _, ljT, cjT⟩ }
  have TGX : ExcC K C := ⟨gaT, ggT, ecT, hcT, clT, spT, tkT, moT⟩
  refine ⟨PySem.W.fnOf "law" "law" (defArgs sLaw) (defBody sLaw) (defScope sLaw) .none kVS dcS pmS anS cdS ctS, fun s v => .of_eq rfl, fun base _ _ => ?_⟩
  have G1 : FnOk l.prog w K mg base CX0 _ _ _ _ _ := ok_isSq FX1 mq
  have G2 : FnOk l.prog w K mg base CX0 _ _ _ _ _ := ok_cols FX2 n_tuple n_range n_len
  have G3 : FnOk l.prog w K mg base CX0 _ _ _ _ _ := ok_int FX3 n_isinstance n_int n_bool
  have G4 : FnOk l.prog w K mg base CX0 _ _ _ _ _ := ok_within FX4 G3 mX3 kX3 bX3
  have G5 : FnOk l.prog w K mg base CX0 _ _ _ _ _ := ok_disc FX5 G4 mX4 kX4 bX4 G1 mX1 kX1 bX1 m1 m2
  have G6 : FnOk l.prog w K mg base CX0 _ _ _ _ _ := ok_check FX6 G4 mX4 kX4 bX4
  have G7 : FnOk l.prog w K mg base CX0 _ _ _ _ _ := ok_dAt FX7
  have G8 : FnOk l.prog w K mg base CX0 _ _ _ _ _ := ok_main FX8
  have G9 : FnOk l.prog w K mg base CX0 _ _ _ _ _ := ok_red FX9 mq n_abs
  have H1 : FnOk l.prog w K mg base CX0 _ _ _ _ _ := ok_mid FY1 mq n_abs n_max
  have H2 : FnOk l.prog w K mg base CX0 _ _ _ _ _ := ok_rowB FY2 H1 mY1 kY1 bY1
  have H3 : FnOk l.prog w K mg base CX0 _ _ _ _ _ := ok_pathB FY3 H2 mY2 kY2 bY2
  have H4 : FnOk l.prog w K mg base CX0 _ _ _ _ _ := ok_redB FY4 G9 mX9 kX9 bX9 H2 mY2 kY2 bY2
  have H5 : FnOk l.prog w K mg base CX0 _ _ _ _ _ := ok_around FY5 G7 mX7 kX7 bX7 H3 mY3 kY3 bY3 G2 mX2 kX2 bX2
  have H6 : FnOk l.prog w K mg base CX0 _ _ _ _ _ := ok_req FY6 G5 mX5 kX5 bX5
  have I1 : FnOk l.prog w K mg base CX0 _ _ _ _ _ := ok_unitOf FZ1 G8 mX8 kX8 bX8 H4 mY4 kY4 bY4 H5 mY5 kY5 bY5 n_abs
  have H7 : FnOk l.prog w K mg base CX0 _ _ _ _ _ := ok_least FY7 H6 mY6 kY6 bY6 I1 mZ1 kZ1 bZ1
  have H8 : FnOk l.prog w K mg base CX0 _ _ _ _ _ := ok_minus FY8 H6 mY6 kY6 bY6 I1 mZ1 kZ1 bZ1 mq
  have I2 : FnOk l.prog w K mg base CX0 _ _ _ _ _ := ok_prod FZ2
  have H9 : FnOk l.prog w K mg base (L2.CX l.prog w) _ _ _ _ _ := ok_power FY9 TGZ H6 mY6 kY6 bY6 G6 mX6 kX6 bX6 I1 mZ1 kZ1 bZ1 I2 mZ2 kZ2 bZ2 n_range m3 m4
  have GA : FnOk l.prog w K mg base CX0 _ _ _ _ _ := ok_well FA n_int n_len n_abs
  have GB : FnOk l.prog w K mg base CX0 _ _ _ _ _ := ok_dip FB n_int n_divmod
  have GD : FnOk l.prog w K mg base CX0 _ _ _ _ _ := ok_root FD
  have GE : FnOk l.prog w K mg base CX0 _ _ _ _ _ := ok_whole FE GD mD kD bD n_int
  have GI : FnOk l.prog w K mg base CX0 _ _ _ _ _ := ok_above FI GB mB kB bB GE mE kE bE n_range
  have GO : FnOk l.prog w K mg base CX0 _ _ _ _ _ := ok_pair FO GD mD kD bD n_int n_range
  have GL : FnOk l.prog w K mg base CX0 _ _ _ _ _ := ok_unit FL GO mO kO bO
  have GM : FnOk l.prog w K mg base CX0 _ _ _ _ _ := ok_sea FM GD mD kD bD n_range
  have GN : FnOk l.prog w K mg base CX0 _ _ _ _ _ := ok_powR FN ⟨TGZ, TGX, mCN, kitT, GB, mB, kB, bB, H9, mY9, kY9, bY9, kwPower FY9, n_range, n_isinstance⟩
  exact ok_law FS GA mA kA bA (ok_right FR ⟨GI, mI, kI, bI, GB, mB, kB, bB, GO, mO, kO, bO, GL, mL, kL, bL, H7, mY7, kY7, bY7, kwLeast FY7, H8, mY8, kY8, bY8, kwMinus FY8, GM, mM, kM, bM, GN, mN, kN, bN, n_range, n_repr⟩) mR kR bR n_range n_max n_min n_len
end K54
open PySem PySem.W PyProof.Rows
set_option maxHeartbeats 0 in
theorem PySem.Challenge.cw_formworld_k54_whole_least_units_holds : PySem.Challenge.rw_formworld_k54_whole_least_units.Holds := by
  w_on; o_law; k_head; (case hw => w_witness2)
  k_fill
  refine Gu.walk_ofG (law := PySem.Challenge.rw_formworld_k54_whole_least_units) (n := 63) (k := 9) (x := "_law_script") (sp := fun w => K54.spLaw _) rfl (by decide) rfl ⟨rfl, by decide, by decide⟩ (fun w h Y => PySem.W.kIn_of Y) ?F (fun _ _ a ns hl _ hS => ⟨a, ns, rfl, hS, hl, fun _ => rfl⟩)
  case F =>
    intro w mg fa h KX G hmg
    refine' K54.all_mk KX G hmg ?aX1 ?lX1 ?cX1 ?kX1 ?aX2 ?lX2 ?cX2 ?kX2 ?aX3 ?lX3 ?cX3 ?kX3 ?aX4 ?lX4 ?cX4 ?kX4 ?aX5 ?lX5 ?cX5 ?kX5 ?aX6 ?lX6 ?cX6 ?kX6 ?aX7 ?lX7 ?cX7 ?kX7 ?aX8 ?lX8 ?cX8 ?kX8 ?aX9 ?lX9 ?cX9 ?kX9 ?aY1 ?lY1 ?cY1 ?kY1 ?aY2 ?lY2 ?cY2 ?kY2 ?aY3 ?lY3 ?cY3 ?kY3 ?aY4 ?lY4 ?cY4 ?kY4 ?aY5 ?lY5 ?cY5 ?kY5 ?aY6 ?lY6 ?cY6 ?kY6 ?aY7 ?lY7 ?cY7 ?kY7 ?aY8 ?lY8 ?cY8 ?kY8 ?aY9 ?lY9 ?cY9 ?kY9 ?aZ1 ?lZ1 ?cZ1 ?kZ1 ?aZ2 ?lZ2 ?cZ2 ?kZ2 ?aA ?lA ?cA ?kA ?aB ?lB ?cB ?kB ?aD ?lD ?cD ?kD ?aE ?lE ?cE ?kE ?aI ?lI ?cI ?kI ?aO ?lO ?cO ?kO ?aL ?lL ?cL ?kL ?aM ?lM ?cM ?kM ?aN ?lN ?cN ?kN ?aR ?lR ?cR ?kR ?aS ?lS ?cS ?kS ?z_isinstance ?z_int ?z_bool ?z_range ?z_len ?z_divmod ?z_abs ?z_max ?z_min ?z_repr ?z_tuple ?gT ?gN ?xT ?saT ?gaT ?ggT ?nbT ?jT ?jtT ?ljT ?cjT ?kcT ?ecT ?tcT ?hcT ?scT ?clT ?spT ?tkT ?moT ?kitT ?gq ?g1 ?g2 ?g3 ?g4
    (case aX1 => k_is); (case lX1 => k_is); (case cX1 => k_is); (case kX1 => k_is); (case aX2 => k_is); (case lX2 => k_is); (case cX2 => k_is); (case kX2 => k_is); (case aX3 => k_is); (case lX3 => k_is); (case cX3 => k_is); (case kX3 => k_is); (case aX4 => k_is); (case lX4 => k_is); (case cX4 => k_is); (case kX4 => k_is); (case aX5 => k_is); (case lX5 => k_is); (case cX5 => k_is); (case kX5 => k_is); (case aX6 => k_is); (case lX6 => k_is); (case cX6 => k_is); (case kX6 => k_is); (case aX7 => k_is); (case lX7 => k_is); (case cX7 => k_is); (case kX7 => k_is); (case aX8 => k_is); (case lX8 => k_is); (case cX8 => k_is); (case kX8 => k_is); (case aX9 => k_is); (case lX9 => k_is); (case cX9 => k_is); (case kX9 => k_is); (case aY1 => k_is); (case lY1 => k_is); (case cY1 => k_is); (case kY1 => k_is); (case aY2 => k_is); (case lY2 => k_is); (case cY2 => k_is); (case kY2 => k_is); (case aY3 => k_is); (case lY3 => k_is); (case cY3 => k_is); (case kY3 => k_is); (case aY4 => k_is); (case lY4 => k_is); (case cY4 => k_is); (case kY4 => k_is); (case aY5 => k_is); (case lY5 => k_is); (case cY5 => k_is); (case kY5 => k_is); (case aY6 => k_is); (case lY6 => k_is); (case cY6 => k_is); (case kY6 => k_is); (case aY7 => k_is); (case lY7 => k_is); (case cY7 => k_is); (case kY7 => k_is); (case aY8 => k_is); (case lY8 => k_is); (case cY8 => k_is); (case kY8 => k_is); (case aY9 => k_is); (case lY9 => k_is); (case cY9 => k_is); (case kY9 => k_is); (case aZ1 => k_is); (case lZ1 => k_is); (case cZ1 => k_is); (case kZ1 => k_is); (case aZ2 => k_is); (case lZ2 => k_is); (case cZ2 => k_is); (case kZ2 => k_is); (case aA => k_is); (case lA => k_is); (case cA => k_is); (case kA => k_is); (case aB => k_is); (case lB => k_is); (case cB => k_is); (case kB => k_is); (case aD => k_is); (case lD => k_is); (case cD => k_is); (case kD => k_is); (case aE => k_is); (case lE => k_is); (case cE => k_is); (case kE => k_is); (case aI => k_is); (case lI => k_is); (case cI => k_is); (case kI => k_is); (case aO => k_is); (case lO => k_is); (case cO => k_is); (case kO => k_is); (case aL => k_is); (case lL => k_is); (case cL => k_is); (case kL => k_is); (case aM => k_is); (case lM => k_is); (case cM => k_is); (case kM => k_is); (case aN => k_is); (case lN => k_is); (case cN => k_is); (case kN => k_is); (case aR => k_is); (case lR => k_is); (case cR => k_is); (case kR => k_is); (case aS => k_is); (case lS => k_is); (case cS => k_is); (case kS => k_is); (case z_isinstance => k_is); (case z_int => k_is); (case z_bool => k_is); (case z_range => k_is); (case z_len => k_is); (case z_divmod => k_is); (case z_abs => k_is); (case z_max => k_is); (case z_min => k_is); (case z_repr => k_is); (case z_tuple => k_is); (case gT => k_is); (case gN => k_is); (case xT => k_is); (case saT => k_is); (case gaT => k_is); (case ggT => k_is); (case nbT => k_is); (case jT => k_is); (case jtT => k_is); (case ljT => k_is); (case cjT => k_is); (case kcT => k_is); (case ecT => k_is); (case tcT => k_is); (case hcT => k_is); (case scT => first | rfl | k_is); (case clT => k_is); (case spT => k_is); (case tkT => k_is); (case moT => k_is); (case kitT => first | k_is | kit_is); (case gq => k_is); (case g1 => k_is); (case g2 => k_is); (case g3 => k_is); (case g4 => k_is)
