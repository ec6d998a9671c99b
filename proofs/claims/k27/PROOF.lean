import PyProof.Rows.All
import Wide.All
import OpenK.AllK
import Wide.FinOn
import HandS.ForMost
import HandS.Defaults
import HandS.Style
import PyProof.ReprRoads
import HandS.Strs
import HandS.SetFor
import PyProof.Rows.SetFrom
import HandS.IsInst
import HandS.NoneIn
import HandS.Conv
import HandS.Walk
import PySem.Challenge.RW_formworld_k27_whole_rules_of_signs
set_option Elab.async false
set_option linter.all false
set_option maxRecDepth 100000
set_option maxHeartbeats 8000000
namespace Gu
open PySem PySem.Spec PyProof.Rows L2
section
variable {P : Program} {w : World} {K : PySem.W.Frag} {mg : Str → Option Value} {base : Heap}
/-- a def's promise where no repr is under way around the call -/
structure GOk (P : Program) (w : World) (K : PySem.W.Frag) (mg : Str → Option Value) (base : Heap) (CX : CXT) (lv : Nat) (fa : Addr) (fd : FuncData) (ps : List Str) (sp : Sp) : Prop where
  size : ∀ vs H Q E, sp vs H Q E → vs.length = ps.length
  go : ∀ (B : Around) (out : List Env) (t : Shared) (H : Hp) (ar : Args) (us : List Value) (vs : List V) (Q : VK) (E : XK), B.guards = some [] → Room lv B → Env0 P w K mg base B out t H → BindsTo t fd ar (ps.zip us) → Vals vs us → sp vs H Q E →
    codeAny (model P w) B (.call (.ref fa) ar) (CR CX out P w H t Q E) t
theorem GOk.of {CX : CXT} {lv : Nat} {fa : Addr} {fd : FuncData} {ps : List Str} {sp : Sp} (F : FnOk P w K mg base CX lv fa fd ps sp) : GOk P w K mg base CX lv fa fd ps sp :=
  ⟨F.len, fun B out t H ar us vs Q E _ a b c d e => F.run B out t H ar us vs Q E a b c d e⟩
theorem GOk.mk_of {CX : CXT} {lv : Nat} {fa : Addr} {nm ql : Str} {par : Arguments} {bod : List Stmt} {sco : Scope} {dV kV doc pm cdv ct oc : Value} {an od : Option Addr} {osl : Array (Option Value)} {N ps : List Str} {sp : Sp}
    (lk : K.lookup fa = some ⟨oc, od, .func (PySem.W.fnOf nm ql par bod sco dV kV doc pm an cdv ct), osl⟩) (hcd : PySem.W.codeIn K cdv ql = true) (S : FnScope N ps sco) (size : ∀ vs H Q E, sp vs H Q E → vs.length = ps.length)
    (hb : ∀ (B : Around) (out : List Env) (t : Shared) (H : Hp) (vs : List V) (Q : VK) (E : XK), (B.deeper (envOfC ql sco t.heap.objs.size fa cdv)).guards = some [] → Room lv (B.deeper (envOfC ql sco t.heap.objs.size fa cdv)) → sp vs H Q E →
      ∃ tm, PSs (cxOf CX P w K mg base N ql sco fa cdv B out t H E) bod tm ∧ tm { nx := fun _ H' => Q .non H', rt := Q } (start N vs) H) :
    GOk P w K mg base CX (lv + 1) fa (PySem.W.fnOf nm ql par bod sco dV kV doc pm an cdv ct) ps sp := by
  refine ⟨size, fun B out t H ar us vs Q E hgd hro e0 hbd hvs hsp => ?_⟩
  have inB : ∀ b o, base.get? b = some o → t.heap.get? b = some o := fun b o z => (e0.bs b o z).1
  have KX : K.In t.heap := e0.mod.kin.keeps inB
  have noL : t.heap.NoLimit := e0.mod.nolimit.keeps inB
  have kinds : ∀ y ∈ ps.zip us, sco.names.lookup y.1 = some .local ∨ (sco.names.lookup y.1 = some .cell ∧ ((cellsFrom (t.heap.objs.size + 1) sco.names []).lookup y.1).isSome = true) := by
    rintro ⟨n, v⟩ hy
    exact (S.par n (List.of_mem_zip hy).1).imp id fun z => ⟨z, PySem.W.cellsFrom_some _ _ _ (.inl z)⟩
  refine codeAny_call_function hro.depth (KX _ _ lk) rfl S.co S.gen rfl (PySem.W.codeRec_of KX hcd) (hbd _ _ _ _ (wpAny_newFunctionEnv_cells S.kind kinds fun en he t1 x => ?_))
  subst he
  refine ⟨noL.keeps x.toInCall.keep, codeAny_func ?_⟩
  obtain ⟨tm, hp, hq⟩ := hb B out t H vs Q E hgd (hro.deeper _) hsp
  have J0 := inv_start (CX := CX) (E := E) S hro.hd e0 (size _ _ _ _ hsp) hvs x
  refine wpAny_mono (hp.run [] t1 (start N vs) H _ J0 hq) (fun fl t2 hs => ?_) fun _ _ z => z
  cases fl with
  | ret u =>
    obtain ⟨v, _, H2, J, rv, q⟩ := hs
    exact ⟨v, H2, J.os, J.bare, J.base, J.hok, rv, q⟩
  | next =>
    obtain ⟨_, H2, J, q⟩ := hs
    exact ⟨V.non, H2, J.os, J.bare, J.base, J.hok, rfl, q⟩
  | brk => obtain ⟨_, _, _, q⟩ := hs; exact q.elim
  | cont => obtain ⟨_, _, _, q⟩ := hs; exact q.elim
/-- its body as a term, as for Fun.ok -/
theorem GOk.fun {x qual : Str} {st : Stmt} {fa : Addr} {fd : FuncData} {N ps : List Str} {lv : Nat} {sp : Sp} (F : Fun K x qual st fa fd) (S : FnScope N ps (defScope st)) (size : ∀ vs H Q E, sp vs H Q E → vs.length = ps.length)
    (hb : ∀ (cdv : Value) (B : Around) (out : List Env) (t : Shared) (H : Hp) (vs : List V) (Q : VK) (E : XK), (B.deeper (envOfC qual (defScope st) t.heap.objs.size fa cdv)).guards = some [] → Room lv (B.deeper (envOfC qual (defScope st) t.heap.objs.size fa cdv)) → sp vs H Q E →
      ∃ tm, PSs (cxOf CX0 P w K mg base N qual (defScope st) fa cdv B out t H E).nox (defBody st) tm ∧ tm { nx := fun _ H' => Q .non H', rt := Q } (start N vs) H) : GOk P w K mg base CX0 (lv + 1) fa fd ps sp := by
  obtain ⟨_, _, _, _, _, _, cdv, _, _, rfl, lk, hcd⟩ := F.ex
  refine GOk.mk_of lk hcd S size fun B out t H vs Q E hg hro hsp => ?_
  obtain ⟨tm, hp, q⟩ := hb cdv B out t H vs Q E hg hro hsp
  exact ⟨tm, hp.nox, q⟩
end
section
variable {X : Cx} {CX : CXT} {k : Nat} {f : Addr} {fd : FuncData} {ps : List Str} {sp : Sp} {dvs : List V} {ds : List Value} {E : XK} {x : Str} {p pos : Pos} {e : Expr} {es : List Expr} {t tk : TA} {kws : List Keyword} {ks : List Str} {g : List Value → List Value → List Value} {gV : List V → List V → List V}
theorem ends {pins : List (Addr × Obj)} {σ : L2.St} {H : Hp} {s : Shared} {Q : VK} (hx : Passes CX X E) (I : Inv X pins σ H s) {r : Result} {s' : Shared} (hq : CR CX X.stack X.prog X.w H s Q E r s') :
    match r with | .ok (.ret u) => EP X pins σ Q u s' | .ok _ => False | .error e => X.xe e s' := by
  cases r with
  | error z => exact hx pins σ H s z s' I hq
  | ok fl =>
    cases fl with
    | ret u => exact I.after hq
    | next => exact hq.elim
    | brk => exact hq.elim
    | cont => exact hq.elim
theorem runG {pins : List (Addr × Obj)} {σ : L2.St} {H : Hp} {s : Shared} {Q : VK} {us : List Value} {vs : List V} (F : GOk X.prog X.w X.K X.mg X.base CX k f fd ps sp) (hG : X.A.guards = some []) (hr : Room k X.A) (hb : Binds X.K fd ps ds) (hd : Vals dvs ds) (hx : Passes CX X E)
    (J : Inv X pins σ H s) (rv : Vals vs us) (hsp : sp (vs ++ dvs) H Q E) : wpAny (model X.prog X.w) X.A (call (.ref f) us) (EP X pins σ Q) X.xe s := by
  have rw2 := rv.append hd
  have hl : (us ++ ds).length = ps.length := rw2.length.symm.trans (F.size _ _ _ _ hsp)
  refine wpAny_call (codeAny_mono (F.go X.A X.stack s H ⟨us, []⟩ _ _ Q E hG hr J.env0 (hb s us J.kIn hl) rw2 hsp) fun r s' hq => ?_)
  have z := ends hx J hq
  cases r with
  | error e => exact z
  | ok fl => cases fl <;> exact z
/-- f(e, ..) of such a def -/
theorem pe_callG (F : GOk X.prog X.w X.K X.mg X.base CX k f fd ps sp) (hG : X.A.guards = some []) (hr : Room k X.A) (hg : Gl X x) (hm : X.mg x = some (.ref f)) (hk : PySem.W.keepIn X.K (.ref f) = true) (hb : Binds X.K fd ps ds) (hd : Vals dvs ds) (hx : Passes CX X E)
    (args : PA X (e :: es) t) (hdb : (x == ("__debug__" : Str)) = false := by decide) (hse : starEach (e :: es) X.env = (false, eval e X.env) :: starEach es X.env := by rfl) (hna : (backTo pos (starEach es X.env)).any (·.1) = false := by rfl) : PE X (.Call (.Name x p) (e :: es) [] pos) (tCall sp dvs E t) :=
  ⟨fun pins s σ H Q I h => wpAny_Call_Name_kw (ld_glob I hg hm (PySem.W.callWith_K (h₀ := X.base) I.ok.mod.kin hk (thn (args.run pos pins s σ H _ I h) fun us s1 ⟨vs, H1, I1, r, q⟩ => ⟨I1.kIn, runG F hG hr hb hd hx I1 r q⟩) hse hna) hdb)⟩
/-- f(k = e, ..), keywords alone -/
def tCallO (sp : Sp) (gV : List V → List V → List V) (m : Nat) (E : XK) (tk : TA) : TE := fun σ H Q => tk σ H fun zs H2 => zs.length = m ∧ sp (gV [] zs) H2 Q E
theorem pe_callO (F : FnOk X.prog X.w X.K X.mg X.base CX k f fd ps sp) (hr : Room k X.A) (hg : Gl X x) (hm : X.mg x = some (.ref f)) (hk : PySem.W.keepIn X.K (.ref f) = true) (hb : KBn X.K fd ps 0 ks g gV) (hx : Passes CX X E) (hkw : PK X kws tk)
    (hnm : (backToKw pos (keywordEach kws X.env)).all (·.1.isSome) = true := by rfl) (hks : (backToKw pos (keywordEach kws X.env)).filterMap (·.1) = ks := by rfl)
    (hdb : (x == ("__debug__" : Str)) = false := by decide) (hst : ((backTo pos (starEach [] X.env)).any (·.1) || (backToKw pos (keywordEach kws X.env)).any (·.1.isNone)) = false := by rfl) :
    PE X (.Call (.Name x p) [] kws pos) (tCallO sp gV ks.length E tk) := by
  constructor
  intro pins s σ H Q I h
  apply wpAny_Call_Name_kw
  refine ld_glob I hg hm (PySem.W.callWith_KW0 (h₀ := X.base) I.ok.mod.kin hk hnm ?_ hst) hdb
  refine thn (hkw.run pos pins s σ H _ I h) fun wv s2 ⟨zs, H2, I2, rz, lz, q2⟩ => ⟨I2.kIn, ?_⟩
  rw [hks]
  have r2 := hb.rel .nil rz
  refine wpAny_call (codeAny_mono (F.run X.A X.stack s2 H2 ⟨[], ks.zip wv⟩ _ _ Q E hr I2.env0 (hb.to s2 [] wv I2.kIn rfl (rz.length.symm.trans lz)) r2 q2) fun r s' hq => ?_)
  have z := ends hx I2 hq
  cases r with
  | error e => exact z
  | ok fl => cases fl <;> exact z
/-- repr of data -/
theorem call_reprD (hG : X.A.guards = some []) (hu : X.A.units + 64 < cLine) : CallR X (.builtin "repr") (fun xs H Q => ∃ a d, xs = [V.ref a] ∧ Dp X.K H (.ref a) d ∧ d.showable = true ∧ d.hasDict = false ∧ d.depth < 60 ∧ d.shown.length ≤ sizeLine ∧ Q (.str d.shown) H) := by
  intro pins s σ H xs us Q I rv hw
  obtain ⟨a, d, rfl, hd, hs, hn, hdp, hsz, q⟩ := hw
  cases rv with
  | cons r1 r2 =>
    cases r2
    obtain ⟨as, hr⟩ := Dp.reads I d _ _ hd r1
    cases r1
    exact repr_of_reads' hr hs (fun z => absurd (hn.symm.trans z) (by decide)) hG (by omega) (fun _ _ z => z) (fun h' u tk kp => ⟨.str _, H, I.kept kp, ⟨_, rfl⟩, q⟩) hsz
/-- bools by is, is not -/
theorem op_isB : OpR X (compareOp .IsNot) (fun x y H Q => ∃ b c, x = .bl b ∧ y = .bl c ∧ Q (.bl (b != c)) H) := by
  intro pins s σ H x y v u Q I rx ry hw
  obtain ⟨b1, b2, rfl, rfl, q⟩ := hw
  cases rx
  cases ry
  exact PyProof.Rows.isnot_bool ⟨.bl _, H, I, rfl, q⟩
end
section
/-- the law is called, nothing being under way -/
theorem law_callG {P : Program} {w : World} {K : PySem.W.Frag} {mg mb : Str → Option Value} {CX : CXT} {k : Nat} {fa a : Addr} {fd : FuncData} {x : Str} {sp : Sp} {t : Shared} {vs : List Value} {ns : List Int}
    (KX : K.In t.heap) (hns : t.heap.Ns mainGlobals mg) (hb : t.heap.Ns builtinsNs mb) (hbb : ∀ y : Str, y ≠ "__name__" → mb y = bootBuiltins y) (hlim : t.heap.NoLimit) (hg : t.gens = #[])
    (ha : t.heap.get? a = some { cls := .type "list", data := .seq vs.toArray }) (hi : IntsAre vs ns) (hl : ns.length ≤ sizeLine) (hr : Room k callerA)
    (F : ∀ base : Heap, K.In base → base.Ns mainGlobals mg → GOk P w K mg base CX k fa fd [x] sp) (hbind : ∀ (s : Shared) (u : Value), BindsTo s fd ⟨[u], []⟩ [(x, u)])
    (hkept : ∀ H : Hp, Only H → SqL K H a (ns.map V.int) → sp [.ref a] H (fun v _ => v = .bl true) fun _ _ _ => False) (hCX : ∀ H e s', CX [] H t (fun _ _ _ => False) e s' → False) :
    codeAny (model P w) callerA (.call (.ref fa) ⟨[.ref a], []⟩) (fun r s' => r = .ok (.ret (.bool true)) ∧ OldK t.heap s'.heap ∧ s'.os = t.os ∧ AllBare s'.gens) t := by
  have rv := vals_ints hi
  have main : ∀ H : Hp, Only H → SqL K H a (ns.map V.int) → HOk P w H t.heap → (∀ b, H b ≠ none → b = a) → (H a ≠ none → K.lookup a = none) →
      codeAny (model P w) callerA (.call (.ref fa) ⟨[.ref a], []⟩) (fun r s' => r = .ok (.ret (.bool true)) ∧ OldK t.heap s'.heap ∧ s'.os = t.os ∧ AllBare s'.gens) t := by
    intro H hO hS hok hA hK
    have keep : ∀ {b : Addr} {o : Obj}, t.heap.get? b = some o → (H b ≠ none → False) → (hidT t.heap H).get? b = some o := fun {b o} z n => hidT_get z (by
      cases q : H b with
      | none => rfl
      | some u => exact (n (by rw [q]; simp)).elim)
    have nsB : ∀ {b : Addr} {m : Str → Option Value}, t.heap.Ns b m → (hidT t.heap H).Ns b m := by
      rintro b m ⟨o, es, ep, z, d, r⟩
      refine ⟨o, es, ep, keep z fun hn => ?_, d, r⟩
      have hab := hA b hn
      subst hab
      rw [ha] at z
      cases z
      have bad : Data.seq vs.toArray _ = Data.dict es ep := d
      cases bad
    have KB : K.In (hidT t.heap H) := fun b o z => keep (KX b o z) fun hn => by
      have hab := hA b hn
      subst hab
      rw [hK hn] at z
      cases z
    obtain ⟨mc, c1, c2⟩ := hlim
    have M : Mod K mg (hidT t.heap H) := ⟨KB, nsB hns, ⟨mb, nsB hb, hbb⟩, ⟨mc, nsB c1, c2⟩⟩
    have none0 : ∀ b : Addr, b ∉ ([] : List Addr) := fun b z => absurd z List.not_mem_nil
    have e0 : Env0 P w K mg (hidT t.heap H) callerA [] t H := ⟨rfl, M, fun b o z => of_hidT z, Nat.le_of_eq (hidT_size _ _), trivial, fun b z => absurd z (none0 b), hok, .of_eq hg⟩
    refine codeAny_mono ((F _ KB (nsB hns)).go callerA [] t H ⟨[.ref a], []⟩ [.ref a] [.ref a] _ _ rfl hr e0 (hbind t (.ref a)) (.cons rfl .nil) (hkept H hO hS)) fun r s' z => ?_
    cases r with
    | error e => exact (hCX H e s' z).elim
    | ok fl =>
      cases fl with
      | next => exact z.elim
      | brk => exact z.elim
      | cont => exact z.elim
      | ret u =>
        obtain ⟨v, H2, os, bare, un, hok2, rv2, qv⟩ := z
        have qv2 : v = .bl true := qv
        subst qv2
        cases rv2
        refine ⟨rfl, OldK.of_keep fun b o z => ?_, os, bare⟩
        cases q : H b with
        | none => exact un.keep b o z q (fun y => absurd y (none0 b)) List.not_mem_nil
        | some u =>
          rcases hO b with y | ⟨ob, xs, y⟩
          · rw [q] at y
            cases y
          · obtain ⟨e1, _⟩ := hok b _ y
            obtain ⟨e2, _⟩ := hok2 b _ (un.frzs b ob _ y)
            rw [z] at e1
            cases e1
            exact e2
  cases hk : K.lookup a with
  | some o =>
    have z := KX a o hk
    rw [ha] at z
    cases z
    exact main (fun _ => none) (fun _ => .inl rfl) (.inr ⟨_, vs.toArray, _, hk, rfl, rfl, rfl, by rw [List.size_toArray, hi.length]; exact hl, by simpa using rv⟩) (fun b u y => by have y2 : (none : Option HO) = some u := y; cases y2) (fun b y => absurd rfl y) fun y => absurd rfl y
  | none =>
    refine main (fun b => if b = a then some (.frz { cls := .type "list", data := .seq vs.toArray } (.lst (ns.map V.int))) else none) (fun b => ?_) (.inl (.inr ⟨{ cls := .type "list", data := .seq vs.toArray }, if_pos rfl⟩)) (fun b u y => ?_) (fun b y => ?_) fun _ => hk
    · by_cases hb : b = a
      · exact Or.inr ⟨_, _, if_pos hb⟩
      · exact .inl (if_neg hb)
    · by_cases hb : b = a
      · subst hb
        have y2 := (if_pos rfl).symm.trans y
        cases y2
        refine ⟨ha, ?_, vs, _, rv, ha⟩
        rw [List.length_map]
        exact hl
      · have y2 := (if_neg hb).symm.trans y
        cases y2
    · exact Classical.byContradiction fun hb => y (if_neg hb)
/-- the end of a law, as walk_of -/
theorem walk_ofG {law : PySem.W.OpenLaw} {n k : Nat} {qq : Program} {lo : List Str} {XP : (Str → Option Value) → Heap → Prop} {YP : World → Heap → Prop} {dr : DefRec} {KK : Params → PySem.W.Frag} {sp : World → Sp} {x : Str}
    (hn : law.most = some n) (hsz : n ≤ sizeLine) (hdf : dr.params.defaults = []) (hro : Room k callerA) (hY : ∀ (w : World) (h : Heap), YP w h → (KK w.params).In h)
    (F : ∀ (w : World) (mg : Str → Option Value) (fa : Addr) (h : Heap), (KK w.params).In h → h.Ns mainGlobals mg → mg dr.name = some (.ref fa) →
      ∃ fd : FuncData, (∀ (s : Shared) (u : Value), BindsTo s fd ⟨[u], []⟩ [(x, u)]) ∧ ∀ bs : Heap, (KK w.params).In bs → bs.Ns mainGlobals mg → GOk law.prog w (KK w.params) mg bs CX0 k fa fd [x] (sp w))
    (hkept : ∀ (w : World) (H : Hp) (a : Addr) (ns : List Int), ns.length ≤ n → Only H → SqL (KK w.params) H a (ns.map V.int) → sp w [.ref a] H (fun v _ => v = .bl true) fun _ _ _ => False) : PySem.W.WalkO qq lo XP YP law.row.toRowW dr [] (fun f vs => PySem.call f vs) := by
  apply Att.attach_call hn hdf
  intro w _ t mg mb fa _ _ _ _ a vs ns G Y _ _ _ hmg hobj hints hlen hgens
  obtain ⟨fd, hbn, hF⟩ := F w mg fa _ (hY w _ Y) G.T.g hmg
  exact law_callG (hY w _ Y) G.T.g G.T.b G.T.builtins G.T.nolimit hgens hobj hints (Nat.le_trans hlen hsz) hro hF hbn (fun H hO hS => hkept w H a ns hlen hO hS) fun _ _ _ z => z
end
end Gu

namespace NT
/-! ### powers by squaring -/
def powMod : Nat → Nat → Nat → Nat → Nat
  | 0, _, _, m => 1 % m
  | f + 1, b, e, m => if e = 0 then 1 % m else
      let h := powMod f (b * b % m) (e / 2) m
      if e % 2 = 1 then b * h % m else h
theorem powMod_eq : ∀ (f b e m : Nat), e < 2 ^ f → powMod f b e m = b ^ e % m
  | 0, b, e, m, h => by
    have : e = 0 := by simpa using h
    subst this; rfl
  | f + 1, b, e, m, h => by
    unfold powMod
    by_cases h0 : e = 0
    · subst h0; simp
    · rw [if_neg h0]
      have h2 : e / 2 < 2 ^ f := by rw [Nat.pow_succ] at h; omega
      have ih := powMod_eq f (b * b % m) (e / 2) m h2
      have key : (b * b % m) ^ (e / 2) % m = (b ^ (2 * (e / 2))) % m := by
        rw [← Nat.pow_mod, Nat.pow_mul, Nat.pow_two]
      show (if e % 2 = 1 then b * powMod f (b * b % m) (e / 2) m % m else powMod f (b * b % m) (e / 2) m) = _
      rw [ih, key]
      by_cases h1 : e % 2 = 1
      · rw [if_pos h1]
        have : e = 2 * (e / 2) + 1 := by omega
        conv => rhs; rw [this, Nat.pow_succ, Nat.mul_comm, Nat.mul_mod]
        conv => lhs; rw [Nat.mul_mod, Nat.mod_mod]
      · rw [if_neg h1]
        have : 2 * (e / 2) = e := by omega
        rw [this]
/-! ### primes -/
def Prime (p : Nat) : Prop := 2 ≤ p ∧ ∀ d, d ∣ p → d = 1 ∨ d = p
theorem prime_of_trial {p k : Nat} (h2 : 2 ≤ p) (hk : p < k * k) (h : ∀ d, d < k → 2 ≤ d → p % d ≠ 0) : Prime p := by
  refine ⟨h2, fun d hd => ?_⟩
  by_cases h1 : d = 1
  · exact .inl h1
  by_cases hp : d = p
  · exact .inr hp
  exfalso
  obtain ⟨e, he⟩ := hd
  have d0 : d ≠ 0 := by rintro rfl; simp at he; omega
  have e0 : e ≠ 0 := by rintro rfl; simp at he; omega
  have e1 : e ≠ 1 := by rintro rfl; simp at he; exact hp he.symm
  by_cases hd : d < k
  · exact h d hd (by omega) (by rw [he]; exact Nat.mul_mod_right d e)
  · by_cases he' : e < k
    · exact h e he' (by omega) (by rw [he]; exact Nat.mul_mod_left d e)
    · have : k * k ≤ d * e := Nat.mul_le_mul (by omega) (by omega)
      omega
def noDiv (p : Nat) : Nat → Bool
  | 0 => true
  | k + 1 => (decide (k < 2) || decide (p % k ≠ 0)) && noDiv p k
theorem noDiv_spec {p : Nat} : ∀ {k : Nat}, noDiv p k = true → ∀ d, d < k → 2 ≤ d → p % d ≠ 0
  | 0, _, d, h, _ => by omega
  | k + 1, h, d, hd, h2 => by
    unfold noDiv at h
    rw [Bool.and_eq_true] at h
    by_cases e : d = k
    · subst e
      have := h.1
      simp at this
      rcases this with q | q
      · omega
      · exact q
    · exact noDiv_spec h.2 d (by omega) h2
theorem prime_by {p : Nat} (k : Nat) (h : (decide (2 ≤ p) && decide (p < k * k) && noDiv p k) = true) : Prime p := by
  simp only [Bool.and_eq_true, decide_eq_true_eq] at h
  exact prime_of_trial h.1.1 h.1.2 (noDiv_spec h.2)
theorem prime_coprime {p n : Nat} (hp : Prime p) (h : n % p ≠ 0) : Nat.Coprime p n := by
  unfold Nat.Coprime
  rcases hp.2 _ (Nat.gcd_dvd_left p n) with e | e
  · exact e
  · exfalso
    apply h
    have : p ∣ n := e ▸ Nat.gcd_dvd_right p n
    exact Nat.mod_eq_zero_of_dvd this
theorem prime_mul {p a b : Nat} (hp : Prime p) (ha : a % p ≠ 0) (hb : b % p ≠ 0) : (a * b) % p ≠ 0 := by
  intro h
  have := (prime_coprime hp ha).dvd_of_dvd_mul_left (Nat.dvd_of_mod_eq_zero h)
  exact hb (Nat.mod_eq_zero_of_dvd this)
/-! ### binomials -/
def C : Nat → Nat → Nat
  | _, 0 => 1
  | 0, _ + 1 => 0
  | n + 1, k + 1 => C n k + C n (k + 1)
theorem C_gt : ∀ (n k : Nat), n < k → C n k = 0
  | _, 0, h => by omega
  | 0, _ + 1, _ => rfl
  | n + 1, k + 1, h => by unfold C; rw [C_gt n k (by omega), C_gt n (k + 1) (by omega)]
theorem C_self : ∀ n, C n n = 1
  | 0 => rfl
  | n + 1 => by unfold C; rw [C_self n, C_gt n (n + 1) (by omega)]
theorem C_absorb : ∀ (n k : Nat), (k + 1) * C (n + 1) (k + 1) = (n + 1) * C n k
  | n, 0 => by
    show 1 * (C n 0 + C n 1) = (n + 1) * C n 0
    have h1 : ∀ n, C n 1 = n := by
      intro n; induction n with
      | zero => rfl
      | succ n ih => unfold C; rw [ih]; unfold C; omega
    have h0 : C n 0 = 1 := by unfold C; rfl
    rw [h0, h1]; omega
  | 0, k + 1 => by simp [C]
  | n + 1, k + 1 => by
    have i1 := C_absorb n k
    have i2 := C_absorb n (k + 1)
    have e1 : C (n + 1 + 1) (k + 1 + 1) = C (n + 1) (k + 1) + C (n + 1) (k + 1 + 1) := rfl
    have e2 : C (n + 1) (k + 1) = C n k + C n (k + 1) := rfl
    rw [e1]
    have : (k + 1 + 1) * (C (n + 1) (k + 1) + C (n + 1) (k + 1 + 1)) = (k + 1) * C (n + 1) (k + 1) + C (n + 1) (k + 1) + (k + 1 + 1) * C (n + 1) (k + 1 + 1) := by
      rw [Nat.mul_add, Nat.add_mul (k + 1) 1 (C (n + 1) (k + 1)), Nat.one_mul]
    rw [this, i1, i2, e2]
    have : (n + 1 + 1) * (C n k + C n (k + 1)) = (n + 1) * C n k + (C n k + C n (k + 1)) + (n + 1) * C n (k + 1) := by
      rw [Nat.add_mul (n + 1) 1, Nat.mul_add, Nat.one_mul]; omega
    omega
/-- sum of f k for k < n -/
def S (f : Nat → Nat) : Nat → Nat
  | 0 => 0
  | n + 1 => S f n + f n
theorem S_congr {f g : Nat → Nat} : ∀ n, (∀ k, k < n → f k = g k) → S f n = S g n
  | 0, _ => rfl
  | n + 1, h => by unfold S; rw [S_congr n fun k hk => h k (by omega), h n (by omega)]
theorem S_add (f g : Nat → Nat) : ∀ n, S (fun k => f k + g k) n = S f n + S g n
  | 0 => rfl
  | n + 1 => by unfold S; rw [S_add f g n]; omega
theorem S_mul (f : Nat → Nat) (c : Nat) : ∀ n, S (fun k => c * f k) n = c * S f n
  | 0 => rfl
  | n + 1 => by unfold S; rw [S_mul f c n, Nat.mul_add]
theorem S_shift (f : Nat → Nat) : ∀ n, S f (n + 1) = f 0 + S (fun k => f (k + 1)) n
  | 0 => by unfold S; unfold S; omega
  | n + 1 => by
    show S f (n + 1) + f (n + 1) = f 0 + (S (fun k => f (k + 1)) n + f (n + 1))
    rw [S_shift f n]; omega
theorem S_dvd {f : Nat → Nat} {p : Nat} : ∀ n, (∀ k, k < n → p ∣ f k) → p ∣ S f n
  | 0, _ => Nat.dvd_zero p
  | n + 1, h => by unfold S; exact Nat.dvd_add (S_dvd n fun k hk => h k (by omega)) (h n (by omega))
theorem binom (x : Nat) : ∀ n, (x + 1) ^ n = S (fun k => C n k * x ^ k) (n + 1)
  | 0 => by simp [S, C]
  | n + 1 => by
    have ih := binom x n
    rw [Nat.pow_succ, ih, Nat.mul_add, Nat.mul_one]
    rw [S_shift (fun k => C (n + 1) k * x ^ k) (n + 1)]
    have e : S (fun k => C (n + 1) (k + 1) * x ^ (k + 1)) (n + 1) = S (fun k => x * (C n k * x ^ k)) (n + 1) + S (fun k => C n (k + 1) * x ^ (k + 1)) (n + 1) := by
      rw [← S_add]
      refine S_congr _ fun k _ => ?_
      show (C n k + C n (k + 1)) * x ^ (k + 1) = _
      rw [Nat.add_mul, Nat.pow_succ, ← Nat.mul_assoc, Nat.mul_comm (C n k * x ^ k) x]
    have e2 : C (n + 1) 0 * x ^ 0 + S (fun k => C n (k + 1) * x ^ (k + 1)) (n + 1) = S (fun k => C n k * x ^ k) (n + 1 + 1) := by
      rw [S_shift (fun k => C n k * x ^ k) (n + 1)]
      simp [C]
    have e3 : S (fun k => C n k * x ^ k) (n + 1 + 1) = S (fun k => C n k * x ^ k) (n + 1) := by
      show S (fun k => C n k * x ^ k) (n + 1) + C n (n + 1) * x ^ (n + 1) = _
      rw [C_gt n (n + 1) (by omega)]; omega
    rw [e, S_mul]
    have hx : S (fun k => C n k * x ^ k) (n + 1) * x = x * S (fun k => C n k * x ^ k) (n + 1) := Nat.mul_comm _ _
    rw [hx]
    show _ = C (n + 1) 0 * x ^ 0 + (x * S (fun k => C n k * x ^ k) (n + 1) + S (fun k => C n (k + 1) * x ^ (k + 1)) (n + 1))
    omega
theorem prime_C {p k : Nat} (hp : Prime p) (h0 : 0 < k) (hk : k < p) : p ∣ C p k := by
  obtain ⟨n, rfl⟩ : ∃ n, p = n + 1 := ⟨p - 1, by have := hp.1; omega⟩
  obtain ⟨j, rfl⟩ : ∃ j, k = j + 1 := ⟨k - 1, by omega⟩
  have e := C_absorb n j
  have hc : Nat.Coprime (n + 1) (j + 1) := prime_coprime hp (by rw [Nat.mod_eq_of_lt hk]; omega)
  exact hc.dvd_of_dvd_mul_left (e ▸ Nat.dvd_mul_right (n + 1) (C n j))
theorem fermat' {p : Nat} (hp : Prime p) : ∀ x : Nat, x ^ p % p = x % p
  | 0 => by
    obtain ⟨n, rfl⟩ : ∃ n, p = n + 1 := ⟨p - 1, by have := hp.1; omega⟩
    rw [Nat.pow_succ, Nat.mul_zero]
  | x + 1 => by
    have ih := fermat' hp x
    obtain ⟨n, rfl⟩ : ∃ n, p = n + 1 := ⟨p - 1, by have := hp.1; omega⟩
    rw [binom x (n + 1)]
    show (S (fun k => C (n + 1) k * x ^ k) (n + 1) + C (n + 1) (n + 1) * x ^ (n + 1)) % (n + 1) = _
    rw [S_shift, C_self, Nat.one_mul]
    have hd : (n + 1) ∣ S (fun k => C (n + 1) (k + 1) * x ^ (k + 1)) n := S_dvd n fun k hk => Nat.dvd_trans (prime_C hp (by omega) (by omega)) (Nat.dvd_mul_right _ _)
    obtain ⟨q, hq⟩ := hd
    rw [hq]
    have : C (n + 1) 0 * x ^ 0 = 1 := by simp [C]
    show (C (n + 1) 0 * x ^ 0 + (n + 1) * q + x ^ (n + 1)) % (n + 1) = _
    rw [this]
    rw [show 1 + (n + 1) * q + x ^ (n + 1) = (x ^ (n + 1) + 1) + (n + 1) * q by omega, Nat.add_mul_mod_self_left, Nat.add_mod, ih, ← Nat.add_mod]
theorem fermat {p x : Nat} (hp : Prime p) (hx : x % p ≠ 0) : x ^ (p - 1) % p = 1 := by
  have h := fermat' hp x
  have hp2 := hp.1
  obtain ⟨n, rfl⟩ : ∃ n, p = n + 1 := ⟨p - 1, by omega⟩
  show x ^ n % (n + 1) = 1
  have hx1 : 1 ≤ x ^ n := Nat.pos_of_ne_zero (fun z => by
    have : x ≠ 0 := fun e => hx (by rw [e]; exact Nat.zero_mod _)
    exact absurd z (Nat.pos_iff_ne_zero.mp (Nat.pow_pos (Nat.pos_of_ne_zero this))))
  have hd : (n + 1) ∣ x * (x ^ n - 1) := by
    rw [Nat.mul_sub, Nat.mul_one, Nat.mul_comm x, ← Nat.pow_succ]
    exact Nat.dvd_of_mod_eq_zero (Nat.sub_mod_eq_zero_of_mod_eq h)
  have := (prime_coprime hp hx).dvd_of_dvd_mul_left hd
  obtain ⟨q, hq⟩ := this
  have e : x ^ n = 1 + (n + 1) * q := by omega
  rw [e, Nat.add_mul_mod_self_left]
  exact Nat.mod_eq_of_lt (by omega)
end NT

namespace NT
theorem ipow_emod (u p : Int) : ∀ n : Nat, u ^ n % p = (u % p) ^ n % p
  | 0 => by simp
  | n + 1 => by
    rw [Int.pow_succ, Int.pow_succ, Int.mul_emod, ipow_emod u p n, Int.mul_emod ((u % p) ^ n)]
    simp
/-- a = p ^ k * u, u not divided by p -/
structure Spl (p a : Int) (k : Nat) (u : Int) : Prop where
  eq : a = p ^ k * u
  nd : u % p ≠ 0
theorem Spl.uniq {p a : Int} (hp : 2 ≤ p) : ∀ {k : Nat} {u : Int} {k' : Nat} {u' : Int}, Spl p a k u → Spl p a k' u' → k = k' ∧ u = u'
  | 0, u, 0, u', h, h' => ⟨rfl, by have := h.eq; have := h'.eq; simp at *; omega⟩
  | 0, u, k' + 1, u', h, h' => by
    exfalso
    have e := h.eq.symm.trans h'.eq
    apply h.nd
    have : u = p * (p ^ k' * u') := by rw [Int.pow_succ] at e; simp at e; rw [e, Int.mul_comm (p ^ k') p, Int.mul_assoc]
    rw [this, Int.mul_emod_right]
  | k + 1, u, 0, u', h, h' => by
    exfalso
    have e := h'.eq.symm.trans h.eq
    apply h'.nd
    have : u' = p * (p ^ k * u) := by rw [Int.pow_succ] at e; simp at e; rw [e, Int.mul_comm (p ^ k) p, Int.mul_assoc]
    rw [this, Int.mul_emod_right]
  | k + 1, u, k' + 1, u', h, h' => by
    have e := h.eq.symm.trans h'.eq
    have e2 : p * (p ^ k * u) = p * (p ^ k' * u') := by
      rw [Int.pow_succ, Int.pow_succ, Int.mul_comm (p ^ k) p, Int.mul_comm (p ^ k') p, Int.mul_assoc, Int.mul_assoc] at e
      exact e
    have e3 : p ^ k * u = p ^ k' * u' := Int.eq_of_mul_eq_mul_left (by omega) e2
    obtain ⟨a1, a2⟩ := Spl.uniq hp (a := p ^ k * u) ⟨rfl, h.nd⟩ ⟨e3, h'.nd⟩
    exact ⟨by rw [a1], a2⟩
theorem Spl.mul {p a b : Int} {k l : Nat} {u v : Int} (h : Spl p a k u) (h' : Spl p b l v) (hn : (u * v) % p ≠ 0) : Spl p (a * b) (k + l) (u * v) := by
  refine ⟨?_, hn⟩
  rw [h.eq, h'.eq, Int.pow_add, Int.mul_assoc, Int.mul_assoc, Int.mul_left_comm u]
/-- what is_local_square tells -/
def sqU (p u : Int) : Bool := if p = 2 then decide (u % 8 = 1) else decide (u ^ (p / 2).toNat % p = 1)
def sqB (p : Int) (k : Nat) (u : Int) : Bool := decide (k % 2 = 0) && sqU p u
/-- the law's own list of rests -/
def rests (s : Nat) (u : Int) : List Nat := (List.range s).filter fun j => decide (((j : Int) * j - u) % s = 0)
def rsz (p : Int) : Nat := if p = 2 then 8 else p.toNat
def restU (p u : Int) : Bool := !(rests (rsz p) u).isEmpty
theorem rests_emod (s : Nat) (u : Int) : rests s u = rests s (u % s) := by
  unfold rests
  congr 1
  funext j
  have : ((j : Int) * j - u) % s = ((j : Int) * j - u % s) % s := by
    rw [Int.sub_emod, Int.sub_emod ((j : Int) * j) (u % s), Int.emod_emod]
  rw [this]
def five (p : Int) : Prop := p = 2 ∨ p = 3 ∨ p = 5 ∨ p = 7 ∨ p = 13
theorem sq_rest2 {u : Int} (h : u % 2 ≠ 0) : sqU 2 u = restU 2 u := by
  have e : rsz 2 = 8 := rfl
  unfold sqU restU
  rw [if_pos rfl, e, rests_emod]
  have : u % 8 = 1 ∨ u % 8 = 3 ∨ u % 8 = 5 ∨ u % 8 = 7 := by omega
  show decide (u % 8 = 1) = !(rests 8 (u % 8)).isEmpty
  rcases this with z | z | z | z <;> rw [z] <;> decide
theorem sq_rest_odd {p : Nat} {u : Int} (hp : (p : Int) ≠ 2) (h0 : 0 < p) (h : u % p ≠ 0)
    (hd : ∀ r : Nat, r < p → r ≠ 0 → decide ((r : Int) ^ ((p : Int) / 2).toNat % p = 1) = !(rests p r).isEmpty) : sqU p u = restU p u := by
  have e : rsz p = p := by unfold rsz; rw [if_neg hp]; rfl
  unfold sqU restU
  rw [if_neg hp, e, rests_emod, ipow_emod]
  have h1 : 0 ≤ u % p := Int.emod_nonneg _ (by omega)
  have h2 : u % p < p := Int.emod_lt_of_pos _ (by omega)
  obtain ⟨r, hr⟩ : ∃ r : Nat, u % p = r := ⟨(u % p).toNat, by omega⟩
  rw [hr] at h h2 ⊢
  exact hd r (by omega) (by omega)
theorem sq_rest {p u : Int} (hp : five p) (h : u % p ≠ 0) : sqU p u = restU p u := by
  rcases hp with rfl | rfl | rfl | rfl | rfl
  · exact sq_rest2 h
  · exact sq_rest_odd (p := 3) (by decide) (by decide) h (by decide)
  · exact sq_rest_odd (p := 5) (by decide) (by decide) h (by decide)
  · exact sq_rest_odd (p := 7) (by decide) (by decide) h (by decide)
  · exact sq_rest_odd (p := 13) (by decide) (by decide) h (by decide)
/-! products -/
theorem nd_mul {p u v : Int} (hp : Prime p.toNat) (h0 : 0 ≤ p) (hu : u % p ≠ 0) (hv : v % p ≠ 0) : (u * v) % p ≠ 0 := by
  intro h
  have hd : p ∣ u * v := Int.dvd_of_emod_eq_zero h
  have hd2 : p.toNat ∣ u.natAbs * v.natAbs := by
    rw [← Int.natAbs_mul]
    have := Int.natAbs_dvd_natAbs.mpr hd
    have e : p.natAbs = p.toNat := by omega
    rwa [e] at this
  have key : ∀ x : Int, x % p ≠ 0 → x.natAbs % p.toNat ≠ 0 := by
    intro x hx hz
    apply hx
    have d1 : p.toNat ∣ x.natAbs := Nat.dvd_of_mod_eq_zero hz
    have e : p.natAbs = p.toNat := by omega
    rw [← e] at d1
    exact Int.emod_eq_zero_of_dvd (Int.natAbs_dvd_natAbs.mp d1)
  exact prime_mul hp (key u hu) (key v hv) (Nat.mod_eq_zero_of_dvd hd2)
theorem sqU_self {p u : Int} (hp : Prime p.toNat) (h0 : 0 ≤ p) (hodd : p = 2 ∨ p % 2 = 1) (hu : u % p ≠ 0) : sqU p (u * u) = true := by
  unfold sqU
  by_cases e : p = 2
  · subst e
    rw [if_pos rfl]
    have : u % 8 = 1 ∨ u % 8 = 3 ∨ u % 8 = 5 ∨ u % 8 = 7 := by omega
    rw [Int.mul_emod]
    rcases this with z | z | z | z <;> rw [z] <;> decide
  · rw [if_neg e]
    have hodd' : p % 2 = 1 := by rcases hodd with z | z; exact absurd z e; exact z
    have key : (u.natAbs) ^ (p.toNat - 1) % p.toNat = 1 := by
      refine fermat hp ?_
      intro hz
      apply hu
      have d1 : p.toNat ∣ u.natAbs := Nat.dvd_of_mod_eq_zero hz
      have e : p.natAbs = p.toNat := by omega
      rw [← e] at d1
      exact Int.emod_eq_zero_of_dvd (Int.natAbs_dvd_natAbs.mp d1)
    have e1 : u * u = ((u.natAbs * u.natAbs : Nat) : Int) := by
      rw [Int.natCast_mul]
      exact (Int.natAbs_mul_self' u).symm
    have e2 : (u.natAbs * u.natAbs) ^ (p / 2).toNat = u.natAbs ^ (p.toNat - 1) := by
      rw [← Nat.pow_two, ← Nat.pow_mul]
      congr 1
      omega
    have e3 : (u * u) ^ (p / 2).toNat % p = 1 := by
      rw [e1, ← Int.natCast_pow, e2]
      have ep : p = ((p.toNat : Nat) : Int) := by omega
      rw [ep]
      show (((u.natAbs ^ (p.toNat - 1) : Nat) : Int) % ((p.toNat : Nat) : Int)) = 1
      rw [← Int.natCast_emod, key]; rfl
    rw [e3]; rfl
theorem sqB_self {p a : Int} {k : Nat} {u : Int} (hp : Prime p.toNat) (h0 : 0 ≤ p) (hodd : p = 2 ∨ p % 2 = 1) (h : Spl p a k u) : ∃ k' u', Spl p (a * a) k' u' ∧ sqB p k' u' = true := by
  refine ⟨k + k, u * u, h.mul h (nd_mul hp h0 h.nd h.nd), ?_⟩
  unfold sqB
  rw [sqU_self hp h0 hodd h.nd]
  simp
  omega
theorem five_prime {p : Int} (h : five p) : Prime p.toNat ∧ 2 ≤ p ∧ (p = 2 ∨ p % 2 = 1) ∧ p ≤ 13 := by
  rcases h with rfl | rfl | rfl | rfl | rfl
  · exact ⟨prime_by 2 (by decide), by decide, .inl rfl, by decide⟩
  · exact ⟨prime_by 2 (by decide), by decide, .inr rfl, by decide⟩
  · exact ⟨prime_by 4 (by decide), by decide, .inr rfl, by decide⟩
  · exact ⟨prime_by 4 (by decide), by decide, .inr rfl, by decide⟩
  · exact ⟨prime_by 4 (by decide), by decide, .inr rfl, by decide⟩
/-- the product of units: a square if both are, none if just one is -/
theorem sqU_mul {p u v : Int} (hp : five p) (hu : u % p ≠ 0) (hv : v % p ≠ 0) (h : sqU p u = true ∨ sqU p v = true) : sqU p (u * v) = (sqU p u && sqU p v) := by
  have gen : ∀ (p : Nat), 0 < p → (p : Int) ≠ 2 → (∀ r : Nat, r < p → ∀ s : Nat, s < p → r ≠ 0 → s ≠ 0 → (decide ((r : Int) ^ ((p : Int) / 2).toNat % p = 1) || decide ((s : Int) ^ ((p : Int) / 2).toNat % p = 1)) = true → decide (((r * s : Nat) : Int) ^ ((p : Int) / 2).toNat % p = 1) = (decide ((r : Int) ^ ((p : Int) / 2).toNat % p = 1) && decide ((s : Int) ^ ((p : Int) / 2).toNat % p = 1))) →
      u % p ≠ 0 → v % p ≠ 0 → (sqU p u = true ∨ sqU p v = true) → sqU p (u * v) = (sqU p u && sqU p v) := by
    intro p h0 h2 hd hu hv h
    have e1 : ∀ x : Int, sqU p x = decide ((x % p) ^ ((p : Int) / 2).toNat % p = 1) := by
      intro x; unfold sqU; rw [if_neg h2, ipow_emod]
    have pz : (p : Int) ≠ 0 := by omega
    have ppos : (0 : Int) < p := by omega
    obtain ⟨r, hr⟩ : ∃ r : Nat, u % p = r := ⟨(u % p).toNat, by have := Int.emod_nonneg u pz; omega⟩
    obtain ⟨s, hs⟩ : ∃ s : Nat, v % p = s := ⟨(v % p).toNat, by have := Int.emod_nonneg v pz; omega⟩
    have hr2 := Int.emod_lt_of_pos u ppos
    have hs2 := Int.emod_lt_of_pos v ppos
    rw [e1, e1] at h
    rw [e1, e1, e1]
    have e3 : (u * v % p) ^ ((p : Int) / 2).toNat % p = (((r * s : Nat) : Int)) ^ ((p : Int) / 2).toNat % p := by
      rw [Int.mul_emod, hr, hs, ← ipow_emod, Int.natCast_mul]
    rw [e3]
    rw [hr] at hu hr2 h ⊢
    rw [hs] at hv hs2 h ⊢
    exact hd r (by omega) s (by omega) (by omega) (by omega) (by rw [Bool.or_eq_true]; exact h)
  rcases hp with rfl | rfl | rfl | rfl | rfl
  · have e1 : ∀ x : Int, sqU 2 x = decide (x % 8 = 1) := fun x => rfl
    rw [e1, e1] at h
    rw [e1, e1, e1]
    have a1 : u % 8 = 1 ∨ u % 8 = 3 ∨ u % 8 = 5 ∨ u % 8 = 7 := by omega
    have a2 : v % 8 = 1 ∨ v % 8 = 3 ∨ v % 8 = 5 ∨ v % 8 = 7 := by omega
    rw [Int.mul_emod]
    rcases a1 with z | z | z | z <;> rcases a2 with y | y | y | y <;> rw [z, y] at h ⊢ <;> revert h <;> decide
  · exact gen 3 (by decide) (by decide) (by decide +kernel) hu hv h
  · exact gen 5 (by decide) (by decide) (by decide +kernel) hu hv h
  · exact gen 7 (by decide) (by decide) (by decide +kernel) hu hv h
  · exact gen 13 (by decide) (by decide) (by decide +kernel) hu hv h
theorem sqB_mul {p a b : Int} {k l : Nat} {u v : Int} (hp : five p) (h : Spl p a k u) (h' : Spl p b l v) (h1 : sqB p k u = true ∨ sqB p l v = true) :
    ∃ k' u', Spl p (a * b) k' u' ∧ sqB p k' u' = (sqB p k u && sqB p l v) := by
  obtain ⟨pp, p2, _, _⟩ := five_prime hp
  refine ⟨k + l, u * v, h.mul h' (nd_mul pp (by omega) h.nd h'.nd), ?_⟩
  unfold sqB at *
  have h2 : sqU p u = true ∨ sqU p v = true := by
    rcases h1 with z | z
    · rw [Bool.and_eq_true] at z; exact .inl z.2
    · rw [Bool.and_eq_true] at z; exact .inr z.2
  rw [sqU_mul hp h.nd h'.nd h2]
  rcases h1 with z | z
  · rw [Bool.and_eq_true] at z
    have zk : k % 2 = 0 := of_decide_eq_true z.1
    rw [z.2]
    have e : decide ((k + l) % 2 = 0) = decide (l % 2 = 0) := by
      congr 1; apply propext; omega
    rw [e, zk]; simp
  · rw [Bool.and_eq_true] at z
    have zk : l % 2 = 0 := of_decide_eq_true z.1
    rw [z.2]
    have e : decide ((k + l) % 2 = 0) = decide (k % 2 = 0) := by
      congr 1; apply propext; omega
    rw [e, zk]; simp
theorem Spl.ex {p : Int} (hp : 2 ≤ p) : ∀ (n : Nat) (a : Int), a.natAbs ≤ n → a ≠ 0 → ∃ k u, Spl p a k u
  | 0, a, h, h0 => by omega
  | n + 1, a, h, h0 => by
    by_cases e : a % p = 0
    · have e1 : a = p * (a / p) := by have := Int.mul_ediv_add_emod a p; omega
      have hz : a / p ≠ 0 := fun z => by rw [z] at e1; simp at e1; exact h0 e1
      have hl : (a / p).natAbs ≤ n := by
        have : a.natAbs = p.natAbs * (a / p).natAbs := by rw [← Int.natAbs_mul, ← e1]
        have p2 : 2 ≤ p.natAbs := by omega
        have : 2 * (a / p).natAbs ≤ p.natAbs * (a / p).natAbs := Nat.mul_le_mul_right _ p2
        omega
      obtain ⟨k, u, hk⟩ := Spl.ex hp n (a / p) hl hz
      refine ⟨k + 1, u, ?_, hk.nd⟩
      conv => lhs; rw [e1, hk.eq]
      rw [Int.pow_succ, Int.mul_comm (p ^ k) p, Int.mul_assoc]
    · exact ⟨0, a, by simp, e⟩
end NT

namespace NT
/-! ### rearranged sums and products -/
theorem perm_of : ∀ {l m : List Nat}, l.Nodup → (∀ x ∈ l, x ∈ m) → m.length ≤ l.length → l.Perm m
  | [], m, _, _, hl => by
    have : m = [] := List.length_eq_zero_iff.mp (by simpa using hl)
    rw [this]
  | x :: t, m, hn, hs, hl => by
    obtain ⟨h1, h2⟩ := List.nodup_cons.mp hn
    have hx := hs x (by simp)
    refine ((perm_of h2 (fun y hy => ?_) ?_).cons x).trans (List.perm_cons_erase hx).symm
    · have ne : y ≠ x := fun e => h1 (e ▸ hy)
      exact (List.mem_erase_of_ne ne).mpr (hs y (by simp [hy]))
    · rw [List.length_erase_of_mem hx]
      simp at hl
      omega
theorem perm_range {σ : Nat → Nat} {n : Nat} (hb : ∀ i, i < n → σ i < n) (hi : ∀ i j, i < n → j < n → σ i = σ j → i = j) : ((List.range n).map σ).Perm (List.range n) := by
  refine perm_of ?_ (fun x hx => ?_) (by simp)
  · unfold List.Nodup
    rw [List.pairwise_map]
    refine List.Pairwise.imp_of_mem ?_ (List.nodup_range (n := n))
    intro a b ha hb' hne e
    exact hne (hi a b (List.mem_range.mp ha) (List.mem_range.mp hb') e)
  · obtain ⟨i, hi', rfl⟩ := List.mem_map.mp hx
    exact List.mem_range.mpr (hb i (List.mem_range.mp hi'))
def lsum : List Nat → Nat := List.foldr (· + ·) 0
def lprod : List Int → Int := List.foldr (· * ·) 1
theorem lsum_perm {l m : List Nat} (h : l.Perm m) : lsum l = lsum m := by
  induction h with
  | nil => rfl
  | cons x _ ih => show x + lsum _ = x + lsum _; rw [ih]
  | swap x y l => show y + (x + lsum l) = x + (y + lsum l); omega
  | trans _ _ h1 h2 => exact h1.trans h2
theorem lprod_perm {l m : List Int} (h : l.Perm m) : lprod l = lprod m := by
  induction h with
  | nil => rfl
  | cons x _ ih => show x * lprod _ = x * lprod _; rw [ih]
  | swap x y l => show y * (x * lprod l) = x * (y * lprod l); rw [Int.mul_left_comm]
  | trans _ _ h1 h2 => exact h1.trans h2
theorem lsum_append (l m : List Nat) : lsum (l ++ m) = lsum l + lsum m := by
  induction l with
  | nil => show lsum m = 0 + lsum m; omega
  | cons x l ih => show x + lsum (l ++ m) = x + lsum l + lsum m; rw [ih]; omega
theorem lprod_append (l m : List Int) : lprod (l ++ m) = lprod l * lprod m := by
  induction l with
  | nil => show lprod m = 1 * lprod m; rw [Int.one_mul]
  | cons x l ih => show x * lprod (l ++ m) = x * lprod l * lprod m; rw [ih, Int.mul_assoc]
theorem S_list (f : Nat → Nat) : ∀ n, S f n = lsum ((List.range n).map f)
  | 0 => rfl
  | n + 1 => by
    rw [List.range_succ, List.map_append, lsum_append, ← S_list f n]
    show S f n + f n = S f n + (f n + 0)
    omega
/-- the product of f k for k < n -/
def PI (f : Nat → Int) : Nat → Int
  | 0 => 1
  | n + 1 => PI f n * f n
theorem PI_list (f : Nat → Int) : ∀ n, PI f n = lprod ((List.range n).map f)
  | 0 => rfl
  | n + 1 => by
    rw [List.range_succ, List.map_append, lprod_append, ← PI_list f n]
    show PI f n * f n = PI f n * (f n * 1)
    rw [Int.mul_one]
theorem S_perm {σ : Nat → Nat} {n : Nat} (hb : ∀ i, i < n → σ i < n) (hi : ∀ i j, i < n → j < n → σ i = σ j → i = j) (f : Nat → Nat) : S (fun i => f (σ i)) n = S f n := by
  have hp := (perm_range hb hi).map f
  rw [S_list, S_list, ← lsum_perm hp, List.map_map]
  rfl
theorem PI_perm {σ : Nat → Nat} {n : Nat} (hb : ∀ i, i < n → σ i < n) (hi : ∀ i j, i < n → j < n → σ i = σ j → i = j) (f : Nat → Int) : PI (fun i => f (σ i)) n = PI f n := by
  have hp := (perm_range hb hi).map f
  rw [PI_list, PI_list, ← lprod_perm hp, List.map_map]
  rfl
theorem PI_mul (f g : Nat → Int) : ∀ n, PI (fun i => f i * g i) n = PI f n * PI g n
  | 0 => rfl
  | n + 1 => by
    show PI (fun i => f i * g i) n * (f n * g n) = PI f n * f n * (PI g n * g n)
    rw [PI_mul f g n, Int.mul_assoc, Int.mul_left_comm (PI g n), ← Int.mul_assoc]
theorem PI_const (a : Int) : ∀ n, PI (fun _ => a) n = a ^ n
  | 0 => by show (1 : Int) = a ^ 0; simp
  | n + 1 => by show PI (fun _ => a) n * a = a ^ (n + 1); rw [PI_const a n, Int.pow_succ]
theorem PI_congr {f g : Nat → Int} : ∀ n, (∀ i, i < n → f i = g i) → PI f n = PI g n
  | 0, _ => rfl
  | n + 1, h => by
    show PI f n * f n = PI g n * g n
    rw [PI_congr n fun i hi => h i (by omega), h n (by omega)]
theorem PI_mod {f g : Nat → Int} {p : Int} : ∀ n, (∀ i, i < n → p ∣ f i - g i) → p ∣ PI f n - PI g n
  | 0, _ => ⟨0, by show (1 : Int) - 1 = p * 0; omega⟩
  | n + 1, h => by
    obtain ⟨x, hx⟩ := PI_mod n fun i hi => h i (by omega)
    obtain ⟨y, hy⟩ := h n (by omega)
    refine ⟨x * f n + PI g n * y, ?_⟩
    show PI f n * f n - PI g n * g n = p * (x * f n + PI g n * y)
    have e1 : PI f n * f n - PI g n * g n = (PI f n - PI g n) * f n + PI g n * (f n - g n) := by
      rw [Int.sub_mul, Int.mul_sub]; omega
    rw [e1, hx, hy, Int.mul_add, Int.mul_assoc, Int.mul_left_comm (PI g n) p y]
/-! ### a prime and its half -/
/-- the rest of a (i + 1), and its size -/
def gx (p a i : Nat) : Nat := a * (i + 1) % p
def gr (p a i : Nat) : Nat := if gx p a i ≤ p / 2 then gx p a i else p - gx p a i
def ge (p a i : Nat) : Int := if gx p a i ≤ p / 2 then 1 else -1
def gm (p a i : Nat) : Nat := if gx p a i ≤ p / 2 then 0 else 1
section
variable {p : Nat} (hp : Prime p) (ho : p % 2 = 1) {a : Nat} (ha : a % p ≠ 0)
include hp ho ha
theorem gx_pos {i : Nat} (hi : i < p / 2) : 0 < gx p a i ∧ gx p a i < p := by
  refine ⟨Nat.pos_of_ne_zero (prime_mul hp ha ?_), Nat.mod_lt _ (by have := hp.1; omega)⟩
  rw [Nat.mod_eq_of_lt (by omega)]
  omega
theorem gr_in {i : Nat} (hi : i < p / 2) : 0 < gr p a i ∧ gr p a i ≤ p / 2 := by
  have := gx_pos hp ho ha hi
  unfold gr
  split <;> omega
theorem gr_inj {i j : Nat} (hi : i < p / 2) (hj : j < p / 2) (e : gr p a i = gr p a j) : i = j := by
  have h1 := gx_pos hp ho ha hi
  have h2 := gx_pos hp ho ha hj
  have both : gx p a i = gx p a j ∨ gx p a i + gx p a j = p := by
    unfold gr at e
    split at e <;> split at e <;> omega
  rcases both with h | h
  · -- p divides a times the difference
    have key : ∀ i j : Nat, i ≤ j → j < p / 2 → gx p a i = gx p a j → i = j := by
      intro i j hij hj h
      by_cases hne : i = j
      · exact hne
      · exfalso
        have hd : (a * (j + 1) - a * (i + 1)) % p = 0 := Nat.sub_mod_eq_zero_of_mod_eq h.symm
        have e1 : a * (j + 1) - a * (i + 1) = a * (j - i) := by
          rw [← Nat.mul_sub]
          congr 1
          omega
        rw [e1] at hd
        refine prime_mul hp ha ?_ hd
        rw [Nat.mod_eq_of_lt (by omega)]
        omega
    rcases Nat.le_total i j with hij | hij
    · exact key i j hij hj h
    · exact (key j i hij hi h.symm).symm
  · exfalso
    have hd : (a * (i + 1) + a * (j + 1)) % p = 0 := by
      rw [Nat.add_mod]
      show (gx p a i + gx p a j) % p = 0
      rw [h, Nat.mod_self]
    rw [← Nat.mul_add] at hd
    refine prime_mul hp ha ?_ hd
    rw [Nat.mod_eq_of_lt (by omega)]
    omega
theorem gr_perm : (∀ i, i < p / 2 → gr p a i - 1 < p / 2) ∧ ∀ i j, i < p / 2 → j < p / 2 → gr p a i - 1 = gr p a j - 1 → i = j := by
  refine ⟨fun i hi => ?_, fun i j hi hj e => ?_⟩
  · have := gr_in hp ho ha hi; omega
  · have h1 := gr_in hp ho ha hi
    have h2 := gr_in hp ho ha hj
    exact gr_inj hp ho ha hi hj (by omega)
theorem gauss_dvd {i : Nat} (hi : i < p / 2) : (p : Int) ∣ (a : Int) * ((i : Int) + 1) - ge p a i * (gr p a i : Nat) := by
  have h := Nat.mod_add_div (a * (i + 1)) p
  have hx := gx_pos hp ho ha hi
  have e : (a : Int) * ((i : Int) + 1) = (gx p a i : Nat) + (p : Int) * ((a * (i + 1) / p : Nat) : Int) := by
    have h' : a * (i + 1) = gx p a i + p * (a * (i + 1) / p) := h.symm
    have := congrArg (fun n : Nat => (n : Int)) h'
    simpa using this
  rw [e]
  unfold ge gr
  split
  · exact ⟨((a * (i + 1) / p : Nat) : Int), by rw [Int.one_mul]; omega⟩
  · refine ⟨((a * (i + 1) / p : Nat) : Int) + 1, ?_⟩
    rw [Int.mul_add]
    omega
end
def fac (n : Nat) : Int := PI (fun i => (i : Int) + 1) n
theorem fac_nd {p : Nat} (hp : Prime p) : ∀ n, n < p → ¬ (p : Int) ∣ fac n
  | 0, h => fun hd => by
    have : (p : Int) ∣ 1 := hd
    have := Int.le_of_dvd (by decide) this
    have := hp.1
    omega
  | n + 1, h => fun hd => by
    have hd' : (p : Int) ∣ fac n * ((n : Int) + 1) := hd
    have h1 := fac_nd hp n (by omega)
    have hm := nd_mul (p := (p : Int)) (u := fac n) (v := (n : Int) + 1) hp (by omega) (fun z => h1 (Int.dvd_of_emod_eq_zero z)) (by
      rw [Int.emod_eq_of_lt (by omega) (by omega)]
      omega)
    exact hm (Int.emod_eq_zero_of_dvd hd')
/-- Gauss -/
theorem gauss {p : Nat} (hp : Prime p) (ho : p % 2 = 1) {a : Nat} (ha : a % p ≠ 0) : (p : Int) ∣ (a : Int) ^ (p / 2) - PI (ge p a) (p / 2) := by
  have h1 := PI_mod (p / 2) (fun i hi => gauss_dvd hp ho ha hi)
  have e1 : PI (fun i => (a : Int) * ((i : Int) + 1)) (p / 2) = (a : Int) ^ (p / 2) * fac (p / 2) := by rw [PI_mul, PI_const]; rfl
  obtain ⟨b1, b2⟩ := gr_perm hp ho ha
  have e2 : PI (fun i => ge p a i * ((gr p a i : Nat) : Int)) (p / 2) = PI (ge p a) (p / 2) * fac (p / 2) := by
    rw [PI_mul]
    congr 1
    have hq := PI_perm b1 b2 (fun i => (i : Int) + 1)
    unfold fac
    rw [← hq]
    refine PI_congr _ fun i hi => ?_
    have := gr_in hp ho ha hi
    omega
  rw [e1, e2, ← Int.sub_mul] at h1
  by_cases hz : ((a : Int) ^ (p / 2) - PI (ge p a) (p / 2)) % p = 0
  · exact Int.dvd_of_emod_eq_zero hz
  · exfalso
    have hf := fac_nd hp (p / 2) (by have := hp.1; omega)
    exact nd_mul (p := (p : Int)) hp (by omega) hz (fun z => hf (Int.dvd_of_emod_eq_zero z)) (Int.emod_eq_zero_of_dvd h1)
/-- the product of the signs is told by their number -/
theorem ge_par (p a : Nat) : ∀ n, PI (ge p a) n = if S (gm p a) n % 2 = 0 then 1 else -1
  | 0 => rfl
  | n + 1 => by
    show PI (ge p a) n * ge p a n = if (S (gm p a) n + gm p a n) % 2 = 0 then 1 else -1
    rw [ge_par p a n]
    by_cases h : gx p a n ≤ p / 2
    · rw [show ge p a n = 1 from if_pos h, show gm p a n = 0 from if_pos h, Int.mul_one, Nat.add_zero]
    · rw [show ge p a n = -1 from if_neg h, show gm p a n = 1 from if_neg h]
      by_cases h2 : S (gm p a) n % 2 = 0
      · rw [if_pos h2, if_neg (by omega)]; rfl
      · rw [if_neg h2, if_pos (by omega)]; rfl
end NT

namespace NT
def oddU (p u : Int) : Int := if u ^ (p / 2).toNat % p = 1 then 0 else 1
def sgZ (p : Int) (k : Nat) (u : Int) (l : Nat) (v : Int) : Int :=
  if p = 2 then (u / 2) * (v / 2) + k * (v * v / 8) + l * (u * u / 8) else k * l * (p / 2) + l * oddU p u + k * oddU p v
/-- the sign at a prime -/
def sg (p : Int) (k : Nat) (u : Int) (l : Nat) (v : Int) : Int := if sgZ p k u l v % 2 = 1 then -1 else 1
theorem par2 (a b c d e f : Int) : (a * b + c * d + e * f) % 2 = ((a % 2) * (b % 2) + (c % 2) * (d % 2) + (e % 2) * (f % 2)) % 2 := by
  have h : ∀ x y : Int, x * y % 2 = (x % 2) * (y % 2) % 2 := fun x y => Int.mul_emod x y 2
  have h1 := h a b; have h2 := h c d; have h3 := h e f
  omega
theorem sg_comm (p : Int) (k : Nat) (u : Int) (l : Nat) (v : Int) : sg p k u l v = sg p l v k u := by
  have : sgZ p k u l v = sgZ p l v k u := by
    unfold sgZ
    by_cases e : p = 2
    · rw [if_pos e, if_pos e, Int.mul_comm (u / 2)]; omega
    · rw [if_neg e, if_neg e, Int.mul_comm (k : Int) l]; omega
  unfold sg; rw [this]
theorem half8 {u : Int} : (u / 2) % 2 = ((u % 8) / 2) % 2 := by omega
theorem sq8 (u : Int) : (u * u / 8) % 2 = ((u % 8) * (u % 8) / 8) % 2 := by
  obtain ⟨q, hq⟩ : ∃ q, u = 8 * q + u % 8 := ⟨u / 8, by omega⟩
  generalize u % 8 = r at hq
  subst hq
  have : (8 * q + r) * (8 * q + r) = r * r + 8 * (2 * (4 * (q * q) + q * r)) := by
    have h1 : (8 * q) * (8 * q) = 64 * (q * q) := by rw [Int.mul_assoc, Int.mul_left_comm q 8 q, ← Int.mul_assoc]; rfl
    have h2 : (8 * q) * r = 8 * (q * r) := Int.mul_assoc _ _ _
    have h3 : r * (8 * q) = 8 * (q * r) := by rw [Int.mul_comm, h2]
    rw [Int.add_mul, Int.mul_add, Int.mul_add, h1, h2, h3]
    omega
  rw [this, Int.add_mul_ediv_left _ _ (by decide)]
  omega
theorem sg_sq {p : Int} (hp : five p) {k m : Nat} {u w : Int} {l : Nat} {v : Int} (hw : w % p ≠ 0) : sg p (k + 2 * m) (u * (w * w)) l v = sg p k u l v := by
  obtain ⟨pp, p2, po, _⟩ := five_prime hp
  have key : sgZ p (k + 2 * m) (u * (w * w)) l v % 2 = sgZ p k u l v % 2 := by
    unfold sgZ
    by_cases e : p = 2
    · rw [if_pos e, if_pos e, par2, par2 (u / 2)]
      have w8 : (w * w) % 8 = 1 := by
        have : w % 8 = 1 ∨ w % 8 = 3 ∨ w % 8 = 5 ∨ w % 8 = 7 := by subst e; omega
        rw [Int.mul_emod]
        rcases this with z | z | z | z <;> rw [z] <;> decide
      have u8 : (u * (w * w)) % 8 = u % 8 := by rw [Int.mul_emod, w8]; simp
      have h1 : (u * (w * w) / 2) % 2 = (u / 2) % 2 := by rw [half8, u8, ← half8]
      have h2 : (u * (w * w) * (u * (w * w)) / 8) % 2 = (u * u / 8) % 2 := by rw [sq8, u8, ← sq8]
      have h3 : (((k + 2 * m : Nat) : Int)) % 2 = (k : Int) % 2 := by omega
      rw [h1, h2, h3]
    · rw [if_neg e, if_neg e]
      have eo : oddU p (u * (w * w)) = oddU p u := by
        have hs := sqU_self pp (by omega) po hw
        unfold sqU at hs
        rw [if_neg e] at hs
        have hs' := of_decide_eq_true hs
        unfold oddU
        have : (u * (w * w)) ^ (p / 2).toNat % p = u ^ (p / 2).toNat % p := by
          rw [Int.mul_pow, Int.mul_emod, hs', Int.mul_one, Int.emod_emod]
        rw [this]
      rw [eo]
      have h3 : (((k + 2 * m : Nat) : Int)) = (k : Int) + 2 * m := by omega
      rw [h3]
      have e1 : (↑k + 2 * ↑m) * ↑l * (p / 2) = ↑k * ↑l * (p / 2) + 2 * (↑m * ↑l * (p / 2)) := by
        simp only [Int.add_mul, Int.mul_assoc]
      have e2 : (↑k + 2 * ↑m) * oddU p v = ↑k * oddU p v + 2 * (↑m * oddU p v) := by
        simp only [Int.add_mul, Int.mul_assoc]
      rw [e1, e2]
      omega
  unfold sg; rw [key]
/-- squares change no sign -/
theorem sg_squares {p a b s t : Int} (hp : five p) {k : Nat} {u : Int} {l : Nat} {v : Int} (ha : Spl p a k u) (hb : Spl p b l v) (hs : s ≠ 0) (ht : t ≠ 0) :
    ∃ k' u' l' v', Spl p (a * s * s) k' u' ∧ Spl p (b * t * t) l' v' ∧ sg p k' u' l' v' = sg p k u l v := by
  obtain ⟨pp, p2, po, _⟩ := five_prime hp
  obtain ⟨m, w, hm⟩ := Spl.ex p2 _ s (Nat.le_refl _) hs
  obtain ⟨n, x, hn⟩ := Spl.ex p2 _ t (Nat.le_refl _) ht
  have g : ∀ {a s : Int} {k m : Nat} {u w : Int}, Spl p a k u → Spl p s m w → Spl p (a * s * s) (k + 2 * m) (u * (w * w)) := by
    intro a s k m u w h1 h2
    have h3 := (h1.mul h2 (nd_mul pp (by omega) h1.nd h2.nd)).mul h2 (nd_mul pp (by omega) (nd_mul pp (by omega) h1.nd h2.nd) h2.nd)
    have e1 : k + m + m = k + 2 * m := by omega
    have e2 : u * w * w = u * (w * w) := Int.mul_assoc _ _ _
    rw [e1, e2] at h3
    exact h3
  refine ⟨_, _, _, _, g ha hm, g hb hn, ?_⟩
  rw [sg_sq hp hm.nd, sg_comm, sg_sq hp hn.nd, sg_comm]
/-! ### the weights -/
def wts : List Int := [1, 2, 3, 5, 6, 7, 10, 11, 13, 15, 21, 30, -1, -2, -3, -5, -6, -7, -10, -11, -13, -15, -21, -30]
def spF (p x : Int) : Nat × Int := if x % p = 0 then (if x % (p * p) = 0 then (2, x / (p * p)) else (1, x / p)) else (0, x)
theorem spF_ok {p x : Int} (h : x % (p * p * p) ≠ 0) : Spl p x (spF p x).1 (spF p x).2 := by
  have d : ∀ n : Int, x % n = 0 → x = n * (x / n) := fun n z => (Int.mul_ediv_cancel' (Int.dvd_of_emod_eq_zero z)).symm
  unfold spF
  by_cases h1 : x % p = 0
  · rw [if_pos h1]
    by_cases h2 : x % (p * p) = 0
    · rw [if_pos h2]
      refine ⟨by rw [Int.pow_succ, Int.pow_succ, Int.pow_zero, Int.one_mul]; exact d _ h2, fun z => h ?_⟩
      have e := d _ h2
      obtain ⟨c, hc⟩ := Int.dvd_of_emod_eq_zero z
      show x % (p * p * p) = 0
      have hc' : x / (p * p) = p * c := hc
      rw [e, hc', ← Int.mul_assoc, Int.mul_emod_right]
    · rw [if_neg h2]
      refine ⟨by rw [Int.pow_succ, Int.pow_zero, Int.one_mul]; exact d _ h1, fun z => h2 ?_⟩
      have e := d _ h1
      obtain ⟨c, hc⟩ := Int.dvd_of_emod_eq_zero z
      have hc' : x / p = p * c := hc
      rw [e, hc', ← Int.mul_assoc, Int.mul_emod_right]
  · rw [if_neg h1]
    exact ⟨by simp, h1⟩
/-- by rests: x, y, z below s, not all divided by p -/
def zrB (p : Int) (s : Nat) (a b : Int) : Bool :=
  (List.range s).any fun x => (List.range s).any fun y => (List.range s).any fun z =>
    decide ((a * x * x + b * y * y - z * z) % s = 0) && (decide ((x : Int) % p ≠ 0) || decide ((y : Int) % p ≠ 0) || decide ((z : Int) % p ≠ 0))
/-- squares and whether their root is divided, each once -/
def sqs (p : Int) : List (Int × Bool) :=
  if p = 2 then [(0, false), (1, true), (4, false), (9, true), (16, false), (25, true), (17, true)]
  else if p = 3 then [(0, false), (1, true), (4, true), (7, true)]
  else [(0, false), (1, true), (4, true), (9, true), (16, true), (11, true), (24, true), (14, true), (6, true), (21, true), (19, true)]
def msz (p : Int) : Nat := if p = 2 then 32 else (p * p).toNat
def zrF (p : Int) (a b : Int) : Bool :=
  (sqs p).any fun x => (sqs p).any fun y => (sqs p).any fun z => decide ((a * x.1 + b * y.1 - z.1) % msz p = 0) && (x.2 || y.2 || z.2)
def three (p : Int) : Prop := p = 2 ∨ p = 3 ∨ p = 5
theorem sqs_all {p : Int} (hp : three p) : (∀ x : Nat, x < msz p → ((x : Int) * x % msz p, decide ((x : Int) % p ≠ 0)) ∈ sqs p) ∧ ∀ e ∈ sqs p, ∃ x : Nat, x < msz p ∧ ((x : Int) * x % msz p, decide ((x : Int) % p ≠ 0)) = e := by
  rcases hp with rfl | rfl | rfl
  · exact ⟨by decide +kernel, by decide +kernel⟩
  · exact ⟨by decide +kernel, by decide +kernel⟩
  · exact ⟨by decide +kernel, by decide +kernel⟩
theorem rest_sq (a b s x y z : Int) : (a * x * x + b * y * y - z * z) % s = (a * (x * x % s) + b * (y * y % s) - z * z % s) % s := by
  have h : ∀ c x : Int, (c * x * x) % s = (c * (x * x % s)) % s := fun c x => by
    rw [Int.mul_assoc, Int.mul_emod, Int.mul_emod c (x * x % s), Int.emod_emod]
  rw [Int.sub_emod, Int.add_emod, h, h, ← Int.add_emod, ← Int.sub_emod]
  rw [Int.sub_emod, Int.sub_emod (a * (x * x % s) + b * (y * y % s)) (z * z % s), Int.emod_emod]
theorem zr_eq {p : Int} (hp : three p) (a b : Int) : zrB p (msz p) a b = zrF p a b := by
  obtain ⟨h1, h2⟩ := sqs_all hp
  rw [Bool.eq_iff_iff]
  unfold zrB zrF
  simp only [List.any_eq_true, List.mem_range, Bool.and_eq_true, Bool.or_eq_true, decide_eq_true_eq]
  constructor
  · rintro ⟨x, hx, y, hy, z, hz, e, o⟩
    refine ⟨_, h1 x hx, _, h1 y hy, _, h1 z hz, ?_, ?_⟩
    · rw [rest_sq] at e
      exact e
    · simpa using o
  · rintro ⟨ex, hx, ey, hy, ez, hz, e, o⟩
    obtain ⟨x, x1, rfl⟩ := h2 ex hx
    obtain ⟨y, y1, rfl⟩ := h2 ey hy
    obtain ⟨z, z1, rfl⟩ := h2 ez hz
    refine ⟨x, x1, y, y1, z, z1, ?_, ?_⟩
    · rw [rest_sq]
      exact e
    · simpa using o
def okB (p a b : Int) : Bool := decide (a % (p * p * p) ≠ 0) && decide (b % (p * p * p) ≠ 0) && decide (sg p (spF p a).1 (spF p a).2 (spF p b).1 (spF p b).2 = if zrF p a b then 1 else -1)
theorem ok2 : (wts.all fun a => wts.all fun b => okB 2 a b) = true := by decide +kernel
theorem ok3 : (wts.all fun a => wts.all fun b => okB 3 a b) = true := by decide +kernel
theorem ok5 : (wts.all fun a => wts.all fun b => okB 5 a b) = true := by decide +kernel
end NT

namespace NT
/-- 1 for the rest of a square, otherwise -1 -/
def rs (p x : Int) : Int := if x ^ ((p - 1) / 2).toNat % p = 1 then 1 else -1
def symM (p : Int) (k : Nat) (u : Int) (l : Nat) (v : Int) : Int :=
  let f1 := if (k * l) % 2 = 1 then 1 * rs p (-1) else 1
  let f2 := if l % 2 = 1 then f1 * rs p u else f1
  if k % 2 = 1 then f2 * rs p v else f2
def f7 (a b : Int) : Int := 1 * symM 7 (spF 7 a).1 (spF 7 a).2 (spF 7 b).1 (spF 7 b).2 * symM 7 (spF 7 a).1 (spF 7 a).2 0 (-1) * symM 7 (spF 7 b).1 (spF 7 b).2 0 (-1)
def ok7B (a b : Int) : Bool := decide (a % 343 ≠ 0) && decide (b % 343 ≠ 0) && decide ((a * b) % 343 ≠ 0) &&
  decide (sg 7 (spF 7 a).1 (spF 7 a).2 (spF 7 b).1 (spF 7 b).2 = if f7 a b = symM 7 0 (-1) (spF 7 (a * b)).1 (spF 7 (a * b)).2 then 1 else -1)
theorem ok7 : (wts.all fun a => wts.all fun b => ok7B a b) = true := by decide +kernel
theorem wts_mem {a : Int} (h : a ∈ wts) : a ≠ 0 ∧ -30 ≤ a ∧ a ≤ 30 := by
  have : ∀ a ∈ wts, a ≠ 0 ∧ -30 ≤ a ∧ a ≤ 30 := by decide
  exact this a h
/-- the sign at 0 -/
def sg0 (a b : Int) : Int := if a < 0 ∧ b < 0 then -1 else 1
theorem sg0_sq {a b s t : Int} (hs : 0 < s) (ht : 0 < t) : sg0 (a * s * s) (b * t * t) = sg0 a b := by
  have h : ∀ {a s : Int}, 0 < s → (a * s * s < 0 ↔ a < 0) := fun {a s} hs => by
    have ss : 0 < s * s := Int.mul_pos hs hs
    rw [Int.mul_assoc]
    constructor
    · intro z
      by_cases h0 : a < 0
      · exact h0
      · have : 0 ≤ a * (s * s) := Int.mul_nonneg (by omega) (by omega)
        omega
    · intro z
      exact Int.mul_neg_of_neg_of_pos z ss
  unfold sg0
  have e : (a * s * s < 0 ∧ b * t * t < 0) = (a < 0 ∧ b < 0) := by rw [h hs, h ht]
  simp only [e]
end NT

namespace NT
theorem S_par {f g : Nat → Nat} : ∀ n, (∀ i, i < n → f i % 2 = g i % 2) → S f n % 2 = S g n % 2
  | 0, _ => rfl
  | n + 1, h => by
    have h1 := S_par n fun i hi => h i (by omega)
    have h2 := h n (by omega)
    show (S f n + f n) % 2 = (S g n + g n) % 2
    omega
theorem S_comm (f : Nat → Nat → Nat) (m : Nat) : ∀ n, S (fun i => S (fun j => f i j) m) n = S (fun j => S (fun i => f i j) n) m
  | 0 => by
    show 0 = S (fun _ => 0) m
    induction m with
    | zero => rfl
    | succ m ih => show 0 = S (fun _ => 0) m + 0; omega
  | n + 1 => by
    show S (fun i => S (fun j => f i j) m) n + S (fun j => f n j) m = S (fun j => S (fun i => f i j) n + f n j) m
    rw [S_comm f m n, S_add]
theorem S_one : ∀ n, S (fun _ => 1) n = n
  | 0 => rfl
  | n + 1 => by show S (fun _ => 1) n + 1 = n + 1; rw [S_one n]
def T (n : Nat) : Nat := S (fun i => i + 1) n
theorem T_eq : ∀ n, 2 * T n = n * (n + 1)
  | 0 => rfl
  | n + 1 => by
    have ih := T_eq n
    show 2 * (T n + (n + 1)) = (n + 1) * (n + 1 + 1)
    rw [Nat.mul_add, ih, ← Nat.add_mul, Nat.mul_comm]
section
variable {p : Nat} (hp : Prime p) (ho : p % 2 = 1) {a : Nat} (ha : a % p ≠ 0)
include hp ho ha
/-- Eisenstein -/
theorem eisen : (a * T (p / 2)) % 2 = (S (fun i => a * (i + 1) / p) (p / 2) + T (p / 2) + S (gm p a) (p / 2)) % 2 := by
  obtain ⟨b1, b2⟩ := gr_perm hp ho ha
  have e1 : a * T (p / 2) = p * S (fun i => a * (i + 1) / p) (p / 2) + S (gx p a) (p / 2) := by
    unfold T
    rw [← S_mul, ← S_mul, ← S_add]
    refine S_congr _ fun i _ => ?_
    show a * (i + 1) = p * (a * (i + 1) / p) + a * (i + 1) % p
    exact (Nat.div_add_mod _ _).symm
  have e2 : S (gr p a) (p / 2) = T (p / 2) := by
    have hq := S_perm b1 b2 (fun i => i + 1)
    unfold T
    rw [← hq]
    refine S_congr _ fun i hi => ?_
    have := gr_in hp ho ha hi
    omega
  have e3 : S (gx p a) (p / 2) % 2 = (S (gr p a) (p / 2) + S (gm p a) (p / 2)) % 2 := by
    rw [← S_add]
    refine S_par _ fun i hi => ?_
    have := gx_pos hp ho ha hi
    show gx p a i % 2 = (gr p a i + gm p a i) % 2
    unfold gr gm
    split <;> omega
  have e4 : (p * S (fun i => a * (i + 1) / p) (p / 2)) % 2 = S (fun i => a * (i + 1) / p) (p / 2) % 2 := by
    rw [Nat.mul_mod, ho, Nat.one_mul, Nat.mod_mod]
  rw [e1]
  omega
end
theorem gm_two {p : Nat} (hp : Prime p) (ho : p % 2 = 1) : S (gm p 2) (p / 2) % 2 = (p / 2 * (p / 2 + 1) / 2) % 2 := by
  have h2 := hp.1
  have h := eisen hp ho (a := 2) (by rw [Nat.mod_eq_of_lt (by omega)]; decide)
  have e : S (fun i => 2 * (i + 1) / p) (p / 2) = 0 := by
    have : S (fun i => 2 * (i + 1) / p) (p / 2) = S (fun _ => 0 * 0) (p / 2) := S_congr _ fun i hi => by
      show 2 * (i + 1) / p = 0
      exact Nat.div_eq_of_lt (by omega)
    rw [this, S_mul (fun _ => 0) 0, Nat.zero_mul]
  have t := T_eq (p / 2)
  rw [e] at h
  omega
theorem gm_odd {p : Nat} (hp : Prime p) (ho : p % 2 = 1) {a : Nat} (ha : a % p ≠ 0) (hao : a % 2 = 1) : S (gm p a) (p / 2) % 2 = S (fun i => a * (i + 1) / p) (p / 2) % 2 := by
  have h := eisen hp ho ha
  have e : (a * T (p / 2)) % 2 = T (p / 2) % 2 := by rw [Nat.mul_mod, hao, Nat.one_mul, Nat.mod_mod]
  omega
theorem cnt {p N : Nat} (hp : 0 < p) : ∀ k, S (fun j => if p * (j + 1) ≤ N then 1 else 0) k = min k (N / p)
  | 0 => by simp [S]
  | k + 1 => by
    show S (fun j => if p * (j + 1) ≤ N then 1 else 0) k + (if p * (k + 1) ≤ N then 1 else 0) = min (k + 1) (N / p)
    rw [cnt hp k]
    have : p * (k + 1) ≤ N ↔ k + 1 ≤ N / p := by rw [Nat.le_div_iff_mul_le hp, Nat.mul_comm]
    by_cases h : p * (k + 1) ≤ N
    · rw [if_pos h]
      have := this.mp h
      omega
    · rw [if_neg h]
      have : ¬ k + 1 ≤ N / p := fun z => h (this.mpr z)
      omega
theorem lattice {p q : Nat} (hp : Prime p) (hq : Prime q) (hpo : p % 2 = 1) (hqo : q % 2 = 1) (hne : p ≠ q) :
    S (fun i => q * (i + 1) / p) (p / 2) + S (fun j => p * (j + 1) / q) (q / 2) = p / 2 * (q / 2) := by
  have p2 := hp.1
  have q2 := hq.1
  have nd : ∀ i j, i < p / 2 → q * (i + 1) ≠ p * (j + 1) := by
    intro i j hi e
    have hz : (q * (i + 1)) % p = 0 := by rw [e]; exact Nat.mul_mod_right p _
    refine prime_mul hp ?_ ?_ hz
    · intro h
      have := Nat.dvd_of_mod_eq_zero h
      rcases hq.2 p this with h1 | h1
      · omega
      · exact hne h1
    · rw [Nat.mod_eq_of_lt (by omega)]
      omega
  have half : ∀ {p q i : Nat}, 2 ≤ p → i < p / 2 → q * (i + 1) / p ≤ q / 2 := by
    intro p q i hp2 hi
    have h1 : q * (i + 1) * 2 ≤ q * p := by
      rw [Nat.mul_assoc]
      exact Nat.mul_le_mul_left q (by omega)
    have h2 : q * (i + 1) / p * p ≤ q * (i + 1) := Nat.div_mul_le_self _ _
    have h3 : (q * (i + 1) / p * 2) * p ≤ q * p := by
      have : q * (i + 1) / p * 2 * p = q * (i + 1) / p * p * 2 := by rw [Nat.mul_assoc, Nat.mul_comm 2 p, ← Nat.mul_assoc]
      omega
    have h4 := Nat.le_of_mul_le_mul_right h3 (by omega)
    omega
  have A : S (fun i => q * (i + 1) / p) (p / 2) = S (fun i => S (fun j => if p * (j + 1) ≤ q * (i + 1) then 1 else 0) (q / 2)) (p / 2) := S_congr _ fun i hi => by
    show q * (i + 1) / p = S (fun j => if p * (j + 1) ≤ q * (i + 1) then 1 else 0) (q / 2)
    rw [cnt (by omega)]
    have := half (q := q) p2 hi
    omega
  have B : S (fun j => p * (j + 1) / q) (q / 2) = S (fun i => S (fun j => if q * (i + 1) ≤ p * (j + 1) then 1 else 0) (q / 2)) (p / 2) := by
    rw [S_comm]
    refine S_congr _ fun j hj => ?_
    show p * (j + 1) / q = S (fun i => if q * (i + 1) ≤ p * (j + 1) then 1 else 0) (p / 2)
    rw [cnt (by omega)]
    have := half (q := p) q2 hj
    omega
  rw [A, B, ← S_add]
  have C : S (fun i => S (fun j => if p * (j + 1) ≤ q * (i + 1) then 1 else 0) (q / 2) + S (fun j => if q * (i + 1) ≤ p * (j + 1) then 1 else 0) (q / 2)) (p / 2) = S (fun _ => q / 2 * 1) (p / 2) := S_congr _ fun i hi => by
    show S (fun j => if p * (j + 1) ≤ q * (i + 1) then 1 else 0) (q / 2) + S (fun j => if q * (i + 1) ≤ p * (j + 1) then 1 else 0) (q / 2) = q / 2 * 1
    rw [← S_add]
    have : S (fun j => (if p * (j + 1) ≤ q * (i + 1) then 1 else 0) + (if q * (i + 1) ≤ p * (j + 1) then 1 else 0)) (q / 2) = S (fun _ => 1) (q / 2) := S_congr _ fun j hj => by
      have := nd i j hi
      show (if p * (j + 1) ≤ q * (i + 1) then 1 else 0) + (if q * (i + 1) ≤ p * (j + 1) then 1 else 0) = 1
      by_cases h : p * (j + 1) ≤ q * (i + 1)
      · rw [if_pos h, if_neg (by omega)]
      · rw [if_neg h, if_pos (by omega)]
    rw [this, S_one, Nat.mul_one]
  rw [C, S_mul, S_one, Nat.mul_comm]
/-- quadratic reciprocity, by parities -/
theorem recip {p q : Nat} (hp : Prime p) (hq : Prime q) (hpo : p % 2 = 1) (hqo : q % 2 = 1) (hne : p ≠ q) : (S (gm p q) (p / 2) + S (gm q p) (q / 2)) % 2 = (p / 2 * (q / 2)) % 2 := by
  have nd : ∀ {p q : Nat}, Prime p → Prime q → p ≠ q → q % p ≠ 0 := by
    intro p q hp hq hne h
    rcases hq.2 p (Nat.dvd_of_mod_eq_zero h) with h1 | h1
    · have := hp.1; omega
    · exact hne h1
  have h1 := gm_odd hp hpo (nd hp hq hne) hqo
  have h2 := gm_odd hq hqo (nd hq hp (Ne.symm hne)) hpo
  have h3 := lattice hp hq hpo hqo hne
  omega
end NT

namespace NT
/-! ### the sign of a rest -/
theorem two_eq {p x e f : Int} (h2 : 2 < p) (he : e = 1 ∨ e = -1) (hf : f = 1 ∨ f = -1) (h1 : p ∣ x - e) (h3 : p ∣ x - f) : e = f := by
  have h := Int.dvd_sub h3 h1
  have e1 : x - f - (x - e) = e - f := by omega
  rw [e1] at h
  obtain ⟨c, hc⟩ := h
  rcases he with rfl | rfl <;> rcases hf with rfl | rfl
  · rfl
  · exfalso
    have : p ∣ 2 := ⟨c, hc⟩
    have := Int.le_of_dvd (by decide) this
    omega
  · exfalso
    have : p ∣ 2 := ⟨-c, by rw [Int.mul_neg, ← hc]; rfl⟩
    have := Int.le_of_dvd (by decide) this
    omega
  · rfl
section
variable {p : Nat} (hp : Prime p) (ho : p % 2 = 1)
include hp ho
theorem odd_two : 2 < (p : Int) := by have := hp.1; omega
theorem rs_pm (x : Int) : rs p x = 1 ∨ rs p x = -1 := by unfold rs; split <;> simp
theorem half_eq : (((p : Int) - 1) / 2).toNat = p / 2 := by have := hp.1; omega
theorem rs_dvd {x : Int} (hx : x % p ≠ 0) : (p : Int) ∣ x ^ (p / 2) - rs p x := by
  have h2 := odd_two hp ho
  have hs := sqU_self (p := (p : Int)) (u := x) hp (by omega) (.inr (by omega)) hx
  unfold sqU at hs
  rw [if_neg (by omega)] at hs
  have hs' := of_decide_eq_true hs
  have e0 : ((p : Int) / 2).toNat = p / 2 := by omega
  rw [e0, Int.mul_pow] at hs'
  unfold rs
  rw [half_eq hp ho]
  by_cases h1 : x ^ (p / 2) % p = 1
  · rw [if_pos h1]
    exact Int.dvd_of_emod_eq_zero (by rw [Int.sub_emod, h1]; simp)
  · rw [if_neg h1]
    by_cases h3 : (x ^ (p / 2) - -1) % p = 0
    · exact Int.dvd_of_emod_eq_zero h3
    · exfalso
      refine nd_mul (p := (p : Int)) (u := x ^ (p / 2) - 1) (v := x ^ (p / 2) - -1) hp (by omega) ?_ h3 ?_
      · intro hz
        apply h1
        have hd := Int.dvd_of_emod_eq_zero hz
        obtain ⟨c, hc⟩ := hd
        have : x ^ (p / 2) = 1 + p * c := by omega
        rw [this, Int.add_mul_emod_self_left]
        exact Int.emod_eq_of_lt (by decide) (by omega)
      · have e1 : (x ^ (p / 2) - 1) * (x ^ (p / 2) - -1) = x ^ (p / 2) * x ^ (p / 2) - 1 := by
          generalize x ^ (p / 2) = y
          rw [Int.sub_mul, Int.mul_sub]
          omega
        rw [e1, Int.sub_emod, hs']
        simp
theorem rs_mul {x y : Int} (hx : x % p ≠ 0) (hy : y % p ≠ 0) : rs p (x * y) = rs p x * rs p y := by
  have h2 := odd_two hp ho
  have hm := rs_dvd hp ho (nd_mul (p := (p : Int)) hp (by omega) hx hy)
  have h1 := rs_dvd hp ho hx
  have h3 := rs_dvd hp ho hy
  refine two_eq h2 (rs_pm hp ho _) ?_ hm ?_
  · rcases rs_pm hp ho x with e | e <;> rcases rs_pm hp ho y with f | f <;> rw [e, f] <;> simp
  · rw [Int.mul_pow]
    have e1 : x ^ (p / 2) * y ^ (p / 2) - rs p x * rs p y = (x ^ (p / 2) - rs p x) * y ^ (p / 2) + rs p x * (y ^ (p / 2) - rs p y) := by
      rw [Int.sub_mul, Int.mul_sub]; omega
    rw [e1]
    exact Int.dvd_add (Int.dvd_mul_of_dvd_left h1) (Int.dvd_mul_of_dvd_right h3)
theorem rs_gauss {a : Nat} (ha : a % p ≠ 0) : rs p a = if S (gm p a) (p / 2) % 2 = 0 then 1 else -1 := by
  have h2 := odd_two hp ho
  have h1 := rs_dvd hp ho (x := (a : Int)) (by omega)
  have h3 := gauss hp ho ha
  rw [ge_par] at h3
  exact two_eq h2 (rs_pm hp ho _) (by split <;> simp) h1 h3
theorem rs_neg : rs p (-1) = if p / 2 % 2 = 0 then 1 else -1 := by
  have h2 := odd_two hp ho
  have h1 := rs_dvd hp ho (x := -1) (by
    intro h
    have := Int.dvd_of_emod_eq_zero h
    have : (p : Int) ∣ 1 := (Int.dvd_neg).mp this
    have := Int.le_of_dvd (by decide) this
    omega)
  refine two_eq h2 (rs_pm hp ho _) (by split <;> simp) h1 ?_
  have e : ∀ n : Nat, (-1 : Int) ^ n = if n % 2 = 0 then 1 else -1 := by
    intro n
    induction n with
    | zero => rfl
    | succ n ih =>
      rw [Int.pow_succ, ih]
      by_cases h : n % 2 = 0
      · rw [if_pos h, if_neg (by omega)]; rfl
      · rw [if_neg h, if_pos (by omega)]; rfl
  rw [e]
  exact ⟨0, by rw [Int.mul_zero, Int.sub_self]⟩
theorem rs_one : rs p 1 = 1 := by
  have h2 := odd_two hp ho
  unfold rs
  rw [Int.one_pow, if_pos (Int.emod_eq_of_lt (by decide) (by omega))]
/-! its parity -/
theorem oddU_rs (x : Int) : oddU p x = if rs p x = 1 then 0 else 1 := by
  have e : ((p : Int) / 2).toNat = (((p : Int) - 1) / 2).toNat := by have := hp.1; omega
  unfold oddU rs
  rw [e]
  split <;> simp
theorem oddU_mul {x y : Int} (hx : x % p ≠ 0) (hy : y % p ≠ 0) : ∃ w : Int, oddU p (x * y) = oddU p x + oddU p y - 2 * w := by
  rw [oddU_rs hp ho, oddU_rs hp ho x, oddU_rs hp ho y, rs_mul hp ho hx hy]
  rcases rs_pm hp ho x with e | e <;> rcases rs_pm hp ho y with f | f <;> rw [e, f]
  · exact ⟨0, rfl⟩
  · exact ⟨0, rfl⟩
  · exact ⟨0, rfl⟩
  · exact ⟨1, rfl⟩
theorem oddU_neg : oddU p (-1) % 2 = ((p : Int) / 2) % 2 := by
  rw [oddU_rs hp ho, rs_neg hp ho]
  by_cases h : p / 2 % 2 = 0
  · rw [if_pos h]; simp; omega
  · rw [if_neg h]; simp; omega
theorem oddU_one : oddU p 1 = 0 := by rw [oddU_rs hp ho, rs_one hp ho]; rfl
theorem oddU_nat {a : Nat} (ha : a % p ≠ 0) : oddU p (a : Int) = ((S (gm p a) (p / 2) % 2 : Nat) : Int) := by
  rw [oddU_rs hp ho, rs_gauss hp ho ha]
  have : S (gm p a) (p / 2) % 2 = 0 ∨ S (gm p a) (p / 2) % 2 = 1 := by omega
  rcases this with h | h <;> rw [h] <;> rfl
theorem oddU_mod {x y : Int} (h : x % p = y % p) : oddU p x = oddU p y := by
  unfold oddU
  rw [ipow_emod x, ipow_emod y, h]
end
/-! ### the sign at a prime, by parities -/
theorem sg_pm (p : Int) (k : Nat) (u : Int) (l : Nat) (v : Int) : sg p k u l v = 1 ∨ sg p k u l v = -1 := by unfold sg; split <;> simp
theorem sg_even {p : Int} {k : Nat} {u : Int} {l : Nat} {v : Int} : sg p k u l v = 1 ↔ sgZ p k u l v % 2 = 0 := by
  unfold sg
  split
  · constructor
    · intro h; exact absurd h (by decide)
    · intro h; omega
  · constructor
    · intro h; omega
    · intro h; rfl
theorem sg_sum {p : Int} {k : Nat} {u : Int} {l : Nat} {v : Int} {m : Nat} {t : Int} {n : Nat} {s : Int} (h : sgZ p k u n s % 2 = (sgZ p k u l v + sgZ p k u m t) % 2) : sg p k u n s = sg p k u l v * sg p k u m t := by
  have cases2 : ∀ x : Int, x % 2 = 0 ∨ x % 2 = 1 := fun x => by omega
  unfold sg
  rcases cases2 (sgZ p k u l v) with a | a <;> rcases cases2 (sgZ p k u m t) with b | b
  · rw [if_neg (by omega), if_neg (by omega), if_neg (by omega)]; rfl
  · rw [if_pos (by omega), if_neg (by omega), if_pos (by omega)]; rfl
  · rw [if_pos (by omega), if_pos (by omega), if_neg (by omega)]; rfl
  · rw [if_neg (by omega), if_pos (by omega), if_pos (by omega)]; rfl
/-- u odd: the classes by 8 -/
theorem oct {u : Int} (h : u % 2 ≠ 0) : u % 8 = 1 ∨ u % 8 = 3 ∨ u % 8 = 5 ∨ u % 8 = 7 := by omega
theorem al_mul {u v : Int} (hu : u % 2 ≠ 0) (hv : v % 2 ≠ 0) : (u * v / 2) % 2 = (u / 2 + v / 2) % 2 := by
  have e : (u * v) % 8 = ((u % 8) * (v % 8)) % 8 := Int.mul_emod u v 8
  have e2 := half8 (u := u * v)
  have e3 := half8 (u := u)
  have e4 := half8 (u := v)
  rcases oct hu with a | a | a | a <;> rcases oct hv with b | b | b | b <;> rw [a, b] at e <;> rw [e] at e2 <;> rw [a] at e3 <;> rw [b] at e4 <;> omega
theorem be_mul {u v : Int} (hu : u % 2 ≠ 0) (hv : v % 2 ≠ 0) : (u * v * (u * v) / 8) % 2 = (u * u / 8 + v * v / 8) % 2 := by
  have e : (u * v) % 8 = ((u % 8) * (v % 8)) % 8 := Int.mul_emod u v 8
  have e2 := sq8 (u * v)
  have e3 := sq8 u
  have e4 := sq8 v
  rw [e] at e2
  rw [Int.add_emod, e2, e3, e4]
  rcases oct hu with a | a | a | a <;> rcases oct hv with b | b | b | b <;> rw [a, b] <;> decide
/-- products -/
theorem sgZ_mul {p : Int} (hp : p = 2 ∨ ∃ q : Nat, p = q ∧ Prime q ∧ q % 2 = 1) {k : Nat} {u : Int} {l : Nat} {v : Int} {m : Nat} {t : Int} (hv : v % p ≠ 0) (ht : t % p ≠ 0) : sgZ p k u (l + m) (v * t) % 2 = (sgZ p k u l v + sgZ p k u m t) % 2 := by
  rcases hp with rfl | ⟨q, rfl, hq, ho⟩
  · unfold sgZ
    rw [if_pos rfl, if_pos rfl, if_pos rfl, par2, al_mul hv ht, be_mul hv ht, ← par2]
    have e1 : (u / 2) * (v / 2 + t / 2) = (u / 2) * (v / 2) + (u / 2) * (t / 2) := Int.mul_add _ _ _
    have e2 : (k : Int) * (v * v / 8 + t * t / 8) = k * (v * v / 8) + k * (t * t / 8) := Int.mul_add _ _ _
    have e3 : ((l + m : Nat) : Int) * (u * u / 8) = l * (u * u / 8) + m * (u * u / 8) := by rw [Int.natCast_add, Int.add_mul]
    rw [e1, e2, e3]
    omega
  · have q2 := hq.1
    unfold sgZ
    rw [if_neg (by omega), if_neg (by omega), if_neg (by omega)]
    obtain ⟨w, hw⟩ := oddU_mul hq ho hv ht
    rw [hw]
    have e1 : (k : Int) * ((l + m : Nat) : Int) * ((q : Int) / 2) = k * l * ((q : Int) / 2) + k * m * ((q : Int) / 2) := by rw [Int.natCast_add, Int.mul_add, Int.add_mul]
    have e2 : ((l + m : Nat) : Int) * oddU q u = l * oddU q u + m * oddU q u := by rw [Int.natCast_add, Int.add_mul]
    have e3 : (k : Int) * (oddU q v + oddU q t - 2 * w) = k * oddU q v + k * oddU q t - 2 * (k * w) := by rw [Int.mul_sub, Int.mul_add, Int.mul_left_comm]
    rw [e1, e2, e3]
    omega
/-- a and its opposite -/
theorem sgZ_opp {p : Int} (hp : p = 2 ∨ ∃ q : Nat, p = q ∧ Prime q ∧ q % 2 = 1) {k : Nat} {u : Int} (hu : u % p ≠ 0) : sgZ p k u k (-u) % 2 = 0 := by
  rcases hp with rfl | ⟨q, rfl, hq, ho⟩
  · unfold sgZ
    rw [if_pos rfl]
    have e1 : (-u) * (-u) = u * u := by rw [Int.neg_mul_neg]
    rw [e1]
    have e2 : (u / 2) * (-u / 2) % 2 = 0 := by
      rw [Int.mul_emod]
      have : (u / 2) % 2 = 0 ∨ (-u / 2) % 2 = 0 := by omega
      rcases this with h | h <;> rw [h] <;> simp
    omega
  · have q2 := hq.1
    unfold sgZ
    rw [if_neg (by omega)]
    have h1 : (-1 : Int) % q ≠ 0 := by
      intro h
      have := Int.le_of_dvd (by decide) ((Int.dvd_neg).mp (Int.dvd_of_emod_eq_zero h))
      omega
    obtain ⟨w, hw⟩ := oddU_mul hq ho h1 hu
    have e0 : (-1 : Int) * u = -u := by omega
    rw [e0] at hw
    rw [hw]
    have hn := oddU_neg hq ho
    obtain ⟨z, hz⟩ : ∃ z : Int, oddU q (-1) = (q : Int) / 2 + 2 * z := ⟨(oddU q (-1) - (q : Int) / 2) / 2, by omega⟩
    rw [hz]
    have e3 : (k : Int) * ((q : Int) / 2 + 2 * z + oddU q u - 2 * w) = k * ((q : Int) / 2) + 2 * (k * z) + k * oddU q u - 2 * (k * w) := by
      rw [Int.mul_sub, Int.mul_add, Int.mul_add, Int.mul_left_comm (k : Int) 2 z, Int.mul_left_comm (k : Int) 2 w]
    rw [e3]
    have e4 : ((k : Int) * k * ((q : Int) / 2) + k * ((q : Int) / 2)) % 2 = 0 := by
      rw [Int.mul_assoc, ← Int.mul_add, Int.mul_emod]
      have e5 : (k : Int) * ((q : Int) / 2) + (q : Int) / 2 = (k + 1) * ((q : Int) / 2) := by rw [Int.add_mul, Int.one_mul]
      rw [e5, ← Int.mul_emod, ← Int.mul_assoc, Int.mul_emod]
      have : ((k : Int) * (k + 1)) % 2 = 0 := by
        rw [Int.mul_emod]
        have : (k : Int) % 2 = 0 ∨ ((k : Int) + 1) % 2 = 0 := by omega
        rcases this with h | h <;> rw [h] <;> simp
      rw [this]
      simp
    omega
end NT

namespace NT
/-! ### two numbers of sum 1 -/
theorem sgZ_sum1 {p : Int} (hp : p = 2 ∨ ∃ q : Nat, p = q ∧ Prime q ∧ q % 2 = 1) {k : Nat} {u v : Int} (hu : u % p ≠ 0) (hv : p ^ k * u + v = 1) (hvn : v % p ≠ 0) : sgZ p k u 0 v % 2 = 0 := by
  rcases hp with rfl | ⟨q, rfl, hq, ho⟩
  · unfold sgZ
    rw [if_pos rfl, par2]
    rcases k with _ | _ | _ | k
    · exfalso
      simp at hv
      omega
    · have e : (2 : Int) ^ 1 = 2 := rfl
      rw [e] at hv
      have h1 := half8 (u := u)
      have h2 := half8 (u := v)
      have h3 := sq8 v
      rcases oct hu with a | a | a | a
      · have b : v % 8 = 7 := by omega
        rw [h1, h2, h3, a, b]; simp
      · have b : v % 8 = 3 := by omega
        rw [h1, h2, h3, a, b]; simp
      · have b : v % 8 = 7 := by omega
        rw [h1, h2, h3, a, b]; simp
      · have b : v % 8 = 3 := by omega
        rw [h1, h2, h3, a, b]; simp
    · have e : (2 : Int) ^ 2 = 4 := rfl
      rw [e] at hv
      have h2 : (v / 2) % 2 = 0 := by omega
      rw [h2]; simp
    · have e : (2 : Int) ^ (k + 3) = 8 * 2 ^ k := by rw [Int.pow_add, Int.mul_comm]; rfl
      rw [e, Int.mul_assoc] at hv
      have b : v % 8 = 1 := by omega
      have h2 := half8 (u := v)
      have h3 := sq8 v
      rw [h2, h3, b]; simp
  · have q2 := hq.1
    unfold sgZ
    rw [if_neg (by omega)]
    rcases k with _ | k
    · simp
    · have e : ((q : Nat) : Int) ^ (k + 1) = q * q ^ k := by rw [Int.pow_succ, Int.mul_comm]
      rw [e, Int.mul_assoc] at hv
      have hm : v % q = 1 % q := by
        have : v = 1 + q * (-(q ^ k * u)) := by rw [Int.mul_neg]; omega
        rw [this, Int.add_mul_emod_self_left]
      rw [oddU_mod hq ho hm, oddU_one hq ho]
      simp
/-- the places -/
def place (p : Nat) : Prop := p = 0 ∨ Prime p
theorem place_odd {p : Nat} (hp : Prime p) : (p : Int) = 2 ∨ ∃ q : Nat, (p : Int) = q ∧ Prime q ∧ q % 2 = 1 := by
  by_cases h : p % 2 = 1
  · exact .inr ⟨p, rfl, hp, h⟩
  · left
    rcases hp.2 2 (Nat.dvd_of_mod_eq_zero (by omega)) with z | z
    · omega
    · omega
theorem place_two {p : Nat} (hp : Prime p) : p = 2 ∨ p % 2 = 1 := by
  rcases place_odd hp with z | ⟨q, z, _, h⟩
  · left; omega
  · right; omega
theorem nd_mulN {p : Nat} {u v : Int} (hp : Prime p) (hu : u % p ≠ 0) (hv : v % p ≠ 0) : (u * v) % p ≠ 0 := nd_mul (p := (p : Int)) hp (by omega) hu hv
open Classical in
/-- the sign of two numbers other than 0 -/
noncomputable def hs (p : Nat) (a b : Int) : Int := if p = 0 then sg0 a b else
  if h : ∃ x : Nat × Int × Nat × Int, Spl p a x.1 x.2.1 ∧ Spl p b x.2.2.1 x.2.2.2 then sg p h.choose.1 h.choose.2.1 h.choose.2.2.1 h.choose.2.2.2 else 1
theorem hs_eq {p : Nat} (hp : Prime p) {a b : Int} {k : Nat} {u : Int} {l : Nat} {v : Int} (ha : Spl p a k u) (hb : Spl p b l v) : hs p a b = sg p k u l v := by
  have p2 := hp.1
  unfold hs
  rw [if_neg (by omega), dif_pos ⟨(k, u, l, v), ha, hb⟩]
  generalize hh : (⟨(k, u, l, v), ha, hb⟩ : ∃ x : Nat × Int × Nat × Int, Spl p a x.1 x.2.1 ∧ Spl p b x.2.2.1 x.2.2.2) = h
  obtain ⟨h1, h2⟩ := h.choose_spec
  obtain ⟨e1, e2⟩ := h1.uniq (by omega) ha
  obtain ⟨e3, e4⟩ := h2.uniq (by omega) hb
  rw [e1, e2, e3, e4]
theorem hs_zero (a b : Int) : hs 0 a b = sg0 a b := by unfold hs; rw [if_pos rfl]
theorem spl_ex {p : Nat} (hp : Prime p) {a : Int} (h : a ≠ 0) : ∃ k u, Spl p a k u := Spl.ex (by have := hp.1; omega) _ a (Nat.le_refl _) h
theorem sg0_pm (a b : Int) : sg0 a b = 1 ∨ sg0 a b = -1 := by unfold sg0; split <;> simp
theorem hs_pm {p : Nat} (hp : place p) {a b : Int} (ha : a ≠ 0) (hb : b ≠ 0) : hs p a b = 1 ∨ hs p a b = -1 := by
  rcases hp with rfl | hp
  · rw [hs_zero]; exact sg0_pm _ _
  · obtain ⟨k, u, h1⟩ := spl_ex hp ha
    obtain ⟨l, v, h2⟩ := spl_ex hp hb
    rw [hs_eq hp h1 h2]; exact sg_pm _ _ _ _ _
theorem hs_comm {p : Nat} (hp : place p) {a b : Int} (ha : a ≠ 0) (hb : b ≠ 0) : hs p a b = hs p b a := by
  rcases hp with rfl | hp
  · rw [hs_zero, hs_zero]; unfold sg0; simp only [And.comm]
  · obtain ⟨k, u, h1⟩ := spl_ex hp ha
    obtain ⟨l, v, h2⟩ := spl_ex hp hb
    rw [hs_eq hp h1 h2, hs_eq hp h2 h1, sg_comm]
theorem mul_neg_iff (b c : Int) (hb : b ≠ 0) (hc : c ≠ 0) : b * c < 0 ↔ (b < 0 ∧ 0 < c ∨ 0 < b ∧ c < 0) := by
  constructor
  · intro h
    by_cases b0 : 0 < b
    · right
      refine ⟨b0, ?_⟩
      by_cases c0 : 0 < c
      · have := Int.mul_pos b0 c0; omega
      · omega
    · left
      refine ⟨by omega, ?_⟩
      by_cases c0 : 0 < c
      · exact c0
      · have := Int.mul_pos_of_neg_of_neg (a := b) (b := c) (by omega) (by omega); omega
  · rintro (⟨h1, h2⟩ | ⟨h1, h2⟩)
    · exact Int.mul_neg_of_neg_of_pos h1 h2
    · exact Int.mul_neg_of_pos_of_neg h1 h2
theorem sg0_mul {a b c : Int} (hb : b ≠ 0) (hc : c ≠ 0) : sg0 a (b * c) = sg0 a b * sg0 a c := by
  unfold sg0
  simp only [mul_neg_iff b c hb hc]
  by_cases h : a < 0
  · by_cases h1 : b < 0 <;> by_cases h2 : c < 0
    · rw [if_neg (by omega), if_pos (by omega), if_pos (by omega)]; rfl
    · rw [if_pos (by omega), if_pos (by omega), if_neg (by omega)]; rfl
    · rw [if_pos (by omega), if_neg (by omega), if_pos (by omega)]; rfl
    · rw [if_neg (by omega), if_neg (by omega), if_neg (by omega)]; rfl
  · rw [if_neg (by omega), if_neg (by omega), if_neg (by omega)]; rfl
theorem hs_mul {p : Nat} (hp : place p) {a b c : Int} (ha : a ≠ 0) (hb : b ≠ 0) (hc : c ≠ 0) : hs p a (b * c) = hs p a b * hs p a c := by
  rcases hp with rfl | hp
  · rw [hs_zero, hs_zero, hs_zero, sg0_mul hb hc]
  · obtain ⟨k, u, h1⟩ := spl_ex hp ha
    obtain ⟨l, v, h2⟩ := spl_ex hp hb
    obtain ⟨m, t, h3⟩ := spl_ex hp hc
    rw [hs_eq hp h1 h2, hs_eq hp h1 h3, hs_eq hp h1 (h2.mul h3 (nd_mulN hp h2.nd h3.nd))]
    exact sg_sum (sgZ_mul (place_odd hp) h2.nd h3.nd)
theorem hs_opp {p : Nat} (hp : place p) {a : Int} (ha : a ≠ 0) : hs p a (-a) = 1 := by
  rcases hp with rfl | hp
  · rw [hs_zero]; unfold sg0; rw [if_neg (by omega)]
  · obtain ⟨k, u, h1⟩ := spl_ex hp ha
    have h2 : Spl p (-a) k (-u) := ⟨by rw [h1.eq, Int.mul_neg], fun z => h1.nd (Int.emod_eq_zero_of_dvd ((Int.dvd_neg).mp (Int.dvd_of_emod_eq_zero z)))⟩
    rw [hs_eq hp h1 h2]
    exact sg_even.mpr (sgZ_opp (place_odd hp) h1.nd)
theorem hs_sum1 {p : Nat} (hp : place p) {a : Int} (ha : a ≠ 0) (ha1 : a ≠ 1) : hs p a (1 - a) = 1 := by
  rcases hp with rfl | hp
  · rw [hs_zero]; unfold sg0; rw [if_neg (by omega)]
  · have p2 := hp.1
    have main : ∀ {a b : Int}, a ≠ 0 → b ≠ 0 → a + b = 1 → b % p ≠ 0 → hs p a b = 1 := by
      intro a b ha hb e hn
      obtain ⟨k, u, h1⟩ := spl_ex hp ha
      rw [hs_eq hp h1 (l := 0) (v := b) ⟨by simp, hn⟩]
      refine sg_even.mpr (sgZ_sum1 (place_odd hp) h1.nd ?_ hn)
      rw [← h1.eq]; exact e
    by_cases h : (1 - a) % p = 0
    · rw [hs_comm (.inr hp) ha (by omega)]
      refine main (by omega) ha (by omega) fun z => ?_
      have h1 := Int.dvd_add (Int.dvd_of_emod_eq_zero h) (Int.dvd_of_emod_eq_zero z)
      have e : 1 - a + a = 1 := by omega
      rw [e] at h1
      have := Int.le_of_dvd (by decide) h1
      omega
    · exact main ha (by omega) (by omega) h
theorem hs_unit {p : Nat} (hp : Prime p) (ho : p % 2 = 1) {a b : Int} (ha : a % p ≠ 0) (hb : b % p ≠ 0) : hs p a b = 1 := by
  rw [hs_eq hp (k := 0) (u := a) (l := 0) (v := b) ⟨by simp, ha⟩ ⟨by simp, hb⟩]
  refine sg_even.mpr ?_
  unfold sgZ
  rw [if_neg (by omega)]
  simp
theorem hs_one {p : Nat} (hp : place p) {a : Int} (ha : a ≠ 0) : hs p a 1 = 1 := by
  have h := hs_mul hp ha (b := 1) (c := 1) (by decide) (by decide)
  rw [Int.mul_one] at h
  rcases hs_pm hp ha (b := 1) (by decide) with e | e
  · exact e
  · rw [e] at h; simp at h
/-! ### the product of all signs -/
noncomputable def PP (L : List Nat) (a b : Int) : Int := lprod (L.map fun p => hs p a b)
structure Good (L : List Nat) : Prop where
  nd : L.Nodup
  pl : ∀ p ∈ L, place p
  zero : 0 ∈ L
  two : 2 ∈ L
theorem lprod_one {f : Nat → Int} : ∀ {L : List Nat}, (∀ p ∈ L, f p = 1) → lprod (L.map f) = 1
  | [], _ => rfl
  | x :: L, h => by
    show f x * lprod (L.map f) = 1
    rw [h x (by simp), lprod_one fun p hp => h p (by simp [hp])]
    rfl
theorem lprod_sub {f : Nat → Int} : ∀ {M L : List Nat}, L.Nodup → M.Nodup → (∀ p ∈ M, p ∈ L) → (∀ p ∈ L, p ∉ M → f p = 1) → lprod (L.map f) = lprod (M.map f)
  | [], L, _, _, _, h => lprod_one fun p hp => h p hp (by simp)
  | m :: M, L, hL, hM, hs, h => by
    obtain ⟨h1, h2⟩ := List.nodup_cons.mp hM
    have hm := hs m (by simp)
    rw [lprod_perm ((List.perm_cons_erase hm).map f)]
    show f m * lprod ((L.erase m).map f) = f m * lprod (M.map f)
    congr 1
    refine lprod_sub (hL.erase m) h2 (fun p hp => ?_) (fun p hp hn => ?_)
    · have ne : p ≠ m := fun e => h1 (e ▸ hp)
      exact (List.mem_erase_of_ne ne).mpr (hs p (by simp [hp]))
    · have hp' := (hL.mem_erase_iff).mp hp
      exact h p hp'.2 (by simp [hn, hp'.1])
theorem lprod_mul (f g : Nat → Int) : ∀ L : List Nat, lprod (L.map fun p => f p * g p) = lprod (L.map f) * lprod (L.map g)
  | [] => rfl
  | x :: L => by
    show f x * g x * lprod (L.map fun p => f p * g p) = f x * lprod (L.map f) * (g x * lprod (L.map g))
    rw [lprod_mul f g L, Int.mul_assoc, Int.mul_left_comm (g x), ← Int.mul_assoc]
theorem lprod_congr {f g : Nat → Int} : ∀ {L : List Nat}, (∀ p ∈ L, f p = g p) → lprod (L.map f) = lprod (L.map g)
  | [], _ => rfl
  | x :: L, h => by
    show f x * lprod (L.map f) = g x * lprod (L.map g)
    rw [h x (by simp), lprod_congr fun p hp => h p (by simp [hp])]
section
variable {L : List Nat} (G : Good L)
include G
theorem PP_mul {a b c : Int} (ha : a ≠ 0) (hb : b ≠ 0) (hc : c ≠ 0) : PP L a (b * c) = PP L a b * PP L a c := by
  unfold PP
  rw [← lprod_mul]
  exact lprod_congr fun p hp => hs_mul (G.pl p hp) ha hb hc
theorem PP_comm {a b : Int} (ha : a ≠ 0) (hb : b ≠ 0) : PP L a b = PP L b a := lprod_congr fun p hp => hs_comm (G.pl p hp) ha hb
theorem PP_one {a : Int} (ha : a ≠ 0) : PP L a 1 = 1 := lprod_one fun p hp => hs_one (G.pl p hp) ha
theorem PP_opp {a : Int} (ha : a ≠ 0) : PP L a (-a) = 1 := lprod_one fun p hp => hs_opp (G.pl p hp) ha
/-- a number and itself -/
theorem PP_self {a : Int} (ha : a ≠ 0) (h : PP L a (-1) = 1) : PP L a a = 1 := by
  have e : a = (-1) * (-a) := by omega
  conv => lhs; arg 3; rw [e]
  rw [PP_mul G ha (by decide) (by omega), h, PP_opp G ha]; rfl
theorem odd_place {p : Nat} (hp : p ∈ L) (h0 : p ≠ 0) (h2 : p ≠ 2) : Prime p ∧ p % 2 = 1 := by
  rcases G.pl p hp with h | h
  · exact absurd h h0
  · refine ⟨h, ?_⟩
    rcases place_two h with z | z
    · exact absurd z h2
    · exact z
omit G in
theorem unit1 {p : Nat} (hp : Prime p) : (1 : Int) % p ≠ 0 := by
  intro h
  have := Int.le_of_dvd (by decide) (Int.dvd_of_emod_eq_zero h)
  have := hp.1
  omega
omit G in
theorem unitm {p : Nat} (hp : Prime p) : (-1 : Int) % p ≠ 0 := by
  intro h
  have := Int.le_of_dvd (by decide) ((Int.dvd_neg).mp (Int.dvd_of_emod_eq_zero h))
  have := hp.1
  omega
omit G in
theorem unitp {p q : Nat} (hp : Prime p) (hq : Prime q) (h : p ≠ q) : (q : Int) % p ≠ 0 := by
  intro z
  have hz : q % p = 0 := by omega
  rcases hq.2 p (Nat.dvd_of_mod_eq_zero hz) with h1 | h1
  · have := hp.1; omega
  · exact h h1
omit G in
theorem splU {p : Nat} {a : Int} (h : a % p ≠ 0) : Spl p a 0 a := ⟨by simp, h⟩
omit G in
theorem splP {p : Nat} (hp : Prime p) : Spl p (p : Int) 1 1 := ⟨by rw [Int.pow_succ, Int.pow_zero]; omega, unit1 hp⟩
omit G in
theorem p2 : Prime 2 := prime_by 2 (by decide)
theorem base_mm : PP L (-1) (-1) = 1 := by
  unfold PP
  rw [lprod_sub (M := [0, 2]) G.nd (by decide) (by intro p hp; simp at hp; rcases hp with rfl | rfl; exact G.zero; exact G.two)]
  · show hs 0 (-1) (-1) * (hs 2 (-1) (-1) * 1) = 1
    rw [hs_zero, hs_eq p2 (splU (by decide)) (splU (by decide))]
    decide
  · intro p hp hn
    simp at hn
    obtain ⟨h1, h2⟩ := odd_place G hp hn.1 hn.2
    exact hs_unit h1 h2 (unitm h1) (unitm h1)
theorem base_m2 : PP L (-1) 2 = 1 := by
  unfold PP
  rw [lprod_sub (M := [0, 2]) G.nd (by decide) (by intro p hp; simp at hp; rcases hp with rfl | rfl; exact G.zero; exact G.two)]
  · show hs 0 (-1) 2 * (hs 2 (-1) 2 * 1) = 1
    rw [hs_zero, hs_eq p2 (splU (by decide)) (show Spl ((2 : Nat) : Int) 2 1 1 from splP p2)]
    decide
  · intro p hp hn
    simp at hn
    obtain ⟨h1, h2⟩ := odd_place G hp hn.1 hn.2
    exact hs_unit h1 h2 (unitm h1) (unitp (q := 2) h1 p2 hn.2)
omit G in
theorem sg_par (p : Int) (k : Nat) (u : Int) (l : Nat) (v : Int) : sg p k u l v = if sgZ p k u l v % 2 = 0 then 1 else -1 := by
  unfold sg
  by_cases h : sgZ p k u l v % 2 = 1
  · rw [if_pos h, if_neg (by omega)]
  · rw [if_neg h, if_pos (by omega)]
omit G in
theorem pair_one {x y : Int} (h : (x + y) % 2 = 0) : (if x % 2 = 0 then (1 : Int) else -1) * ((if y % 2 = 0 then (1 : Int) else -1) * 1) = 1 := by
  by_cases hx : x % 2 = 0
  · rw [if_pos hx, if_pos (by omega)]; rfl
  · rw [if_neg hx, if_neg (by omega)]; rfl
/-- two places only -/
theorem base_q {a : Int} {q : Nat} (hq : q ∈ L) (h0 : q ≠ 0) (h2 : q ≠ 2) (ha : ∀ p, Prime p → p % 2 = 1 → p ≠ q → a % p ≠ 0) {k : Nat} {u : Int} (s2 : Spl ((2 : Nat) : Int) a k u) (aq : a % q ≠ 0)
    (hz : (sgZ 2 k u 0 q + sgZ q 0 a 1 1) % 2 = 0) : PP L a q = 1 := by
  obtain ⟨pq, oq⟩ := odd_place G hq h0 h2
  unfold PP
  rw [lprod_sub (M := [0, 2, q]) G.nd (by simp [Ne.symm h0, Ne.symm h2]) (by intro p hp; simp at hp; rcases hp with rfl | rfl | rfl; exact G.zero; exact G.two; exact hq)]
  · show hs 0 a q * (hs 2 a q * (hs q a q * 1)) = 1
    have e0 : sg0 a q = 1 := by unfold sg0; rw [if_neg (by omega)]
    rw [hs_zero, e0, hs_eq p2 s2 (splU (unitp p2 pq (by omega))), hs_eq pq (splU aq) (splP pq), sg_par, sg_par, Int.one_mul]
    exact pair_one hz
  · intro p hp hn
    simp at hn
    obtain ⟨h1, h3⟩ := odd_place G hp hn.1 hn.2.1
    exact hs_unit h1 h3 (ha p h1 h3 hn.2.2) (unitp h1 pq hn.2.2)
theorem base_mq {q : Nat} (hq : q ∈ L) (h0 : q ≠ 0) (h2 : q ≠ 2) : PP L (-1) q = 1 := by
  obtain ⟨pq, oq⟩ := odd_place G hq h0 h2
  refine base_q G hq h0 h2 (fun p h _ _ => unitm h) (k := 0) (u := -1) (splU (by decide)) (unitm pq) ?_
  have h := oddU_neg pq oq
  unfold sgZ
  rw [if_pos rfl, if_neg (by omega)]
  simp
  omega
theorem base_2q {q : Nat} (hq : q ∈ L) (h0 : q ≠ 0) (h2 : q ≠ 2) : PP L 2 q = 1 := by
  obtain ⟨pq, oq⟩ := odd_place G hq h0 h2
  refine base_q G hq h0 h2 (fun p h ho _ => unitp (q := 2) h p2 (fun e => by rw [e] at ho; exact absurd ho (by decide))) (k := 1) (u := 1) (splP p2) (unitp pq p2 h2) ?_
  have q2 := pq.1
  have hn : 2 % q ≠ 0 := by rw [Nat.mod_eq_of_lt (by omega)]; decide
  have h := oddU_nat pq oq hn
  rw [gm_two pq oq] at h
  have h' : oddU (q : Int) 2 = ((q / 2 * (q / 2 + 1) / 2 % 2 : Nat) : Int) := h
  have e : (q : Int) * q / 8 = ((q / 2 * (q / 2 + 1) / 2 : Nat) : Int) := by
    obtain ⟨m, hm⟩ : ∃ m, q = 2 * m + 1 := ⟨q / 2, by omega⟩
    have e1 : q / 2 = m := by omega
    rw [e1]
    have t := T_eq m
    have e2 : q * q = 8 * (m * (m + 1) / 2) + 1 := by
      rw [← t, hm, Nat.mul_div_cancel_left _ (by decide)]
      have t2 : m * m + m = 2 * T m := by rw [t, Nat.mul_succ]
      have : (2 * m + 1) * (2 * m + 1) = 4 * (m * m) + 4 * m + 1 := by
        rw [Nat.add_mul, Nat.mul_add, Nat.mul_mul_mul_comm]; omega
      omega
    have e3 : (q : Int) * q = ((q * q : Nat) : Int) := by simp
    rw [e3, e2]
    omega
  unfold sgZ
  rw [if_pos rfl, if_neg (by omega), h', e]
  simp
  omega
theorem base_qr {q r : Nat} (hq : q ∈ L) (h0 : q ≠ 0) (h2 : q ≠ 2) (hr : r ∈ L) (r0 : r ≠ 0) (r2 : r ≠ 2) (hne : q ≠ r) : PP L q r = 1 := by
  obtain ⟨pq, oq⟩ := odd_place G hq h0 h2
  obtain ⟨pr, or⟩ := odd_place G hr r0 r2
  unfold PP
  rw [lprod_sub (M := [0, 2, q, r]) G.nd (by simp [Ne.symm h0, Ne.symm h2, Ne.symm r0, Ne.symm r2, hne]) (by intro p hp; simp at hp; rcases hp with rfl | rfl | rfl | rfl; exact G.zero; exact G.two; exact hq; exact hr)]
  · show hs 0 q r * (hs 2 q r * (hs q q r * (hs r q r * 1))) = 1
    have e0 : sg0 q r = 1 := by unfold sg0; rw [if_neg (by omega)]
    have uq : (r : Int) % q ≠ 0 := unitp pq pr hne
    have ur : (q : Int) % r ≠ 0 := unitp pr pq (Ne.symm hne)
    rw [hs_zero, e0, hs_eq p2 (splU (unitp p2 pq (by omega))) (splU (unitp p2 pr (by omega))), hs_eq pq (splP pq) (splU uq), hs_eq pr (splU ur) (splP pr), sg_par, sg_par, sg_par, Int.one_mul]
    have n1 : r % q ≠ 0 := by omega
    have n2 : q % r ≠ 0 := by omega
    have h1 := oddU_nat pq oq n1
    have h3 := oddU_nat pr or n2
    have h := recip pq pr oq or hne
    have z1 : sgZ 2 0 q 0 r = ((q / 2 * (r / 2) : Nat) : Int) := by unfold sgZ; rw [if_pos rfl]; simp
    have z2 : sgZ q 1 1 0 r = oddU q r := by unfold sgZ; rw [if_neg (by omega)]; simp
    have z3 : sgZ r 0 q 1 1 = oddU r q := by unfold sgZ; rw [if_neg (by omega)]; simp
    show (if sgZ 2 0 q 0 r % 2 = 0 then (1 : Int) else -1) * ((if sgZ q 1 1 0 r % 2 = 0 then (1 : Int) else -1) * ((if sgZ r 0 q 1 1 % 2 = 0 then (1 : Int) else -1) * 1)) = 1
    rw [z1, z2, z3, h1, h3]
    generalize S (gm q r) (q / 2) = A at *
    generalize S (gm r q) (r / 2) = B at *
    generalize q / 2 * (r / 2) = C at *
    have hA : A % 2 = 0 ∨ A % 2 = 1 := by omega
    have hB : B % 2 = 0 ∨ B % 2 = 1 := by omega
    rcases hA with a | a <;> rcases hB with b | b
    · rw [if_pos (by omega), if_pos (by omega), if_pos (by omega)]; rfl
    · rw [if_neg (by omega), if_pos (by omega), if_neg (by omega)]; rfl
    · rw [if_neg (by omega), if_neg (by omega), if_pos (by omega)]; rfl
    · rw [if_pos (by omega), if_neg (by omega), if_neg (by omega)]; rfl
  · intro p hp hn
    simp at hn
    obtain ⟨h1, h3⟩ := odd_place G hp hn.1 hn.2.1
    exact hs_unit h1 h3 (unitp h1 pq hn.2.2.1) (unitp h1 pr hn.2.2.2)
end
end NT

namespace NT
theorem has_prime : ∀ (m n : Nat), n ≤ m → 2 ≤ n → ∃ q, Prime q ∧ q ∣ n
  | 0, n, h, h2 => by omega
  | m + 1, n, h, h2 => by
    by_cases hp : ∀ d, d ∣ n → d = 1 ∨ d = n
    · exact ⟨n, ⟨h2, hp⟩, Nat.dvd_refl n⟩
    · obtain ⟨d, hd⟩ := Classical.not_forall.mp hp
      obtain ⟨h3, h4⟩ := Classical.not_imp.mp hd
      have hd0 : d ≠ 0 := fun z => by rw [z] at h3; have := Nat.eq_zero_of_zero_dvd h3; omega
      have hle := Nat.le_of_dvd (by omega) h3
      obtain ⟨q, hq, hqd⟩ := has_prime m d (by omega) (by omega)
      exact ⟨q, hq, Nat.dvd_trans hqd h3⟩
/-- all primes of b are in L -/
def Sup (L : List Nat) (b : Int) : Prop := ∀ q, Prime q → q ∣ b.natAbs → q ∈ L
section
variable {L : List Nat} (G : Good L)
include G
theorem PP_ind {a : Int} (ha : a ≠ 0) (hm : PP L a (-1) = 1) (hq : ∀ q ∈ L, q ≠ 0 → PP L a (q : Int) = 1) : ∀ (n : Nat) (b : Int), b.natAbs ≤ n → b ≠ 0 → Sup L b → PP L a b = 1
  | 0, b, h, h0, _ => by omega
  | n + 1, b, h, h0, hs => by
    by_cases h1 : b.natAbs = 1
    · rcases Int.natAbs_eq b with e | e
      · rw [e, h1]; exact PP_one G ha
      · rw [e, h1]; exact hm
    · obtain ⟨q, pq, hd⟩ := has_prime _ b.natAbs (Nat.le_refl _) (by omega)
      have q2 := pq.1
      obtain ⟨c, hc⟩ : ∃ c, b = q * c := by
        have : (q : Int) ∣ b := Int.natAbs_dvd_natAbs.mp (by simpa using hd)
        exact this
      have c0 : c ≠ 0 := fun z => h0 (by rw [hc, z, Int.mul_zero])
      have e1 : b.natAbs = q * c.natAbs := by rw [hc, Int.natAbs_mul]; rfl
      have e2 : 2 * c.natAbs ≤ q * c.natAbs := Nat.mul_le_mul_right _ q2
      rw [hc, PP_mul G ha (by omega) c0, hq q (hs q pq hd) (by omega)]
      rw [PP_ind ha hm hq n c (by omega) c0 (fun r hr hrd => hs r hr (by rw [e1]; exact Nat.dvd_trans hrd (Nat.dvd_mul_left _ _)))]
      rfl
theorem PP_m {b : Int} (h0 : b ≠ 0) (hs : Sup L b) : PP L (-1) b = 1 := by
  refine PP_ind G (by decide) (base_mm G) (fun q hq q0 => ?_) _ b (Nat.le_refl _) h0 hs
  by_cases e : q = 2
  · rw [e]; exact base_m2 G
  · exact base_mq G hq q0 e
theorem PP_q {q : Nat} (hq : q ∈ L) (q0 : q ≠ 0) {b : Int} (h0 : b ≠ 0) (hs : Sup L b) : PP L q b = 1 := by
  have qi : (q : Int) ≠ 0 := by omega
  have hm : PP L q (-1) = 1 := by
    rw [PP_comm G qi (by decide)]
    by_cases e : q = 2
    · rw [e]; exact base_m2 G
    · exact base_mq G hq q0 e
  refine PP_ind G qi hm (fun r hr r0 => ?_) _ b (Nat.le_refl _) h0 hs
  by_cases e : q = r
  · rw [← e]; exact PP_self G qi hm
  · by_cases e1 : q = 2
    · rw [e1]; exact base_2q G hr r0 (by omega)
    · by_cases e2 : r = 2
      · rw [PP_comm G qi (by omega), e2]; exact base_2q G hq q0 e1
      · exact base_qr G hq q0 e1 hr r0 e2 e
/-- the product of all signs is 1 -/
theorem PP_all {a b : Int} (ha : a ≠ 0) (hb : b ≠ 0) (sa : Sup L a) (sb : Sup L b) : PP L a b = 1 := by
  refine PP_ind G ha ?_ (fun q hq q0 => ?_) _ b (Nat.le_refl _) hb sb
  · rw [PP_comm G ha (by decide)]; exact PP_m G ha sa
  · rw [PP_comm G ha (by omega)]; exact PP_q G hq q0 ha sa
omit G in
theorem lprod_par {f : Nat → Int} : ∀ {L : List Nat}, (∀ p ∈ L, f p = 1 ∨ f p = -1) → lprod (L.map f) = if (L.filter fun p => decide (f p = -1)).length % 2 = 0 then 1 else -1
  | [], _ => rfl
  | x :: L, h => by
    have ih := lprod_par (f := f) (L := L) fun p hp => h p (by simp [hp])
    show f x * lprod (L.map f) = _
    rw [ih]
    rcases h x (by simp) with e | e
    · rw [List.filter_cons_of_neg (by rw [e]; decide), e, Int.one_mul]
    · rw [List.filter_cons_of_pos (by rw [e]; rfl), e, List.length_cons]
      by_cases hz : (L.filter fun p => decide (f p = -1)).length % 2 = 0
      · rw [if_pos hz, if_neg (by omega)]; rfl
      · rw [if_neg hz, if_pos (by omega)]; rfl
/-- an even number of odd places -/
theorem odd_even {a b : Int} (ha : a ≠ 0) (hb : b ≠ 0) (sa : Sup L a) (sb : Sup L b) : (L.filter fun p => decide (hs p a b = -1)).length % 2 = 0 := by
  have h := PP_all G ha hb sa sb
  unfold PP at h
  rw [lprod_par fun p hp => hs_pm (G.pl p hp) ha hb] at h
  by_cases hz : (L.filter fun p => decide (hs p a b = -1)).length % 2 = 0
  · exact hz
  · rw [if_neg hz] at h; exact absurd h (by decide)
end
/-! ### the law's own formulas -/
theorem symM_sg {p : Nat} (hp : Prime p) (ho : p % 2 = 1) {k : Nat} {u : Int} {l : Nat} {v : Int} (hu : u % p ≠ 0) (hv : v % p ≠ 0) : symM p k u l v = sg p k u l v := by
  have hn := rs_neg hp ho
  have hz : sgZ p k u l v = k * l * ((p : Int) / 2) + l * oddU p u + k * oddU p v := by
    unfold sgZ
    exact if_neg (by have := hp.1; omega)
  rw [sg_par, hz, oddU_rs hp ho u, oddU_rs hp ho v]
  unfold symM
  rw [hn]
  have hk : k % 2 = 0 ∨ k % 2 = 1 := by omega
  have hl : l % 2 = 0 ∨ l % 2 = 1 := by omega
  have e1 : (k * l) % 2 = (k % 2) * (l % 2) % 2 := Nat.mul_mod k l 2
  have fact : ∀ A B : Int, ((k : Int) * l * (p / 2) + l * A + k * B) % 2 = (((k : Int) % 2) * (l % 2) * ((p / 2 : Nat) % 2 : Nat) + (l % 2) * (A % 2) + (k % 2) * (B % 2)) % 2 := by
    intro A B
    have m : ∀ x y : Int, x * y % 2 = (x % 2) * (y % 2) % 2 := fun x y => Int.mul_emod x y 2
    have m1 := m ((k : Int) * l) (p / 2)
    have m2 := m (k : Int) l
    have m3 := m (l : Int) A
    have m4 := m (k : Int) B
    have c : ((p : Int) / 2) % 2 = ((p / 2 % 2 : Nat) : Int) := by omega
    rw [c] at m1
    rw [m2] at m1
    have m5 : ((k : Int) % 2 * (↑l % 2) % 2 * ((p / 2 % 2 : Nat) : Int)) % 2 = ((k : Int) % 2 * (↑l % 2) * ((p / 2 % 2 : Nat) : Int)) % 2 := by
      rw [Int.mul_emod, Int.emod_emod, ← Int.mul_emod]
    omega
  rw [fact]
  have hh : p / 2 % 2 = 0 ∨ p / 2 % 2 = 1 := by omega
  have ck : ((k : Int) % 2) = ((k % 2 : Nat) : Int) := by omega
  have cl : ((l : Int) % 2) = ((l % 2 : Nat) : Int) := by omega
  rw [ck, cl]
  rcases hk with a | a <;> rcases hl with b | b <;> rcases rs_pm hp ho u with c | c <;> rcases rs_pm hp ho v with d | d <;> rcases hh with e | e <;> rw [a, b] at e1 <;> simp [a, b, c, d, e, e1]
theorem sym2_sg {k : Nat} {u : Int} {l : Nat} {v : Int} (hu : u % 2 ≠ 0) (hv : v % 2 ≠ 0) : (if ((u - 1) / 2 * ((v - 1) / 2) + k * ((v * v - 1) / 8) + l * ((u * u - 1) / 8)) % 2 = 0 then (1 : Int) else -1) = sg 2 k u l v := by
  have h1 : (u - 1) / 2 = u / 2 := by omega
  have h2 : (v - 1) / 2 = v / 2 := by omega
  have w8 : ∀ {w : Int}, w % 2 ≠ 0 → (w * w - 1) / 8 = w * w / 8 := by
    intro w h
    have : (w * w) % 8 = 1 := by
      rw [Int.mul_emod]
      rcases oct h with z | z | z | z <;> rw [z] <;> decide
    omega
  rw [sg_par, h1, h2, w8 hu, w8 hv]
  unfold sgZ
  rw [if_pos rfl]
/-! ### every prime stands the test of Miller and Rabin -/
theorem sq_one {n : Nat} (hp : Prime n) {x : Int} (h : (x * x) % n = 1) : x % n = 1 ∨ x % n = n - 1 := by
  have n2 := hp.1
  by_cases h1 : (x - 1) % n = 0
  · left
    obtain ⟨c, hc⟩ := Int.dvd_of_emod_eq_zero h1
    have : x = 1 + n * c := by omega
    rw [this, Int.add_mul_emod_self_left]
    exact Int.emod_eq_of_lt (by decide) (by omega)
  · by_cases h2 : (x + 1) % n = 0
    · right
      obtain ⟨c, hc⟩ := Int.dvd_of_emod_eq_zero h2
      have : x = (n - 1) + n * (c - 1) := by rw [Int.mul_sub]; omega
      rw [this, Int.add_mul_emod_self_left]
      exact Int.emod_eq_of_lt (by omega) (by omega)
    · exfalso
      refine nd_mulN hp h1 h2 ?_
      have e : (x - 1) * (x + 1) = x * x - 1 := by rw [Int.sub_mul, Int.mul_add]; omega
      rw [e, Int.sub_emod, h]
      have : (1 : Int) % n = 1 := Int.emod_eq_of_lt (by decide) (by omega)
      rw [this]; simp
theorem mr_down {n : Nat} (hp : Prime n) {w : Int} {u : Nat} : ∀ k : Nat, w ^ (u * 2 ^ k) % n = 1 → w ^ u % n = 1 ∨ ∃ i, i < k ∧ w ^ (u * 2 ^ i) % n = n - 1
  | 0, h => by left; simpa using h
  | k + 1, h => by
    have e : w ^ (u * 2 ^ (k + 1)) = w ^ (u * 2 ^ k) * w ^ (u * 2 ^ k) := by
      rw [← Int.pow_add]; congr 1; rw [Nat.pow_succ, ← Nat.mul_assoc]; omega
    rw [e] at h
    rcases sq_one hp h with z | z
    · rcases mr_down hp k z with y | ⟨i, hi, y⟩
      · exact .inl y
      · exact .inr ⟨i, by omega, y⟩
    · exact .inr ⟨k, by omega, z⟩
theorem mr {n : Nat} (hp : Prime n) {w : Nat} (hw : w % n ≠ 0) {k u : Nat} (e : n - 1 = 2 ^ k * u) (hk : 0 < k) : ∃ i, i < k ∧ ((w : Int) ^ u % n = 1 ∨ (w : Int) ^ (u * 2 ^ i) % n = n - 1) := by
  have h := fermat hp hw
  have h' : (w : Int) ^ (u * 2 ^ k) % n = 1 := by
    rw [Nat.mul_comm, ← e, ← Int.natCast_pow, ← Int.natCast_emod, h]; rfl
  rcases mr_down hp k h' with z | ⟨i, hi, z⟩
  · exact ⟨0, hk, .inl z⟩
  · exact ⟨i, hi, .inr z⟩
end NT

namespace SetL
open PySem
open PySem.Spec
open PyProof.Rows
open L2
/-- the set that is made first, with nothing in it -/
def blank (w : World) : Obj := { cls := .type "set", data := .set #[] 0 (SetTable.fresh 0 0 !w.params.followText "set-order") }
/-- what is known once all is laid -/
def Laid (w : World) (s : Shared) (ns : List Int) (z : Shared) : Prop := ∃ h2 tk n, z = { heap := h2, gens := s.gens, drawn := s.drawn, toks := tk, os := s.os } ∧ SetR w h2 s.heap.objs.size (fun j => decide (j ∈ ns)) n ∧ n ≤ ns.length ∧ ∀ (b : Addr) (o : Obj), s.heap.get? b = some o → h2.get? b = some o
section
variable {P : Program} {w : World} {A : Around} {E : Value → Shared → Prop} {s : Shared} {l : Addr} {xs : Array Value} {ns : List Int}
/-- the rest of set.__init__ over a list: each item is put in -/
theorem filled (free : A.handled = none) (isl : s.heap.IsList l xs) (hints : IntsAre xs.toList ns) (few : ns.length + 1 < scanBound) :
    ∀ v : Nat, xs.size = v → v = ns.length → ∀ (i : Nat) (k : Value), xs[i]? = some k → ∃ m t, ns[i]? = some m ∧ k = Value.int m t := by
  intro v e1 e2 i k hk
  have lt : i < ns.length := by
    have := (Array.getElem?_eq_some_iff.mp hk).1
    omega
  have got := IntsAre.int_at hints i k ((Array.getElem?_toList).trans hk)
  rcases got with ⟨t, ht⟩
  exact ⟨ns[i], t, List.getElem?_eq_getElem lt, by rw [ht, List.getD_eq_getElem?_getD, List.getElem?_eq_getElem lt]; rfl⟩
theorem set_of_list {Q : Value → Shared → Prop} (free : A.handled = none) (isl : s.heap.IsList l xs) (hints : IntsAre xs.toList ns) (few : ns.length + 1 < scanBound)
    (fin : ∀ z, Laid w s ns z → Q (Value.ref s.heap.objs.size) z) : wpAny (model P w) A (call (Value.type "set") [Value.ref l]) Q E s := by
  have len : xs.size = ns.length := (Array.length_toList (xs := xs)).symm.trans (IntsAre.length hints)
  have items := filled free isl hints few _ len rfl
  rcases F.called_set.mro with ⟨c0, cs, way⟩
  refine wpAny_call (codeAny_of_tree (wpAny_pure ⟨Code.quiet_builtin _ (by decide +kernel), codeAny_builtin F.entry_type_call ?_⟩))
  rw [Around.under_plain (weight_type_call_type "set" [Value.ref l] []) rfl, Builtin.«type.__call__»]
  refine wpAny_ite_false rfl (wpAny_ite_false rfl ?_)
  refine wpAny_bind (wpAny_of_eq (F.typeCall_set_1 (Value.ref l)) ?_)
  refine wpAny_bind (wpAny_of_eq way (wpAny_ite_false rfl ?_))
  refine wpAny_bind (wpAny_of_eq F.called_set.made (wpAny_bind ?_))
  refine wpAny_pure (wpAny_bind (wpAny_holding (wpAny_call (codeAny_mono (code_set_led1 (E := E) (Value.ref l) (Q₁ := fun x z => x = Value.ref s.heap.objs.size ∧ z = { heap := s.heap.push (blank w), gens := s.gens, drawn := s.drawn, toks := s.toks, os := s.os }) ⟨rfl, rfl⟩) ?_))))
  intro r1 z1 k1
  match r1, k1 with
  | .error _, k1 => exact k1
  | .ok (.ret x), k1 =>
    rcases k1 with ⟨rfl, rfl⟩
    have own : (s.heap.push (blank w)).get? s.heap.objs.size = some (blank w) := Heap.get?_push_size s.heap rfl
    have ownT : ∃ o, (s.heap.push (blank w)).get? s.heap.objs.size = some o ∧ o.cls = Value.type "set" := ⟨_, own, rfl⟩
    refine wpAny_bind (wpAny_isInstance ownT F.called_set.sub (wpAny_ite_false rfl (wpAny_bind (wpAny_holding ?_))))
    rw [callSpecial?]
    refine wpAny_bind (wpAny_specialOf ownT F.called_set.init.lookup (wpAny_holding (wpAny_bind ?_)))
    refine wpAny_of_eq (F.called_set.init.bind (Value.ref s.heap.objs.size)) (wpAny_bind (wpAny_call ?_))
    refine codeAny_mono (R := wants (fun r z => r = Value.none ∧ Laid w s ns z) E) (codeAny_call_builtin F.called_set.init.plain F.entry_set_init (check_set_init_1 ownT ?_)) ?_
    · rcases isl with ⟨⟨k2, dct, dat, slt⟩, at0, hcls, nn, hdat⟩
      cases hcls
      cases hdat
      have at1 := Heap.get?_push_of_some (blank w) at0
      have isl1 : (s.heap.push (blank w)).IsList l xs := ⟨_, at1, rfl, nn, rfl⟩
      have lstT : ∃ o, (s.heap.push (blank w)).get? l = some o ∧ o.cls = Value.type "list" := ⟨_, at1, rfl⟩
      have low := Heap.lt_size at0
      have grow := Heap.size_push s.heap (blank w)
      rw [Builtin.«set.__init__»]
      refine wpAny_bind (wpAny_ite_true rfl (wpAny_pure (wpAny_bind ?_)))
      rw [typeNameOfCut]
      refine wpAny_bind ?_
      rw [shownTypeOf]
      refine wpAny_bind (wpAny_typeOf ownT (wpAny_ite_false rfl (wpAny_pure ?_)))
      unfold typeNameCut
      refine wpAny_pure ?_
      refine wpAny_bind ?_
      rw [checkCount]
      refine wpAny_ite_false rfl (wpAny_ite_false rfl (wpAny_ite_false rfl (wpAny_pure (wpAny_bind ?_))))
      refine wpAny_pure ?_
      refine wpAny_bind ?_
      rw [setUsed]
      refine wpAny_bind ?_
      rw [setState]
      refine wpAny_bind (wpAny_load' own (wpAny_ite_false rfl (wpAny_pure (wpAny_pure (wpAny_ite_false rfl (wpAny_bind ?_))))))
      rw [Builtin.Frozenset.updateFrom]
      refine wpAny_bind ?_
      rw [Builtin.Frozenset.isAnySet]
      refine wpAny_bind (wpAny_isInstance lstT F.sub_list_set ?_)
      show wpAny _ _ (isInstance (Value.ref l) (Value.type "frozenset")) _ _ _
      refine wpAny_isInstance lstT F.sub_list_frozenset (wpAny_ite_false rfl ?_)
      refine wpAny_bind (wpAny_typeOf lstT (wpAny_ite_false rfl (wpAny_bind ?_)))
      refine wpAny_pyIter_list isl1 (wpAny_bind (wpAny_runValue ?_))
      have d1 : l ≠ (s.heap.push (blank w)).objs.size := fun z => Nat.ne_of_lt (Nat.lt_succ_of_lt low) (z.trans grow)
      have d2 : s.heap.objs.size ∉ [(s.heap.push (blank w)).objs.size, l] := by
        rw [grow]
        intro z
        rcases List.mem_cons.mp z with same | z
        · exact absurd same (Nat.ne_of_lt (Nat.lt_succ_self _))
        · exact absurd (List.mem_singleton.mp z) (Nat.ne_of_gt low)
      refine set_update_ints (Walks.toS (Walks.list (A := A.in1.in1.in1) (by simpa using free) _ l d1 xs)) s.heap.objs.size d2 ns len few items (xs.size - 0) 0 _ rfl (Nat.zero_le _) ⟨⟨_, Heap.get?_push_size _ rfl, rfl, rfl⟩, Heap.IsList.push isl1 _⟩ ⟨0, Nat.le_refl 0, setR_new_at (Heap.get?_push_of_some _ own)⟩ ?_
      rintro ⟨hp, gn, dr, tk, sy⟩ n2 mv le full
      obtain ⟨rfl, rfl, rfl⟩ : gn = s.gens ∧ dr = s.drawn ∧ sy = s.os := ⟨mv.gens, mv.drawn, mv.os⟩
      refine wpAny_pure (wpAny_pure ⟨rfl, hp, tk, n2, rfl, full, by omega, fun b o hb => mv.heap b o (fun z => ?_) (Heap.get?_push_of_some _ (Heap.get?_push_of_some _ hb))⟩)
      have lb := Heap.lt_size hb
      rcases List.mem_cons.mp z with same | z
      · exact absurd same (Nat.ne_of_lt lb)
      · exact absurd ((List.mem_singleton.mp z).trans grow) (Nat.ne_of_lt (Nat.lt_succ_of_lt lb))
    · intro r2 z2 k2
      match r2, k2 with
      | .error _, k2 => exact k2
      | .ok (.ret v), k2 =>
        rcases k2 with ⟨rfl, done⟩
        exact wpAny_pure (wpAny_ite_false rfl (wpAny_pure (fin _ done)))
end
/-- set(xs), xs a list of integers -/
def rSetOfI (K : PySem.W.Frag) (w : World) : List V → Hp → VK → Prop := fun vs H Q => ∃ (a : Addr) (ns : List Int), vs = [.ref a] ∧ SqL K H a (ns.map V.int) ∧ ns.length ≤ 1000 ∧ ∀ (p : Addr) (n : Nat), H p = none → n ≤ ns.length → Q (.ref p) (upd H p (SetO w p (fun j => decide (j ∈ ns)) n))
theorem cr_setOfI {X : Cx} (hc : X.calm = true) : CallR X (.type "set") (rSetOfI X.K X.w) := by
  rintro pins s σ H _ us Q inv rel ⟨a, ns, rfl, seq, n1000, next⟩
  rcases Inv.list inv seq with ⟨its, vals, plain, _⟩
  have sb : scanBound = 4096 := rfl
  rw [Vals.ref1 rel]
  refine set_of_list (inv.ok.hd hc) (PlainL.isList plain) (Vals.ints vals) (by omega) ?_
  rintro _ ⟨h2, tk, n, rfl, full, le, kept⟩
  exact ⟨.ref s.heap.objs.size, upd H s.heap.objs.size (SetO X.w s.heap.objs.size (fun j => decide (j ∈ ns)) n), inv.laid kept (Nat.le_refl _) (setO_new full), rfl, next _ _ (HOk.fresh inv.hok (Nat.le_refl _)) le⟩
end SetL

namespace K27
open PySem PySem.Spec PyProof.Rows L2 NT
def topS (i : Nat) : Stmt := PySem.Challenge.pw_formworld_k27_whole_rules_of_signs.main.body.getD i (.Pass ⟨0, 0, 0, 0⟩)
abbrev sInt : Stmt := topS 14
abbrev sWithin : Stmt := topS 15
abbrev sOther : Stmt := topS 17
theorem scInt : FnScope ["value"] ["value"] (defScope sInt) := ⟨rfl, rfl, rfl, by decide +kernel, rfl, by decide +kernel, by decide +kernel⟩
theorem scWithin : FnScope ["value", "least", "most"] ["value", "least", "most"] (defScope sWithin) := ⟨rfl, rfl, rfl, by decide +kernel, rfl, by decide +kernel, by decide +kernel⟩
theorem scOther : FnScope ["number", "size"] ["number", "size"] (defScope sOther) := ⟨rfl, rfl, rfl, by decide +kernel, rfl, by decide +kernel, by decide +kernel⟩
abbrev sPow : Stmt := topS 7
abbrev sSplit : Stmt := topS 8
abbrev sPassed : Stmt := topS 9
abbrev sPrime : Stmt := topS 10
abbrev sSqRest : Stmt := topS 12
abbrev sPlace : Stmt := topS 20
abbrev sSign : Stmt := topS 23
abbrev sSignAt : Stmt := topS 25
abbrev sOddFor : Stmt := topS 26
theorem scPow : FnScope ["base", "exponent", "modulus", "rest", "square"] ["base", "exponent", "modulus"] (defScope sPow) := ⟨rfl, rfl, rfl, by decide +kernel, rfl, by decide +kernel, by decide +kernel⟩
theorem scSplit : FnScope ["number", "prime", "exponent"] ["number", "prime"] (defScope sSplit) := ⟨rfl, rfl, rfl, by decide +kernel, rfl, by decide +kernel, by decide +kernel⟩
theorem scPassed : FnScope ["number", "witness", "twos", "odd", "rest", "_"] ["number", "witness"] (defScope sPassed) := ⟨rfl, rfl, rfl, by decide +kernel, rfl, by decide +kernel, by decide +kernel⟩
theorem scPrime : FnScope ["number", "witness"] ["number"] (defScope sPrime) := ⟨rfl, rfl, rfl, by decide +kernel, rfl, by decide +kernel, by decide +kernel⟩
theorem scSqRest : FnScope ["number", "prime"] ["number", "prime"] (defScope sSqRest) := ⟨rfl, rfl, rfl, by decide +kernel, rfl, by decide +kernel, by decide +kernel⟩
theorem scPlace : FnScope ["place"] ["place"] (defScope sPlace) := ⟨rfl, rfl, rfl, by decide +kernel, rfl, by decide +kernel, by decide +kernel⟩
theorem scSign : FnScope ["number", "other", "place"] ["number", "other", "place"] (defScope sSign) := ⟨rfl, rfl, rfl, by decide +kernel, rfl, by decide +kernel, by decide +kernel⟩
theorem scSignAt : FnScope ["number", "other", "place", "power", "left", "other_power", "right", "odd"] ["number", "other", "place"] (defScope sSignAt) := ⟨rfl, rfl, rfl, by decide +kernel, rfl, by decide +kernel, by decide +kernel⟩
theorem scOddFor : FnScope ["number", "prime"] ["number", "prime"] (defScope sOddFor) := ⟨rfl, rfl, rfl, by decide +kernel, rfl, by decide +kernel, by decide +kernel⟩
abbrev sIsOther : Stmt := topS 16
abbrev sIsPlace : Stmt := topS 19
theorem scIsOther : FnScope ["value", "size"] ["value", "size"] (defScope sIsOther) := ⟨rfl, rfl, rfl, by decide +kernel, rfl, by decide +kernel, by decide +kernel⟩
theorem scIsPlace : FnScope ["value"] ["value"] (defScope sIsPlace) := ⟨rfl, rfl, rfl, by decide +kernel, rfl, by decide +kernel, by decide +kernel⟩
theorem to {Q : VK} {v v' : V} {H : Hp} (q : Q v H) (e : v = v') : Q v' H := e ▸ q
section
variable {P : Program} {w : World} {K : PySem.W.Frag} {mg : Str → Option Value} {base : Heap}
def spInt : Sp := fun vs H Q _ => ∃ i, vs = [.int i] ∧ Q (.bl true) H
theorem ok_int {f : Addr} {fd : FuncData} (F : Fun K "is_integer" "is_integer" sInt f fd) (m1 : mg "isinstance" = none) (m2 : mg "int" = none) (m3 : mg "bool" = none) : FnOk P w K mg base CX0 1 f fd ["value"] spInt := by
  refine F.ok scInt (fun vs H Q E h => ?_) (fun cdv A outer s H vs Q E hr h => ?_)
  · obtain ⟨i, rfl, _⟩ := h
    rfl
  · obtain ⟨i, rfl, q⟩ := h
    refine ⟨_, pss_one (ps_ret (pe_and (pe_callB call_isi (by rfl) m1 boot_isinstance (pa_cons (pv 0) (pa_cons (pe_bltn (v := .ty "int") (by rfl) m2 boot_int rfl) pa_nil)))
      (pe_one (pe_not (pe_callB call_isi (by rfl) m1 boot_isinstance (pa_cons (pv 0) (pa_cons (pe_bltn (v := .ty "bool") (by rfl) m3 (by decide +kernel) rfl) pa_nil))))))), ?_⟩
    refine ⟨.int i, rfl, _, _, _, _, true, rfl, .ty _, .base (.int i), kit_ty (by decide +kernel), true, rfl, iteT ?_⟩
    refine ⟨.int i, rfl, _, _, _, _, false, rfl, .ty _, .base (.int i), kit_ty (by decide +kernel), false, rfl, q⟩

/-! ### is_within, check_other_than_nought -/
def spWithin : Sp := fun vs H Q _ => ∃ i a b, vs = [.int i, .int a, .int b] ∧ Q (.bl (decide (a ≤ i ∧ i ≤ b))) H
theorem ok_within {f g : Addr} {fd gd : FuncData} (F : Fun K "is_within" "is_within" sWithin f fd) (G : FnOk P w K mg base CX0 1 g gd ["value"] spInt) (mG : mg "is_integer" = some (.ref g)) (kG : PySem.W.keepIn K (.ref g) = true) (bG : Binds K gd ["value"] []) : FnOk P w K mg base CX0 2 f fd ["value", "least", "most"] spWithin := by
  refine F.ok scWithin (fun vs H Q E h => ?_) (fun cdv A outer s H vs Q E hr h => ?_)
  · obtain ⟨i, a, b, rfl, _⟩ := h
    rfl
  · obtain ⟨i, a, b, rfl, q⟩ := h
    refine ⟨_, pss_one (ps_ret (pe_and (pe_call G hr (by rfl) mG kG bG .nil pass0 (pa_cons (pv 0) pa_nil)) (pe_one (pe_chain op_le op_le (pv 1) (pv 0) (pv 2))))), ?_⟩
    refine ⟨.int i, rfl, i, rfl, true, rfl, iteT ?_⟩
    refine ⟨.int a, rfl, .int i, rfl, a, i, rfl, rfl, decide (a ≤ i), rfl, ?_⟩
    by_cases h1 : a ≤ i
    · rw [if_pos (decide_eq_true h1)]
      refine ⟨.int b, rfl, i, b, rfl, rfl, ?_⟩
      have e : decide (i ≤ b) = decide (a ≤ i ∧ i ≤ b) := by congr 1; apply propext; exact ⟨fun z => ⟨h1, z⟩, fun z => z.2⟩
      exact to q (congrArg V.bl e.symm)
    · rw [if_neg (by simpa using h1)]
      have e : decide (a ≤ i ∧ i ≤ b) = false := decide_eq_false fun z => h1 z.1
      exact to q (congrArg V.bl e)
def spIsOther : Sp := fun vs H Q _ => ∃ n s : Int, vs = [.int n, .int s] ∧ -s ≤ n ∧ n ≤ s ∧ n ≠ 0 ∧ Q (.bl true) H
theorem ok_isOther {f g : Addr} {fd gd : FuncData} (F : Fun K "is_other_than_nought" "is_other_than_nought" sIsOther f fd) (G : FnOk P w K mg base CX0 2 g gd ["value", "least", "most"] spWithin) (mG : mg "is_within" = some (.ref g)) (kG : PySem.W.keepIn K (.ref g) = true) (bG : Binds K gd ["value", "least", "most"] []) : FnOk P w K mg base CX0 3 f fd ["value", "size"] spIsOther := by
  refine F.ok scIsOther (fun vs H Q E h => ?_) (fun cdv A outer s H vs Q E hr h => ?_)
  · obtain ⟨n, s, rfl, _⟩ := h
    rfl
  · obtain ⟨n, s, rfl, h1, h2, h3, q⟩ := h
    refine ⟨_, pss_one (ps_ret (pe_and (pe_call G hr (by rfl) mG kG bG .nil pass0 (pa_cons (pv 0) (pa_cons (pe_un un_neg (pv 1)) (pa_cons (pv 1) pa_nil)))) (pe_one (pe_cmpR op_ne (pv 0) pe_int (nomark _))))), ?_⟩
    refine ⟨.int n, rfl, .int s, rfl, s, rfl, .int s, rfl, n, -s, s, rfl, true, ?_, ?_⟩
    · rw [decide_eq_true (show -s ≤ n ∧ n ≤ s from ⟨h1, h2⟩)]
    · refine iteT ⟨.int n, rfl, rfl, to q (congrArg V.bl ?_)⟩
      rw [decide_eq_false (fun z => h3 (V.int.inj z))]
      rfl
def spOther : Sp := fun vs H Q _ => ∃ n s : Int, vs = [.int n, .int s] ∧ -s ≤ n ∧ n ≤ s ∧ n ≠ 0 ∧ Q .non H
theorem ok_other {f g : Addr} {fd gd : FuncData} (F : Fun K "check_other_than_nought" "check_other_than_nought" sOther f fd) (G : FnOk P w K mg base CX0 3 g gd ["value", "size"] spIsOther) (mG : mg "is_other_than_nought" = some (.ref g)) (kG : PySem.W.keepIn K (.ref g) = true) (bG : Binds K gd ["value", "size"] []) : FnOk P w K mg base CX0 4 f fd ["number", "size"] spOther := by
  refine F.ok scOther (fun vs H Q E h => ?_) (fun cdv A outer s H vs Q E hr h => ?_)
  · obtain ⟨n, s, rfl, _⟩ := h
    rfl
  · obtain ⟨n, s, rfl, h1, h2, h3, q⟩ := h
    refine ⟨_, pss_one (ps_if (pt_not (pt_val (pe_call G hr (by rfl) mG kG bG .nil pass0 (pa_cons (pv 0) (pa_cons (pv 1) pa_nil))))) (pss_one ps_never) pss_nil), ?_⟩
    exact ⟨.int n, rfl, .int s, rfl, n, s, rfl, h1, h2, h3, _, rfl, iteF q⟩
/-! ### power_rest -/
def spPow : Sp := fun vs H Q _ => ∃ b e m : Int, vs = [.int b, .int e, .int m] ∧ 0 ≤ e ∧ 1 < m ∧ m < 2 ^ 62 ∧ Q (.int (b ^ e.toNat % m)) H
theorem pow_turn (r s e m : Int) (he : 0 < e) : ((if e % 2 = 1 then r * s % m else r) * (s * s % m) ^ (e / 2).toNat) % m = (r * s ^ e.toNat) % m := by
  have key : (s * s % m) ^ (e / 2).toNat % m = (s ^ (2 * (e / 2).toNat)) % m := by
    rw [← ipow_emod, Int.pow_mul, Int.pow_succ, Int.pow_succ, Int.pow_zero, Int.one_mul]
  by_cases h : e % 2 = 1
  · rw [if_pos h, Int.mul_emod, key, ← Int.mul_emod, Int.mul_emod, Int.emod_emod, ← Int.mul_emod]
    have : e.toNat = 2 * (e / 2).toNat + 1 := by omega
    conv => rhs; rw [this, Int.pow_succ]
    rw [Int.mul_assoc, Int.mul_comm (s ^ _) s]
  · rw [if_neg h, Int.mul_emod, key, ← Int.mul_emod]
    have : e.toNat = 2 * (e / 2).toNat := by omega
    rw [← this]
theorem ok_pow {f : Addr} {fd : FuncData} (F : Fun K "power_rest" "power_rest" sPow f fd) : FnOk P w K mg base CX0 1 f fd ["base", "exponent", "modulus"] spPow := by
  refine F.ok scPow (fun vs H Q E h => ?_) (fun cdv A outer s H vs Q E hr h => ?_)
  · obtain ⟨b, e, m, rfl, _⟩ := h
    rfl
  · obtain ⟨b, e, m, rfl, h1, h2, h3, q⟩ := h
    refine ⟨_, pss_cons (ps_set (i := 3) scPow.nd rfl (.inl rfl) pe_int) (pss_cons (ps_set (i := 4) scPow.nd rfl (.inl rfl) (pe_op op_mod (pv 0) (pv 2)))
      (pss_cons (ps_while PassesOwn.never (pt_cmpR op_gt (pv 1) pe_int (nomark _))
        (pss_cons (ps_if (pt_cmpR op_eq (pe_op op_mod (pv 1) pe_int) pe_int (nomark _)) (pss_one (ps_set (i := 3) scPow.nd rfl (.inl rfl) (pe_op op_mod (pe_op op_mul (pv 3) (pv 4)) (pv 2)))) pss_nil)
        (pss_cons (ps_set (i := 4) scPow.nd rfl (.inl rfl) (pe_op op_mod (pe_op op_mul (pv 4) (pv 4)) (pv 2)))
        (pss_one (ps_set (i := 1) scPow.nd rfl (.inl rfl) (pe_op op_fdiv (pv 1) pe_int))))))
      (pss_one (ps_ret (pv 3))))), ?_⟩
    have m0 : 0 < m := by omega
    refine ⟨.int b, rfl, .int m, rfl, b, m, rfl, rfl, m0, ?_⟩
    refine ⟨fun k σ H' => H' = H ∧ ∃ r s e' : Int, σ = [some (.int b), some (.int e'), some (.int m), some (.int r), some (.int s)] ∧ k = e'.toNat ∧ 0 ≤ e' ∧ 0 ≤ r ∧ r < m ∧ 0 ≤ s ∧ s < m ∧ (r * s ^ e'.toNat) % m = b ^ e.toNat % m,
      ⟨e.toNat, rfl, 1, b % m, e, rfl, rfl, h1, by decide, by omega, Int.emod_nonneg _ (by omega), Int.emod_lt_of_pos _ m0, ?_⟩, fun k σ H' hW => ?_⟩
    · rw [Int.one_mul, ← ipow_emod]
    · obtain ⟨rfl, r, s, e', rfl, rfl, he, r0, r1, s0, s1, hp⟩ := hW
      refine ⟨.int e', rfl, e', 0, rfl, rfl, _, rfl, ite2 (fun z => ?_) (fun z => ?_)⟩
      · have ep : 0 < e' := of_decide_eq_true z
        have turn := pow_turn r s e' m ep
        refine ⟨fun σ H'' => H'' = H' ∧ ∃ r s e2 : Int, σ = [some (.int b), some (.int e2), some (.int m), some (.int r), some (.int s)] ∧ e2.toNat < e'.toNat ∧ 0 ≤ e2 ∧ 0 ≤ r ∧ r < m ∧ 0 ≤ s ∧ s < m ∧ (r * s ^ e2.toNat) % m = b ^ e.toNat % m, ?_, ?_⟩
        · rintro σ' H'' ⟨rfl, r', s', e2, rfl, l, a⟩
          exact ⟨_, l, rfl, r', s', e2, rfl, rfl, a⟩
        · have b1 : ∀ x : Int, 0 ≤ x → x < m → (-(2 ^ 64) < x ∧ x < 2 ^ 64) := fun x h1 h2 => ⟨by omega, by omega⟩
          have sq : 0 ≤ s * s % m ∧ s * s % m < m := ⟨Int.emod_nonneg _ (by omega), Int.emod_lt_of_pos _ m0⟩
          refine ⟨.int e', rfl, e', 2, rfl, rfl, (by show (0 : Int) < 2; decide), rfl, _, rfl, ite2 (fun z2 => ?_) (fun z2 => ?_)⟩
          · have e1 : e' % 2 = 1 := V.int.inj (of_decide_eq_true z2)
            rw [if_pos e1] at turn
            refine ⟨.int r, rfl, .int s, rfl, r, s, rfl, rfl, .inl (b1 r r0 r1), .int m, rfl, _, m, rfl, rfl, m0, ?_⟩
            refine ⟨.int s, rfl, .int s, rfl, s, s, rfl, rfl, .inl (b1 s s0 s1), .int m, rfl, _, m, rfl, rfl, m0, ?_⟩
            refine ⟨.int e', rfl, e', 2, rfl, rfl, ⟨by decide, by decide⟩, ?_⟩
            exact ⟨rfl, r * s % m, s * s % m, e' / 2, rfl, by omega, by omega, Int.emod_nonneg _ (by omega), Int.emod_lt_of_pos _ m0, sq.1, sq.2, turn.trans hp⟩
          · have e1 : ¬ e' % 2 = 1 := fun y => z2 (decide_eq_true (congrArg V.int y))
            rw [if_neg e1] at turn
            refine ⟨.int s, rfl, .int s, rfl, s, s, rfl, rfl, .inl (b1 s s0 s1), .int m, rfl, _, m, rfl, rfl, m0, ?_⟩
            refine ⟨.int e', rfl, e', 2, rfl, rfl, ⟨by decide, by decide⟩, ?_⟩
            exact ⟨rfl, r, s * s % m, e' / 2, rfl, by omega, by omega, r0, r1, sq.1, sq.2, turn.trans hp⟩
      · have ez : e' = 0 := by
          have : ¬ (0 < e') := fun y => z (decide_eq_true y)
          omega
        subst ez
        have : r = b ^ e.toNat % m := by
          rw [← hp]
          show r = r * s ^ 0 % m
          rw [Int.pow_zero, Int.mul_one, Int.emod_eq_of_lt r0 r1]
        exact ⟨.int r, rfl, this ▸ q⟩
end
end K27

namespace K27
open PySem PySem.Spec PyProof.Rows L2 NT
section
variable {P : Program} {w : World} {K : PySem.W.Frag} {mg : Str → Option Value} {base : Heap}
theorem same_new {H : Hp} {p : Addr} {o : HO} (h : H p = none) : Same H (upd H p o) := fun b x e => (upd_ne (ne_of_none e h)).trans e
/-! ### split_power -/
def spSplit : Sp := fun vs H Q _ => ∃ (n p : Int) (k : Nat) (u : Int), vs = [.int n, .int p] ∧ 2 ≤ p ∧ p < 1073741824 ∧ n ≠ 0 ∧ Spl p n k u ∧ ∀ q, H q = none → Q (.ref q) (upd H q (.tup [.int k, .int u]))
theorem ok_split {f : Addr} {fd : FuncData} (F : Fun K "split_power" "split_power" sSplit f fd) : FnOk P w K mg base CX0 1 f fd ["number", "prime"] spSplit := by
  refine F.ok scSplit (fun vs H Q E h => ?_) (fun cdv A outer s H vs Q E hr h => ?_)
  · obtain ⟨n, p, k, u, rfl, _⟩ := h
    rfl
  · obtain ⟨n, p, k, u, rfl, p2, pb, n0, hS, q⟩ := h
    refine ⟨_, pss_cons (ps_set (i := 2) scSplit.nd rfl (.inl rfl) pe_int)
      (pss_cons (ps_while PassesOwn.never (pt_cmpR op_eq (pe_op op_mod (pv 0) (pv 1)) pe_int (nomark _))
        (pss_cons (ps_set (i := 0) scSplit.nd rfl (.inl rfl) (pe_op op_fdiv (pv 0) (pv 1)))
        (pss_one (ps_set (i := 2) scSplit.nd rfl (.inl rfl) (pe_op op_add (pv 2) pe_int)))))
      (pss_one (ps_ret (pe_tup (pa_cons (pv 2) (pa_cons (pv 0) pa_nil)))))), ?_⟩
    refine ⟨fun m σ H' => H' = H ∧ ∃ (j : Nat) (n' : Int), σ = [some (.int n'), some (.int p), some (.int j)] ∧ m = n'.natAbs ∧ n' ≠ 0 ∧ n = p ^ j * n', ⟨n.natAbs, rfl, 0, n, rfl, rfl, n0, by simp⟩, fun m σ H' hW => ?_⟩
    obtain ⟨rfl, j, n', rfl, rfl, z0, e⟩ := hW
    refine ⟨.int n', rfl, .int p, rfl, n', p, rfl, rfl, (by show 0 < p; omega), rfl, _, rfl, ite2 (fun z => ?_) (fun z => ?_)⟩
    · have hz : n' % p = 0 := V.int.inj (of_decide_eq_true z)
      have e1 : n' = p * (n' / p) := by have := Int.mul_ediv_add_emod n' p; omega
      have q0 : n' / p ≠ 0 := fun y => by rw [y] at e1; simp at e1; exact z0 e1
      have lt : (n' / p).natAbs < n'.natAbs := by
        have h1 : n'.natAbs = p.natAbs * (n' / p).natAbs := by rw [← Int.natAbs_mul, ← e1]
        have h2 : 2 * (n' / p).natAbs ≤ p.natAbs * (n' / p).natAbs := Nat.mul_le_mul_right _ (by omega)
        omega
      refine ⟨fun σ H'' => H'' = H' ∧ σ = [some (.int (n' / p)), some (.int p), some (.int (j + 1))], ?_, ?_⟩
      · rintro σ' H'' ⟨rfl, rfl⟩
        refine ⟨_, lt, rfl, j + 1, n' / p, rfl, rfl, q0, ?_⟩
        rw [e, Int.pow_succ, Int.mul_assoc, ← e1]
      · exact ⟨.int n', rfl, .int p, rfl, n', p, rfl, rfl, ⟨by omega, pb⟩, .int j, rfl, j, 1, rfl, rfl, rfl, rfl⟩
    · have hz : n' % p ≠ 0 := fun y => z (decide_eq_true (congrArg V.int y))
      obtain ⟨rfl, rfl⟩ := hS.uniq p2 ⟨e, hz⟩
      exact ⟨.int k, rfl, .int u, rfl, (by show 2 ≤ sizeLine; decide), q⟩
/-! ### is_passed -/
structure PassOk (n w : Int) : Prop where
  big : 2 < n
  top : n < 2 ^ 62
  ex : ∃ (k : Nat) (u : Int) (i : Nat), Spl 2 (n - 1) k u ∧ 0 ≤ u ∧ k < 1000 ∧ i < k ∧ (w ^ u.toNat % n = 1 ∨ w ^ (u.toNat * 2 ^ i) % n = n - 1)
def spPassed : Sp := fun vs H Q _ => ∃ n v : Int, vs = [.int n, .int v] ∧ PassOk n v ∧ ∀ H', Same H H' → Q (.bl true) H'
theorem ok_passed {f fS fP : Addr} {fd dS dP : FuncData} (F : Fun K "is_passed" "is_passed" sPassed f fd) (GS : FnOk P w K mg base CX0 1 fS dS ["number", "prime"] spSplit) (mS : mg "split_power" = some (.ref fS)) (kS : PySem.W.keepIn K (.ref fS) = true) (bS : Binds K dS ["number", "prime"] [])
    (GP : FnOk P w K mg base CX0 1 fP dP ["base", "exponent", "modulus"] spPow) (mP : mg "power_rest" = some (.ref fP)) (kP : PySem.W.keepIn K (.ref fP) = true) (bP : Binds K dP ["base", "exponent", "modulus"] []) (mr : mg "range" = none) :
    FnOk P w K mg base CX0 2 f fd ["number", "witness"] spPassed := by
  refine F.ok scPassed (fun vs H Q E h => ?_) (fun cdv A outer s H vs Q E hr h => ?_)
  · obtain ⟨n, v, rfl, _⟩ := h
    rfl
  · obtain ⟨n, v, rfl, ⟨nb, nt, k, u, i0, hS, u0, kb, ik, hor⟩, q⟩ := h
    refine ⟨_, pss_cons (ps_asg (pe_call GS hr (by rfl) mS kS bS .nil pass0 (pa_cons (pe_op op_sub (pv 0) pe_int) (pa_cons pe_int pa_nil))) (pg_tup rfl (pgs_cons (pg_name (i := 2) scPassed.nd rfl (.inl rfl)) (pgs_cons (pg_name (i := 3) scPassed.nd rfl (.inl rfl)) pgs_nil))))
      (pss_cons (ps_set (i := 4) scPassed.nd rfl (.inl rfl) (pe_call GP hr (by rfl) mP kP bP .nil pass0 (pa_cons (pv 1) (pa_cons (pv 3) (pa_cons (pv 0) pa_nil)))))
      (pss_cons (ps_if (pt_cmpR op_eq (pv 4) pe_int (nomark _)) (pss_one (ps_ret pe_bl)) pss_nil)
      (pss_cons (ps_for PassesOwn.never rfl (pi_range1 rfl mr (pa_cons (pv 2) pa_nil)) (pg_name (i := 5) scPassed.nd rfl (.inl rfl))
        (pss_cons (ps_if (pt_cmpR op_eq (pv 4) (pe_op op_sub (pv 0) pe_int) (nomark _)) (pss_one (ps_ret pe_bl)) pss_nil)
        (pss_one (ps_set (i := 4) scPassed.nd rfl (.inl rfl) (pe_op op_mod (pe_op op_mul (pv 4) (pv 4)) (pv 0))))))
      (pss_one (ps_ret pe_bl))))), ?_⟩
    refine ⟨.int n, rfl, n, 1, rfl, rfl, n - 1, 2, k, u, rfl, by decide, by decide, by omega, hS, fun t nt => ?_⟩
    have sm := same_new (o := .tup [.int k, .int u]) nt
    refine ⟨t, [.int k, .int u], rfl, .inl (.inl upd_same), rfl, _, _, rfl, _, _, rfl, rfl, ?_⟩
    refine ⟨.int v, rfl, .int u, rfl, .int n, rfl, v, u, n, rfl, u0, by omega, ‹_›, ?_⟩
    refine ⟨.int (v ^ u.toNat % n), rfl, rfl, _, rfl, ite2 (fun z => ?_) (fun z => ?_)⟩
    · exact q _ sm
    · have z1 : v ^ u.toNat % n ≠ 1 := fun y => z (decide_eq_true (congrArg V.int y))
      have hp : v ^ (u.toNat * 2 ^ i0) % n = n - 1 := hor.resolve_left z1
      refine ⟨.int k, rfl, k, rfl, by omega, by omega, for_range (n := ((k : Int).toNat)) (fun i σ H' => H' = upd H t (.tup [.int k, .int u]) ∧ i ≤ i0 ∧ ∃ x, σ = [some (.int n), some (.int v), some (.int k), some (.int u), some (.int (v ^ (u.toNat * 2 ^ i) % n)), x])
        ⟨rfl, by omega, none, ?_⟩ ?_ ?_⟩
      · rw [Nat.pow_zero, Nat.mul_one]; rfl
      · rintro i σ H' hi ⟨rfl, hi0, x, rfl⟩
        refine ⟨.int (v ^ (u.toNat * 2 ^ i) % n), rfl, .int n, rfl, n, 1, rfl, rfl, rfl, _, rfl, ite2 (fun z => ?_) (fun z => ?_)⟩
        · exact q _ sm
        · have z2 : v ^ (u.toNat * 2 ^ i) % n ≠ n - 1 := fun y => z (decide_eq_true (congrArg V.int y))
          have ne : i ≠ i0 := fun y => z2 (y ▸ hp)
          have r0 : 0 ≤ v ^ (u.toNat * 2 ^ i) % n := Int.emod_nonneg _ (by omega)
          have r1 : v ^ (u.toNat * 2 ^ i) % n < n := Int.emod_lt_of_pos _ (by omega)
          refine ⟨.int _, rfl, .int _, rfl, _, _, rfl, rfl, .inl ⟨by omega, by omega⟩, .int n, rfl, _, n, rfl, rfl, (by show 0 < n; omega), rfl, by omega, some (.int (0 + (i : Int))), ?_⟩
          have e : v ^ (u.toNat * 2 ^ i) % n * (v ^ (u.toNat * 2 ^ i) % n) % n = v ^ (u.toNat * 2 ^ (i + 1)) % n := by
            rw [← Int.mul_emod, ← Int.pow_add]
            congr 2
            rw [Nat.pow_succ, ← Nat.mul_assoc]; omega
          show [some (V.int n), some (V.int v), some (V.int k), some (V.int u), some (V.int (v ^ (u.toNat * 2 ^ i) % n * (v ^ (u.toNat * 2 ^ i) % n) % n)), some (V.int (0 + (i : Int)))] = _
          rw [e]
      · rintro σ H' ⟨rfl, hi0, x, rfl⟩
        exfalso
        have : (k : Int).toNat = k := rfl
        omega
/-! ### is_prime -/
def W5 : List Int := [2, 3, 5, 7, 11]
structure PrimeOk (n : Int) : Prop where
  two : 2 ≤ n
  top : n ≤ 10 ^ 12
  own : ∀ v ∈ W5, n % v = 0 → n = v
  pass : (∀ v ∈ W5, n % v ≠ 0) → ∀ v ∈ W5, PassOk n v
def spPrime : Sp := fun vs H Q _ => ∃ n : Int, vs = [.int n] ∧ PrimeOk n ∧ ∀ H', Same H H' → Q (.bl true) H'
theorem w5_pos : ∀ v ∈ W5, (0 : Int) < v := by decide
theorem w5_at {i : Nat} {x : V} (h : (W5.map V.int)[i]? = some x) : ∃ v ∈ W5, x = .int v ∧ W5[i]? = some v := by
  rw [List.getElem?_map] at h
  cases e : W5[i]? with
  | none => rw [e] at h; cases h
  | some v =>
    rw [e] at h
    exact ⟨v, List.mem_of_getElem? e, (Option.some.inj h).symm, rfl⟩
theorem ok_prime {f fP aW : Addr} {fd dP : FuncData} (F : Fun K "is_prime" "is_prime" sPrime f fd) (GP : FnOk P w K mg base CX0 2 fP dP ["number", "witness"] spPassed) (mP : mg "is_passed" = some (.ref fP)) (kP : PySem.W.keepIn K (.ref fP) = true) (bP : Binds K dP ["number", "witness"] [])
    (mW : mg "WITNESSES" = some (.ref aW)) (hW : ∀ H, SqT K H aW (W5.map V.int)) (ma : mg "all" = none) : FnOk P w K mg base CX0 3 f fd ["number"] spPrime := by
  refine F.ok scPrime (fun vs H Q E h => ?_) (fun cdv A outer s H vs Q E hr h => ?_)
  · obtain ⟨n, rfl, _⟩ := h
    rfl
  · obtain ⟨n, rfl, ⟨n2, nt, own, pass⟩, q⟩ := h
    refine ⟨_, pss_cons (ps_if (pt_cmpR op_lt (pv 0) pe_int (nomark _)) (pss_one (ps_ret pe_bl)) pss_nil)
      (pss_cons (ps_for PassesOwn.never rfl (pi_tup (pe_glob (v := .ref aW) (by rfl) mW rfl)) (pg_name (i := 1) scPrime.nd rfl (.inl rfl))
        (pss_one (ps_if (pt_cmpR op_eq (pe_op op_mod (pv 0) (pv 1)) pe_int (nomark _)) (pss_one (ps_ret (pe_cmpR op_eq (pv 0) (pv 1) (nomark _)))) pss_nil)))
      (pss_one (ps_ret (pe_callB (cr_all rfl) (by rfl) ma boot_all (pa_cons (pe_lc (own := [("witness", 1)]) (g := gName 1) (tt := tYes) rfl scPrime.nd (pi_tup (pe_glob (v := .ref aW) (by rfl) mW rfl)) (blkOk_by (N := ["number", "witness"]) (sc := defScope sPrime) (by decide +kernel))
        (fun _ _ _ _ _ => pg_name (i := 1) scPrime.nd rfl (.inl rfl)) (fun _ _ _ _ _ => pts_nil) (fun _ _ _ _ _ => pe_call GP hr (by rfl) mP kP bP .nil pass0 (pa_cons (pv 0) (pa_cons (pv 1) pa_nil)))) pa_nil))))), ?_⟩
    refine ⟨.int n, rfl, n, 2, rfl, rfl, _, rfl, ite2 (fun z => ?_) (fun _ => ?_)⟩
    · exact absurd (of_decide_eq_true z) (by omega)
    · refine ⟨aW, rfl, ⟨_, hW _⟩, for_tup (xs := W5.map V.int) (fun i σ H' => H' = H ∧ (∃ x, σ = [some (.int n), x]) ∧ ∀ j v, j < i → W5[j]? = some v → n % v ≠ 0) ⟨rfl, ⟨none, rfl⟩, fun j v hj => absurd hj (by omega)⟩ (fun _ _ _ _ _ => hW _) ?_ ?_⟩
      · rintro i x σ H' hx ⟨rfl, ⟨y, rfl⟩, hb⟩
        obtain ⟨v, hv, rfl, hi⟩ := w5_at hx
        refine ⟨.int n, rfl, .int v, rfl, n, v, rfl, rfl, w5_pos v hv, rfl, _, rfl, ite2 (fun z => ?_) (fun z => ?_)⟩
        · have hz : n % v = 0 := V.int.inj (of_decide_eq_true z)
          refine ⟨.int n, rfl, .int v, rfl, rfl, ?_⟩
          rw [decide_eq_true (congrArg V.int (own v hv hz))]
          exact q _ (Same.refl _)
        · have hz : n % v ≠ 0 := fun y => z (decide_eq_true (congrArg V.int y))
          refine ⟨rfl, ⟨some (.int v), rfl⟩, fun j v' hj e => ?_⟩
          by_cases ej : j = i
          · subst ej
            rw [hi] at e
            cases e
            exact hz
          · exact hb j v' (by omega) e
      · rintro σ H0 ⟨rfl, ⟨y, rfl⟩, hb⟩
        have none : ∀ v ∈ W5, n % v ≠ 0 := fun v hv => by
          obtain ⟨j, hj, e⟩ := List.getElem_of_mem hv
          exact hb j v (by simpa using hj) (by rw [← e]; exact List.getElem?_eq_getElem hj)
        have pp := pass none
        refine ⟨aW, rfl, ⟨_, hW _⟩, fun D nD => lc_tup (xs := W5.map V.int) (fun i H' => Same H0 H' ∧ H' D = some (.lst ((List.replicate i true).map V.bl))) ⟨same_new nD, upd_same⟩ (fun _ _ _ _ => hW _) ?_ ?_⟩
        · rintro i x H' hx ⟨sm, hD⟩
          obtain ⟨v, hv, rfl, hi⟩ := w5_at hx
          refine ⟨rfl, .int n, rfl, .int v, rfl, n, v, rfl, pp v hv, fun H2 sm2 => ⟨_, sm2 _ _ hD, ?_, fun b o e => ?_, ?_⟩⟩
          · rw [List.length_map, List.length_replicate]
            have : i < 5 := by
              have := (List.getElem?_eq_some_iff.mp hi).1
              exact this
            rw [sizeLine_eq]; omega
          · rw [upd_ne (ne_of_none e nD)]
            exact sm2 _ _ (sm _ _ e)
          · rw [upd_same, List.replicate_succ', List.map_append]
            rfl
        · rintro H' ⟨sm, hD⟩
          exact ⟨D, _, rfl, .inl (.inl hD), q _ sm⟩
end
end K27

namespace K27
open PySem PySem.Spec PyProof.Rows L2 NT
/-! ### which primes the test passes -/
/-- the test of one witness, to be computed -/
def passB (n v : Nat) (k u i : Nat) : Bool :=
  decide (n - 1 = 2 ^ k * u) && decide (u % 2 = 1) && decide (i < k) && decide (k < 1000) && decide (2 < n) && decide (n < 2 ^ 62) && (decide (powMod 70 v u n = 1) || decide (powMod 70 v (u * 2 ^ i) n = n - 1))
theorem pass_of {n v k u i : Nat} (h : passB n v k u i = true) : PassOk n v := by
  unfold passB at h
  simp only [Bool.and_eq_true, Bool.or_eq_true, decide_eq_true_eq] at h
  obtain ⟨⟨⟨⟨⟨⟨h1, h2⟩, h3⟩, h4⟩, h5⟩, h6⟩, h7⟩ := h
  have hu : u ≤ n - 1 := by
    rw [h1]
    exact Nat.le_mul_of_pos_left u (Nat.pow_pos (by decide))
  have hi : u * 2 ^ i ≤ n - 1 := by
    rw [h1, Nat.mul_comm]
    exact Nat.mul_le_mul_right u (Nat.pow_le_pow_right (by decide) (by omega))
  have big : n - 1 < 2 ^ 70 := Nat.lt_of_lt_of_le (by omega) (Nat.pow_le_pow_right (n := 2) (by decide) (show 62 ≤ 70 by decide))
  rw [powMod_eq _ _ _ _ (by omega), powMod_eq _ _ _ _ (by omega)] at h7
  refine ⟨by omega, by omega, k, u, i, ⟨?_, by omega⟩, by omega, h4, h3, ?_⟩
  · have : (n : Int) - 1 = ((n - 1 : Nat) : Int) := by omega
    rw [this, h1]
    simp
  · rw [Int.toNat_natCast]
    rcases h7 with z | z
    · left
      rw [← Int.natCast_pow, ← Int.natCast_emod, z]; rfl
    · right
      rw [← Int.natCast_pow, ← Int.natCast_emod, z]
      omega
theorem prime_small {n : Int} (h : n ∈ W5) : PrimeOk n := by
  have key : ∀ n ∈ W5, (2 ≤ n ∧ n ≤ 10 ^ 12) ∧ (∀ v ∈ W5, n % v = 0 → n = v) ∧ ∃ v ∈ W5, n % v = 0 := by decide
  obtain ⟨⟨a, b⟩, c, d, hd, e⟩ := key n h
  exact ⟨a, b, c, fun z => absurd e (z d hd)⟩
theorem prime_great {n : Nat} (h2 : 2 ≤ n) (h12 : n ≤ 10 ^ 12) (hn : ∀ v ∈ W5, (n : Int) % v ≠ 0) (h : ∀ v ∈ [2, 3, 5, 7, 11], PassOk n ((v : Nat) : Int)) : PrimeOk n := by
  refine ⟨by omega, by omega, fun v hv z => absurd z (hn v hv), fun _ v hv => ?_⟩
  have e : W5 = [2, 3, 5, 7, 11].map fun x : Nat => (x : Int) := rfl
  rw [e] at hv
  obtain ⟨x, hx, rfl⟩ := List.mem_map.mp hv
  exact h x hx
theorem prime_test {n : Nat} (k u a b c d e : Nat) (h : (decide (2 ≤ n) && decide (n ≤ 10 ^ 12) && W5.all (fun v => decide ((n : Int) % v ≠ 0)) && passB n 2 k u a && passB n 3 k u b && passB n 5 k u c && passB n 7 k u d && passB n 11 k u e) = true) : PrimeOk n := by
  simp only [Bool.and_eq_true, decide_eq_true_eq, List.all_eq_true] at h
  obtain ⟨⟨⟨⟨⟨⟨⟨h1, h2⟩, h3⟩, p1⟩, p2⟩, p3⟩, p4⟩, p5⟩ := h
  refine prime_great h1 h2 h3 fun v hv => ?_
  simp only [List.mem_cons, List.not_mem_nil, or_false] at hv
  rcases hv with rfl | rfl | rfl | rfl | rfl
  · exact pass_of p1
  · exact pass_of p2
  · exact pass_of p3
  · exact pass_of p4
  · exact pass_of p5
theorem pk13 : PrimeOk 13 := prime_test (n := 13) 2 3 1 0 1 1 1 (by decide +kernel)
theorem pk_five {p : Int} (h : five p) : PrimeOk p := by
  rcases h with rfl | rfl | rfl | rfl | rfl
  · exact prime_small (by decide)
  · exact prime_small (by decide)
  · exact prime_small (by decide)
  · exact prime_small (by decide)
  · exact pk13
section
variable {P : Program} {w : World} {K : PySem.W.Frag} {mg : Str → Option Value} {base : Heap}
/-! ### is_square_rest, require_place -/
def spSqRest : Sp := fun vs H Q _ => ∃ u p : Int, vs = [.int u, .int p] ∧ 2 ≤ p ∧ p < 1073741824 ∧ Q (.bl (decide (u ^ (p / 2).toNat % p = 1))) H
theorem ok_sqrest {f fP : Addr} {fd dP : FuncData} (F : Fun K "is_square_rest" "is_square_rest" sSqRest f fd) (GP : FnOk P w K mg base CX0 1 fP dP ["base", "exponent", "modulus"] spPow) (mP : mg "power_rest" = some (.ref fP)) (kP : PySem.W.keepIn K (.ref fP) = true) (bP : Binds K dP ["base", "exponent", "modulus"] []) :
    FnOk P w K mg base CX0 2 f fd ["number", "prime"] spSqRest := by
  refine F.ok scSqRest (fun vs H Q E h => ?_) (fun cdv A outer s H vs Q E hr h => ?_)
  · obtain ⟨u, p, rfl, _⟩ := h
    rfl
  · obtain ⟨u, p, rfl, p2, pb, q⟩ := h
    refine ⟨_, pss_one (ps_ret (pe_cmpR op_eq (pe_call GP hr (by rfl) mP kP bP .nil pass0 (pa_cons (pv 0) (pa_cons (pe_op op_fdiv (pv 1) pe_int) (pa_cons (pv 1) pa_nil)))) pe_int (nomark _))), ?_⟩
    refine ⟨.int u, rfl, .int p, rfl, p, 2, rfl, rfl, ⟨by decide, by decide⟩, .int p, rfl, u, p / 2, p, rfl, by omega, by omega, by omega, rfl, ?_⟩
    exact to q (congrArg V.bl (by congr 1; exact propext ⟨fun z => congrArg V.int z, fun z => V.int.inj z⟩))
def spIsPlace : Sp := fun vs H Q _ => ∃ p : Int, vs = [.int p] ∧ (p = 0 ∨ PrimeOk p) ∧ ∀ H', Same H H' → Q (.bl true) H'
theorem ok_isPlace {f fW fP : Addr} {fd dW dP : FuncData} {t : Tok} (F : Fun K "is_place" "is_place" sIsPlace f fd) (GW : FnOk P w K mg base CX0 2 fW dW ["value", "least", "most"] spWithin) (mW : mg "is_within" = some (.ref fW)) (kW : PySem.W.keepIn K (.ref fW) = true) (bW : Binds K dW ["value", "least", "most"] [])
    (GP : FnOk P w K mg base CX0 3 fP dP ["number"] spPrime) (mP : mg "is_prime" = some (.ref fP)) (kP : PySem.W.keepIn K (.ref fP) = true) (bP : Binds K dP ["number"] []) (mS : mg "MOST_SIZE" = some (.int (10 ^ 12) t)) : FnOk P w K mg base CX0 4 f fd ["value"] spIsPlace := by
  refine F.ok scIsPlace (fun vs H Q E h => ?_) (fun cdv A outer s H vs Q E hr h => ?_)
  · obtain ⟨p, rfl, _⟩ := h
    rfl
  · obtain ⟨p, rfl, hp, q⟩ := h
    refine ⟨_, pss_one (ps_ret (pe_and (pe_call GW (hr.mono (by decide)) (by rfl) mW kW bW .nil pass0 (pa_cons (pv 0) (pa_cons pe_int (pa_cons (pe_glob (v := .int (10 ^ 12)) (by rfl) mS ⟨_, rfl⟩) pa_nil))))
      (pe_one (pe_or (pe_cmpR op_eq (pv 0) pe_int (nomark _)) (pe_one (pe_call GP hr (by rfl) mP kP bP .nil pass0 (pa_cons (pv 0) pa_nil))))))), ?_⟩
    have hb : 0 ≤ p ∧ p ≤ 10 ^ 12 := by
      rcases hp with rfl | z
      · decide
      · exact ⟨by have := z.two; omega, z.top⟩
    refine ⟨.int p, rfl, p, 0, 10 ^ 12, rfl, true, ?_, ?_⟩
    · rw [decide_eq_true hb]
    · refine iteT ⟨.int p, rfl, rfl, ?_⟩
      refine ⟨_, rfl, ?_⟩
      by_cases z : p = 0
      · subst z
        exact q _ (Same.refl _)
      · rw [if_neg (by simpa using z)]
        rcases hp with rfl | hp
        · exact absurd rfl z
        · exact ⟨.int p, rfl, p, rfl, hp, fun H' sm => q _ sm⟩
def spPlace : Sp := fun vs H Q _ => ∃ p : Int, vs = [.int p] ∧ (p = 0 ∨ PrimeOk p) ∧ ∀ H', Same H H' → Q .non H'
theorem ok_place {f g : Addr} {fd gd : FuncData} (F : Fun K "require_place" "require_place" sPlace f fd) (G : FnOk P w K mg base CX0 4 g gd ["value"] spIsPlace) (mG : mg "is_place" = some (.ref g)) (kG : PySem.W.keepIn K (.ref g) = true) (bG : Binds K gd ["value"] []) : FnOk P w K mg base CX0 5 f fd ["place"] spPlace := by
  refine F.ok scPlace (fun vs H Q E h => ?_) (fun cdv A outer s H vs Q E hr h => ?_)
  · obtain ⟨p, rfl, _⟩ := h
    rfl
  · obtain ⟨p, rfl, hp, q⟩ := h
    refine ⟨_, pss_one (ps_if (pt_not (pt_val (pe_call G hr (by rfl) mG kG bG .nil pass0 (pa_cons (pv 0) pa_nil)))) (pss_one ps_never) pss_nil), ?_⟩
    exact ⟨.int p, rfl, p, rfl, hp, fun H1 s1 => ⟨_, rfl, iteF (q _ s1)⟩⟩
end
end K27

namespace K27
open PySem PySem.Spec PyProof.Rows L2 NT
abbrev sChest : Stmt := topS 28
abbrev sFetch : Stmt := topS 29
abbrev sChoose : Stmt := topS 30
abbrev sSpl : Stmt := topS 31
theorem scChest : FnScope ["_law_script", "_law_at", "_law_mixed", "_law_cell", "_law_own"] ["_law_script", "_law_at"] (defScope sChest) := ⟨rfl, rfl, rfl, by decide +kernel, rfl, by decide +kernel, by decide +kernel⟩
theorem scFetch : FnScope ["_law_chest_here", "_law_most", "_law_figure", "_law_mixed"] ["_law_chest_here", "_law_most"] (defScope sFetch) := ⟨rfl, rfl, rfl, by decide +kernel, rfl, by decide +kernel, by decide +kernel⟩
theorem scChoose : FnScope ["_law_chest_here", "_law_menu"] ["_law_chest_here", "_law_menu"] (defScope sChoose) := ⟨rfl, rfl, rfl, by decide +kernel, rfl, by decide +kernel, by decide +kernel⟩
theorem scSpl : FnScope ["_law_n", "_law_p", "_law_often", "_law_left", "_law_turn"] ["_law_n", "_law_p"] (defScope sSpl) := ⟨rfl, rfl, rfl, by decide +kernel, rfl, by decide +kernel, by decide +kernel⟩
/-- a chest at c: what is left, the mixed number, how many were fetched -/
def ChB (H : Hp) (c : Addr) (B : Nat) : Prop := ∃ a b n : Int, H c = some (.lst [.int a, .int b, .int n]) ∧ 0 ≤ a ∧ 0 ≤ b ∧ b < 2 ^ 40 ∧ 0 ≤ n ∧ n < B
/-- all but c stands -/
def But (c : Addr) (H H' : Hp) : Prop := ∀ b o, b ≠ c → H b = some o → H' b = some o
theorem But.refl {c : Addr} {H : Hp} : But c H H := fun _ _ _ e => e
theorem But.trans {c : Addr} {H H1 H2 : Hp} (h : But c H H1) (h' : But c H1 H2) : But c H H2 := fun b o n e => h' b o n (h b o n e)
theorem But.same {c : Addr} {H H1 : Hp} (h : Same H H1) : But c H H1 := fun b o _ e => h b o e
theorem But.put {c : Addr} {H : Hp} {o : HO} : But c H (upd H c o) := fun b x n e => (upd_ne n).trans e
theorem ChB.mono {H : Hp} {c : Addr} {B B' : Nat} (h : ChB H c B) (l : B ≤ B') : ChB H c B' := by
  obtain ⟨a, b, n, e, h1, h2, h3, h4, h5⟩ := h
  exact ⟨a, b, n, e, h1, h2, h3, h4, by omega⟩
theorem ChB.same {H H' : Hp} {c : Addr} {B : Nat} (h : ChB H c B) (s : Same H H') : ChB H' c B := by
  obtain ⟨a, b, n, e, r⟩ := h
  exact ⟨a, b, n, s _ _ e, r⟩
theorem But.new {c p : Addr} {H : Hp} {o : HO} (h : H p = none) : But c H (upd H p o) := But.same (same_new h)
theorem ne_ite {c A B : Prop} [Decidable c] (h1 : ¬ c → A) (h2 : c → B) : if (!decide c) = true then A else B := by
  by_cases h : c
  · rw [decide_eq_true h]
    exact h2 h
  · rw [decide_eq_false h]
    exact h1 h
section
variable {P : Program} {w : World} {K : PySem.W.Frag} {mg : Str → Option Value} {base : Heap}
def spFetch : Sp := fun vs H Q _ => ∃ (c : Addr) (m : Int) (B : Nat), vs = [.ref c, .int m] ∧ 0 < m ∧ m < 1073741824 ∧ ChB H c B ∧ B ≤ 1000000 ∧ ∀ H' r, 0 ≤ r → r < m → But c H H' → ChB H' c (B + 1) → Q (.int r) H'
theorem ok_fetch {f : Addr} {fd : FuncData} (F : Fun K "_law_fetch" "_law_fetch" sFetch f fd) (mi : mg "int" = none) (md : mg "divmod" = none) : FnOk P w K mg base CX0 1 f fd ["_law_chest_here", "_law_most"] spFetch := by
  refine F.ok scFetch (fun vs H Q E h => ?_) (fun cdv A outer s H vs Q E hr h => ?_)
  · obtain ⟨c, m, B, rfl, _⟩ := h
    rfl
  · obtain ⟨c, m, B, rfl, m0, mb, ⟨a, b, n, hc, a0, b0, b1, n0, n1⟩, hB, q⟩ := h
    refine ⟨_, pss_cons (ps_if (pt_cmpR op_gt (pe_ix ix_list (pv 0) pe_int (fun _ _ => rfl)) pe_int (nomark _))
        (pss_cons (ps_asg (pe_callB call_divmod (by rfl) md boot_divmod (pa_cons (pe_ix ix_list (pv 0) pe_int (fun _ _ => rfl)) (pa_cons (pv 1) pa_nil)))
            (pg_tup rfl (pgs_cons (pg_sub (pv 0) pe_int set_list) (pgs_cons (pg_name (i := 2) scFetch.nd rfl (.inl rfl)) pgs_nil))))
        (pss_one (ps_ret (pv 2)))) pss_nil)
      (pss_cons (ps_asg (pe_op op_add (pe_ix ix_list (pv 0) pe_int (fun _ _ => rfl)) pe_int) (pg_sub (pv 0) pe_int set_list))
      (pss_cons (ps_set (i := 3) scFetch.nd rfl (.inl rfl) (pe_op op_mod (pe_callTy call_int1 (by rfl) mi boot_int (pa_cons (pe_op op_add (pe_op op_add (pe_op op_mul (pe_ix ix_list (pv 0) pe_int (fun _ _ => rfl)) pe_int)
          (pe_op op_mul (pe_op op_mul (pe_ix ix_list (pv 0) pe_int (fun _ _ => rfl)) (pe_ix ix_list (pv 0) pe_int (fun _ _ => rfl))) pe_int)) pe_int) pa_nil)) pe_int))
      (pss_cons (ps_asg (pe_op op_mod (pe_callTy call_int1 (by rfl) mi boot_int (pa_cons (pe_op op_add (pe_op op_mul (pv 3) (pe_op op_add pe_int (pe_op op_mod (pe_callTy call_int1 (by rfl) mi boot_int (pa_cons (pv 3) pa_nil)) pe_int))) pe_int) pa_nil)) pe_int) (pg_sub (pv 0) pe_int set_list))
      (pss_one (ps_ret (pe_op op_mod (pe_callTy call_int1 (by rfl) mi boot_int (pa_cons (pe_op op_fdiv (pe_ix ix_list (pv 0) pe_int (fun _ _ => rfl)) pe_int) pa_nil)) (pv 1))))))), ?_⟩
    have q1 : SqL K H c [.int a, .int b, .int n] := .inl (.inl hc)
    refine ⟨.ref c, rfl, c, _, 0, .int a, rfl, rfl, q1, rfl, a, 0, rfl, rfl, _, rfl, ite2 (fun z => ?_) (fun z => ?_)⟩
    · refine ⟨.ref c, rfl, c, _, 0, .int a, rfl, rfl, q1, rfl, .int m, rfl, a, m, rfl, ⟨m0, mb⟩, fun p np => ?_⟩
      have pc : c ≠ p := ne_of_none hc np
      refine ⟨p, _, rfl, .inl (.inl upd_same), rfl, _, _, rfl, .ref c, rfl, c, [.int a, .int b, .int n], 0, 0, rfl, rfl, (upd_ne pc).trans hc, rfl, _, _, rfl, rfl, ?_⟩
      refine ⟨.int (a % m), rfl, q _ _ (Int.emod_nonneg _ (by omega)) (Int.emod_lt_of_pos _ m0) ((But.new np).trans But.put) ⟨a / m, b, n, upd_same, Int.ediv_nonneg a0 (by omega), b0, b1, n0, by omega⟩⟩
    · refine ⟨.ref c, rfl, c, _, 2, .int n, rfl, rfl, q1, rfl, n, 1, rfl, rfl, .ref c, rfl, c, [.int a, .int b, .int n], 2, 2, rfl, rfl, hc, rfl, ?_⟩
      have q2 : SqL K (upd H c (.lst [.int a, .int b, .int (n + 1)])) c [.int a, .int b, .int (n + 1)] := .inl (.inl upd_same)
      refine ⟨.ref c, rfl, c, _, 1, .int b, rfl, rfl, q2, rfl, b, 45007, rfl, rfl, .inr ⟨by decide, by decide⟩, ?_⟩
      refine ⟨.ref c, rfl, c, _, 2, .int (n + 1), rfl, rfl, q2, rfl, .ref c, rfl, c, _, 2, .int (n + 1), rfl, rfl, q2, rfl, n + 1, n + 1, rfl, rfl, .inl ⟨by omega, by omega⟩, _, 137, rfl, rfl, .inr ⟨by decide, by decide⟩, _, _, rfl, rfl, _, 71, rfl, rfl, .inl ⟨_, rfl, _, 2147479819, rfl, rfl, (by show (0 : Int) < 2147479819; decide), ?_⟩⟩
      generalize b * 45007 + (n + 1) * (n + 1) * 137 + 71 = x
      have x0 : 0 ≤ x % 2147479819 := Int.emod_nonneg _ (by decide)
      have x1 : x % 2147479819 < 2147479819 := Int.emod_lt_of_pos _ (by decide)
      refine ⟨.int (x % 2147479819), rfl, .int (x % 2147479819), rfl, .inl ⟨_, rfl, _, 6011, rfl, rfl, (by show (0 : Int) < 6011; decide), 39041, _, rfl, rfl, _, _, rfl, rfl, .inl ⟨by omega, by omega⟩, _, 97, rfl, rfl, .inl ⟨_, rfl, _, 2147479903, rfl, rfl, (by show (0 : Int) < 2147479903; decide), ?_⟩⟩⟩
      generalize x % 2147479819 * (39041 + x % 2147479819 % 6011) + 97 = y
      have y0 : 0 ≤ y % 2147479903 := Int.emod_nonneg _ (by decide)
      have y1 : y % 2147479903 < 2147479903 := Int.emod_lt_of_pos _ (by decide)
      refine ⟨.ref c, rfl, c, [.int a, .int b, .int (n + 1)], 1, 1, rfl, rfl, upd_same, rfl, ?_⟩
      refine ⟨.ref c, rfl, c, [.int a, .int (y % 2147479903), .int (n + 1)], 1, .int (y % 2147479903), rfl, rfl, .inl (.inl upd_same), rfl, _, 512, rfl, rfl, ⟨by decide, by decide⟩, .inl ⟨_, rfl, .int m, rfl, _, m, rfl, rfl, m0, ?_⟩⟩
      exact q _ _ (Int.emod_nonneg _ (by omega)) (Int.emod_lt_of_pos _ m0) (But.put.trans But.put) ⟨a, y % 2147479903, n + 1, upd_same, a0, y0, by omega, by omega, by omega⟩
def spChoose : Sp := fun vs H Q _ => ∃ (c l : Addr) (xs : List V) (B : Nat), vs = [.ref c, .ref l] ∧ H l = some (.lst xs) ∧ l ≠ c ∧ 0 < xs.length ∧ xs.length < 1000 ∧ ChB H c B ∧ B ≤ 1000000 ∧ ∀ H' (j : Nat) x, xs[j]? = some x → But c H H' → ChB H' c (B + 1) → Q x H'
theorem ok_choose {f g : Addr} {fd gd : FuncData} (F : Fun K "_law_choose" "_law_choose" sChoose f fd) (G : FnOk P w K mg base CX0 1 g gd ["_law_chest_here", "_law_most"] spFetch) (mG : mg "_law_fetch" = some (.ref g)) (kG : PySem.W.keepIn K (.ref g) = true) (bG : Binds K gd ["_law_chest_here", "_law_most"] []) (ml : mg "len" = none) : FnOk P w K mg base CX0 2 f fd ["_law_chest_here", "_law_menu"] spChoose := by
  refine F.ok scChoose (fun vs H Q E h => ?_) (fun cdv A outer s H vs Q E hr h => ?_)
  · obtain ⟨c, m, xs, B, rfl, _⟩ := h
    rfl
  · obtain ⟨c, l, xs, B, rfl, hl, lc, l0, l1, hC, hB, q⟩ := h
    refine ⟨_, pss_one (ps_ret (pe_ix ix_list (pv 1) (pe_call G hr (by rfl) mG kG bG .nil pass0 (pa_cons (pv 0) (pa_cons (pe_callB call_len_seq (by rfl) ml PySem.boot_len (pa_cons (pv 1) pa_nil)) pa_nil))) (fun _ _ => rfl))), ?_⟩
    refine ⟨.ref l, rfl, .ref c, rfl, .ref l, rfl, l, xs, rfl, .inl (.inl (.inl hl)), c, xs.length, B, rfl, by omega, by omega, hC, hB, fun H' r r0 r1 hbut hch => ?_⟩
    obtain ⟨j, rfl⟩ : ∃ j : Nat, r = j := ⟨r.toNat, by omega⟩
    have hj : j < xs.length := by omega
    exact ⟨l, xs, j, xs[j], rfl, rfl, .inl (.inl (hbut _ _ lc hl)), atI_nat (List.getElem?_eq_getElem hj), q _ j _ (List.getElem?_eq_getElem hj) hbut hch⟩
/-! ### the law's own splitting, and by rests -/
theorem pow_big {p : Int} (hp : 2 ≤ p) : ∀ k : Nat, 2 ^ k ≤ (p ^ k).natAbs
  | 0 => by simp
  | k + 1 => by
    have ih := pow_big hp k
    rw [Int.pow_succ, Int.natAbs_mul, Nat.pow_succ]
    exact Nat.mul_le_mul ih (by omega)
def spSpl : Sp := fun vs H Q _ => ∃ (n p : Int) (k : Nat) (u : Int), vs = [.int n, .int p] ∧ 2 ≤ p ∧ p < 1073741824 ∧ n ≠ 0 ∧ n.natAbs < 1000000000000 ∧ Spl p n k u ∧ ∀ q, H q = none → Q (.ref q) (upd H q (.tup [.int k, .int u]))
theorem ok_spl {f : Addr} {fd : FuncData} (F : Fun K "_law_split" "_law_split" sSpl f fd) (mi : mg "int" = none) (mr : mg "range" = none) : FnOk P w K mg base CX0 1 f fd ["_law_n", "_law_p"] spSpl := by
  refine F.ok scSpl (fun vs H Q E h => ?_) (fun cdv A outer s H vs Q E hr h => ?_)
  · obtain ⟨n, p, k, u, rfl, _⟩ := h
    rfl
  · obtain ⟨n, p, k, u, rfl, p2, pb, n0, nb, hS, q⟩ := h
    refine ⟨_, pss_cons (ps_par (i := 2) (j := 3) rfl scSpl.nd rfl rfl (by decide) rfl rfl (pa_cons pe_int (pa_cons (pv 0) pa_nil)) (by rfl))
      (pss_cons (ps_for PassesOwn.never rfl (pi_range1 rfl mr (pa_cons pe_int pa_nil)) (pg_name (i := 4) scSpl.nd rfl (.inl rfl))
        (pss_cons (ps_if (pt_cmpR op_ne (pe_op op_mod (pe_callTy call_int1 (by rfl) mi boot_int (pa_cons (pv 3) pa_nil)) (pv 1)) pe_int (nomark _)) (pss_one ps_break) pss_nil)
        (pss_one (ps_par (i := 2) (j := 3) rfl scSpl.nd rfl rfl (by decide) rfl rfl (pa_cons (pe_op op_add (pv 2) pe_int) (pa_cons (pe_op op_fdiv (pv 3) (pv 1)) pa_nil)) (by rfl)))))
      (pss_one (ps_ret (pe_tup (pa_cons (pv 2) (pa_cons (pv 3) pa_nil)))))), ?_⟩
    refine ⟨.int n, rfl, .int 0, .int n, rfl, ?_⟩
    refine ⟨400, rfl, by decide, by decide, for_range (n := ((400 : Int).toNat)) (fun i σ H' => H' = H ∧ ∃ (n' : Int) (x : Option V), σ = [some (.int n), some (.int p), some (.int i), some (.int n'), x] ∧ n' ≠ 0 ∧ n = p ^ i * n')
      ⟨rfl, n, none, rfl, n0, by simp⟩ ?_ ?_⟩
    · rintro i σ H0 hi ⟨rfl, n', x, rfl, z0, e⟩
      refine ⟨.int n', rfl, .inl ⟨n', rfl, .int p, rfl, n', p, rfl, rfl, (by show 0 < p; omega), rfl, _, rfl, ne_ite (fun z => ?_) (fun z => ?_)⟩⟩
      · have hz : n' % p ≠ 0 := fun y => z (congrArg V.int y)
        obtain ⟨rfl, rfl⟩ := hS.uniq p2 ⟨e, hz⟩
        exact ⟨.int k, rfl, .int u, rfl, (by show 2 ≤ sizeLine; decide), q⟩
      · have hz : n' % p = 0 := V.int.inj z
        have e1 : n' = p * (n' / p) := by have := Int.mul_ediv_add_emod n' p; omega
        have q0 : n' / p ≠ 0 := fun y => by rw [y] at e1; simp at e1; exact z0 e1
        refine ⟨.int i, rfl, i, 1, rfl, rfl, .int n', rfl, .int p, rfl, n', p, rfl, rfl, ⟨by omega, pb⟩, _, _, rfl, rfl, n' / p, some (.int (0 + (i : Int))), rfl, q0, ?_⟩
        rw [e, Int.pow_succ, Int.mul_assoc, ← e1]
    · rintro σ H0 ⟨rfl, n', x, rfl, z0, e⟩
      exfalso
      have hb := pow_big p2 400
      have : n.natAbs = (p ^ 400).natAbs * n'.natAbs := by rw [← Int.natAbs_mul]; exact congrArg Int.natAbs e
      have h1 : (p ^ 400).natAbs * 1 ≤ (p ^ 400).natAbs * n'.natAbs := Nat.mul_le_mul_left _ (by omega)
      have h2 : 1000000000000 ≤ (2 : Nat) ^ 400 := by decide +kernel
      omega
end
end K27

namespace K27
open PySem PySem.Spec PyProof.Rows L2 NT
theorem mem_get {α : Type} {xs : List α} {j : Nat} {x : α} (h : xs[j]? = some x) : x ∈ xs := List.mem_of_getElem? h
section
variable {P : Program} {w : World} {K : PySem.W.Frag} {mg : Str → Option Value} {base : Heap}
/-! ### a chest is made -/
def spChest (K : PySem.W.Frag) : Sp := fun vs H Q _ => ∃ (a : Addr) (ns : List Int) (i : Nat), vs = [.ref a, .int i] ∧ SqL K H a (ns.map V.int) ∧ i ≤ 2 ∧ ns.length ≤ 63 ∧ ∀ H' c, Same H H' → H c = none → ChB H' c 1 → Q (.ref c) H'
theorem cut6 (ns : List Int) : cutV (ns.map V.int) none (some 6) = (ns.take 6).map V.int := by
  unfold cutV
  rw [show HT.sIx (ns.map V.int).length 0 none = 0 from HT.sIx_none _ _, List.drop_zero, Nat.sub_zero, show HT.sIx (ns.map V.int).length (ns.map V.int).length (some 6) = min 6 (ns.map V.int).length from HT.sIx_nat _ _ 6, List.map_take]
  by_cases h : 6 ≤ (ns.map V.int).length
  · rw [Nat.min_eq_left h]
  · rw [Nat.min_eq_right (by omega), List.take_of_length_le Nat.le.refl, List.take_of_length_le (show _ ≤ 6 by omega)]
theorem ok_chest {f : Addr} {fd : FuncData} (F : Fun K "_law_chest" "_law_chest" sChest f fd) (mi : mg "int" = none) (ml : mg "len" = none) (ma : mg "abs" = none) : FnOk P w K mg base CX0 1 f fd ["_law_script", "_law_at"] (spChest K) := by
  refine F.ok scChest (fun vs H Q E h => ?_) (fun cdv A outer s H vs Q E hr h => ?_)
  · obtain ⟨a, ns, i, rfl, _⟩ := h
    rfl
  · obtain ⟨a, ns, i, rfl, hS, hi, hl, q⟩ := h
    have md : (0 : Int) < 2147479819 := by decide
    obtain ⟨tR, hR, qR⟩ : ∃ t, PSs (cxOf CX0 P w K mg base ["_law_script", "_law_at", "_law_mixed", "_law_cell", "_law_own"] "_law_chest" (defScope sChest) f cdv A outer s H E).nox ((defBody sChest).drop 3) t ∧
        ∀ (mx own : Int) (x3 : Option V) H1, 0 ≤ mx → mx < 2147479819 → Same H H1 → t { nx := fun _ H' => Q .non H', rt := Q } [some (.ref a), some (.int i), some (.int mx), x3, some (.int own)] H1 := by
      refine ⟨_, pss_one (ps_ret (pe_lst (pa_cons (pe_ifExp (pt_cmpR op_ge (pe_callB call_abs (by rfl) ma boot_abs (pa_cons (pv 4) pa_nil)) (pe_op op_pow pe_int pe_int) (nomark _)) (pe_callB call_abs (by rfl) ma boot_abs (pa_cons (pv 4) pa_nil)) pe_int)
        (pa_cons (pe_op op_mod (pe_callTy call_int1 (by rfl) mi boot_int (pa_cons (pe_op op_add (pe_op op_add (pe_op op_mul (pv 2) pe_int) (pe_op op_mul (pv 4) pe_int)) pe_int) pa_nil)) pe_int) (pa_cons pe_int pa_nil))))), ?_⟩
      intro mx own x3 H1 m0 m1 sm
      have ab : 0 ≤ (if own < 0 then -own else own) := by split <;> omega
      refine ⟨.int own, rfl, own, rfl, 10, 17, rfl, rfl, ⟨by decide, by decide, by decide⟩, _, _, rfl, rfl, _, rfl, ite2 (fun _ => ⟨.int own, rfl, own, rfl, ?_⟩) (fun _ => ?_)⟩
      · refine ⟨.int mx, rfl, mx, 97, rfl, rfl, .inr ⟨by decide, by decide⟩, .int own, rfl, own, 59, rfl, rfl, .inr ⟨by decide, by decide⟩, _, _, rfl, rfl, _, 43, rfl, rfl, .inl ⟨_, rfl, _, 2147479819, rfl, rfl, md, (by show 3 ≤ sizeLine; decide), fun c nc => ?_⟩⟩
        exact q _ c (sm.trans (same_new nc)) (sm.free nc) ⟨_, _, 0, upd_same, ab, Int.emod_nonneg _ (by decide), Int.lt_trans (Int.emod_lt_of_pos _ md) (by decide), by decide, by decide⟩
      · refine ⟨.int mx, rfl, mx, 97, rfl, rfl, .inr ⟨by decide, by decide⟩, .int own, rfl, own, 59, rfl, rfl, .inr ⟨by decide, by decide⟩, _, _, rfl, rfl, _, 43, rfl, rfl, .inl ⟨_, rfl, _, 2147479819, rfl, rfl, md, (by show 3 ≤ sizeLine; decide), fun c nc => ?_⟩⟩
        exact q _ c (sm.trans (same_new nc)) (sm.free nc) ⟨_, _, 0, upd_same, Int.le_refl 0, Int.emod_nonneg _ (by decide), Int.lt_trans (Int.emod_lt_of_pos _ md) (by decide), by decide, by decide⟩
    refine ⟨_, pss_cons (ps_set (i := 2) scChest.nd rfl (.inl rfl) (pe_op op_add pe_int (pe_op op_mul pe_int (pv 1))))
      (pss_cons (ps_for PassesOwn.never rfl (pi_list (pe_slice sl_list (pv 0) po_none (po_some pe_int))) (pg_name (i := 3) scChest.nd rfl (.inl rfl))
        (pss_one (ps_set (i := 2) scChest.nd rfl (.inl rfl) (pe_op op_mod (pe_callTy call_int1 (by rfl) mi boot_int (pa_cons (pe_op op_add (pe_op op_mul (pv 2) pe_int) (pv 3)) pa_nil)) pe_int))))
      (pss_cons (ps_set (i := 4) scChest.nd rfl (.inl rfl) (pe_ifExp (pt_cmpR op_lt (pv 1) (pe_callB call_len_seq (by rfl) ml PySem.boot_len (pa_cons (pv 0) pa_nil)) (nomark _)) (pe_ix ix_list (pv 0) (pv 1) (fun _ _ => rfl)) (pe_op op_add (pe_op op_mul pe_int (pv 1)) pe_int))) hR)), ?_⟩
    refine ⟨.int i, rfl, 8009, i, rfl, rfl, .inl ⟨by decide, by decide⟩, 39019, _, rfl, rfl, .ref a, rfl, 6, rfl, a, _, rfl, hS, fun l nl => ?_⟩
    have sm := same_new (o := .lst (cutV (ns.map V.int) none (some 6))) nl
    have hL : SqL K (upd H l (.lst (cutV (ns.map V.int) none (some 6)))) l ((ns.take 6).map V.int) := by
      rw [← cut6]
      exact .inl (.inl upd_same)
    refine ⟨l, rfl, ⟨_, hL⟩, for_list (xs := (ns.take 6).map V.int) (fun j σ H' => H' = upd H l (.lst (cutV (ns.map V.int) none (some 6))) ∧ ∃ (mx : Int) (x3 : Option V), σ = [some (.ref a), some (.int i), some (.int mx), x3, none] ∧ 0 ≤ mx ∧ mx < 2147479819)
      ⟨rfl, 39019 + 8009 * i, none, rfl, by omega, by omega⟩ (fun j σ H' _ hP => hP.1 ▸ hL) ?_ ?_⟩
    · rintro j x σ H' hx ⟨rfl, mx, x3, rfl, m0, m1⟩
      rw [List.getElem?_map] at hx
      obtain ⟨v, hv, rfl⟩ := Option.map_eq_some_iff.mp hx
      refine ⟨.int mx, rfl, mx, 31013, rfl, rfl, .inr ⟨by decide, by decide⟩, .int v, rfl, _, v, rfl, rfl, .inl ⟨_, rfl, _, 2147479819, rfl, rfl, md, rfl, _, some (.int v), rfl, Int.emod_nonneg _ (by decide), Int.emod_lt_of_pos _ md⟩⟩
    · rintro σ H' ⟨rfl, mx, x3, rfl, m0, m1⟩
      have hS2 : SqL K (upd H l (.lst (cutV (ns.map V.int) none (some 6)))) a (ns.map V.int) := sm.seq hS
      refine ⟨.int i, rfl, .ref a, rfl, a, _, rfl, .inl hS2, i, _, rfl, rfl, _, rfl, ite2 (fun z => ?_) (fun z => ?_)⟩
      · have hlt : (i : Int) < ((ns.map V.int).length : Nat) := of_decide_eq_true z
        have hlt2 : i < ns.length := by rw [List.length_map] at hlt; omega
        refine ⟨.ref a, rfl, .int i, rfl, a, _, i, .int ns[i], rfl, rfl, hS2, atI_nat ?_, qR mx _ x3 _ m0 m1 sm⟩
        rw [List.getElem?_map, List.getElem?_eq_getElem hlt2]
        rfl
      · exact ⟨.int i, rfl, 67, i, rfl, rfl, .inl ⟨by decide, by decide⟩, _, 37, rfl, rfl, qR mx _ x3 _ m0 m1 sm⟩
end
end K27

namespace K27
open PySem PySem.Spec PyProof.Rows L2 NT
section
variable {P : Program} {w : World} {K : PySem.W.Frag} {mg : Str → Option Value} {base : Heap}
theorem pow_big' {p : Int} (hp : 2 ≤ p) {a : Int} {k : Nat} {u : Int} (h : Spl p a k u) (h0 : a ≠ 0) : k < a.natAbs ∧ u.natAbs ≤ a.natAbs := by
  have u0 : u.natAbs ≠ 0 := fun z => h.nd (by have : u = 0 := by omega
                                              rw [this]; simp)
  have hb := pow_big hp k
  have e : a.natAbs = (p ^ k).natAbs * u.natAbs := by rw [← Int.natAbs_mul]; exact congrArg Int.natAbs h.eq
  have h1 : (p ^ k).natAbs * 1 ≤ (p ^ k).natAbs * u.natAbs := Nat.mul_le_mul_left _ (by omega)
  have h2 : 1 * u.natAbs ≤ (p ^ k).natAbs * u.natAbs := Nat.mul_le_mul_right _ (by have := Nat.pow_pos (n := k) (show 0 < 2 by decide); omega)
  have h3 : k < 2 ^ k := Nat.lt_two_pow_self
  omega
/-! ### odd_for, sign_at, sign -/
def spOdd : Sp := fun vs H Q _ => ∃ u p : Int, vs = [.int u, .int p] ∧ 2 ≤ p ∧ p < 1073741824 ∧ Q (.int (oddU p u)) H
theorem ok_oddfor {f fR : Addr} {fd dR : FuncData} (F : Fun K "odd_for" "odd_for" sOddFor f fd) (GR : FnOk P w K mg base CX0 2 fR dR ["number", "prime"] spSqRest) (mR : mg "is_square_rest" = some (.ref fR)) (kR : PySem.W.keepIn K (.ref fR) = true) (bR : Binds K dR ["number", "prime"] []) : FnOk P w K mg base CX0 3 f fd ["number", "prime"] spOdd := by
  refine F.ok scOddFor (fun vs H Q E h => ?_) (fun cdv A outer s H vs Q E hr h => ?_)
  · obtain ⟨u, p, rfl, _⟩ := h
    rfl
  · obtain ⟨u, p, rfl, p2, pb, q⟩ := h
    refine ⟨_, pss_one (ps_ret (pe_ifExp (pt_val (pe_call GR hr (by rfl) mR kR bR .nil pass0 (pa_cons (pv 0) (pa_cons (pv 1) pa_nil)))) pe_int pe_int)), ?_⟩
    refine ⟨.int u, rfl, .int p, rfl, u, p, rfl, p2, pb, _, rfl, ite2 (fun z => ?_) (fun z => ?_)⟩
    · refine to q (congrArg V.int ?_)
      unfold oddU
      rw [if_pos (of_decide_eq_true z)]
    · refine to q (congrArg V.int ?_)
      unfold oddU
      rw [if_neg (fun y => z (decide_eq_true y))]
def spSignAt : Sp := fun vs H Q _ => ∃ a b p : Int, vs = [.int a, .int b, .int p] ∧ a ≠ 0 ∧ b ≠ 0 ∧ a.natAbs ≤ 1000000000 ∧ b.natAbs ≤ 1000000000 ∧
  ((p = 0 ∧ Q (.int (sg0 a b)) H) ∨ (2 ≤ p ∧ p < 1073741824 ∧ ∃ k u l v, Spl p a k u ∧ Spl p b l v ∧ ∀ H', Same H H' → Q (.int (sg p k u l v)) H'))
theorem ok_signat {f fS fO : Addr} {fd dS dO : FuncData} (F : Fun K "sign_at" "sign_at" sSignAt f fd) (GS : FnOk P w K mg base CX0 1 fS dS ["number", "prime"] spSplit) (mS : mg "split_power" = some (.ref fS)) (kS : PySem.W.keepIn K (.ref fS) = true) (bS : Binds K dS ["number", "prime"] [])
    (GO : FnOk P w K mg base CX0 3 fO dO ["number", "prime"] spOdd) (mO : mg "odd_for" = some (.ref fO)) (kO : PySem.W.keepIn K (.ref fO) = true) (bO : Binds K dO ["number", "prime"] []) : FnOk P w K mg base CX0 4 f fd ["number", "other", "place"] spSignAt := by
  refine F.ok scSignAt (fun vs H Q E h => ?_) (fun cdv A outer s H vs Q E hr h => ?_)
  · obtain ⟨a, b, p, rfl, _⟩ := h
    rfl
  · obtain ⟨a, b, p, rfl, a0, b0, am, bm, hc⟩ := h
    have nd := scSignAt.nd
    -- the last statement
    obtain ⟨tR, hR, qR⟩ : ∃ t, PSs (cxOf CX0 P w K mg base ["number", "other", "place", "power", "left", "other_power", "right", "odd"] "sign_at" (defScope sSignAt) f cdv A outer s H E).nox ((defBody sSignAt).drop 4) t ∧
        ∀ (z : Int) (x0 x1 x2 x3 x4 x5 x6 : Option V) H1, Q (.int (if z % 2 = 1 then -1 else 1)) H1 → t { nx := fun _ H' => Q .non H', rt := Q } [x0, x1, x2, x3, x4, x5, x6, some (.int z)] H1 := by
      refine ⟨_, pss_one (ps_ret (pe_ifExp (pt_cmpR op_eq (pe_op op_mod (pv 7) pe_int) pe_int (nomark _)) (pe_un un_neg pe_int) pe_int)), ?_⟩
      intro z x0 x1 x2 x3 x4 x5 x6 H1 q1
      refine ⟨.int z, rfl, z, 2, rfl, rfl, (by show (0 : Int) < 2; decide), rfl, _, rfl, ite2 (fun y => ⟨1, rfl, ?_⟩) (fun y => ?_)⟩
      · have e : z % 2 = 1 := V.int.inj (of_decide_eq_true y)
        rw [if_pos e] at q1
        exact q1
      · have e : ¬ z % 2 = 1 := fun h => y (decide_eq_true (congrArg V.int h))
        rw [if_neg e] at q1
        exact q1
    refine ⟨_, pss_cons (ps_if (pt_cmpR op_eq (pv 2) pe_int (nomark _)) (pss_one (ps_ret (pe_ifExp (PW.pt (pw_and (pt_cmpR op_lt (pv 0) pe_int (nomark _)) (pw_and1 (pt_cmpR op_lt (pv 1) pe_int (nomark _))))) (pe_un un_neg pe_int) pe_int))) pss_nil)
      (pss_cons (ps_asg (pe_call GS (hr.mono (by decide)) (by rfl) mS kS bS .nil pass0 (pa_cons (pv 0) (pa_cons (pv 2) pa_nil))) (pg_tup rfl (pgs_cons (pg_name (i := 3) nd rfl (.inl rfl)) (pgs_cons (pg_name (i := 4) nd rfl (.inl rfl)) pgs_nil))))
      (pss_cons (ps_asg (pe_call GS (hr.mono (by decide)) (by rfl) mS kS bS .nil pass0 (pa_cons (pv 1) (pa_cons (pv 2) pa_nil))) (pg_tup rfl (pgs_cons (pg_name (i := 5) nd rfl (.inl rfl)) (pgs_cons (pg_name (i := 6) nd rfl (.inl rfl)) pgs_nil))))
      (pss_cons (ps_if (pt_cmpR op_eq (pv 2) pe_int (nomark _))
        (pss_one (ps_set (i := 7) nd rfl (.inl rfl) (pe_op op_add (pe_op op_add (pe_op op_mul (pe_op op_fdiv (pv 4) pe_int) (pe_op op_fdiv (pv 6) pe_int)) (pe_op op_mul (pv 3) (pe_op op_fdiv (pe_op op_mul (pv 6) (pv 6)) pe_int))) (pe_op op_mul (pv 5) (pe_op op_fdiv (pe_op op_mul (pv 4) (pv 4)) pe_int)))))
        (pss_cons (ps_set (i := 7) nd rfl (.inl rfl) (pe_op op_mul (pe_op op_mul (pv 3) (pv 5)) (pe_op op_fdiv (pv 2) pe_int)))
        (pss_one (ps_set (i := 7) nd rfl (.inl rfl) (pe_op op_add (pe_op op_add (pv 7) (pe_op op_mul (pv 5) (pe_call GO hr (by rfl) mO kO bO .nil pass0 (pa_cons (pv 4) (pa_cons (pv 2) pa_nil))))) (pe_op op_mul (pv 3) (pe_call GO hr (by rfl) mO kO bO .nil pass0 (pa_cons (pv 6) (pa_cons (pv 2) pa_nil)))))))))
      hR))), ?_⟩
    refine ⟨.int p, rfl, rfl, _, rfl, ite2 (fun z => ?_) (fun z => ?_)⟩
    · have e : p = 0 := V.int.inj (of_decide_eq_true z)
      rcases hc with ⟨_, q⟩ | ⟨h2, _⟩
      · unfold sg0 at q
        refine ⟨.int a, rfl, a, 0, rfl, rfl, _, rfl, ite2 (fun y => ?_) (fun y => ?_)⟩
        · have ha : a < 0 := of_decide_eq_true y
          refine ⟨.int b, rfl, b, 0, rfl, rfl, _, rfl, ite2 (fun y => ⟨1, rfl, ?_⟩) (fun y => ?_)⟩
          · rw [if_pos ⟨ha, of_decide_eq_true y⟩] at q
            exact q
          · rw [if_neg (fun h => y (decide_eq_true h.2))] at q
            exact q
        · rw [if_neg (fun h => y (decide_eq_true h.1))] at q
          exact iteF q
      · omega
    · have e : p ≠ 0 := fun y => z (decide_eq_true (congrArg V.int y))
      rcases hc with ⟨y, _⟩ | ⟨p2, pb, k, u, l, v, sa, sb, q⟩
      · exact absurd y e
      · obtain ⟨k1, u1⟩ := pow_big' p2 sa a0
        obtain ⟨l1, v1⟩ := pow_big' p2 sb b0
        refine ⟨.int a, rfl, .int p, rfl, a, p, k, u, rfl, p2, pb, a0, sa, fun t nt => ?_⟩
        have s1 := same_new (o := .tup [.int k, .int u]) nt
        refine ⟨t, _, rfl, .inl (.inl upd_same), rfl, _, _, rfl, _, _, rfl, rfl, ?_⟩
        refine ⟨.int b, rfl, .int p, rfl, b, p, l, v, rfl, p2, pb, b0, sb, fun t2 nt2 => ?_⟩
        have s2 := s1.trans (same_new (o := .tup [.int l, .int v]) nt2)
        refine ⟨t2, _, rfl, .inl (.inl upd_same), rfl, _, _, rfl, _, _, rfl, rfl, ?_⟩
        refine ⟨.int p, rfl, rfl, _, rfl, ite2 (fun y => ?_) (fun y => ?_)⟩
        · have p2 : p = 2 := V.int.inj (of_decide_eq_true y)
          refine ⟨.int u, rfl, u, 2, rfl, rfl, ⟨by decide, by decide⟩, .int v, rfl, v, 2, rfl, rfl, ⟨by decide, by decide⟩, u / 2, v / 2, rfl, rfl, .inl ⟨by omega, by omega⟩, ?_⟩
          refine ⟨.int k, rfl, .int v, rfl, .int v, rfl, v, v, rfl, rfl, .inl ⟨by omega, by omega⟩, _, 8, rfl, rfl, ⟨by decide, by decide⟩, k, _, rfl, rfl, .inl ⟨by omega, by omega⟩, _, _, rfl, rfl, ?_⟩
          refine ⟨.int l, rfl, .int u, rfl, .int u, rfl, u, u, rfl, rfl, .inl ⟨by omega, by omega⟩, _, 8, rfl, rfl, ⟨by decide, by decide⟩, l, _, rfl, rfl, .inl ⟨by omega, by omega⟩, _, _, rfl, rfl, ?_⟩
          refine qR _ _ _ _ _ _ _ _ _ ?_
          refine to (q _ s2) (congrArg V.int ?_)
          unfold sg sgZ
          rw [if_pos p2]
        · have p2' : p ≠ 2 := fun z => y (decide_eq_true (congrArg V.int z))
          refine ⟨.int k, rfl, .int l, rfl, k, l, rfl, rfl, .inl ⟨by omega, by omega⟩, .int p, rfl, p, 2, rfl, rfl, ⟨by decide, by decide⟩, _, p / 2, rfl, rfl, .inr ⟨by omega, by omega⟩, ?_⟩
          refine ⟨.int (k * l * (p / 2)), rfl, .int l, rfl, .int u, rfl, .int p, rfl, u, p, rfl, p2, pb, l, _, rfl, rfl, .inl ⟨by omega, by omega⟩, _, _, rfl, rfl, ?_⟩
          refine ⟨.int k, rfl, .int v, rfl, .int p, rfl, v, p, rfl, p2, pb, k, _, rfl, rfl, .inl ⟨by omega, by omega⟩, _, _, rfl, rfl, ?_⟩
          refine qR _ _ _ _ _ _ _ _ _ ?_
          refine to (q _ s2) (congrArg V.int ?_)
          unfold sg sgZ
          rw [if_neg p2']
def spSign : Sp := fun vs H Q _ => ∃ a b p : Int, vs = [.int a, .int b, .int p] ∧ a ≠ 0 ∧ b ≠ 0 ∧ a.natAbs ≤ 1000000000 ∧ b.natAbs ≤ 1000000000 ∧
  ((p = 0 ∧ ∀ H', Same H H' → Q (.int (sg0 a b)) H') ∨ (PrimeOk p ∧ p < 1073741824 ∧ ∃ k u l v, Spl p a k u ∧ Spl p b l v ∧ ∀ H', Same H H' → Q (.int (sg p k u l v)) H'))
theorem ok_sign {f fO fP fA : Addr} {fd dO dP dA : FuncData} {t : Tok} (F : Fun K "sign" "sign" sSign f fd) (GO : FnOk P w K mg base CX0 4 fO dO ["number", "size"] spOther) (mO : mg "check_other_than_nought" = some (.ref fO)) (kO : PySem.W.keepIn K (.ref fO) = true) (bO : Binds K dO ["number", "size"] [])
    (GP : FnOk P w K mg base CX0 5 fP dP ["place"] spPlace) (mP : mg "require_place" = some (.ref fP)) (kP : PySem.W.keepIn K (.ref fP) = true) (bP : Binds K dP ["place"] [])
    (GA : FnOk P w K mg base CX0 4 fA dA ["number", "other", "place"] spSignAt) (mA : mg "sign_at" = some (.ref fA)) (kA : PySem.W.keepIn K (.ref fA) = true) (bA : Binds K dA ["number", "other", "place"] []) (mM : mg "MOST_OPERAND" = some (.int (10 ^ 9) t)) : FnOk P w K mg base CX0 6 f fd ["number", "other", "place"] spSign := by
  refine F.ok scSign (fun vs H Q E h => ?_) (fun cdv A outer s H vs Q E hr h => ?_)
  · obtain ⟨a, b, p, rfl, _⟩ := h
    rfl
  · obtain ⟨a, b, p, rfl, a0, b0, am, bm, hc⟩ := h
    refine ⟨_, pss_cons (ps_expr (pe_call GO (hr.mono (by decide)) (by rfl) mO kO bO .nil pass0 (pa_cons (pv 0) (pa_cons (pe_glob (v := .int (10 ^ 9)) (by rfl) mM ⟨_, rfl⟩) pa_nil))))
      (pss_cons (ps_expr (pe_call GO (hr.mono (by decide)) (by rfl) mO kO bO .nil pass0 (pa_cons (pv 1) (pa_cons (pe_glob (v := .int (10 ^ 9)) (by rfl) mM ⟨_, rfl⟩) pa_nil))))
      (pss_cons (ps_expr (pe_call GP hr (by rfl) mP kP bP .nil pass0 (pa_cons (pv 2) pa_nil)))
      (pss_one (ps_ret (pe_call GA (hr.mono (by decide)) (by rfl) mA kA bA .nil pass0 (pa_cons (pv 0) (pa_cons (pv 1) (pa_cons (pv 2) pa_nil)))))))), ?_⟩
    refine ⟨.int a, rfl, a, 10 ^ 9, rfl, by omega, by omega, a0, .int b, rfl, b, 10 ^ 9, rfl, by omega, by omega, b0, ?_⟩
    refine ⟨.int p, rfl, p, rfl, ?_, fun H1 s1 => ?_⟩
    · rcases hc with ⟨z, _⟩ | ⟨z, _⟩
      · exact .inl z
      · exact .inr z
    · refine ⟨.int a, rfl, .int b, rfl, .int p, rfl, a, b, p, rfl, a0, b0, am, bm, ?_⟩
      rcases hc with ⟨z, q⟩ | ⟨z, pb, k, u, l, v, sa, sb, q⟩
      · exact .inl ⟨z, q _ s1⟩
      · exact .inr ⟨z.two, pb, k, u, l, v, sa, sb, fun H' s2 => q _ (s1.trans s2)⟩
end
end K27

namespace K27
open PySem PySem.Spec PyProof.Rows L2 NT
abbrev sRs : Stmt := topS 32
abbrev sSym : Stmt := topS 33
abbrev sPd : Stmt := topS 11
abbrev sOp : Stmt := topS 24
abbrev sPof : Stmt := topS 34
abbrev sBig : Stmt := topS 35
abbrev sRight : Stmt := topS 36
abbrev sLaw : Stmt := topS 37
theorem scRs : FnScope ["_law_u", "_law_p", "_law_found", "_law_base", "_law_left", "_law_turn"] ["_law_u", "_law_p"] (defScope sRs) := ⟨rfl, rfl, rfl, by decide +kernel, rfl, by decide +kernel, by decide +kernel⟩
theorem scSym : FnScope ["_law_a", "_law_b", "_law_p", "_law_i", "_law_u", "_law_j", "_law_v", "_law_odd", "_law_found", "_law_often", "_law_left"] ["_law_a", "_law_b", "_law_p"] (defScope sSym) := ⟨rfl, rfl, rfl, by decide +kernel, rfl, by decide +kernel, by decide +kernel⟩
theorem scPd : FnScope ["number", "rest", "primes", "prime"] ["number"] (defScope sPd) := ⟨rfl, rfl, rfl, by decide +kernel, rfl, by decide +kernel, by decide +kernel⟩
theorem scOp : FnScope ["number", "other", "places", "place"] ["number", "other"] (defScope sOp) := ⟨rfl, rfl, rfl, by decide +kernel, rfl, by decide +kernel, by decide +kernel⟩
theorem scPof : FnScope ["_law_n", "_law_found", "_law_left", "_law_p", "_law_turn"] ["_law_n"] (defScope sPof) := ⟨rfl, rfl, rfl, by decide +kernel, rfl, by decide +kernel, by decide +kernel⟩
theorem scBig : FnScope ["_law_chest_here", "_law_small", "_law_rich_one", "_law_found"] ["_law_chest_here"] (defScope sBig) := ⟨rfl, rfl, rfl, by decide +kernel, rfl, by decide +kernel, by decide +kernel⟩
theorem scRight : FnScope ["_law_chest_here", "_law_lap", "_law_a", "_law_b", "_law_c", "_law_places_here", "_law_p", "_law_due", "_law_told", "_law_odd", "_law_great"] ["_law_chest_here"] (defScope sRight) := ⟨rfl, rfl, rfl, by decide +kernel, rfl, by decide +kernel, by decide +kernel⟩
theorem scLaw : FnScope ["_law_script", "_law_at"] ["_law_script"] (defScope sLaw) := ⟨rfl, rfl, rfl, by decide +kernel, rfl, by decide +kernel, by decide +kernel⟩
section
variable {P : Program} {w : World} {K : PySem.W.Frag} {mg : Str → Option Value} {base : Heap}
/-! ### rest_sign -/
def spRs : Sp := fun vs H Q _ => ∃ u p : Int, vs = [.int u, .int p] ∧ 2 < p ∧ p < 1073741824 ∧ Q (.int (rs p u)) H
theorem ok_rs {f : Addr} {fd : FuncData} (F : Fun K "_law_rest_sign" "_law_rest_sign" sRs f fd) (mi : mg "int" = none) (mr : mg "range" = none) : FnOk P w K mg base CX0 1 f fd ["_law_u", "_law_p"] spRs := by
  refine F.ok scRs (fun vs H Q E h => ?_) (fun cdv A outer s H vs Q E hr h => ?_)
  · obtain ⟨u, p, rfl, _⟩ := h
    rfl
  · obtain ⟨u, p, rfl, p2, pb, q⟩ := h
    have nd := scRs.nd
    refine ⟨_, pss_cons (ps_par3 (i := 2) (j := 3) (l := 4) rfl nd rfl rfl rfl (by decide) (by decide) (by decide) rfl rfl rfl (pa_cons pe_int (pa_cons (pe_op op_mod (pe_callTy call_int1 (by rfl) mi boot_int (pa_cons (pv 0) pa_nil)) (pv 1)) (pa_cons (pe_op op_fdiv (pe_op op_sub (pv 1) pe_int) pe_int) pa_nil))) (by rfl))
      (pss_cons (ps_for PassesOwn.never rfl (pi_range1 rfl mr (pa_cons pe_int pa_nil)) (pg_name (i := 5) nd rfl (.inl rfl))
        (pss_cons (ps_if (pt_cmpR op_eq (pv 4) pe_int (nomark _)) (pss_one ps_break) pss_nil)
        (pss_cons (ps_if (pt_cmpR op_eq (pe_op op_mod (pe_callTy call_int1 (by rfl) mi boot_int (pa_cons (pv 4) pa_nil)) pe_int) pe_int (nomark _)) (pss_one (ps_set (i := 2) nd rfl (.inl rfl) (pe_op op_mod (pe_callTy call_int1 (by rfl) mi boot_int (pa_cons (pe_op op_mul (pv 2) (pv 3)) pa_nil)) (pv 1)))) pss_nil)
        (pss_one (ps_par (i := 3) (j := 4) rfl nd rfl rfl (by decide) rfl rfl (pa_cons (pe_op op_mod (pe_callTy call_int1 (by rfl) mi boot_int (pa_cons (pe_op op_mul (pv 3) (pv 3)) pa_nil)) (pv 1)) (pa_cons (pe_op op_fdiv (pv 4) pe_int) pa_nil)) (by rfl))))))
      (pss_one (ps_ret (pe_ifExp (pt_cmpR op_eq (pv 2) pe_int (nomark _)) pe_int (pe_un un_neg pe_int))))), ?_⟩
    have p0 : 0 < p := by omega
    have fin : ∀ (r : Int) (x0 x1 x3 x4 x5 : Option V), r % p = r → r % p = u ^ ((p - 1) / 2).toNat % p → tRet (tIf (tTest (tOp rEq (tVar 2) (tC (.int 1)))) (tC (.int 1)) (tUn (rU fun i => .int (-i)) (tC (.int 1)))) { nx := fun _ H' => Q .non H', rt := Q } [x0, x1, some (.int r), x3, x4, x5] H := by
      intro r x0 x1 x3 x4 x5 h1 h2
      refine ⟨.int r, rfl, rfl, _, rfl, ite2 (fun z => ?_) (fun z => ⟨1, rfl, ?_⟩)⟩
      · have e : r = 1 := V.int.inj (of_decide_eq_true z)
        refine to q (congrArg V.int ?_)
        unfold rs
        rw [if_pos (by rw [← h2, h1, e])]
      · have e : ¬ r = 1 := fun y => z (decide_eq_true (congrArg V.int y))
        refine to q (congrArg V.int ?_)
        unfold rs
        rw [if_neg (by rw [← h2, h1]; exact e)]
    refine ⟨.int u, rfl, .inl ⟨u, rfl, .int p, rfl, u, p, rfl, rfl, p0, .int p, rfl, p, 1, rfl, rfl, p - 1, 2, rfl, rfl, ⟨by decide, by decide⟩, _, _, _, rfl, ?_⟩⟩
    refine ⟨80, rfl, by decide, by decide, for_range (n := ((80 : Int).toNat)) (fun i σ H' => H' = H ∧ ∃ (r b e : Int) (x : Option V), σ = [some (.int u), some (.int p), some (.int r), some (.int b), some (.int e), x] ∧ 0 ≤ e ∧ e * 2 ^ i < 1073741824 ∧ 0 ≤ r ∧ r < p ∧ 0 ≤ b ∧ b < p ∧ (r * b ^ e.toNat) % p = u ^ ((p - 1) / 2).toNat % p)
      ⟨rfl, 1, u % p, (p - 1) / 2, none, rfl, by omega, by omega, by decide, by omega, Int.emod_nonneg _ (by omega), Int.emod_lt_of_pos _ p0, ?_⟩ ?_ ?_⟩
    · rw [Int.one_mul, ← ipow_emod]
    · rintro i σ H0 hi ⟨rfl, r, b, e, x, rfl, e0, e1, r0, r1, b0, b1, hp⟩
      refine ⟨.int e, rfl, rfl, _, rfl, ite2 (fun z => ?_) (fun z => ?_)⟩
      · have ez : e = 0 := V.int.inj (of_decide_eq_true z)
        subst ez
        refine fin r _ _ _ _ _ (Int.emod_eq_of_lt r0 r1) ?_
        rw [← hp]
        show r % p = r * b ^ 0 % p
        rw [Int.pow_zero, Int.mul_one]
      · have ez : e ≠ 0 := fun y => z (decide_eq_true (congrArg V.int y))
        have turn := pow_turn r b e p (by omega)
        have e2 : e / 2 * 2 ^ (i + 1) < 1073741824 := by
          have : e / 2 * 2 ^ (i + 1) ≤ e * 2 ^ i := by
            rw [Int.pow_succ, Int.mul_comm ((2 : Int) ^ i) 2, ← Int.mul_assoc]
            exact Int.mul_le_mul_of_nonneg_right (by omega) (Int.pow_nonneg (by decide))
          omega
        have bb : -(2 ^ 64) < b ∧ b < 2 ^ 64 := ⟨by omega, by omega⟩
        have sq : 0 ≤ b * b % p ∧ b * b % p < p := ⟨Int.emod_nonneg _ (by omega), Int.emod_lt_of_pos _ p0⟩
        refine ⟨.int e, rfl, .inl ⟨e, rfl, e, 2, rfl, rfl, (by show (0 : Int) < 2; decide), rfl, _, rfl, ite2 (fun z2 => ?_) (fun z2 => ?_)⟩⟩
        · have eo : e % 2 = 1 := V.int.inj (of_decide_eq_true z2)
          rw [if_pos eo] at turn
          refine ⟨.int r, rfl, .int b, rfl, r, b, rfl, rfl, .inr bb, .inl ⟨_, rfl, .int p, rfl, _, p, rfl, rfl, p0, ?_⟩⟩
          refine ⟨.int b, rfl, .int b, rfl, b, b, rfl, rfl, .inl bb, .inl ⟨_, rfl, .int p, rfl, _, p, rfl, rfl, p0, .int e, rfl, e, 2, rfl, rfl, ⟨by decide, by decide⟩, _, _, rfl, rfl, r * b % p, b * b % p, e / 2, some (.int (0 + (i : Int))), rfl, by omega, e2, Int.emod_nonneg _ (by omega), Int.emod_lt_of_pos _ p0, sq.1, sq.2, turn.trans hp⟩⟩
        · have eo : ¬ e % 2 = 1 := fun y => z2 (decide_eq_true (congrArg V.int y))
          rw [if_neg eo] at turn
          refine ⟨.int b, rfl, .int b, rfl, b, b, rfl, rfl, .inl bb, .inl ⟨_, rfl, .int p, rfl, _, p, rfl, rfl, p0, .int e, rfl, e, 2, rfl, rfl, ⟨by decide, by decide⟩, _, _, rfl, rfl, r, b * b % p, e / 2, some (.int (0 + (i : Int))), rfl, by omega, e2, r0, r1, sq.1, sq.2, turn.trans hp⟩⟩
    · rintro σ H0 ⟨rfl, r, b, e, x, rfl, e0, e1, r0, r1, b0, b1, hp⟩
      have ez : e = 0 := by
        have e80 : (((80 : Int).toNat : Nat)) = 80 := rfl
        rw [e80] at e1
        have : (2 : Int) ^ 80 = 1208925819614629174706176 := by decide +kernel
        rw [this] at e1
        omega
      subst ez
      refine fin r _ _ _ _ _ (Int.emod_eq_of_lt r0 r1) ?_
      rw [← hp]
      show r % p = r * b ^ 0 % p
      rw [Int.pow_zero, Int.mul_one]
end
end K27

namespace K27
open PySem PySem.Spec PyProof.Rows L2 NT
theorem ne_new {c l : Addr} {H : Hp} {B : Nat} (h : ChB H c B) (n : H l = none) : l ≠ c := by
  obtain ⟨_, _, _, e, _⟩ := h
  intro z
  rw [z, e] at n
  cases n
theorem rs_small (p x : Int) : -(2 ^ 64) < rs p x ∧ rs p x < 2 ^ 64 := by
  unfold rs
  split <;> exact ⟨by decide, by decide⟩
theorem symM_small (p : Int) (k : Nat) (u : Int) (l : Nat) (v : Int) : -(2 ^ 64) < symM p k u l v ∧ symM p k u l v < 2 ^ 64 := by
  have h : ∀ x, rs p x = 1 ∨ rs p x = -1 := fun x => by unfold rs; split <;> simp
  unfold symM
  rcases h (-1) with e1 | e1 <;> rcases h u with e2 | e2 <;> rcases h v with e3 | e3 <;> rw [e1, e2, e3] <;> (repeat' split) <;> exact ⟨by decide, by decide⟩
def gf1 (p : Int) (k l : Nat) : Int := if ((k : Int) * l) % 2 = 1 then 1 * rs p (-1) else 1
def gf2 (p : Int) (k : Nat) (u : Int) (l : Nat) : Int := if (l : Int) % 2 = 1 then gf1 p k l * rs p u else gf1 p k l
def gf3 (p : Int) (k : Nat) (u : Int) (l : Nat) (v : Int) : Int := if (k : Int) % 2 = 1 then gf2 p k u l * rs p v else gf2 p k u l
theorem symM_eq (p : Int) (k : Nat) (u : Int) (l : Nat) (v : Int) : symM p k u l v = gf3 p k u l v := by
  have e1 : ((k * l) % 2 = 1) = (((k : Int) * l) % 2 = 1) := propext (by rw [← Int.natCast_mul]; omega)
  have e2 : (l % 2 = 1) = ((l : Int) % 2 = 1) := propext (by omega)
  have e3 : (k % 2 = 1) = ((k : Int) % 2 = 1) := propext (by omega)
  unfold symM gf3 gf2 gf1
  simp only [e1, e2, e3]
section
variable {P : Program} {w : World} {K : PySem.W.Frag} {mg : Str → Option Value} {base : Heap}
/-! ### symbol -/
theorem splH {p : Nat} (hp : Prime p) {a : Int} {k : Nat} {u : Int} (h : Spl p a k u) : Spl (p : Int) a k u := h
def spSym : Sp := fun vs H Q _ => ∃ (a b : Int) (p : Nat), vs = [.int a, .int b, .int p] ∧ place p ∧ p < 1073741824 ∧ a ≠ 0 ∧ b ≠ 0 ∧ a.natAbs ≤ 1000000000 ∧ b.natAbs ≤ 1000000000 ∧ ∀ H', Same H H' → Q (.int (hs p a b)) H'
theorem ok_sym {f fS fR : Addr} {fd dS dR : FuncData} (F : Fun K "_law_symbol" "_law_symbol" sSym f fd) (GS : FnOk P w K mg base CX0 1 fS dS ["_law_n", "_law_p"] spSpl) (mS : mg "_law_split" = some (.ref fS)) (kS : PySem.W.keepIn K (.ref fS) = true) (bS : Binds K dS ["_law_n", "_law_p"] [])
    (GR : FnOk P w K mg base CX0 1 fR dR ["_law_u", "_law_p"] spRs) (mR : mg "_law_rest_sign" = some (.ref fR)) (kR : PySem.W.keepIn K (.ref fR) = true) (bR : Binds K dR ["_law_u", "_law_p"] []) (mi : mg "int" = none) : FnOk P w K mg base CX0 2 f fd ["_law_a", "_law_b", "_law_p"] spSym := by
  refine F.ok scSym (fun vs H Q E h => ?_) (fun cdv A outer s H vs Q E hr h => ?_)
  · obtain ⟨a, b, p, rfl, _⟩ := h
    rfl
  · obtain ⟨a, b, pn, rfl, hpl, pb, a0, b0, am, bm, q⟩ := h
    have nd := scSym.nd
    refine ⟨_, pss_cons (ps_if (pt_cmpR op_eq (pv 2) pe_int (nomark _)) (pss_one (ps_ret (pe_ifExp (PW.pt (pw_and (pt_cmpR op_lt (pv 0) pe_int (nomark _)) (pw_and1 (pt_cmpR op_lt (pv 1) pe_int (nomark _))))) (pe_un un_neg pe_int) pe_int))) pss_nil)
      (pss_cons (ps_asg (pe_call GS hr (by rfl) mS kS bS .nil pass0 (pa_cons (pv 0) (pa_cons (pv 2) pa_nil))) (pg_tup rfl (pgs_cons (pg_name (i := 3) nd rfl (.inl rfl)) (pgs_cons (pg_name (i := 4) nd rfl (.inl rfl)) pgs_nil))))
      (pss_cons (ps_asg (pe_call GS hr (by rfl) mS kS bS .nil pass0 (pa_cons (pv 1) (pa_cons (pv 2) pa_nil))) (pg_tup rfl (pgs_cons (pg_name (i := 5) nd rfl (.inl rfl)) (pgs_cons (pg_name (i := 6) nd rfl (.inl rfl)) pgs_nil))))
      (pss_cons (ps_if (pt_cmpR op_eq (pv 2) pe_int (nomark _))
        (pss_cons (ps_set (i := 7) nd rfl (.inl rfl) (pe_op op_mul (pe_op op_fdiv (pe_op op_sub (pv 4) pe_int) pe_int) (pe_op op_fdiv (pe_op op_sub (pv 6) pe_int) pe_int)))
        (pss_cons (ps_set (i := 7) nd rfl (.inl rfl) (pe_op op_add (pe_op op_add (pv 7) (pe_op op_mul (pv 3) (pe_op op_fdiv (pe_op op_sub (pe_op op_mul (pv 6) (pv 6)) pe_int) pe_int))) (pe_op op_mul (pv 5) (pe_op op_fdiv (pe_op op_sub (pe_op op_mul (pv 4) (pv 4)) pe_int) pe_int))))
        (pss_one (ps_ret (pe_ifExp (pt_cmpR op_eq (pe_op op_mod (pe_callTy call_int1 (by rfl) mi boot_int (pa_cons (pv 7) pa_nil)) pe_int) pe_int (nomark _)) pe_int (pe_un un_neg pe_int)))))) pss_nil)
      (pss_cons (ps_set (i := 8) nd rfl (.inl rfl) pe_int)
      (pss_cons (ps_for PassesOwn.never rfl (pi_list (pe_lst (pa_cons (pe_tup (pa_cons (pe_op op_mul (pv 3) (pv 5)) (pa_cons (pe_un un_neg pe_int) pa_nil))) (pa_cons (pe_tup (pa_cons (pv 5) (pa_cons (pv 4) pa_nil))) (pa_cons (pe_tup (pa_cons (pv 3) (pa_cons (pv 6) pa_nil))) pa_nil)))))
          (pg_tup rfl (pgs_cons (pg_name (i := 9) nd rfl (.inl rfl)) (pgs_cons (pg_name (i := 10) nd rfl (.inl rfl)) pgs_nil)))
        (pss_one (ps_if (pt_cmpR op_eq (pe_op op_mod (pe_callTy call_int1 (by rfl) mi boot_int (pa_cons (pv 9) pa_nil)) pe_int) pe_int (nomark _)) (pss_one (ps_set (i := 8) nd rfl (.inl rfl) (pe_op op_mul (pv 8) (pe_call GR hr (by rfl) mR kR bR .nil pass0 (pa_cons (pv 10) (pa_cons (pv 2) pa_nil)))))) pss_nil)))
      (pss_one (ps_ret (pv 8)))))))), ?_⟩
    refine ⟨.int pn, rfl, rfl, _, rfl, ite2 (fun z => ?_) (fun z => ?_)⟩
    · have e : pn = 0 := by have := V.int.inj (of_decide_eq_true z); omega
      subst e
      have q := q H (Same.refl _)
      rw [hs_zero] at q
      unfold sg0 at q
      refine ⟨.int a, rfl, a, 0, rfl, rfl, _, rfl, ite2 (fun y => ?_) (fun y => ?_)⟩
      · have ha : a < 0 := of_decide_eq_true y
        refine ⟨.int b, rfl, b, 0, rfl, rfl, _, rfl, ite2 (fun y => ⟨1, rfl, ?_⟩) (fun y => ?_)⟩
        · rw [if_pos ⟨ha, of_decide_eq_true y⟩] at q
          exact q
        · rw [if_neg (fun h => y (decide_eq_true h.2))] at q
          exact q
      · rw [if_neg (fun h => y (decide_eq_true h.1))] at q
        exact iteF q
    have pn0 : pn ≠ 0 := fun y => z (decide_eq_true (by rw [y]; rfl))
    have hp : Prime pn := by rcases hpl with h | h; exact absurd h pn0; exact h
    obtain ⟨k, u, sa⟩ := spl_ex hp a0
    obtain ⟨l, v, sb⟩ := spl_ex hp b0
    rw [hs_eq hp sa sb] at q
    have pn2 := hp.1
    obtain ⟨p, hpe⟩ : ∃ p : Int, p = pn := ⟨_, rfl⟩
    rw [← hpe] at sa sb q ⊢
    obtain ⟨k1, u1⟩ := pow_big' (by omega) sa a0
    obtain ⟨l1, v1⟩ := pow_big' (by omega) sb b0
    have pb : p < 1073741824 := by omega
    refine ⟨.int a, rfl, .int p, rfl, a, p, k, u, rfl, by omega, pb, a0, by omega, sa, fun t nt => ?_⟩
    have s1 := same_new (o := .tup [.int k, .int u]) nt
    refine ⟨t, _, rfl, .inl (.inl upd_same), rfl, _, _, rfl, _, _, rfl, rfl, ?_⟩
    refine ⟨.int b, rfl, .int p, rfl, b, p, l, v, rfl, by omega, pb, b0, by omega, sb, fun t2 nt2 => ?_⟩
    have s2 := s1.trans (same_new (o := .tup [.int l, .int v]) nt2)
    refine ⟨t2, _, rfl, .inl (.inl upd_same), rfl, _, _, rfl, _, _, rfl, rfl, ?_⟩
    refine ⟨.int p, rfl, rfl, _, rfl, ite2 (fun y => ?_) (fun y => ?_)⟩
    · have e2 : p = 2 := V.int.inj (of_decide_eq_true y)
      refine ⟨.int u, rfl, u, 1, rfl, rfl, _, 2, rfl, rfl, ⟨by decide, by decide⟩, .int v, rfl, v, 1, rfl, rfl, _, 2, rfl, rfl, ⟨by decide, by decide⟩, _, _, rfl, rfl, .inl ⟨by omega, by omega⟩, ?_⟩
      refine ⟨_, rfl, .int k, rfl, .int v, rfl, .int v, rfl, v, v, rfl, rfl, .inl ⟨by omega, by omega⟩, _, 1, rfl, rfl, _, 8, rfl, rfl, ⟨by decide, by decide⟩, k, _, rfl, rfl, .inl ⟨by omega, by omega⟩, _, _, rfl, rfl, ?_⟩
      refine ⟨.int l, rfl, .int u, rfl, .int u, rfl, u, u, rfl, rfl, .inl ⟨by omega, by omega⟩, _, 1, rfl, rfl, _, 8, rfl, rfl, ⟨by decide, by decide⟩, l, _, rfl, rfl, .inl ⟨by omega, by omega⟩, _, _, rfl, rfl, ?_⟩
      have f := sym2_sg (k := k) (l := l) (u := u) (v := v) (by rw [← e2]; exact sa.nd) (by rw [← e2]; exact sb.nd)
      rw [e2, ← f] at q
      refine ⟨_, rfl, .inl ⟨_, rfl, _, 2, rfl, rfl, (by show (0 : Int) < 2; decide), rfl, _, rfl, ite2 (fun y => ?_) (fun y => ⟨1, rfl, ?_⟩)⟩⟩
      · rw [if_pos (V.int.inj (of_decide_eq_true y))] at q
        exact q _ s2
      · rw [if_neg (fun h => y (decide_eq_true (congrArg V.int h)))] at q
        exact q _ s2
    have p2' : p ≠ 2 := fun z => y (decide_eq_true (congrArg V.int z))
    have p2 : 2 < p := by omega
    have po : pn % 2 = 1 := by rcases place_two hp with h | h; omega; exact h
    rw [← (by rw [hpe] at sa sb ⊢; exact symM_sg hp po sa.nd sb.nd : symM p k u l v = sg p k u l v)] at q
    -- the list of pairs
    have h2 : 2 ≤ sizeLine := by decide
    refine ⟨.int k, rfl, .int l, rfl, k, l, rfl, rfl, .inl ⟨by omega, by omega⟩, 1, rfl, h2, fun t3 n3 => ?_⟩
    refine ⟨.int l, rfl, .int u, rfl, h2, fun t4 n4 => ⟨.int k, rfl, .int v, rfl, h2, fun t5 n5 => ⟨(by show 3 ≤ sizeLine; decide), fun L nL => ?_⟩⟩⟩
    have s3 := s2.trans (same_new (o := .tup [.int ((k : Int) * l), .int (-1)]) n3)
    have s4 := s3.trans (same_new (o := .tup [.int l, .int u]) n4)
    have s5 := s4.trans (same_new (o := .tup [.int k, .int v]) n5)
    have s6 := s5.trans (same_new (o := .lst [.ref t3, .ref t4, .ref t5]) nL)
    have g5 := upd_same (H := (upd (upd (upd (upd H t (.tup [.int k, .int u])) t2 (.tup [.int l, .int v])) t3 (.tup [.int ((k : Int) * l), .int (-1)])) t4 (.tup [.int l, .int u]))) (a := t5) (o := .tup [.int k, .int v])
    have g4 := same_new (o := .tup [.int k, .int v]) n5 _ _ (upd_same (H := (upd (upd (upd H t (.tup [.int k, .int u])) t2 (.tup [.int l, .int v])) t3 (.tup [.int ((k : Int) * l), .int (-1)]))) (a := t4) (o := .tup [.int l, .int u]))
    have g3 := same_new (o := .tup [.int k, .int v]) n5 _ _ (same_new (o := .tup [.int l, .int u]) n4 _ _ (upd_same (H := (upd (upd H t (.tup [.int k, .int u])) t2 (.tup [.int l, .int v]))) (a := t3) (o := .tup [.int ((k : Int) * l), .int (-1)])))
    have up := same_new (o := .lst [.ref t3, .ref t4, .ref t5]) nL
    generalize hHx : upd (upd (upd (upd (upd (upd H t (.tup [.int k, .int u])) t2 (.tup [.int l, .int v])) t3 (.tup [.int ((k : Int) * l), .int (-1)])) t4 (.tup [.int l, .int u])) t5 (.tup [.int k, .int v])) L (.lst [.ref t3, .ref t4, .ref t5]) = Hx at *
    have gL : Hx L = some (.lst [.ref t3, .ref t4, .ref t5]) := by rw [← hHx]; exact upd_same
    have G3 : Hx t3 = some (.tup [.int ((k : Int) * l), .int (-1)]) := up _ _ g3
    have G4 : Hx t4 = some (.tup [.int l, .int u]) := up _ _ g4
    have G5 : Hx t5 = some (.tup [.int k, .int v]) := up _ _ g5
    let Fn : Nat → Int := fun n => match n with
      | 0 => 1
      | 1 => gf1 p k l
      | 2 => gf2 p k u l
      | _ => gf3 p k u l v
    have item : ∀ (n : Nat) x, ([.ref t3, .ref t4, .ref t5] : List V)[n]? = some x → ∃ (tt : Addr) (o y : Int), x = .ref tt ∧ Hx tt = some (.tup [.int o, .int y]) ∧ Fn (n + 1) = if o % 2 = 1 then Fn n * rs p y else Fn n := by
      intro n x hx
      match n, hx with
      | 0, hx => exact ⟨t3, _, _, (Option.some.inj hx).symm, G3, rfl⟩
      | 1, hx => exact ⟨t4, _, _, (Option.some.inj hx).symm, G4, rfl⟩
      | 2, hx => exact ⟨t5, _, _, (Option.some.inj hx).symm, G5, rfl⟩
      | n + 3, hx => simp at hx
    refine ⟨L, rfl, ⟨_, .inl (.inl gL)⟩, for_list (xs := [.ref t3, .ref t4, .ref t5]) (fun n σ H' => H' = Hx ∧ ∃ x9 x10, σ = [some (.int a), some (.int b), some (.int p), some (.int k), some (.int u), some (.int l), some (.int v), none, some (.int (Fn n)), x9, x10])
      ⟨rfl, none, none, rfl⟩ (fun _ _ H' _ z => by rw [z.1]; exact .inl (.inl gL)) ?_ ?_⟩
    · rintro n x σ H' hx ⟨rfl, x9, x10, rfl⟩
      obtain ⟨tt, o, y, rfl, ht, hf⟩ := item n x hx
      refine ⟨tt, _, rfl, .inl (.inl ht), rfl, _, _, rfl, _, _, rfl, rfl, ?_⟩
      refine ⟨.int o, rfl, .inl ⟨o, rfl, o, 2, rfl, rfl, (by show (0 : Int) < 2; decide), rfl, _, rfl, ite2 (fun z => ?_) (fun z => ?_)⟩⟩
      · have e : o % 2 = 1 := V.int.inj (of_decide_eq_true z)
        rw [if_pos e] at hf
        refine ⟨.int (Fn n), rfl, .int y, rfl, .int p, rfl, y, p, rfl, p2, pb, Fn n, _, rfl, rfl, .inr (rs_small p y), rfl, some (.int o), some (.int y), ?_⟩
        rw [hf]
        rfl
      · have e : ¬ o % 2 = 1 := fun h => z (decide_eq_true (congrArg V.int h))
        rw [if_neg e] at hf
        refine ⟨rfl, some (.int o), some (.int y), ?_⟩
        rw [hf]
        rfl
    · rintro σ H' ⟨rfl, x9, x10, rfl⟩
      refine ⟨_, rfl, to (q _ s6) (congrArg V.int ?_)⟩
      exact symM_eq p k u l v
end
end K27

namespace NT
/-- on the way through the divisors d of N: r is left, ps are found -/
structure PD (N d r : Nat) (ps : List Nat) : Prop where
  r0 : 0 < r
  d2 : 2 ≤ d
  dvd : r ∣ N
  low : ∀ q, Prime q → q ∣ r → d ≤ q
  all : ∀ q, Prime q → q ∣ N → q ∈ ps ∨ q ∣ r
  own : ∀ q, q ∈ ps → Prime q ∧ q ∣ N
  len : 2 ^ ps.length * r ≤ N
theorem PD.start {N : Nat} (h : 0 < N) : PD N 2 N [] := ⟨h, Nat.le_refl _, Nat.dvd_refl _, fun q hq _ => hq.1, fun q _ h => .inr h, fun q h => absurd h List.not_mem_nil, by simp⟩
theorem PD.prime {N d r : Nat} {ps : List Nat} (h : PD N d r ps) (hd : d ∣ r) : Prime d := by
  obtain ⟨q, hq, hqd⟩ := has_prime d d (Nat.le_refl _) h.d2
  have h1 := h.low q hq (Nat.dvd_trans hqd hd)
  have h2 := Nat.le_of_dvd (by have := h.d2; omega) hqd
  have : q = d := by omega
  rw [← this]; exact hq
theorem prime_dvd_mul {p a b : Nat} (hp : Prime p) (h : p ∣ a * b) : p ∣ a ∨ p ∣ b := by
  by_cases ha : a % p = 0
  · exact .inl (Nat.dvd_of_mod_eq_zero ha)
  · by_cases hb : b % p = 0
    · exact .inr (Nat.dvd_of_mod_eq_zero hb)
    · exact absurd (Nat.mod_eq_zero_of_dvd h) (prime_mul hp ha hb)
theorem prime_dvd_pow {p d : Nat} (hp : Prime p) : ∀ k, p ∣ d ^ k → p ∣ d
  | 0, h => by
    rw [Nat.pow_zero] at h
    have := Nat.le_of_dvd (by decide) h
    have := hp.1
    omega
  | k + 1, h => by
    rw [Nat.pow_succ] at h
    rcases prime_dvd_mul hp h with h | h
    · exact prime_dvd_pow hp k h
    · exact h
theorem PD.len_step {N d r u k : Nat} {ps : List Nat} (h : PD N d r ps) (hk : 0 < k) (e : r = d ^ k * u) : 2 ^ (ps ++ [d]).length * u ≤ N := by
  have hl := h.len
  have d2 := h.d2
  have h1 : 2 ≤ d ^ k := by
    have : d ^ 1 ≤ d ^ k := Nat.pow_le_pow_right (by omega) hk
    rw [Nat.pow_one] at this
    omega
  have h2 : 2 * u ≤ d ^ k * u := Nat.mul_le_mul_right u h1
  rw [List.length_append, List.length_singleton, Nat.pow_succ, Nat.mul_assoc]
  exact Nat.le_trans (Nat.mul_le_mul_left _ (by omega)) hl
theorem PD.hit {N d r u k : Nat} {ps : List Nat} (h : PD N d r ps) (hk : 0 < k) (e : r = d ^ k * u) (hu : ¬ d ∣ u) : PD N (d + 1) u (ps ++ [d]) := by
  have hd : d ∣ r := by
    obtain ⟨k', rfl⟩ : ∃ k', k = k' + 1 := ⟨k - 1, by omega⟩
    rw [e, Nat.pow_succ, Nat.mul_comm (d ^ k') d, Nat.mul_assoc]
    exact Nat.dvd_mul_right _ _
  have pd := h.prime hd
  have ur : u ∣ r := by rw [e]; exact Nat.dvd_mul_left _ _
  refine ⟨?_, by have := h.d2; omega, Nat.dvd_trans ur h.dvd, fun q hq hqu => ?_, fun q hq hqn => ?_, fun q hqm => ?_, h.len_step hk e⟩
  · rcases Nat.eq_zero_or_pos u with z | z
    · rw [z, Nat.mul_zero] at e
      have := h.r0
      omega
    · exact z
  · have h1 := h.low q hq (Nat.dvd_trans hqu ur)
    have : q ≠ d := fun z => hu (z ▸ hqu)
    omega
  · rcases h.all q hq hqn with h1 | h1
    · exact .inl (List.mem_append.mpr (.inl h1))
    · rw [e] at h1
      rcases prime_dvd_mul hq h1 with h2 | h2
      · have h3 := prime_dvd_pow hq k h2
        rcases pd.2 q h3 with h4 | h4
        · have := hq.1; omega
        · exact .inl (by rw [h4]; simp)
      · exact .inr h2
  · rcases List.mem_append.mp hqm with h1 | h1
    · exact h.own q h1
    · rw [List.mem_singleton] at h1
      rw [h1]
      exact ⟨pd, Nat.dvd_trans hd h.dvd⟩
theorem PD.div {N d r : Nat} {ps : List Nat} (h : PD N d r ps) (hd : d ∣ r) : PD N d (r / d) (ps ++ [d]) := by
  have pd := h.prime hd
  have e : r = d ^ 1 * (r / d) := by rw [Nat.pow_one]; exact (Nat.mul_div_cancel' hd).symm
  have ur : r / d ∣ r := Nat.div_dvd_of_dvd hd
  refine ⟨?_, h.d2, Nat.dvd_trans ur h.dvd, fun q hq hqu => h.low q hq (Nat.dvd_trans hqu ur), fun q hq hqn => ?_, fun q hqm => ?_, h.len_step (by decide) e⟩
  · exact Nat.div_pos (Nat.le_of_dvd h.r0 hd) (by have := h.d2; omega)
  · rcases h.all q hq hqn with h1 | h1
    · exact .inl (List.mem_append.mpr (.inl h1))
    · rw [e, Nat.pow_one] at h1
      rcases prime_dvd_mul hq h1 with h2 | h2
      · rcases pd.2 q h2 with h4 | h4
        · have := hq.1; omega
        · exact .inl (by rw [h4]; simp)
      · exact .inr h2
  · rcases List.mem_append.mp hqm with h1 | h1
    · exact h.own q h1
    · rw [List.mem_singleton] at h1
      rw [h1]
      exact ⟨pd, Nat.dvd_trans hd h.dvd⟩
theorem PD.up {N d r : Nat} {ps : List Nat} (h : PD N d r ps) (hn : ∀ q, Prime q → q ∣ r → q ≠ d) : PD N (d + 1) r ps :=
  ⟨h.r0, by have := h.d2; omega, h.dvd, fun q hq hr => by have := h.low q hq hr; have := hn q hq hr; omega, h.all, h.own, h.len⟩
theorem PD.miss {N d r : Nat} {ps : List Nat} (h : PD N d r ps) (hd : ¬ d ∣ r) : PD N (d + 1) r ps := h.up fun q _ hr e => hd (e ▸ hr)
theorem PD.skip {N d r : Nat} {ps : List Nat} (h : PD N d r ps) (he : d % 2 = 0) (h2 : d ≠ 2) : PD N (d + 1) r ps := h.up fun q hq _ e => by
  have := place_two hq
  omega
theorem PD.rest {N d r : Nat} {ps : List Nat} (h : PD N d r ps) (hl : r < d * d) (h1 : 1 < r) : Prime r := by
  obtain ⟨q, hq, c, hc⟩ := has_prime r r (Nat.le_refl _) h1
  have hd := h.low q hq ⟨c, hc⟩
  by_cases hc1 : c = 1
  · rw [hc1, Nat.mul_one] at hc
    rw [hc]; exact hq
  · exfalso
    have c0 : c ≠ 0 := fun z => by rw [z, Nat.mul_zero] at hc; omega
    obtain ⟨t, ht, htc⟩ := has_prime c c (Nat.le_refl _) (by omega)
    have ht2 := h.low t ht (by rw [hc]; exact Nat.dvd_trans htc (Nat.dvd_mul_left _ _))
    have := Nat.le_of_dvd (by omega) htc
    have : d * d ≤ q * c := Nat.mul_le_mul hd (by omega)
    omega
/-- all is found -/
theorem PD.fin {N d r : Nat} {ps : List Nat} (h : PD N d r ps) (hl : r < d * d) : (∀ q, (q ∈ ps ∨ (1 < r ∧ q = r)) ↔ (Prime q ∧ q ∣ N)) := by
  intro q
  constructor
  · rintro (h1 | ⟨h1, rfl⟩)
    · exact h.own q h1
    · exact ⟨h.rest hl h1, h.dvd⟩
  · rintro ⟨hq, hn⟩
    rcases h.all q hq hn with h1 | h1
    · exact .inl h1
    · right
      have hr : 1 < r := by
        have := Nat.le_of_dvd h.r0 h1
        have := hq.1
        omega
      refine ⟨hr, ?_⟩
      rcases (h.rest hl hr).2 q h1 with z | z
      · have := hq.1; omega
      · exact z
theorem PD.few {N d r B : Nat} {ps : List Nat} (h : PD N d r ps) (hb : N < 2 ^ B) : ps.length < B ∧ (1 < r → ps.length + 1 < B) := by
  have hl := h.len
  have r0 := h.r0
  have key : ∀ n, 2 ^ n ≤ N → n < B := fun n hn => (Nat.pow_lt_pow_iff_right (by decide : 1 < 2)).mp (Nat.lt_of_le_of_lt hn hb)
  refine ⟨key _ (Nat.le_trans (Nat.le_mul_of_pos_right _ r0) hl), fun h1 => key _ ?_⟩
  rw [Nat.pow_succ]
  exact Nat.le_trans (Nat.mul_le_mul_left _ h1) hl
end NT

namespace K27
open PySem PySem.Spec PyProof.Rows L2 NT
theorem w5_nat : ∀ v ∈ W5, ∃ x : Nat, v = x ∧ Prime x := by
  intro v hv
  have e : W5 = [2, 3, 5, 7, 11] := rfl
  rw [e] at hv
  simp only [List.mem_cons, List.not_mem_nil, or_false] at hv
  rcases hv with rfl | rfl | rfl | rfl | rfl
  · exact ⟨2, rfl, prime_by 2 (by decide)⟩
  · exact ⟨3, rfl, prime_by 2 (by decide)⟩
  · exact ⟨5, rfl, prime_by 3 (by decide)⟩
  · exact ⟨7, rfl, prime_by 3 (by decide)⟩
  · exact ⟨11, rfl, prime_by 4 (by decide)⟩
/-- every prime stands the test -/
theorem pk {p : Nat} (hp : Prime p) (ht : p ≤ 1000000000000) : PrimeOk p := by
  have hp2 := hp.1
  refine ⟨by omega, by omega, fun v hv h => ?_, fun hn v hv => ?_⟩
  · obtain ⟨x, rfl, hx⟩ := w5_nat v hv
    have hz : p % x = 0 := by omega
    rcases hp.2 x (Nat.dvd_of_mod_eq_zero hz) with z | z
    · have := hx.1; omega
    · omega
  · have h2 : (p : Int) % 2 ≠ 0 := hn 2 (by decide)
    obtain ⟨x, rfl, hx⟩ := w5_nat v hv
    have hv' := hn _ hv
    have np : x % p ≠ 0 := fun z => by
      rcases hx.2 p (Nat.dvd_of_mod_eq_zero z) with y | y
      · omega
      · apply hv'
        rw [y]
        exact Int.emod_self
    obtain ⟨k, u, hS⟩ := spl_ex p2 (a := (p : Int) - 1) (by omega)
    have hS' : Spl 2 ((p : Int) - 1) k u := hS
    have pk0 : (0 : Int) < 2 ^ k := Int.pow_pos (by decide)
    have u0 : 0 ≤ u := by
      by_cases h : 0 ≤ u
      · exact h
      · have := Int.mul_neg_of_pos_of_neg pk0 (show u < 0 by omega)
        have := hS'.eq
        omega
    obtain ⟨m, rfl⟩ : ∃ m : Nat, u = m := ⟨u.toNat, by omega⟩
    have k0 : 0 < k := by
      rcases Nat.eq_zero_or_pos k with z | z
      · exfalso
        have h1 := hS'.eq
        have h3 := hS'.nd
        rw [z] at h1
        simp at h1
        omega
      · exact z
    have e : p - 1 = 2 ^ k * m := by
      have h1 := hS'.eq
      have h3 : (((p - 1 : Nat)) : Int) = ((2 ^ k * m : Nat) : Int) := by
        rw [Int.natCast_mul, Int.natCast_pow]
        have : ((2 : Nat) : Int) = 2 := rfl
        rw [this, ← h1]
        omega
      exact Int.ofNat_inj.mp h3
    have m0 : 0 < m := by
      rcases Nat.eq_zero_or_pos m with z | z
      · rw [z, Nat.mul_zero] at e; omega
      · exact z
    have kk : k < 40 := by
      refine (Nat.pow_lt_pow_iff_right (by decide : 1 < 2)).mp ?_
      have h1 : 2 ^ k ≤ 2 ^ k * m := Nat.le_mul_of_pos_right _ m0
      have h3 : (1000000000000 : Nat) < 2 ^ 40 := by decide
      omega
    obtain ⟨i, hi, hmr⟩ := mr hp np e k0
    refine ⟨by omega, by omega, k, m, i, hS', u0, by omega, hi, ?_⟩
    rw [Int.toNat_natCast]
    exact hmr
section
variable {P : Program} {w : World} {K : PySem.W.Frag} {mg : Str → Option Value} {base : Heap}
/-! ### sign and sign_at, once more -/
def spH : Sp := fun vs H Q _ => ∃ (a b : Int) (p : Nat), vs = [.int a, .int b, .int p] ∧ place p ∧ p < 1073741824 ∧ a ≠ 0 ∧ b ≠ 0 ∧ a.natAbs ≤ 1000000000 ∧ b.natAbs ≤ 1000000000 ∧ ∀ H', Same H H' → Q (.int (hs p a b)) H'
theorem signH {f : Addr} {fd : FuncData} (F : FnOk P w K mg base CX0 6 f fd ["number", "other", "place"] spSign) : FnOk P w K mg base CX0 6 f fd ["number", "other", "place"] spH :=
  F.imp fun vs H Q E ⟨a, b, p, e, pl, pb, a0, b0, am, bm, q⟩ => ⟨a, b, p, e, a0, b0, am, bm, by
    rcases pl with rfl | hp
    · refine .inl ⟨rfl, fun H' s => ?_⟩
      rw [← hs_zero]
      exact q H' s
    · obtain ⟨k, u, sa⟩ := spl_ex hp a0
      obtain ⟨l, v, sb⟩ := spl_ex hp b0
      refine .inr ⟨pk hp (by omega), by omega, k, u, l, v, sa, sb, fun H' s => ?_⟩
      rw [← hs_eq hp sa sb]
      exact q H' s⟩
theorem signAtH {f : Addr} {fd : FuncData} (F : FnOk P w K mg base CX0 4 f fd ["number", "other", "place"] spSignAt) : FnOk P w K mg base CX0 4 f fd ["number", "other", "place"] spH :=
  F.imp fun vs H Q E ⟨a, b, p, e, pl, pb, a0, b0, am, bm, q⟩ => ⟨a, b, p, e, a0, b0, am, bm, by
    rcases pl with rfl | hp
    · refine .inl ⟨rfl, ?_⟩
      rw [← hs_zero]
      exact q H (Same.refl _)
    · obtain ⟨k, u, sa⟩ := spl_ex hp a0
      obtain ⟨l, v, sb⟩ := spl_ex hp b0
      refine .inr ⟨by have := hp.1; omega, by omega, k, u, l, v, sa, sb, fun H' s => ?_⟩
      rw [← hs_eq hp sa sb]
      exact q H' s⟩
/-! ### prime_divisors -/
def iV (ps : List Nat) : List V := ps.map fun n : Nat => V.int n
/-- the primes of a number, each, in some order -/
def PrimesOf (a : Int) (ps : List Nat) : Prop := (∀ q, q ∈ ps ↔ (Prime q ∧ q ∣ a.natAbs)) ∧ ps.length < 30
def spPd : Sp := fun vs H Q _ => ∃ a : Int, vs = [.int a] ∧ a ≠ 0 ∧ a.natAbs ≤ 1000000000 ∧ ∀ H' D ps, H D = none → Same H H' → H' D = some (.lst (iV ps)) → PrimesOf a ps → Q (.ref D) H'
theorem ok_pd {f g : Addr} {fd gd : FuncData} (F : Fun K "prime_divisors" "prime_divisors" sPd f fd) (GS : FnOk P w K mg base CX0 1 g gd ["number", "prime"] spSplit) (mS : mg "split_power" = some (.ref g)) (kS : PySem.W.keepIn K (.ref g) = true) (bS : Binds K gd ["number", "prime"] [])
    (ma : mg "abs" = none) : FnOk P w K mg base CX0 2 f fd ["number"] spPd := by
  refine F.ok scPd (fun vs H Q E h => ?_) (fun cdv A outer s H vs Q E hr h => ?_)
  · obtain ⟨a, rfl, _⟩ := h
    rfl
  · obtain ⟨a, rfl, a0, am, q⟩ := h
    have nd := scPd.nd
    refine ⟨_, pss_cons (ps_set (i := 1) nd rfl (.inl rfl) (pe_callB call_abs (by rfl) ma boot_abs (pa_cons (pv 0) pa_nil)))
      (pss_cons (ps_set (i := 2) nd rfl (.inl rfl) (pe_lst pa_nil))
      (pss_cons (ps_set (i := 3) nd rfl (.inl rfl) pe_int)
      (pss_cons (ps_while PassesOwn.never (pt_cmpR op_le (pe_op op_mul (pv 3) (pv 3)) (pv 1) (nomark _))
        (pss_cons (ps_if (pt_cmpR op_eq (pe_op op_mod (pv 1) (pv 3)) pe_int (nomark _))
          (pss_cons (ps_expr (pe_bm PySem.F.plainAttrs_list PySem.F.slot_list_append PySem.F.type_list_append mt_append (pv 2) (pa_cons (pv 3) pa_nil)))
          (pss_one (ps_set (i := 1) nd rfl (.inl rfl) (pe_ix ix_tup (pe_call GS hr (by rfl) mS kS bS .nil pass0 (pa_cons (pv 1) (pa_cons (pv 3) pa_nil))) pe_int (fun _ _ => rfl))))) pss_nil)
        (pss_one (ps_set (i := 3) nd rfl (.inl rfl) (pe_ifExp (pt_cmpR op_eq (pv 3) pe_int (nomark _)) (pe_op op_add (pv 3) pe_int) (pe_op op_add (pv 3) pe_int))))))
      (pss_cons (ps_if (pt_cmpR op_gt (pv 1) pe_int (nomark _)) (pss_one (ps_expr (pe_bm PySem.F.plainAttrs_list PySem.F.slot_list_append PySem.F.type_list_append mt_append (pv 2) (pa_cons (pv 1) pa_nil)))) pss_nil)
      (pss_one (ps_ret (pv 2))))))), ?_⟩
    have ab : (if a < 0 then -a else a) = ((a.natAbs : Nat) : Int) := by split <;> omega
    refine ⟨.int a, rfl, a, rfl, ?_⟩
    rw [ab]
    refine ⟨(by show 0 ≤ sizeLine; decide), fun D nD => ?_⟩
    have N0 : 0 < a.natAbs := by omega
    generalize hN : a.natAbs = N at *
    refine ⟨fun m σ H' => ∃ (d r : Nat) (ps : List Nat), σ = [some (.int a), some (.int r), some (.ref D), some (.int d)] ∧ m = N + 4 - d ∧ (d = 2 ∨ d % 2 = 1) ∧ d ≤ N + 4 ∧ PD N d r ps ∧ Same H H' ∧ H' D = some (.lst (iV ps)),
      ⟨_, 2, N, [], rfl, rfl, .inl rfl, by omega, PD.start N0, same_new nD, upd_same⟩, fun m σ H' hW => ?_⟩
    obtain ⟨d, r, ps, rfl, rfl, hd, hdN, hP, sm, hD⟩ := hW
    have d2 := hP.d2
    have r0 := hP.r0
    have rN : r ≤ N := Nat.le_of_dvd N0 hP.dvd
    have few := hP.few (B := 30) (by omega)
    have ll : (iV ps).length < 30 := by rw [iV, List.length_map]; exact few.1
    refine ⟨.int d, rfl, .int d, rfl, d, d, rfl, rfl, .inl ⟨by omega, by omega⟩, .int r, rfl, _, r, rfl, rfl, _, rfl, ite2 (fun z => ?_) (fun z => ?_)⟩
    · have hz : (d : Int) * d ≤ r := of_decide_eq_true z
      have hz' : d * d ≤ r := by rw [← Int.natCast_mul] at hz; omega
      have dd : 2 * d ≤ d * d := Nat.mul_le_mul_right d d2
      let Nx : L2.St → Hp → Prop := fun σ' H'' => ∃ (d' r' : Nat) (ps' : List Nat), σ' = [some (.int a), some (.int r'), some (.ref D), some (.int d')] ∧ d < d' ∧ (d' = 2 ∨ d' % 2 = 1) ∧ d' ≤ N + 4 ∧ PD N d' r' ps' ∧ Same H H'' ∧ H'' D = some (.lst (iV ps'))
      have gfin : ∀ (r' : Nat) (ps' : List Nat) H2, PD N (d + 1) r' ps' → Same H H2 → H2 D = some (.lst (iV ps')) → (d = 2 → Nx [some (.int a), some (.int r'), some (.ref D), some (.int ((d : Int) + 1))] H2) ∧ (d ≠ 2 → Nx [some (.int a), some (.int r'), some (.ref D), some (.int ((d : Int) + 2))] H2) := by
        intro r' ps' H2 h1 h2 h3
        refine ⟨fun e => ⟨d + 1, r', ps', rfl, by omega, by omega, by omega, h1, h2, h3⟩, fun e => ⟨d + 2, r', ps', rfl, by omega, by omega, by omega, ?_, h2, h3⟩⟩
        exact h1.skip (by omega) (by omega)
      refine ⟨Nx, ?_, ?_⟩
      · rintro σ' H'' ⟨d', r', ps', rfl, h1, h2, h3, h4, h5, h6⟩
        exact ⟨_, by omega, d', r', ps', rfl, rfl, h2, h3, h4, h5, h6⟩
      · have dpos : (0 : Int) < d := by omega
        refine ⟨.int r, rfl, .int d, rfl, r, d, rfl, rfl, dpos, rfl, _, rfl, ite2 (fun y => ?_) (fun y => ?_)⟩
        · have hy : (r : Int) % d = 0 := V.int.inj (of_decide_eq_true y)
          have hdr : d ∣ r := Nat.dvd_of_mod_eq_zero (by omega)
          have pd := hP.prime hdr
          obtain ⟨k, u, hS⟩ := spl_ex pd (a := (r : Int)) (by omega)
          have hS' : Spl (d : Int) (r : Int) k u := hS
          have dk0 : (0 : Int) < (d : Int) ^ k := Int.pow_pos dpos
          have u0 : 0 ≤ u := by
            by_cases h : 0 ≤ u
            · exact h
            · have := Int.mul_neg_of_pos_of_neg dk0 (show u < 0 by omega)
              have := hS'.eq
              omega
          obtain ⟨m, rfl⟩ : ∃ m : Nat, u = m := ⟨u.toNat, by omega⟩
          have k0 : 0 < k := by
            rcases Nat.eq_zero_or_pos k with z | z
            · exfalso
              have h1 := hS'.eq
              rw [z] at h1
              simp at h1
              apply hS'.nd
              rw [← h1]
              exact hy
            · exact z
          have e : r = d ^ k * m := by
            have h1 := hS'.eq
            rw [← Int.natCast_pow, ← Int.natCast_mul] at h1
            exact Int.ofNat_inj.mp h1
          have nm : ¬ d ∣ m := fun h => hS'.nd (by
            have := Nat.mod_eq_zero_of_dvd h
            omega)
          have hP2 := hP.hit k0 e nm
          refine ⟨.ref D, rfl, .inl ⟨rfl, _, .inl (.inl hD)⟩, .int d, rfl, D, _, .int d, rfl, rfl, hD, by rw [sizeLine_eq]; omega, ?_⟩
          refine ⟨.int r, rfl, .int d, rfl, r, d, k, m, rfl, by omega, by omega, by omega, hS', fun t nt => ?_⟩
          have hnew : (upd H' D (.lst (iV ps ++ [.int d]))) D = some (.lst (iV ps ++ [.int d])) := upd_same
          have Dt : D ≠ t := ne_of_none hnew nt
          refine ⟨t, [.int k, .int m], 1, .int m, rfl, rfl, .inl (.inl upd_same), rfl, ?_⟩
          have s3 : Same H (upd (upd H' D (.lst (iV ps ++ [.int d]))) t (.tup [.int k, .int m])) := fun b o hb => by
            have bD : b ≠ D := fun z => by rw [z, nD] at hb; cases hb
            have h1 := sm _ _ hb
            have h2 : (upd H' D (.lst (iV ps ++ [.int d]))) b = some o := (upd_ne bD).trans h1
            exact (upd_ne (ne_of_none h2 nt)).trans h2
          have hD3 : (upd (upd H' D (.lst (iV ps ++ [.int d]))) t (.tup [.int k, .int m])) D = some (.lst (iV (ps ++ [d]))) := by
            rw [upd_ne Dt, upd_same, iV, iV, List.map_append]
            rfl
          obtain ⟨f1, f2⟩ := gfin m _ _ hP2 s3 hD3
          refine ⟨.int d, rfl, rfl, _, rfl, ite2 (fun x => ⟨.int d, rfl, d, 1, rfl, rfl, f1 ?_⟩) (fun x => ⟨.int d, rfl, d, 2, rfl, rfl, f2 ?_⟩)⟩
          · have := V.int.inj (of_decide_eq_true x); omega
          · intro h; exact x (decide_eq_true (by rw [h]; rfl))
        · have hy : ¬ d ∣ r := fun h => y (decide_eq_true (congrArg V.int (by have := Nat.mod_eq_zero_of_dvd h; omega)))
          obtain ⟨f1, f2⟩ := gfin r _ _ (hP.miss hy) sm hD
          refine ⟨.int d, rfl, rfl, _, rfl, ite2 (fun x => ⟨.int d, rfl, d, 1, rfl, rfl, f1 ?_⟩) (fun x => ⟨.int d, rfl, d, 2, rfl, rfl, f2 ?_⟩)⟩
          · have := V.int.inj (of_decide_eq_true x); omega
          · intro h; exact x (decide_eq_true (by rw [h]; rfl))
    · have hz : r < d * d := by
        have : ¬ (d : Int) * d ≤ r := fun h => z (decide_eq_true h)
        rw [← Int.natCast_mul] at this
        omega
      have fin := hP.fin hz
      refine ⟨.int r, rfl, r, 1, rfl, rfl, _, rfl, ite2 (fun y => ?_) (fun y => ?_)⟩
      · have h1 : 1 < r := by have : (1 : Int) < r := of_decide_eq_true y; omega
        refine ⟨.ref D, rfl, .inl ⟨rfl, _, .inl (.inl hD)⟩, .int r, rfl, D, _, .int r, rfl, rfl, hD, by rw [sizeLine_eq]; omega, ?_⟩
        refine ⟨.ref D, rfl, q _ D (ps ++ [r]) nD (fun b o hb => ?_) ?_ ⟨fun x => ?_, ?_⟩⟩
        · have bD : b ≠ D := fun z => by rw [z, nD] at hb; cases hb
          exact (upd_ne bD).trans (sm _ _ hb)
        · rw [upd_same, iV, iV, List.map_append]
          rfl
        · rw [hN, ← fin x, List.mem_append, List.mem_singleton]
          constructor
          · rintro (h | h)
            · exact .inl h
            · exact .inr ⟨h1, h⟩
          · rintro (h | h)
            · exact .inl h
            · exact .inr h.2
        · rw [List.length_append]; exact few.2 h1
      · have h1 : ¬ 1 < r := fun h => y (decide_eq_true (by show (1 : Int) < r; omega))
        refine ⟨.ref D, rfl, q _ D ps nD sm hD ⟨fun x => ?_, few.1⟩⟩
        rw [hN, ← fin x]
        constructor
        · exact .inl
        · rintro (h | h)
          · exact h
          · exact absurd h.1 h1
end
end K27

namespace K27
open PySem PySem.Spec PyProof.Rows L2 NT
/-- strictly ascending -/
def Asc (ps : List Nat) : Prop := ps.Pairwise (· < ·)
theorem asc_unique : ∀ {l m : List Nat}, Asc l → Asc m → (∀ x, x ∈ l ↔ x ∈ m) → l = m
  | [], [], _, _, _ => rfl
  | [], y :: m, _, _, h => absurd ((h y).mpr (by simp)) List.not_mem_nil
  | x :: l, [], _, _, h => absurd ((h x).mp (by simp)) List.not_mem_nil
  | x :: l, y :: m, hl, hm, h => by
    obtain ⟨l1, l2⟩ := List.pairwise_cons.mp hl
    obtain ⟨m1, m2⟩ := List.pairwise_cons.mp hm
    have e : x = y := by
      have h1 := (h x).mp (by simp)
      have h2 := (h y).mpr (by simp)
      rcases List.mem_cons.mp h1 with z | z
      · exact z
      · rcases List.mem_cons.mp h2 with u | u
        · exact u.symm
        · have := m1 x z
          have := l1 y u
          omega
    subst e
    congr 1
    refine asc_unique l2 m2 fun z => ?_
    have hz := h z
    rw [List.mem_cons, List.mem_cons] at hz
    constructor
    · intro k
      rcases hz.mp (.inr k) with u | u
      · have := l1 z k; omega
      · exact u
    · intro k
      rcases hz.mpr (.inr k) with u | u
      · have := m1 z k; omega
      · exact u
theorem Asc.nodup {l : List Nat} (h : Asc l) : l.Nodup := List.Pairwise.imp (fun h => Nat.ne_of_lt h) h
/-- a list of integers that are none below 0 -/
theorem to_nats {ns : List Int} (h : ∀ k ∈ ns, 0 ≤ k) : ∃ L : List Nat, ns = L.map (fun n : Nat => (n : Int)) := by
  refine ⟨ns.map Int.toNat, ?_⟩
  rw [List.map_map]
  have : ∀ k ∈ ns, ((fun n : Nat => (n : Int)) ∘ Int.toNat) k = k := fun k hk => by
    have := h k hk
    show ((k.toNat : Nat) : Int) = k
    omega
  exact (List.map_congr_left (g := id) (f := (fun n : Nat => (n : Int)) ∘ Int.toNat) (fun k hk => this k hk)).trans (List.map_id _) |>.symm
theorem iV_int (L : List Nat) : (L.map (fun n : Nat => (n : Int))).map V.int = iV L := by
  rw [List.map_map]; rfl
/-- what sorted(set(..)) of a list of such integers gives -/
theorem asc_of {L : List Nat} {ns : List Int} (hp : ns.Pairwise (· < ·)) (hm : ∀ k : Int, k ∈ ns ↔ decide (k ∈ L.map (fun n : Nat => (n : Int))) = true) : ∃ R, Asc R ∧ ns.map V.int = iV R ∧ ∀ q, q ∈ R ↔ q ∈ L := by
  have pos : ∀ k ∈ ns, 0 ≤ k := fun k hk => by
    have h := of_decide_eq_true ((hm k).mp hk)
    obtain ⟨n, _, rfl⟩ := List.mem_map.mp h
    omega
  obtain ⟨R, rfl⟩ := to_nats pos
  refine ⟨R, ?_, iV_int R, fun q => ?_⟩
  · unfold Asc
    rw [List.pairwise_map] at hp
    exact hp.imp fun h => by omega
  · have h := hm (q : Int)
    rw [decide_eq_true_iff] at h
    have inj : ∀ A : List Nat, (q : Int) ∈ A.map (fun n : Nat => (n : Int)) ↔ q ∈ A := fun A => by
      constructor
      · intro z
        obtain ⟨n, hn, e⟩ := List.mem_map.mp z
        have : n = q := by omega
        rw [← this]; exact hn
      · intro z
        exact List.mem_map.mpr ⟨q, z, rfl⟩
    rw [← inj R, h, inj L]
/-- the places of two numbers -/
def Pl (a b : Int) (q : Nat) : Prop := q = 0 ∨ q = 2 ∨ (Prime q ∧ (q ∣ a.natAbs ∨ q ∣ b.natAbs))
theorem Pl.place {a b : Int} {q : Nat} (h : Pl a b q) : place q := by
  rcases h with h | rfl | h
  · exact .inl h
  · exact .inr p2
  · exact .inr h.1
theorem Pl.le {a b : Int} {q : Nat} (h : Pl a b q) (a0 : a ≠ 0) (b0 : b ≠ 0) (am : a.natAbs ≤ 1000000000) (bm : b.natAbs ≤ 1000000000) : q < 1073741824 := by
  rcases h with h | rfl | ⟨_, h | h⟩
  · omega
  · decide
  · have := Nat.le_of_dvd (by omega) h; omega
  · have := Nat.le_of_dvd (by omega) h; omega
def OddPl (a b : Int) (q : Nat) : Prop := Pl a b q ∧ hs q a b = -1
theorem boot_tuple' : bootBuiltins (Str.ofString "tuple") = some (.type "tuple") := by decide +kernel
section
variable {P : Program} {w : World} {K : PySem.W.Frag} {mg : Str → Option Value} {base : Heap}
def spOp : Sp := fun vs H Q _ => ∃ a b : Int, vs = [.int a, .int b] ∧ a ≠ 0 ∧ b ≠ 0 ∧ a.natAbs ≤ 1000000000 ∧ b.natAbs ≤ 1000000000 ∧ ∀ H' t R, H t = none → Same H H' → H' t = some (.tup (iV R)) → Asc R → R.length < 64 → (∀ q, q ∈ R ↔ OddPl a b q) → Q (.ref t) H'
theorem ok_op {f fO fP fA : Addr} {fd dO dP dA : FuncData} {t : Tok} (F : Fun K "odd_places" "odd_places" sOp f fd) (GO : FnOk P w K mg base CX0 4 fO dO ["number", "size"] spOther) (mO : mg "check_other_than_nought" = some (.ref fO)) (kO : PySem.W.keepIn K (.ref fO) = true) (bO : Binds K dO ["number", "size"] [])
    (GP : FnOk P w K mg base CX0 2 fP dP ["number"] spPd) (mP : mg "prime_divisors" = some (.ref fP)) (kP : PySem.W.keepIn K (.ref fP) = true) (bP : Binds K dP ["number"] [])
    (GA : FnOk P w K mg base CX0 4 fA dA ["number", "other", "place"] spH) (mA : mg "sign_at" = some (.ref fA)) (kA : PySem.W.keepIn K (.ref fA) = true) (bA : Binds K dA ["number", "other", "place"] []) (mM : mg "MOST_OPERAND" = some (.int (10 ^ 9) t))
    (mso : mg "sorted" = none) (mse : mg "set" = none) (mt : mg "tuple" = none) : FnOk P w K mg base CX0 6 f fd ["number", "other"] spOp := by
  refine F.ok scOp (fun vs H Q E h => ?_) (fun cdv A outer s H vs Q E hr h => ?_)
  · obtain ⟨a, b, rfl, _⟩ := h
    rfl
  · obtain ⟨a, b, rfl, a0, b0, am, bm, q⟩ := h
    have nd := scOp.nd
    refine ⟨_, pss_cons (ps_expr (pe_call GO (hr.mono (by decide)) (by rfl) mO kO bO .nil pass0 (pa_cons (pv 0) (pa_cons (pe_glob (v := .int (10 ^ 9)) (by rfl) mM ⟨_, rfl⟩) pa_nil))))
      (pss_cons (ps_expr (pe_call GO (hr.mono (by decide)) (by rfl) mO kO bO .nil pass0 (pa_cons (pv 1) (pa_cons (pe_glob (v := .int (10 ^ 9)) (by rfl) mM ⟨_, rfl⟩) pa_nil))))
      (pss_cons (ps_set (i := 2) nd rfl (.inl rfl) (pe_callB (cr_sortedSet rfl) (by rfl) mso boot_sorted (pa_cons (pe_callTy (SetL.cr_setOfI rfl) (by rfl) mse boot_set (pa_cons
          (pe_op op_cat (pe_op op_cat (pe_lst (pa_cons pe_int (pa_cons pe_int pa_nil))) (pe_call GP (hr.mono (by decide)) (by rfl) mP kP bP .nil pass0 (pa_cons (pv 0) pa_nil))) (pe_call GP (hr.mono (by decide)) (by rfl) mP kP bP .nil pass0 (pa_cons (pv 1) pa_nil))) pa_nil)) pa_nil)))
      (pss_one (ps_ret (pe_callTy call_tuple_of (by rfl) mt boot_tuple' (pa_cons (pe_lc (own := [("place", 3)]) (g := gName 3) rfl nd (pi_list (pv 2))
        (blkOk_by (N := ["number", "other", "places", "place"]) (sc := defScope sOp) (by decide +kernel))
        (fun _ _ _ _ _ => pg_name (i := 3) nd rfl (.inl rfl)) (fun _ _ _ _ _ => pts_one (pt_cmpR op_eq (pe_call GA (hr.mono (by decide)) (by rfl) mA kA bA .nil pass0 (pa_cons (pv 0) (pa_cons (pv 1) (pa_cons (pv 3) pa_nil)))) (pe_un un_neg pe_int) (nomark _)))
        (fun _ _ _ _ _ => pv 3)) pa_nil)))))), ?_⟩
    refine ⟨.int a, rfl, a, 10 ^ 9, rfl, by omega, by omega, a0, .int b, rfl, b, 10 ^ 9, rfl, by omega, by omega, b0, ?_⟩
    refine ⟨(by show 2 ≤ sizeLine; decide), fun L0 n0 => ?_⟩
    refine ⟨.int a, rfl, a, rfl, a0, am, fun H1 D1 p1 nD1 s1 hD1 hp1 => ?_⟩
    have g0 : H1 L0 = some (.lst (iV [0, 2])) := s1 _ _ upd_same
    have l1 : (iV p1).length < 30 := by rw [iV, List.length_map]; exact hp1.2
    have l0 : (iV [0, 2]).length = 2 := rfl
    refine ⟨L0, D1, _, _, rfl, rfl, g0, hD1, by rw [sizeLine_eq]; omega, fun C1 nC1 => ?_⟩
    refine ⟨.int b, rfl, b, rfl, b0, bm, fun H2 D2 p2 nD2 s2 hD2 hp2 => ?_⟩
    have l2 : (iV p2).length < 30 := by rw [iV, List.length_map]; exact hp2.2
    have g1 : H2 C1 = some (.lst (iV [0, 2] ++ iV p1)) := s2 _ _ upd_same
    refine ⟨C1, D2, _, _, rfl, rfl, g1, hD2, by rw [sizeLine_eq, List.length_append]; omega, fun C2 nC2 => ?_⟩
    have eL : iV [0, 2] ++ iV p1 ++ iV p2 = (([0, 2] ++ p1 ++ p2 : List Nat).map (fun n : Nat => (n : Int))).map V.int := by
      rw [iV_int, iV, iV, iV, iV, List.map_append, List.map_append]
    have lt : ([0, 2] ++ p1 ++ p2 : List Nat).length < 62 := by
      have := hp1.2
      have := hp2.2
      rw [List.length_append, List.length_append]
      show 2 + p1.length + p2.length < 62
      omega
    refine ⟨C2, _, rfl, .inl (.inl (by rw [eL]; exact upd_same)), by rw [List.length_map]; omega, fun S n nS hn => ?_⟩
    rw [List.length_map] at hn
    refine ⟨S, _, n, rfl, upd_same, by omega, fun ns Ra hpw hmem hlen nRa => ?_⟩
    obtain ⟨R, hA, hE, hM⟩ := asc_of hpw hmem
    have sR : Same H (upd (upd (upd H2 C2 (.lst (iV [0, 2] ++ iV p1 ++ iV p2))) S (SetO w S (fun j => decide (j ∈ (([0, 2] ++ p1 ++ p2 : List Nat).map (fun n : Nat => (n : Int))))) n)) Ra (.lst (ns.map V.int))) :=
      (same_new n0).trans (s1.trans ((same_new nC1).trans (s2.trans ((same_new nC2).trans ((same_new nS).trans (same_new nRa))))))
    have hR : (upd (upd (upd H2 C2 (.lst (iV [0, 2] ++ iV p1 ++ iV p2))) S (SetO w S (fun j => decide (j ∈ (([0, 2] ++ p1 ++ p2 : List Nat).map (fun n : Nat => (n : Int))))) n)) Ra (.lst (ns.map V.int))) Ra = some (.lst (iV R)) := by rw [upd_same, hE]
    have mem : ∀ x, x ∈ R ↔ Pl a b x := fun x => by
      rw [hM, List.mem_append, List.mem_append, hp1.1, hp2.1]
      unfold Pl
      simp only [List.mem_cons, List.not_mem_nil, or_false]
      constructor
      · rintro (((h | h) | h) | h)
        · exact .inl h
        · exact .inr (.inl h)
        · exact .inr (.inr ⟨h.1, .inl h.2⟩)
        · exact .inr (.inr ⟨h.1, .inr h.2⟩)
      · rintro (h | h | ⟨h, h2 | h2⟩)
        · exact .inl (.inl (.inl h))
        · exact .inl (.inl (.inr h))
        · exact .inl (.inr ⟨h, h2⟩)
        · exact .inr ⟨h, h2⟩
    have lR : R.length < 64 := by
      have h := congrArg List.length hE
      rw [List.length_map, iV, List.length_map, hlen] at h
      omega
    refine ⟨.ref Ra, rfl, Ra, rfl, ⟨_, .inl (.inl hR)⟩, fun D nD => lc_list (xs := iV R) (fun i H' => Same (upd (upd (upd H2 C2 (.lst (iV [0, 2] ++ iV p1 ++ iV p2))) S (SetO w S (fun j => decide (j ∈ (([0, 2] ++ p1 ++ p2 : List Nat).map (fun n : Nat => (n : Int))))) n)) Ra (.lst (ns.map V.int))) H' ∧ H' D = some (.lst (iV ((R.take i).filter fun x => decide (hs x a b = -1))))) ⟨same_new nD, upd_same⟩ (fun i H' _ z => .inl (.inl (z.1 _ _ hR))) ?_ ?_⟩
    · rintro i x H' hx ⟨sm, hD⟩
      rw [iV, List.getElem?_map] at hx
      obtain ⟨v, hv, rfl⟩ := Option.map_eq_some_iff.mp hx
      have vR := List.mem_of_getElem? hv
      have vP := (mem v).mp vR
      have tk : R.take (i + 1) = R.take i ++ [v] := by rw [List.take_add_one, hv]; rfl
      refine ⟨rfl, .int a, rfl, .int b, rfl, .int v, rfl, a, b, v, rfl, vP.place, vP.le a0 b0 am bm, a0, b0, am, bm, fun H3 s3 => ⟨1, rfl, rfl, _, rfl, ?_⟩⟩
      have hD3 := s3 _ _ hD
      refine ite2 (fun y => ?_) (fun y => ?_)
      · have hy : hs v a b = -1 := V.int.inj (of_decide_eq_true y)
        refine ⟨.int v, rfl, _, hD3, ?_, fun b o e => ?_, ?_⟩
        · rw [iV, List.length_map, sizeLine_eq]
          have h1 := List.length_filter_le (fun x => decide (hs x a b = -1)) (R.take i)
          have h2 : (R.take i).length ≤ R.length := by rw [List.length_take]; omega
          omega
        · rw [upd_ne (ne_of_none e nD)]
          exact s3 _ _ (sm _ _ e)
        · rw [upd_same, tk, List.filter_append, List.filter_cons_of_pos (by rw [hy]; rfl), List.filter_nil, iV, iV, List.map_append]
          rfl
      · have hy : hs v a b ≠ -1 := fun h => y (decide_eq_true (congrArg V.int h))
        refine ⟨sm.trans s3, ?_⟩
        rw [tk, List.filter_append, List.filter_cons_of_neg (by rw [decide_eq_true_iff]; exact hy), List.filter_nil, List.append_nil]
        exact hD3
    · rintro H' ⟨sm, hD⟩
      have le : (iV R).length = R.length := by rw [iV, List.length_map]
      rw [le, List.take_length] at hD
      refine ⟨D, _, rfl, .inl ⟨.inl (.inl hD), fun l nl => ?_⟩⟩
      refine q _ l _ ?_ (sR.trans (sm.trans (same_new nl))) upd_same (List.Pairwise.filter _ hA) ?_ fun x => ?_
      · exact (sR.trans sm).free nl
      · exact Nat.lt_of_le_of_lt (List.length_filter_le _ _) lR
      · rw [List.mem_filter, mem, decide_eq_true_iff]
        rfl
end
end K27

namespace K27
open PySem PySem.Spec PyProof.Rows L2 NT
section
variable {P : Program} {w : World} {K : PySem.W.Frag} {mg : Str → Option Value} {base : Heap}
/-- 2 and the primes of a number, ascending -/
def TwoPr (a : Int) (R : List Nat) : Prop := Asc R ∧ R.length < 30 ∧ ∀ q, q ∈ R ↔ (q = 2 ∨ (Prime q ∧ q ∣ a.natAbs))
def spPof : Sp := fun vs H Q _ => ∃ a : Int, vs = [.int a] ∧ a ≠ 0 ∧ a.natAbs ≤ 100000 ∧ ∀ H' D R, H D = none → Same H H' → H' D = some (.lst (iV R)) → TwoPr a R → Q (.ref D) H'
theorem ok_pof {f : Addr} {fd : FuncData} (F : Fun K "_law_primes_of" "_law_primes_of" sPof f fd) (ma : mg "abs" = none) (mr : mg "range" = none) (mi : mg "int" = none) (mso : mg "sorted" = none) (mse : mg "set" = none) : FnOk P w K mg base CX0 1 f fd ["_law_n"] spPof := by
  refine F.ok scPof (fun vs H Q E h => ?_) (fun cdv A outer s H vs Q E hr h => ?_)
  · obtain ⟨a, rfl, _⟩ := h
    rfl
  · obtain ⟨a, rfl, a0, am, q⟩ := h
    have nd := scPof.nd
    -- the end: a list is sorted, of which the set is made
    refine ⟨_, pss_cons (ps_par3 (i := 1) (j := 2) (l := 3) rfl nd rfl rfl rfl (by decide) (by decide) (by decide) rfl rfl rfl (pa_cons (pe_lst (pa_cons pe_int pa_nil)) (pa_cons (pe_callB call_abs (by rfl) ma boot_abs (pa_cons (pv 0) pa_nil)) (pa_cons pe_int pa_nil))) (by rfl))
      (pss_cons (ps_for PassesOwn.never rfl (pi_range1 rfl mr (pa_cons pe_int pa_nil)) (pg_name (i := 4) nd rfl (.inl rfl))
        (pss_cons (ps_if (pt_cmpR op_gt (pe_op op_mul (pv 3) (pv 3)) (pv 2) (nomark _)) (pss_one ps_break) pss_nil)
        (pss_one (ps_if (pt_cmpR op_eq (pe_op op_mod (pe_callTy call_int1 (by rfl) mi boot_int (pa_cons (pv 2) pa_nil)) (pv 3)) pe_int (nomark _))
          (pss_cons (ps_expr (pe_bm PySem.F.plainAttrs_list PySem.F.slot_list_append PySem.F.type_list_append mt_append (pv 1) (pa_cons (pv 3) pa_nil)))
          (pss_one (ps_set (i := 2) nd rfl (.inl rfl) (pe_op op_fdiv (pv 2) (pv 3)))))
          (pss_one (ps_set (i := 3) nd rfl (.inl rfl) (pe_op op_add (pv 3) pe_int)))))))
      (pss_one (ps_ret (pe_callB (cr_sortedSet rfl) (by rfl) mso boot_sorted (pa_cons (pe_callTy (SetL.cr_setOfI rfl) (by rfl) mse boot_set (pa_cons
          (pe_op op_cat (pv 1) (pe_ifExp (pt_cmpR op_gt (pv 2) pe_int (nomark _)) (pe_lst (pa_cons (pv 2) pa_nil)) (pe_lst pa_nil))) pa_nil)) pa_nil))))), ?_⟩
    have ab : (if a < 0 then -a else a) = ((a.natAbs : Nat) : Int) := by split <;> omega
    refine ⟨(by show 1 ≤ sizeLine; decide), fun D nD => ⟨.int a, rfl, a, rfl, ?_⟩⟩
    rw [ab]
    have N0 : 0 < a.natAbs := by omega
    generalize hN : a.natAbs = N at *
    refine ⟨.ref D, .int N, .int 2, rfl, ?_⟩
    refine ⟨40000, rfl, by decide, by decide, for_range (n := ((40000 : Int).toNat)) (fun i σ H' => ∃ (d r : Nat) (ps : List Nat) (x : Option V), σ = [some (.int a), some (.ref D), some (.int r), some (.int d), x] ∧ PD N d r ps ∧ (d - 1) * (d - 1) ≤ N ∧ i = d - 2 + ps.length ∧ Same H H' ∧ H' D = some (.lst (iV (2 :: ps))))
      ⟨2, N, [], none, rfl, PD.start N0, by omega, rfl, same_new nD, upd_same⟩ ?_ ?_⟩
    · rintro i σ H' hi ⟨d, r, ps, x, rfl, hP, hd, hc, sm, hD⟩
      have d2 := hP.d2
      have r0 := hP.r0
      have rN : r ≤ N := Nat.le_of_dvd N0 hP.dvd
      have few := hP.few (B := 17) (by omega)
      have ll : (iV (2 :: ps)).length < 30 := by rw [iV, List.length_map, List.length_cons]; omega
      have dd : d - 1 < 400 := by
        by_cases h : d - 1 < 400
        · exact h
        · have : 400 * 400 ≤ (d - 1) * (d - 1) := Nat.mul_le_mul (by omega) (by omega)
          omega
      refine ⟨.int d, rfl, .int d, rfl, d, d, rfl, rfl, .inl ⟨by omega, by omega⟩, .int r, rfl, _, r, rfl, rfl, _, rfl, ite2 (fun z => ?_) (fun z => ?_)⟩
      · have hz : r < d * d := by
          have : (r : Int) < (d : Int) * d := of_decide_eq_true z
          rw [← Int.natCast_mul] at this
          omega
        have fin := hP.fin hz
        -- what the end asks
        have last : ∀ (more : List Nat) H2 (M : Addr), Same H H2 → H2 M = some (.lst (iV more)) → more.length < 2 → (∀ q, q ∈ more ↔ (1 < r ∧ q = r)) → H2 D = some (.lst (iV (2 :: ps))) →
            ∃ l b xs zs, V.ref D = .ref l ∧ V.ref M = .ref b ∧ H2 l = some (.lst xs) ∧ H2 b = some (.lst zs) ∧ xs.length + zs.length ≤ sizeLine ∧ ∀ p, H2 p = none → SetL.rSetOfI K w [.ref p] (upd H2 p (.lst (xs ++ zs))) fun v H3 => rSortedSet w [v] H3 Q := by
          intro more H2 M s2 hM lm hm hD2
          have lm' : (iV more).length < 2 := by rw [iV, List.length_map]; exact lm
          refine ⟨D, M, _, _, rfl, rfl, hD2, hM, by rw [sizeLine_eq]; omega, fun C nC => ?_⟩
          have eL : iV (2 :: ps) ++ iV more = ((2 :: ps ++ more : List Nat).map (fun n : Nat => (n : Int))).map V.int := by
            rw [iV_int, iV, iV, iV, List.map_append]
          have lt : (2 :: ps ++ more : List Nat).length < 30 := by
            rw [List.length_append, List.length_cons]
            omega
          refine ⟨C, _, rfl, .inl (.inl (by rw [eL]; exact upd_same)), by rw [List.length_map]; omega, fun S n nS hn => ?_⟩
          rw [List.length_map] at hn
          refine ⟨S, _, n, rfl, upd_same, by omega, fun ns Ra hpw hmem hlen nRa => ?_⟩
          obtain ⟨R, hA, hE, hMm⟩ := asc_of hpw hmem
          have sm3 := (same_new (o := .lst (iV (2 :: ps) ++ iV more)) nC).trans (same_new (o := SetO w S (fun j => decide (j ∈ ((2 :: ps ++ more : List Nat).map (fun n : Nat => (n : Int))))) n) nS)
          refine q _ Ra R ?_ (s2.trans (sm3.trans (same_new nRa))) (by rw [upd_same, hE]) ⟨hA, ?_, fun x => ?_⟩
          · exact (s2.trans sm3).free nRa
          · have h := congrArg List.length hE
            rw [List.length_map, iV, List.length_map, hlen] at h
            omega
          · rw [hMm, List.mem_append, List.mem_cons, hm, hN]
            have hx := fin x
            constructor
            · rintro ((h | h) | h)
              · exact .inl h
              · exact .inr (hx.mp (.inl h))
              · exact .inr (hx.mp (.inr h))
            · rintro (h | h)
              · exact .inl (.inl h)
              · rcases hx.mpr h with y | y
                · exact .inl (.inr y)
                · exact .inr y
        refine ⟨.ref D, rfl, .int r, rfl, r, 1, rfl, rfl, _, rfl, ite2 (fun y => ?_) (fun y => ?_)⟩
        · have h1 : 1 < r := by have : (1 : Int) < r := of_decide_eq_true y; omega
          refine ⟨.int r, rfl, (by show 1 ≤ sizeLine; decide), fun M nM => last [r] _ M (sm.trans (same_new nM)) upd_same (by simp) (fun x => ?_) (same_new nM _ _ hD)⟩
          rw [List.mem_singleton]
          exact ⟨fun h => ⟨h1, h⟩, fun h => h.2⟩
        · have h1 : ¬ 1 < r := fun h => y (decide_eq_true (by show (1 : Int) < r; omega))
          refine ⟨(by show 0 ≤ sizeLine; decide), fun M nM => last [] _ M (sm.trans (same_new nM)) upd_same (by simp) (fun x => ?_) (same_new nM _ _ hD)⟩
          exact ⟨fun h => absurd h List.not_mem_nil, fun h => absurd h.1 h1⟩
      · have hz : d * d ≤ r := by
          have : ¬ (r : Int) < (d : Int) * d := fun h => z (decide_eq_true h)
          rw [← Int.natCast_mul] at this
          omega
        have dpos : (0 : Int) < d := by omega
        refine ⟨.int r, rfl, .inl ⟨r, rfl, .int d, rfl, r, d, rfl, rfl, dpos, rfl, _, rfl, ite2 (fun y => ?_) (fun y => ?_)⟩⟩
        · have hy : (r : Int) % d = 0 := V.int.inj (of_decide_eq_true y)
          have hdr : d ∣ r := Nat.dvd_of_mod_eq_zero (by omega)
          refine ⟨.ref D, rfl, .inl ⟨rfl, _, .inl (.inl hD)⟩, .int d, rfl, D, _, .int d, rfl, rfl, hD, by rw [sizeLine_eq]; omega, ?_⟩
          refine ⟨.int r, rfl, .int d, rfl, r, d, rfl, rfl, ⟨by omega, by omega⟩, d, r / d, ps ++ [d], some (.int (0 + (i : Int))), rfl, hP.div hdr, hd, by rw [List.length_append, List.length_singleton]; omega, fun b o hb => ?_, ?_⟩
          · have bD : b ≠ D := fun z => by rw [z, nD] at hb; cases hb
            exact (upd_ne bD).trans (sm _ _ hb)
          · rw [upd_same, iV, iV, ← List.cons_append, List.map_append]
            rfl
        · have hy : ¬ d ∣ r := fun h => y (decide_eq_true (congrArg V.int (by have := Nat.mod_eq_zero_of_dvd h; omega)))
          refine ⟨.int d, rfl, d, 1, rfl, rfl, d + 1, r, ps, some (.int (0 + (i : Int))), rfl, hP.miss hy, ?_, by omega, sm, hD⟩
          rw [Nat.add_sub_cancel]
          omega
    · rintro σ H' ⟨d, r, ps, x, rfl, hP, hd, hc, sm, hD⟩
      exfalso
      have d2 := hP.d2
      have few := hP.few (B := 17) (by omega)
      have e4 : (40000 : Int).toNat = 40000 := rfl
      have : 400 * 400 ≤ (d - 1) * (d - 1) := Nat.mul_le_mul (by omega) (by omega)
      omega
end
end K27

namespace K27
open PySem PySem.Spec PyProof.Rows L2 NT
theorem int_at {xs : List Int} {j : Nat} {x : V} (h : (xs.map V.int)[j]? = some x) : ∃ m ∈ xs, x = .int m := by
  rw [List.getElem?_map] at h
  obtain ⟨m, hm, rfl⟩ := Option.map_eq_some_iff.mp h
  exact ⟨m, List.mem_of_getElem? hm, rfl⟩
theorem pos_mul {m n A B : Int} (h1 : 1 ≤ m) (h2 : m ≤ A) (h3 : 1 ≤ n) (h4 : n ≤ B) : 1 ≤ m * n ∧ m * n ≤ A * B := by
  constructor
  · have := Int.mul_pos (show 0 < m by omega) (show 0 < n by omega)
    omega
  · exact Int.mul_le_mul h2 h4 (by omega) (by omega)
section
variable {P : Program} {w : World} {K : PySem.W.Frag} {mg : Str → Option Value} {base : Heap}
def spBig : Sp := fun vs H Q _ => ∃ (c : Addr) (B : Nat), vs = [.ref c] ∧ ChB H c B ∧ B + 10 ≤ 1000000 ∧ ∀ H' v, v ≠ 0 → v.natAbs ≤ 100000 → But c H H' → ChB H' c (B + 7) → Q (.int v) H'
theorem ok_big {f fF fC : Addr} {fd dF dC : FuncData} (F : Fun K "_law_big" "_law_big" sBig f fd) (GF : FnOk P w K mg base CX0 1 fF dF ["_law_chest_here", "_law_most"] spFetch) (mF : mg "_law_fetch" = some (.ref fF)) (kF : PySem.W.keepIn K (.ref fF) = true) (bF : Binds K dF ["_law_chest_here", "_law_most"] [])
    (GC : FnOk P w K mg base CX0 2 fC dC ["_law_chest_here", "_law_menu"] spChoose) (mC : mg "_law_choose" = some (.ref fC)) (kC : PySem.W.keepIn K (.ref fC) = true) (bC : Binds K dC ["_law_chest_here", "_law_menu"] []) (mn : mg "min" = none) : FnOk P w K mg base CX0 3 f fd ["_law_chest_here"] spBig := by
  refine F.ok scBig (fun vs H Q E h => ?_) (fun cdv A outer s H vs Q E hr h => ?_)
  · obtain ⟨c, B, rfl, _⟩ := h
    rfl
  · obtain ⟨c, B, rfl, hC, hB, q⟩ := h
    have nd := scBig.nd
    have ln : ∀ n : Nat, n ≤ 9 → n ≤ sizeLine := fun n h => by rw [sizeLine_eq]; omega
    refine ⟨_, pss_cons (ps_set (i := 1) nd rfl (.inl rfl) (pe_op op_add pe_int (pe_call GF (hr.mono (by decide)) (by rfl) mF kF bF .nil pass0 (pa_cons (pv 0) (pa_cons pe_int pa_nil)))))
      (pss_cons (ps_set (i := 2) nd rfl (.inl rfl) (pe_op op_mul
          (pe_call GC hr (by rfl) mC kC bC .nil pass0 (pa_cons (pv 0) (pa_cons (pe_lst (pa_cons pe_int (pa_cons pe_int (pa_cons pe_int (pa_cons pe_int (pa_cons pe_int pa_nil)))))) pa_nil)))
          (pe_call GC hr (by rfl) mC kC bC .nil pass0 (pa_cons (pv 0) (pa_cons (pe_lst (pa_cons pe_int (pa_cons pe_int (pa_cons pe_int pa_nil)))) pa_nil)))))
      (pss_cons (ps_set (i := 2) nd rfl (.inl rfl) (pe_op op_mul (pv 2) (pe_call GC hr (by rfl) mC kC bC .nil pass0 (pa_cons (pv 0) (pa_cons (pe_lst (pa_cons pe_int (pa_cons pe_int (pa_cons pe_int (pa_cons pe_int (pa_cons pe_int (pa_cons pe_int pa_nil))))))) pa_nil)))))
      (pss_cons (ps_set (i := 3) nd rfl (.inl rfl) (pe_call GC hr (by rfl) mC kC bC .nil pass0 (pa_cons (pv 0) (pa_cons (pe_lst (pa_cons (pv 1) (pa_cons (pv 2) (pa_cons (pe_op op_mul (pv 2) (pv 1))
          (pa_cons (pe_op op_add pe_int (pe_call GF (hr.mono (by decide)) (by rfl) mF kF bF .nil pass0 (pa_cons (pv 0) (pa_cons (pe_op op_pow pe_int pe_int) pa_nil)))) (pa_cons (pe_op op_pow pe_int pe_int) pa_nil)))))) pa_nil))))
      (pss_one (ps_ret (pe_op op_mul (pe_callB (call_min2 rfl) (by rfl) mn boot_min (pa_cons (pv 3) (pa_cons (pe_op op_pow pe_int pe_int) pa_nil)))
          (pe_call GC hr (by rfl) mC kC bC .nil pass0 (pa_cons (pv 0) (pa_cons (pe_lst (pa_cons pe_int (pa_cons (pe_un un_neg pe_int) pa_nil))) pa_nil))))))))), ?_⟩
    refine ⟨.ref c, rfl, c, 60, B, rfl, by decide, by decide, hC, by omega, fun H1 r r0 r1 bt1 ch1 => ⟨1, r, rfl, rfl, ?_⟩⟩
    refine ⟨.ref c, rfl, ln 5 (by decide), fun L1 n1 => ⟨c, L1, ([1, 2, 4, 8, 16] : List Int).map V.int, B + 1, rfl, upd_same, ne_new ch1 n1, by decide, by decide, ch1.same (same_new n1), by omega, fun H2 j2 x2 hx2 bt2 ch2 => ?_⟩⟩
    obtain ⟨m2, hm2, rfl⟩ := int_at hx2
    have b2 : 1 ≤ m2 ∧ m2 ≤ 16 := (by decide : ∀ m ∈ ([1, 2, 4, 8, 16] : List Int), 1 ≤ m ∧ m ≤ 16) m2 hm2
    refine ⟨.ref c, rfl, ln 3 (by decide), fun L3 n3 => ⟨c, L3, ([1, 3, 9] : List Int).map V.int, B + 2, rfl, upd_same, ne_new ch2 n3, by decide, by decide, ch2.same (same_new n3), by omega, fun H3 j3 x3 hx3 bt3 ch3 => ?_⟩⟩
    obtain ⟨m3, hm3, rfl⟩ := int_at hx3
    have b3 : 1 ≤ m3 ∧ m3 ≤ 9 := (by decide : ∀ m ∈ ([1, 3, 9] : List Int), 1 ≤ m ∧ m ≤ 9) m3 hm3
    have b23 := pos_mul b2.1 b2.2 b3.1 b3.2
    refine ⟨m2, m3, rfl, rfl, .inl ⟨by omega, by omega⟩, .int (m2 * m3), rfl, ?_⟩
    refine ⟨.ref c, rfl, ln 6 (by decide), fun L4 n4 => ⟨c, L4, ([1, 5, 7, 11, 35, 101] : List Int).map V.int, B + 3, rfl, upd_same, ne_new ch3 n4, by decide, by decide, ch3.same (same_new n4), by omega, fun H4 j4 x4 hx4 bt4 ch4 => ?_⟩⟩
    obtain ⟨m4, hm4, rfl⟩ := int_at hx4
    have b4 : 1 ≤ m4 ∧ m4 ≤ 101 := (by decide : ∀ m ∈ ([1, 5, 7, 11, 35, 101] : List Int), 1 ≤ m ∧ m ≤ 101) m4 hm4
    have b5 := pos_mul b23.1 b23.2 b4.1 b4.2
    refine ⟨m2 * m3, m4, rfl, rfl, .inl ⟨by omega, by omega⟩, ?_⟩
    have b6 := pos_mul b5.1 b5.2 (show 1 ≤ 1 + r by omega) (show 1 + r ≤ 60 by omega)
    refine ⟨.ref c, rfl, .int (1 + r), rfl, .int (m2 * m3 * m4), rfl, .int (m2 * m3 * m4), rfl, .int (1 + r), rfl, m2 * m3 * m4, 1 + r, rfl, rfl, .inl ⟨by omega, by omega⟩, ?_⟩
    refine ⟨.ref c, rfl, 10, 4, rfl, rfl, ⟨by decide, by decide, by decide⟩, c, 10000, B + 4, rfl, by decide, by decide, ch4, by omega, fun H5 r5 r50 r51 bt5 ch5 => ⟨1, r5, rfl, rfl, 10, 4, rfl, rfl, ⟨by decide, by decide, by decide⟩, ln 5 (by decide), fun L5 n5 => ?_⟩⟩
    refine ⟨c, L5, ([1 + r, m2 * m3 * m4, m2 * m3 * m4 * (1 + r), 1 + r5, 10000] : List Int).map V.int, B + 5, rfl, upd_same, ne_new ch5 n5, by show 0 < 5; decide, by show 5 < 1000; decide, ch5.same (same_new n5), by omega, fun H6 j6 x6 hx6 bt6 ch6 => ?_⟩
    obtain ⟨m6, hm6, rfl⟩ := int_at hx6
    have b7 : 1 ≤ m6 ∧ m6 ≤ 100000000 := by
      simp only [List.mem_cons, List.not_mem_nil, or_false] at hm6
      rcases hm6 with rfl | rfl | rfl | rfl | rfl <;> omega
    refine ⟨.int m6, rfl, 10, 5, rfl, rfl, ⟨by decide, by decide, by decide⟩, m6, 100000, rfl, ?_⟩
    refine ⟨.ref c, rfl, 1, rfl, ln 2 (by decide), fun L7 n7 => ⟨c, L7, ([1, -1] : List Int).map V.int, B + 6, rfl, upd_same, ne_new ch6 n7, by decide, by decide, ch6.same (same_new n7), by omega, fun H7 j7 x7 hx7 bt7 ch7 => ?_⟩⟩
    obtain ⟨m7, hm7, rfl⟩ := int_at hx7
    have b8 : m7 = 1 ∨ m7 = -1 := by simpa using hm7
    have b9 : ∀ z : Int, 1 ≤ z → z ≤ 100000 → z * m7 ≠ 0 ∧ (z * m7).natAbs ≤ 100000 := by
      intro z z1 z2
      rcases b8 with rfl | rfl <;> omega
    have b10 : 1 ≤ (if (100000 : Int) < m6 then 100000 else m6) ∧ (if (100000 : Int) < m6 then 100000 else m6) ≤ 100000 := by split <;> omega
    obtain ⟨v0, vm⟩ := b9 _ b10.1 b10.2
    refine ⟨_, m7, rfl, rfl, .inl ⟨by show -(2 ^ 64) < (if (100000 : Int) < m6 then (100000 : Int) else m6); omega, by show (if (100000 : Int) < m6 then (100000 : Int) else m6) < 2 ^ 64; omega⟩, ?_⟩
    refine q H7 _ v0 vm ?_ ch7
    exact bt1.trans ((But.new n1).trans (bt2.trans ((But.new n3).trans (bt3.trans ((But.new n4).trans (bt4.trans (bt5.trans ((But.new n5).trans (bt6.trans ((But.new n7).trans bt7))))))))))
end
end K27

namespace K27
open PySem PySem.Spec PyProof.Rows L2 NT
def bodyOf : Stmt → List Stmt
  | .For _ _ b _ _ => b
  | _ => []
/-! ### tuples of integers, as data -/
def iD (R : List Nat) : List PyData := R.map fun n : Nat => PyData.int n
theorem iD_facts : ∀ R : List Nat, (∀ q ∈ R, q < 1073741824) → PyData.showableAll (iD R) = true ∧ PyData.hasDictAll (iD R) = false ∧ PyData.depthAll (iD R) = 0 ∧ PyData.leavesShortAll 13 (iD R) = true ∧ PyData.weightAll (iD R) ≤ 40 * R.length
  | [], _ => ⟨rfl, rfl, rfl, rfl, by decide⟩
  | x :: R, h => by
    obtain ⟨h1, h2, h3, h4, h5⟩ := iD_facts R fun q hq => h q (by simp [hq])
    have hx := h x (by simp)
    have lg : (x : Int).natAbs.log2 < 1920 := by
      have e : (x : Int).natAbs = x := rfl
      rw [e]
      by_cases z : x = 0
      · rw [z]; decide
      · rw [Nat.log2_lt z]
        exact Nat.lt_trans hx (by decide +kernel)
    have sh := PyData.shown_int_le (i := (x : Int)) (by have : (x : Int).natAbs = x := rfl; omega)
    have w1 : (PyData.int (x : Int)).weight ≤ 30 := by
      simp [PyData.weight]
      split
      · decide
      · rename_i z
        have := (Nat.log2_lt z).mpr (show x < 2 ^ 30 from hx)
        omega
    refine ⟨?_, ?_, ?_, ?_, ?_⟩
    · show PyData.showableAll (PyData.int x :: iD R) = true
      rw [PyData.showableAll.eq_2, PyData.showable.eq_4, h1, decide_eq_true lg]; rfl
    · show PyData.hasDictAll (PyData.int x :: iD R) = false
      rw [PyData.hasDictAll.eq_2, PyData.hasDict.eq_3, h2]; rfl
    · show PyData.depthAll (PyData.int x :: iD R) = 0
      rw [PyData.depthAll.eq_2, h3]; rfl
    · show PyData.leavesShortAll 13 (PyData.int x :: iD R) = true
      rw [PyData.leavesShortAll.eq_2, PyData.leavesShort.eq_3, h4, decide_eq_true sh]; rfl
    · show PyData.weightAll (PyData.int x :: iD R) ≤ 40 * (x :: R).length
      rw [PyData.weightAll.eq_2, List.length_cons]
      omega
/-- a list of two such tuples -/
def dd2 (R : List Nat) : PyData := .list [.tuple (iD R), .tuple (iD R)]
theorem dd2_facts {R : List Nat} (h : ∀ q ∈ R, q < 1073741824) (hl : R.length < 64) : (dd2 R).showable = true ∧ (dd2 R).hasDict = false ∧ (dd2 R).depth < 60 ∧ (dd2 R).shown.length ≤ sizeLine := by
  obtain ⟨h1, h2, h3, h4, h5⟩ := iD_facts R h
  refine ⟨?_, ?_, ?_, ?_⟩
  · show ((PyData.showableAll (iD R)) && ((PyData.showableAll (iD R)) && true)) = true
    rw [h1]; rfl
  · show ((PyData.hasDictAll (iD R)) || ((PyData.hasDictAll (iD R)) || false)) = false
    rw [h2]; rfl
  · show (max (PyData.depthAll (iD R) + 1) (max (PyData.depthAll (iD R) + 1) 0)) + 1 < 60
    rw [h3]; decide
  · refine PyData.shown_fits (B := 13) (by decide) (by decide) ?_ ?_
    · show ((PyData.leavesShortAll 13 (iD R)) && ((PyData.leavesShortAll 13 (iD R)) && true)) = true
      rw [h4]; rfl
    · show PyData.weightAll (iD R) + 1 + (PyData.weightAll (iD R) + 1 + 0) ≤ 2 ^ 20
      omega
section
variable {P : Program} {w : World} {K : PySem.W.Frag} {mg : Str → Option Value} {base : Heap}
theorem dpAll {H : Hp} : ∀ R : List Nat, DpAll K H (iV R) (iD R)
  | [] => .nil
  | x :: R => .cons (.int _) (dpAll R)
theorem dpT {H : Hp} {t : Addr} {R : List Nat} (h : H t = some (.tup (iV R))) : Dp K H (.ref t) (.tuple (iD R)) := .tup (.inl (.inl h)) (dpAll R)
theorem dp2 {H : Hp} {l t u : Addr} {R : List Nat} (hl : H l = some (.lst [.ref t, .ref u])) (ht : H t = some (.tup (iV R))) (hu : H u = some (.tup (iV R))) : Dp K H (.ref l) (dd2 R) :=
  .lst (.inl (.inl hl)) (.cons (dpT ht) (.cons (dpT hu) .nil))
theorem ints3 {S : Int} (h : S = 1 ∨ S = -1) : (PyData.list [.int S, .int S, .int S]).showable = true ∧ (PyData.list [.int S, .int S, .int S]).hasDict = false ∧ (PyData.list [.int S, .int S, .int S]).depth < 60 ∧ (PyData.list [.int S, .int S, .int S]).shown.length ≤ sizeLine := by
  rcases h with rfl | rfl
  · exact ⟨by decide +kernel, rfl, by decide +kernel, by decide +kernel⟩
  · exact ⟨by decide +kernel, rfl, by decide +kernel, by decide +kernel⟩
theorem dp3i {H : Hp} {a : Addr} {x y z : Int} (h : H a = some (.lst [.int x, .int y, .int z])) : Dp K H (.ref a) (.list [.int x, .int y, .int z]) :=
  .lst (.inl (.inl h)) (.cons (.int _) (.cons (.int _) (.cons (.int _) .nil)))
/-- sign(place = .., other = .., number = ..) -/
theorem sign_kw {f : Addr} {fd : FuncData} (F : Fun K "sign" "sign" sSign f fd) : KBn K fd ["number", "other", "place"] 0 ["place", "other", "number"] (fun _ ws => [ws.getD 2 .none, ws.getD 1 .none, ws.getD 0 .none]) (fun _ zs => [zs.getD 2 .non, zs.getD 1 .non, zs.getD 0 .non]) := by
  obtain ⟨_, _, kV, doc, pm, an, cdv, ct, _, rfl, _, _⟩ := F.ex
  refine ⟨fun s us ws X h1 h2 => .of_eq ?_, fun _ rz => ?_⟩
  · match us, ws, h1, h2 with
    | [], [_, _, _], _, _ => rfl
  · cases rz with
    | nil => exact .cons rfl (.cons rfl (.cons rfl .nil))
    | cons r1 r2 =>
      cases r2 with
      | nil => exact .cons rfl (.cons rfl (.cons r1 .nil))
      | cons r2 r3 =>
        cases r3 with
        | nil => exact .cons rfl (.cons r2 (.cons r1 .nil))
        | cons r3 _ => exact .cons r3 (.cons r2 (.cons r1 .nil))
/-- odd_places(other = .., number = ..) -/
theorem op_kw {f : Addr} {fd : FuncData} (F : Fun K "odd_places" "odd_places" sOp f fd) : KBn K fd ["number", "other"] 0 ["other", "number"] (fun _ ws => [ws.getD 1 .none, ws.getD 0 .none]) (fun _ zs => [zs.getD 1 .non, zs.getD 0 .non]) := by
  obtain ⟨_, _, kV, doc, pm, an, cdv, ct, _, rfl, _, _⟩ := F.ex
  refine ⟨fun s us ws X h1 h2 => .of_eq ?_, fun _ rz => ?_⟩
  · match us, ws, h1, h2 with
    | [], [_, _], _, _ => rfl
  · cases rz with
    | nil => exact .cons rfl (.cons rfl .nil)
    | cons r1 r2 =>
      cases r2 with
      | nil => exact .cons rfl (.cons r1 .nil)
      | cons r2 _ => exact .cons r2 (.cons r1 .nil)
/-! ### right -/
structure Knows (P : Program) (w : World) (K : PySem.W.Frag) (mg : Str → Option Value) (base : Heap) (fB fF fP fY fS fO : Addr) (dB dF dP dY dS dO : FuncData) : Prop where
  B : FnOk P w K mg base CX0 3 fB dB ["_law_chest_here"] spBig
  mB : mg "_law_big" = some (.ref fB)
  kB : PySem.W.keepIn K (.ref fB) = true
  bB : Binds K dB ["_law_chest_here"] []
  F : FnOk P w K mg base CX0 1 fF dF ["_law_chest_here", "_law_most"] spFetch
  mF : mg "_law_fetch" = some (.ref fF)
  kF : PySem.W.keepIn K (.ref fF) = true
  bF : Binds K dF ["_law_chest_here", "_law_most"] []
  R : FnOk P w K mg base CX0 1 fP dP ["_law_n"] spPof
  mP : mg "_law_primes_of" = some (.ref fP)
  kP : PySem.W.keepIn K (.ref fP) = true
  bP : Binds K dP ["_law_n"] []
  Y : FnOk P w K mg base CX0 2 fY dY ["_law_a", "_law_b", "_law_p"] spSym
  mY : mg "_law_symbol" = some (.ref fY)
  kY : PySem.W.keepIn K (.ref fY) = true
  bY : Binds K dY ["_law_a", "_law_b", "_law_p"] []
  S : FnOk P w K mg base CX0 6 fS dS ["number", "other", "place"] spH
  mS : mg "sign" = some (.ref fS)
  kS : PySem.W.keepIn K (.ref fS) = true
  bS : Binds K dS ["number", "other", "place"] []
  wS : KBn K dS ["number", "other", "place"] 0 ["place", "other", "number"] (fun _ ws => [ws.getD 2 .none, ws.getD 1 .none, ws.getD 0 .none]) (fun _ zs => [zs.getD 2 .non, zs.getD 1 .non, zs.getD 0 .non])
  O : FnOk P w K mg base CX0 6 fO dO ["number", "other"] spOp
  mO : mg "odd_places" = some (.ref fO)
  kO : PySem.W.keepIn K (.ref fO) = true
  bO : Binds K dO ["number", "other"] []
  wO : KBn K dO ["number", "other"] 0 ["other", "number"] (fun _ ws => [ws.getD 1 .none, ws.getD 0 .none]) (fun _ zs => [zs.getD 1 .non, zs.getD 0 .non])
  mr : mg "range" = none
  mp : mg "repr" = none
  mso : mg "sorted" = none
  mse : mg "set" = none
  mt : mg "tuple" = none
  mi : mg "int" = none
  ml : mg "len" = none
end
end K27

namespace K27
open PySem PySem.Spec PyProof.Rows L2 NT
section
variable {P : Program} {w : World} {K : PySem.W.Frag} {mg : Str → Option Value} {base : Heap}
def spRight : Sp := fun vs H Q _ => ∃ c : Addr, vs = [.ref c] ∧ ChB H c 10 ∧ ∀ H', But c H H' → Q (.bl true) H'
/-- one place of one pair -/
structure At (a b c : Int) (p : Nat) : Prop where
  pl : place p
  pb : p < 1073741824
  a0 : a ≠ 0
  b0 : b ≠ 0
  am : a.natAbs ≤ 100000
  bm : b.natAbs ≤ 100000
  c0 : 1 ≤ c
  cm : c ≤ 900
theorem ok_right {f fB fF fP fY fS fO : Addr} {fd dB dF dP dY dS dO : FuncData} (F : Fun K "_law_right" "_law_right" sRight f fd) (T : Knows P w K mg base fB fF fP fY fS fO dB dF dP dY dS dO) : Gu.GOk P w K mg base CX0 7 f fd ["_law_chest_here"] spRight := by
  refine Gu.GOk.fun F scRight (fun vs H Q E h => ?_) (fun cdv A out s H vs Q E hG hr h => ?_)
  · obtain ⟨c, rfl, _⟩ := h
    rfl
  · obtain ⟨ch, rfl, hC, q⟩ := h
    have hu : A.units + 3 + 64 < cLine := hr.units
    have nd := scRight.nd
    have hl3 : 3 ≤ sizeLine := by decide
    have ln : ∀ n : Nat, n ≤ 1000 → n ≤ sizeLine := fun n h => by rw [sizeLine_eq]; omega
    -- one place
    obtain ⟨tA, hA, qA⟩ : ∃ tt, PSs (cxOf CX0 P w K mg base ["_law_chest_here", "_law_lap", "_law_a", "_law_b", "_law_c", "_law_places_here", "_law_p", "_law_due", "_law_told", "_law_odd", "_law_great"] "_law_right" (defScope sRight) f cdv A out s H E).nox (bodyOf ((bodyOf ((defBody sRight).getD 0 (.Pass ⟨0, 0, 0, 0⟩))).getD 3 (.Pass ⟨0, 0, 0, 0⟩))) tt ∧
        ∀ (D : Ends) (a b c : Int) (p : Nat) (x0 x1 x5 x7 x8 x9 x10 : Option V) H1, At a b c p →
          (∀ H' x7 x8, Same H1 H' → D.nx [x0, x1, some (.int a), some (.int b), some (.int c), x5, some (.int p), x7, x8, x9, x10] H') →
          tt D [x0, x1, some (.int a), some (.int b), some (.int c), x5, some (.int p), x7, x8, x9, x10] H1 := by
      refine ⟨_, pss_cons (ps_set (i := 7) nd rfl (.inl rfl) (pe_call T.Y (hr.mono (by decide)) (by rfl) T.mY T.kY T.bY .nil pass0 (pa_cons (pv 2) (pa_cons (pv 3) (pa_cons (pv 6) pa_nil)))))
        (pss_cons (ps_set (i := 8) nd rfl (.inl rfl) (pe_lst (pa_cons (pe_call T.S hr (by rfl) T.mS T.kS T.bS .nil pass0 (pa_cons (pv 2) (pa_cons (pv 3) (pa_cons (pv 6) pa_nil))))
          (pa_cons (pe_call T.S hr (by rfl) T.mS T.kS T.bS .nil pass0 (pa_cons (pv 3) (pa_cons (pv 2) (pa_cons (pv 6) pa_nil))))
          (pa_cons (Gu.pe_callO T.S hr (by rfl) T.mS T.kS T.wS pass0 (pk_cons (pv 6) (pk_cons (pv 3) (pk_cons (pv 2) pk_nil)))) pa_nil)))))
        (pss_cons (ps_if (PW.pt (pw_or (pt_cmpR op_ne (pe_callB (Gu.call_reprD hG hu) (by rfl) T.mp boot_repr (pa_cons (pv 8) pa_nil)) (pe_callB (Gu.call_reprD hG hu) (by rfl) T.mp boot_repr (pa_cons (pe_lst (pa_cons (pv 7) (pa_cons (pv 7) (pa_cons (pv 7) pa_nil)))) pa_nil)) (nomark _))
            (pw_or1 (pt_cmpR op_ne (pe_call T.S hr (by rfl) T.mS T.kS T.bS .nil pass0 (pa_cons (pv 2) (pa_cons (pe_op op_sub pe_int (pv 2)) (pa_cons (pv 6) pa_nil)))) pe_int (nomark _))))) (pss_one (ps_ret pe_bl)) pss_nil)
        (pss_one (ps_if (PW.pt (pw_or (pt_cmpR op_ne (pe_call T.S hr (by rfl) T.mS T.kS T.bS .nil pass0 (pa_cons (pv 2) (pa_cons (pe_op op_mul (pv 3) (pv 4)) (pa_cons (pv 6) pa_nil)))) (pe_op op_mul (pv 7) (pe_call T.S hr (by rfl) T.mS T.kS T.bS .nil pass0 (pa_cons (pv 2) (pa_cons (pv 4) (pa_cons (pv 6) pa_nil))))) (nomark _))
            (pw_or1 (PW.pt (pw_and (pt_cmpR op_ne (pv 2) pe_int (nomark _)) (pw_and1 (pt_cmpR op_ne (pe_call T.S hr (by rfl) T.mS T.kS T.bS .nil pass0 (pa_cons (pv 2) (pa_cons (pe_op op_sub pe_int (pv 2)) (pa_cons (pv 6) pa_nil)))) pe_int (nomark _)))))))) (pss_one (ps_ret pe_bl)) pss_nil)))), ?_⟩
      intro D a b c p x0 x1 x5 x7 x8 x9 x10 H1 h k
      have pl := h.pl
      have pb := h.pb
      have a0 := h.a0
      have b0 := h.b0
      have am := h.am
      have bm := h.bm
      have c0 := h.c0
      have cm := h.cm
      have bcm : (b * c).natAbs ≤ 100000 * 900 := by rw [Int.natAbs_mul]; exact Nat.mul_le_mul bm (by omega)
      have bc0 : b * c ≠ 0 := Int.mul_ne_zero b0 (by omega)
      have sm1 : ∀ x y : Int, x ≠ 0 → y ≠ 0 → hs p x y = 1 ∨ hs p x y = -1 := fun x y h1 h2 => hs_pm pl h1 h2
      obtain ⟨f1, f2, f3, f4⟩ := ints3 (sm1 a b a0 b0)
      refine ⟨.int a, rfl, .int b, rfl, .int p, rfl, a, b, p, rfl, pl, pb, a0, b0, by omega, by omega, fun H2 s2 => ?_⟩
      refine ⟨.int a, rfl, .int b, rfl, .int p, rfl, a, b, p, rfl, pl, pb, a0, b0, by omega, by omega, fun H3 s3 => ?_⟩
      refine ⟨.int b, rfl, .int a, rfl, .int p, rfl, b, a, p, rfl, pl, pb, b0, a0, by omega, by omega, fun H4 s4 => ?_⟩
      rw [hs_comm pl b0 a0]
      refine ⟨.int p, rfl, .int b, rfl, .int a, rfl, rfl, a, b, p, rfl, pl, pb, a0, b0, by omega, by omega, fun H5 s5 => ⟨hl3, fun L nL => ?_⟩⟩
      refine ⟨.ref L, rfl, L, _, rfl, dp3i upd_same, f1, f2, f3, f4, .int _, rfl, .int _, rfl, .int _, rfl, hl3, fun L2 nL2 => ⟨L2, _, rfl, dp3i upd_same, f1, f2, f3, f4, rfl, _, rfl, ne_ite (fun z => absurd rfl z) (fun _ => ?_)⟩⟩
      have s6 := s2.trans (s3.trans (s4.trans (s5.trans ((same_new (o := .lst [.int (hs p a b), .int (hs p a b), .int (hs p a b)]) nL).trans (same_new (o := .lst [.int (hs p a b), .int (hs p a b), .int (hs p a b)]) nL2)))))
      refine ⟨.int a, rfl, .int a, rfl, 0, a, rfl, rfl, .int p, rfl, a, 0 - a, p, rfl, pl, pb, a0, by omega, by omega, by omega, fun H7 s7 => ⟨rfl, _, rfl, ne_ite (fun z => absurd (congrArg V.int (by rw [Int.zero_sub]; exact hs_opp pl a0)) z) (fun _ => ?_)⟩⟩
      refine ⟨.int a, rfl, .int b, rfl, .int c, rfl, b, c, rfl, rfl, .inl ⟨by omega, by omega⟩, .int p, rfl, a, b * c, p, rfl, pl, pb, a0, bc0, by omega, by omega, fun H8 s8 => ?_⟩
      refine ⟨.int (hs p a b), rfl, .int a, rfl, .int c, rfl, .int p, rfl, a, c, p, rfl, pl, pb, a0, by omega, by omega, by omega, fun H9 s9 => ?_⟩
      refine ⟨hs p a b, hs p a c, rfl, rfl, .inl ⟨by rcases sm1 a b a0 b0 with e | e <;> rw [e] <;> decide, by rcases sm1 a b a0 b0 with e | e <;> rw [e] <;> decide⟩, rfl, _, rfl, ne_ite (fun z => absurd (congrArg V.int (hs_mul pl a0 b0 (by omega))) z) (fun _ => ?_)⟩
      refine ⟨.int a, rfl, rfl, _, rfl, ne_ite (fun z => ?_) (fun _ => ?_)⟩
      · have a1 : a ≠ 1 := fun e => z (congrArg V.int e)
        refine ⟨.int a, rfl, .int a, rfl, 1, a, rfl, rfl, .int p, rfl, a, 1 - a, p, rfl, pl, pb, a0, by omega, by omega, by omega, fun H10 s10 => ⟨rfl, _, rfl, ne_ite (fun z => absurd (congrArg V.int (hs_sum1 pl a0 a1)) z) (fun _ => ?_)⟩⟩
        exact k _ _ _ (s6.trans (s7.trans (s8.trans (s9.trans s10))))
      · exact k _ _ _ (s6.trans (s7.trans (s8.trans s9)))
    refine ⟨_, pss_cons (ps_for PassesOwn.never rfl (pi_range1 rfl T.mr (pa_cons pe_int pa_nil)) (pg_name (i := 1) nd rfl (.inl rfl))
          (pss_cons (ps_asg (pe_tup (pa_cons (pe_call T.B (hr.mono (by decide)) (by rfl) T.mB T.kB T.bB .nil pass0 (pa_cons (pv 0) pa_nil)) (pa_cons (pe_call T.B (hr.mono (by decide)) (by rfl) T.mB T.kB T.bB .nil pass0 (pa_cons (pv 0) pa_nil)) pa_nil))) (pg_tup rfl (pgs_cons (pg_name (i := 2) nd rfl (.inr rfl)) (pgs_cons (pg_name (i := 3) nd rfl (.inr rfl)) pgs_nil))))
          (pss_cons (ps_set (i := 4) nd rfl (.inl rfl) (pe_op op_add pe_int (pe_call T.F (hr.mono (by decide)) (by rfl) T.mF T.kF T.bF .nil pass0 (pa_cons (pv 0) (pa_cons pe_int pa_nil)))))
          (pss_cons (ps_set (i := 5) nd rfl (.inl rfl) (pe_callB (cr_sortedSet rfl) (by rfl) T.mso boot_sorted (pa_cons (pe_callTy (SetL.cr_setOfI rfl) (by rfl) T.mse boot_set (pa_cons (pe_op op_cat (pe_op op_cat (pe_lst (pa_cons pe_int pa_nil)) (pe_call T.R (hr.mono (by decide)) (by rfl) T.mP T.kP T.bP .nil pass0 (pa_cons (pv 2) pa_nil))) (pe_call T.R (hr.mono (by decide)) (by rfl) T.mP T.kP T.bP .nil pass0 (pa_cons (pv 3) pa_nil))) pa_nil)) pa_nil)))
          (pss_cons (ps_for PassesOwn.never rfl (pi_list (pe_op op_cat (pv 5) (pe_lst (pa_cons pe_int (pa_cons pe_int (pa_cons pe_int (pa_cons pe_int pa_nil))))))) (pg_name (i := 6) nd rfl (.inl rfl)) hA)
          (pss_cons (ps_set (i := 9) nd rfl (.inl rfl) (pe_callTy call_tuple_of (by rfl) T.mt boot_tuple (pa_cons (pe_lc (own := [("_law_p", 6)]) (g := gName 6) rfl nd (pi_list (pv 5)) (blkOk_by (N := ["_law_chest_here", "_law_lap", "_law_a", "_law_b", "_law_c", "_law_places_here", "_law_p", "_law_due", "_law_told", "_law_odd", "_law_great"]) (sc := defScope sRight) (by decide +kernel)) (fun _ _ _ _ _ => pg_name (i := 6) nd rfl (.inl rfl)) (fun _ _ _ _ _ => pts_one (pt_cmpR op_eq (pe_call T.Y (hr.mono (by decide)) (by rfl) T.mY T.kY T.bY .nil pass0 (pa_cons (pv 2) (pa_cons (pv 3) (pa_cons (pv 6) pa_nil)))) (pe_un un_neg pe_int) (nomark _))) (fun _ _ _ _ _ => pv 6)) pa_nil)))
          (pss_one (ps_if (PW.pt (pw_or (pt_cmpR op_ne (pe_callB (Gu.call_reprD hG hu) (by rfl) T.mp boot_repr (pa_cons (pe_lst (pa_cons (pe_call T.O hr (by rfl) T.mO T.kO T.bO .nil pass0 (pa_cons (pv 2) (pa_cons (pv 3) pa_nil))) (pa_cons (Gu.pe_callO T.O hr (by rfl) T.mO T.kO T.wO pass0 (pk_cons (pv 3) (pk_cons (pv 2) pk_nil))) pa_nil))) pa_nil)) (pe_callB (Gu.call_reprD hG hu) (by rfl) T.mp boot_repr (pa_cons (pe_lst (pa_cons (pv 9) (pa_cons (pv 9) pa_nil))) pa_nil)) (nomark _)) (pw_or1 (pt_cmpR op_ne (pe_op op_mod (pe_callTy call_int1 (by rfl) T.mi boot_int (pa_cons (pe_callB call_len_seq (by rfl) T.ml PySem.boot_len (pa_cons (pv 9) pa_nil)) pa_nil)) pe_int) pe_int (nomark _))))) (pss_one (ps_ret pe_bl)) pss_nil))))))))
      (pss_cons (ps_set (i := 10) nd rfl (.inl rfl) (pe_op op_pow pe_int pe_int))
      (pss_one (ps_ret (pe_and (pe_cmpR (op_eqD (X := (cxOf CX0 P w K mg base ["_law_chest_here", "_law_lap", "_law_a", "_law_b", "_law_c", "_law_places_here", "_law_p", "_law_due", "_law_told", "_law_odd", "_law_great"] "_law_right" (defScope sRight) f cdv A out s H E).nox) hu) (pe_call T.O hr (by rfl) T.mO T.kO T.bO .nil pass0 (pa_cons pe_int (pa_cons (pv 2) pa_nil))) (pe_tup pa_nil) (nomark _)) (pe_and (pe_cmpR op_eq (pe_call T.S hr (by rfl) T.mS T.kS T.bS .nil pass0 (pa_cons (pv 10) (pa_cons (pe_un un_neg (pv 10)) (pa_cons pe_int pa_nil)))) pe_int (nomark _)) (pe_one (pe_cmpR op_eq (pe_call T.S hr (by rfl) T.mS T.kS T.bS .nil pass0 (pa_cons (pe_un un_neg pe_int) (pa_cons (pe_un un_neg (pv 10)) (pa_cons pe_int pa_nil)))) (pe_un un_neg pe_int) (nomark _)))))))), ?_⟩
    have pr : ∀ p ∈ ([3, 5, 97, 10007] : List Nat), Prime p ∧ p < 1073741824 := by
      intro p hp
      simp only [List.mem_cons, List.not_mem_nil, or_false] at hp
      rcases hp with rfl | rfl | rfl | rfl
      · exact ⟨prime_by 2 (by decide), by decide⟩
      · exact ⟨prime_by 3 (by decide), by decide⟩
      · exact ⟨prime_by 10 (by decide), by decide⟩
      · exact ⟨prime_by 101 (by decide +kernel), by decide⟩
    refine ⟨3, rfl, by decide, by decide, for_range (n := ((3 : Int).toNat)) (fun i σ H' => But ch H H' ∧ ChB H' ch (10 + 20 * i) ∧ ∃ x1 x2 x3 x4 x5 x6 x7 x8 x9 x10, σ = [some (.ref ch), x1, x2, x3, x4, x5, x6, x7, x8, x9, x10] ∧ (i = 0 ∨ ∃ a : Int, x2 = some (.int a) ∧ a ≠ 0 ∧ a.natAbs ≤ 100000))
      ⟨.refl, hC, _, _, _, _, _, _, _, _, _, _, rfl, .inl rfl⟩ ?_ ?_⟩
    · rintro i σ H1 hi ⟨bt, cB, x1, x2, x3, x4, x5, x6, x7, x8, x9, x10, rfl, _⟩
      have hi3 : i < 3 := hi
      refine ⟨.ref ch, rfl, ch, _, rfl, cB, by omega, fun H2 a a0 am bt2 cB2 => ?_⟩
      refine ⟨.ref ch, rfl, ch, _, rfl, cB2, by omega, fun H3 b b0 bm bt3 cB3 => ⟨ln 2 (by decide), fun t nt => ?_⟩⟩
      refine ⟨t, _, rfl, .inl (.inl upd_same), rfl, _, _, rfl, _, _, rfl, rfl, ?_⟩
      have cB3' := cB3.same (same_new (o := .tup [.int a, .int b]) nt)
      refine ⟨.ref ch, rfl, ch, 900, _, rfl, by decide, by decide, cB3', by omega, fun H4 r r0 r1 bt4 cB4 => ⟨1, r, rfl, rfl, ?_⟩⟩
      have btA : But ch H H4 := bt.trans (bt2.trans (bt3.trans ((But.new nt).trans bt4)))
      refine ⟨ln 1 (by decide), fun L0 n0 => ⟨.int a, rfl, a, rfl, a0, am, fun H5 D1 p1 nD1 s5 hD1 tp1 => ?_⟩⟩
      have l1 : (iV p1).length < 30 := by rw [iV, List.length_map]; exact tp1.2.1
      have l0 : (iV [0]).length = 1 := rfl
      have g0 : H5 L0 = some (.lst (iV [0])) := s5 _ _ upd_same
      refine ⟨L0, D1, _, _, rfl, rfl, g0, hD1, by rw [sizeLine_eq]; omega, fun C1 nC1 => ?_⟩
      refine ⟨.int b, rfl, b, rfl, b0, bm, fun H6 D2 p2 nD2 s6 hD2 tp2 => ?_⟩
      have l2 : (iV p2).length < 30 := by rw [iV, List.length_map]; exact tp2.2.1
      have g1 : H6 C1 = some (.lst (iV [0] ++ iV p1)) := s6 _ _ upd_same
      refine ⟨C1, D2, _, _, rfl, rfl, g1, hD2, by rw [sizeLine_eq, List.length_append]; omega, fun C2 nC2 => ?_⟩
      have eL : iV [0] ++ iV p1 ++ iV p2 = (([0] ++ p1 ++ p2 : List Nat).map (fun n : Nat => (n : Int))).map V.int := by
        rw [iV_int, iV, iV, iV, iV, List.map_append, List.map_append]
      have lt : ([0] ++ p1 ++ p2 : List Nat).length < 62 := by
        have := tp1.2.1
        have := tp2.2.1
        rw [List.length_append, List.length_append]
        show 1 + p1.length + p2.length < 62
        omega
      refine ⟨C2, _, rfl, .inl (.inl (by rw [eL]; exact upd_same)), by rw [List.length_map]; omega, fun S n nS hn => ?_⟩
      rw [List.length_map] at hn
      refine ⟨S, _, n, rfl, upd_same, by omega, fun ns Ra hpw hmem hlen nRa => ?_⟩
      obtain ⟨R, hA, hE, hM⟩ := asc_of hpw hmem
      have sR : Same H4 (upd (upd (upd H6 C2 (.lst (iV [0] ++ iV p1 ++ iV p2))) S (SetO w S (fun j => decide (j ∈ (([0] ++ p1 ++ p2 : List Nat).map (fun n : Nat => (n : Int))))) n)) Ra (.lst (ns.map V.int))) :=
        (same_new n0).trans (s5.trans ((same_new nC1).trans (s6.trans ((same_new nC2).trans ((same_new nS).trans (same_new nRa))))))
      have hR : (upd (upd (upd H6 C2 (.lst (iV [0] ++ iV p1 ++ iV p2))) S (SetO w S (fun j => decide (j ∈ (([0] ++ p1 ++ p2 : List Nat).map (fun n : Nat => (n : Int))))) n)) Ra (.lst (ns.map V.int))) Ra = some (.lst (iV R)) := by rw [upd_same, hE]
      have mem : ∀ x, x ∈ R ↔ Pl a b x := fun x => by
        rw [hM, List.mem_append, List.mem_append, tp1.2.2, tp2.2.2]
        unfold Pl
        simp only [List.mem_cons, List.not_mem_nil, or_false]
        constructor
        · rintro ((h | (h | h)) | (h | h))
          · exact .inl h
          · exact .inr (.inl h)
          · exact .inr (.inr ⟨h.1, .inl h.2⟩)
          · exact .inr (.inl h)
          · exact .inr (.inr ⟨h.1, .inr h.2⟩)
        · rintro (h | h | ⟨h, h2 | h2⟩)
          · exact .inl (.inl h)
          · exact .inl (.inr (.inl h))
          · exact .inl (.inr (.inr ⟨h, h2⟩))
          · exact .inr (.inr ⟨h, h2⟩)
      have lR : R.length < 64 := by
        have h := congrArg List.length hE
        rw [List.length_map, iV, List.length_map, hlen] at h
        omega
      have lR' : (iV R).length < 64 := by rw [iV, List.length_map]; exact lR
      generalize hHb : upd (upd (upd H6 C2 _) S _) Ra _ = Hb
      have sb : Same H4 Hb := by rw [← hHb]; exact sR
      have hRa : Hb Ra = some (.lst (iV R)) := by rw [← hHb]; exact hR
      refine ⟨.ref Ra, rfl, ln 4 (by decide), fun L4 n4 => ?_⟩
      refine ⟨Ra, L4, _, _, rfl, rfl, same_new n4 _ _ hRa, upd_same, ?_, fun C4 nC4 => ?_⟩
      · rw [sizeLine_eq]
        show (iV R).length + 4 ≤ 16777216
        omega
      have sc : Same Hb (upd (upd Hb L4 (.lst (iV [3, 5, 97, 10007]))) C4 (.lst (iV R ++ iV [3, 5, 97, 10007]))) := (same_new n4).trans (same_new nC4)
      refine ⟨C4, rfl, ⟨_, .inl (.inl upd_same)⟩, for_list (xs := iV R ++ iV [3, 5, 97, 10007]) (fun j σ H' => Same (upd (upd Hb L4 (.lst (iV [3, 5, 97, 10007]))) C4 (.lst (iV R ++ iV [3, 5, 97, 10007]))) H' ∧ ∃ y6 y7 y8, σ = [some (.ref ch), some (.int (0 + (i : Int))), some (.int a), some (.int b), some (.int (1 + r)), some (.ref Ra), y6, y7, y8, x9, x10])
        ⟨.refl _, _, _, _, rfl⟩ (fun _ _ H' _ z => .inl (.inl (z.1 _ _ upd_same))) ?_ ?_⟩
      · rintro j x σ H7 hx ⟨s7, y6, y7, y8, rfl⟩
        have e : iV R ++ iV [3, 5, 97, 10007] = iV (R ++ [3, 5, 97, 10007]) := by rw [iV, iV, iV, List.map_append]
        rw [e, iV, List.getElem?_map] at hx
        obtain ⟨p, hp, rfl⟩ := Option.map_eq_some_iff.mp hx
        have hat : At a b (1 + r) p := by
          rcases List.mem_append.mp (List.mem_of_getElem? hp) with h | h
          · have hpl := (mem p).mp h
            exact ⟨hpl.place, hpl.le a0 b0 (by omega) (by omega), a0, b0, am, bm, by omega, by omega⟩
          · exact ⟨.inr (pr p h).1, (pr p h).2, a0, b0, am, bm, by omega, by omega⟩
        exact qA _ a b (1 + r) p _ _ _ _ _ _ _ H7 hat fun H8 z7 z8 s8 => ⟨s7.trans s8, _, _, _, rfl⟩
      · rintro σ H7 ⟨s7, y6, y7, y8, rfl⟩
        have hR7 : H7 Ra = some (.lst (iV R)) := s7 _ _ (sc _ _ hRa)
        have s47 : Same H4 H7 := sb.trans (sc.trans s7)
        refine ⟨.ref Ra, rfl, Ra, rfl, ⟨_, .inl (.inl hR7)⟩, fun D nD => lc_list (xs := iV R) (fun i H' => Same H7 H' ∧ H' D = some (.lst (iV ((R.take i).filter fun x => decide (hs x a b = -1))))) ⟨same_new nD, upd_same⟩ (fun i H' _ z => .inl (.inl (z.1 _ _ hR7))) ?_ ?_⟩
        · rintro j x H' hx ⟨sm, hD⟩
          rw [iV, List.getElem?_map] at hx
          obtain ⟨v, hv, rfl⟩ := Option.map_eq_some_iff.mp hx
          have vR := List.mem_of_getElem? hv
          have vP := (mem v).mp vR
          have tk : R.take (j + 1) = R.take j ++ [v] := by rw [List.take_add_one, hv]; rfl
          refine ⟨rfl, .int a, rfl, .int b, rfl, .int v, rfl, a, b, v, rfl, vP.place, vP.le a0 b0 (by omega) (by omega), a0, b0, by omega, by omega, fun H3 s3 => ⟨1, rfl, rfl, _, rfl, ?_⟩⟩
          have hD3 := s3 _ _ hD
          refine ite2 (fun y => ?_) (fun y => ?_)
          · have hy : hs v a b = -1 := V.int.inj (of_decide_eq_true y)
            refine ⟨.int v, rfl, _, hD3, ?_, fun b o e => ?_, ?_⟩
            · rw [iV, List.length_map, sizeLine_eq]
              have h1 := List.length_filter_le (fun x => decide (hs x a b = -1)) (R.take j)
              have h2 : (R.take j).length ≤ R.length := by rw [List.length_take]; omega
              omega
            · rw [upd_ne (ne_of_none e nD)]
              exact s3 _ _ (sm _ _ e)
            · rw [upd_same, tk, List.filter_append, List.filter_cons_of_pos (by rw [hy]; rfl), List.filter_nil, iV, iV, List.map_append]
              rfl
          · have hy : hs v a b ≠ -1 := fun h => y (decide_eq_true (congrArg V.int h))
            refine ⟨sm.trans s3, ?_⟩
            rw [tk, List.filter_append, List.filter_cons_of_neg (by rw [decide_eq_true_iff]; exact hy), List.filter_nil, List.append_nil]
            exact hD3
        · rintro H8 ⟨s8, hD⟩
          have le : (iV R).length = R.length := by rw [iV, List.length_map]
          rw [le, List.take_length] at hD
          refine ⟨D, _, rfl, .inl ⟨.inl (.inl hD), fun l nl => ?_⟩⟩
          have s4l := s47.trans (s8.trans (same_new (o := .tup (iV (R.filter fun x => decide (hs x a b = -1)))) nl))
          have hl := upd_same (H := H8) (a := l) (o := .tup (iV (R.filter fun x => decide (hs x a b = -1))))
          have even := odd_even (L := R) ⟨hA.nodup, fun p hp => ((mem p).mp hp).place, (mem 0).mpr (.inl rfl), (mem 2).mpr (.inr (.inl rfl))⟩ a0 b0 (fun q hq hd => (mem q).mpr (.inr (.inr ⟨hq, .inl hd⟩))) (fun q hq hd => (mem q).mpr (.inr (.inr ⟨hq, .inr hd⟩)))
          generalize hRo : (R.filter fun x => decide (hs x a b = -1)) = Ro at *
          have ascRo : Asc Ro := by rw [← hRo]; exact List.Pairwise.filter _ hA
          have memRo : ∀ x, x ∈ Ro ↔ OddPl a b x := fun x => by
            rw [← hRo, List.mem_filter, mem, decide_eq_true_iff]
            rfl
          have ltRo : ∀ q ∈ Ro, q < 1073741824 := fun q hq => ((memRo q).mp hq).1.le a0 b0 (by omega) (by omega)
          have lRo : Ro.length < 64 := by rw [← hRo]; exact Nat.lt_of_le_of_lt (List.length_filter_le _ _) lR
          obtain ⟨f1, f2, f3, f4⟩ := dd2_facts ltRo lRo
          refine ⟨.int a, rfl, .int b, rfl, a, b, rfl, a0, b0, by omega, by omega, fun H9 t1 R1 n1 s9 h1 asc1 len1 mem1 => ?_⟩
          have e1 : R1 = Ro := asc_unique asc1 ascRo fun x => by rw [mem1, memRo]
          subst e1
          refine ⟨.int b, rfl, .int a, rfl, rfl, a, b, rfl, a0, b0, by omega, by omega, fun H10 t2 R2 n2 s10 h2 asc2 len2 mem2 => ⟨ln 2 (by decide), fun L nL => ?_⟩⟩
          have e2 : R2 = R1 := asc_unique asc2 ascRo fun x => by rw [mem2, memRo]
          subst e2
          have sL := same_new (o := .lst [.ref t1, .ref t2]) nL
          refine ⟨L, _, rfl, dp2 upd_same (sL _ _ (s10 _ _ h1)) (sL _ _ h2), f1, f2, f3, f4, .ref l, rfl, .ref l, rfl, ln 2 (by decide), fun L2 nL2 => ?_⟩
          have sL2 := same_new (o := .lst [.ref l, .ref l]) nL2
          have hl2 := sL2 _ _ (sL _ _ (s10 _ _ (s9 _ _ hl)))
          refine ⟨L2, _, rfl, dp2 upd_same hl2 hl2, f1, f2, f3, f4, rfl, _, rfl, ne_ite (fun z => absurd rfl z) (fun _ => ?_)⟩
          refine ⟨.ref l, rfl, l, _, rfl, .inr (.inl (.inl hl2)), .inl ⟨_, rfl, _, 2, rfl, rfl, (by show (0 : Int) < 2; decide), rfl, _, rfl, ne_ite (fun z => ?_) (fun _ => ?_)⟩⟩
          · refine absurd (congrArg V.int ?_) z
            rw [iV, List.length_map]
            omega
          · have sAll := s4l.trans (s9.trans (s10.trans (sL.trans sL2)))
            exact ⟨btA.trans (.same sAll), (cB4.same sAll).mono (by omega), _, _, _, _, _, _, _, _, _, _, rfl, .inr ⟨a, rfl, a0, am⟩⟩
    · rintro σ H1 ⟨bt, cB, x1, x2, x3, x4, x5, x6, x7, x8, x9, x10, rfl, hx⟩
      obtain ⟨a, rfl, a0, am⟩ := hx.resolve_left (by decide)
      refine ⟨10, 9, rfl, rfl, ⟨by decide, by decide, by decide⟩, ?_⟩
      refine ⟨.int a, rfl, 1, a, rfl, by decide, a0, by decide, by omega, fun H2 t R n1 s2 h1 asc len mem => ?_⟩
      have eR : R = [] := by
        match R, mem with
        | [], _ => rfl
        | x :: R, mem =>
          exfalso
          have h := (mem x).mp (by simp)
          have h2 := h.2
          rw [hs_comm h.1.place (by decide) a0, hs_one h.1.place a0] at h2
          exact absurd h2 (by decide)
      subst eR
      refine ⟨ln 0 (by decide), fun e ne => ?_⟩
      have se := same_new (o := .tup []) ne
      refine ⟨.tuple [], .tuple [], .tup (.inl (.inl (se _ _ h1))) .nil, .tup (.inl (.inl upd_same)) .nil, rfl, rfl, true, rfl, iteT ?_⟩
      have v1 : hs 0 1000000000 (-1000000000) = 1 := hs_opp (.inl rfl) (by decide)
      have v2 : hs 0 (-1) (-1000000000) = -1 := by rw [hs_zero]; decide
      refine ⟨.int 1000000000, rfl, .int 1000000000, rfl, 1000000000, rfl, 1000000000, -1000000000, 0, rfl, .inl rfl, by decide, by decide, by decide, by decide, by decide, fun H3 s3 => ?_⟩
      rw [v1]
      refine ⟨rfl, true, rfl, iteT ?_⟩
      refine ⟨1, rfl, .int 1000000000, rfl, 1000000000, rfl, -1, -1000000000, 0, rfl, .inl rfl, by decide, by decide, by decide, by decide, by decide, fun H4 s4 => ?_⟩
      rw [v2]
      refine ⟨1, rfl, rfl, ?_⟩
      exact q _ (bt.trans (.same (s2.trans (se.trans (s3.trans s4)))))
end
end K27

namespace K27
open PySem PySem.Spec PyProof.Rows L2 NT
section
variable {P : Program} {w : World} {K : PySem.W.Frag} {mg : Str → Option Value} {base : Heap}
def spLaw (K : PySem.W.Frag) : Sp := fun vs H Q _ => ∃ (a : Addr) (ns : List Int), vs = [.ref a] ∧ SqL K H a (ns.map V.int) ∧ ns.length ≤ 63 ∧ ∀ H', Q (.bl true) H'
theorem ok_law {f fC fR : Addr} {fd dC dR : FuncData} (F : Fun K "law" "law" sLaw f fd) (GC : FnOk P w K mg base CX0 1 fC dC ["_law_script", "_law_at"] (spChest K)) (mC : mg "_law_chest" = some (.ref fC)) (kC : PySem.W.keepIn K (.ref fC) = true) (bC : Binds K dC ["_law_script", "_law_at"] [])
    (GR : Gu.GOk P w K mg base CX0 7 fR dR ["_law_chest_here"] spRight) (mR : mg "_law_right" = some (.ref fR)) (kR : PySem.W.keepIn K (.ref fR) = true) (bR : Binds K dR ["_law_chest_here"] []) (ma : mg "all" = none) (mr : mg "range" = none) (mm : mg "max" = none) (mn : mg "min" = none) (ml : mg "len" = none) :
    Gu.GOk P w K mg base CX0 8 f fd ["_law_script"] (spLaw K) := by
  refine Gu.GOk.fun F scLaw (fun vs H Q E h => ?_) (fun cdv A out s H vs Q E hG hr h => ?_)
  · obtain ⟨a, ns, rfl, _⟩ := h
    rfl
  · obtain ⟨a, ns, rfl, hS, hl, q⟩ := h
    refine ⟨_, pss_one (ps_ret (pe_callB (cr_all rfl) (by rfl) ma boot_all (pa_cons (pe_lc (own := [("_law_at", 1)]) (g := gName 1) (tt := tYes) rfl scLaw.nd
        (pi_range1 rfl mr (pa_cons (pe_callB (call_max2 rfl) (by rfl) mm boot_max (pa_cons pe_int (pa_cons (pe_callB (call_min2 rfl) (by rfl) mn boot_min (pa_cons (pe_callB call_len_seq (by rfl) ml PySem.boot_len (pa_cons (pv 0) pa_nil)) (pa_cons pe_int pa_nil))) pa_nil))) pa_nil))
        (blkOk_by (N := ["_law_script", "_law_at"]) (sc := defScope sLaw) (by decide +kernel)) (fun _ _ _ _ _ => pg_name (i := 1) scLaw.nd rfl (.inl rfl)) (fun _ _ _ _ _ => pts_nil)
        (fun _ _ _ _ _ => Gu.pe_callG GR hG hr (by rfl) mR kR bR .nil pass0 (pa_cons (pe_call GC (hr.mono (by decide)) (by rfl) mC kC bC .nil pass0 (pa_cons (pv 0) (pa_cons (pv 1) pa_nil))) pa_nil))) pa_nil))), ?_⟩
    refine ⟨.ref a, rfl, a, _, rfl, .inl hS, _, 3, rfl, 2, _, rfl, _, rfl, ?_⟩
    generalize hj : (if (if (3 : Int) < ((ns.map V.int).length : Nat) then (3 : Int) else ((ns.map V.int).length : Nat)) > 2 then (if (3 : Int) < ((ns.map V.int).length : Nat) then (3 : Int) else ((ns.map V.int).length : Nat)) else 2) = j
    have j3 : j ≤ 3 ∧ 0 ≤ j := by
      rw [← hj]
      constructor <;> repeat' split
      all_goals omega
    refine ⟨by omega, by omega, fun D nD => lc_range (lo := 0) (n := j.toNat) (fun i H' => Same H H' ∧ H' D = some (.lst ((List.replicate i true).map V.bl))) ⟨same_new nD, upd_same⟩ ?_ ?_⟩
    · rintro i H' hi ⟨sm, hD⟩
      have e0 : (0 : Int) + i = i := by omega
      rw [e0]
      refine ⟨rfl, .ref a, rfl, .int i, rfl, a, ns, i, rfl, sm.seq hS, by omega, hl, fun H2 c s2 nc ch => ⟨c, rfl, ch.mono (by decide), fun H3 bt => ?_⟩⟩
      have Dc : D ≠ c := fun e => by rw [e, nc] at hD; cases hD
      refine ⟨_, bt _ _ Dc (s2 _ _ hD), ?_, fun b o e => ?_, ?_⟩
      · rw [List.length_map, List.length_replicate, sizeLine_eq]; omega
      · rw [upd_ne (ne_of_none e nD)]
        have e1 := sm _ _ e
        have bc : b ≠ c := fun z => by rw [z, nc] at e1; cases e1
        exact bt _ _ bc (s2 _ _ e1)
      · rw [upd_same, List.replicate_succ', List.map_append]
        rfl
    · rintro H' ⟨sm, hD⟩
      refine ⟨D, _, rfl, .inl (.inl hD), to (q _) (congrArg V.bl ?_)⟩
      rw [List.all_replicate]
      cases j.toNat <;> rfl
end
theorem all_mk {l : PySem.W.OpenLaw} {w : World} {K : PySem.W.Frag} {h : Heap} {mg : Str → Option Value} {fa : Addr} (X : K.In h) (G : h.Ns mainGlobals mg) (hfa : mg "law" = some (.ref fa))
    {fX1 : Addr} {odX1 anX1 : Option Addr} {slX1 : Array (Option Value)} {ocX1 kVX1 dcX1 pmX1 cdX1 ctX1 : Value} {fX2 : Addr} {odX2 anX2 : Option Addr} {slX2 : Array (Option Value)} {ocX2 kVX2 dcX2 pmX2 cdX2 ctX2 : Value} {fX3 : Addr} {odX3 anX3 : Option Addr} {slX3 : Array (Option Value)} {ocX3 kVX3 dcX3 pmX3 cdX3 ctX3 : Value} {fX0 : Addr} {odX0 anX0 : Option Addr} {slX0 : Array (Option Value)} {ocX0 kVX0 dcX0 pmX0 cdX0 ctX0 : Value} {fY0 : Addr} {odY0 anY0 : Option Addr} {slY0 : Array (Option Value)} {ocY0 kVY0 dcY0 pmY0 cdY0 ctY0 : Value} {fX4 : Addr} {odX4 anX4 : Option Addr} {slX4 : Array (Option Value)} {ocX4 kVX4 dcX4 pmX4 cdX4 ctX4 : Value} {fX5 : Addr} {odX5 anX5 : Option Addr} {slX5 : Array (Option Value)} {ocX5 kVX5 dcX5 pmX5 cdX5 ctX5 : Value} {fX6 : Addr} {odX6 anX6 : Option Addr} {slX6 : Array (Option Value)} {ocX6 kVX6 dcX6 pmX6 cdX6 ctX6 : Value} {fX7 : Addr} {odX7 anX7 : Option Addr} {slX7 : Array (Option Value)} {ocX7 kVX7 dcX7 pmX7 cdX7 ctX7 : Value} {fX8 : Addr} {odX8 anX8 : Option Addr} {slX8 : Array (Option Value)} {ocX8 kVX8 dcX8 pmX8 cdX8 ctX8 : Value} {fX9 : Addr} {odX9 anX9 : Option Addr} {slX9 : Array (Option Value)} {ocX9 kVX9 dcX9 pmX9 cdX9 ctX9 : Value} {fY4 : Addr} {odY4 anY4 : Option Addr} {slY4 : Array (Option Value)} {ocY4 kVY4 dcY4 pmY4 cdY4 ctY4 : Value} {fY5 : Addr} {odY5 anY5 : Option Addr} {slY5 : Array (Option Value)} {ocY5 kVY5 dcY5 pmY5 cdY5 ctY5 : Value} {fY1 : Addr} {odY1 anY1 : Option Addr} {slY1 : Array (Option Value)} {ocY1 kVY1 dcY1 pmY1 cdY1 ctY1 : Value} {fY2 : Addr} {odY2 anY2 : Option Addr} {slY2 : Array (Option Value)} {ocY2 kVY2 dcY2 pmY2 cdY2 ctY2 : Value} {fY3 : Addr} {odY3 anY3 : Option Addr} {slY3 : Array (Option Value)} {ocY3 kVY3 dcY3 pmY3 cdY3 ctY3 : Value} {fA : Addr} {odA anA : Option Addr} {slA : Array (Option Value)} {ocA kVA dcA pmA cdA ctA : Value} {fB : Addr} {odB anB : Option Addr} {slB : Array (Option Value)} {ocB kVB dcB pmB cdB ctB : Value} {fC : Addr} {odC anC : Option Addr} {slC : Array (Option Value)} {ocC kVC dcC pmC cdC ctC : Value} {fD : Addr} {odD anD : Option Addr} {slD : Array (Option Value)} {ocD kVD dcD pmD cdD ctD : Value} {fE : Addr} {odE anE : Option Addr} {slE : Array (Option Value)} {ocE kVE dcE pmE cdE ctE : Value} {fF : Addr} {odF anF : Option Addr} {slF : Array (Option Value)} {ocF kVF dcF pmF cdF ctF : Value} {fI : Addr} {odI anI : Option Addr} {slI : Array (Option Value)} {ocI kVI dcI pmI cdI ctI : Value} {fJ : Addr} {odJ anJ : Option Addr} {slJ : Array (Option Value)} {ocJ kVJ dcJ pmJ cdJ ctJ : Value} {fR : Addr} {odR anR : Option Addr} {slR : Array (Option Value)} {ocR kVR dcR pmR cdR ctR : Value} {fS : Addr} {odS anS : Option Addr} {slS : Array (Option Value)} {ocS kVS dcS pmS cdS ctS : Value} {t1 t2 : Tok} {aW : Addr} {dW : Option Addr} {its : Array Value} {nW : Nat} {slW : Array (Option Value)}
    (aX1 : PySem.W.nsIn K mainGlobals "is_integer" = some (some (.ref fX1))) (lX1 : K.lookup fX1 = some ⟨ocX1, odX1, .func (PySem.W.fnOf "is_integer" "is_integer" (defArgs sInt) (defBody sInt) (defScope sInt) .none kVX1 dcX1 pmX1 anX1 cdX1 ctX1), slX1⟩) (cX1 : PySem.W.codeIn K cdX1 "is_integer" = true) (kX1 : PySem.W.keepIn K (.ref fX1) = true)
    (aX2 : PySem.W.nsIn K mainGlobals "is_within" = some (some (.ref fX2))) (lX2 : K.lookup fX2 = some ⟨ocX2, odX2, .func (PySem.W.fnOf "is_within" "is_within" (defArgs sWithin) (defBody sWithin) (defScope sWithin) .none kVX2 dcX2 pmX2 anX2 cdX2 ctX2), slX2⟩) (cX2 : PySem.W.codeIn K cdX2 "is_within" = true) (kX2 : PySem.W.keepIn K (.ref fX2) = true)
    (aX3 : PySem.W.nsIn K mainGlobals "check_other_than_nought" = some (some (.ref fX3))) (lX3 : K.lookup fX3 = some ⟨ocX3, odX3, .func (PySem.W.fnOf "check_other_than_nought" "check_other_than_nought" (defArgs sOther) (defBody sOther) (defScope sOther) .none kVX3 dcX3 pmX3 anX3 cdX3 ctX3), slX3⟩) (cX3 : PySem.W.codeIn K cdX3 "check_other_than_nought" = true) (kX3 : PySem.W.keepIn K (.ref fX3) = true)
    (aX0 : PySem.W.nsIn K mainGlobals "is_other_than_nought" = some (some (.ref fX0))) (lX0 : K.lookup fX0 = some ⟨ocX0, odX0, .func (PySem.W.fnOf "is_other_than_nought" "is_other_than_nought" (defArgs sIsOther) (defBody sIsOther) (defScope sIsOther) .none kVX0 dcX0 pmX0 anX0 cdX0 ctX0), slX0⟩) (cX0 : PySem.W.codeIn K cdX0 "is_other_than_nought" = true) (kX0 : PySem.W.keepIn K (.ref fX0) = true)
    (aY0 : PySem.W.nsIn K mainGlobals "is_place" = some (some (.ref fY0))) (lY0 : K.lookup fY0 = some ⟨ocY0, odY0, .func (PySem.W.fnOf "is_place" "is_place" (defArgs sIsPlace) (defBody sIsPlace) (defScope sIsPlace) .none kVY0 dcY0 pmY0 anY0 cdY0 ctY0), slY0⟩) (cY0 : PySem.W.codeIn K cdY0 "is_place" = true) (kY0 : PySem.W.keepIn K (.ref fY0) = true)
    (aX4 : PySem.W.nsIn K mainGlobals "power_rest" = some (some (.ref fX4))) (lX4 : K.lookup fX4 = some ⟨ocX4, odX4, .func (PySem.W.fnOf "power_rest" "power_rest" (defArgs sPow) (defBody sPow) (defScope sPow) .none kVX4 dcX4 pmX4 anX4 cdX4 ctX4), slX4⟩) (cX4 : PySem.W.codeIn K cdX4 "power_rest" = true) (kX4 : PySem.W.keepIn K (.ref fX4) = true)
    (aX5 : PySem.W.nsIn K mainGlobals "split_power" = some (some (.ref fX5))) (lX5 : K.lookup fX5 = some ⟨ocX5, odX5, .func (PySem.W.fnOf "split_power" "split_power" (defArgs sSplit) (defBody sSplit) (defScope sSplit) .none kVX5 dcX5 pmX5 anX5 cdX5 ctX5), slX5⟩) (cX5 : PySem.W.codeIn K cdX5 "split_power" = true) (kX5 : PySem.W.keepIn K (.ref fX5) = true)
    (aX6 : PySem.W.nsIn K mainGlobals "is_passed" = some (some (.ref fX6))) (lX6 : K.lookup fX6 = some ⟨ocX6, odX6, .func (PySem.W.fnOf "is_passed" "is_passed" (defArgs sPassed) (defBody sPassed) (defScope sPassed) .none kVX6 dcX6 pmX6 anX6 cdX6 ctX6), slX6⟩) (cX6 : PySem.W.codeIn K cdX6 "is_passed" = true) (kX6 : PySem.W.keepIn K (.ref fX6) = true)
    (aX7 : PySem.W.nsIn K mainGlobals "is_prime" = some (some (.ref fX7))) (lX7 : K.lookup fX7 = some ⟨ocX7, odX7, .func (PySem.W.fnOf "is_prime" "is_prime" (defArgs sPrime) (defBody sPrime) (defScope sPrime) .none kVX7 dcX7 pmX7 anX7 cdX7 ctX7), slX7⟩) (cX7 : PySem.W.codeIn K cdX7 "is_prime" = true) (kX7 : PySem.W.keepIn K (.ref fX7) = true)
    (aX8 : PySem.W.nsIn K mainGlobals "is_square_rest" = some (some (.ref fX8))) (lX8 : K.lookup fX8 = some ⟨ocX8, odX8, .func (PySem.W.fnOf "is_square_rest" "is_square_rest" (defArgs sSqRest) (defBody sSqRest) (defScope sSqRest) .none kVX8 dcX8 pmX8 anX8 cdX8 ctX8), slX8⟩) (cX8 : PySem.W.codeIn K cdX8 "is_square_rest" = true) (kX8 : PySem.W.keepIn K (.ref fX8) = true)
    (aX9 : PySem.W.nsIn K mainGlobals "require_place" = some (some (.ref fX9))) (lX9 : K.lookup fX9 = some ⟨ocX9, odX9, .func (PySem.W.fnOf "require_place" "require_place" (defArgs sPlace) (defBody sPlace) (defScope sPlace) .none kVX9 dcX9 pmX9 anX9 cdX9 ctX9), slX9⟩) (cX9 : PySem.W.codeIn K cdX9 "require_place" = true) (kX9 : PySem.W.keepIn K (.ref fX9) = true)
    (aY4 : PySem.W.nsIn K mainGlobals "prime_divisors" = some (some (.ref fY4))) (lY4 : K.lookup fY4 = some ⟨ocY4, odY4, .func (PySem.W.fnOf "prime_divisors" "prime_divisors" (defArgs sPd) (defBody sPd) (defScope sPd) .none kVY4 dcY4 pmY4 anY4 cdY4 ctY4), slY4⟩) (cY4 : PySem.W.codeIn K cdY4 "prime_divisors" = true) (kY4 : PySem.W.keepIn K (.ref fY4) = true)
    (aY5 : PySem.W.nsIn K mainGlobals "odd_places" = some (some (.ref fY5))) (lY5 : K.lookup fY5 = some ⟨ocY5, odY5, .func (PySem.W.fnOf "odd_places" "odd_places" (defArgs sOp) (defBody sOp) (defScope sOp) .none kVY5 dcY5 pmY5 anY5 cdY5 ctY5), slY5⟩) (cY5 : PySem.W.codeIn K cdY5 "odd_places" = true) (kY5 : PySem.W.keepIn K (.ref fY5) = true)
    (aY1 : PySem.W.nsIn K mainGlobals "sign" = some (some (.ref fY1))) (lY1 : K.lookup fY1 = some ⟨ocY1, odY1, .func (PySem.W.fnOf "sign" "sign" (defArgs sSign) (defBody sSign) (defScope sSign) .none kVY1 dcY1 pmY1 anY1 cdY1 ctY1), slY1⟩) (cY1 : PySem.W.codeIn K cdY1 "sign" = true) (kY1 : PySem.W.keepIn K (.ref fY1) = true)
    (aY2 : PySem.W.nsIn K mainGlobals "sign_at" = some (some (.ref fY2))) (lY2 : K.lookup fY2 = some ⟨ocY2, odY2, .func (PySem.W.fnOf "sign_at" "sign_at" (defArgs sSignAt) (defBody sSignAt) (defScope sSignAt) .none kVY2 dcY2 pmY2 anY2 cdY2 ctY2), slY2⟩) (cY2 : PySem.W.codeIn K cdY2 "sign_at" = true) (kY2 : PySem.W.keepIn K (.ref fY2) = true)
    (aY3 : PySem.W.nsIn K mainGlobals "odd_for" = some (some (.ref fY3))) (lY3 : K.lookup fY3 = some ⟨ocY3, odY3, .func (PySem.W.fnOf "odd_for" "odd_for" (defArgs sOddFor) (defBody sOddFor) (defScope sOddFor) .none kVY3 dcY3 pmY3 anY3 cdY3 ctY3), slY3⟩) (cY3 : PySem.W.codeIn K cdY3 "odd_for" = true) (kY3 : PySem.W.keepIn K (.ref fY3) = true)
    (aA : PySem.W.nsIn K mainGlobals "_law_chest" = some (some (.ref fA))) (lA : K.lookup fA = some ⟨ocA, odA, .func (PySem.W.fnOf "_law_chest" "_law_chest" (defArgs sChest) (defBody sChest) (defScope sChest) .none kVA dcA pmA anA cdA ctA), slA⟩) (cA : PySem.W.codeIn K cdA "_law_chest" = true) (kA : PySem.W.keepIn K (.ref fA) = true)
    (aB : PySem.W.nsIn K mainGlobals "_law_fetch" = some (some (.ref fB))) (lB : K.lookup fB = some ⟨ocB, odB, .func (PySem.W.fnOf "_law_fetch" "_law_fetch" (defArgs sFetch) (defBody sFetch) (defScope sFetch) .none kVB dcB pmB anB cdB ctB), slB⟩) (cB : PySem.W.codeIn K cdB "_law_fetch" = true) (kB : PySem.W.keepIn K (.ref fB) = true)
    (aC : PySem.W.nsIn K mainGlobals "_law_choose" = some (some (.ref fC))) (lC : K.lookup fC = some ⟨ocC, odC, .func (PySem.W.fnOf "_law_choose" "_law_choose" (defArgs sChoose) (defBody sChoose) (defScope sChoose) .none kVC dcC pmC anC cdC ctC), slC⟩) (cC : PySem.W.codeIn K cdC "_law_choose" = true) (kC : PySem.W.keepIn K (.ref fC) = true)
    (aD : PySem.W.nsIn K mainGlobals "_law_split" = some (some (.ref fD))) (lD : K.lookup fD = some ⟨ocD, odD, .func (PySem.W.fnOf "_law_split" "_law_split" (defArgs sSpl) (defBody sSpl) (defScope sSpl) .none kVD dcD pmD anD cdD ctD), slD⟩) (cD : PySem.W.codeIn K cdD "_law_split" = true) (kD : PySem.W.keepIn K (.ref fD) = true)
    (aE : PySem.W.nsIn K mainGlobals "_law_rest_sign" = some (some (.ref fE))) (lE : K.lookup fE = some ⟨ocE, odE, .func (PySem.W.fnOf "_law_rest_sign" "_law_rest_sign" (defArgs sRs) (defBody sRs) (defScope sRs) .none kVE dcE pmE anE cdE ctE), slE⟩) (cE : PySem.W.codeIn K cdE "_law_rest_sign" = true) (kE : PySem.W.keepIn K (.ref fE) = true)
    (aF : PySem.W.nsIn K mainGlobals "_law_symbol" = some (some (.ref fF))) (lF : K.lookup fF = some ⟨ocF, odF, .func (PySem.W.fnOf "_law_symbol" "_law_symbol" (defArgs sSym) (defBody sSym) (defScope sSym) .none kVF dcF pmF anF cdF ctF), slF⟩) (cF : PySem.W.codeIn K cdF "_law_symbol" = true) (kF : PySem.W.keepIn K (.ref fF) = true)
    (aI : PySem.W.nsIn K mainGlobals "_law_primes_of" = some (some (.ref fI))) (lI : K.lookup fI = some ⟨ocI, odI, .func (PySem.W.fnOf "_law_primes_of" "_law_primes_of" (defArgs sPof) (defBody sPof) (defScope sPof) .none kVI dcI pmI anI cdI ctI), slI⟩) (cI : PySem.W.codeIn K cdI "_law_primes_of" = true) (kI : PySem.W.keepIn K (.ref fI) = true)
    (aJ : PySem.W.nsIn K mainGlobals "_law_big" = some (some (.ref fJ))) (lJ : K.lookup fJ = some ⟨ocJ, odJ, .func (PySem.W.fnOf "_law_big" "_law_big" (defArgs sBig) (defBody sBig) (defScope sBig) .none kVJ dcJ pmJ anJ cdJ ctJ), slJ⟩) (cJ : PySem.W.codeIn K cdJ "_law_big" = true) (kJ : PySem.W.keepIn K (.ref fJ) = true)
    (aR : PySem.W.nsIn K mainGlobals "_law_right" = some (some (.ref fR))) (lR : K.lookup fR = some ⟨ocR, odR, .func (PySem.W.fnOf "_law_right" "_law_right" (defArgs sRight) (defBody sRight) (defScope sRight) .none kVR dcR pmR anR cdR ctR), slR⟩) (cR : PySem.W.codeIn K cdR "_law_right" = true) (kR : PySem.W.keepIn K (.ref fR) = true)
    (aS : PySem.W.nsIn K mainGlobals "law" = some (some (.ref fS))) (lS : K.lookup fS = some ⟨ocS, odS, .func (PySem.W.fnOf "law" "law" (defArgs sLaw) (defBody sLaw) (defScope sLaw) .none kVS dcS pmS anS cdS ctS), slS⟩) (cS : PySem.W.codeIn K cdS "law" = true) (kS : PySem.W.keepIn K (.ref fS) = true)
    (z_isinstance : PySem.W.nsIn K mainGlobals "isinstance" = some none)
    (z_int : PySem.W.nsIn K mainGlobals "int" = some none)
    (z_bool : PySem.W.nsIn K mainGlobals "bool" = some none)
    (z_range : PySem.W.nsIn K mainGlobals "range" = some none)
    (z_len : PySem.W.nsIn K mainGlobals "len" = some none)
    (z_divmod : PySem.W.nsIn K mainGlobals "divmod" = some none)
    (z_abs : PySem.W.nsIn K mainGlobals "abs" = some none)
    (z_max : PySem.W.nsIn K mainGlobals "max" = some none)
    (z_min : PySem.W.nsIn K mainGlobals "min" = some none)
    (z_all : PySem.W.nsIn K mainGlobals "all" = some none)
    (z_repr : PySem.W.nsIn K mainGlobals "repr" = some none)
    (z_sorted : PySem.W.nsIn K mainGlobals "sorted" = some none)
    (z_set : PySem.W.nsIn K mainGlobals "set" = some none)
    (z_tuple : PySem.W.nsIn K mainGlobals "tuple" = some none)
    (gS : PySem.W.nsIn K mainGlobals "MOST_SIZE" = some (some (.int (10 ^ 12) t1))) (gO : PySem.W.nsIn K mainGlobals "MOST_OPERAND" = some (some (.int (10 ^ 9) t2))) (gW : PySem.W.nsIn K mainGlobals "WITNESSES" = some (some (.ref aW))) (lW : K.lookup aW = some ⟨.type "tuple", dW, .seq its nW, slW⟩) (vW : Vals (W5.map V.int) its.toList) (zW : its.size ≤ sizeLine) :
    ∃ fd : FuncData, (∀ (s : Shared) (v : Value), BindsTo s fd ⟨[v], []⟩ [("_law_script", v)]) ∧ ∀ base : Heap, K.In base → base.Ns mainGlobals mg → Gu.GOk l.prog w K mg base CX0 8 fa fd ["_law_script"] (spLaw K) := by
  have e := hfa.symm.trans (PySem.W.mg_of X G aS)
  cases e
  have FX1 := fun_mk (st := sInt) lX1 cX1 kX1
  have mX1 := PySem.W.mg_of X G aX1
  have bX1 := FX1.binds (ps := ["value"]) fun _ _ _ _ _ _ us hl => match us, hl with | [_], _ => rfl
  have FX2 := fun_mk (st := sWithin) lX2 cX2 kX2
  have mX2 := PySem.W.mg_of X G aX2
  have bX2 := FX2.binds (ps := ["value", "least", "most"]) fun _ _ _ _ _ _ us hl => match us, hl with | [_, _, _], _ => rfl
  have FX3 := fun_mk (st := sOther) lX3 cX3 kX3
  have mX3 := PySem.W.mg_of X G aX3
  have bX3 := FX3.binds (ps := ["number", "size"]) fun _ _ _ _ _ _ us hl => match us, hl with | [_, _], _ => rfl
  have FX0 := fun_mk (st := sIsOther) lX0 cX0 kX0
  have mX0 := PySem.W.mg_of X G aX0
  have bX0 := FX0.binds (ps := ["value", "size"]) fun _ _ _ _ _ _ us hl => match us, hl with | [_, _], _ => rfl
  have FY0 := fun_mk (st := sIsPlace) lY0 cY0 kY0
  have mY0 := PySem.W.mg_of X G aY0
  have bY0 := FY0.binds (ps := ["value"]) fun _ _ _ _ _ _ us hl => match us, hl with | [_], _ => rfl
  have FX4 := fun_mk (st := sPow) lX4 cX4 kX4
  have mX4 := PySem.W.mg_of X G aX4
  have bX4 := FX4.binds (ps := ["base", "exponent", "modulus"]) fun _ _ _ _ _ _ us hl => match us, hl with | [_, _, _], _ => rfl
  have FX5 := fun_mk (st := sSplit) lX5 cX5 kX5
  have mX5 := PySem.W.mg_of X G aX5
  have bX5 := FX5.binds (ps := ["number", "prime"]) fun _ _ _ _ _ _ us hl => match us, hl with | [_, _], _ => rfl
  have FX6 := fun_mk (st := sPassed) lX6 cX6 kX6
  have mX6 := PySem.W.mg_of X G aX6
  have bX6 := FX6.binds (ps := ["number", "witness"]) fun _ _ _ _ _ _ us hl => match us, hl with | [_, _], _ => rfl
  have FX7 := fun_mk (st := sPrime) lX7 cX7 kX7
  have mX7 := PySem.W.mg_of X G aX7
  have bX7 := FX7.binds (ps := ["number"]) fun _ _ _ _ _ _ us hl => match us, hl with | [_], _ => rfl
  have FX8 := fun_mk (st := sSqRest) lX8 cX8 kX8
  have mX8 := PySem.W.mg_of X G aX8
  have bX8 := FX8.binds (ps := ["number", "prime"]) fun _ _ _ _ _ _ us hl => match us, hl with | [_, _], _ => rfl
  have FX9 := fun_mk (st := sPlace) lX9 cX9 kX9
  have mX9 := PySem.W.mg_of X G aX9
  have bX9 := FX9.binds (ps := ["place"]) fun _ _ _ _ _ _ us hl => match us, hl with | [_], _ => rfl
  have FY4 := fun_mk (st := sPd) lY4 cY4 kY4
  have mY4 := PySem.W.mg_of X G aY4
  have bY4 := FY4.binds (ps := ["number"]) fun _ _ _ _ _ _ us hl => match us, hl with | [_], _ => rfl
  have FY5 := fun_mk (st := sOp) lY5 cY5 kY5
  have mY5 := PySem.W.mg_of X G aY5
  have bY5 := FY5.binds (ps := ["number", "other"]) fun _ _ _ _ _ _ us hl => match us, hl with | [_, _], _ => rfl
  have FY1 := fun_mk (st := sSign) lY1 cY1 kY1
  have mY1 := PySem.W.mg_of X G aY1
  have bY1 := FY1.binds (ps := ["number", "other", "place"]) fun _ _ _ _ _ _ us hl => match us, hl with | [_, _, _], _ => rfl
  have FY2 := fun_mk (st := sSignAt) lY2 cY2 kY2
  have mY2 := PySem.W.mg_of X G aY2
  have bY2 := FY2.binds (ps := ["number", "other", "place"]) fun _ _ _ _ _ _ us hl => match us, hl with | [_, _, _], _ => rfl
  have FY3 := fun_mk (st := sOddFor) lY3 cY3 kY3
  have mY3 := PySem.W.mg_of X G aY3
  have bY3 := FY3.binds (ps := ["number", "prime"]) fun _ _ _ _ _ _ us hl => match us, hl with | [_, _], _ => rfl
  have FA := fun_mk (st := sChest) lA cA kA
  have mA := PySem.W.mg_of X G aA
  have bA := FA.binds (ps := ["_law_script", "_law_at"]) fun _ _ _ _ _ _ us hl => match us, hl with | [_, _], _ => rfl
  have FB := fun_mk (st := sFetch) lB cB kB
  have mB := PySem.W.mg_of X G aB
  have bB := FB.binds (ps := ["_law_chest_here", "_law_most"]) fun _ _ _ _ _ _ us hl => match us, hl with | [_, _], _ => rfl
  have FC := fun_mk (st := sChoose) lC cC kC
  have mC := PySem.W.mg_of X G aC
  have bC := FC.binds (ps := ["_law_chest_here", "_law_menu"]) fun _ _ _ _ _ _ us hl => match us, hl with | [_, _], _ => rfl
  have FD := fun_mk (st := sSpl) lD cD kD
  have mD := PySem.W.mg_of X G aD
  have bD := FD.binds (ps := ["_law_n", "_law_p"]) fun _ _ _ _ _ _ us hl => match us, hl with | [_, _], _ => rfl
  have FE := fun_mk (st := sRs) lE cE kE
  have mE := PySem.W.mg_of X G aE
  have bE := FE.binds (ps := ["_law_u", "_law_p"]) fun _ _ _ _ _ _ us hl => match us, hl with | [_, _], _ => rfl
  have FF := fun_mk (st := sSym) lF cF kF
  have mF := PySem.W.mg_of X G aF
  have bF := FF.binds (ps := ["_law_a", "_law_b", "_law_p"]) fun _ _ _ _ _ _ us hl => match us, hl with | [_, _, _], _ => rfl
  have FI := fun_mk (st := sPof) lI cI kI
  have mI := PySem.W.mg_of X G aI
  have bI := FI.binds (ps := ["_law_n"]) fun _ _ _ _ _ _ us hl => match us, hl with | [_], _ => rfl
  have FJ := fun_mk (st := sBig) lJ cJ kJ
  have mJ := PySem.W.mg_of X G aJ
  have bJ := FJ.binds (ps := ["_law_chest_here"]) fun _ _ _ _ _ _ us hl => match us, hl with | [_], _ => rfl
  have FR := fun_mk (st := sRight) lR cR kR
  have mR := PySem.W.mg_of X G aR
  have bR := FR.binds (ps := ["_law_chest_here"]) fun _ _ _ _ _ _ us hl => match us, hl with | [_], _ => rfl
  have FS := fun_mk (st := sLaw) lS cS kS
  have mS := PySem.W.mg_of X G aS
  have bS := FS.binds (ps := ["_law_script"]) fun _ _ _ _ _ _ us hl => match us, hl with | [_], _ => rfl
  have n_isinstance := PySem.W.mg_none_of X G z_isinstance
  have n_int := PySem.W.mg_none_of X G z_int
  have n_bool := PySem.W.mg_none_of X G z_bool
  have n_range := PySem.W.mg_none_of X G z_range
  have n_len := PySem.W.mg_none_of X G z_len
  have n_divmod := PySem.W.mg_none_of X G z_divmod
  have n_abs := PySem.W.mg_none_of X G z_abs
  have n_max := PySem.W.mg_none_of X G z_max
  have n_min := PySem.W.mg_none_of X G z_min
  have n_all := PySem.W.mg_none_of X G z_all
  have n_repr := PySem.W.mg_none_of X G z_repr
  have n_sorted := PySem.W.mg_none_of X G z_sorted
  have n_set := PySem.W.mg_none_of X G z_set
  have n_tuple := PySem.W.mg_none_of X G z_tuple
  have mS' := PySem.W.mg_of X G gS
  have mO' := PySem.W.mg_of X G gO
  have mW := PySem.W.mg_of X G gW
  have hW : ∀ H, SqT K H aW (W5.map V.int) := fun H => .inr ⟨_, its, nW, lW, rfl, rfl, zW, vW⟩
  refine ⟨PySem.W.fnOf "law" "law" (defArgs sLaw) (defBody sLaw) (defScope sLaw) .none kVS dcS pmS anS cdS ctS, fun s v => .of_eq rfl, fun base _ _ => ?_⟩
  have G1 : FnOk l.prog w K mg base CX0 _ _ _ _ _ := ok_int FX1 n_isinstance n_int n_bool
  have G2 : FnOk l.prog w K mg base CX0 _ _ _ _ _ := ok_within FX2 G1 mX1 kX1 bX1
  have G0 : FnOk l.prog w K mg base CX0 _ _ _ _ _ := ok_isOther FX0 G2 mX2 kX2 bX2
  have G3 : FnOk l.prog w K mg base CX0 _ _ _ _ _ := ok_other FX3 G0 mX0 kX0 bX0
  have G4 : FnOk l.prog w K mg base CX0 _ _ _ _ _ := ok_pow FX4
  have G5 : FnOk l.prog w K mg base CX0 _ _ _ _ _ := ok_split FX5
  have G6 : FnOk l.prog w K mg base CX0 _ _ _ _ _ := ok_passed FX6 G5 mX5 kX5 bX5 G4 mX4 kX4 bX4 n_range
  have G7 : FnOk l.prog w K mg base CX0 _ _ _ _ _ := ok_prime FX7 G6 mX6 kX6 bX6 mW hW n_all
  have G8 : FnOk l.prog w K mg base CX0 _ _ _ _ _ := ok_sqrest FX8 G4 mX4 kX4 bX4
  have H0 : FnOk l.prog w K mg base CX0 _ _ _ _ _ := ok_isPlace FY0 G2 mX2 kX2 bX2 G7 mX7 kX7 bX7 mS'
  have G9 : FnOk l.prog w K mg base CX0 _ _ _ _ _ := ok_place FX9 H0 mY0 kY0 bY0
  have H3 : FnOk l.prog w K mg base CX0 _ _ _ _ _ := ok_oddfor FY3 G8 mX8 kX8 bX8
  have H2 : FnOk l.prog w K mg base CX0 _ _ _ _ _ := ok_signat FY2 G5 mX5 kX5 bX5 H3 mY3 kY3 bY3
  have H2b : FnOk l.prog w K mg base CX0 _ _ _ _ _ := signAtH H2
  have H1 : FnOk l.prog w K mg base CX0 _ _ _ _ _ := signH (ok_sign FY1 G3 mX3 kX3 bX3 G9 mX9 kX9 bX9 H2 mY2 kY2 bY2 mO')
  have GA : FnOk l.prog w K mg base CX0 _ _ _ _ _ := ok_chest FA n_int n_len n_abs
  have GB : FnOk l.prog w K mg base CX0 _ _ _ _ _ := ok_fetch FB n_int n_divmod
  have GC : FnOk l.prog w K mg base CX0 _ _ _ _ _ := ok_choose FC GB mB kB bB n_len
  have GD : FnOk l.prog w K mg base CX0 _ _ _ _ _ := ok_spl FD n_int n_range
  have GE : FnOk l.prog w K mg base CX0 _ _ _ _ _ := ok_rs FE n_int n_range
  have GF : FnOk l.prog w K mg base CX0 _ _ _ _ _ := ok_sym FF GD mD kD bD GE mE kE bE n_int
  have GI : FnOk l.prog w K mg base CX0 _ _ _ _ _ := ok_pof FI n_abs n_range n_int n_sorted n_set
  have GJ : FnOk l.prog w K mg base CX0 _ _ _ _ _ := ok_big FJ GB mB kB bB GC mC kC bC n_min
  have H4 : FnOk l.prog w K mg base CX0 _ _ _ _ _ := ok_pd FY4 G5 mX5 kX5 bX5 n_abs
  have H5 : FnOk l.prog w K mg base CX0 _ _ _ _ _ := ok_op FY5 G3 mX3 kX3 bX3 H4 mY4 kY4 bY4 H2b mY2 kY2 bY2 mO' n_sorted n_set n_tuple
  exact ok_law FS GA mA kA bA (ok_right FR ⟨GJ, mJ, kJ, bJ, GB, mB, kB, bB, GI, mI, kI, bI, GF, mF, kF, bF, H1, mY1, kY1, bY1, sign_kw FY1, H5, mY5, kY5, bY5, op_kw FY5, n_range, n_repr, n_sorted, n_set, n_tuple, n_int, n_len⟩) mR kR bR n_all n_range n_max n_min n_len
end K27
open PySem PySem.W PyProof.Rows
set_option maxHeartbeats 0 in
theorem PySem.Challenge.cw_formworld_k27_whole_rules_of_signs_holds : PySem.Challenge.rw_formworld_k27_whole_rules_of_signs.Holds := by
  w_on; o_law; k_head; (case hw => w_witness2)
  k_fill
  refine Gu.walk_ofG (law := PySem.Challenge.rw_formworld_k27_whole_rules_of_signs) (n := 63) (k := 8) (x := "_law_script") (sp := fun w => K27.spLaw _) rfl (by decide) rfl ⟨rfl, by decide, by decide⟩ (fun w h Y => PySem.W.kIn_of Y) ?F (fun _ _ a ns hl _ hS => ⟨a, ns, rfl, hS, hl, fun _ => rfl⟩)
  case F =>
    intro w mg fa h KX G hmg
    refine' K27.all_mk KX G hmg ?aX1 ?lX1 ?cX1 ?kX1 ?aX2 ?lX2 ?cX2 ?kX2 ?aX3 ?lX3 ?cX3 ?kX3 ?aX0 ?lX0 ?cX0 ?kX0 ?aY0 ?lY0 ?cY0 ?kY0 ?aX4 ?lX4 ?cX4 ?kX4 ?aX5 ?lX5 ?cX5 ?kX5 ?aX6 ?lX6 ?cX6 ?kX6 ?aX7 ?lX7 ?cX7 ?kX7 ?aX8 ?lX8 ?cX8 ?kX8 ?aX9 ?lX9 ?cX9 ?kX9 ?aY4 ?lY4 ?cY4 ?kY4 ?aY5 ?lY5 ?cY5 ?kY5 ?aY1 ?lY1 ?cY1 ?kY1 ?aY2 ?lY2 ?cY2 ?kY2 ?aY3 ?lY3 ?cY3 ?kY3 ?aA ?lA ?cA ?kA ?aB ?lB ?cB ?kB ?aC ?lC ?cC ?kC ?aD ?lD ?cD ?kD ?aE ?lE ?cE ?kE ?aF ?lF ?cF ?kF ?aI ?lI ?cI ?kI ?aJ ?lJ ?cJ ?kJ ?aR ?lR ?cR ?kR ?aS ?lS ?cS ?kS ?z_isinstance ?z_int ?z_bool ?z_range ?z_len ?z_divmod ?z_abs ?z_max ?z_min ?z_all ?z_repr ?z_sorted ?z_set ?z_tuple ?gS ?gO ?gW ?lW ?vW ?zW
    (case aX1 => k_is); (case lX1 => k_is); (case cX1 => k_is); (case kX1 => k_is); (case aX2 => k_is); (case lX2 => k_is); (case cX2 => k_is); (case kX2 => k_is); (case aX3 => k_is); (case lX3 => k_is); (case cX3 => k_is); (case kX3 => k_is); (case aX0 => k_is); (case lX0 => k_is); (case cX0 => k_is); (case kX0 => k_is); (case aY0 => k_is); (case lY0 => k_is); (case cY0 => k_is); (case kY0 => k_is); (case aX4 => k_is); (case lX4 => k_is); (case cX4 => k_is); (case kX4 => k_is); (case aX5 => k_is); (case lX5 => k_is); (case cX5 => k_is); (case kX5 => k_is); (case aX6 => k_is); (case lX6 => k_is); (case cX6 => k_is); (case kX6 => k_is); (case aX7 => k_is); (case lX7 => k_is); (case cX7 => k_is); (case kX7 => k_is); (case aX8 => k_is); (case lX8 => k_is); (case cX8 => k_is); (case kX8 => k_is); (case aX9 => k_is); (case lX9 => k_is); (case cX9 => k_is); (case kX9 => k_is); (case aY4 => k_is); (case lY4 => k_is); (case cY4 => k_is); (case kY4 => k_is); (case aY5 => k_is); (case lY5 => k_is); (case cY5 => k_is); (case kY5 => k_is); (case aY1 => k_is); (case lY1 => k_is); (case cY1 => k_is); (case kY1 => k_is); (case aY2 => k_is); (case lY2 => k_is); (case cY2 => k_is); (case kY2 => k_is); (case aY3 => k_is); (case lY3 => k_is); (case cY3 => k_is); (case kY3 => k_is); (case aA => k_is); (case lA => k_is); (case cA => k_is); (case kA => k_is); (case aB => k_is); (case lB => k_is); (case cB => k_is); (case kB => k_is); (case aC => k_is); (case lC => k_is); (case cC => k_is); (case kC => k_is); (case aD => k_is); (case lD => k_is); (case cD => k_is); (case kD => k_is); (case aE => k_is); (case lE => k_is); (case cE => k_is); (case kE => k_is); (case aF => k_is); (case lF => k_is); (case cF => k_is); (case kF => k_is); (case aI => k_is); (case lI => k_is); (case cI => k_is); (case kI => k_is); (case aJ => k_is); (case lJ => k_is); (case cJ => k_is); (case kJ => k_is); (case aR => k_is); (case lR => k_is); (case cR => k_is); (case kR => k_is); (case aS => k_is); (case lS => k_is); (case cS => k_is); (case kS => k_is); (case z_isinstance => k_is); (case z_int => k_is); (case z_bool => k_is); (case z_range => k_is); (case z_len => k_is); (case z_divmod => k_is); (case z_abs => k_is); (case z_max => k_is); (case z_min => k_is); (case z_all => k_is); (case z_repr => k_is); (case z_sorted => k_is); (case z_set => k_is); (case z_tuple => k_is); (case gS => k_is); (case gO => k_is); (case gW => k_is); (case lW => k_is); (case vW => exact .cons ⟨_, rfl⟩ (.cons ⟨_, rfl⟩ (.cons ⟨_, rfl⟩ (.cons ⟨_, rfl⟩ (.cons ⟨_, rfl⟩ .nil))))); (case zW => decide)
