import PyProof.Rows.All
import Wide.All
import OpenK.AllK
import Wide.FinOn
import HandS.ForMost
import HandS.Defaults
import HandS.Style
import PyProof.ReprRoads
import HandS.IsInst
import HandS.NoneIn
import HandS.Conv
import HandS.Walk
import PySem.Challenge.RW_formworld_k26_whole_signs_by_rests
set_option Elab.async false
set_option linter.all false
set_option maxRecDepth 100000
set_option maxHeartbeats 8000000
namespace Gu
open PySem PySem.Spec PyProof.Rows L2
section
variable {P : Program} {w : World} {K : PySem.W.Frag} {mg : Str → Option Value} {base : Heap}
/-- a def's promise where no repr is under way around the call -/
structure GOk (P : Program) (w : World) (K : PySem.W.Frag) (mg : Str → Option Value) (base : Heap) (CX : CXT) (lv : Nat) (fa : Addr) (fd : FuncData) (ps : List Str) (sp : Sp) : Prop where
  size : ∀ vs H Q E, sp vs H Q E → vs.length = ps.length
  go : ∀ (B : Around) (out : List Env) (t : Shared) (H : Hp) (ar : Args) (us : List Value) (vs : List V) (Q : VK) (E : XK), B.guards = some [] → Room lv B → Env0 P w K mg base B out t H → BindsTo t fd ar (ps.zip us) → Vals vs us → sp vs H Q E →
    codeAny (model P w) B (.call (.ref fa) ar) (CR CX out P w H t Q E) t
theorem GOk.of {CX : CXT} {lv : Nat} {fa : Addr} {fd : FuncData} {ps : List Str} {sp : Sp} (F : FnOk P w K mg base CX lv fa fd ps sp) : GOk P w K mg base CX lv fa fd ps sp :=
  ⟨F.len, fun B out t H ar us vs Q E _ a b c d e => F.run B out t H ar us vs Q E a b c d e⟩
theorem GOk.mk_of {CX : CXT} {lv : Nat} {fa : Addr} {nm ql : Str} {par : Arguments} {bod : List Stmt} {sco : Scope} {dV kV doc pm cdv ct oc : Value} {an od : Option Addr} {osl : Array (Option Value)} {N ps : List Str} {sp : Sp}
    (lk : K.lookup fa = some ⟨oc, od, .func (PySem.W.fnOf nm ql par bod sco dV kV doc pm an cdv ct), osl⟩) (hcd : PySem.W.codeIn K cdv ql = true) (S : FnScope N ps sco) (size : ∀ vs H Q E, sp vs H Q E → vs.length = ps.length)
    (hb : ∀ (B : Around) (out : List Env) (t : Shared) (H : Hp) (vs : List V) (Q : VK) (E : XK), (B.deeper (envOfC ql sco t.heap.objs.size fa cdv)).guards = some [] → Room lv (B.deeper (envOfC ql sco t.heap.objs.size fa cdv)) → sp vs H Q E →
      ∃ tm, PSs (cxOf CX P w K mg base N ql sco fa cdv B out t H E) bod tm ∧ tm { nx := fun _ H' => Q .non H', rt := Q } (start N vs) H) :
    GOk P w K mg base CX (lv + 1) fa (PySem.W.fnOf nm ql par bod sco dV kV doc pm an cdv ct) ps sp := by
  refine ⟨size, fun B out t H ar us vs Q E hgd hro e0 hbd hvs hsp => ?_⟩
  have inB : ∀ b o, base.get? b = some o → t.heap.get? b = some o := fun b o z => (e0.bs b o z).1
  have KX : K.In t.heap := e0.mod.kin.keeps inB
  have noL : t.heap.NoLimit := e0.mod.nolimit.keeps inB
  have kinds : ∀ y ∈ ps.zip us, sco.names.lookup y.1 = some .local ∨ (sco.names.lookup y.1 = some .cell ∧ ((cellsFrom (t.heap.objs.size + 1) sco.names []).lookup y.1).isSome = true) := by
    rintro ⟨n, v⟩ hy
    exact (S.par n (List.of_mem_zip hy).1).imp id fun z => ⟨z, PySem.W.cellsFrom_some _ _ _ (.inl z)⟩
  refine codeAny_call_function hro.depth (KX _ _ lk) rfl S.co S.gen rfl (PySem.W.codeRec_of KX hcd) (hbd _ _ _ _ (wpAny_newFunctionEnv_cells S.kind kinds fun en he t1 x => ?_))
  subst he
  refine ⟨noL.keeps x.toInCall.keep, codeAny_func ?_⟩
  obtain ⟨tm, hp, hq⟩ := hb B out t H vs Q E hgd (hro.deeper _) hsp
  have J0 := inv_start (CX := CX) (E := E) S hro.hd e0 (size _ _ _ _ hsp) hvs x
  refine wpAny_mono (hp.run [] t1 (start N vs) H _ J0 hq) (fun fl t2 hs => ?_) fun _ _ z => z
  cases fl with
  | ret u =>
    obtain ⟨v, _, H2, J, rv, q⟩ := hs
    exact ⟨v, H2, J.os, J.bare, J.base, J.hok, rv, q⟩
  | next =>
    obtain ⟨_, H2, J, q⟩ := hs
    exact ⟨V.non, H2, J.os, J.bare, J.base, J.hok, rfl, q⟩
  | brk => obtain ⟨_, _, _, q⟩ := hs; exact q.elim
  | cont => obtain ⟨_, _, _, q⟩ := hs; exact q.elim
/-- its body as a term, as for Fun.ok -/
theorem GOk.fun {x qual : Str} {st : Stmt} {fa : Addr} {fd : FuncData} {N ps : List Str} {lv : Nat} {sp : Sp} (F : Fun K x qual st fa fd) (S : FnScope N ps (defScope st)) (size : ∀ vs H Q E, sp vs H Q E → vs.length = ps.length)
    (hb : ∀ (cdv : Value) (B : Around) (out : List Env) (t : Shared) (H : Hp) (vs : List V) (Q : VK) (E : XK), (B.deeper (envOfC qual (defScope st) t.heap.objs.size fa cdv)).guards = some [] → Room lv (B.deeper (envOfC qual (defScope st) t.heap.objs.size fa cdv)) → sp vs H Q E →
      ∃ tm, PSs (cxOf CX0 P w K mg base N qual (defScope st) fa cdv B out t H E).nox (defBody st) tm ∧ tm { nx := fun _ H' => Q .non H', rt := Q } (start N vs) H) : GOk P w K mg base CX0 (lv + 1) fa fd ps sp := by
  obtain ⟨_, _, _, _, _, _, cdv, _, _, rfl, lk, hcd⟩ := F.ex
  refine GOk.mk_of lk hcd S size fun B out t H vs Q E hg hro hsp => ?_
  obtain ⟨tm, hp, q⟩ := hb cdv B out t H vs Q E hg hro hsp
  exact ⟨tm, hp.nox, q⟩
end
section
variable {X : Cx} {CX : CXT} {k : Nat} {f : Addr} {fd : FuncData} {ps : List Str} {sp : Sp} {dvs : List V} {ds : List Value} {E : XK} {x : Str} {p pos : Pos} {e : Expr} {es : List Expr} {t tk : TA} {kws : List Keyword} {ks : List Str} {g : List Value → List Value → List Value} {gV : List V → List V → List V}
theorem ends {pins : List (Addr × Obj)} {σ : L2.St} {H : Hp} {s : Shared} {Q : VK} (hx : Passes CX X E) (I : Inv X pins σ H s) {r : Result} {s' : Shared} (hq : CR CX X.stack X.prog X.w H s Q E r s') :
    match r with | .ok (.ret u) => EP X pins σ Q u s' | .ok _ => False | .error e => X.xe e s' := by
  cases r with
  | error z => exact hx pins σ H s z s' I hq
  | ok fl =>
    cases fl with
    | ret u => exact I.after hq
    | next => exact hq.elim
    | brk => exact hq.elim
    | cont => exact hq.elim
theorem runG {pins : List (Addr × Obj)} {σ : L2.St} {H : Hp} {s : Shared} {Q : VK} {us : List Value} {vs : List V} (F : GOk X.prog X.w X.K X.mg X.base CX k f fd ps sp) (hG : X.A.guards = some []) (hr : Room k X.A) (hb : Binds X.K fd ps ds) (hd : Vals dvs ds) (hx : Passes CX X E)
    (J : Inv X pins σ H s) (rv : Vals vs us) (hsp : sp (vs ++ dvs) H Q E) : wpAny (model X.prog X.w) X.A (call (.ref f) us) (EP X pins σ Q) X.xe s := by
  have rw2 := rv.append hd
  have hl : (us ++ ds).length = ps.length := rw2.length.symm.trans (F.size _ _ _ _ hsp)
  refine wpAny_call (codeAny_mono (F.go X.A X.stack s H ⟨us, []⟩ _ _ Q E hG hr J.env0 (hb s us J.kIn hl) rw2 hsp) fun r s' hq => ?_)
  have z := ends hx J hq
  cases r with
  | error e => exact z
  | ok fl => cases fl <;> exact z
/-- f(e, ..) of such a def -/
theorem pe_callG (F : GOk X.prog X.w X.K X.mg X.base CX k f fd ps sp) (hG : X.A.guards = some []) (hr : Room k X.A) (hg : Gl X x) (hm : X.mg x = some (.ref f)) (hk : PySem.W.keepIn X.K (.ref f) = true) (hb : Binds X.K fd ps ds) (hd : Vals dvs ds) (hx : Passes CX X E)
    (args : PA X (e :: es) t) (hdb : (x == ("__debug__" : Str)) = false := by decide) (hse : starEach (e :: es) X.env = (false, eval e X.env) :: starEach es X.env := by rfl) (hna : (backTo pos (starEach es X.env)).any (·.1) = false := by rfl) : PE X (.Call (.Name x p) (e :: es) [] pos) (tCall sp dvs E t) :=
  ⟨fun pins s σ H Q I h => wpAny_Call_Name_kw (ld_glob I hg hm (PySem.W.callWith_K (h₀ := X.base) I.ok.mod.kin hk (thn (args.run pos pins s σ H _ I h) fun us s1 ⟨vs, H1, I1, r, q⟩ => ⟨I1.kIn, runG F hG hr hb hd hx I1 r q⟩) hse hna) hdb)⟩
/-- f(k = e, ..), keywords alone -/
def tCallO (sp : Sp) (gV : List V → List V → List V) (m : Nat) (E : XK) (tk : TA) : TE := fun σ H Q => tk σ H fun zs H2 => zs.length = m ∧ sp (gV [] zs) H2 Q E
theorem pe_callO (F : FnOk X.prog X.w X.K X.mg X.base CX k f fd ps sp) (hr : Room k X.A) (hg : Gl X x) (hm : X.mg x = some (.ref f)) (hk : PySem.W.keepIn X.K (.ref f) = true) (hb : KBn X.K fd ps 0 ks g gV) (hx : Passes CX X E) (hkw : PK X kws tk)
    (hnm : (backToKw pos (keywordEach kws X.env)).all (·.1.isSome) = true := by rfl) (hks : (backToKw pos (keywordEach kws X.env)).filterMap (·.1) = ks := by rfl)
    (hdb : (x == ("__debug__" : Str)) = false := by decide) (hst : ((backTo pos (starEach [] X.env)).any (·.1) || (backToKw pos (keywordEach kws X.env)).any (·.1.isNone)) = false := by rfl) :
    PE X (.Call (.Name x p) [] kws pos) (tCallO sp gV ks.length E tk) := by
  constructor
  intro pins s σ H Q I h
  apply wpAny_Call_Name_kw
  refine ld_glob I hg hm (PySem.W.callWith_KW0 (h₀ := X.base) I.ok.mod.kin hk hnm ?_ hst) hdb
  refine thn (hkw.run pos pins s σ H _ I h) fun wv s2 ⟨zs, H2, I2, rz, lz, q2⟩ => ⟨I2.kIn, ?_⟩
  rw [hks]
  have r2 := hb.rel .nil rz
  refine wpAny_call (codeAny_mono (F.run X.A X.stack s2 H2 ⟨[], ks.zip wv⟩ _ _ Q E hr I2.env0 (hb.to s2 [] wv I2.kIn rfl (rz.length.symm.trans lz)) r2 q2) fun r s' hq => ?_)
  have z := ends hx I2 hq
  cases r with
  | error e => exact z
  | ok fl => cases fl <;> exact z
/-- repr of data -/
theorem call_reprD (hG : X.A.guards = some []) (hu : X.A.units + 64 < cLine) : CallR X (.builtin "repr") (fun xs H Q => ∃ a d, xs = [V.ref a] ∧ Dp X.K H (.ref a) d ∧ d.showable = true ∧ d.hasDict = false ∧ d.depth < 60 ∧ d.shown.length ≤ sizeLine ∧ Q (.str d.shown) H) := by
  intro pins s σ H xs us Q I rv hw
  obtain ⟨a, d, rfl, hd, hs, hn, hdp, hsz, q⟩ := hw
  cases rv with
  | cons r1 r2 =>
    cases r2
    obtain ⟨as, hr⟩ := Dp.reads I d _ _ hd r1
    cases r1
    exact repr_of_reads' hr hs (fun z => absurd (hn.symm.trans z) (by decide)) hG (by omega) (fun _ _ z => z) (fun h' u tk kp => ⟨.str _, H, I.kept kp, ⟨_, rfl⟩, q⟩) hsz
/-- bools by is, is not -/
theorem op_isB : OpR X (compareOp .IsNot) (fun x y H Q => ∃ b c, x = .bl b ∧ y = .bl c ∧ Q (.bl (b != c)) H) := by
  intro pins s σ H x y v u Q I rx ry hw
  obtain ⟨b1, b2, rfl, rfl, q⟩ := hw
  cases rx
  cases ry
  exact PyProof.Rows.isnot_bool ⟨.bl _, H, I, rfl, q⟩
end
section
/-- the law is called, nothing being under way -/
theorem law_callG {P : Program} {w : World} {K : PySem.W.Frag} {mg mb : Str → Option Value} {CX : CXT} {k : Nat} {fa a : Addr} {fd : FuncData} {x : Str} {sp : Sp} {t : Shared} {vs : List Value} {ns : List Int}
    (KX : K.In t.heap) (hns : t.heap.Ns mainGlobals mg) (hb : t.heap.Ns builtinsNs mb) (hbb : ∀ y : Str, y ≠ "__name__" → mb y = bootBuiltins y) (hlim : t.heap.NoLimit) (hg : t.gens = #[])
    (ha : t.heap.get? a = some { cls := .type "list", data := .seq vs.toArray }) (hi : IntsAre vs ns) (hl : ns.length ≤ sizeLine) (hr : Room k callerA)
    (F : ∀ base : Heap, K.In base → base.Ns mainGlobals mg → GOk P w K mg base CX k fa fd [x] sp) (hbind : ∀ (s : Shared) (u : Value), BindsTo s fd ⟨[u], []⟩ [(x, u)])
    (hkept : ∀ H : Hp, Only H → SqL K H a (ns.map V.int) → sp [.ref a] H (fun v _ => v = .bl true) fun _ _ _ => False) (hCX : ∀ H e s', CX [] H t (fun _ _ _ => False) e s' → False) :
    codeAny (model P w) callerA (.call (.ref fa) ⟨[.ref a], []⟩) (fun r s' => r = .ok (.ret (.bool true)) ∧ OldK t.heap s'.heap ∧ s'.os = t.os ∧ AllBare s'.gens) t := by
  have rv := vals_ints hi
  have main : ∀ H : Hp, Only H → SqL K H a (ns.map V.int) → HOk P w H t.heap → (∀ b, H b ≠ none → b = a) → (H a ≠ none → K.lookup a = none) →
      codeAny (model P w) callerA (.call (.ref fa) ⟨[.ref a], []⟩) (fun r s' => r = .ok (.ret (.bool true)) ∧ OldK t.heap s'.heap ∧ s'.os = t.os ∧ AllBare s'.gens) t := by
    intro H hO hS hok hA hK
    have keep : ∀ {b : Addr} {o : Obj}, t.heap.get? b = some o → (H b ≠ none → False) → (hidT t.heap H).get? b = some o := fun {b o} z n => hidT_get z (by
      cases q : H b with
      | none => rfl
      | some u => exact (n (by rw [q]; simp)).elim)
    have nsB : ∀ {b : Addr} {m : Str → Option Value}, t.heap.Ns b m → (hidT t.heap H).Ns b m := by
      rintro b m ⟨o, es, ep, z, d, r⟩
      refine ⟨o, es, ep, keep z fun hn => ?_, d, r⟩
      have hab := hA b hn
      subst hab
      rw [ha] at z
      cases z
      have bad : Data.seq vs.toArray _ = Data.dict es ep := d
      cases bad
    have KB : K.In (hidT t.heap H) := fun b o z => keep (KX b o z) fun hn => by
      have hab := hA b hn
      subst hab
      rw [hK hn] at z
      cases z
    obtain ⟨mc, c1, c2⟩ := hlim
    have M : Mod K mg (hidT t.heap H) := ⟨KB, nsB hns, ⟨mb, nsB hb, hbb⟩, ⟨mc, nsB c1, c2⟩⟩
    have none0 : ∀ b : Addr, b ∉ ([] : List Addr) := fun b z => absurd z List.not_mem_nil
    have e0 : Env0 P w K mg (hidT t.heap H) callerA [] t H := ⟨rfl, M, fun b o z => of_hidT z, Nat.le_of_eq (hidT_size _ _), trivial, fun b z => absurd z (none0 b), hok, .of_eq hg⟩
    refine codeAny_mono ((F _ KB (nsB hns)).go callerA [] t H ⟨[.ref a], []⟩ [.ref a] [.ref a] _ _ rfl hr e0 (hbind t (.ref a)) (.cons rfl .nil) (hkept H hO hS)) fun r s' z => ?_
    cases r with
    | error e => exact (hCX H e s' z).elim
    | ok fl =>
      cases fl with
      | next => exact z.elim
      | brk => exact z.elim
      | cont => exact z.elim
      | ret u =>
        obtain ⟨v, H2, os, bare, un, hok2, rv2, qv⟩ := z
        have qv2 : v = .bl true := qv
        subst qv2
        cases rv2
        refine ⟨rfl, OldK.of_keep fun b o z => ?_, os, bare⟩
        cases q : H b with
        | none => exact un.keep b o z q (fun y => absurd y (none0 b)) List.not_mem_nil
        | some u =>
          rcases hO b with y | ⟨ob, xs, y⟩
          · rw [q] at y
            cases y
          · obtain ⟨e1, _⟩ := hok b _ y
            obtain ⟨e2, _⟩ := hok2 b _ (un.frzs b ob _ y)
            rw [z] at e1
            cases e1
            exact e2
  cases hk : K.lookup a with
  | some o =>
    have z := KX a o hk
    rw [ha] at z
    cases z
    exact main (fun _ => none) (fun _ => .inl rfl) (.inr ⟨_, vs.toArray, _, hk, rfl, rfl, rfl, by rw [List.size_toArray, hi.length]; exact hl, by simpa using rv⟩) (fun b u y => by have y2 : (none : Option HO) = some u := y; cases y2) (fun b y => absurd rfl y) fun y => absurd rfl y
  | none =>
    refine main (fun b => if b = a then some (.frz { cls := .type "list", data := .seq vs.toArray } (.lst (ns.map V.int))) else none) (fun b => ?_) (.inl (.inr ⟨{ cls := .type "list", data := .seq vs.toArray }, if_pos rfl⟩)) (fun b u y => ?_) (fun b y => ?_) fun _ => hk
    · by_cases hb : b = a
      · exact Or.inr ⟨_, _, if_pos hb⟩
      · exact .inl (if_neg hb)
    · by_cases hb : b = a
      · subst hb
        have y2 := (if_pos rfl).symm.trans y
        cases y2
        refine ⟨ha, ?_, vs, _, rv, ha⟩
        rw [List.length_map]
        exact hl
      · have y2 := (if_neg hb).symm.trans y
        cases y2
    · exact Classical.byContradiction fun hb => y (if_neg hb)
/-- the end of a law, as walk_of -/
theorem walk_ofG {law : PySem.W.OpenLaw} {n k : Nat} {qq : Program} {lo : List Str} {XP : (Str → Option Value) → Heap → Prop} {YP : World → Heap → Prop} {dr : DefRec} {KK : Params → PySem.W.Frag} {sp : World → Sp} {x : Str}
    (hn : law.most = some n) (hsz : n ≤ sizeLine) (hdf : dr.params.defaults = []) (hro : Room k callerA) (hY : ∀ (w : World) (h : Heap), YP w h → (KK w.params).In h)
    (F : ∀ (w : World) (mg : Str → Option Value) (fa : Addr) (h : Heap), (KK w.params).In h → h.Ns mainGlobals mg → mg dr.name = some (.ref fa) →
      ∃ fd : FuncData, (∀ (s : Shared) (u : Value), BindsTo s fd ⟨[u], []⟩ [(x, u)]) ∧ ∀ bs : Heap, (KK w.params).In bs → bs.Ns mainGlobals mg → GOk law.prog w (KK w.params) mg bs CX0 k fa fd [x] (sp w))
    (hkept : ∀ (w : World) (H : Hp) (a : Addr) (ns : List Int), ns.length ≤ n → Only H → SqL (KK w.params) H a (ns.map V.int) → sp w [.ref a] H (fun v _ => v = .bl true) fun _ _ _ => False) : PySem.W.WalkO qq lo XP YP law.row.toRowW dr [] (fun f vs => PySem.call f vs) := by
  apply Att.attach_call hn hdf
  intro w _ t mg mb fa _ _ _ _ a vs ns G Y _ _ _ hmg hobj hints hlen hgens
  obtain ⟨fd, hbn, hF⟩ := F w mg fa _ (hY w _ Y) G.T.g hmg
  exact law_callG (hY w _ Y) G.T.g G.T.b G.T.builtins G.T.nolimit hgens hobj hints (Nat.le_trans hlen hsz) hro hF hbn (fun H hO hS => hkept w H a ns hlen hO hS) fun _ _ _ z => z
end
end Gu

namespace NT
/-! ### powers by squaring -/
def powMod : Nat → Nat → Nat → Nat → Nat
  | 0, _, _, m => 1 % m
  | f + 1, b, e, m => if e = 0 then 1 % m else
      let h := powMod f (b * b % m) (e / 2) m
      if e % 2 = 1 then b * h % m else h
theorem powMod_eq : ∀ (f b e m : Nat), e < 2 ^ f → powMod f b e m = b ^ e % m
  | 0, b, e, m, h => by
    have : e = 0 := by simpa using h
    subst this; rfl
  | f + 1, b, e, m, h => by
    unfold powMod
    by_cases h0 : e = 0
    · subst h0; simp
    · rw [if_neg h0]
      have h2 : e / 2 < 2 ^ f := by rw [Nat.pow_succ] at h; omega
      have ih := powMod_eq f (b * b % m) (e / 2) m h2
      have key : (b * b % m) ^ (e / 2) % m = (b ^ (2 * (e / 2))) % m := by
        rw [← Nat.pow_mod, Nat.pow_mul, Nat.pow_two]
      show (if e % 2 = 1 then b * powMod f (b * b % m) (e / 2) m % m else powMod f (b * b % m) (e / 2) m) = _
      rw [ih, key]
      by_cases h1 : e % 2 = 1
      · rw [if_pos h1]
        have : e = 2 * (e / 2) + 1 := by omega
        conv => rhs; rw [this, Nat.pow_succ, Nat.mul_comm, Nat.mul_mod]
        conv => lhs; rw [Nat.mul_mod, Nat.mod_mod]
      · rw [if_neg h1]
        have : 2 * (e / 2) = e := by omega
        rw [this]
/-! ### primes -/
def Prime (p : Nat) : Prop := 2 ≤ p ∧ ∀ d, d ∣ p → d = 1 ∨ d = p
theorem prime_of_trial {p k : Nat} (h2 : 2 ≤ p) (hk : p < k * k) (h : ∀ d, d < k → 2 ≤ d → p % d ≠ 0) : Prime p := by
  refine ⟨h2, fun d hd => ?_⟩
  by_cases h1 : d = 1
  · exact .inl h1
  by_cases hp : d = p
  · exact .inr hp
  exfalso
  obtain ⟨e, he⟩ := hd
  have d0 : d ≠ 0 := by rintro rfl; simp at he; omega
  have e0 : e ≠ 0 := by rintro rfl; simp at he; omega
  have e1 : e ≠ 1 := by rintro rfl; simp at he; exact hp he.symm
  by_cases hd : d < k
  · exact h d hd (by omega) (by rw [he]; exact Nat.mul_mod_right d e)
  · by_cases he' : e < k
    · exact h e he' (by omega) (by rw [he]; exact Nat.mul_mod_left d e)
    · have : k * k ≤ d * e := Nat.mul_le_mul (by omega) (by omega)
      omega
def noDiv (p : Nat) : Nat → Bool
  | 0 => true
  | k + 1 => (decide (k < 2) || decide (p % k ≠ 0)) && noDiv p k
theorem noDiv_spec {p : Nat} : ∀ {k : Nat}, noDiv p k = true → ∀ d, d < k → 2 ≤ d → p % d ≠ 0
  | 0, _, d, h, _ => by omega
  | k + 1, h, d, hd, h2 => by
    unfold noDiv at h
    rw [Bool.and_eq_true] at h
    by_cases e : d = k
    · subst e
      have := h.1
      simp at this
      rcases this with q | q
      · omega
      · exact q
    · exact noDiv_spec h.2 d (by omega) h2
theorem prime_by {p : Nat} (k : Nat) (h : (decide (2 ≤ p) && decide (p < k * k) && noDiv p k) = true) : Prime p := by
  simp only [Bool.and_eq_true, decide_eq_true_eq] at h
  exact prime_of_trial h.1.1 h.1.2 (noDiv_spec h.2)
theorem prime_coprime {p n : Nat} (hp : Prime p) (h : n % p ≠ 0) : Nat.Coprime p n := by
  unfold Nat.Coprime
  rcases hp.2 _ (Nat.gcd_dvd_left p n) with e | e
  · exact e
  · exfalso
    apply h
    have : p ∣ n := e ▸ Nat.gcd_dvd_right p n
    exact Nat.mod_eq_zero_of_dvd this
theorem prime_mul {p a b : Nat} (hp : Prime p) (ha : a % p ≠ 0) (hb : b % p ≠ 0) : (a * b) % p ≠ 0 := by
  intro h
  have := (prime_coprime hp ha).dvd_of_dvd_mul_left (Nat.dvd_of_mod_eq_zero h)
  exact hb (Nat.mod_eq_zero_of_dvd this)
/-! ### binomials -/
def C : Nat → Nat → Nat
  | _, 0 => 1
  | 0, _ + 1 => 0
  | n + 1, k + 1 => C n k + C n (k + 1)
theorem C_gt : ∀ (n k : Nat), n < k → C n k = 0
  | _, 0, h => by omega
  | 0, _ + 1, _ => rfl
  | n + 1, k + 1, h => by unfold C; rw [C_gt n k (by omega), C_gt n (k + 1) (by omega)]
theorem C_self : ∀ n, C n n = 1
  | 0 => rfl
  | n + 1 => by unfold C; rw [C_self n, C_gt n (n + 1) (by omega)]
theorem C_absorb : ∀ (n k : Nat), (k + 1) * C (n + 1) (k + 1) = (n + 1) * C n k
  | n, 0 => by
    show 1 * (C n 0 + C n 1) = (n + 1) * C n 0
    have h1 : ∀ n, C n 1 = n := by
      intro n; induction n with
      | zero => rfl
      | succ n ih => unfold C; rw [ih]; unfold C; omega
    have h0 : C n 0 = 1 := by unfold C; rfl
    rw [h0, h1]; omega
  | 0, k + 1 => by simp [C]
  | n + 1, k + 1 => by
    have i1 := C_absorb n k
    have i2 := C_absorb n (k + 1)
    have e1 : C (n + 1 + 1) (k + 1 + 1) = C (n + 1) (k + 1) + C (n + 1) (k + 1 + 1) := rfl
    have e2 : C (n + 1) (k + 1) = C n k + C n (k + 1) := rfl
    rw [e1]
    have : (k + 1 + 1) * (C (n + 1) (k + 1) + C (n + 1) (k + 1 + 1)) = (k + 1) * C (n + 1) (k + 1) + C (n + 1) (k + 1) + (k + 1 + 1) * C (n + 1) (k + 1 + 1) := by
      rw [Nat.mul_add, Nat.add_mul (k + 1) 1 (C (n + 1) (k + 1)), Nat.one_mul]
    rw [this, i1, i2, e2]
    have : (n + 1 + 1) * (C n k + C n (k + 1)) = (n + 1) * C n k + (C n k + C n (k + 1)) + (n + 1) * C n (k + 1) := by
      rw [Nat.add_mul (n + 1) 1, Nat.mul_add, Nat.one_mul]; omega
    omega
/-- sum of f k for k < n -/
def S (f : Nat → Nat) : Nat → Nat
  | 0 => 0
  | n + 1 => S f n + f n
theorem S_congr {f g : Nat → Nat} : ∀ n, (∀ k, k < n → f k = g k) → S f n = S g n
  | 0, _ => rfl
  | n + 1, h => by unfold S; rw [S_congr n fun k hk => h k (by omega), h n (by omega)]
theorem S_add (f g : Nat → Nat) : ∀ n, S (fun k => f k + g k) n = S f n + S g n
  | 0 => rfl
  | n + 1 => by unfold S; rw [S_add f g n]; omega
theorem S_mul (f : Nat → Nat) (c : Nat) : ∀ n, S (fun k => c * f k) n = c * S f n
  | 0 => rfl
  | n + 1 => by unfold S; rw [S_mul f c n, Nat.mul_add]
theorem S_shift (f : Nat → Nat) : ∀ n, S f (n + 1) = f 0 + S (fun k => f (k + 1)) n
  | 0 => by unfold S; unfold S; omega
  | n + 1 => by
    show S f (n + 1) + f (n + 1) = f 0 + (S (fun k => f (k + 1)) n + f (n + 1))
    rw [S_shift f n]; omega
theorem S_dvd {f : Nat → Nat} {p : Nat} : ∀ n, (∀ k, k < n → p ∣ f k) → p ∣ S f n
  | 0, _ => Nat.dvd_zero p
  | n + 1, h => by unfold S; exact Nat.dvd_add (S_dvd n fun k hk => h k (by omega)) (h n (by omega))
theorem binom (x : Nat) : ∀ n, (x + 1) ^ n = S (fun k => C n k * x ^ k) (n + 1)
  | 0 => by simp [S, C]
  | n + 1 => by
    have ih := binom x n
    rw [Nat.pow_succ, ih, Nat.mul_add, Nat.mul_one]
    rw [S_shift (fun k => C (n + 1) k * x ^ k) (n + 1)]
    have e : S (fun k => C (n + 1) (k + 1) * x ^ (k + 1)) (n + 1) = S (fun k => x * (C n k * x ^ k)) (n + 1) + S (fun k => C n (k + 1) * x ^ (k + 1)) (n + 1) := by
      rw [← S_add]
      refine S_congr _ fun k _ => ?_
      show (C n k + C n (k + 1)) * x ^ (k + 1) = _
      rw [Nat.add_mul, Nat.pow_succ, ← Nat.mul_assoc, Nat.mul_comm (C n k * x ^ k) x]
    have e2 : C (n + 1) 0 * x ^ 0 + S (fun k => C n (k + 1) * x ^ (k + 1)) (n + 1) = S (fun k => C n k * x ^ k) (n + 1 + 1) := by
      rw [S_shift (fun k => C n k * x ^ k) (n + 1)]
      simp [C]
    have e3 : S (fun k => C n k * x ^ k) (n + 1 + 1) = S (fun k => C n k * x ^ k) (n + 1) := by
      show S (fun k => C n k * x ^ k) (n + 1) + C n (n + 1) * x ^ (n + 1) = _
      rw [C_gt n (n + 1) (by omega)]; omega
    rw [e, S_mul]
    have hx : S (fun k => C n k * x ^ k) (n + 1) * x = x * S (fun k => C n k * x ^ k) (n + 1) := Nat.mul_comm _ _
    rw [hx]
    show _ = C (n + 1) 0 * x ^ 0 + (x * S (fun k => C n k * x ^ k) (n + 1) + S (fun k => C n (k + 1) * x ^ (k + 1)) (n + 1))
    omega
theorem prime_C {p k : Nat} (hp : Prime p) (h0 : 0 < k) (hk : k < p) : p ∣ C p k := by
  obtain ⟨n, rfl⟩ : ∃ n, p = n + 1 := ⟨p - 1, by have := hp.1; omega⟩
  obtain ⟨j, rfl⟩ : ∃ j, k = j + 1 := ⟨k - 1, by omega⟩
  have e := C_absorb n j
  have hc : Nat.Coprime (n + 1) (j + 1) := prime_coprime hp (by rw [Nat.mod_eq_of_lt hk]; omega)
  exact hc.dvd_of_dvd_mul_left (e ▸ Nat.dvd_mul_right (n + 1) (C n j))
theorem fermat' {p : Nat} (hp : Prime p) : ∀ x : Nat, x ^ p % p = x % p
  | 0 => by
    obtain ⟨n, rfl⟩ : ∃ n, p = n + 1 := ⟨p - 1, by have := hp.1; omega⟩
    rw [Nat.pow_succ, Nat.mul_zero]
  | x + 1 => by
    have ih := fermat' hp x
    obtain ⟨n, rfl⟩ : ∃ n, p = n + 1 := ⟨p - 1, by have := hp.1; omega⟩
    rw [binom x (n + 1)]
    show (S (fun k => C (n + 1) k * x ^ k) (n + 1) + C (n + 1) (n + 1) * x ^ (n + 1)) % (n + 1) = _
    rw [S_shift, C_self, Nat.one_mul]
    have hd : (n + 1) ∣ S (fun k => C (n + 1) (k + 1) * x ^ (k + 1)) n := S_dvd n fun k hk => Nat.dvd_trans (prime_C hp (by omega) (by omega)) (Nat.dvd_mul_right _ _)
    obtain ⟨q, hq⟩ := hd
    rw [hq]
    have : C (n + 1) 0 * x ^ 0 = 1 := by simp [C]
    show (C (n + 1) 0 * x ^ 0 + (n + 1) * q + x ^ (n + 1)) % (n + 1) = _
    rw [this]
    rw [show 1 + (n + 1) * q + x ^ (n + 1) = (x ^ (n + 1) + 1) + (n + 1) * q by omega, Nat.add_mul_mod_self_left, Nat.add_mod, ih, ← Nat.add_mod]
theorem fermat {p x : Nat} (hp : Prime p) (hx : x % p ≠ 0) : x ^ (p - 1) % p = 1 := by
  have h := fermat' hp x
  have hp2 := hp.1
  obtain ⟨n, rfl⟩ : ∃ n, p = n + 1 := ⟨p - 1, by omega⟩
  show x ^ n % (n + 1) = 1
  have hx1 : 1 ≤ x ^ n := Nat.pos_of_ne_zero (fun z => by
    have : x ≠ 0 := fun e => hx (by rw [e]; exact Nat.zero_mod _)
    exact absurd z (Nat.pos_iff_ne_zero.mp (Nat.pow_pos (Nat.pos_of_ne_zero this))))
  have hd : (n + 1) ∣ x * (x ^ n - 1) := by
    rw [Nat.mul_sub, Nat.mul_one, Nat.mul_comm x, ← Nat.pow_succ]
    exact Nat.dvd_of_mod_eq_zero (Nat.sub_mod_eq_zero_of_mod_eq h)
  have := (prime_coprime hp hx).dvd_of_dvd_mul_left hd
  obtain ⟨q, hq⟩ := this
  have e : x ^ n = 1 + (n + 1) * q := by omega
  rw [e, Nat.add_mul_mod_self_left]
  exact Nat.mod_eq_of_lt (by omega)
end NT

namespace NT
theorem ipow_emod (u p : Int) : ∀ n : Nat, u ^ n % p = (u % p) ^ n % p
  | 0 => by simp
  | n + 1 => by
    rw [Int.pow_succ, Int.pow_succ, Int.mul_emod, ipow_emod u p n, Int.mul_emod ((u % p) ^ n)]
    simp
/-- a = p ^ k * u, u not divided by p -/
structure Spl (p a : Int) (k : Nat) (u : Int) : Prop where
  eq : a = p ^ k * u
  nd : u % p ≠ 0
theorem Spl.uniq {p a : Int} (hp : 2 ≤ p) : ∀ {k : Nat} {u : Int} {k' : Nat} {u' : Int}, Spl p a k u → Spl p a k' u' → k = k' ∧ u = u'
  | 0, u, 0, u', h, h' => ⟨rfl, by have := h.eq; have := h'.eq; simp at *; omega⟩
  | 0, u, k' + 1, u', h, h' => by
    exfalso
    have e := h.eq.symm.trans h'.eq
    apply h.nd
    have : u = p * (p ^ k' * u') := by rw [Int.pow_succ] at e; simp at e; rw [e, Int.mul_comm (p ^ k') p, Int.mul_assoc]
    rw [this, Int.mul_emod_right]
  | k + 1, u, 0, u', h, h' => by
    exfalso
    have e := h'.eq.symm.trans h.eq
    apply h'.nd
    have : u' = p * (p ^ k * u) := by rw [Int.pow_succ] at e; simp at e; rw [e, Int.mul_comm (p ^ k) p, Int.mul_assoc]
    rw [this, Int.mul_emod_right]
  | k + 1, u, k' + 1, u', h, h' => by
    have e := h.eq.symm.trans h'.eq
    have e2 : p * (p ^ k * u) = p * (p ^ k' * u') := by
      rw [Int.pow_succ, Int.pow_succ, Int.mul_comm (p ^ k) p, Int.mul_comm (p ^ k') p, Int.mul_assoc, Int.mul_assoc] at e
      exact e
    have e3 : p ^ k * u = p ^ k' * u' := Int.eq_of_mul_eq_mul_left (by omega) e2
    obtain ⟨a1, a2⟩ := Spl.uniq hp (a := p ^ k * u) ⟨rfl, h.nd⟩ ⟨e3, h'.nd⟩
    exact ⟨by rw [a1], a2⟩
theorem Spl.mul {p a b : Int} {k l : Nat} {u v : Int} (h : Spl p a k u) (h' : Spl p b l v) (hn : (u * v) % p ≠ 0) : Spl p (a * b) (k + l) (u * v) := by
  refine ⟨?_, hn⟩
  rw [h.eq, h'.eq, Int.pow_add, Int.mul_assoc, Int.mul_assoc, Int.mul_left_comm u]
/-- what is_local_square tells -/
def sqU (p u : Int) : Bool := if p = 2 then decide (u % 8 = 1) else decide (u ^ (p / 2).toNat % p = 1)
def sqB (p : Int) (k : Nat) (u : Int) : Bool := decide (k % 2 = 0) && sqU p u
/-- the law's own list of rests -/
def rests (s : Nat) (u : Int) : List Nat := (List.range s).filter fun j => decide (((j : Int) * j - u) % s = 0)
def rsz (p : Int) : Nat := if p = 2 then 8 else p.toNat
def restU (p u : Int) : Bool := !(rests (rsz p) u).isEmpty
theorem rests_emod (s : Nat) (u : Int) : rests s u = rests s (u % s) := by
  unfold rests
  congr 1
  funext j
  have : ((j : Int) * j - u) % s = ((j : Int) * j - u % s) % s := by
    rw [Int.sub_emod, Int.sub_emod ((j : Int) * j) (u % s), Int.emod_emod]
  rw [this]
def five (p : Int) : Prop := p = 2 ∨ p = 3 ∨ p = 5 ∨ p = 7 ∨ p = 13
theorem sq_rest2 {u : Int} (h : u % 2 ≠ 0) : sqU 2 u = restU 2 u := by
  have e : rsz 2 = 8 := rfl
  unfold sqU restU
  rw [if_pos rfl, e, rests_emod]
  have : u % 8 = 1 ∨ u % 8 = 3 ∨ u % 8 = 5 ∨ u % 8 = 7 := by omega
  show decide (u % 8 = 1) = !(rests 8 (u % 8)).isEmpty
  rcases this with z | z | z | z <;> rw [z] <;> decide
theorem sq_rest_odd {p : Nat} {u : Int} (hp : (p : Int) ≠ 2) (h0 : 0 < p) (h : u % p ≠ 0)
    (hd : ∀ r : Nat, r < p → r ≠ 0 → decide ((r : Int) ^ ((p : Int) / 2).toNat % p = 1) = !(rests p r).isEmpty) : sqU p u = restU p u := by
  have e : rsz p = p := by unfold rsz; rw [if_neg hp]; rfl
  unfold sqU restU
  rw [if_neg hp, e, rests_emod, ipow_emod]
  have h1 : 0 ≤ u % p := Int.emod_nonneg _ (by omega)
  have h2 : u % p < p := Int.emod_lt_of_pos _ (by omega)
  obtain ⟨r, hr⟩ : ∃ r : Nat, u % p = r := ⟨(u % p).toNat, by omega⟩
  rw [hr] at h h2 ⊢
  exact hd r (by omega) (by omega)
theorem sq_rest {p u : Int} (hp : five p) (h : u % p ≠ 0) : sqU p u = restU p u := by
  rcases hp with rfl | rfl | rfl | rfl | rfl
  · exact sq_rest2 h
  · exact sq_rest_odd (p := 3) (by decide) (by decide) h (by decide)
  · exact sq_rest_odd (p := 5) (by decide) (by decide) h (by decide)
  · exact sq_rest_odd (p := 7) (by decide) (by decide) h (by decide)
  · exact sq_rest_odd (p := 13) (by decide) (by decide) h (by decide)
/-! products -/
theorem nd_mul {p u v : Int} (hp : Prime p.toNat) (h0 : 0 ≤ p) (hu : u % p ≠ 0) (hv : v % p ≠ 0) : (u * v) % p ≠ 0 := by
  intro h
  have hd : p ∣ u * v := Int.dvd_of_emod_eq_zero h
  have hd2 : p.toNat ∣ u.natAbs * v.natAbs := by
    rw [← Int.natAbs_mul]
    have := Int.natAbs_dvd_natAbs.mpr hd
    have e : p.natAbs = p.toNat := by omega
    rwa [e] at this
  have key : ∀ x : Int, x % p ≠ 0 → x.natAbs % p.toNat ≠ 0 := by
    intro x hx hz
    apply hx
    have d1 : p.toNat ∣ x.natAbs := Nat.dvd_of_mod_eq_zero hz
    have e : p.natAbs = p.toNat := by omega
    rw [← e] at d1
    exact Int.emod_eq_zero_of_dvd (Int.natAbs_dvd_natAbs.mp d1)
  exact prime_mul hp (key u hu) (key v hv) (Nat.mod_eq_zero_of_dvd hd2)
theorem sqU_self {p u : Int} (hp : Prime p.toNat) (h0 : 0 ≤ p) (hodd : p = 2 ∨ p % 2 = 1) (hu : u % p ≠ 0) : sqU p (u * u) = true := by
  unfold sqU
  by_cases e : p = 2
  · subst e
    rw [if_pos rfl]
    have : u % 8 = 1 ∨ u % 8 = 3 ∨ u % 8 = 5 ∨ u % 8 = 7 := by omega
    rw [Int.mul_emod]
    rcases this with z | z | z | z <;> rw [z] <;> decide
  · rw [if_neg e]
    have hodd' : p % 2 = 1 := by rcases hodd with z | z; exact absurd z e; exact z
    have key : (u.natAbs) ^ (p.toNat - 1) % p.toNat = 1 := by
      refine fermat hp ?_
      intro hz
      apply hu
      have d1 : p.toNat ∣ u.natAbs := Nat.dvd_of_mod_eq_zero hz
      have e : p.natAbs = p.toNat := by omega
      rw [← e] at d1
      exact Int.emod_eq_zero_of_dvd (Int.natAbs_dvd_natAbs.mp d1)
    have e1 : u * u = ((u.natAbs * u.natAbs : Nat) : Int) := by
      rw [Int.natCast_mul]
      exact (Int.natAbs_mul_self' u).symm
    have e2 : (u.natAbs * u.natAbs) ^ (p / 2).toNat = u.natAbs ^ (p.toNat - 1) := by
      rw [← Nat.pow_two, ← Nat.pow_mul]
      congr 1
      omega
    have e3 : (u * u) ^ (p / 2).toNat % p = 1 := by
      rw [e1, ← Int.natCast_pow, e2]
      have ep : p = ((p.toNat : Nat) : Int) := by omega
      rw [ep]
      show (((u.natAbs ^ (p.toNat - 1) : Nat) : Int) % ((p.toNat : Nat) : Int)) = 1
      rw [← Int.natCast_emod, key]; rfl
    rw [e3]; rfl
theorem sqB_self {p a : Int} {k : Nat} {u : Int} (hp : Prime p.toNat) (h0 : 0 ≤ p) (hodd : p = 2 ∨ p % 2 = 1) (h : Spl p a k u) : ∃ k' u', Spl p (a * a) k' u' ∧ sqB p k' u' = true := by
  refine ⟨k + k, u * u, h.mul h (nd_mul hp h0 h.nd h.nd), ?_⟩
  unfold sqB
  rw [sqU_self hp h0 hodd h.nd]
  simp
  omega
theorem five_prime {p : Int} (h : five p) : Prime p.toNat ∧ 2 ≤ p ∧ (p = 2 ∨ p % 2 = 1) ∧ p ≤ 13 := by
  rcases h with rfl | rfl | rfl | rfl | rfl
  · exact ⟨prime_by 2 (by decide), by decide, .inl rfl, by decide⟩
  · exact ⟨prime_by 2 (by decide), by decide, .inr rfl, by decide⟩
  · exact ⟨prime_by 4 (by decide), by decide, .inr rfl, by decide⟩
  · exact ⟨prime_by 4 (by decide), by decide, .inr rfl, by decide⟩
  · exact ⟨prime_by 4 (by decide), by decide, .inr rfl, by decide⟩
/-- the product of units: a square if both are, none if just one is -/
theorem sqU_mul {p u v : Int} (hp : five p) (hu : u % p ≠ 0) (hv : v % p ≠ 0) (h : sqU p u = true ∨ sqU p v = true) : sqU p (u * v) = (sqU p u && sqU p v) := by
  have gen : ∀ (p : Nat), 0 < p → (p : Int) ≠ 2 → (∀ r : Nat, r < p → ∀ s : Nat, s < p → r ≠ 0 → s ≠ 0 → (decide ((r : Int) ^ ((p : Int) / 2).toNat % p = 1) || decide ((s : Int) ^ ((p : Int) / 2).toNat % p = 1)) = true → decide (((r * s : Nat) : Int) ^ ((p : Int) / 2).toNat % p = 1) = (decide ((r : Int) ^ ((p : Int) / 2).toNat % p = 1) && decide ((s : Int) ^ ((p : Int) / 2).toNat % p = 1))) →
      u % p ≠ 0 → v % p ≠ 0 → (sqU p u = true ∨ sqU p v = true) → sqU p (u * v) = (sqU p u && sqU p v) := by
    intro p h0 h2 hd hu hv h
    have e1 : ∀ x : Int, sqU p x = decide ((x % p) ^ ((p : Int) / 2).toNat % p = 1) := by
      intro x; unfold sqU; rw [if_neg h2, ipow_emod]
    have pz : (p : Int) ≠ 0 := by omega
    have ppos : (0 : Int) < p := by omega
    obtain ⟨r, hr⟩ : ∃ r : Nat, u % p = r := ⟨(u % p).toNat, by have := Int.emod_nonneg u pz; omega⟩
    obtain ⟨s, hs⟩ : ∃ s : Nat, v % p = s := ⟨(v % p).toNat, by have := Int.emod_nonneg v pz; omega⟩
    have hr2 := Int.emod_lt_of_pos u ppos
    have hs2 := Int.emod_lt_of_pos v ppos
    rw [e1, e1] at h
    rw [e1, e1, e1]
    have e3 : (u * v % p) ^ ((p : Int) / 2).toNat % p = (((r * s : Nat) : Int)) ^ ((p : Int) / 2).toNat % p := by
      rw [Int.mul_emod, hr, hs, ← ipow_emod, Int.natCast_mul]
    rw [e3]
    rw [hr] at hu hr2 h ⊢
    rw [hs] at hv hs2 h ⊢
    exact hd r (by omega) s (by omega) (by omega) (by omega) (by rw [Bool.or_eq_true]; exact h)
  rcases hp with rfl | rfl | rfl | rfl | rfl
  · have e1 : ∀ x : Int, sqU 2 x = decide (x % 8 = 1) := fun x => rfl
    rw [e1, e1] at h
    rw [e1, e1, e1]
    have a1 : u % 8 = 1 ∨ u % 8 = 3 ∨ u % 8 = 5 ∨ u % 8 = 7 := by omega
    have a2 : v % 8 = 1 ∨ v % 8 = 3 ∨ v % 8 = 5 ∨ v % 8 = 7 := by omega
    rw [Int.mul_emod]
    rcases a1 with z | z | z | z <;> rcases a2 with y | y | y | y <;> rw [z, y] at h ⊢ <;> revert h <;> decide
  · exact gen 3 (by decide) (by decide) (by decide +kernel) hu hv h
  · exact gen 5 (by decide) (by decide) (by decide +kernel) hu hv h
  · exact gen 7 (by decide) (by decide) (by decide +kernel) hu hv h
  · exact gen 13 (by decide) (by decide) (by decide +kernel) hu hv h
theorem sqB_mul {p a b : Int} {k l : Nat} {u v : Int} (hp : five p) (h : Spl p a k u) (h' : Spl p b l v) (h1 : sqB p k u = true ∨ sqB p l v = true) :
    ∃ k' u', Spl p (a * b) k' u' ∧ sqB p k' u' = (sqB p k u && sqB p l v) := by
  obtain ⟨pp, p2, _, _⟩ := five_prime hp
  refine ⟨k + l, u * v, h.mul h' (nd_mul pp (by omega) h.nd h'.nd), ?_⟩
  unfold sqB at *
  have h2 : sqU p u = true ∨ sqU p v = true := by
    rcases h1 with z | z
    · rw [Bool.and_eq_true] at z; exact .inl z.2
    · rw [Bool.and_eq_true] at z; exact .inr z.2
  rw [sqU_mul hp h.nd h'.nd h2]
  rcases h1 with z | z
  · rw [Bool.and_eq_true] at z
    have zk : k % 2 = 0 := of_decide_eq_true z.1
    rw [z.2]
    have e : decide ((k + l) % 2 = 0) = decide (l % 2 = 0) := by
      congr 1; apply propext; omega
    rw [e, zk]; simp
  · rw [Bool.and_eq_true] at z
    have zk : l % 2 = 0 := of_decide_eq_true z.1
    rw [z.2]
    have e : decide ((k + l) % 2 = 0) = decide (k % 2 = 0) := by
      congr 1; apply propext; omega
    rw [e, zk]; simp
theorem Spl.ex {p : Int} (hp : 2 ≤ p) : ∀ (n : Nat) (a : Int), a.natAbs ≤ n → a ≠ 0 → ∃ k u, Spl p a k u
  | 0, a, h, h0 => by omega
  | n + 1, a, h, h0 => by
    by_cases e : a % p = 0
    · have e1 : a = p * (a / p) := by have := Int.mul_ediv_add_emod a p; omega
      have hz : a / p ≠ 0 := fun z => by rw [z] at e1; simp at e1; exact h0 e1
      have hl : (a / p).natAbs ≤ n := by
        have : a.natAbs = p.natAbs * (a / p).natAbs := by rw [← Int.natAbs_mul, ← e1]
        have p2 : 2 ≤ p.natAbs := by omega
        have : 2 * (a / p).natAbs ≤ p.natAbs * (a / p).natAbs := Nat.mul_le_mul_right _ p2
        omega
      obtain ⟨k, u, hk⟩ := Spl.ex hp n (a / p) hl hz
      refine ⟨k + 1, u, ?_, hk.nd⟩
      conv => lhs; rw [e1, hk.eq]
      rw [Int.pow_succ, Int.mul_comm (p ^ k) p, Int.mul_assoc]
    · exact ⟨0, a, by simp, e⟩
end NT

namespace K26
open PySem PySem.Spec PyProof.Rows L2 NT
def topS (i : Nat) : Stmt := PySem.Challenge.pw_formworld_k26_whole_signs_by_rests.main.body.getD i (.Pass ⟨0, 0, 0, 0⟩)
abbrev sInt : Stmt := topS 13
abbrev sWithin : Stmt := topS 14
abbrev sOther : Stmt := topS 16
theorem scInt : FnScope ["value"] ["value"] (defScope sInt) := ⟨rfl, rfl, rfl, by decide +kernel, rfl, by decide +kernel, by decide +kernel⟩
theorem scWithin : FnScope ["value", "least", "most"] ["value", "least", "most"] (defScope sWithin) := ⟨rfl, rfl, rfl, by decide +kernel, rfl, by decide +kernel, by decide +kernel⟩
theorem scOther : FnScope ["number", "size"] ["number", "size"] (defScope sOther) := ⟨rfl, rfl, rfl, by decide +kernel, rfl, by decide +kernel, by decide +kernel⟩
abbrev sPow : Stmt := topS 7
abbrev sSplit : Stmt := topS 8
abbrev sPassed : Stmt := topS 9
abbrev sPrime : Stmt := topS 10
abbrev sSqRest : Stmt := topS 11
abbrev sPlace : Stmt := topS 19
abbrev sSign : Stmt := topS 22
abbrev sSignAt : Stmt := topS 23
abbrev sOddFor : Stmt := topS 24
theorem scPow : FnScope ["base", "exponent", "modulus", "rest", "square"] ["base", "exponent", "modulus"] (defScope sPow) := ⟨rfl, rfl, rfl, by decide +kernel, rfl, by decide +kernel, by decide +kernel⟩
theorem scSplit : FnScope ["number", "prime", "exponent"] ["number", "prime"] (defScope sSplit) := ⟨rfl, rfl, rfl, by decide +kernel, rfl, by decide +kernel, by decide +kernel⟩
theorem scPassed : FnScope ["number", "witness", "twos", "odd", "rest", "_"] ["number", "witness"] (defScope sPassed) := ⟨rfl, rfl, rfl, by decide +kernel, rfl, by decide +kernel, by decide +kernel⟩
theorem scPrime : FnScope ["number", "witness"] ["number"] (defScope sPrime) := ⟨rfl, rfl, rfl, by decide +kernel, rfl, by decide +kernel, by decide +kernel⟩
theorem scSqRest : FnScope ["number", "prime"] ["number", "prime"] (defScope sSqRest) := ⟨rfl, rfl, rfl, by decide +kernel, rfl, by decide +kernel, by decide +kernel⟩
theorem scPlace : FnScope ["place"] ["place"] (defScope sPlace) := ⟨rfl, rfl, rfl, by decide +kernel, rfl, by decide +kernel, by decide +kernel⟩
theorem scSign : FnScope ["number", "other", "place"] ["number", "other", "place"] (defScope sSign) := ⟨rfl, rfl, rfl, by decide +kernel, rfl, by decide +kernel, by decide +kernel⟩
theorem scSignAt : FnScope ["number", "other", "place", "power", "left", "other_power", "right", "odd"] ["number", "other", "place"] (defScope sSignAt) := ⟨rfl, rfl, rfl, by decide +kernel, rfl, by decide +kernel, by decide +kernel⟩
theorem scOddFor : FnScope ["number", "prime"] ["number", "prime"] (defScope sOddFor) := ⟨rfl, rfl, rfl, by decide +kernel, rfl, by decide +kernel, by decide +kernel⟩
abbrev sIsOther : Stmt := topS 15
abbrev sIsPlace : Stmt := topS 18
theorem scIsOther : FnScope ["value", "size"] ["value", "size"] (defScope sIsOther) := ⟨rfl, rfl, rfl, by decide +kernel, rfl, by decide +kernel, by decide +kernel⟩
theorem scIsPlace : FnScope ["value"] ["value"] (defScope sIsPlace) := ⟨rfl, rfl, rfl, by decide +kernel, rfl, by decide +kernel, by decide +kernel⟩
theorem to {Q : VK} {v v' : V} {H : Hp} (q : Q v H) (e : v = v') : Q v' H := e ▸ q
section
variable {P : Program} {w : World} {K : PySem.W.Frag} {mg : Str → Option Value} {base : Heap}
def spInt : Sp := fun vs H Q _ => ∃ i, vs = [.int i] ∧ Q (.bl true) H
theorem ok_int {f : Addr} {fd : FuncData} (F : Fun K "is_integer" "is_integer" sInt f fd) (m1 : mg "isinstance" = none) (m2 : mg "int" = none) (m3 : mg "bool" = none) : FnOk P w K mg base CX0 1 f fd ["value"] spInt := by
  refine F.ok scInt (fun vs H Q E h => ?_) (fun cdv A outer s H vs Q E hr h => ?_)
  · obtain ⟨i, rfl, _⟩ := h
    rfl
  · obtain ⟨i, rfl, q⟩ := h
    refine ⟨_, pss_one (ps_ret (pe_and (pe_callB call_isi (by rfl) m1 boot_isinstance (pa_cons (pv 0) (pa_cons (pe_bltn (v := .ty "int") (by rfl) m2 boot_int rfl) pa_nil)))
      (pe_one (pe_not (pe_callB call_isi (by rfl) m1 boot_isinstance (pa_cons (pv 0) (pa_cons (pe_bltn (v := .ty "bool") (by rfl) m3 (by decide +kernel) rfl) pa_nil))))))), ?_⟩
    refine ⟨.int i, rfl, _, _, _, _, true, rfl, .ty _, .base (.int i), kit_ty (by decide +kernel), true, rfl, iteT ?_⟩
    refine ⟨.int i, rfl, _, _, _, _, false, rfl, .ty _, .base (.int i), kit_ty (by decide +kernel), false, rfl, q⟩

/-! ### is_within, check_other_than_nought -/
def spWithin : Sp := fun vs H Q _ => ∃ i a b, vs = [.int i, .int a, .int b] ∧ Q (.bl (decide (a ≤ i ∧ i ≤ b))) H
theorem ok_within {f g : Addr} {fd gd : FuncData} (F : Fun K "is_within" "is_within" sWithin f fd) (G : FnOk P w K mg base CX0 1 g gd ["value"] spInt) (mG : mg "is_integer" = some (.ref g)) (kG : PySem.W.keepIn K (.ref g) = true) (bG : Binds K gd ["value"] []) : FnOk P w K mg base CX0 2 f fd ["value", "least", "most"] spWithin := by
  refine F.ok scWithin (fun vs H Q E h => ?_) (fun cdv A outer s H vs Q E hr h => ?_)
  · obtain ⟨i, a, b, rfl, _⟩ := h
    rfl
  · obtain ⟨i, a, b, rfl, q⟩ := h
    refine ⟨_, pss_one (ps_ret (pe_and (pe_call G hr (by rfl) mG kG bG .nil pass0 (pa_cons (pv 0) pa_nil)) (pe_one (pe_chain op_le op_le (pv 1) (pv 0) (pv 2))))), ?_⟩
    refine ⟨.int i, rfl, i, rfl, true, rfl, iteT ?_⟩
    refine ⟨.int a, rfl, .int i, rfl, a, i, rfl, rfl, decide (a ≤ i), rfl, ?_⟩
    by_cases h1 : a ≤ i
    · rw [if_pos (decide_eq_true h1)]
      refine ⟨.int b, rfl, i, b, rfl, rfl, ?_⟩
      have e : decide (i ≤ b) = decide (a ≤ i ∧ i ≤ b) := by congr 1; apply propext; exact ⟨fun z => ⟨h1, z⟩, fun z => z.2⟩
      exact to q (congrArg V.bl e.symm)
    · rw [if_neg (by simpa using h1)]
      have e : decide (a ≤ i ∧ i ≤ b) = false := decide_eq_false fun z => h1 z.1
      exact to q (congrArg V.bl e)
def spIsOther : Sp := fun vs H Q _ => ∃ n s : Int, vs = [.int n, .int s] ∧ -s ≤ n ∧ n ≤ s ∧ n ≠ 0 ∧ Q (.bl true) H
theorem ok_isOther {f g : Addr} {fd gd : FuncData} (F : Fun K "is_other_than_nought" "is_other_than_nought" sIsOther f fd) (G : FnOk P w K mg base CX0 2 g gd ["value", "least", "most"] spWithin) (mG : mg "is_within" = some (.ref g)) (kG : PySem.W.keepIn K (.ref g) = true) (bG : Binds K gd ["value", "least", "most"] []) : FnOk P w K mg base CX0 3 f fd ["value", "size"] spIsOther := by
  refine F.ok scIsOther (fun vs H Q E h => ?_) (fun cdv A outer s H vs Q E hr h => ?_)
  · obtain ⟨n, s, rfl, _⟩ := h
    rfl
  · obtain ⟨n, s, rfl, h1, h2, h3, q⟩ := h
    refine ⟨_, pss_one (ps_ret (pe_and (pe_call G hr (by rfl) mG kG bG .nil pass0 (pa_cons (pv 0) (pa_cons (pe_un un_neg (pv 1)) (pa_cons (pv 1) pa_nil)))) (pe_one (pe_cmpR op_ne (pv 0) pe_int (nomark _))))), ?_⟩
    refine ⟨.int n, rfl, .int s, rfl, s, rfl, .int s, rfl, n, -s, s, rfl, true, ?_, ?_⟩
    · rw [decide_eq_true (show -s ≤ n ∧ n ≤ s from ⟨h1, h2⟩)]
    · refine iteT ⟨.int n, rfl, rfl, to q (congrArg V.bl ?_)⟩
      rw [decide_eq_false (fun z => h3 (V.int.inj z))]
      rfl
def spOther : Sp := fun vs H Q _ => ∃ n s : Int, vs = [.int n, .int s] ∧ -s ≤ n ∧ n ≤ s ∧ n ≠ 0 ∧ Q .non H
theorem ok_other {f g : Addr} {fd gd : FuncData} (F : Fun K "check_other_than_nought" "check_other_than_nought" sOther f fd) (G : FnOk P w K mg base CX0 3 g gd ["value", "size"] spIsOther) (mG : mg "is_other_than_nought" = some (.ref g)) (kG : PySem.W.keepIn K (.ref g) = true) (bG : Binds K gd ["value", "size"] []) : FnOk P w K mg base CX0 4 f fd ["number", "size"] spOther := by
  refine F.ok scOther (fun vs H Q E h => ?_) (fun cdv A outer s H vs Q E hr h => ?_)
  · obtain ⟨n, s, rfl, _⟩ := h
    rfl
  · obtain ⟨n, s, rfl, h1, h2, h3, q⟩ := h
    refine ⟨_, pss_one (ps_if (pt_not (pt_val (pe_call G hr (by rfl) mG kG bG .nil pass0 (pa_cons (pv 0) (pa_cons (pv 1) pa_nil))))) (pss_one ps_never) pss_nil), ?_⟩
    exact ⟨.int n, rfl, .int s, rfl, n, s, rfl, h1, h2, h3, _, rfl, iteF q⟩
/-! ### power_rest -/
def spPow : Sp := fun vs H Q _ => ∃ b e m : Int, vs = [.int b, .int e, .int m] ∧ 0 ≤ e ∧ 1 < m ∧ m < 2 ^ 62 ∧ Q (.int (b ^ e.toNat % m)) H
theorem pow_turn (r s e m : Int) (he : 0 < e) : ((if e % 2 = 1 then r * s % m else r) * (s * s % m) ^ (e / 2).toNat) % m = (r * s ^ e.toNat) % m := by
  have key : (s * s % m) ^ (e / 2).toNat % m = (s ^ (2 * (e / 2).toNat)) % m := by
    rw [← ipow_emod, Int.pow_mul, Int.pow_succ, Int.pow_succ, Int.pow_zero, Int.one_mul]
  by_cases h : e % 2 = 1
  · rw [if_pos h, Int.mul_emod, key, ← Int.mul_emod, Int.mul_emod, Int.emod_emod, ← Int.mul_emod]
    have : e.toNat = 2 * (e / 2).toNat + 1 := by omega
    conv => rhs; rw [this, Int.pow_succ]
    rw [Int.mul_assoc, Int.mul_comm (s ^ _) s]
  · rw [if_neg h, Int.mul_emod, key, ← Int.mul_emod]
    have : e.toNat = 2 * (e / 2).toNat := by omega
    rw [← this]
theorem ok_pow {f : Addr} {fd : FuncData} (F : Fun K "power_rest" "power_rest" sPow f fd) : FnOk P w K mg base CX0 1 f fd ["base", "exponent", "modulus"] spPow := by
  refine F.ok scPow (fun vs H Q E h => ?_) (fun cdv A outer s H vs Q E hr h => ?_)
  · obtain ⟨b, e, m, rfl, _⟩ := h
    rfl
  · obtain ⟨b, e, m, rfl, h1, h2, h3, q⟩ := h
    refine ⟨_, pss_cons (ps_set (i := 3) scPow.nd rfl (.inl rfl) pe_int) (pss_cons (ps_set (i := 4) scPow.nd rfl (.inl rfl) (pe_op op_mod (pv 0) (pv 2)))
      (pss_cons (ps_while PassesOwn.never (pt_cmpR op_gt (pv 1) pe_int (nomark _))
        (pss_cons (ps_if (pt_cmpR op_eq (pe_op op_mod (pv 1) pe_int) pe_int (nomark _)) (pss_one (ps_set (i := 3) scPow.nd rfl (.inl rfl) (pe_op op_mod (pe_op op_mul (pv 3) (pv 4)) (pv 2)))) pss_nil)
        (pss_cons (ps_set (i := 4) scPow.nd rfl (.inl rfl) (pe_op op_mod (pe_op op_mul (pv 4) (pv 4)) (pv 2)))
        (pss_one (ps_set (i := 1) scPow.nd rfl (.inl rfl) (pe_op op_fdiv (pv 1) pe_int))))))
      (pss_one (ps_ret (pv 3))))), ?_⟩
    have m0 : 0 < m := by omega
    refine ⟨.int b, rfl, .int m, rfl, b, m, rfl, rfl, m0, ?_⟩
    refine ⟨fun k σ H' => H' = H ∧ ∃ r s e' : Int, σ = [some (.int b), some (.int e'), some (.int m), some (.int r), some (.int s)] ∧ k = e'.toNat ∧ 0 ≤ e' ∧ 0 ≤ r ∧ r < m ∧ 0 ≤ s ∧ s < m ∧ (r * s ^ e'.toNat) % m = b ^ e.toNat % m,
      ⟨e.toNat, rfl, 1, b % m, e, rfl, rfl, h1, by decide, by omega, Int.emod_nonneg _ (by omega), Int.emod_lt_of_pos _ m0, ?_⟩, fun k σ H' hW => ?_⟩
    · rw [Int.one_mul, ← ipow_emod]
    · obtain ⟨rfl, r, s, e', rfl, rfl, he, r0, r1, s0, s1, hp⟩ := hW
      refine ⟨.int e', rfl, e', 0, rfl, rfl, _, rfl, ite2 (fun z => ?_) (fun z => ?_)⟩
      · have ep : 0 < e' := of_decide_eq_true z
        have turn := pow_turn r s e' m ep
        refine ⟨fun σ H'' => H'' = H' ∧ ∃ r s e2 : Int, σ = [some (.int b), some (.int e2), some (.int m), some (.int r), some (.int s)] ∧ e2.toNat < e'.toNat ∧ 0 ≤ e2 ∧ 0 ≤ r ∧ r < m ∧ 0 ≤ s ∧ s < m ∧ (r * s ^ e2.toNat) % m = b ^ e.toNat % m, ?_, ?_⟩
        · rintro σ' H'' ⟨rfl, r', s', e2, rfl, l, a⟩
          exact ⟨_, l, rfl, r', s', e2, rfl, rfl, a⟩
        · have b1 : ∀ x : Int, 0 ≤ x → x < m → (-(2 ^ 64) < x ∧ x < 2 ^ 64) := fun x h1 h2 => ⟨by omega, by omega⟩
          have sq : 0 ≤ s * s % m ∧ s * s % m < m := ⟨Int.emod_nonneg _ (by omega), Int.emod_lt_of_pos _ m0⟩
          refine ⟨.int e', rfl, e', 2, rfl, rfl, (by show (0 : Int) < 2; decide), rfl, _, rfl, ite2 (fun z2 => ?_) (fun z2 => ?_)⟩
          · have e1 : e' % 2 = 1 := V.int.inj (of_decide_eq_true z2)
            rw [if_pos e1] at turn
            refine ⟨.int r, rfl, .int s, rfl, r, s, rfl, rfl, .inl (b1 r r0 r1), .int m, rfl, _, m, rfl, rfl, m0, ?_⟩
            refine ⟨.int s, rfl, .int s, rfl, s, s, rfl, rfl, .inl (b1 s s0 s1), .int m, rfl, _, m, rfl, rfl, m0, ?_⟩
            refine ⟨.int e', rfl, e', 2, rfl, rfl, ⟨by decide, by decide⟩, ?_⟩
            exact ⟨rfl, r * s % m, s * s % m, e' / 2, rfl, by omega, by omega, Int.emod_nonneg _ (by omega), Int.emod_lt_of_pos _ m0, sq.1, sq.2, turn.trans hp⟩
          · have e1 : ¬ e' % 2 = 1 := fun y => z2 (decide_eq_true (congrArg V.int y))
            rw [if_neg e1] at turn
            refine ⟨.int s, rfl, .int s, rfl, s, s, rfl, rfl, .inl (b1 s s0 s1), .int m, rfl, _, m, rfl, rfl, m0, ?_⟩
            refine ⟨.int e', rfl, e', 2, rfl, rfl, ⟨by decide, by decide⟩, ?_⟩
            exact ⟨rfl, r, s * s % m, e' / 2, rfl, by omega, by omega, r0, r1, sq.1, sq.2, turn.trans hp⟩
      · have ez : e' = 0 := by
          have : ¬ (0 < e') := fun y => z (decide_eq_true y)
          omega
        subst ez
        have : r = b ^ e.toNat % m := by
          rw [← hp]
          show r = r * s ^ 0 % m
          rw [Int.pow_zero, Int.mul_one, Int.emod_eq_of_lt r0 r1]
        exact ⟨.int r, rfl, this ▸ q⟩
end
end K26

namespace K26
open PySem PySem.Spec PyProof.Rows L2 NT
section
variable {P : Program} {w : World} {K : PySem.W.Frag} {mg : Str → Option Value} {base : Heap}
theorem same_new {H : Hp} {p : Addr} {o : HO} (h : H p = none) : Same H (upd H p o) := fun b x e => (upd_ne (ne_of_none e h)).trans e
/-! ### split_power -/
def spSplit : Sp := fun vs H Q _ => ∃ (n p : Int) (k : Nat) (u : Int), vs = [.int n, .int p] ∧ 2 ≤ p ∧ p < 1073741824 ∧ n ≠ 0 ∧ Spl p n k u ∧ ∀ q, H q = none → Q (.ref q) (upd H q (.tup [.int k, .int u]))
theorem ok_split {f : Addr} {fd : FuncData} (F : Fun K "split_power" "split_power" sSplit f fd) : FnOk P w K mg base CX0 1 f fd ["number", "prime"] spSplit := by
  refine F.ok scSplit (fun vs H Q E h => ?_) (fun cdv A outer s H vs Q E hr h => ?_)
  · obtain ⟨n, p, k, u, rfl, _⟩ := h
    rfl
  · obtain ⟨n, p, k, u, rfl, p2, pb, n0, hS, q⟩ := h
    refine ⟨_, pss_cons (ps_set (i := 2) scSplit.nd rfl (.inl rfl) pe_int)
      (pss_cons (ps_while PassesOwn.never (pt_cmpR op_eq (pe_op op_mod (pv 0) (pv 1)) pe_int (nomark _))
        (pss_cons (ps_set (i := 0) scSplit.nd rfl (.inl rfl) (pe_op op_fdiv (pv 0) (pv 1)))
        (pss_one (ps_set (i := 2) scSplit.nd rfl (.inl rfl) (pe_op op_add (pv 2) pe_int)))))
      (pss_one (ps_ret (pe_tup (pa_cons (pv 2) (pa_cons (pv 0) pa_nil)))))), ?_⟩
    refine ⟨fun m σ H' => H' = H ∧ ∃ (j : Nat) (n' : Int), σ = [some (.int n'), some (.int p), some (.int j)] ∧ m = n'.natAbs ∧ n' ≠ 0 ∧ n = p ^ j * n', ⟨n.natAbs, rfl, 0, n, rfl, rfl, n0, by simp⟩, fun m σ H' hW => ?_⟩
    obtain ⟨rfl, j, n', rfl, rfl, z0, e⟩ := hW
    refine ⟨.int n', rfl, .int p, rfl, n', p, rfl, rfl, (by show 0 < p; omega), rfl, _, rfl, ite2 (fun z => ?_) (fun z => ?_)⟩
    · have hz : n' % p = 0 := V.int.inj (of_decide_eq_true z)
      have e1 : n' = p * (n' / p) := by have := Int.mul_ediv_add_emod n' p; omega
      have q0 : n' / p ≠ 0 := fun y => by rw [y] at e1; simp at e1; exact z0 e1
      have lt : (n' / p).natAbs < n'.natAbs := by
        have h1 : n'.natAbs = p.natAbs * (n' / p).natAbs := by rw [← Int.natAbs_mul, ← e1]
        have h2 : 2 * (n' / p).natAbs ≤ p.natAbs * (n' / p).natAbs := Nat.mul_le_mul_right _ (by omega)
        omega
      refine ⟨fun σ H'' => H'' = H' ∧ σ = [some (.int (n' / p)), some (.int p), some (.int (j + 1))], ?_, ?_⟩
      · rintro σ' H'' ⟨rfl, rfl⟩
        refine ⟨_, lt, rfl, j + 1, n' / p, rfl, rfl, q0, ?_⟩
        rw [e, Int.pow_succ, Int.mul_assoc, ← e1]
      · exact ⟨.int n', rfl, .int p, rfl, n', p, rfl, rfl, ⟨by omega, pb⟩, .int j, rfl, j, 1, rfl, rfl, rfl, rfl⟩
    · have hz : n' % p ≠ 0 := fun y => z (decide_eq_true (congrArg V.int y))
      obtain ⟨rfl, rfl⟩ := hS.uniq p2 ⟨e, hz⟩
      exact ⟨.int k, rfl, .int u, rfl, (by show 2 ≤ sizeLine; decide), q⟩
/-! ### is_passed -/
structure PassOk (n w : Int) : Prop where
  big : 2 < n
  top : n < 2 ^ 62
  ex : ∃ (k : Nat) (u : Int) (i : Nat), Spl 2 (n - 1) k u ∧ 0 ≤ u ∧ k < 1000 ∧ i < k ∧ (w ^ u.toNat % n = 1 ∨ w ^ (u.toNat * 2 ^ i) % n = n - 1)
def spPassed : Sp := fun vs H Q _ => ∃ n v : Int, vs = [.int n, .int v] ∧ PassOk n v ∧ ∀ H', Same H H' → Q (.bl true) H'
theorem ok_passed {f fS fP : Addr} {fd dS dP : FuncData} (F : Fun K "is_passed" "is_passed" sPassed f fd) (GS : FnOk P w K mg base CX0 1 fS dS ["number", "prime"] spSplit) (mS : mg "split_power" = some (.ref fS)) (kS : PySem.W.keepIn K (.ref fS) = true) (bS : Binds K dS ["number", "prime"] [])
    (GP : FnOk P w K mg base CX0 1 fP dP ["base", "exponent", "modulus"] spPow) (mP : mg "power_rest" = some (.ref fP)) (kP : PySem.W.keepIn K (.ref fP) = true) (bP : Binds K dP ["base", "exponent", "modulus"] []) (mr : mg "range" = none) :
    FnOk P w K mg base CX0 2 f fd ["number", "witness"] spPassed := by
  refine F.ok scPassed (fun vs H Q E h => ?_) (fun cdv A outer s H vs Q E hr h => ?_)
  · obtain ⟨n, v, rfl, _⟩ := h
    rfl
  · obtain ⟨n, v, rfl, ⟨nb, nt, k, u, i0, hS, u0, kb, ik, hor⟩, q⟩ := h
    refine ⟨_, pss_cons (ps_asg (pe_call GS hr (by rfl) mS kS bS .nil pass0 (pa_cons (pe_op op_sub (pv 0) pe_int) (pa_cons pe_int pa_nil))) (pg_tup rfl (pgs_cons (pg_name (i := 2) scPassed.nd rfl (.inl rfl)) (pgs_cons (pg_name (i := 3) scPassed.nd rfl (.inl rfl)) pgs_nil))))
      (pss_cons (ps_set (i := 4) scPassed.nd rfl (.inl rfl) (pe_call GP hr (by rfl) mP kP bP .nil pass0 (pa_cons (pv 1) (pa_cons (pv 3) (pa_cons (pv 0) pa_nil)))))
      (pss_cons (ps_if (pt_cmpR op_eq (pv 4) pe_int (nomark _)) (pss_one (ps_ret pe_bl)) pss_nil)
      (pss_cons (ps_for PassesOwn.never rfl (pi_range1 rfl mr (pa_cons (pv 2) pa_nil)) (pg_name (i := 5) scPassed.nd rfl (.inl rfl))
        (pss_cons (ps_if (pt_cmpR op_eq (pv 4) (pe_op op_sub (pv 0) pe_int) (nomark _)) (pss_one (ps_ret pe_bl)) pss_nil)
        (pss_one (ps_set (i := 4) scPassed.nd rfl (.inl rfl) (pe_op op_mod (pe_op op_mul (pv 4) (pv 4)) (pv 0))))))
      (pss_one (ps_ret pe_bl))))), ?_⟩
    refine ⟨.int n, rfl, n, 1, rfl, rfl, n - 1, 2, k, u, rfl, by decide, by decide, by omega, hS, fun t nt => ?_⟩
    have sm := same_new (o := .tup [.int k, .int u]) nt
    refine ⟨t, [.int k, .int u], rfl, .inl (.inl upd_same), rfl, _, _, rfl, _, _, rfl, rfl, ?_⟩
    refine ⟨.int v, rfl, .int u, rfl, .int n, rfl, v, u, n, rfl, u0, by omega, ‹_›, ?_⟩
    refine ⟨.int (v ^ u.toNat % n), rfl, rfl, _, rfl, ite2 (fun z => ?_) (fun z => ?_)⟩
    · exact q _ sm
    · have z1 : v ^ u.toNat % n ≠ 1 := fun y => z (decide_eq_true (congrArg V.int y))
      have hp : v ^ (u.toNat * 2 ^ i0) % n = n - 1 := hor.resolve_left z1
      refine ⟨.int k, rfl, k, rfl, by omega, by omega, for_range (n := ((k : Int).toNat)) (fun i σ H' => H' = upd H t (.tup [.int k, .int u]) ∧ i ≤ i0 ∧ ∃ x, σ = [some (.int n), some (.int v), some (.int k), some (.int u), some (.int (v ^ (u.toNat * 2 ^ i) % n)), x])
        ⟨rfl, by omega, none, ?_⟩ ?_ ?_⟩
      · rw [Nat.pow_zero, Nat.mul_one]; rfl
      · rintro i σ H' hi ⟨rfl, hi0, x, rfl⟩
        refine ⟨.int (v ^ (u.toNat * 2 ^ i) % n), rfl, .int n, rfl, n, 1, rfl, rfl, rfl, _, rfl, ite2 (fun z => ?_) (fun z => ?_)⟩
        · exact q _ sm
        · have z2 : v ^ (u.toNat * 2 ^ i) % n ≠ n - 1 := fun y => z (decide_eq_true (congrArg V.int y))
          have ne : i ≠ i0 := fun y => z2 (y ▸ hp)
          have r0 : 0 ≤ v ^ (u.toNat * 2 ^ i) % n := Int.emod_nonneg _ (by omega)
          have r1 : v ^ (u.toNat * 2 ^ i) % n < n := Int.emod_lt_of_pos _ (by omega)
          refine ⟨.int _, rfl, .int _, rfl, _, _, rfl, rfl, .inl ⟨by omega, by omega⟩, .int n, rfl, _, n, rfl, rfl, (by show 0 < n; omega), rfl, by omega, some (.int (0 + (i : Int))), ?_⟩
          have e : v ^ (u.toNat * 2 ^ i) % n * (v ^ (u.toNat * 2 ^ i) % n) % n = v ^ (u.toNat * 2 ^ (i + 1)) % n := by
            rw [← Int.mul_emod, ← Int.pow_add]
            congr 2
            rw [Nat.pow_succ, ← Nat.mul_assoc]; omega
          show [some (V.int n), some (V.int v), some (V.int k), some (V.int u), some (V.int (v ^ (u.toNat * 2 ^ i) % n * (v ^ (u.toNat * 2 ^ i) % n) % n)), some (V.int (0 + (i : Int)))] = _
          rw [e]
      · rintro σ H' ⟨rfl, hi0, x, rfl⟩
        exfalso
        have : (k : Int).toNat = k := rfl
        omega
/-! ### is_prime -/
def W5 : List Int := [2, 3, 5, 7, 11]
structure PrimeOk (n : Int) : Prop where
  two : 2 ≤ n
  top : n ≤ 10 ^ 12
  own : ∀ v ∈ W5, n % v = 0 → n = v
  pass : (∀ v ∈ W5, n % v ≠ 0) → ∀ v ∈ W5, PassOk n v
def spPrime : Sp := fun vs H Q _ => ∃ n : Int, vs = [.int n] ∧ PrimeOk n ∧ ∀ H', Same H H' → Q (.bl true) H'
theorem w5_pos : ∀ v ∈ W5, (0 : Int) < v := by decide
theorem w5_at {i : Nat} {x : V} (h : (W5.map V.int)[i]? = some x) : ∃ v ∈ W5, x = .int v ∧ W5[i]? = some v := by
  rw [List.getElem?_map] at h
  cases e : W5[i]? with
  | none => rw [e] at h; cases h
  | some v =>
    rw [e] at h
    exact ⟨v, List.mem_of_getElem? e, (Option.some.inj h).symm, rfl⟩
theorem ok_prime {f fP aW : Addr} {fd dP : FuncData} (F : Fun K "is_prime" "is_prime" sPrime f fd) (GP : FnOk P w K mg base CX0 2 fP dP ["number", "witness"] spPassed) (mP : mg "is_passed" = some (.ref fP)) (kP : PySem.W.keepIn K (.ref fP) = true) (bP : Binds K dP ["number", "witness"] [])
    (mW : mg "WITNESSES" = some (.ref aW)) (hW : ∀ H, SqT K H aW (W5.map V.int)) (ma : mg "all" = none) : FnOk P w K mg base CX0 3 f fd ["number"] spPrime := by
  refine F.ok scPrime (fun vs H Q E h => ?_) (fun cdv A outer s H vs Q E hr h => ?_)
  · obtain ⟨n, rfl, _⟩ := h
    rfl
  · obtain ⟨n, rfl, ⟨n2, nt, own, pass⟩, q⟩ := h
    refine ⟨_, pss_cons (ps_if (pt_cmpR op_lt (pv 0) pe_int (nomark _)) (pss_one (ps_ret pe_bl)) pss_nil)
      (pss_cons (ps_for PassesOwn.never rfl (pi_tup (pe_glob (v := .ref aW) (by rfl) mW rfl)) (pg_name (i := 1) scPrime.nd rfl (.inl rfl))
        (pss_one (ps_if (pt_cmpR op_eq (pe_op op_mod (pv 0) (pv 1)) pe_int (nomark _)) (pss_one (ps_ret (pe_cmpR op_eq (pv 0) (pv 1) (nomark _)))) pss_nil)))
      (pss_one (ps_ret (pe_callB (cr_all rfl) (by rfl) ma boot_all (pa_cons (pe_lc (own := [("witness", 1)]) (g := gName 1) (tt := tYes) rfl scPrime.nd (pi_tup (pe_glob (v := .ref aW) (by rfl) mW rfl)) (blkOk_by (N := ["number", "witness"]) (sc := defScope sPrime) (by decide +kernel))
        (fun _ _ _ _ _ => pg_name (i := 1) scPrime.nd rfl (.inl rfl)) (fun _ _ _ _ _ => pts_nil) (fun _ _ _ _ _ => pe_call GP hr (by rfl) mP kP bP .nil pass0 (pa_cons (pv 0) (pa_cons (pv 1) pa_nil)))) pa_nil))))), ?_⟩
    refine ⟨.int n, rfl, n, 2, rfl, rfl, _, rfl, ite2 (fun z => ?_) (fun _ => ?_)⟩
    · exact absurd (of_decide_eq_true z) (by omega)
    · refine ⟨aW, rfl, ⟨_, hW _⟩, for_tup (xs := W5.map V.int) (fun i σ H' => H' = H ∧ (∃ x, σ = [some (.int n), x]) ∧ ∀ j v, j < i → W5[j]? = some v → n % v ≠ 0) ⟨rfl, ⟨none, rfl⟩, fun j v hj => absurd hj (by omega)⟩ (fun _ _ _ _ _ => hW _) ?_ ?_⟩
      · rintro i x σ H' hx ⟨rfl, ⟨y, rfl⟩, hb⟩
        obtain ⟨v, hv, rfl, hi⟩ := w5_at hx
        refine ⟨.int n, rfl, .int v, rfl, n, v, rfl, rfl, w5_pos v hv, rfl, _, rfl, ite2 (fun z => ?_) (fun z => ?_)⟩
        · have hz : n % v = 0 := V.int.inj (of_decide_eq_true z)
          refine ⟨.int n, rfl, .int v, rfl, rfl, ?_⟩
          rw [decide_eq_true (congrArg V.int (own v hv hz))]
          exact q _ (Same.refl _)
        · have hz : n % v ≠ 0 := fun y => z (decide_eq_true (congrArg V.int y))
          refine ⟨rfl, ⟨some (.int v), rfl⟩, fun j v' hj e => ?_⟩
          by_cases ej : j = i
          · subst ej
            rw [hi] at e
            cases e
            exact hz
          · exact hb j v' (by omega) e
      · rintro σ H0 ⟨rfl, ⟨y, rfl⟩, hb⟩
        have none : ∀ v ∈ W5, n % v ≠ 0 := fun v hv => by
          obtain ⟨j, hj, e⟩ := List.getElem_of_mem hv
          exact hb j v (by simpa using hj) (by rw [← e]; exact List.getElem?_eq_getElem hj)
        have pp := pass none
        refine ⟨aW, rfl, ⟨_, hW _⟩, fun D nD => lc_tup (xs := W5.map V.int) (fun i H' => Same H0 H' ∧ H' D = some (.lst ((List.replicate i true).map V.bl))) ⟨same_new nD, upd_same⟩ (fun _ _ _ _ => hW _) ?_ ?_⟩
        · rintro i x H' hx ⟨sm, hD⟩
          obtain ⟨v, hv, rfl, hi⟩ := w5_at hx
          refine ⟨rfl, .int n, rfl, .int v, rfl, n, v, rfl, pp v hv, fun H2 sm2 => ⟨_, sm2 _ _ hD, ?_, fun b o e => ?_, ?_⟩⟩
          · rw [List.length_map, List.length_replicate]
            have : i < 5 := by
              have := (List.getElem?_eq_some_iff.mp hi).1
              exact this
            rw [sizeLine_eq]; omega
          · rw [upd_ne (ne_of_none e nD)]
            exact sm2 _ _ (sm _ _ e)
          · rw [upd_same, List.replicate_succ', List.map_append]
            rfl
        · rintro H' ⟨sm, hD⟩
          exact ⟨D, _, rfl, .inl (.inl hD), q _ sm⟩
end
end K26

namespace K26
open PySem PySem.Spec PyProof.Rows L2 NT
/-! ### which primes the test passes -/
/-- the test of one witness, to be computed -/
def passB (n v : Nat) (k u i : Nat) : Bool :=
  decide (n - 1 = 2 ^ k * u) && decide (u % 2 = 1) && decide (i < k) && decide (k < 1000) && decide (2 < n) && decide (n < 2 ^ 62) && (decide (powMod 70 v u n = 1) || decide (powMod 70 v (u * 2 ^ i) n = n - 1))
theorem pass_of {n v k u i : Nat} (h : passB n v k u i = true) : PassOk n v := by
  unfold passB at h
  simp only [Bool.and_eq_true, Bool.or_eq_true, decide_eq_true_eq] at h
  obtain ⟨⟨⟨⟨⟨⟨h1, h2⟩, h3⟩, h4⟩, h5⟩, h6⟩, h7⟩ := h
  have hu : u ≤ n - 1 := by
    rw [h1]
    exact Nat.le_mul_of_pos_left u (Nat.pow_pos (by decide))
  have hi : u * 2 ^ i ≤ n - 1 := by
    rw [h1, Nat.mul_comm]
    exact Nat.mul_le_mul_right u (Nat.pow_le_pow_right (by decide) (by omega))
  have big : n - 1 < 2 ^ 70 := Nat.lt_of_lt_of_le (by omega) (Nat.pow_le_pow_right (n := 2) (by decide) (show 62 ≤ 70 by decide))
  rw [powMod_eq _ _ _ _ (by omega), powMod_eq _ _ _ _ (by omega)] at h7
  refine ⟨by omega, by omega, k, u, i, ⟨?_, by omega⟩, by omega, h4, h3, ?_⟩
  · have : (n : Int) - 1 = ((n - 1 : Nat) : Int) := by omega
    rw [this, h1]
    simp
  · rw [Int.toNat_natCast]
    rcases h7 with z | z
    · left
      rw [← Int.natCast_pow, ← Int.natCast_emod, z]; rfl
    · right
      rw [← Int.natCast_pow, ← Int.natCast_emod, z]
      omega
theorem prime_small {n : Int} (h : n ∈ W5) : PrimeOk n := by
  have key : ∀ n ∈ W5, (2 ≤ n ∧ n ≤ 10 ^ 12) ∧ (∀ v ∈ W5, n % v = 0 → n = v) ∧ ∃ v ∈ W5, n % v = 0 := by decide
  obtain ⟨⟨a, b⟩, c, d, hd, e⟩ := key n h
  exact ⟨a, b, c, fun z => absurd e (z d hd)⟩
theorem prime_great {n : Nat} (h2 : 2 ≤ n) (h12 : n ≤ 10 ^ 12) (hn : ∀ v ∈ W5, (n : Int) % v ≠ 0) (h : ∀ v ∈ [2, 3, 5, 7, 11], PassOk n ((v : Nat) : Int)) : PrimeOk n := by
  refine ⟨by omega, by omega, fun v hv z => absurd z (hn v hv), fun _ v hv => ?_⟩
  have e : W5 = [2, 3, 5, 7, 11].map fun x : Nat => (x : Int) := rfl
  rw [e] at hv
  obtain ⟨x, hx, rfl⟩ := List.mem_map.mp hv
  exact h x hx
theorem prime_test {n : Nat} (k u a b c d e : Nat) (h : (decide (2 ≤ n) && decide (n ≤ 10 ^ 12) && W5.all (fun v => decide ((n : Int) % v ≠ 0)) && passB n 2 k u a && passB n 3 k u b && passB n 5 k u c && passB n 7 k u d && passB n 11 k u e) = true) : PrimeOk n := by
  simp only [Bool.and_eq_true, decide_eq_true_eq, List.all_eq_true] at h
  obtain ⟨⟨⟨⟨⟨⟨⟨h1, h2⟩, h3⟩, p1⟩, p2⟩, p3⟩, p4⟩, p5⟩ := h
  refine prime_great h1 h2 h3 fun v hv => ?_
  simp only [List.mem_cons, List.not_mem_nil, or_false] at hv
  rcases hv with rfl | rfl | rfl | rfl | rfl
  · exact pass_of p1
  · exact pass_of p2
  · exact pass_of p3
  · exact pass_of p4
  · exact pass_of p5
theorem pk13 : PrimeOk 13 := prime_test (n := 13) 2 3 1 0 1 1 1 (by decide +kernel)
theorem pk_five {p : Int} (h : five p) : PrimeOk p := by
  rcases h with rfl | rfl | rfl | rfl | rfl
  · exact prime_small (by decide)
  · exact prime_small (by decide)
  · exact prime_small (by decide)
  · exact prime_small (by decide)
  · exact pk13
section
variable {P : Program} {w : World} {K : PySem.W.Frag} {mg : Str → Option Value} {base : Heap}
/-! ### is_square_rest, require_place -/
def spSqRest : Sp := fun vs H Q _ => ∃ u p : Int, vs = [.int u, .int p] ∧ 2 ≤ p ∧ p < 1073741824 ∧ Q (.bl (decide (u ^ (p / 2).toNat % p = 1))) H
theorem ok_sqrest {f fP : Addr} {fd dP : FuncData} (F : Fun K "is_square_rest" "is_square_rest" sSqRest f fd) (GP : FnOk P w K mg base CX0 1 fP dP ["base", "exponent", "modulus"] spPow) (mP : mg "power_rest" = some (.ref fP)) (kP : PySem.W.keepIn K (.ref fP) = true) (bP : Binds K dP ["base", "exponent", "modulus"] []) :
    FnOk P w K mg base CX0 2 f fd ["number", "prime"] spSqRest := by
  refine F.ok scSqRest (fun vs H Q E h => ?_) (fun cdv A outer s H vs Q E hr h => ?_)
  · obtain ⟨u, p, rfl, _⟩ := h
    rfl
  · obtain ⟨u, p, rfl, p2, pb, q⟩ := h
    refine ⟨_, pss_one (ps_ret (pe_cmpR op_eq (pe_call GP hr (by rfl) mP kP bP .nil pass0 (pa_cons (pv 0) (pa_cons (pe_op op_fdiv (pv 1) pe_int) (pa_cons (pv 1) pa_nil)))) pe_int (nomark _))), ?_⟩
    refine ⟨.int u, rfl, .int p, rfl, p, 2, rfl, rfl, ⟨by decide, by decide⟩, .int p, rfl, u, p / 2, p, rfl, by omega, by omega, by omega, rfl, ?_⟩
    exact to q (congrArg V.bl (by congr 1; exact propext ⟨fun z => congrArg V.int z, fun z => V.int.inj z⟩))
def spIsPlace : Sp := fun vs H Q _ => ∃ p : Int, vs = [.int p] ∧ (p = 0 ∨ PrimeOk p) ∧ ∀ H', Same H H' → Q (.bl true) H'
theorem ok_isPlace {f fW fP : Addr} {fd dW dP : FuncData} {t : Tok} (F : Fun K "is_place" "is_place" sIsPlace f fd) (GW : FnOk P w K mg base CX0 2 fW dW ["value", "least", "most"] spWithin) (mW : mg "is_within" = some (.ref fW)) (kW : PySem.W.keepIn K (.ref fW) = true) (bW : Binds K dW ["value", "least", "most"] [])
    (GP : FnOk P w K mg base CX0 3 fP dP ["number"] spPrime) (mP : mg "is_prime" = some (.ref fP)) (kP : PySem.W.keepIn K (.ref fP) = true) (bP : Binds K dP ["number"] []) (mS : mg "MOST_SIZE" = some (.int (10 ^ 12) t)) : FnOk P w K mg base CX0 4 f fd ["value"] spIsPlace := by
  refine F.ok scIsPlace (fun vs H Q E h => ?_) (fun cdv A outer s H vs Q E hr h => ?_)
  · obtain ⟨p, rfl, _⟩ := h
    rfl
  · obtain ⟨p, rfl, hp, q⟩ := h
    refine ⟨_, pss_one (ps_ret (pe_and (pe_call GW (hr.mono (by decide)) (by rfl) mW kW bW .nil pass0 (pa_cons (pv 0) (pa_cons pe_int (pa_cons (pe_glob (v := .int (10 ^ 12)) (by rfl) mS ⟨_, rfl⟩) pa_nil))))
      (pe_one (pe_or (pe_cmpR op_eq (pv 0) pe_int (nomark _)) (pe_one (pe_call GP hr (by rfl) mP kP bP .nil pass0 (pa_cons (pv 0) pa_nil))))))), ?_⟩
    have hb : 0 ≤ p ∧ p ≤ 10 ^ 12 := by
      rcases hp with rfl | z
      · decide
      · exact ⟨by have := z.two; omega, z.top⟩
    refine ⟨.int p, rfl, p, 0, 10 ^ 12, rfl, true, ?_, ?_⟩
    · rw [decide_eq_true hb]
    · refine iteT ⟨.int p, rfl, rfl, ?_⟩
      refine ⟨_, rfl, ?_⟩
      by_cases z : p = 0
      · subst z
        exact q _ (Same.refl _)
      · rw [if_neg (by simpa using z)]
        rcases hp with rfl | hp
        · exact absurd rfl z
        · exact ⟨.int p, rfl, p, rfl, hp, fun H' sm => q _ sm⟩
def spPlace : Sp := fun vs H Q _ => ∃ p : Int, vs = [.int p] ∧ (p = 0 ∨ PrimeOk p) ∧ ∀ H', Same H H' → Q .non H'
theorem ok_place {f g : Addr} {fd gd : FuncData} (F : Fun K "require_place" "require_place" sPlace f fd) (G : FnOk P w K mg base CX0 4 g gd ["value"] spIsPlace) (mG : mg "is_place" = some (.ref g)) (kG : PySem.W.keepIn K (.ref g) = true) (bG : Binds K gd ["value"] []) : FnOk P w K mg base CX0 5 f fd ["place"] spPlace := by
  refine F.ok scPlace (fun vs H Q E h => ?_) (fun cdv A outer s H vs Q E hr h => ?_)
  · obtain ⟨p, rfl, _⟩ := h
    rfl
  · obtain ⟨p, rfl, hp, q⟩ := h
    refine ⟨_, pss_one (ps_if (pt_not (pt_val (pe_call G hr (by rfl) mG kG bG .nil pass0 (pa_cons (pv 0) pa_nil)))) (pss_one ps_never) pss_nil), ?_⟩
    exact ⟨.int p, rfl, p, rfl, hp, fun H1 s1 => ⟨_, rfl, iteF (q _ s1)⟩⟩
end
end K26

namespace K26
open PySem PySem.Spec PyProof.Rows L2 NT
abbrev sChest : Stmt := topS 26
abbrev sFetch : Stmt := topS 27
abbrev sChoose : Stmt := topS 28
abbrev sSpl : Stmt := topS 29
theorem scChest : FnScope ["_law_script", "_law_at", "_law_mixed", "_law_cell", "_law_own"] ["_law_script", "_law_at"] (defScope sChest) := ⟨rfl, rfl, rfl, by decide +kernel, rfl, by decide +kernel, by decide +kernel⟩
theorem scFetch : FnScope ["_law_chest_here", "_law_most", "_law_figure", "_law_mixed"] ["_law_chest_here", "_law_most"] (defScope sFetch) := ⟨rfl, rfl, rfl, by decide +kernel, rfl, by decide +kernel, by decide +kernel⟩
theorem scChoose : FnScope ["_law_chest_here", "_law_menu"] ["_law_chest_here", "_law_menu"] (defScope sChoose) := ⟨rfl, rfl, rfl, by decide +kernel, rfl, by decide +kernel, by decide +kernel⟩
theorem scSpl : FnScope ["_law_n", "_law_p", "_law_often", "_law_left", "_law_turn"] ["_law_n", "_law_p"] (defScope sSpl) := ⟨rfl, rfl, rfl, by decide +kernel, rfl, by decide +kernel, by decide +kernel⟩
/-- a chest at c: what is left, the mixed number, how many were fetched -/
def ChB (H : Hp) (c : Addr) (B : Nat) : Prop := ∃ a b n : Int, H c = some (.lst [.int a, .int b, .int n]) ∧ 0 ≤ a ∧ 0 ≤ b ∧ b < 2 ^ 40 ∧ 0 ≤ n ∧ n < B
/-- all but c stands -/
def But (c : Addr) (H H' : Hp) : Prop := ∀ b o, b ≠ c → H b = some o → H' b = some o
theorem But.refl {c : Addr} {H : Hp} : But c H H := fun _ _ _ e => e
theorem But.trans {c : Addr} {H H1 H2 : Hp} (h : But c H H1) (h' : But c H1 H2) : But c H H2 := fun b o n e => h' b o n (h b o n e)
theorem But.same {c : Addr} {H H1 : Hp} (h : Same H H1) : But c H H1 := fun b o _ e => h b o e
theorem But.put {c : Addr} {H : Hp} {o : HO} : But c H (upd H c o) := fun b x n e => (upd_ne n).trans e
theorem ChB.mono {H : Hp} {c : Addr} {B B' : Nat} (h : ChB H c B) (l : B ≤ B') : ChB H c B' := by
  obtain ⟨a, b, n, e, h1, h2, h3, h4, h5⟩ := h
  exact ⟨a, b, n, e, h1, h2, h3, h4, by omega⟩
theorem ChB.same {H H' : Hp} {c : Addr} {B : Nat} (h : ChB H c B) (s : Same H H') : ChB H' c B := by
  obtain ⟨a, b, n, e, r⟩ := h
  exact ⟨a, b, n, s _ _ e, r⟩
theorem But.new {c p : Addr} {H : Hp} {o : HO} (h : H p = none) : But c H (upd H p o) := But.same (same_new h)
theorem ne_ite {c A B : Prop} [Decidable c] (h1 : ¬ c → A) (h2 : c → B) : if (!decide c) = true then A else B := by
  by_cases h : c
  · rw [decide_eq_true h]
    exact h2 h
  · rw [decide_eq_false h]
    exact h1 h
section
variable {P : Program} {w : World} {K : PySem.W.Frag} {mg : Str → Option Value} {base : Heap}
def spFetch : Sp := fun vs H Q _ => ∃ (c : Addr) (m : Int) (B : Nat), vs = [.ref c, .int m] ∧ 0 < m ∧ m < 1073741824 ∧ ChB H c B ∧ B ≤ 1000000 ∧ ∀ H' r, 0 ≤ r → r < m → But c H H' → ChB H' c (B + 1) → Q (.int r) H'
theorem ok_fetch {f : Addr} {fd : FuncData} (F : Fun K "_law_fetch" "_law_fetch" sFetch f fd) (mi : mg "int" = none) (md : mg "divmod" = none) : FnOk P w K mg base CX0 1 f fd ["_law_chest_here", "_law_most"] spFetch := by
  refine F.ok scFetch (fun vs H Q E h => ?_) (fun cdv A outer s H vs Q E hr h => ?_)
  · obtain ⟨c, m, B, rfl, _⟩ := h
    rfl
  · obtain ⟨c, m, B, rfl, m0, mb, ⟨a, b, n, hc, a0, b0, b1, n0, n1⟩, hB, q⟩ := h
    refine ⟨_, pss_cons (ps_if (pt_cmpR op_gt (pe_ix ix_list (pv 0) pe_int (fun _ _ => rfl)) pe_int (nomark _))
        (pss_cons (ps_asg (pe_callB call_divmod (by rfl) md boot_divmod (pa_cons (pe_ix ix_list (pv 0) pe_int (fun _ _ => rfl)) (pa_cons (pv 1) pa_nil)))
            (pg_tup rfl (pgs_cons (pg_sub (pv 0) pe_int set_list) (pgs_cons (pg_name (i := 2) scFetch.nd rfl (.inl rfl)) pgs_nil))))
        (pss_one (ps_ret (pv 2)))) pss_nil)
      (pss_cons (ps_asg (pe_op op_add (pe_ix ix_list (pv 0) pe_int (fun _ _ => rfl)) pe_int) (pg_sub (pv 0) pe_int set_list))
      (pss_cons (ps_set (i := 3) scFetch.nd rfl (.inl rfl) (pe_op op_mod (pe_callTy call_int1 (by rfl) mi boot_int (pa_cons (pe_op op_add (pe_op op_add (pe_op op_mul (pe_ix ix_list (pv 0) pe_int (fun _ _ => rfl)) pe_int)
          (pe_op op_mul (pe_op op_mul (pe_ix ix_list (pv 0) pe_int (fun _ _ => rfl)) (pe_ix ix_list (pv 0) pe_int (fun _ _ => rfl))) pe_int)) pe_int) pa_nil)) pe_int))
      (pss_cons (ps_asg (pe_op op_mod (pe_callTy call_int1 (by rfl) mi boot_int (pa_cons (pe_op op_add (pe_op op_mul (pv 3) (pe_op op_add pe_int (pe_op op_mod (pe_callTy call_int1 (by rfl) mi boot_int (pa_cons (pv 3) pa_nil)) pe_int))) pe_int) pa_nil)) pe_int) (pg_sub (pv 0) pe_int set_list))
      (pss_one (ps_ret (pe_op op_mod (pe_callTy call_int1 (by rfl) mi boot_int (pa_cons (pe_op op_fdiv (pe_ix ix_list (pv 0) pe_int (fun _ _ => rfl)) pe_int) pa_nil)) (pv 1))))))), ?_⟩
    have q1 : SqL K H c [.int a, .int b, .int n] := .inl (.inl hc)
    refine ⟨.ref c, rfl, c, _, 0, .int a, rfl, rfl, q1, rfl, a, 0, rfl, rfl, _, rfl, ite2 (fun z => ?_) (fun z => ?_)⟩
    · refine ⟨.ref c, rfl, c, _, 0, .int a, rfl, rfl, q1, rfl, .int m, rfl, a, m, rfl, ⟨m0, mb⟩, fun p np => ?_⟩
      have pc : c ≠ p := ne_of_none hc np
      refine ⟨p, _, rfl, .inl (.inl upd_same), rfl, _, _, rfl, .ref c, rfl, c, [.int a, .int b, .int n], 0, 0, rfl, rfl, (upd_ne pc).trans hc, rfl, _, _, rfl, rfl, ?_⟩
      refine ⟨.int (a % m), rfl, q _ _ (Int.emod_nonneg _ (by omega)) (Int.emod_lt_of_pos _ m0) ((But.new np).trans But.put) ⟨a / m, b, n, upd_same, Int.ediv_nonneg a0 (by omega), b0, b1, n0, by omega⟩⟩
    · refine ⟨.ref c, rfl, c, _, 2, .int n, rfl, rfl, q1, rfl, n, 1, rfl, rfl, .ref c, rfl, c, [.int a, .int b, .int n], 2, 2, rfl, rfl, hc, rfl, ?_⟩
      have q2 : SqL K (upd H c (.lst [.int a, .int b, .int (n + 1)])) c [.int a, .int b, .int (n + 1)] := .inl (.inl upd_same)
      refine ⟨.ref c, rfl, c, _, 1, .int b, rfl, rfl, q2, rfl, b, 45007, rfl, rfl, .inr ⟨by decide, by decide⟩, ?_⟩
      refine ⟨.ref c, rfl, c, _, 2, .int (n + 1), rfl, rfl, q2, rfl, .ref c, rfl, c, _, 2, .int (n + 1), rfl, rfl, q2, rfl, n + 1, n + 1, rfl, rfl, .inl ⟨by omega, by omega⟩, _, 137, rfl, rfl, .inr ⟨by decide, by decide⟩, _, _, rfl, rfl, _, 71, rfl, rfl, .inl ⟨_, rfl, _, 2147479819, rfl, rfl, (by show (0 : Int) < 2147479819; decide), ?_⟩⟩
      generalize b * 45007 + (n + 1) * (n + 1) * 137 + 71 = x
      have x0 : 0 ≤ x % 2147479819 := Int.emod_nonneg _ (by decide)
      have x1 : x % 2147479819 < 2147479819 := Int.emod_lt_of_pos _ (by decide)
      refine ⟨.int (x % 2147479819), rfl, .int (x % 2147479819), rfl, .inl ⟨_, rfl, _, 6011, rfl, rfl, (by show (0 : Int) < 6011; decide), 39041, _, rfl, rfl, _, _, rfl, rfl, .inl ⟨by omega, by omega⟩, _, 97, rfl, rfl, .inl ⟨_, rfl, _, 2147479903, rfl, rfl, (by show (0 : Int) < 2147479903; decide), ?_⟩⟩⟩
      generalize x % 2147479819 * (39041 + x % 2147479819 % 6011) + 97 = y
      have y0 : 0 ≤ y % 2147479903 := Int.emod_nonneg _ (by decide)
      have y1 : y % 2147479903 < 2147479903 := Int.emod_lt_of_pos _ (by decide)
      refine ⟨.ref c, rfl, c, [.int a, .int b, .int (n + 1)], 1, 1, rfl, rfl, upd_same, rfl, ?_⟩
      refine ⟨.ref c, rfl, c, [.int a, .int (y % 2147479903), .int (n + 1)], 1, .int (y % 2147479903), rfl, rfl, .inl (.inl upd_same), rfl, _, 512, rfl, rfl, ⟨by decide, by decide⟩, .inl ⟨_, rfl, .int m, rfl, _, m, rfl, rfl, m0, ?_⟩⟩
      exact q _ _ (Int.emod_nonneg _ (by omega)) (Int.emod_lt_of_pos _ m0) (But.put.trans But.put) ⟨a, y % 2147479903, n + 1, upd_same, a0, y0, by omega, by omega, by omega⟩
def spChoose : Sp := fun vs H Q _ => ∃ (c l : Addr) (xs : List V) (B : Nat), vs = [.ref c, .ref l] ∧ H l = some (.lst xs) ∧ l ≠ c ∧ 0 < xs.length ∧ xs.length < 1000 ∧ ChB H c B ∧ B ≤ 1000000 ∧ ∀ H' (j : Nat) x, xs[j]? = some x → But c H H' → ChB H' c (B + 1) → Q x H'
theorem ok_choose {f g : Addr} {fd gd : FuncData} (F : Fun K "_law_choose" "_law_choose" sChoose f fd) (G : FnOk P w K mg base CX0 1 g gd ["_law_chest_here", "_law_most"] spFetch) (mG : mg "_law_fetch" = some (.ref g)) (kG : PySem.W.keepIn K (.ref g) = true) (bG : Binds K gd ["_law_chest_here", "_law_most"] []) (ml : mg "len" = none) : FnOk P w K mg base CX0 2 f fd ["_law_chest_here", "_law_menu"] spChoose := by
  refine F.ok scChoose (fun vs H Q E h => ?_) (fun cdv A outer s H vs Q E hr h => ?_)
  · obtain ⟨c, m, xs, B, rfl, _⟩ := h
    rfl
  · obtain ⟨c, l, xs, B, rfl, hl, lc, l0, l1, hC, hB, q⟩ := h
    refine ⟨_, pss_one (ps_ret (pe_ix ix_list (pv 1) (pe_call G hr (by rfl) mG kG bG .nil pass0 (pa_cons (pv 0) (pa_cons (pe_callB call_len_seq (by rfl) ml PySem.boot_len (pa_cons (pv 1) pa_nil)) pa_nil))) (fun _ _ => rfl))), ?_⟩
    refine ⟨.ref l, rfl, .ref c, rfl, .ref l, rfl, l, xs, rfl, .inl (.inl (.inl hl)), c, xs.length, B, rfl, by omega, by omega, hC, hB, fun H' r r0 r1 hbut hch => ?_⟩
    obtain ⟨j, rfl⟩ : ∃ j : Nat, r = j := ⟨r.toNat, by omega⟩
    have hj : j < xs.length := by omega
    exact ⟨l, xs, j, xs[j], rfl, rfl, .inl (.inl (hbut _ _ lc hl)), atI_nat (List.getElem?_eq_getElem hj), q _ j _ (List.getElem?_eq_getElem hj) hbut hch⟩
/-! ### the law's own splitting, and by rests -/
theorem pow_big {p : Int} (hp : 2 ≤ p) : ∀ k : Nat, 2 ^ k ≤ (p ^ k).natAbs
  | 0 => by simp
  | k + 1 => by
    have ih := pow_big hp k
    rw [Int.pow_succ, Int.natAbs_mul, Nat.pow_succ]
    exact Nat.mul_le_mul ih (by omega)
def spSpl : Sp := fun vs H Q _ => ∃ (n p : Int) (k : Nat) (u : Int), vs = [.int n, .int p] ∧ 2 ≤ p ∧ p < 1073741824 ∧ n ≠ 0 ∧ n.natAbs < 1000000000000 ∧ Spl p n k u ∧ ∀ q, H q = none → Q (.ref q) (upd H q (.tup [.int k, .int u]))
theorem ok_spl {f : Addr} {fd : FuncData} (F : Fun K "_law_split" "_law_split" sSpl f fd) (mi : mg "int" = none) (mr : mg "range" = none) : FnOk P w K mg base CX0 1 f fd ["_law_n", "_law_p"] spSpl := by
  refine F.ok scSpl (fun vs H Q E h => ?_) (fun cdv A outer s H vs Q E hr h => ?_)
  · obtain ⟨n, p, k, u, rfl, _⟩ := h
    rfl
  · obtain ⟨n, p, k, u, rfl, p2, pb, n0, nb, hS, q⟩ := h
    refine ⟨_, pss_cons (ps_par (i := 2) (j := 3) rfl scSpl.nd rfl rfl (by decide) rfl rfl (pa_cons pe_int (pa_cons (pv 0) pa_nil)) (by rfl))
      (pss_cons (ps_for PassesOwn.never rfl (pi_range1 rfl mr (pa_cons pe_int pa_nil)) (pg_name (i := 4) scSpl.nd rfl (.inl rfl))
        (pss_cons (ps_if (pt_cmpR op_ne (pe_op op_mod (pe_callTy call_int1 (by rfl) mi boot_int (pa_cons (pv 3) pa_nil)) (pv 1)) pe_int (nomark _)) (pss_one ps_break) pss_nil)
        (pss_one (ps_par (i := 2) (j := 3) rfl scSpl.nd rfl rfl (by decide) rfl rfl (pa_cons (pe_op op_add (pv 2) pe_int) (pa_cons (pe_op op_fdiv (pv 3) (pv 1)) pa_nil)) (by rfl)))))
      (pss_one (ps_ret (pe_tup (pa_cons (pv 2) (pa_cons (pv 3) pa_nil)))))), ?_⟩
    refine ⟨.int n, rfl, .int 0, .int n, rfl, ?_⟩
    refine ⟨400, rfl, by decide, by decide, for_range (n := ((400 : Int).toNat)) (fun i σ H' => H' = H ∧ ∃ (n' : Int) (x : Option V), σ = [some (.int n), some (.int p), some (.int i), some (.int n'), x] ∧ n' ≠ 0 ∧ n = p ^ i * n')
      ⟨rfl, n, none, rfl, n0, by simp⟩ ?_ ?_⟩
    · rintro i σ H0 hi ⟨rfl, n', x, rfl, z0, e⟩
      refine ⟨.int n', rfl, .inl ⟨n', rfl, .int p, rfl, n', p, rfl, rfl, (by show 0 < p; omega), rfl, _, rfl, ne_ite (fun z => ?_) (fun z => ?_)⟩⟩
      · have hz : n' % p ≠ 0 := fun y => z (congrArg V.int y)
        obtain ⟨rfl, rfl⟩ := hS.uniq p2 ⟨e, hz⟩
        exact ⟨.int k, rfl, .int u, rfl, (by show 2 ≤ sizeLine; decide), q⟩
      · have hz : n' % p = 0 := V.int.inj z
        have e1 : n' = p * (n' / p) := by have := Int.mul_ediv_add_emod n' p; omega
        have q0 : n' / p ≠ 0 := fun y => by rw [y] at e1; simp at e1; exact z0 e1
        refine ⟨.int i, rfl, i, 1, rfl, rfl, .int n', rfl, .int p, rfl, n', p, rfl, rfl, ⟨by omega, pb⟩, _, _, rfl, rfl, n' / p, some (.int (0 + (i : Int))), rfl, q0, ?_⟩
        rw [e, Int.pow_succ, Int.mul_assoc, ← e1]
    · rintro σ H0 ⟨rfl, n', x, rfl, z0, e⟩
      exfalso
      have hb := pow_big p2 400
      have : n.natAbs = (p ^ 400).natAbs * n'.natAbs := by rw [← Int.natAbs_mul]; exact congrArg Int.natAbs e
      have h1 : (p ^ 400).natAbs * 1 ≤ (p ^ 400).natAbs * n'.natAbs := Nat.mul_le_mul_left _ (by omega)
      have h2 : 1000000000000 ≤ (2 : Nat) ^ 400 := by decide +kernel
      omega
end
end K26

namespace K26
open PySem PySem.Spec PyProof.Rows L2 NT
theorem mem_get {α : Type} {xs : List α} {j : Nat} {x : α} (h : xs[j]? = some x) : x ∈ xs := List.mem_of_getElem? h
section
variable {P : Program} {w : World} {K : PySem.W.Frag} {mg : Str → Option Value} {base : Heap}
/-! ### a chest is made -/
def spChest (K : PySem.W.Frag) : Sp := fun vs H Q _ => ∃ (a : Addr) (ns : List Int) (i : Nat), vs = [.ref a, .int i] ∧ SqL K H a (ns.map V.int) ∧ i ≤ 2 ∧ ns.length ≤ 63 ∧ ∀ H' c, Same H H' → H c = none → ChB H' c 1 → Q (.ref c) H'
theorem cut6 (ns : List Int) : cutV (ns.map V.int) none (some 6) = (ns.take 6).map V.int := by
  unfold cutV
  rw [show HT.sIx (ns.map V.int).length 0 none = 0 from HT.sIx_none _ _, List.drop_zero, Nat.sub_zero, show HT.sIx (ns.map V.int).length (ns.map V.int).length (some 6) = min 6 (ns.map V.int).length from HT.sIx_nat _ _ 6, List.map_take]
  by_cases h : 6 ≤ (ns.map V.int).length
  · rw [Nat.min_eq_left h]
  · rw [Nat.min_eq_right (by omega), List.take_of_length_le Nat.le.refl, List.take_of_length_le (show _ ≤ 6 by omega)]
theorem ok_chest {f : Addr} {fd : FuncData} (F : Fun K "_law_chest" "_law_chest" sChest f fd) (mi : mg "int" = none) (ml : mg "len" = none) (ma : mg "abs" = none) : FnOk P w K mg base CX0 1 f fd ["_law_script", "_law_at"] (spChest K) := by
  refine F.ok scChest (fun vs H Q E h => ?_) (fun cdv A outer s H vs Q E hr h => ?_)
  · obtain ⟨a, ns, i, rfl, _⟩ := h
    rfl
  · obtain ⟨a, ns, i, rfl, hS, hi, hl, q⟩ := h
    have md : (0 : Int) < 2147479819 := by decide
    obtain ⟨tR, hR, qR⟩ : ∃ t, PSs (cxOf CX0 P w K mg base ["_law_script", "_law_at", "_law_mixed", "_law_cell", "_law_own"] "_law_chest" (defScope sChest) f cdv A outer s H E).nox ((defBody sChest).drop 3) t ∧
        ∀ (mx own : Int) (x3 : Option V) H1, 0 ≤ mx → mx < 2147479819 → Same H H1 → t { nx := fun _ H' => Q .non H', rt := Q } [some (.ref a), some (.int i), some (.int mx), x3, some (.int own)] H1 := by
      refine ⟨_, pss_one (ps_ret (pe_lst (pa_cons (pe_ifExp (pt_cmpR op_ge (pe_callB call_abs (by rfl) ma boot_abs (pa_cons (pv 4) pa_nil)) (pe_op op_pow pe_int pe_int) (nomark _)) (pe_callB call_abs (by rfl) ma boot_abs (pa_cons (pv 4) pa_nil)) pe_int)
        (pa_cons (pe_op op_mod (pe_callTy call_int1 (by rfl) mi boot_int (pa_cons (pe_op op_add (pe_op op_add (pe_op op_mul (pv 2) pe_int) (pe_op op_mul (pv 4) pe_int)) pe_int) pa_nil)) pe_int) (pa_cons pe_int pa_nil))))), ?_⟩
      intro mx own x3 H1 m0 m1 sm
      have ab : 0 ≤ (if own < 0 then -own else own) := by split <;> omega
      refine ⟨.int own, rfl, own, rfl, 10, 17, rfl, rfl, ⟨by decide, by decide, by decide⟩, _, _, rfl, rfl, _, rfl, ite2 (fun _ => ⟨.int own, rfl, own, rfl, ?_⟩) (fun _ => ?_)⟩
      · refine ⟨.int mx, rfl, mx, 97, rfl, rfl, .inr ⟨by decide, by decide⟩, .int own, rfl, own, 59, rfl, rfl, .inr ⟨by decide, by decide⟩, _, _, rfl, rfl, _, 43, rfl, rfl, .inl ⟨_, rfl, _, 2147479819, rfl, rfl, md, (by show 3 ≤ sizeLine; decide), fun c nc => ?_⟩⟩
        exact q _ c (sm.trans (same_new nc)) (sm.free nc) ⟨_, _, 0, upd_same, ab, Int.emod_nonneg _ (by decide), Int.lt_trans (Int.emod_lt_of_pos _ md) (by decide), by decide, by decide⟩
      · refine ⟨.int mx, rfl, mx, 97, rfl, rfl, .inr ⟨by decide, by decide⟩, .int own, rfl, own, 59, rfl, rfl, .inr ⟨by decide, by decide⟩, _, _, rfl, rfl, _, 43, rfl, rfl, .inl ⟨_, rfl, _, 2147479819, rfl, rfl, md, (by show 3 ≤ sizeLine; decide), fun c nc => ?_⟩⟩
        exact q _ c (sm.trans (same_new nc)) (sm.free nc) ⟨_, _, 0, upd_same, Int.le_refl 0, Int.emod_nonneg _ (by decide), Int.lt_trans (Int.emod_lt_of_pos _ md) (by decide), by decide, by decide⟩
    refine ⟨_, pss_cons (ps_set (i := 2) scChest.nd rfl (.inl rfl) (pe_op op_add pe_int (pe_op op_mul pe_int (pv 1))))
      (pss_cons (ps_for PassesOwn.never rfl (pi_list (pe_slice sl_list (pv 0) po_none (po_some pe_int))) (pg_name (i := 3) scChest.nd rfl (.inl rfl))
        (pss_one (ps_set (i := 2) scChest.nd rfl (.inl rfl) (pe_op op_mod (pe_callTy call_int1 (by rfl) mi boot_int (pa_cons (pe_op op_add (pe_op op_mul (pv 2) pe_int) (pv 3)) pa_nil)) pe_int))))
      (pss_cons (ps_set (i := 4) scChest.nd rfl (.inl rfl) (pe_ifExp (pt_cmpR op_lt (pv 1) (pe_callB call_len_seq (by rfl) ml PySem.boot_len (pa_cons (pv 0) pa_nil)) (nomark _)) (pe_ix ix_list (pv 0) (pv 1) (fun _ _ => rfl)) (pe_op op_add (pe_op op_mul pe_int (pv 1)) pe_int))) hR)), ?_⟩
    refine ⟨.int i, rfl, 8009, i, rfl, rfl, .inl ⟨by decide, by decide⟩, 39019, _, rfl, rfl, .ref a, rfl, 6, rfl, a, _, rfl, hS, fun l nl => ?_⟩
    have sm := same_new (o := .lst (cutV (ns.map V.int) none (some 6))) nl
    have hL : SqL K (upd H l (.lst (cutV (ns.map V.int) none (some 6)))) l ((ns.take 6).map V.int) := by
      rw [← cut6]
      exact .inl (.inl upd_same)
    refine ⟨l, rfl, ⟨_, hL⟩, for_list (xs := (ns.take 6).map V.int) (fun j σ H' => H' = upd H l (.lst (cutV (ns.map V.int) none (some 6))) ∧ ∃ (mx : Int) (x3 : Option V), σ = [some (.ref a), some (.int i), some (.int mx), x3, none] ∧ 0 ≤ mx ∧ mx < 2147479819)
      ⟨rfl, 39019 + 8009 * i, none, rfl, by omega, by omega⟩ (fun j σ H' _ hP => hP.1 ▸ hL) ?_ ?_⟩
    · rintro j x σ H' hx ⟨rfl, mx, x3, rfl, m0, m1⟩
      rw [List.getElem?_map] at hx
      obtain ⟨v, hv, rfl⟩ := Option.map_eq_some_iff.mp hx
      refine ⟨.int mx, rfl, mx, 31013, rfl, rfl, .inr ⟨by decide, by decide⟩, .int v, rfl, _, v, rfl, rfl, .inl ⟨_, rfl, _, 2147479819, rfl, rfl, md, rfl, _, some (.int v), rfl, Int.emod_nonneg _ (by decide), Int.emod_lt_of_pos _ md⟩⟩
    · rintro σ H' ⟨rfl, mx, x3, rfl, m0, m1⟩
      have hS2 : SqL K (upd H l (.lst (cutV (ns.map V.int) none (some 6)))) a (ns.map V.int) := sm.seq hS
      refine ⟨.int i, rfl, .ref a, rfl, a, _, rfl, .inl hS2, i, _, rfl, rfl, _, rfl, ite2 (fun z => ?_) (fun z => ?_)⟩
      · have hlt : (i : Int) < ((ns.map V.int).length : Nat) := of_decide_eq_true z
        have hlt2 : i < ns.length := by rw [List.length_map] at hlt; omega
        refine ⟨.ref a, rfl, .int i, rfl, a, _, i, .int ns[i], rfl, rfl, hS2, atI_nat ?_, qR mx _ x3 _ m0 m1 sm⟩
        rw [List.getElem?_map, List.getElem?_eq_getElem hlt2]
        rfl
      · exact ⟨.int i, rfl, 67, i, rfl, rfl, .inl ⟨by decide, by decide⟩, _, 37, rfl, rfl, qR mx _ x3 _ m0 m1 sm⟩
end
end K26

namespace NT
def oddU (p u : Int) : Int := if u ^ (p / 2).toNat % p = 1 then 0 else 1
def sgZ (p : Int) (k : Nat) (u : Int) (l : Nat) (v : Int) : Int :=
  if p = 2 then (u / 2) * (v / 2) + k * (v * v / 8) + l * (u * u / 8) else k * l * (p / 2) + l * oddU p u + k * oddU p v
/-- the sign at a prime -/
def sg (p : Int) (k : Nat) (u : Int) (l : Nat) (v : Int) : Int := if sgZ p k u l v % 2 = 1 then -1 else 1
theorem par2 (a b c d e f : Int) : (a * b + c * d + e * f) % 2 = ((a % 2) * (b % 2) + (c % 2) * (d % 2) + (e % 2) * (f % 2)) % 2 := by
  have h : ∀ x y : Int, x * y % 2 = (x % 2) * (y % 2) % 2 := fun x y => Int.mul_emod x y 2
  have h1 := h a b; have h2 := h c d; have h3 := h e f
  omega
theorem sg_comm (p : Int) (k : Nat) (u : Int) (l : Nat) (v : Int) : sg p k u l v = sg p l v k u := by
  have : sgZ p k u l v = sgZ p l v k u := by
    unfold sgZ
    by_cases e : p = 2
    · rw [if_pos e, if_pos e, Int.mul_comm (u / 2)]; omega
    · rw [if_neg e, if_neg e, Int.mul_comm (k : Int) l]; omega
  unfold sg; rw [this]
theorem half8 {u : Int} : (u / 2) % 2 = ((u % 8) / 2) % 2 := by omega
theorem sq8 (u : Int) : (u * u / 8) % 2 = ((u % 8) * (u % 8) / 8) % 2 := by
  obtain ⟨q, hq⟩ : ∃ q, u = 8 * q + u % 8 := ⟨u / 8, by omega⟩
  generalize u % 8 = r at hq
  subst hq
  have : (8 * q + r) * (8 * q + r) = r * r + 8 * (2 * (4 * (q * q) + q * r)) := by
    have h1 : (8 * q) * (8 * q) = 64 * (q * q) := by rw [Int.mul_assoc, Int.mul_left_comm q 8 q, ← Int.mul_assoc]; rfl
    have h2 : (8 * q) * r = 8 * (q * r) := Int.mul_assoc _ _ _
    have h3 : r * (8 * q) = 8 * (q * r) := by rw [Int.mul_comm, h2]
    rw [Int.add_mul, Int.mul_add, Int.mul_add, h1, h2, h3]
    omega
  rw [this, Int.add_mul_ediv_left _ _ (by decide)]
  omega
theorem sg_sq {p : Int} (hp : five p) {k m : Nat} {u w : Int} {l : Nat} {v : Int} (hw : w % p ≠ 0) : sg p (k + 2 * m) (u * (w * w)) l v = sg p k u l v := by
  obtain ⟨pp, p2, po, _⟩ := five_prime hp
  have key : sgZ p (k + 2 * m) (u * (w * w)) l v % 2 = sgZ p k u l v % 2 := by
    unfold sgZ
    by_cases e : p = 2
    · rw [if_pos e, if_pos e, par2, par2 (u / 2)]
      have w8 : (w * w) % 8 = 1 := by
        have : w % 8 = 1 ∨ w % 8 = 3 ∨ w % 8 = 5 ∨ w % 8 = 7 := by subst e; omega
        rw [Int.mul_emod]
        rcases this with z | z | z | z <;> rw [z] <;> decide
      have u8 : (u * (w * w)) % 8 = u % 8 := by rw [Int.mul_emod, w8]; simp
      have h1 : (u * (w * w) / 2) % 2 = (u / 2) % 2 := by rw [half8, u8, ← half8]
      have h2 : (u * (w * w) * (u * (w * w)) / 8) % 2 = (u * u / 8) % 2 := by rw [sq8, u8, ← sq8]
      have h3 : (((k + 2 * m : Nat) : Int)) % 2 = (k : Int) % 2 := by omega
      rw [h1, h2, h3]
    · rw [if_neg e, if_neg e]
      have eo : oddU p (u * (w * w)) = oddU p u := by
        have hs := sqU_self pp (by omega) po hw
        unfold sqU at hs
        rw [if_neg e] at hs
        have hs' := of_decide_eq_true hs
        unfold oddU
        have : (u * (w * w)) ^ (p / 2).toNat % p = u ^ (p / 2).toNat % p := by
          rw [Int.mul_pow, Int.mul_emod, hs', Int.mul_one, Int.emod_emod]
        rw [this]
      rw [eo]
      have h3 : (((k + 2 * m : Nat) : Int)) = (k : Int) + 2 * m := by omega
      rw [h3]
      have e1 : (↑k + 2 * ↑m) * ↑l * (p / 2) = ↑k * ↑l * (p / 2) + 2 * (↑m * ↑l * (p / 2)) := by
        simp only [Int.add_mul, Int.mul_assoc]
      have e2 : (↑k + 2 * ↑m) * oddU p v = ↑k * oddU p v + 2 * (↑m * oddU p v) := by
        simp only [Int.add_mul, Int.mul_assoc]
      rw [e1, e2]
      omega
  unfold sg; rw [key]
/-- squares change no sign -/
theorem sg_squares {p a b s t : Int} (hp : five p) {k : Nat} {u : Int} {l : Nat} {v : Int} (ha : Spl p a k u) (hb : Spl p b l v) (hs : s ≠ 0) (ht : t ≠ 0) :
    ∃ k' u' l' v', Spl p (a * s * s) k' u' ∧ Spl p (b * t * t) l' v' ∧ sg p k' u' l' v' = sg p k u l v := by
  obtain ⟨pp, p2, po, _⟩ := five_prime hp
  obtain ⟨m, w, hm⟩ := Spl.ex p2 _ s (Nat.le_refl _) hs
  obtain ⟨n, x, hn⟩ := Spl.ex p2 _ t (Nat.le_refl _) ht
  have g : ∀ {a s : Int} {k m : Nat} {u w : Int}, Spl p a k u → Spl p s m w → Spl p (a * s * s) (k + 2 * m) (u * (w * w)) := by
    intro a s k m u w h1 h2
    have h3 := (h1.mul h2 (nd_mul pp (by omega) h1.nd h2.nd)).mul h2 (nd_mul pp (by omega) (nd_mul pp (by omega) h1.nd h2.nd) h2.nd)
    have e1 : k + m + m = k + 2 * m := by omega
    have e2 : u * w * w = u * (w * w) := Int.mul_assoc _ _ _
    rw [e1, e2] at h3
    exact h3
  refine ⟨_, _, _, _, g ha hm, g hb hn, ?_⟩
  rw [sg_sq hp hm.nd, sg_comm, sg_sq hp hn.nd, sg_comm]
/-! ### the weights -/
def wts : List Int := [1, 2, 3, 5, 6, 7, 10, 11, 13, 15, 21, 30, -1, -2, -3, -5, -6, -7, -10, -11, -13, -15, -21, -30]
def spF (p x : Int) : Nat × Int := if x % p = 0 then (if x % (p * p) = 0 then (2, x / (p * p)) else (1, x / p)) else (0, x)
theorem spF_ok {p x : Int} (h : x % (p * p * p) ≠ 0) : Spl p x (spF p x).1 (spF p x).2 := by
  have d : ∀ n : Int, x % n = 0 → x = n * (x / n) := fun n z => (Int.mul_ediv_cancel' (Int.dvd_of_emod_eq_zero z)).symm
  unfold spF
  by_cases h1 : x % p = 0
  · rw [if_pos h1]
    by_cases h2 : x % (p * p) = 0
    · rw [if_pos h2]
      refine ⟨by rw [Int.pow_succ, Int.pow_succ, Int.pow_zero, Int.one_mul]; exact d _ h2, fun z => h ?_⟩
      have e := d _ h2
      obtain ⟨c, hc⟩ := Int.dvd_of_emod_eq_zero z
      show x % (p * p * p) = 0
      have hc' : x / (p * p) = p * c := hc
      rw [e, hc', ← Int.mul_assoc, Int.mul_emod_right]
    · rw [if_neg h2]
      refine ⟨by rw [Int.pow_succ, Int.pow_zero, Int.one_mul]; exact d _ h1, fun z => h2 ?_⟩
      have e := d _ h1
      obtain ⟨c, hc⟩ := Int.dvd_of_emod_eq_zero z
      have hc' : x / p = p * c := hc
      rw [e, hc', ← Int.mul_assoc, Int.mul_emod_right]
  · rw [if_neg h1]
    exact ⟨by simp, h1⟩
/-- by rests: x, y, z below s, not all divided by p -/
def zrB (p : Int) (s : Nat) (a b : Int) : Bool :=
  (List.range s).any fun x => (List.range s).any fun y => (List.range s).any fun z =>
    decide ((a * x * x + b * y * y - z * z) % s = 0) && (decide ((x : Int) % p ≠ 0) || decide ((y : Int) % p ≠ 0) || decide ((z : Int) % p ≠ 0))
/-- squares and whether their root is divided, each once -/
def sqs (p : Int) : List (Int × Bool) :=
  if p = 2 then [(0, false), (1, true), (4, false), (9, true), (16, false), (25, true), (17, true)]
  else if p = 3 then [(0, false), (1, true), (4, true), (7, true)]
  else [(0, false), (1, true), (4, true), (9, true), (16, true), (11, true), (24, true), (14, true), (6, true), (21, true), (19, true)]
def msz (p : Int) : Nat := if p = 2 then 32 else (p * p).toNat
def zrF (p : Int) (a b : Int) : Bool :=
  (sqs p).any fun x => (sqs p).any fun y => (sqs p).any fun z => decide ((a * x.1 + b * y.1 - z.1) % msz p = 0) && (x.2 || y.2 || z.2)
def three (p : Int) : Prop := p = 2 ∨ p = 3 ∨ p = 5
theorem sqs_all {p : Int} (hp : three p) : (∀ x : Nat, x < msz p → ((x : Int) * x % msz p, decide ((x : Int) % p ≠ 0)) ∈ sqs p) ∧ ∀ e ∈ sqs p, ∃ x : Nat, x < msz p ∧ ((x : Int) * x % msz p, decide ((x : Int) % p ≠ 0)) = e := by
  rcases hp with rfl | rfl | rfl
  · exact ⟨by decide +kernel, by decide +kernel⟩
  · exact ⟨by decide +kernel, by decide +kernel⟩
  · exact ⟨by decide +kernel, by decide +kernel⟩
theorem rest_sq (a b s x y z : Int) : (a * x * x + b * y * y - z * z) % s = (a * (x * x % s) + b * (y * y % s) - z * z % s) % s := by
  have h : ∀ c x : Int, (c * x * x) % s = (c * (x * x % s)) % s := fun c x => by
    rw [Int.mul_assoc, Int.mul_emod, Int.mul_emod c (x * x % s), Int.emod_emod]
  rw [Int.sub_emod, Int.add_emod, h, h, ← Int.add_emod, ← Int.sub_emod]
  rw [Int.sub_emod, Int.sub_emod (a * (x * x % s) + b * (y * y % s)) (z * z % s), Int.emod_emod]
theorem zr_eq {p : Int} (hp : three p) (a b : Int) : zrB p (msz p) a b = zrF p a b := by
  obtain ⟨h1, h2⟩ := sqs_all hp
  rw [Bool.eq_iff_iff]
  unfold zrB zrF
  simp only [List.any_eq_true, List.mem_range, Bool.and_eq_true, Bool.or_eq_true, decide_eq_true_eq]
  constructor
  · rintro ⟨x, hx, y, hy, z, hz, e, o⟩
    refine ⟨_, h1 x hx, _, h1 y hy, _, h1 z hz, ?_, ?_⟩
    · rw [rest_sq] at e
      exact e
    · simpa using o
  · rintro ⟨ex, hx, ey, hy, ez, hz, e, o⟩
    obtain ⟨x, x1, rfl⟩ := h2 ex hx
    obtain ⟨y, y1, rfl⟩ := h2 ey hy
    obtain ⟨z, z1, rfl⟩ := h2 ez hz
    refine ⟨x, x1, y, y1, z, z1, ?_, ?_⟩
    · rw [rest_sq]
      exact e
    · simpa using o
def okB (p a b : Int) : Bool := decide (a % (p * p * p) ≠ 0) && decide (b % (p * p * p) ≠ 0) && decide (sg p (spF p a).1 (spF p a).2 (spF p b).1 (spF p b).2 = if zrF p a b then 1 else -1)
theorem ok2 : (wts.all fun a => wts.all fun b => okB 2 a b) = true := by decide +kernel
theorem ok3 : (wts.all fun a => wts.all fun b => okB 3 a b) = true := by decide +kernel
theorem ok5 : (wts.all fun a => wts.all fun b => okB 5 a b) = true := by decide +kernel
end NT

namespace NT
/-- 1 for the rest of a square, otherwise -1 -/
def rs (p x : Int) : Int := if x ^ ((p - 1) / 2).toNat % p = 1 then 1 else -1
def symM (p : Int) (k : Nat) (u : Int) (l : Nat) (v : Int) : Int :=
  let f1 := if (k * l) % 2 = 1 then 1 * rs p (-1) else 1
  let f2 := if l % 2 = 1 then f1 * rs p u else f1
  if k % 2 = 1 then f2 * rs p v else f2
def f7 (a b : Int) : Int := 1 * symM 7 (spF 7 a).1 (spF 7 a).2 (spF 7 b).1 (spF 7 b).2 * symM 7 (spF 7 a).1 (spF 7 a).2 0 (-1) * symM 7 (spF 7 b).1 (spF 7 b).2 0 (-1)
def ok7B (a b : Int) : Bool := decide (a % 343 ≠ 0) && decide (b % 343 ≠ 0) && decide ((a * b) % 343 ≠ 0) &&
  decide (sg 7 (spF 7 a).1 (spF 7 a).2 (spF 7 b).1 (spF 7 b).2 = if f7 a b = symM 7 0 (-1) (spF 7 (a * b)).1 (spF 7 (a * b)).2 then 1 else -1)
theorem ok7 : (wts.all fun a => wts.all fun b => ok7B a b) = true := by decide +kernel
theorem wts_mem {a : Int} (h : a ∈ wts) : a ≠ 0 ∧ -30 ≤ a ∧ a ≤ 30 := by
  have : ∀ a ∈ wts, a ≠ 0 ∧ -30 ≤ a ∧ a ≤ 30 := by decide
  exact this a h
/-- the sign at 0 -/
def sg0 (a b : Int) : Int := if a < 0 ∧ b < 0 then -1 else 1
theorem sg0_sq {a b s t : Int} (hs : 0 < s) (ht : 0 < t) : sg0 (a * s * s) (b * t * t) = sg0 a b := by
  have h : ∀ {a s : Int}, 0 < s → (a * s * s < 0 ↔ a < 0) := fun {a s} hs => by
    have ss : 0 < s * s := Int.mul_pos hs hs
    rw [Int.mul_assoc]
    constructor
    · intro z
      by_cases h0 : a < 0
      · exact h0
      · have : 0 ≤ a * (s * s) := Int.mul_nonneg (by omega) (by omega)
        omega
    · intro z
      exact Int.mul_neg_of_neg_of_pos z ss
  unfold sg0
  have e : (a * s * s < 0 ∧ b * t * t < 0) = (a < 0 ∧ b < 0) := by rw [h hs, h ht]
  simp only [e]
end NT

namespace K26
open PySem PySem.Spec PyProof.Rows L2 NT
section
variable {P : Program} {w : World} {K : PySem.W.Frag} {mg : Str → Option Value} {base : Heap}
theorem pow_big' {p : Int} (hp : 2 ≤ p) {a : Int} {k : Nat} {u : Int} (h : Spl p a k u) (h0 : a ≠ 0) : k < a.natAbs ∧ u.natAbs ≤ a.natAbs := by
  have u0 : u.natAbs ≠ 0 := fun z => h.nd (by have : u = 0 := by omega
                                              rw [this]; simp)
  have hb := pow_big hp k
  have e : a.natAbs = (p ^ k).natAbs * u.natAbs := by rw [← Int.natAbs_mul]; exact congrArg Int.natAbs h.eq
  have h1 : (p ^ k).natAbs * 1 ≤ (p ^ k).natAbs * u.natAbs := Nat.mul_le_mul_left _ (by omega)
  have h2 : 1 * u.natAbs ≤ (p ^ k).natAbs * u.natAbs := Nat.mul_le_mul_right _ (by have := Nat.pow_pos (n := k) (show 0 < 2 by decide); omega)
  have h3 : k < 2 ^ k := Nat.lt_two_pow_self
  omega
/-! ### odd_for, sign_at, sign -/
def spOdd : Sp := fun vs H Q _ => ∃ u p : Int, vs = [.int u, .int p] ∧ 2 ≤ p ∧ p < 1073741824 ∧ Q (.int (oddU p u)) H
theorem ok_oddfor {f fR : Addr} {fd dR : FuncData} (F : Fun K "odd_for" "odd_for" sOddFor f fd) (GR : FnOk P w K mg base CX0 2 fR dR ["number", "prime"] spSqRest) (mR : mg "is_square_rest" = some (.ref fR)) (kR : PySem.W.keepIn K (.ref fR) = true) (bR : Binds K dR ["number", "prime"] []) : FnOk P w K mg base CX0 3 f fd ["number", "prime"] spOdd := by
  refine F.ok scOddFor (fun vs H Q E h => ?_) (fun cdv A outer s H vs Q E hr h => ?_)
  · obtain ⟨u, p, rfl, _⟩ := h
    rfl
  · obtain ⟨u, p, rfl, p2, pb, q⟩ := h
    refine ⟨_, pss_one (ps_ret (pe_ifExp (pt_val (pe_call GR hr (by rfl) mR kR bR .nil pass0 (pa_cons (pv 0) (pa_cons (pv 1) pa_nil)))) pe_int pe_int)), ?_⟩
    refine ⟨.int u, rfl, .int p, rfl, u, p, rfl, p2, pb, _, rfl, ite2 (fun z => ?_) (fun z => ?_)⟩
    · refine to q (congrArg V.int ?_)
      unfold oddU
      rw [if_pos (of_decide_eq_true z)]
    · refine to q (congrArg V.int ?_)
      unfold oddU
      rw [if_neg (fun y => z (decide_eq_true y))]
def spSignAt : Sp := fun vs H Q _ => ∃ a b p : Int, vs = [.int a, .int b, .int p] ∧ a ≠ 0 ∧ b ≠ 0 ∧ a.natAbs ≤ 1000000000 ∧ b.natAbs ≤ 1000000000 ∧
  ((p = 0 ∧ Q (.int (sg0 a b)) H) ∨ (2 ≤ p ∧ p < 1073741824 ∧ ∃ k u l v, Spl p a k u ∧ Spl p b l v ∧ ∀ H', Same H H' → Q (.int (sg p k u l v)) H'))
theorem ok_signat {f fS fO : Addr} {fd dS dO : FuncData} (F : Fun K "sign_at" "sign_at" sSignAt f fd) (GS : FnOk P w K mg base CX0 1 fS dS ["number", "prime"] spSplit) (mS : mg "split_power" = some (.ref fS)) (kS : PySem.W.keepIn K (.ref fS) = true) (bS : Binds K dS ["number", "prime"] [])
    (GO : FnOk P w K mg base CX0 3 fO dO ["number", "prime"] spOdd) (mO : mg "odd_for" = some (.ref fO)) (kO : PySem.W.keepIn K (.ref fO) = true) (bO : Binds K dO ["number", "prime"] []) : FnOk P w K mg base CX0 4 f fd ["number", "other", "place"] spSignAt := by
  refine F.ok scSignAt (fun vs H Q E h => ?_) (fun cdv A outer s H vs Q E hr h => ?_)
  · obtain ⟨a, b, p, rfl, _⟩ := h
    rfl
  · obtain ⟨a, b, p, rfl, a0, b0, am, bm, hc⟩ := h
    have nd := scSignAt.nd
    -- the last statement
    obtain ⟨tR, hR, qR⟩ : ∃ t, PSs (cxOf CX0 P w K mg base ["number", "other", "place", "power", "left", "other_power", "right", "odd"] "sign_at" (defScope sSignAt) f cdv A outer s H E).nox ((defBody sSignAt).drop 4) t ∧
        ∀ (z : Int) (x0 x1 x2 x3 x4 x5 x6 : Option V) H1, Q (.int (if z % 2 = 1 then -1 else 1)) H1 → t { nx := fun _ H' => Q .non H', rt := Q } [x0, x1, x2, x3, x4, x5, x6, some (.int z)] H1 := by
      refine ⟨_, pss_one (ps_ret (pe_ifExp (pt_cmpR op_eq (pe_op op_mod (pv 7) pe_int) pe_int (nomark _)) (pe_un un_neg pe_int) pe_int)), ?_⟩
      intro z x0 x1 x2 x3 x4 x5 x6 H1 q1
      refine ⟨.int z, rfl, z, 2, rfl, rfl, (by show (0 : Int) < 2; decide), rfl, _, rfl, ite2 (fun y => ⟨1, rfl, ?_⟩) (fun y => ?_)⟩
      · have e : z % 2 = 1 := V.int.inj (of_decide_eq_true y)
        rw [if_pos e] at q1
        exact q1
      · have e : ¬ z % 2 = 1 := fun h => y (decide_eq_true (congrArg V.int h))
        rw [if_neg e] at q1
        exact q1
    refine ⟨_, pss_cons (ps_if (pt_cmpR op_eq (pv 2) pe_int (nomark _)) (pss_one (ps_ret (pe_ifExp (PW.pt (pw_and (pt_cmpR op_lt (pv 0) pe_int (nomark _)) (pw_and1 (pt_cmpR op_lt (pv 1) pe_int (nomark _))))) (pe_un un_neg pe_int) pe_int))) pss_nil)
      (pss_cons (ps_asg (pe_call GS (hr.mono (by decide)) (by rfl) mS kS bS .nil pass0 (pa_cons (pv 0) (pa_cons (pv 2) pa_nil))) (pg_tup rfl (pgs_cons (pg_name (i := 3) nd rfl (.inl rfl)) (pgs_cons (pg_name (i := 4) nd rfl (.inl rfl)) pgs_nil))))
      (pss_cons (ps_asg (pe_call GS (hr.mono (by decide)) (by rfl) mS kS bS .nil pass0 (pa_cons (pv 1) (pa_cons (pv 2) pa_nil))) (pg_tup rfl (pgs_cons (pg_name (i := 5) nd rfl (.inl rfl)) (pgs_cons (pg_name (i := 6) nd rfl (.inl rfl)) pgs_nil))))
      (pss_cons (ps_if (pt_cmpR op_eq (pv 2) pe_int (nomark _))
        (pss_one (ps_set (i := 7) nd rfl (.inl rfl) (pe_op op_add (pe_op op_add (pe_op op_mul (pe_op op_fdiv (pv 4) pe_int) (pe_op op_fdiv (pv 6) pe_int)) (pe_op op_mul (pv 3) (pe_op op_fdiv (pe_op op_mul (pv 6) (pv 6)) pe_int))) (pe_op op_mul (pv 5) (pe_op op_fdiv (pe_op op_mul (pv 4) (pv 4)) pe_int)))))
        (pss_cons (ps_set (i := 7) nd rfl (.inl rfl) (pe_op op_mul (pe_op op_mul (pv 3) (pv 5)) (pe_op op_fdiv (pv 2) pe_int)))
        (pss_one (ps_set (i := 7) nd rfl (.inl rfl) (pe_op op_add (pe_op op_add (pv 7) (pe_op op_mul (pv 5) (pe_call GO hr (by rfl) mO kO bO .nil pass0 (pa_cons (pv 4) (pa_cons (pv 2) pa_nil))))) (pe_op op_mul (pv 3) (pe_call GO hr (by rfl) mO kO bO .nil pass0 (pa_cons (pv 6) (pa_cons (pv 2) pa_nil)))))))))
      hR))), ?_⟩
    refine ⟨.int p, rfl, rfl, _, rfl, ite2 (fun z => ?_) (fun z => ?_)⟩
    · have e : p = 0 := V.int.inj (of_decide_eq_true z)
      rcases hc with ⟨_, q⟩ | ⟨h2, _⟩
      · unfold sg0 at q
        refine ⟨.int a, rfl, a, 0, rfl, rfl, _, rfl, ite2 (fun y => ?_) (fun y => ?_)⟩
        · have ha : a < 0 := of_decide_eq_true y
          refine ⟨.int b, rfl, b, 0, rfl, rfl, _, rfl, ite2 (fun y => ⟨1, rfl, ?_⟩) (fun y => ?_)⟩
          · rw [if_pos ⟨ha, of_decide_eq_true y⟩] at q
            exact q
          · rw [if_neg (fun h => y (decide_eq_true h.2))] at q
            exact q
        · rw [if_neg (fun h => y (decide_eq_true h.1))] at q
          exact iteF q
      · omega
    · have e : p ≠ 0 := fun y => z (decide_eq_true (congrArg V.int y))
      rcases hc with ⟨y, _⟩ | ⟨p2, pb, k, u, l, v, sa, sb, q⟩
      · exact absurd y e
      · obtain ⟨k1, u1⟩ := pow_big' p2 sa a0
        obtain ⟨l1, v1⟩ := pow_big' p2 sb b0
        refine ⟨.int a, rfl, .int p, rfl, a, p, k, u, rfl, p2, pb, a0, sa, fun t nt => ?_⟩
        have s1 := same_new (o := .tup [.int k, .int u]) nt
        refine ⟨t, _, rfl, .inl (.inl upd_same), rfl, _, _, rfl, _, _, rfl, rfl, ?_⟩
        refine ⟨.int b, rfl, .int p, rfl, b, p, l, v, rfl, p2, pb, b0, sb, fun t2 nt2 => ?_⟩
        have s2 := s1.trans (same_new (o := .tup [.int l, .int v]) nt2)
        refine ⟨t2, _, rfl, .inl (.inl upd_same), rfl, _, _, rfl, _, _, rfl, rfl, ?_⟩
        refine ⟨.int p, rfl, rfl, _, rfl, ite2 (fun y => ?_) (fun y => ?_)⟩
        · have p2 : p = 2 := V.int.inj (of_decide_eq_true y)
          refine ⟨.int u, rfl, u, 2, rfl, rfl, ⟨by decide, by decide⟩, .int v, rfl, v, 2, rfl, rfl, ⟨by decide, by decide⟩, u / 2, v / 2, rfl, rfl, .inl ⟨by omega, by omega⟩, ?_⟩
          refine ⟨.int k, rfl, .int v, rfl, .int v, rfl, v, v, rfl, rfl, .inl ⟨by omega, by omega⟩, _, 8, rfl, rfl, ⟨by decide, by decide⟩, k, _, rfl, rfl, .inl ⟨by omega, by omega⟩, _, _, rfl, rfl, ?_⟩
          refine ⟨.int l, rfl, .int u, rfl, .int u, rfl, u, u, rfl, rfl, .inl ⟨by omega, by omega⟩, _, 8, rfl, rfl, ⟨by decide, by decide⟩, l, _, rfl, rfl, .inl ⟨by omega, by omega⟩, _, _, rfl, rfl, ?_⟩
          refine qR _ _ _ _ _ _ _ _ _ ?_
          refine to (q _ s2) (congrArg V.int ?_)
          unfold sg sgZ
          rw [if_pos p2]
        · have p2' : p ≠ 2 := fun z => y (decide_eq_true (congrArg V.int z))
          refine ⟨.int k, rfl, .int l, rfl, k, l, rfl, rfl, .inl ⟨by omega, by omega⟩, .int p, rfl, p, 2, rfl, rfl, ⟨by decide, by decide⟩, _, p / 2, rfl, rfl, .inr ⟨by omega, by omega⟩, ?_⟩
          refine ⟨.int (k * l * (p / 2)), rfl, .int l, rfl, .int u, rfl, .int p, rfl, u, p, rfl, p2, pb, l, _, rfl, rfl, .inl ⟨by omega, by omega⟩, _, _, rfl, rfl, ?_⟩
          refine ⟨.int k, rfl, .int v, rfl, .int p, rfl, v, p, rfl, p2, pb, k, _, rfl, rfl, .inl ⟨by omega, by omega⟩, _, _, rfl, rfl, ?_⟩
          refine qR _ _ _ _ _ _ _ _ _ ?_
          refine to (q _ s2) (congrArg V.int ?_)
          unfold sg sgZ
          rw [if_neg p2']
def spSign : Sp := fun vs H Q _ => ∃ a b p : Int, vs = [.int a, .int b, .int p] ∧ a ≠ 0 ∧ b ≠ 0 ∧ a.natAbs ≤ 1000000000 ∧ b.natAbs ≤ 1000000000 ∧
  ((p = 0 ∧ ∀ H', Same H H' → Q (.int (sg0 a b)) H') ∨ (PrimeOk p ∧ p < 1073741824 ∧ ∃ k u l v, Spl p a k u ∧ Spl p b l v ∧ ∀ H', Same H H' → Q (.int (sg p k u l v)) H'))
theorem ok_sign {f fO fP fA : Addr} {fd dO dP dA : FuncData} {t : Tok} (F : Fun K "sign" "sign" sSign f fd) (GO : FnOk P w K mg base CX0 4 fO dO ["number", "size"] spOther) (mO : mg "check_other_than_nought" = some (.ref fO)) (kO : PySem.W.keepIn K (.ref fO) = true) (bO : Binds K dO ["number", "size"] [])
    (GP : FnOk P w K mg base CX0 5 fP dP ["place"] spPlace) (mP : mg "require_place" = some (.ref fP)) (kP : PySem.W.keepIn K (.ref fP) = true) (bP : Binds K dP ["place"] [])
    (GA : FnOk P w K mg base CX0 4 fA dA ["number", "other", "place"] spSignAt) (mA : mg "sign_at" = some (.ref fA)) (kA : PySem.W.keepIn K (.ref fA) = true) (bA : Binds K dA ["number", "other", "place"] []) (mM : mg "MOST_OPERAND" = some (.int (10 ^ 9) t)) : FnOk P w K mg base CX0 6 f fd ["number", "other", "place"] spSign := by
  refine F.ok scSign (fun vs H Q E h => ?_) (fun cdv A outer s H vs Q E hr h => ?_)
  · obtain ⟨a, b, p, rfl, _⟩ := h
    rfl
  · obtain ⟨a, b, p, rfl, a0, b0, am, bm, hc⟩ := h
    refine ⟨_, pss_cons (ps_expr (pe_call GO (hr.mono (by decide)) (by rfl) mO kO bO .nil pass0 (pa_cons (pv 0) (pa_cons (pe_glob (v := .int (10 ^ 9)) (by rfl) mM ⟨_, rfl⟩) pa_nil))))
      (pss_cons (ps_expr (pe_call GO (hr.mono (by decide)) (by rfl) mO kO bO .nil pass0 (pa_cons (pv 1) (pa_cons (pe_glob (v := .int (10 ^ 9)) (by rfl) mM ⟨_, rfl⟩) pa_nil))))
      (pss_cons (ps_expr (pe_call GP hr (by rfl) mP kP bP .nil pass0 (pa_cons (pv 2) pa_nil)))
      (pss_one (ps_ret (pe_call GA (hr.mono (by decide)) (by rfl) mA kA bA .nil pass0 (pa_cons (pv 0) (pa_cons (pv 1) (pa_cons (pv 2) pa_nil)))))))), ?_⟩
    refine ⟨.int a, rfl, a, 10 ^ 9, rfl, by omega, by omega, a0, .int b, rfl, b, 10 ^ 9, rfl, by omega, by omega, b0, ?_⟩
    refine ⟨.int p, rfl, p, rfl, ?_, fun H1 s1 => ?_⟩
    · rcases hc with ⟨z, _⟩ | ⟨z, _⟩
      · exact .inl z
      · exact .inr z
    · refine ⟨.int a, rfl, .int b, rfl, .int p, rfl, a, b, p, rfl, a0, b0, am, bm, ?_⟩
      rcases hc with ⟨z, q⟩ | ⟨z, pb, k, u, l, v, sa, sb, q⟩
      · exact .inl ⟨z, q _ s1⟩
      · exact .inr ⟨z.two, pb, k, u, l, v, sa, sb, fun H' s2 => q _ (s1.trans s2)⟩
end
end K26

namespace K26
open PySem PySem.Spec PyProof.Rows L2 NT
abbrev sRs : Stmt := topS 30
abbrev sSym : Stmt := topS 31
abbrev sWts : Stmt := topS 33
abbrev sProd : Stmt := topS 34
abbrev sForm : Stmt := topS 35
abbrev sVal : Stmt := topS 36
abbrev sZr : Stmt := topS 37
abbrev sZero : Stmt := topS 38
abbrev sRight : Stmt := topS 39
abbrev sLaw : Stmt := topS 40
theorem scRs : FnScope ["_law_u", "_law_p", "_law_found", "_law_base", "_law_left", "_law_turn"] ["_law_u", "_law_p"] (defScope sRs) := ⟨rfl, rfl, rfl, by decide +kernel, rfl, by decide +kernel, by decide +kernel⟩
theorem scSym : FnScope ["_law_a", "_law_b", "_law_p", "_law_i", "_law_u", "_law_j", "_law_v", "_law_odd", "_law_found", "_law_often", "_law_left"] ["_law_a", "_law_b", "_law_p"] (defScope sSym) := ⟨rfl, rfl, rfl, by decide +kernel, rfl, by decide +kernel, by decide +kernel⟩
theorem scWts : FnScope ["_law_chest_here", "_law_n", "_law_some", "_law_k"] ["_law_chest_here", "_law_n"] (defScope sWts) := ⟨rfl, rfl, rfl, by decide +kernel, rfl, by decide +kernel, by decide +kernel⟩
theorem scProd : FnScope ["_law_parts", "_law_found", "_law_part"] ["_law_parts"] (defScope sProd) := ⟨rfl, rfl, rfl, by decide +kernel, rfl, by decide +kernel, by decide +kernel⟩
theorem scForm : FnScope ["_law_parts", "_law_p", "_law_found", "_law_j", "_law_i"] ["_law_parts", "_law_p"] (defScope sForm) := ⟨rfl, rfl, rfl, by decide +kernel, rfl, by decide +kernel, by decide +kernel⟩
theorem scVal : FnScope ["_law_some", "_law_p", "_law_size", "_law_found", "_law_firsts", "_law_x", "_law_y", "_law_rest", "_law_is_own"] ["_law_some", "_law_p", "_law_size"] (defScope sVal) := ⟨rfl, rfl, rfl, by decide +kernel, rfl, by decide +kernel, by decide +kernel⟩
theorem scZr : FnScope ["_law_parts", "_law_p", "_law_size", "_law_one", "_law_two", "_law_rest", "_law_late"] ["_law_parts", "_law_p"] (defScope sZr) := ⟨rfl, rfl, rfl, by decide +kernel, rfl, by decide +kernel, by decide +kernel⟩
theorem scZero : FnScope ["_law_parts", "_law_p", "_law_d"] ["_law_parts", "_law_p"] (defScope sZero) := ⟨rfl, rfl, rfl, by decide +kernel, rfl, by decide +kernel, by decide +kernel⟩
theorem scRight : FnScope ["_law_chest_here", "_law_lap", "_law_a", "_law_b", "_law_one", "_law_two", "_law_p", "_law_due", "_law_told"] ["_law_chest_here"] (defScope sRight) := ⟨rfl, rfl, rfl, by decide +kernel, rfl, by decide +kernel, by decide +kernel⟩
theorem scLaw : FnScope ["_law_script", "_law_at"] ["_law_script"] (defScope sLaw) := ⟨rfl, rfl, rfl, by decide +kernel, rfl, by decide +kernel, by decide +kernel⟩
section
variable {P : Program} {w : World} {K : PySem.W.Frag} {mg : Str → Option Value} {base : Heap}
/-! ### rest_sign -/
def spRs : Sp := fun vs H Q _ => ∃ u p : Int, vs = [.int u, .int p] ∧ 2 < p ∧ p < 1073741824 ∧ Q (.int (rs p u)) H
theorem ok_rs {f : Addr} {fd : FuncData} (F : Fun K "_law_rest_sign" "_law_rest_sign" sRs f fd) (mi : mg "int" = none) (mr : mg "range" = none) : FnOk P w K mg base CX0 1 f fd ["_law_u", "_law_p"] spRs := by
  refine F.ok scRs (fun vs H Q E h => ?_) (fun cdv A outer s H vs Q E hr h => ?_)
  · obtain ⟨u, p, rfl, _⟩ := h
    rfl
  · obtain ⟨u, p, rfl, p2, pb, q⟩ := h
    have nd := scRs.nd
    refine ⟨_, pss_cons (ps_par3 (i := 2) (j := 3) (l := 4) rfl nd rfl rfl rfl (by decide) (by decide) (by decide) rfl rfl rfl (pa_cons pe_int (pa_cons (pe_op op_mod (pe_callTy call_int1 (by rfl) mi boot_int (pa_cons (pv 0) pa_nil)) (pv 1)) (pa_cons (pe_op op_fdiv (pe_op op_sub (pv 1) pe_int) pe_int) pa_nil))) (by rfl))
      (pss_cons (ps_for PassesOwn.never rfl (pi_range1 rfl mr (pa_cons pe_int pa_nil)) (pg_name (i := 5) nd rfl (.inl rfl))
        (pss_cons (ps_if (pt_cmpR op_eq (pv 4) pe_int (nomark _)) (pss_one ps_break) pss_nil)
        (pss_cons (ps_if (pt_cmpR op_eq (pe_op op_mod (pe_callTy call_int1 (by rfl) mi boot_int (pa_cons (pv 4) pa_nil)) pe_int) pe_int (nomark _)) (pss_one (ps_set (i := 2) nd rfl (.inl rfl) (pe_op op_mod (pe_callTy call_int1 (by rfl) mi boot_int (pa_cons (pe_op op_mul (pv 2) (pv 3)) pa_nil)) (pv 1)))) pss_nil)
        (pss_one (ps_par (i := 3) (j := 4) rfl nd rfl rfl (by decide) rfl rfl (pa_cons (pe_op op_mod (pe_callTy call_int1 (by rfl) mi boot_int (pa_cons (pe_op op_mul (pv 3) (pv 3)) pa_nil)) (pv 1)) (pa_cons (pe_op op_fdiv (pv 4) pe_int) pa_nil)) (by rfl))))))
      (pss_one (ps_ret (pe_ifExp (pt_cmpR op_eq (pv 2) pe_int (nomark _)) pe_int (pe_un un_neg pe_int))))), ?_⟩
    have p0 : 0 < p := by omega
    have fin : ∀ (r : Int) (x0 x1 x3 x4 x5 : Option V), r % p = r → r % p = u ^ ((p - 1) / 2).toNat % p → tRet (tIf (tTest (tOp rEq (tVar 2) (tC (.int 1)))) (tC (.int 1)) (tUn (rU fun i => .int (-i)) (tC (.int 1)))) { nx := fun _ H' => Q .non H', rt := Q } [x0, x1, some (.int r), x3, x4, x5] H := by
      intro r x0 x1 x3 x4 x5 h1 h2
      refine ⟨.int r, rfl, rfl, _, rfl, ite2 (fun z => ?_) (fun z => ⟨1, rfl, ?_⟩)⟩
      · have e : r = 1 := V.int.inj (of_decide_eq_true z)
        refine to q (congrArg V.int ?_)
        unfold rs
        rw [if_pos (by rw [← h2, h1, e])]
      · have e : ¬ r = 1 := fun y => z (decide_eq_true (congrArg V.int y))
        refine to q (congrArg V.int ?_)
        unfold rs
        rw [if_neg (by rw [← h2, h1]; exact e)]
    refine ⟨.int u, rfl, .inl ⟨u, rfl, .int p, rfl, u, p, rfl, rfl, p0, .int p, rfl, p, 1, rfl, rfl, p - 1, 2, rfl, rfl, ⟨by decide, by decide⟩, _, _, _, rfl, ?_⟩⟩
    refine ⟨80, rfl, by decide, by decide, for_range (n := ((80 : Int).toNat)) (fun i σ H' => H' = H ∧ ∃ (r b e : Int) (x : Option V), σ = [some (.int u), some (.int p), some (.int r), some (.int b), some (.int e), x] ∧ 0 ≤ e ∧ e * 2 ^ i < 1073741824 ∧ 0 ≤ r ∧ r < p ∧ 0 ≤ b ∧ b < p ∧ (r * b ^ e.toNat) % p = u ^ ((p - 1) / 2).toNat % p)
      ⟨rfl, 1, u % p, (p - 1) / 2, none, rfl, by omega, by omega, by decide, by omega, Int.emod_nonneg _ (by omega), Int.emod_lt_of_pos _ p0, ?_⟩ ?_ ?_⟩
    · rw [Int.one_mul, ← ipow_emod]
    · rintro i σ H0 hi ⟨rfl, r, b, e, x, rfl, e0, e1, r0, r1, b0, b1, hp⟩
      refine ⟨.int e, rfl, rfl, _, rfl, ite2 (fun z => ?_) (fun z => ?_)⟩
      · have ez : e = 0 := V.int.inj (of_decide_eq_true z)
        subst ez
        refine fin r _ _ _ _ _ (Int.emod_eq_of_lt r0 r1) ?_
        rw [← hp]
        show r % p = r * b ^ 0 % p
        rw [Int.pow_zero, Int.mul_one]
      · have ez : e ≠ 0 := fun y => z (decide_eq_true (congrArg V.int y))
        have turn := pow_turn r b e p (by omega)
        have e2 : e / 2 * 2 ^ (i + 1) < 1073741824 := by
          have : e / 2 * 2 ^ (i + 1) ≤ e * 2 ^ i := by
            rw [Int.pow_succ, Int.mul_comm ((2 : Int) ^ i) 2, ← Int.mul_assoc]
            exact Int.mul_le_mul_of_nonneg_right (by omega) (Int.pow_nonneg (by decide))
          omega
        have bb : -(2 ^ 64) < b ∧ b < 2 ^ 64 := ⟨by omega, by omega⟩
        have sq : 0 ≤ b * b % p ∧ b * b % p < p := ⟨Int.emod_nonneg _ (by omega), Int.emod_lt_of_pos _ p0⟩
        refine ⟨.int e, rfl, .inl ⟨e, rfl, e, 2, rfl, rfl, (by show (0 : Int) < 2; decide), rfl, _, rfl, ite2 (fun z2 => ?_) (fun z2 => ?_)⟩⟩
        · have eo : e % 2 = 1 := V.int.inj (of_decide_eq_true z2)
          rw [if_pos eo] at turn
          refine ⟨.int r, rfl, .int b, rfl, r, b, rfl, rfl, .inr bb, .inl ⟨_, rfl, .int p, rfl, _, p, rfl, rfl, p0, ?_⟩⟩
          refine ⟨.int b, rfl, .int b, rfl, b, b, rfl, rfl, .inl bb, .inl ⟨_, rfl, .int p, rfl, _, p, rfl, rfl, p0, .int e, rfl, e, 2, rfl, rfl, ⟨by decide, by decide⟩, _, _, rfl, rfl, r * b % p, b * b % p, e / 2, some (.int (0 + (i : Int))), rfl, by omega, e2, Int.emod_nonneg _ (by omega), Int.emod_lt_of_pos _ p0, sq.1, sq.2, turn.trans hp⟩⟩
        · have eo : ¬ e % 2 = 1 := fun y => z2 (decide_eq_true (congrArg V.int y))
          rw [if_neg eo] at turn
          refine ⟨.int b, rfl, .int b, rfl, b, b, rfl, rfl, .inl bb, .inl ⟨_, rfl, .int p, rfl, _, p, rfl, rfl, p0, .int e, rfl, e, 2, rfl, rfl, ⟨by decide, by decide⟩, _, _, rfl, rfl, r, b * b % p, e / 2, some (.int (0 + (i : Int))), rfl, by omega, e2, r0, r1, sq.1, sq.2, turn.trans hp⟩⟩
    · rintro σ H0 ⟨rfl, r, b, e, x, rfl, e0, e1, r0, r1, b0, b1, hp⟩
      have ez : e = 0 := by
        have e80 : (((80 : Int).toNat : Nat)) = 80 := rfl
        rw [e80] at e1
        have : (2 : Int) ^ 80 = 1208925819614629174706176 := by decide +kernel
        rw [this] at e1
        omega
      subst ez
      refine fin r _ _ _ _ _ (Int.emod_eq_of_lt r0 r1) ?_
      rw [← hp]
      show r % p = r * b ^ 0 % p
      rw [Int.pow_zero, Int.mul_one]
end
end K26

namespace K26
open PySem PySem.Spec PyProof.Rows L2 NT
theorem ne_new {c l : Addr} {H : Hp} {B : Nat} (h : ChB H c B) (n : H l = none) : l ≠ c := by
  obtain ⟨_, _, _, e, _⟩ := h
  intro z
  rw [z, e] at n
  cases n
theorem rs_small (p x : Int) : -(2 ^ 64) < rs p x ∧ rs p x < 2 ^ 64 := by
  unfold rs
  split <;> exact ⟨by decide, by decide⟩
theorem symM_small (p : Int) (k : Nat) (u : Int) (l : Nat) (v : Int) : -(2 ^ 64) < symM p k u l v ∧ symM p k u l v < 2 ^ 64 := by
  have h : ∀ x, rs p x = 1 ∨ rs p x = -1 := fun x => by unfold rs; split <;> simp
  unfold symM
  rcases h (-1) with e1 | e1 <;> rcases h u with e2 | e2 <;> rcases h v with e3 | e3 <;> rw [e1, e2, e3] <;> (repeat' split) <;> exact ⟨by decide, by decide⟩
def gf1 (p : Int) (k l : Nat) : Int := if ((k : Int) * l) % 2 = 1 then 1 * rs p (-1) else 1
def gf2 (p : Int) (k : Nat) (u : Int) (l : Nat) : Int := if (l : Int) % 2 = 1 then gf1 p k l * rs p u else gf1 p k l
def gf3 (p : Int) (k : Nat) (u : Int) (l : Nat) (v : Int) : Int := if (k : Int) % 2 = 1 then gf2 p k u l * rs p v else gf2 p k u l
theorem symM_eq (p : Int) (k : Nat) (u : Int) (l : Nat) (v : Int) : symM p k u l v = gf3 p k u l v := by
  have e1 : ((k * l) % 2 = 1) = (((k : Int) * l) % 2 = 1) := propext (by rw [← Int.natCast_mul]; omega)
  have e2 : (l % 2 = 1) = ((l : Int) % 2 = 1) := propext (by omega)
  have e3 : (k % 2 = 1) = ((k : Int) % 2 = 1) := propext (by omega)
  unfold symM gf3 gf2 gf1
  simp only [e1, e2, e3]
section
variable {P : Program} {w : World} {K : PySem.W.Frag} {mg : Str → Option Value} {base : Heap}
/-! ### symbol -/
def spSym : Sp := fun vs H Q _ => ∃ (a b p : Int) (k : Nat) (u : Int) (l : Nat) (v : Int), vs = [.int a, .int b, .int p] ∧ 2 < p ∧ p < 1073741824 ∧ a ≠ 0 ∧ b ≠ 0 ∧ a.natAbs ≤ 1000000000 ∧ b.natAbs ≤ 1000000000 ∧ Spl p a k u ∧ Spl p b l v ∧ ∀ H', Same H H' → Q (.int (symM p k u l v)) H'
theorem ok_sym {f fS fR : Addr} {fd dS dR : FuncData} (F : Fun K "_law_symbol" "_law_symbol" sSym f fd) (GS : FnOk P w K mg base CX0 1 fS dS ["_law_n", "_law_p"] spSpl) (mS : mg "_law_split" = some (.ref fS)) (kS : PySem.W.keepIn K (.ref fS) = true) (bS : Binds K dS ["_law_n", "_law_p"] [])
    (GR : FnOk P w K mg base CX0 1 fR dR ["_law_u", "_law_p"] spRs) (mR : mg "_law_rest_sign" = some (.ref fR)) (kR : PySem.W.keepIn K (.ref fR) = true) (bR : Binds K dR ["_law_u", "_law_p"] []) (mi : mg "int" = none) : FnOk P w K mg base CX0 2 f fd ["_law_a", "_law_b", "_law_p"] spSym := by
  refine F.ok scSym (fun vs H Q E h => ?_) (fun cdv A outer s H vs Q E hr h => ?_)
  · obtain ⟨a, b, p, k, u, l, v, rfl, _⟩ := h
    rfl
  · obtain ⟨a, b, p, k, u, l, v, rfl, p2, pb, a0, b0, am, bm, sa, sb, q⟩ := h
    have nd := scSym.nd
    refine ⟨_, pss_cons (ps_if (pt_cmpR op_eq (pv 2) pe_int (nomark _)) pss_never pss_nil)
      (pss_cons (ps_asg (pe_call GS hr (by rfl) mS kS bS .nil pass0 (pa_cons (pv 0) (pa_cons (pv 2) pa_nil))) (pg_tup rfl (pgs_cons (pg_name (i := 3) nd rfl (.inl rfl)) (pgs_cons (pg_name (i := 4) nd rfl (.inl rfl)) pgs_nil))))
      (pss_cons (ps_asg (pe_call GS hr (by rfl) mS kS bS .nil pass0 (pa_cons (pv 1) (pa_cons (pv 2) pa_nil))) (pg_tup rfl (pgs_cons (pg_name (i := 5) nd rfl (.inl rfl)) (pgs_cons (pg_name (i := 6) nd rfl (.inl rfl)) pgs_nil))))
      (pss_cons (ps_if (pt_cmpR op_eq (pv 2) pe_int (nomark _)) pss_never pss_nil)
      (pss_cons (ps_set (i := 8) nd rfl (.inl rfl) pe_int)
      (pss_cons (ps_for PassesOwn.never rfl (pi_list (pe_lst (pa_cons (pe_tup (pa_cons (pe_op op_mul (pv 3) (pv 5)) (pa_cons (pe_un un_neg pe_int) pa_nil))) (pa_cons (pe_tup (pa_cons (pv 5) (pa_cons (pv 4) pa_nil))) (pa_cons (pe_tup (pa_cons (pv 3) (pa_cons (pv 6) pa_nil))) pa_nil)))))
          (pg_tup rfl (pgs_cons (pg_name (i := 9) nd rfl (.inl rfl)) (pgs_cons (pg_name (i := 10) nd rfl (.inl rfl)) pgs_nil)))
        (pss_one (ps_if (pt_cmpR op_eq (pe_op op_mod (pe_callTy call_int1 (by rfl) mi boot_int (pa_cons (pv 9) pa_nil)) pe_int) pe_int (nomark _)) (pss_one (ps_set (i := 8) nd rfl (.inl rfl) (pe_op op_mul (pv 8) (pe_call GR hr (by rfl) mR kR bR .nil pass0 (pa_cons (pv 10) (pa_cons (pv 2) pa_nil)))))) pss_nil)))
      (pss_one (ps_ret (pv 8)))))))), ?_⟩
    obtain ⟨k1, u1⟩ := pow_big' (by omega) sa a0
    obtain ⟨l1, v1⟩ := pow_big' (by omega) sb b0
    refine ⟨.int p, rfl, rfl, _, rfl, ite2 (fun z => absurd (V.int.inj (of_decide_eq_true z)) (by omega)) (fun _ => ?_)⟩
    refine ⟨.int a, rfl, .int p, rfl, a, p, k, u, rfl, by omega, pb, a0, by omega, sa, fun t nt => ?_⟩
    have s1 := same_new (o := .tup [.int k, .int u]) nt
    refine ⟨t, _, rfl, .inl (.inl upd_same), rfl, _, _, rfl, _, _, rfl, rfl, ?_⟩
    refine ⟨.int b, rfl, .int p, rfl, b, p, l, v, rfl, by omega, pb, b0, by omega, sb, fun t2 nt2 => ?_⟩
    have s2 := s1.trans (same_new (o := .tup [.int l, .int v]) nt2)
    refine ⟨t2, _, rfl, .inl (.inl upd_same), rfl, _, _, rfl, _, _, rfl, rfl, ?_⟩
    refine ⟨.int p, rfl, rfl, _, rfl, ite2 (fun z => absurd (V.int.inj (of_decide_eq_true z)) (by omega)) (fun _ => ?_)⟩
    -- the list of pairs
    have h2 : 2 ≤ sizeLine := by decide
    refine ⟨.int k, rfl, .int l, rfl, k, l, rfl, rfl, .inl ⟨by omega, by omega⟩, 1, rfl, h2, fun t3 n3 => ?_⟩
    refine ⟨.int l, rfl, .int u, rfl, h2, fun t4 n4 => ⟨.int k, rfl, .int v, rfl, h2, fun t5 n5 => ⟨(by show 3 ≤ sizeLine; decide), fun L nL => ?_⟩⟩⟩
    have s3 := s2.trans (same_new (o := .tup [.int ((k : Int) * l), .int (-1)]) n3)
    have s4 := s3.trans (same_new (o := .tup [.int l, .int u]) n4)
    have s5 := s4.trans (same_new (o := .tup [.int k, .int v]) n5)
    have s6 := s5.trans (same_new (o := .lst [.ref t3, .ref t4, .ref t5]) nL)
    have g5 := upd_same (H := (upd (upd (upd (upd H t (.tup [.int k, .int u])) t2 (.tup [.int l, .int v])) t3 (.tup [.int ((k : Int) * l), .int (-1)])) t4 (.tup [.int l, .int u]))) (a := t5) (o := .tup [.int k, .int v])
    have g4 := same_new (o := .tup [.int k, .int v]) n5 _ _ (upd_same (H := (upd (upd (upd H t (.tup [.int k, .int u])) t2 (.tup [.int l, .int v])) t3 (.tup [.int ((k : Int) * l), .int (-1)]))) (a := t4) (o := .tup [.int l, .int u]))
    have g3 := same_new (o := .tup [.int k, .int v]) n5 _ _ (same_new (o := .tup [.int l, .int u]) n4 _ _ (upd_same (H := (upd (upd H t (.tup [.int k, .int u])) t2 (.tup [.int l, .int v]))) (a := t3) (o := .tup [.int ((k : Int) * l), .int (-1)])))
    have up := same_new (o := .lst [.ref t3, .ref t4, .ref t5]) nL
    generalize hHx : upd (upd (upd (upd (upd (upd H t (.tup [.int k, .int u])) t2 (.tup [.int l, .int v])) t3 (.tup [.int ((k : Int) * l), .int (-1)])) t4 (.tup [.int l, .int u])) t5 (.tup [.int k, .int v])) L (.lst [.ref t3, .ref t4, .ref t5]) = Hx at *
    have gL : Hx L = some (.lst [.ref t3, .ref t4, .ref t5]) := by rw [← hHx]; exact upd_same
    have G3 : Hx t3 = some (.tup [.int ((k : Int) * l), .int (-1)]) := up _ _ g3
    have G4 : Hx t4 = some (.tup [.int l, .int u]) := up _ _ g4
    have G5 : Hx t5 = some (.tup [.int k, .int v]) := up _ _ g5
    let Fn : Nat → Int := fun n => match n with
      | 0 => 1
      | 1 => gf1 p k l
      | 2 => gf2 p k u l
      | _ => gf3 p k u l v
    have item : ∀ (n : Nat) x, ([.ref t3, .ref t4, .ref t5] : List V)[n]? = some x → ∃ (tt : Addr) (o y : Int), x = .ref tt ∧ Hx tt = some (.tup [.int o, .int y]) ∧ Fn (n + 1) = if o % 2 = 1 then Fn n * rs p y else Fn n := by
      intro n x hx
      match n, hx with
      | 0, hx => exact ⟨t3, _, _, (Option.some.inj hx).symm, G3, rfl⟩
      | 1, hx => exact ⟨t4, _, _, (Option.some.inj hx).symm, G4, rfl⟩
      | 2, hx => exact ⟨t5, _, _, (Option.some.inj hx).symm, G5, rfl⟩
      | n + 3, hx => simp at hx
    refine ⟨L, rfl, ⟨_, .inl (.inl gL)⟩, for_list (xs := [.ref t3, .ref t4, .ref t5]) (fun n σ H' => H' = Hx ∧ ∃ x9 x10, σ = [some (.int a), some (.int b), some (.int p), some (.int k), some (.int u), some (.int l), some (.int v), none, some (.int (Fn n)), x9, x10])
      ⟨rfl, none, none, rfl⟩ (fun _ _ H' _ z => by rw [z.1]; exact .inl (.inl gL)) ?_ ?_⟩
    · rintro n x σ H' hx ⟨rfl, x9, x10, rfl⟩
      obtain ⟨tt, o, y, rfl, ht, hf⟩ := item n x hx
      refine ⟨tt, _, rfl, .inl (.inl ht), rfl, _, _, rfl, _, _, rfl, rfl, ?_⟩
      refine ⟨.int o, rfl, .inl ⟨o, rfl, o, 2, rfl, rfl, (by show (0 : Int) < 2; decide), rfl, _, rfl, ite2 (fun z => ?_) (fun z => ?_)⟩⟩
      · have e : o % 2 = 1 := V.int.inj (of_decide_eq_true z)
        rw [if_pos e] at hf
        refine ⟨.int (Fn n), rfl, .int y, rfl, .int p, rfl, y, p, rfl, p2, pb, Fn n, _, rfl, rfl, .inr (rs_small p y), rfl, some (.int o), some (.int y), ?_⟩
        rw [hf]
        rfl
      · have e : ¬ o % 2 = 1 := fun h => z (decide_eq_true (congrArg V.int h))
        rw [if_neg e] at hf
        refine ⟨rfl, some (.int o), some (.int y), ?_⟩
        rw [hf]
        rfl
    · rintro σ H' ⟨rfl, x9, x10, rfl⟩
      refine ⟨_, rfl, to (q _ s6) (congrArg V.int ?_)⟩
      exact symM_eq p k u l v
end
end K26

namespace K26
open PySem PySem.Spec PyProof.Rows L2 NT
def w14 : List Int := [1, 1, 1, 2, 3, 5, 6, 7, 10, 11, 13, 15, 21, 30]
theorem w14_ok : ∀ m ∈ w14, ∀ t ∈ ([1, 1, -1] : List Int), m * t ∈ wts ∧ m ≤ 30 ∧ 0 < m := by decide
theorem int_at {xs : List Int} {j : Nat} {x : V} (h : (xs.map V.int)[j]? = some x) : ∃ m ∈ xs, x = .int m := by
  rw [List.getElem?_map] at h
  obtain ⟨m, hm, rfl⟩ := Option.map_eq_some_iff.mp h
  exact ⟨m, List.mem_of_getElem? hm, rfl⟩
section
variable {P : Program} {w : World} {K : PySem.W.Frag} {mg : Str → Option Value} {base : Heap}
/-! ### weights -/
def spWts : Sp := fun vs H Q _ => ∃ (c : Addr) (B : Nat), vs = [.ref c, .int 2] ∧ ChB H c B ∧ B + 4 ≤ 1000000 ∧ ∀ H' D a b, a ∈ wts → b ∈ wts → But c H H' → ChB H' c (B + 4) → H' D = some (.lst [.int a, .int b]) → Q (.ref D) H'
theorem ok_wts {f g : Addr} {fd gd : FuncData} (F : Fun K "_law_weights" "_law_weights" sWts f fd) (G : FnOk P w K mg base CX0 2 g gd ["_law_chest_here", "_law_menu"] spChoose) (mG : mg "_law_choose" = some (.ref g)) (kG : PySem.W.keepIn K (.ref g) = true) (bG : Binds K gd ["_law_chest_here", "_law_menu"] []) (mr : mg "range" = none) :
    FnOk P w K mg base CX0 3 f fd ["_law_chest_here", "_law_n"] spWts := by
  refine F.ok scWts (fun vs H Q E h => ?_) (fun cdv A outer s H vs Q E hr h => ?_)
  · obtain ⟨c, B, rfl, _⟩ := h
    rfl
  · obtain ⟨c, B, rfl, hC, hB, q⟩ := h
    have nd := scWts.nd
    refine ⟨_, pss_cons (ps_set (i := 2) nd rfl (.inr rfl) (pe_lst (pa_cons pe_int (pa_cons pe_int (pa_cons pe_int (pa_cons pe_int (pa_cons pe_int (pa_cons pe_int (pa_cons pe_int (pa_cons pe_int (pa_cons pe_int (pa_cons pe_int (pa_cons pe_int (pa_cons pe_int (pa_cons pe_int (pa_cons pe_int pa_nil))))))))))))))))
      (pss_one (ps_ret (pe_lc (own := [("_law_k", 3)]) (g := gName 3) (tt := tYes) rfl nd (pi_range1 rfl mr (pa_cons (pv 1) pa_nil)) (blkOk_by (N := ["_law_chest_here", "_law_n", "_law_some", "_law_k"]) (sc := defScope sWts) (by decide +kernel))
        (fun _ _ _ _ _ => pg_name (i := 3) nd rfl (.inl rfl)) (fun _ _ _ _ _ => pts_nil)
        (fun _ _ _ _ _ => pe_op op_mul (pe_call G hr (by rfl) mG kG bG .nil pass0 (pa_cons (pv 0) (pa_cons (pv 2) pa_nil))) (pe_call G hr (by rfl) mG kG bG .nil pass0 (pa_cons (pv 0) (pa_cons (pe_lst (pa_cons pe_int (pa_cons pe_int (pa_cons (pe_un un_neg pe_int) pa_nil)))) pa_nil))))))), ?_⟩
    refine ⟨(by show 14 ≤ sizeLine; decide), fun L nL => ?_⟩
    have Lc := ne_new hC nL
    refine ⟨.int 2, rfl, 2, rfl, by decide, by decide, fun D nD => lc_range (lo := 0) (n := ((2 : Int).toNat)) (fun i H' => But c H H' ∧ ChB H' c (B + 2 * i) ∧ H' L = some (.lst (w14.map V.int)) ∧ ∃ as : List Int, as.length = i ∧ (∀ a ∈ as, a ∈ wts) ∧ H' D = some (.lst (as.map V.int)))
      ⟨(But.new nL).trans (.new nD), (hC.same (same_new nL)).same (same_new nD), same_new nD _ _ upd_same, [], rfl, fun a h => absurd h List.not_mem_nil, upd_same⟩ ?_ ?_⟩
    · rintro i H1 hi ⟨bt, ch, hL, as, la, ha, hD⟩
      have hi2 : i < 2 := hi
      have Dc : D ≠ c := ne_new ((hC.same (same_new nL))) nD
      refine ⟨rfl, .ref c, rfl, .ref L, rfl, c, L, w14.map V.int, _, rfl, hL, Lc, (by decide), (by decide), ch, by omega, fun H2 j x hx bt2 ch2 => ?_⟩
      obtain ⟨m, hm, rfl⟩ := int_at hx
      refine ⟨.ref c, rfl, 1, rfl, (by show 3 ≤ sizeLine; decide), fun l2 nl2 => ⟨c, l2, ([1, 1, -1] : List Int).map V.int, _, rfl, upd_same, ne_new ch2 nl2, (by decide), (by decide), ch2.same (same_new nl2), by omega, fun H3 j2 x2 hx2 bt3 ch3 => ?_⟩⟩
      obtain ⟨t, ht, rfl⟩ := int_at hx2
      obtain ⟨hw, h1, h2⟩ := w14_ok m hm t ht
      have bt4 : But c H1 H3 := bt2.trans ((But.new nl2).trans bt3)
      refine ⟨m, t, rfl, rfl, .inl ⟨by omega, by omega⟩, as.map V.int, bt4 _ _ Dc hD, ?_, ?_, ?_, ?_, as ++ [m * t], by rw [List.length_append]; simp [la], ?_, ?_⟩
      · rw [List.length_map, la, sizeLine_eq]; omega
      · intro b o n e
        have nbD : b ≠ D := by
          have z := (But.new (c := c) (o := .lst (w14.map V.int)) nL) b o n e
          exact ne_of_none z nD
        rw [upd_ne nbD]
        exact bt4 _ _ n (bt _ _ n e)
      · obtain ⟨x1, x2, x3, e, r⟩ := ch3
        exact ⟨x1, x2, x3, (upd_ne (Ne.symm Dc)).trans e, by omega⟩
      · have LD : L ≠ D := ne_of_none (upd_same (H := H) (a := L) (o := .lst (w14.map V.int))) nD
        rw [upd_ne LD]
        exact bt4 _ _ Lc hL
      · intro a h
        rcases List.mem_append.mp h with h | h
        · exact ha a h
        · rw [List.mem_singleton] at h
          rw [h]
          exact hw
      · rw [upd_same, List.map_append]
        rfl
    · rintro H1 ⟨bt, ch, hL, as, la, ha, hD⟩
      have la2 : as.length = 2 := la
      match as, la2, ha, hD with
      | [a, b], _, ha, hD => exact q H1 D a b (ha a (by simp)) (ha b (by simp)) bt ch hD
/-! ### product, form_symbol -/
def spProd : Sp := fun vs H Q _ => ∃ (l : Addr) (a b : Int), vs = [.ref l] ∧ H l = some (.lst [.int a, .int b, .int (-1)]) ∧ a.natAbs ≤ 30 ∧ b.natAbs ≤ 30 ∧ Q (.int (1 * a * b * (-1))) H
theorem ok_prod {f : Addr} {fd : FuncData} (F : Fun K "_law_product" "_law_product" sProd f fd) : FnOk P w K mg base CX0 1 f fd ["_law_parts"] spProd := by
  refine F.ok scProd (fun vs H Q E h => ?_) (fun cdv A outer s H vs Q E hr h => ?_)
  · obtain ⟨l, a, b, rfl, _⟩ := h
    rfl
  · obtain ⟨l, a, b, rfl, hl, am, bm, q⟩ := h
    have nd := scProd.nd
    refine ⟨_, pss_cons (ps_set (i := 1) nd rfl (.inl rfl) pe_int)
      (pss_cons (ps_for PassesOwn.never rfl (pi_list (pv 0)) (pg_name (i := 2) nd rfl (.inl rfl)) (pss_one (ps_set (i := 1) nd rfl (.inl rfl) (pe_op op_mul (pv 1) (pv 2)))))
      (pss_one (ps_ret (pv 1)))), ?_⟩
    let Fn : Nat → Int := fun n => match n with
      | 0 => 1
      | 1 => 1 * a
      | 2 => 1 * a * b
      | _ => 1 * a * b * (-1)
    have item : ∀ (n : Nat) x, ([.int a, .int b, .int (-1)] : List V)[n]? = some x → ∃ y : Int, x = .int y ∧ y.natAbs ≤ 30 ∧ Fn (n + 1) = Fn n * y := by
      intro n x hx
      match n, hx with
      | 0, hx => exact ⟨_, (Option.some.inj hx).symm, am, rfl⟩
      | 1, hx => exact ⟨_, (Option.some.inj hx).symm, bm, rfl⟩
      | 2, hx => exact ⟨_, (Option.some.inj hx).symm, by decide, rfl⟩
      | n + 3, hx => simp at hx
    refine ⟨.ref l, rfl, l, rfl, ⟨_, .inl (.inl hl)⟩, for_list (xs := [.int a, .int b, .int (-1)]) (fun n σ H' => H' = H ∧ ∃ x2, σ = [some (.ref l), some (.int (Fn n)), x2]) ⟨rfl, none, rfl⟩ (fun _ _ H' _ z => by rw [z.1]; exact .inl (.inl hl)) ?_ ?_⟩
    · rintro n x σ H' hx ⟨rfl, x2, rfl⟩
      obtain ⟨y, rfl, hy, hf⟩ := item n x hx
      refine ⟨.int (Fn n), rfl, .int y, rfl, Fn n, y, rfl, rfl, .inr ⟨by omega, by omega⟩, rfl, some (.int y), ?_⟩
      rw [hf]
      rfl
    · rintro σ H' ⟨rfl, x2, rfl⟩
      exact ⟨_, rfl, q⟩
def spForm : Sp := fun vs H Q _ => ∃ (l : Addr) (p x y z : Int) (k : Nat) (u : Int) (m : Nat) (v : Int) (n : Nat) (t : Int), vs = [.ref l, .int p] ∧ H l = some (.lst [.int x, .int y, .int z]) ∧ 2 < p ∧ p < 1073741824 ∧ (x ≠ 0 ∧ x.natAbs ≤ 30) ∧ (y ≠ 0 ∧ y.natAbs ≤ 30) ∧ (z ≠ 0 ∧ z.natAbs ≤ 30) ∧ Spl p x k u ∧ Spl p y m v ∧ Spl p z n t ∧
  ∀ H', Same H H' → Q (.int (1 * symM p k u m v * symM p k u n t * symM p m v n t)) H'
theorem ok_form {f g : Addr} {fd gd : FuncData} (F : Fun K "_law_form_symbol" "_law_form_symbol" sForm f fd) (G : FnOk P w K mg base CX0 2 g gd ["_law_a", "_law_b", "_law_p"] spSym) (mG : mg "_law_symbol" = some (.ref g)) (kG : PySem.W.keepIn K (.ref g) = true) (bG : Binds K gd ["_law_a", "_law_b", "_law_p"] []) (mr : mg "range" = none) (ml : mg "len" = none) :
    FnOk P w K mg base CX0 3 f fd ["_law_parts", "_law_p"] spForm := by
  refine F.ok scForm (fun vs H Q E h => ?_) (fun cdv A outer s H vs Q E hr h => ?_)
  · obtain ⟨l, p, x, y, z, k, u, m, v, n, t, rfl, _⟩ := h
    rfl
  · obtain ⟨l, p, x, y, z, k, u, m, v, n, t, rfl, hl, p2, pb, ⟨x0, xm⟩, ⟨y0, ym⟩, ⟨z0, zm⟩, sx, sy, sz, q⟩ := h
    have nd := scForm.nd
    refine ⟨_, pss_cons (ps_set (i := 2) nd rfl (.inl rfl) pe_int)
      (pss_cons (ps_for PassesOwn.never rfl (pi_range1 rfl mr (pa_cons (pe_callB call_len_seq (by rfl) ml PySem.boot_len (pa_cons (pv 0) pa_nil)) pa_nil)) (pg_name (i := 3) nd rfl (.inl rfl))
        (pss_one (ps_for PassesOwn.never rfl (pi_range1 rfl mr (pa_cons (pv 3) pa_nil)) (pg_name (i := 4) nd rfl (.inl rfl))
          (pss_one (ps_set (i := 2) nd rfl (.inl rfl) (pe_op op_mul (pv 2) (pe_call G hr (by rfl) mG kG bG .nil pass0 (pa_cons (pe_ix ix_list (pv 0) (pv 4) (fun _ _ => rfl)) (pa_cons (pe_ix ix_list (pv 0) (pv 3) (fun _ _ => rfl)) (pa_cons (pv 1) pa_nil))))))))))
      (pss_one (ps_ret (pv 2)))), ?_⟩
    let In : Nat → Nat → Int := fun j i => match j, i with
      | 0, _ => 1
      | 1, 0 => 1
      | 1, _ => 1 * symM p k u m v
      | 2, 0 => 1 * symM p k u m v
      | 2, 1 => 1 * symM p k u m v * symM p k u n t
      | _, _ => 1 * symM p k u m v * symM p k u n t * symM p m v n t
    have next : ∀ j, j < 3 → In j j = In (j + 1) 0 := by
      intro j hj
      match j, hj with
      | 0, _ => rfl
      | 1, _ => rfl
      | 2, _ => rfl
    have item : ∀ j i : Nat, j < 3 → i < j → ∃ (a b : Int) (k1 : Nat) (u1 : Int) (l1 : Nat) (v1 : Int), [V.int x, V.int y, V.int z][i]? = some (.int a) ∧ [V.int x, V.int y, V.int z][j]? = some (.int b) ∧ a ≠ 0 ∧ b ≠ 0 ∧ a.natAbs ≤ 30 ∧ b.natAbs ≤ 30 ∧ Spl p a k1 u1 ∧ Spl p b l1 v1 ∧ In j (i + 1) = In j i * symM p k1 u1 l1 v1 := by
      intro j i hj hi
      match j, i, hj, hi with
      | 1, 0, _, _ => exact ⟨x, y, k, u, m, v, rfl, rfl, x0, y0, xm, ym, sx, sy, rfl⟩
      | 2, 0, _, _ => exact ⟨x, z, k, u, n, t, rfl, rfl, x0, z0, xm, zm, sx, sz, rfl⟩
      | 2, 1, _, _ => exact ⟨y, z, m, v, n, t, rfl, rfl, y0, z0, ym, zm, sy, sz, rfl⟩
    refine ⟨.ref l, rfl, l, _, rfl, .inl (.inl (.inl hl)), 3, rfl, by decide, by decide, for_range (n := ((3 : Int).toNat)) (fun j σ H' => Same H H' ∧ ∃ x3 x4, σ = [some (.ref l), some (.int p), some (.int (In j 0)), x3, x4]) ⟨.refl _, none, none, rfl⟩ ?_ ?_⟩
    · rintro j σ H1 hj ⟨sm, x3, x4, rfl⟩
      have hj3 : j < 3 := hj
      have e0 : (0 : Int) + j = j := by omega
      rw [e0]
      refine ⟨.int j, rfl, j, rfl, by omega, by omega, for_range (n := ((j : Int).toNat)) (fun i σ H' => Same H H' ∧ ∃ x4, σ = [some (.ref l), some (.int p), some (.int (In j i)), some (.int j), x4]) ⟨sm, x4, rfl⟩ ?_ ?_⟩
      · rintro i σ H2 hi ⟨sm2, x4, rfl⟩
        have hij : i < j := by omega
        have e1 : (0 : Int) + i = i := by omega
        rw [e1]
        obtain ⟨a, b, k1, u1, l1, v1, ha, hb, a0, b0, am, bm, s1, s2, hf⟩ := item j i hj3 hij
        have hl2 : SqL K H2 l [.int x, .int y, .int z] := .inl (.inl (sm2 _ _ hl))
        refine ⟨.int (In j i), rfl, .ref l, rfl, .int i, rfl, l, _, i, .int a, rfl, rfl, hl2, atI_nat ha, .ref l, rfl, .int j, rfl, l, _, j, .int b, rfl, rfl, hl2, atI_nat hb, .int p, rfl, a, b, p, k1, u1, l1, v1, rfl, p2, pb, a0, b0, by omega, by omega, s1, s2, fun H3 s3 => ?_⟩
        refine ⟨In j i, _, rfl, rfl, .inr (symM_small _ _ _ _ _), sm2.trans s3, some (.int i), ?_⟩
        rw [hf]
        rfl
      · rintro σ H2 ⟨sm2, x4, rfl⟩
        refine ⟨sm2, some (.int j), x4, ?_⟩
        have e2 : (j : Int).toNat = j := rfl
        rw [e2, next j hj3]
    · rintro σ H1 ⟨sm, x3, x4, rfl⟩
      exact ⟨_, rfl, q _ sm⟩
end
end K26

namespace K26
open PySem PySem.Spec PyProof.Rows L2 NT
def bodyOf : Stmt → List Stmt
  | .For _ _ b _ _ => b
  | _ => []
/-- what a dict of rests tells: each rest that was met, and whether once in an own way -/
structure VD (kvs : List (Key × V)) (R : Int → Bool → Prop) : Prop where
  shape : ∀ e ∈ kvs, ∃ r : Int, e.1 = .inl r
  get : ∀ r, (valV kvs (.inl r) = none ∧ ∀ f, ¬ R r f) ∨ (∃ f, valV kvs (.inl r) = some (.bl f) ∧ (∃ g, R r g) ∧ (f = true ↔ R r true))
theorem VD.congr {kvs : List (Key × V)} {R R' : Int → Bool → Prop} (h : VD kvs R) (e : ∀ r f, R r f ↔ R' r f) : VD kvs R' := by
  have : R = R' := by funext r f; exact propext (e r f)
  rw [← this]
  exact h
theorem VD.nil : VD [] (fun _ _ => False) := ⟨fun e h => absurd h List.not_mem_nil, fun r => .inl ⟨rfl, fun _ h => h⟩⟩
def old (o : Option V) : Bool := match o with | some (.bl f) => f | _ => false
theorem VD.put {kvs : List (Key × V)} {R : Int → Bool → Prop} (h : VD kvs R) (r : Int) (own : Bool) : VD (putK kvs (.inl r) (.bl (old (valV kvs (.inl r)) || own))) (fun r' f => R r' f ∨ (r' = r ∧ f = own)) := by
  refine ⟨fun e he => ?_, fun r' => ?_⟩
  · unfold putK at he
    split at he
    · obtain ⟨e', h', rfl⟩ := List.mem_map.mp he
      obtain ⟨x, hx⟩ := h.shape e' h'
      refine ⟨x, ?_⟩
      split <;> exact hx
    · rcases List.mem_append.mp he with he | he
      · exact h.shape e he
      · rw [List.mem_singleton] at he
        rw [he]
        exact ⟨r, rfl⟩
  · rw [valV_put]
    by_cases e : r' = r
    · subst e
      rw [if_pos rfl]
      right
      rcases h.get r' with ⟨h1, h2⟩ | ⟨f, h1, h2, h3⟩
      · rw [h1]
        refine ⟨own, rfl, ⟨own, .inr ⟨rfl, rfl⟩⟩, ?_⟩
        constructor
        · intro z
          exact .inr ⟨rfl, z.symm⟩
        · rintro (z | ⟨_, z⟩)
          · exact absurd z (h2 _)
          · exact z.symm
      · rw [h1]
        refine ⟨f || own, rfl, ⟨own, .inr ⟨rfl, rfl⟩⟩, ?_⟩
        rw [Bool.or_eq_true, h3]
        constructor
        · rintro (z | z)
          · exact .inl z
          · exact .inr ⟨rfl, z.symm⟩
        · rintro (z | ⟨_, z⟩)
          · exact .inl z
          · exact .inr z.symm
    · rw [if_neg (fun z => e (Sum.inl.inj z))]
      rcases h.get r' with ⟨h1, h2⟩ | ⟨f, h1, h2, h3⟩
      · refine .inl ⟨h1, fun f z => ?_⟩
        rcases z with z | ⟨z, _⟩
        · exact h2 f z
        · exact e z
      · refine .inr ⟨f, h1, ?_, ?_⟩
        · obtain ⟨g, hg⟩ := h2
          exact ⟨g, .inl hg⟩
        · rw [h3]
          exact ⟨.inl, fun z => z.resolve_right fun y => e y.1⟩
/-- the pairs that were gone through -/
def PrI (val : Nat → Nat → Int) (flag : Nat → Nat → Bool) (Y i j : Nat) (r : Int) (f : Bool) : Prop := ∃ x y, y < Y ∧ (x < i ∨ (x = i ∧ y < j)) ∧ val x y = r ∧ flag x y = f
theorem PrI.step {val : Nat → Nat → Int} {flag : Nat → Nat → Bool} {Y i j : Nat} (hj : j < Y) (r : Int) (f : Bool) : (PrI val flag Y i j r f ∨ (r = val i j ∧ f = flag i j)) ↔ PrI val flag Y i (j + 1) r f := by
  constructor
  · rintro (⟨x, y, h1, h2, h3, h4⟩ | ⟨rfl, rfl⟩)
    · exact ⟨x, y, h1, by omega, h3, h4⟩
    · exact ⟨i, j, hj, by omega, rfl, rfl⟩
  · rintro ⟨x, y, h1, h2, h3, h4⟩
    by_cases e : x = i ∧ y = j
    · obtain ⟨rfl, rfl⟩ := e
      exact .inr ⟨h3.symm, h4.symm⟩
    · exact .inl ⟨x, y, h1, by omega, h3, h4⟩
theorem PrI.row {val : Nat → Nat → Int} {flag : Nat → Nat → Bool} {Y i : Nat} (r : Int) (f : Bool) : PrI val flag Y i Y r f ↔ PrI val flag Y (i + 1) 0 r f := by
  constructor
  · rintro ⟨x, y, h1, h2, h3, h4⟩
    exact ⟨x, y, h1, by omega, h3, h4⟩
  · rintro ⟨x, y, h1, h2, h3, h4⟩
    exact ⟨x, y, h1, by omega, h3, h4⟩
theorem PrI.none {val : Nat → Nat → Int} {flag : Nat → Nat → Bool} {Y : Nat} (r : Int) (f : Bool) : False ↔ PrI val flag Y 0 0 r f := by
  constructor
  · exact False.elim
  · rintro ⟨x, y, h1, h2, h3, h4⟩
    omega
def flagP (p : Int) (x y : Nat) : Bool := !decide (V.int ((x : Int) % p) = V.int 0) || !decide (V.int ((y : Int) % p) = V.int 0)
theorem rg_at {s i : Nat} {x : V} (h : (rgV 0 (s : Int))[i]? = some x) : x = .int i ∧ i < s := by
  have hl : i < (rgV 0 (s : Int)).length := (List.getElem?_eq_some_iff.mp h).1
  rw [rgV_length] at hl
  have hs : i < s := by omega
  unfold rgV at h
  rw [List.getElem?_map, List.getElem?_range (by omega)] at h
  have := (Option.some.inj h).symm
  refine ⟨?_, hs⟩
  rw [this]
  show V.int (0 + (i : Int)) = V.int i
  rw [Int.zero_add]
section
variable {P : Program} {w : World} {K : PySem.W.Frag} {mg : Str → Option Value} {base : Heap}
def val2 (s : Nat) (a b : Int) (x y : Nat) : Int := (a * x * x + b * y * y) % s
def val1 (s : Nat) (a : Int) (x _y : Nat) : Int := (a * x * x + 0) % s
def spVal2 : Sp := fun vs H Q _ => ∃ (l : Addr) (p : Int) (s : Nat) (a b : Int), vs = [.ref l, .int p, .int s] ∧ H l = some (.lst [.int a, .int b]) ∧ a.natAbs ≤ 30 ∧ b.natAbs ≤ 30 ∧ 2 ≤ p ∧ 0 < s ∧ s ≤ 40 ∧
  ∀ H' d kvs, H d = none → Same H H' → H' d = some (.dK kvs) → VD kvs (PrI (val2 s a b) (flagP p) s s 0) → Q (.ref d) H'
def spVal1 : Sp := fun vs H Q _ => ∃ (l : Addr) (p : Int) (s : Nat) (a : Int), vs = [.ref l, .int p, .int s] ∧ H l = some (.lst [.int a]) ∧ a.natAbs ≤ 30 ∧ 2 ≤ p ∧ 0 < s ∧ s ≤ 40 ∧
  ∀ H' d kvs, H d = none → Same H H' → H' d = some (.dK kvs) → VD kvs (PrI (val1 s a) (flagP p) 1 s 0) → Q (.ref d) H'
theorem ok_val2 {f : Addr} {fd : FuncData} (F : Fun K "_law_values" "_law_values" sVal f fd) (mi : mg "int" = none) (mr : mg "range" = none) (ml : mg "len" = none) (mt : mg "list" = none) : FnOk P w K mg base CX0 1 f fd ["_law_some", "_law_p", "_law_size"] spVal2 := by
  refine F.ok scVal (fun vs H Q E h => ?_) (fun cdv A outer s0 H vs Q E hr h => ?_)
  · obtain ⟨l, p, s, a, b, rfl, _⟩ := h
    rfl
  · obtain ⟨l, p, s, a, b, rfl, hl, am, bm, p2, s1, s40, q⟩ := h
    have nd := scVal.nd
    have hu : A.units + 3 + 1 < cLine := by have := hr.units; show A.units + 3 + 1 < cLine; have e : (A.deeper (envOfC "_law_values" (defScope sVal) s0.heap.objs.size f cdv)).units = A.units + 3 := rfl; omega
    -- the store
    obtain ⟨tR, hR, qR⟩ : ∃ t, PSs (cxOf CX0 P w K mg base ["_law_some", "_law_p", "_law_size", "_law_found", "_law_firsts", "_law_x", "_law_y", "_law_rest", "_law_is_own"] "_law_values" (defScope sVal) f cdv A outer s0 H E).nox ((bodyOf ((bodyOf ((defBody sVal).getD 2 (.Pass ⟨0, 0, 0, 0⟩))).getD 0 (.Pass ⟨0, 0, 0, 0⟩))).drop 2) t ∧
        ∀ (D : Ends) (d : Addr) (r : Int) (own : Bool) (kvs : List (Key × V)) (R : Int → Bool → Prop) (x0 x1 x2 x4 x5 x6 : Option V) H1, H1 d = some (.dK kvs) → VD kvs R → kvs.length < sizeLine →
          D.nx [x0, x1, x2, some (.ref d), x4, x5, x6, some (.int r), some (.bl own)] (upd H1 d (.dK (putK kvs (.inl r) (.bl (old (valV kvs (.inl r)) || own))))) →
          t D [x0, x1, x2, some (.ref d), x4, x5, x6, some (.int r), some (.bl own)] H1 := by
      refine ⟨_, pss_one (ps_dput hu (pv 3) (pv 7) (pe_or (pe_dget2 hu (pv 3) (pv 7) pe_bl ⟨by rfl, by rfl, by rfl, by rfl⟩) (pe_one (pv 8))) rfl), ?_⟩
      intro D d r own kvs R x0 x1 x2 x4 x5 x6 H1 hd hv hlen hn
      refine ⟨.ref d, rfl, d, rfl, .inl ⟨kvs, .inl hd⟩, .int r, rfl, valV kvs (.inl r), DGet.k (k := .inl r) hd, old (valV kvs (.inl r)), ?_, ite2 (fun z => ?_) (fun z => ?_)⟩
      · rcases hv.get r with ⟨h1, _⟩ | ⟨f', h1, _⟩
        · rw [h1]; rfl
        · rw [h1]; rfl
      · rw [z, Bool.true_or] at hn
        exact ⟨.ref d, rfl, .int r, rfl, d, _, rfl, DPut.k (k := .inl r) hd hlen, hn⟩
      · have zf : old (valV kvs (.inl r)) = false := by cases hh : old (valV kvs (.inl r)) with | true => exact absurd hh z | false => rfl
        rw [zf, Bool.false_or] at hn
        exact ⟨.bl own, rfl, .ref d, rfl, .int r, rfl, d, _, rfl, DPut.k (k := .inl r) hd hlen, hn⟩
    refine ⟨_, pss_cons (ps_set (i := 3) nd rfl (.inl rfl) pe_dnewK)
      (pss_cons (ps_set (i := 4) nd rfl (.inl rfl) (pe_listRg rfl (by rfl) mt (prg_1 (by rfl) mr (pv 2))))
      (pss_cons (ps_for PassesOwn.never rfl (pi_list (pv 4)) (pg_name (i := 5) nd rfl (.inl rfl))
        (pss_one (ps_for PassesOwn.never rfl (pi_list (pe_ifExp (pt_cmpR op_eq (pe_callB call_len_seq (by rfl) ml PySem.boot_len (pa_cons (pv 0) pa_nil)) pe_int (nomark _)) (pv 4) (pe_lst (pa_cons pe_int pa_nil)))) (pg_name (i := 6) nd rfl (.inl rfl))
          (pss_cons (ps_set (i := 7) nd rfl (.inl rfl) (pe_op op_mod (pe_callTy call_int1 (by rfl) mi boot_int (pa_cons (pe_op op_add (pe_op op_mul (pe_op op_mul (pe_ix ix_list (pv 0) pe_int (fun _ _ => rfl)) (pv 5)) (pv 5))
              (pe_ifExp (pt_cmpR op_eq (pe_callB call_len_seq (by rfl) ml PySem.boot_len (pa_cons (pv 0) pa_nil)) pe_int (nomark _)) (pe_op op_mul (pe_op op_mul (pe_ix ix_list (pv 0) pe_int (fun _ _ => rfl)) (pv 6)) (pv 6)) pe_int)) pa_nil)) (pv 2)))
          (pss_cons (ps_set (i := 8) nd rfl (.inl rfl) (pe_or (pe_cmpR op_ne (pe_op op_mod (pe_callTy call_int1 (by rfl) mi boot_int (pa_cons (pv 5) pa_nil)) (pv 1)) pe_int (nomark _)) (pe_one (pe_cmpR op_ne (pe_op op_mod (pe_callTy call_int1 (by rfl) mi boot_int (pa_cons (pv 6) pa_nil)) (pv 1)) pe_int (nomark _)))))
          hR)))))
      (pss_one (ps_ret (pv 3))))), ?_⟩
    intro d nd0
    have ld : l ≠ d := ne_of_none hl nd0
    refine ⟨.int s, rfl, s, rfl, RgOk.of_le (by decide) (by omega) (by decide) (by omega), fun Fs nF => ?_⟩
    have Fd : Fs ≠ d := fun e => by rw [e, upd_same] at nF; cases nF
    have p0 : 0 < p := by omega
    have sZ : (0 : Int) < s := by omega
    refine ⟨.ref Fs, rfl, Fs, rfl, ⟨_, .inl (.inl upd_same)⟩, for_list (xs := rgV 0 (s : Int)) (fun i σ H' => But d H H' ∧ H' Fs = some (.lst (rgV 0 (s : Int))) ∧ ∃ kvs, H' d = some (.dK kvs) ∧ kvs.length ≤ i * s ∧ VD kvs (PrI (val2 s a b) (flagP p) s i 0) ∧ ∃ x5 x6 x7 x8, σ = [some (.ref l), some (.int p), some (.int s), some (.ref d), some (.ref Fs), x5, x6, x7, x8])
      ⟨(But.new nd0).trans (.new nF), upd_same, [], (upd_ne (Ne.symm Fd)).trans upd_same, by simp, VD.nil.congr PrI.none, none, none, none, none, rfl⟩ (fun _ _ _ _ z => .inl (.inl z.2.1)) ?_ ?_⟩
    · rintro i x σ H1 hx ⟨bt, hF, kvs, hd, hk, hv, x5, x6, x7, x8, rfl⟩
      obtain ⟨rfl, his⟩ := rg_at hx
      have hl1 : H1 l = some (.lst [.int a, .int b]) := bt _ _ ld hl
      -- the inner turns, over any list of so many numbers
      have turn : ∀ (j : Nat) (H2 : Hp) (kvs : List (Key × V)) (x6 x7 x8 : Option V) (D : Ends), j < s → But d H H2 → H2 d = some (.dK kvs) → kvs.length ≤ i * s + j → VD kvs (PrI (val2 s a b) (flagP p) s i j) →
          (∀ kvs' x7 x8, kvs'.length ≤ i * s + (j + 1) → VD kvs' (PrI (val2 s a b) (flagP p) s i (j + 1)) → D.nx [some (.ref l), some (.int p), some (.int s), some (.ref d), some (.ref Fs), some (.int i), some (.int j), x7, x8] (upd H2 d (.dK kvs'))) →
          tSeq (tAsg (tOp (rI (fun _ j => 0 < j) fun i j => .int (i % j)) (tCB (fun xs H Q => (∃ i, xs = [.int i] ∧ Q (.int i) H) ∨ ∃ k, xs = [.bl k] ∧ Q (.int (if k then 1 else 0)) H) (tCons (tOp (rI0 fun i j => .int (i + j)) (tOp (rI CMul fun i j => .int (i * j)) (tOp (rI CMul fun i j => .int (i * j)) (tOp (rIxL K) (tVar 0) (tC (.int 0))) (tVar 5)) (tVar 5))
              (tIf (tTest (tOp rEq (tCB (fun xs H Q => ∃ p ys, xs = [.ref p] ∧ (SqL K H p ys ∨ SqT K H p ys) ∧ Q (.int ys.length) H) (tCons (tVar 0) tNil)) (tC (.int 2)))) (tOp (rI CMul fun i j => .int (i * j)) (tOp (rI CMul fun i j => .int (i * j)) (tOp (rIxL K) (tVar 0) (tC (.int 1))) (tVar 6)) (tVar 6)) (tC (.int 0)))) tNil)) (tVar 2)) (gName 7))
            (tSeq (tAsg (tOrV (tOp rNe (tOp (rI (fun _ j => 0 < j) fun i j => .int (i % j)) (tCB (fun xs H Q => (∃ i, xs = [.int i] ∧ Q (.int i) H) ∨ ∃ k, xs = [.bl k] ∧ Q (.int (if k then 1 else 0)) H) (tCons (tVar 5) tNil)) (tVar 1)) (tC (.int 0))) (tOp rNe (tOp (rI (fun _ j => 0 < j) fun i j => .int (i % j)) (tCB (fun xs H Q => (∃ i, xs = [.int i] ∧ Q (.int i) H) ∨ ∃ k, xs = [.bl k] ∧ Q (.int (if k then 1 else 0)) H) (tCons (tVar 6) tNil)) (tVar 1)) (tC (.int 0)))) (gName 8)) tR) D
            [some (.ref l), some (.int p), some (.int s), some (.ref d), some (.ref Fs), some (.int i), some (.int j), x7, x8] H2 := by
        intro j H2 kvs x6 x7 x8 D hj bt2 hd2 hk2 hv2 hn
        have hl2 : SqL K H2 l [.int a, .int b] := .inl (.inl (bt2 _ _ ld hl))
        have hlen : kvs.length < sizeLine := by
          have : i * s ≤ 40 * 40 := Nat.mul_le_mul (by omega) (by omega)
          rw [sizeLine_eq]; omega
        have store : ∀ own, own = flagP p i j → tR D [some (.ref l), some (.int p), some (.int s), some (.ref d), some (.ref Fs), some (.int i), some (.int j), some (.int ((val2 s a b) i j)), some (.bl own)] H2 := by
          rintro own rfl
          refine qR D d _ _ kvs _ _ _ _ _ _ _ H2 hd2 hv2 hlen (hn _ _ _ ?_ ?_)
          · have := length_putK kvs (.inl ((val2 s a b) i j)) (.bl (old (valV kvs (.inl ((val2 s a b) i j))) || flagP p i j))
            omega
          · exact (hv2.put _ _).congr (PrI.step hj)
        refine ⟨.ref l, rfl, l, _, 0, .int a, rfl, rfl, hl2, rfl, .int i, rfl, a, i, rfl, rfl, .inl ⟨by omega, by omega⟩, .int i, rfl, _, i, rfl, rfl, .inr ⟨by omega, by omega⟩, ?_⟩
        refine ⟨.ref l, rfl, l, _, rfl, .inl hl2, rfl, _, rfl, ite2 (fun _ => ?_) (fun z => absurd (decide_eq_true rfl) z)⟩
        refine ⟨.ref l, rfl, l, _, 1, .int b, rfl, rfl, hl2, rfl, .int j, rfl, b, j, rfl, rfl, .inl ⟨by omega, by omega⟩, .int j, rfl, _, j, rfl, rfl, .inr ⟨by omega, by omega⟩, _, _, rfl, rfl, .inl ⟨_, rfl, .int s, rfl, _, s, rfl, rfl, sZ, ?_⟩⟩
        all_goals
          refine ⟨.int i, rfl, .inl ⟨_, rfl, .int p, rfl, _, p, rfl, rfl, p0, rfl, _, rfl, ite2 (fun z => ?_) (fun z => ?_)⟩⟩
          · exact store true (by unfold flagP; rw [z, Bool.true_or])
          · have zf : (!decide (V.int ((i : Int) % p) = V.int 0)) = false := by cases hh : (!decide (V.int ((i : Int) % p) = V.int 0)) with | true => exact absurd hh z | false => rfl
            exact ⟨.int j, rfl, .inl ⟨_, rfl, .int p, rfl, _, p, rfl, rfl, p0, rfl, store _ (by unfold flagP; rw [zf, Bool.false_or])⟩⟩
      refine ⟨.ref l, rfl, l, _, rfl, .inl (.inl (.inl hl1)), rfl, _, rfl, ?_⟩
      refine ite2 (fun _ => ?_) (fun z => absurd (decide_eq_true rfl) z)
      refine ⟨.ref Fs, rfl, Fs, rfl, ⟨_, .inl (.inl hF)⟩, for_list (xs := rgV 0 (s : Int)) (fun j σ H' => But d H H' ∧ H' Fs = some (.lst (rgV 0 (s : Int))) ∧ ∃ kvs, H' d = some (.dK kvs) ∧ kvs.length ≤ i * s + j ∧ VD kvs (PrI (val2 s a b) (flagP p) s i j) ∧ ∃ x6 x7 x8, σ = [some (.ref l), some (.int p), some (.int s), some (.ref d), some (.ref Fs), some (.int i), x6, x7, x8])
        ⟨bt, hF, kvs, hd, hk, hv, x6, x7, x8, rfl⟩ (fun _ _ _ _ z => .inl (.inl z.2.1)) ?_ ?_⟩
      · rintro j x σ H2 hx ⟨bt2, hF2, kvs2, hd2, hk2, hv2, y6, y7, y8, rfl⟩
        obtain ⟨rfl, hjs⟩ := rg_at hx
        exact turn j H2 kvs2 y6 y7 y8 _ hjs bt2 hd2 hk2 hv2 fun kvs' z7 z8 h1 h2 => ⟨bt2.trans .put, (upd_ne Fd).trans hF2, kvs', upd_same, h1, h2, _, _, _, rfl⟩
      · rintro σ H2 ⟨bt2, hF2, kvs2, hd2, hk2, hv2, y6, y7, y8, rfl⟩
        have e : (rgV 0 (s : Int)).length = s := by rw [rgV_length]; omega
        rw [e] at hk2 hv2
        exact ⟨bt2, hF2, kvs2, hd2, by rw [Nat.add_mul, Nat.one_mul]; exact hk2, hv2.congr PrI.row, _, _, _, _, rfl⟩
    · rintro σ H1 ⟨bt, hF, kvs, hd, hk, hv, x5, x6, x7, x8, rfl⟩
      refine ⟨_, rfl, q H1 d kvs nd0 (fun b o e => bt b o (ne_of_none e nd0) e) hd ?_⟩
      have e : (rgV 0 (s : Int)).length = s := by rw [rgV_length]; omega
      rw [e] at hv
      exact hv
theorem ok_val1 {f : Addr} {fd : FuncData} (F : Fun K "_law_values" "_law_values" sVal f fd) (mi : mg "int" = none) (mr : mg "range" = none) (ml : mg "len" = none) (mt : mg "list" = none) : FnOk P w K mg base CX0 1 f fd ["_law_some", "_law_p", "_law_size"] spVal1 := by
  refine F.ok scVal (fun vs H Q E h => ?_) (fun cdv A outer s0 H vs Q E hr h => ?_)
  · obtain ⟨l, p, s, a, rfl, _⟩ := h
    rfl
  · obtain ⟨l, p, s, a, rfl, hl, am, p2, s1, s40, q⟩ := h
    have nd := scVal.nd
    have hu : A.units + 3 + 1 < cLine := by have := hr.units; show A.units + 3 + 1 < cLine; have e : (A.deeper (envOfC "_law_values" (defScope sVal) s0.heap.objs.size f cdv)).units = A.units + 3 := rfl; omega
    -- the store
    obtain ⟨tR, hR, qR⟩ : ∃ t, PSs (cxOf CX0 P w K mg base ["_law_some", "_law_p", "_law_size", "_law_found", "_law_firsts", "_law_x", "_law_y", "_law_rest", "_law_is_own"] "_law_values" (defScope sVal) f cdv A outer s0 H E).nox ((bodyOf ((bodyOf ((defBody sVal).getD 2 (.Pass ⟨0, 0, 0, 0⟩))).getD 0 (.Pass ⟨0, 0, 0, 0⟩))).drop 2) t ∧
        ∀ (D : Ends) (d : Addr) (r : Int) (own : Bool) (kvs : List (Key × V)) (R : Int → Bool → Prop) (x0 x1 x2 x4 x5 x6 : Option V) H1, H1 d = some (.dK kvs) → VD kvs R → kvs.length < sizeLine →
          D.nx [x0, x1, x2, some (.ref d), x4, x5, x6, some (.int r), some (.bl own)] (upd H1 d (.dK (putK kvs (.inl r) (.bl (old (valV kvs (.inl r)) || own))))) →
          t D [x0, x1, x2, some (.ref d), x4, x5, x6, some (.int r), some (.bl own)] H1 := by
      refine ⟨_, pss_one (ps_dput hu (pv 3) (pv 7) (pe_or (pe_dget2 hu (pv 3) (pv 7) pe_bl ⟨by rfl, by rfl, by rfl, by rfl⟩) (pe_one (pv 8))) rfl), ?_⟩
      intro D d r own kvs R x0 x1 x2 x4 x5 x6 H1 hd hv hlen hn
      refine ⟨.ref d, rfl, d, rfl, .inl ⟨kvs, .inl hd⟩, .int r, rfl, valV kvs (.inl r), DGet.k (k := .inl r) hd, old (valV kvs (.inl r)), ?_, ite2 (fun z => ?_) (fun z => ?_)⟩
      · rcases hv.get r with ⟨h1, _⟩ | ⟨f', h1, _⟩
        · rw [h1]; rfl
        · rw [h1]; rfl
      · rw [z, Bool.true_or] at hn
        exact ⟨.ref d, rfl, .int r, rfl, d, _, rfl, DPut.k (k := .inl r) hd hlen, hn⟩
      · have zf : old (valV kvs (.inl r)) = false := by cases hh : old (valV kvs (.inl r)) with | true => exact absurd hh z | false => rfl
        rw [zf, Bool.false_or] at hn
        exact ⟨.bl own, rfl, .ref d, rfl, .int r, rfl, d, _, rfl, DPut.k (k := .inl r) hd hlen, hn⟩
    refine ⟨_, pss_cons (ps_set (i := 3) nd rfl (.inl rfl) pe_dnewK)
      (pss_cons (ps_set (i := 4) nd rfl (.inl rfl) (pe_listRg rfl (by rfl) mt (prg_1 (by rfl) mr (pv 2))))
      (pss_cons (ps_for PassesOwn.never rfl (pi_list (pv 4)) (pg_name (i := 5) nd rfl (.inl rfl))
        (pss_one (ps_for PassesOwn.never rfl (pi_list (pe_ifExp (pt_cmpR op_eq (pe_callB call_len_seq (by rfl) ml PySem.boot_len (pa_cons (pv 0) pa_nil)) pe_int (nomark _)) (pv 4) (pe_lst (pa_cons pe_int pa_nil)))) (pg_name (i := 6) nd rfl (.inl rfl))
          (pss_cons (ps_set (i := 7) nd rfl (.inl rfl) (pe_op op_mod (pe_callTy call_int1 (by rfl) mi boot_int (pa_cons (pe_op op_add (pe_op op_mul (pe_op op_mul (pe_ix ix_list (pv 0) pe_int (fun _ _ => rfl)) (pv 5)) (pv 5))
              (pe_ifExp (pt_cmpR op_eq (pe_callB call_len_seq (by rfl) ml PySem.boot_len (pa_cons (pv 0) pa_nil)) pe_int (nomark _)) (pe_op op_mul (pe_op op_mul (pe_ix ix_list (pv 0) pe_int (fun _ _ => rfl)) (pv 6)) (pv 6)) pe_int)) pa_nil)) (pv 2)))
          (pss_cons (ps_set (i := 8) nd rfl (.inl rfl) (pe_or (pe_cmpR op_ne (pe_op op_mod (pe_callTy call_int1 (by rfl) mi boot_int (pa_cons (pv 5) pa_nil)) (pv 1)) pe_int (nomark _)) (pe_one (pe_cmpR op_ne (pe_op op_mod (pe_callTy call_int1 (by rfl) mi boot_int (pa_cons (pv 6) pa_nil)) (pv 1)) pe_int (nomark _)))))
          hR)))))
      (pss_one (ps_ret (pv 3))))), ?_⟩
    intro d nd0
    have ld : l ≠ d := ne_of_none hl nd0
    refine ⟨.int s, rfl, s, rfl, RgOk.of_le (by decide) (by omega) (by decide) (by omega), fun Fs nF => ?_⟩
    have Fd : Fs ≠ d := fun e => by rw [e, upd_same] at nF; cases nF
    have p0 : 0 < p := by omega
    have sZ : (0 : Int) < s := by omega
    refine ⟨.ref Fs, rfl, Fs, rfl, ⟨_, .inl (.inl upd_same)⟩, for_list (xs := rgV 0 (s : Int)) (fun i σ H' => But d H H' ∧ H' Fs = some (.lst (rgV 0 (s : Int))) ∧ ∃ kvs, H' d = some (.dK kvs) ∧ kvs.length ≤ i * 1 ∧ VD kvs (PrI (val1 s a) (flagP p) 1 i 0) ∧ ∃ x5 x6 x7 x8, σ = [some (.ref l), some (.int p), some (.int s), some (.ref d), some (.ref Fs), x5, x6, x7, x8])
      ⟨(But.new nd0).trans (.new nF), upd_same, [], (upd_ne (Ne.symm Fd)).trans upd_same, by simp, VD.nil.congr PrI.none, none, none, none, none, rfl⟩ (fun _ _ _ _ z => .inl (.inl z.2.1)) ?_ ?_⟩
    · rintro i x σ H1 hx ⟨bt, hF, kvs, hd, hk, hv, x5, x6, x7, x8, rfl⟩
      obtain ⟨rfl, his⟩ := rg_at hx
      have hl1 : H1 l = some (.lst [.int a]) := bt _ _ ld hl
      -- the inner turns, over any list of so many numbers
      have turn : ∀ (j : Nat) (H2 : Hp) (kvs : List (Key × V)) (x6 x7 x8 : Option V) (D : Ends), j < 1 → But d H H2 → H2 d = some (.dK kvs) → kvs.length ≤ i * 1 + j → VD kvs (PrI (val1 s a) (flagP p) 1 i j) →
          (∀ kvs' x7 x8, kvs'.length ≤ i * 1 + (j + 1) → VD kvs' (PrI (val1 s a) (flagP p) 1 i (j + 1)) → D.nx [some (.ref l), some (.int p), some (.int s), some (.ref d), some (.ref Fs), some (.int i), some (.int j), x7, x8] (upd H2 d (.dK kvs'))) →
          tSeq (tAsg (tOp (rI (fun _ j => 0 < j) fun i j => .int (i % j)) (tCB (fun xs H Q => (∃ i, xs = [.int i] ∧ Q (.int i) H) ∨ ∃ k, xs = [.bl k] ∧ Q (.int (if k then 1 else 0)) H) (tCons (tOp (rI0 fun i j => .int (i + j)) (tOp (rI CMul fun i j => .int (i * j)) (tOp (rI CMul fun i j => .int (i * j)) (tOp (rIxL K) (tVar 0) (tC (.int 0))) (tVar 5)) (tVar 5))
              (tIf (tTest (tOp rEq (tCB (fun xs H Q => ∃ p ys, xs = [.ref p] ∧ (SqL K H p ys ∨ SqT K H p ys) ∧ Q (.int ys.length) H) (tCons (tVar 0) tNil)) (tC (.int 2)))) (tOp (rI CMul fun i j => .int (i * j)) (tOp (rI CMul fun i j => .int (i * j)) (tOp (rIxL K) (tVar 0) (tC (.int 1))) (tVar 6)) (tVar 6)) (tC (.int 0)))) tNil)) (tVar 2)) (gName 7))
            (tSeq (tAsg (tOrV (tOp rNe (tOp (rI (fun _ j => 0 < j) fun i j => .int (i % j)) (tCB (fun xs H Q => (∃ i, xs = [.int i] ∧ Q (.int i) H) ∨ ∃ k, xs = [.bl k] ∧ Q (.int (if k then 1 else 0)) H) (tCons (tVar 5) tNil)) (tVar 1)) (tC (.int 0))) (tOp rNe (tOp (rI (fun _ j => 0 < j) fun i j => .int (i % j)) (tCB (fun xs H Q => (∃ i, xs = [.int i] ∧ Q (.int i) H) ∨ ∃ k, xs = [.bl k] ∧ Q (.int (if k then 1 else 0)) H) (tCons (tVar 6) tNil)) (tVar 1)) (tC (.int 0)))) (gName 8)) tR) D
            [some (.ref l), some (.int p), some (.int s), some (.ref d), some (.ref Fs), some (.int i), some (.int j), x7, x8] H2 := by
        intro j H2 kvs x6 x7 x8 D hj bt2 hd2 hk2 hv2 hn
        have hl2 : SqL K H2 l [.int a] := .inl (.inl (bt2 _ _ ld hl))
        have hlen : kvs.length < sizeLine := by
          have : i * 1 ≤ 40 * 40 := Nat.mul_le_mul (by omega) (by omega)
          rw [sizeLine_eq]; omega
        have store : ∀ own, own = flagP p i j → tR D [some (.ref l), some (.int p), some (.int s), some (.ref d), some (.ref Fs), some (.int i), some (.int j), some (.int ((val1 s a) i j)), some (.bl own)] H2 := by
          rintro own rfl
          refine qR D d _ _ kvs _ _ _ _ _ _ _ H2 hd2 hv2 hlen (hn _ _ _ ?_ ?_)
          · have := length_putK kvs (.inl ((val1 s a) i j)) (.bl (old (valV kvs (.inl ((val1 s a) i j))) || flagP p i j))
            omega
          · exact (hv2.put _ _).congr (PrI.step hj)
        refine ⟨.ref l, rfl, l, _, 0, .int a, rfl, rfl, hl2, rfl, .int i, rfl, a, i, rfl, rfl, .inl ⟨by omega, by omega⟩, .int i, rfl, _, i, rfl, rfl, .inr ⟨by omega, by omega⟩, ?_⟩
        refine ⟨.ref l, rfl, l, _, rfl, .inl hl2, rfl, _, rfl, ite2 (fun z => absurd (V.int.inj (of_decide_eq_true z)) (by show ¬ ((1 : Nat) : Int) = 2; decide)) (fun _ => ?_)⟩
        refine ⟨_, _, rfl, rfl, .inl ⟨_, rfl, .int s, rfl, _, s, rfl, rfl, sZ, ?_⟩⟩
        all_goals
          refine ⟨.int i, rfl, .inl ⟨_, rfl, .int p, rfl, _, p, rfl, rfl, p0, rfl, _, rfl, ite2 (fun z => ?_) (fun z => ?_)⟩⟩
          · exact store true (by unfold flagP; rw [z, Bool.true_or])
          · have zf : (!decide (V.int ((i : Int) % p) = V.int 0)) = false := by cases hh : (!decide (V.int ((i : Int) % p) = V.int 0)) with | true => exact absurd hh z | false => rfl
            exact ⟨.int j, rfl, .inl ⟨_, rfl, .int p, rfl, _, p, rfl, rfl, p0, rfl, store _ (by unfold flagP; rw [zf, Bool.false_or])⟩⟩
      refine ⟨.ref l, rfl, l, _, rfl, .inl (.inl (.inl hl1)), rfl, _, rfl, ?_⟩
      refine ite2 (fun z => absurd (V.int.inj (of_decide_eq_true z)) (by show ¬ ((1 : Nat) : Int) = 2; decide)) (fun _ => ?_)
      refine ⟨(by show 1 ≤ sizeLine; decide), fun L0 nL0 => ?_⟩
      have L0d : L0 ≠ d := fun e => by rw [e, hd] at nL0; cases nL0
      refine ⟨L0, rfl, ⟨_, .inl (.inl upd_same)⟩, for_list (xs := [.int 0]) (fun j σ H' => But d H H' ∧ H' Fs = some (.lst (rgV 0 (s : Int))) ∧ H' L0 = some (.lst [.int 0]) ∧ ∃ kvs, H' d = some (.dK kvs) ∧ kvs.length ≤ i * 1 + j ∧ VD kvs (PrI (val1 s a) (flagP p) 1 i j) ∧ ∃ x6 x7 x8, σ = [some (.ref l), some (.int p), some (.int s), some (.ref d), some (.ref Fs), some (.int i), x6, x7, x8])
        ⟨bt.trans (.new nL0), same_new nL0 _ _ hF, upd_same, kvs, same_new nL0 _ _ hd, hk, hv, x6, x7, x8, rfl⟩ (fun _ _ _ _ z => .inl (.inl z.2.2.1)) ?_ ?_⟩
      · rintro j x σ H2 hx ⟨bt2, hF2, hL2, kvs2, hd2, hk2, hv2, y6, y7, y8, rfl⟩
        have hj : j < 1 := (List.getElem?_eq_some_iff.mp hx).1
        obtain rfl : j = 0 := by omega
        obtain rfl : V.int 0 = x := Option.some.inj hx
        exact turn 0 H2 kvs2 y6 y7 y8 _ (by decide) bt2 hd2 hk2 hv2 fun kvs' z7 z8 h1 h2 => ⟨bt2.trans .put, (upd_ne Fd).trans hF2, (upd_ne L0d).trans hL2, kvs', upd_same, h1, h2, _, _, _, rfl⟩
      · rintro σ H2 ⟨bt2, hF2, hL2, kvs2, hd2, hk2, hv2, y6, y7, y8, rfl⟩
        exact ⟨bt2, hF2, kvs2, hd2, by rw [Nat.add_mul, Nat.one_mul]; exact hk2, hv2.congr PrI.row, _, _, _, _, rfl⟩
    · rintro σ H1 ⟨bt, hF, kvs, hd, hk, hv, x5, x6, x7, x8, rfl⟩
      refine ⟨_, rfl, q H1 d kvs nd0 (fun b o e => bt b o (ne_of_none e nd0) e) hd ?_⟩
      have e : (rgV 0 (s : Int)).length = s := by rw [rgV_length]; omega
      rw [e] at hv
      exact hv
end
end K26

namespace K26
open PySem PySem.Spec PyProof.Rows L2 NT
theorem flag_iff (p : Int) (x y : Nat) : flagP p x y = true ↔ ((x : Int) % p ≠ 0 ∨ (y : Int) % p ≠ 0) := by
  have h : ∀ z : Int, (!decide (V.int z = V.int 0)) = true ↔ z ≠ 0 := fun z => by
    simp only [Bool.not_eq_true', decide_eq_false_iff_not]
    exact ⟨fun e y => e (congrArg V.int y), fun e y => e (V.int.inj y)⟩
  unfold flagP
  rw [Bool.or_eq_true, h, h]
theorem late_iff (s A z : Int) : ((0 - A % s) % s = (-1 * z * z + 0) % s) ↔ (A - z * z) % s = 0 := by
  have e1 : (0 - A % s) % s = (0 - A) % s := by rw [Int.sub_emod, Int.sub_emod 0 A, Int.emod_emod]
  rw [e1, Int.emod_eq_emod_iff_emod_sub_eq_zero]
  have e2 : (0 - A - (-1 * z * z + 0)) = -(A - z * z) := by
    have : -1 * z * z = -(z * z) := by rw [Int.mul_assoc]; omega
    rw [this]; omega
  rw [e2]
  constructor
  · intro h
    exact Int.emod_eq_zero_of_dvd ((Int.dvd_neg).mp (Int.dvd_of_emod_eq_zero h))
  · intro h
    exact Int.emod_eq_zero_of_dvd ((Int.dvd_neg).mpr (Int.dvd_of_emod_eq_zero h))
def R1 (p : Int) (s : Nat) (a b : Int) : Int → Bool → Prop := PrI (val2 s a b) (flagP p) s s 0
def R2 (p : Int) (s : Nat) : Int → Bool → Prop := PrI (val1 s (-1)) (flagP p) 1 s 0
/-- a rest that can be made up -/
def Meets (p : Int) (s : Nat) (a b r : Int) : Prop := (∃ f, R1 p s a b r f) ∧ (∃ g, R2 p s ((0 - r) % s) g) ∧ (R1 p s a b r true ∨ R2 p s ((0 - r) % s) true)
theorem meets_iff (p : Int) (s : Nat) (a b : Int) (hp : (0 : Int) % p = 0) : (∃ r, Meets p s a b r) ↔ zrB p s a b = true := by
  unfold zrB
  simp only [List.any_eq_true, List.mem_range, Bool.and_eq_true, Bool.or_eq_true, decide_eq_true_eq]
  constructor
  · rintro ⟨r, ⟨f, x, y, hy, hx, e, hf⟩, ⟨g, z, z', hz', hz, ez, hg⟩, o⟩
    rcases o with ⟨x1, y1, hy1, hx1, e1, hf1⟩ | ⟨z1, z1', hz1', hz1, ez1, hg1⟩
    · refine ⟨x1, by omega, y1, hy1, z, by omega, ?_, ?_⟩
      · have ez' : (-1 * (z : Int) * z + 0) % s = (0 - r) % s := ez
        have e1' : (a * x1 * x1 + b * y1 * y1) % s = r := e1
        rw [← e1'] at ez'
        exact (late_iff s _ z).mp ez'.symm
      · exact .inl ((flag_iff p x1 y1).mp hf1)
    · refine ⟨x, by omega, y, hy, z1, by omega, ?_, ?_⟩
      · have ez' : (-1 * (z1 : Int) * z1 + 0) % s = (0 - r) % s := ez1
        have e1' : (a * x * x + b * y * y) % s = r := e
        rw [← e1'] at ez'
        exact (late_iff s _ z1).mp ez'.symm
      · have := (flag_iff p z1 z1').mp hg1
        have z0 : z1' = 0 := by omega
        subst z0
        rcases this with h | h
        · exact .inr h
        · exact absurd hp h
  · rintro ⟨x, hx, y, hy, z, hz, e, o⟩
    have el := (late_iff s _ z).mpr e
    refine ⟨(a * x * x + b * y * y) % s, ⟨_, x, y, hy, .inl hx, rfl, rfl⟩, ⟨_, z, 0, by decide, .inl hz, el.symm, rfl⟩, ?_⟩
    rcases o with (h | h) | h
    · exact .inl ⟨x, y, hy, .inl hx, rfl, (flag_iff p x y).mpr (.inl h)⟩
    · exact .inl ⟨x, y, hy, .inl hx, rfl, (flag_iff p x y).mpr (.inr h)⟩
    · exact .inr ⟨z, 0, by decide, .inl hz, el.symm, (flag_iff p z 0).mpr (.inl h)⟩
theorem cut02 (a b c : V) : cutV [a, b, c] none (some 2) = [a, b] := by
  unfold cutV
  rw [show HT.sIx ([a, b, c] : List V).length 0 none = 0 from HT.sIx_none _ _, List.drop_zero, Nat.sub_zero, show HT.sIx ([a, b, c] : List V).length ([a, b, c] : List V).length (some 2) = min 2 ([a, b, c] : List V).length from HT.sIx_nat _ _ 2]
  rfl
theorem cut23 (a b c : V) : cutV [a, b, c] (some 2) none = [c] := by
  unfold cutV
  rw [show HT.sIx ([a, b, c] : List V).length 0 (some 2) = min 2 ([a, b, c] : List V).length from HT.sIx_nat _ _ 2, HT.sIx_none]
  rfl
section
variable {P : Program} {w : World} {K : PySem.W.Frag} {mg : Str → Option Value} {base : Heap}
def spZr : Sp := fun vs H Q _ => ∃ (l : Addr) (p a b : Int), vs = [.ref l, .int p] ∧ H l = some (.lst [.int a, .int b, .int (-1)]) ∧ a.natAbs ≤ 30 ∧ b.natAbs ≤ 30 ∧ three p ∧ ∀ H', Same H H' → Q (.bl (zrB p (msz p) a b)) H'
theorem ok_zr {f g1 : Addr} {fd gd : FuncData} (F : Fun K "_law_zero_by_rests" "_law_zero_by_rests" sZr f fd) (G2 : FnOk P w K mg base CX0 1 g1 gd ["_law_some", "_law_p", "_law_size"] spVal2) (G1 : FnOk P w K mg base CX0 1 g1 gd ["_law_some", "_law_p", "_law_size"] spVal1)
    (mG : mg "_law_values" = some (.ref g1)) (kG : PySem.W.keepIn K (.ref g1) = true) (bG : Binds K gd ["_law_some", "_law_p", "_law_size"] []) (mi : mg "int" = none) (ml : mg "len" = none) : FnOk P w K mg base CX0 2 f fd ["_law_parts", "_law_p"] spZr := by
  refine F.ok scZr (fun vs H Q E h => ?_) (fun cdv A outer s0 H vs Q E hr h => ?_)
  · obtain ⟨l, p, a, b, rfl, _⟩ := h
    rfl
  · obtain ⟨l, p, a, b, rfl, hl, am, bm, hp, q⟩ := h
    have nd := scZr.nd
    have hu : A.units + 3 + 1 < cLine := by have := hr.units; have e : (A.deeper (envOfC "_law_zero_by_rests" (defScope sZr) s0.heap.objs.size f cdv)).units = A.units + 3 := rfl; omega
    have p2 : 2 ≤ p := by rcases hp with rfl | rfl | rfl <;> decide
    have p5 : p ≤ 5 := by rcases hp with rfl | rfl | rfl <;> decide
    have hs : ((msz p : Nat) : Int) = if p = 2 then 32 else p * p := by rcases hp with rfl | rfl | rfl <;> decide
    have s0 : 0 < msz p := by rcases hp with rfl | rfl | rfl <;> decide
    have s1 : msz p ≤ 40 := by rcases hp with rfl | rfl | rfl <;> decide
    have z0 : (0 : Int) % p = 0 := Int.zero_emod p
    obtain ⟨tR, hR, qR⟩ : ∃ t, PSs (cxOf CX0 P w K mg base ["_law_parts", "_law_p", "_law_size", "_law_one", "_law_two", "_law_rest", "_law_late"] "_law_zero_by_rests" (defScope sZr) f cdv A outer ‹Shared› H E).nox ((defBody sZr).drop 1) t ∧
        ∀ sz : Int, sz = (msz p : Nat) → t { nx := fun _ H' => Q .non H', rt := Q } [some (.ref l), some (.int p), some (.int sz), none, none, none, none] H := by
      refine ⟨_, (pss_cons (ps_par (i := 3) (j := 4) rfl nd rfl rfl (by decide) rfl rfl (pa_cons (pe_call G2 hr (by rfl) mG kG bG .nil pass0 (pa_cons (pe_slice sl_list (pv 0) po_none (po_some pe_int)) (pa_cons (pv 1) (pa_cons (pv 2) pa_nil)))) (pa_cons (pe_disp (pps_cons pe_int pe_bl pps_nil) rfl rfl (by decide) (by decide)) pa_nil)) (by rfl))
        (pss_cons (ps_if (pt_cmpR op_gt (pe_callB call_len_seq (by rfl) ml PySem.boot_len (pa_cons (pv 0) pa_nil)) pe_int (nomark _)) (pss_one (ps_set (i := 4) nd rfl (.inl rfl) (pe_call G1 hr (by rfl) mG kG bG .nil pass0 (pa_cons (pe_slice sl_list (pv 0) (po_some pe_int) po_none) (pa_cons (pv 1) (pa_cons (pv 2) pa_nil)))))) pss_nil)
        (pss_cons (ps_lock (ps_for PassesOwn.never rfl (pi_keys (pv 3)) (pg_name (i := 5) nd rfl (.inl rfl))
          (pss_cons (ps_set (i := 6) nd rfl (.inl rfl) (pe_op op_mod (pe_callTy call_int1 (by rfl) mi boot_int (pa_cons (pe_op op_sub pe_int (pv 5)) pa_nil)) (pv 2)))
          (pss_one (ps_if (PW.pt (pw_and (pt_cmp (pc_din hu (pv 6) (pv 4))) (pw_and1 (PW.pt (pw_or (pt_val (pe_dget hu (pv 3) (pv 5) (fun _ _ => rfl))) (pw_or1 (pt_val (pe_dget hu (pv 4) (pv 6) (fun _ _ => rfl))))))))) (pss_one (ps_ret pe_bl)) pss_nil)))))
        (pss_one (ps_ret pe_bl))))), ?_⟩
      rintro sz rfl
      have sZ : (0 : Int) < (msz p : Nat) := by omega
      refine ⟨.ref l, rfl, 2, rfl, l, _, rfl, .inl (.inl hl), fun c1 nc1 => ⟨.int p, rfl, .int (msz p : Nat), rfl, c1, p, msz p, a, b, rfl, by rw [cut02]; exact upd_same, am, bm, p2, s0, s1, fun H2 d1 kvs1 nd1 sm1 hd1 hv1 => ?_⟩⟩
      intro D0 nD0
      refine ⟨upd_same, [(.inl 0, .bl false)], rfl, by decide, _, _, rfl, ?_⟩
      have smA : Same H H2 := (same_new nc1).trans sm1
      have Hd1 : H d1 = none := by
        cases e : H d1 with
        | none => rfl
        | some o => exact absurd ((same_new nc1 _ _ e).symm.trans nd1) (by intro z; cases z)
      have smB : Same H2 (upd (upd H2 D0 (.dK [])) D0 (.dK (mergeK [] [(.inl 0, .bl false)]))) := fun b o e => by
        have n := ne_of_none e nD0
        rw [upd_ne n, upd_ne n]
        exact e
      generalize upd (upd H2 D0 (.dK [])) D0 (.dK (mergeK [] [(.inl 0, .bl false)])) = H3 at smB ⊢
      have hl3 : H3 l = some (.lst [.int a, .int b, .int (-1)]) := smB _ _ (smA _ _ hl)
      refine ⟨.ref l, rfl, l, _, rfl, .inl (.inl (.inl hl3)), _, 2, rfl, rfl, _, rfl, ite2 (fun _ => ?_) (fun z => absurd (decide_eq_true (by show (2 : Int) < ((3 : Nat) : Int); decide)) z)⟩
      refine ⟨.ref l, rfl, 2, rfl, l, _, rfl, .inl (.inl hl3), fun c2 nc2 => ⟨.int p, rfl, .int (msz p : Nat), rfl, c2, p, msz p, -1, rfl, by rw [cut23]; exact upd_same, by decide, p2, s0, s1, fun H4 d2 kvs2 nd2 sm2 hd2 hv2 => ?_⟩⟩
      have smC : Same H3 H4 := (same_new nc2).trans sm2
      have hd1' : H4 d1 = some (.dK kvs1) := smC _ _ (smB _ _ hd1)
      have d12 : d2 ≠ d1 := fun e => by
        rw [e] at nd2
        have := same_new (o := .lst (cutV [.int a, .int b, .int (-1)] (some 2) none)) nc2 _ _ (smB _ _ hd1)
        rw [nd2] at this
        cases this
      have all : ∀ od, Same H (upd (upd H4 d1 (.frz od (.dK kvs1))) d1 (.dK kvs1)) := fun od b o e => by
        have n : b ≠ d1 := ne_of_none e Hd1
        rw [upd_ne n, upd_ne n]
        exact smC _ _ (smB _ _ (smA _ _ e))
      refine ⟨d1, .dK kvs1, hd1', trivial, fun od => ?_⟩
      refine ⟨.ref d1, rfl, d1, od, rfl, .inl ⟨kvs1, upd_same, for_it walk_keys (fun i σ H' => H' = upd H4 d1 (.frz od (.dK kvs1)) ∧ (∀ j e, j < i → kvs1[j]? = some e → ∀ r, e.1 = .inl r → ¬ Meets p (msz p) a b r) ∧ ∃ x5 x6, σ = [some (.ref l), some (.int p), some (.int (msz p : Nat)), some (.ref d1), some (.ref d2), x5, x6])
        ⟨rfl, fun j e h => absurd h (by omega), none, none, rfl⟩ (fun _ _ H' _ z => by rw [z.1]; exact upd_same) ?_ ?_⟩⟩
      · rintro i x σ H5 H6 hi ⟨rfl, hb, x5, x6, rfl⟩ ⟨rfl, k, v, hk, rfl⟩
        obtain ⟨r, rfl⟩ : ∃ r : Int, k = .inl r := hv1.shape (k, v) (List.mem_of_getElem? hk)
        have hget1 : ∃ f1, valV kvs1 (.inl r) = some (.bl f1) ∧ (∃ g, R1 p (msz p) a b r g) ∧ (f1 = true ↔ R1 p (msz p) a b r true) := by
          rcases hv1.get r with ⟨h1, _⟩ | h
          · exfalso
            have ha := valV_any (.inl r) kvs1
            rw [h1] at ha
            have ht : (kvs1.any fun kv => decide (kv.1 = .inl r)) = true := List.any_eq_true.mpr ⟨_, List.mem_of_getElem? hk, by simp⟩
            rw [ht] at ha
            cases ha
          · exact h
        obtain ⟨f1, g1, h1, h2⟩ := hget1
        have next : ¬ Meets p (msz p) a b r → ∀ j e, j < i + 1 → kvs1[j]? = some e → ∀ r, e.1 = .inl r → ¬ Meets p (msz p) a b r := fun hn j e hj he r' er => by
          by_cases ej : j = i
          · subst ej
            rw [hk] at he
            cases he
            cases er
            exact hn
          · exact hb j e (by omega) he r' er
        refine ⟨.int r, rfl, 0, r, rfl, rfl, .inl ⟨_, rfl, .int (msz p : Nat), rfl, _, _, rfl, rfl, sZ, ?_⟩⟩
        have hd2L : (upd H4 d1 (.frz od (.dK kvs1))) d2 = some (.dK kvs2) := (upd_ne d12).trans hd2
        refine ⟨.int ((0 - r) % (msz p : Nat)), rfl, .ref d2, rfl, d2, _, rfl, DGet.k (k := .inl ((0 - r) % (msz p : Nat))) hd2L, _, rfl, ite2 (fun z => ?_) (fun z => ?_)⟩
        · rcases hv2.get ((0 - r) % (msz p : Nat)) with ⟨e, _⟩ | ⟨f2, g2, h3, h4⟩
          · rw [e] at z
            cases z
          · refine ⟨.ref d1, rfl, .int r, rfl, d1, .bl f1, rfl, .inl ⟨kvs1, .inl r, .inr ⟨od, upd_same⟩, rfl, g1.symm⟩, f1, rfl, ite2 (fun y => ?_) (fun y => ?_)⟩
            · refine ⟨upd_same, to (q _ (all od)) (congrArg V.bl ?_)⟩
              exact (meets_iff p (msz p) a b z0).mp ⟨r, h1, h3, .inl (h2.mp y)⟩
            · refine ⟨.ref d2, rfl, .int _, rfl, d2, .bl f2, rfl, .inl ⟨kvs2, .inl _, .inl hd2L, rfl, g2.symm⟩, f2, rfl, ite2 (fun y2 => ?_) (fun y2 => ?_)⟩
              · refine ⟨upd_same, to (q _ (all od)) (congrArg V.bl ?_)⟩
                exact (meets_iff p (msz p) a b z0).mp ⟨r, h1, h3, .inr (h4.mp y2)⟩
              · exact ⟨rfl, next fun m => m.2.2.elim (fun t => y (h2.mpr t)) (fun t => y2 (h4.mpr t)), _, _, rfl⟩
        · refine iteF ⟨rfl, next fun m => ?_, _, _, rfl⟩
          obtain ⟨_, ⟨g, hg⟩, _⟩ := m
          rcases hv2.get ((0 - r) % (msz p : Nat)) with ⟨_, e⟩ | ⟨f2, g2, _⟩
          · exact e g hg
          · exact z (by rw [g2]; rfl)
      · rintro σ H5 ⟨rfl, hb, x5, x6, rfl⟩
        refine ⟨upd_same, to (q _ (all od)) (congrArg V.bl ?_)⟩
        cases hz : zrB p (msz p) a b with
        | false => rfl
        | true =>
          exfalso
          obtain ⟨r, hm⟩ := (meets_iff p (msz p) a b z0).mpr hz
          have hm' := hm
          obtain ⟨⟨f, hf⟩, _⟩ := hm'
          rcases hv1.get r with ⟨_, e⟩ | ⟨f1, g1, _⟩
          · exact e f hf
          · have ha := valV_any (.inl r) kvs1
            rw [g1] at ha
            obtain ⟨e, he, hd⟩ := List.any_eq_true.mp (ha.trans rfl)
            obtain ⟨j, hj, rfl⟩ := List.getElem_of_mem he
            exact hb j _ hj (List.getElem?_eq_getElem hj) r (of_decide_eq_true hd) hm
    refine ⟨_, pss_cons (ps_set (i := 2) nd rfl (.inl rfl) (pe_ifExp (pt_cmpR op_eq (pv 1) pe_int (nomark _)) pe_int (pe_op op_mul (pv 1) (pv 1)))) hR, ?_⟩
    refine ⟨.int p, rfl, rfl, _, rfl, ite2 (fun z => ?_) (fun z => ⟨.int p, rfl, .int p, rfl, p, p, rfl, rfl, .inl ⟨by omega, by omega⟩, ?_⟩)⟩
    · exact qR 32 (by rw [hs, if_pos (V.int.inj (of_decide_eq_true z))])
    · exact qR (p * p) (by rw [hs, if_neg (fun y => z (decide_eq_true (congrArg V.int y)))])
/-! ### zero -/
/-- the sign as the program tells it -/
def sgn (p a b : Int) : Int := if p = 0 then sg0 a b else sg p (spF p a).1 (spF p a).2 (spF p b).1 (spF p b).2
theorem all_of {a b : Int} (ha : a ∈ wts) (hb : b ∈ wts) {t : Int → Int → Bool} (h : (wts.all fun a => wts.all fun b => t a b) = true) : t a b = true := by
  rw [List.all_eq_true] at h
  have h2 := h a ha
  rw [List.all_eq_true] at h2
  exact h2 b hb
theorem sgn_three {p a b : Int} (hp : three p) (ha : a ∈ wts) (hb : b ∈ wts) : Spl p a (spF p a).1 (spF p a).2 ∧ Spl p b (spF p b).1 (spF p b).2 ∧ sgn p a b = if zrB p (msz p) a b then 1 else -1 := by
  have h : okB p a b = true := by
    rcases hp with rfl | rfl | rfl
    · exact all_of ha hb ok2
    · exact all_of ha hb ok3
    · exact all_of ha hb ok5
  unfold okB at h
  simp only [Bool.and_eq_true, decide_eq_true_eq] at h
  obtain ⟨⟨h1, h2⟩, h3⟩ := h
  refine ⟨spF_ok h1, spF_ok h2, ?_⟩
  have p0 : p ≠ 0 := by rcases hp with rfl | rfl | rfl <;> decide
  unfold sgn
  rw [if_neg p0, h3, zr_eq hp]
theorem sgn_seven {a b : Int} (ha : a ∈ wts) (hb : b ∈ wts) : Spl 7 a (spF 7 a).1 (spF 7 a).2 ∧ Spl 7 b (spF 7 b).1 (spF 7 b).2 ∧ Spl 7 (a * b) (spF 7 (a * b)).1 (spF 7 (a * b)).2 ∧ sgn 7 a b = if f7 a b = symM 7 0 (-1) (spF 7 (a * b)).1 (spF 7 (a * b)).2 then 1 else -1 := by
  have h := all_of ha hb ok7
  unfold ok7B at h
  simp only [Bool.and_eq_true, decide_eq_true_eq] at h
  obtain ⟨⟨⟨h1, h2⟩, h3⟩, h4⟩ := h
  exact ⟨spF_ok h1, spF_ok h2, spF_ok h3, h4⟩
section
variable {P : Program} {w : World} {K : PySem.W.Frag} {mg : Str → Option Value} {base : Heap}
def spZero : Sp := fun vs H Q _ => ∃ (l : Addr) (p a b : Int), vs = [.ref l, .int p] ∧ H l = some (.lst [.int a, .int b, .int (-1)]) ∧ a ∈ wts ∧ b ∈ wts ∧ (p = 0 ∨ three p ∨ p = 7) ∧ ∀ H' (z : Bool), Same H H' → sgn p a b = (if z then 1 else -1) → Q (.bl z) H'
theorem ok_zero {f fR fP fF fS : Addr} {fd dR dP dF dS : FuncData} (F : Fun K "_law_zero" "_law_zero" sZero f fd) (GR : FnOk P w K mg base CX0 2 fR dR ["_law_parts", "_law_p"] spZr) (mR : mg "_law_zero_by_rests" = some (.ref fR)) (kR : PySem.W.keepIn K (.ref fR) = true) (bR : Binds K dR ["_law_parts", "_law_p"] [])
    (GP : FnOk P w K mg base CX0 1 fP dP ["_law_parts"] spProd) (mP : mg "_law_product" = some (.ref fP)) (kP : PySem.W.keepIn K (.ref fP) = true) (bP : Binds K dP ["_law_parts"] [])
    (GF : FnOk P w K mg base CX0 3 fF dF ["_law_parts", "_law_p"] spForm) (mF : mg "_law_form_symbol" = some (.ref fF)) (kF : PySem.W.keepIn K (.ref fF) = true) (bF : Binds K dF ["_law_parts", "_law_p"] [])
    (GS : FnOk P w K mg base CX0 2 fS dS ["_law_a", "_law_b", "_law_p"] spSym) (mS : mg "_law_symbol" = some (.ref fS)) (kS : PySem.W.keepIn K (.ref fS) = true) (bS : Binds K dS ["_law_a", "_law_b", "_law_p"] [])
    (mn : mg "min" = none) (mm : mg "max" = none) (ml : mg "len" = none) : FnOk P w K mg base CX0 4 f fd ["_law_parts", "_law_p"] spZero := by
  refine F.ok scZero (fun vs H Q E h => ?_) (fun cdv A outer s0 H vs Q E hr h => ?_)
  · obtain ⟨l, p, a, b, rfl, _⟩ := h
    rfl
  · obtain ⟨l, p, a, b, rfl, hl, ha, hb, hp, q⟩ := h
    have nd := scZero.nd
    obtain ⟨a0, a1, a2⟩ := wts_mem ha
    obtain ⟨b0, b1, b2⟩ := wts_mem hb
    have hS : SqL K H l [.int a, .int b, .int (-1)] := .inl (.inl hl)
    refine ⟨_, pss_cons (ps_if (pt_cmpR op_eq (pv 1) pe_int (nomark _)) (pss_one (ps_ret (pe_chain op_lt op_lt (pe_callB (cr_min rfl) (by rfl) mn boot_min (pa_cons (pv 0) pa_nil)) pe_int (pe_callB (cr_max rfl) (by rfl) mm boot_max (pa_cons (pv 0) pa_nil))))) pss_nil)
      (pss_cons (ps_if (PW.pt (pw_and (pt_cmpR op_lt (pe_callB call_len_seq (by rfl) ml PySem.boot_len (pa_cons (pv 0) pa_nil)) pe_int (nomark _)) (pw_and1 (pt_cmpR op_lt (pv 1) pe_int (nomark _))))) (pss_one (ps_ret (pe_call GR (hr.mono (by decide)) (by rfl) mR kR bR .nil pass0 (pa_cons (pv 0) (pa_cons (pv 1) pa_nil))))) pss_nil)
      (pss_cons (ps_set (i := 2) nd rfl (.inl rfl) (pe_call GP (hr.mono (by decide)) (by rfl) mP kP bP .nil pass0 (pa_cons (pv 0) pa_nil)))
      (pss_cons (ps_if (pt_cmpR op_eq (pe_callB call_len_seq (by rfl) ml PySem.boot_len (pa_cons (pv 0) pa_nil)) pe_int (nomark _)) pss_never pss_nil)
      (pss_cons (ps_if (pt_cmpR op_eq (pe_callB call_len_seq (by rfl) ml PySem.boot_len (pa_cons (pv 0) pa_nil)) pe_int (nomark _)) (pss_one (ps_ret (pe_cmpR op_eq (pe_call GF hr (by rfl) mF kF bF .nil pass0 (pa_cons (pv 0) (pa_cons (pv 1) pa_nil))) (pe_call GS (hr.mono (by decide)) (by rfl) mS kS bS .nil pass0 (pa_cons (pe_un un_neg pe_int) (pa_cons (pe_op op_sub pe_int (pv 2)) (pa_cons (pv 1) pa_nil)))) (nomark _)))) pss_nil)
      pss_never)))), ?_⟩
    refine ⟨.int p, rfl, rfl, _, rfl, ite2 (fun z => ?_) (fun z => ?_)⟩
    · have p0 : p = 0 := V.int.inj (of_decide_eq_true z)
      refine ⟨.ref l, rfl, l, [a, b, -1], rfl, hS, (by show 0 < 3; decide), fun m hm hle => ?_⟩
      have m1 : m ≤ -1 := hle (-1) (by simp)
      refine ⟨m, 0, rfl, rfl, decide (m < 0), rfl, ite2 (fun _ => ?_) (fun y => absurd (decide_eq_true (show m < 0 by omega)) y)⟩
      refine ⟨.ref l, rfl, l, [a, b, -1], rfl, hS, (by show 0 < 3; decide), fun M hM hge => ⟨0, M, rfl, rfl, ?_⟩⟩
      refine q H (decide (0 < M)) (.refl _) ?_
      unfold sgn sg0
      rw [if_pos p0]
      by_cases hpos : 0 < M
      · rw [decide_eq_true hpos, if_pos rfl, if_neg]
        rintro ⟨h1, h2⟩
        have hM' : M = a ∨ M = b ∨ M = -1 := by simpa using hM
        omega
      · rw [decide_eq_false hpos]
        have ga : a ≤ M := hge a (by simp)
        have gb : b ≤ M := hge b (by simp)
        rw [if_pos ⟨by omega, by omega⟩]
        rfl
    · have p0 : p ≠ 0 := fun y => z (decide_eq_true (congrArg V.int y))
      refine ⟨.ref l, rfl, l, _, rfl, .inl hS, _, 5, rfl, rfl, _, rfl, ite2 (fun _ => ?_) (fun y => absurd (decide_eq_true (by show ((3 : Nat) : Int) < 5; decide)) y)⟩
      refine ⟨.int p, rfl, p, 6, rfl, rfl, _, rfl, ite2 (fun y => ?_) (fun y => ?_)⟩
      · have p6 : p < 6 := of_decide_eq_true y
        have h3 : three p := by
          rcases hp with h | h | h
          · exact absurd h p0
          · exact h
          · omega
        obtain ⟨_, _, e⟩ := sgn_three h3 ha hb
        exact ⟨.ref l, rfl, .int p, rfl, l, p, a, b, rfl, hl, by omega, by omega, h3, fun H1 s1 => q H1 _ s1 e⟩
      · have p7 : p = 7 := by
          have np : ¬ p < 6 := fun h => y (decide_eq_true h)
          rcases hp with h | h | h
          · exact absurd h p0
          · rcases h with rfl | rfl | rfl <;> exact absurd (by decide) np
          · exact h
        subst p7
        obtain ⟨sa, sb, sab, e⟩ := sgn_seven ha hb
        refine ⟨.ref l, rfl, l, a, b, rfl, hl, by omega, by omega, ?_⟩
        refine ⟨.ref l, rfl, l, _, rfl, .inl hS, rfl, _, rfl, ite2 (fun y => absurd (V.int.inj (of_decide_eq_true y)) (by show ¬ ((3 : Nat) : Int) = 2; decide)) (fun _ => ?_)⟩
        refine ⟨.ref l, rfl, l, _, rfl, .inl hS, rfl, _, rfl, ite2 (fun _ => ?_) (fun y => absurd (decide_eq_true rfl) y)⟩
        refine ⟨.ref l, rfl, .int 7, rfl, l, 7, a, b, -1, _, _, _, _, 0, -1, rfl, hl, by decide, by decide, ⟨a0, by omega⟩, ⟨b0, by omega⟩, ⟨by decide, by decide⟩, sa, sb, ⟨by decide, by decide⟩, fun H1 s1 => ?_⟩
        have ed : 0 - 1 * a * b * (-1) = a * b := by rw [Int.one_mul]; omega
        have abs : (a * b).natAbs ≤ 30 * 30 := by rw [Int.natAbs_mul]; exact Nat.mul_le_mul (by omega) (by omega)
        refine ⟨1, rfl, .int (1 * a * b * (-1)), rfl, 0, _, rfl, rfl, .int 7, rfl, -1, 0 - 1 * a * b * (-1), 7, 0, -1, (spF 7 (a * b)).1, (spF 7 (a * b)).2, rfl, by decide, by decide, by decide, ?_, by decide, ?_, ⟨by decide, by decide⟩, ?_, fun H2 s2 => ?_⟩
        · rw [ed]; exact Int.mul_ne_zero a0 b0
        · rw [ed]; omega
        · rw [ed]; exact sab
        · refine ⟨rfl, q H2 _ (s1.trans s2) ?_⟩
          rw [e]
          show (if f7 a b = symM 7 0 (-1) (spF 7 (a * b)).1 (spF 7 (a * b)).2 then (1 : Int) else -1) = (if decide (V.int (f7 a b) = V.int (symM 7 0 (-1) (spF 7 (a * b)).1 (spF 7 (a * b)).2)) = true then 1 else -1)
          by_cases h : f7 a b = symM 7 0 (-1) (spF 7 (a * b)).1 (spF 7 (a * b)).2
          · rw [if_pos h, decide_eq_true (congrArg V.int h)]
            rfl
          · rw [if_neg h, decide_eq_false (fun y => h (V.int.inj y))]
            rfl
end
end
end K26

namespace K26
open PySem PySem.Spec PyProof.Rows L2 NT
def IsSign (p a b S : Int) : Prop := (p = 0 ∧ S = sg0 a b) ∨ (PrimeOk p ∧ p < 1073741824 ∧ ∃ k u l v, Spl p a k u ∧ Spl p b l v ∧ S = sg p k u l v)
def pls (p : Int) : Prop := p = 0 ∨ three p ∨ p = 7
theorem signs {p a b : Int} (hp : pls p) (ha : a ∈ wts) (hb : b ∈ wts) : IsSign p a b (sgn p a b) ∧ (∀ s t : Int, 0 < s → 0 < t → IsSign p (a * s * s) (b * t * t) (sgn p a b)) ∧ (sgn p a b = 1 ∨ sgn p a b = -1) := by
  have pm : sgn p a b = 1 ∨ sgn p a b = -1 := by
    unfold sgn sg0 sg
    repeat' split
    all_goals simp
  have pos : five p → Spl p a (spF p a).1 (spF p a).2 → Spl p b (spF p b).1 (spF p b).2 → IsSign p a b (sgn p a b) ∧ (∀ s t : Int, 0 < s → 0 < t → IsSign p (a * s * s) (b * t * t) (sgn p a b)) := by
    intro hf sa sb
    obtain ⟨_, p2, _, p13⟩ := five_prime hf
    have e : sgn p a b = sg p (spF p a).1 (spF p a).2 (spF p b).1 (spF p b).2 := by
      unfold sgn
      rw [if_neg (by omega)]
    refine ⟨.inr ⟨pk_five hf, by omega, _, _, _, _, sa, sb, e⟩, fun s t hs ht => ?_⟩
    obtain ⟨k', u', l', v', h1, h2, h3⟩ := sg_squares hf sa sb (s := s) (t := t) (by omega) (by omega)
    exact .inr ⟨pk_five hf, by omega, k', u', l', v', h1, h2, e.trans h3.symm⟩
  rcases hp with rfl | h | rfl
  · refine ⟨.inl ⟨rfl, rfl⟩, fun s t hs ht => .inl ⟨rfl, (sg0_sq hs ht).symm⟩, pm⟩
  · obtain ⟨sa, sb, _⟩ := sgn_three h ha hb
    have hf : five p := by
      rcases h with h | h | h
      · exact .inl h
      · exact .inr (.inl h)
      · exact .inr (.inr (.inl h))
    exact ⟨(pos hf sa sb).1, (pos hf sa sb).2, pm⟩
  · obtain ⟨sa, sb, _⟩ := sgn_seven ha hb
    have hf : five 7 := .inr (.inr (.inr (.inl rfl)))
    exact ⟨(pos hf sa sb).1, (pos hf sa sb).2, pm⟩
theorem ints3 {S : Int} (h : S = 1 ∨ S = -1) : (PyData.list [.int S, .int S, .int S]).showable = true ∧ (PyData.list [.int S, .int S, .int S]).hasDict = false ∧ (PyData.list [.int S, .int S, .int S]).depth < 60 ∧ (PyData.list [.int S, .int S, .int S]).shown.length ≤ sizeLine := by
  rcases h with rfl | rfl
  · exact ⟨by decide +kernel, rfl, by decide +kernel, by decide +kernel⟩
  · exact ⟨by decide +kernel, rfl, by decide +kernel, by decide +kernel⟩
theorem pls_at {i : Nat} {x : V} (h : ([.int 0, .int 2, .int 3, .int 5, .int 7] : List V)[i]? = some x) : ∃ p, x = .int p ∧ pls p := by
  have h := mem_get h
  simp only [List.mem_cons, List.not_mem_nil, or_false] at h
  rcases h with rfl | rfl | rfl | rfl | rfl
  · exact ⟨_, rfl, .inl rfl⟩
  · exact ⟨_, rfl, .inr (.inl (.inl rfl))⟩
  · exact ⟨_, rfl, .inr (.inl (.inr (.inl rfl)))⟩
  · exact ⟨_, rfl, .inr (.inl (.inr (.inr rfl)))⟩
  · exact ⟨_, rfl, .inr (.inr rfl)⟩
section
variable {P : Program} {w : World} {K : PySem.W.Frag} {mg : Str → Option Value} {base : Heap}
theorem dp3i {H : Hp} {a : Addr} {x y z : Int} (h : H a = some (.lst [.int x, .int y, .int z])) : Dp K H (.ref a) (.list [.int x, .int y, .int z]) :=
  .lst (.inl (.inl h)) (.cons (.int _) (.cons (.int _) (.cons (.int _) .nil)))
/-- sign(place = .., other = .., number = ..) -/
theorem sign_kw {f : Addr} {fd : FuncData} (F : Fun K "sign" "sign" sSign f fd) : KBn K fd ["number", "other", "place"] 0 ["place", "other", "number"] (fun _ ws => [ws.getD 2 .none, ws.getD 1 .none, ws.getD 0 .none]) (fun _ zs => [zs.getD 2 .non, zs.getD 1 .non, zs.getD 0 .non]) := by
  obtain ⟨_, _, kV, doc, pm, an, cdv, ct, _, rfl, _, _⟩ := F.ex
  refine ⟨fun s us ws X h1 h2 => .of_eq ?_, fun _ rz => ?_⟩
  · match us, ws, h1, h2 with
    | [], [_, _, _], _, _ => rfl
  · cases rz with
    | nil => exact .cons rfl (.cons rfl (.cons rfl .nil))
    | cons r1 r2 =>
      cases r2 with
      | nil => exact .cons rfl (.cons rfl (.cons r1 .nil))
      | cons r2 r3 =>
        cases r3 with
        | nil => exact .cons rfl (.cons r2 (.cons r1 .nil))
        | cons r3 _ => exact .cons r3 (.cons r2 (.cons r1 .nil))
def spSign2 : Sp := fun vs H Q _ => ∃ a b p S : Int, vs = [.int a, .int b, .int p] ∧ a ≠ 0 ∧ b ≠ 0 ∧ a.natAbs ≤ 1000000000 ∧ b.natAbs ≤ 1000000000 ∧ IsSign p a b S ∧ ∀ H', Same H H' → Q (.int S) H'
theorem sign2 {f : Addr} {fd : FuncData} (F : FnOk P w K mg base CX0 6 f fd ["number", "other", "place"] spSign) : FnOk P w K mg base CX0 6 f fd ["number", "other", "place"] spSign2 :=
  F.imp fun vs H Q E ⟨a, b, p, S, e, a0, b0, am, bm, hs, q⟩ => ⟨a, b, p, e, a0, b0, am, bm, by
    rcases hs with ⟨hp, rfl⟩ | ⟨h1, h2, k, u, l, v, sa, sb, rfl⟩
    · exact .inl ⟨hp, q⟩
    · exact .inr ⟨h1, h2, k, u, l, v, sa, sb, q⟩⟩
def spRight : Sp := fun vs H Q _ => ∃ c : Addr, vs = [.ref c] ∧ ChB H c 10 ∧ ∀ H', But c H H' → Q (.bl true) H'
structure Knows (P : Program) (w : World) (K : PySem.W.Frag) (mg : Str → Option Value) (base : Heap) (fW fF fZ fS : Addr) (dW dF dZ dS : FuncData) : Prop where
  W : FnOk P w K mg base CX0 3 fW dW ["_law_chest_here", "_law_n"] spWts
  mW : mg "_law_weights" = some (.ref fW)
  kW : PySem.W.keepIn K (.ref fW) = true
  bW : Binds K dW ["_law_chest_here", "_law_n"] []
  F : FnOk P w K mg base CX0 1 fF dF ["_law_chest_here", "_law_most"] spFetch
  mF : mg "_law_fetch" = some (.ref fF)
  kF : PySem.W.keepIn K (.ref fF) = true
  bF : Binds K dF ["_law_chest_here", "_law_most"] []
  Z : FnOk P w K mg base CX0 4 fZ dZ ["_law_parts", "_law_p"] spZero
  mZ : mg "_law_zero" = some (.ref fZ)
  kZ : PySem.W.keepIn K (.ref fZ) = true
  bZ : Binds K dZ ["_law_parts", "_law_p"] []
  S : FnOk P w K mg base CX0 6 fS dS ["number", "other", "place"] spSign2
  mS : mg "sign" = some (.ref fS)
  kS : PySem.W.keepIn K (.ref fS) = true
  bS : Binds K dS ["number", "other", "place"] []
  wS : KBn K dS ["number", "other", "place"] 0 ["place", "other", "number"] (fun _ ws => [ws.getD 2 .none, ws.getD 1 .none, ws.getD 0 .none]) (fun _ zs => [zs.getD 2 .non, zs.getD 1 .non, zs.getD 0 .non])
  mr : mg "range" = none
  mp : mg "repr" = none
theorem ok_right {f fW fF fZ fS : Addr} {fd dW dF dZ dS : FuncData} (F : Fun K "_law_right" "_law_right" sRight f fd) (T : Knows P w K mg base fW fF fZ fS dW dF dZ dS) : Gu.GOk P w K mg base CX0 7 f fd ["_law_chest_here"] spRight := by
  refine Gu.GOk.fun F scRight (fun vs H Q E h => ?_) (fun cdv A out s H vs Q E hG hr h => ?_)
  · obtain ⟨c, rfl, _⟩ := h
    rfl
  · obtain ⟨c, rfl, hC, q⟩ := h
    have hu : A.units + 3 + 64 < cLine := hr.units
    have nd := scRight.nd
    have hl3 : 3 ≤ sizeLine := by decide
    have hl5 : 5 ≤ sizeLine := by decide
    -- told, and the comparison
    obtain ⟨tR, hR, qR⟩ : ∃ tt, PSs (cxOf CX0 P w K mg base ["_law_chest_here", "_law_lap", "_law_a", "_law_b", "_law_one", "_law_two", "_law_p", "_law_due", "_law_told"] "_law_right" (defScope sRight) f cdv A out s H E).nox ((bodyOf ((bodyOf ((defBody sRight).getD 0 (.Pass ⟨0, 0, 0, 0⟩))).getD 2 (.Pass ⟨0, 0, 0, 0⟩))).drop 1) tt ∧
        ∀ (D : Ends) (a b p s t S : Int) (x0 x1 x8 : Option V) H1, pls p → a ∈ wts → b ∈ wts → 0 < s → s ≤ 40 → 0 < t → t ≤ 40 → S = sgn p a b →
          (∀ H' x8, Same H1 H' → D.nx [x0, x1, some (.int a), some (.int b), some (.int s), some (.int t), some (.int p), some (.int S), x8] H') →
          tt D [x0, x1, some (.int a), some (.int b), some (.int s), some (.int t), some (.int p), some (.int S), x8] H1 := by
      refine ⟨_, pss_cons (ps_set (i := 8) nd rfl (.inl rfl) (pe_lst (pa_cons (pe_call T.S hr (by rfl) T.mS T.kS T.bS .nil pass0 (pa_cons (pv 2) (pa_cons (pv 3) (pa_cons (pv 6) pa_nil))))
          (pa_cons (Gu.pe_callO T.S hr (by rfl) T.mS T.kS T.wS pass0 (pk_cons (pv 6) (pk_cons (pv 3) (pk_cons (pv 2) pk_nil))))
          (pa_cons (pe_call T.S hr (by rfl) T.mS T.kS T.bS .nil pass0 (pa_cons (pe_op op_mul (pe_op op_mul (pv 2) (pv 4)) (pv 4)) (pa_cons (pe_op op_mul (pe_op op_mul (pv 3) (pv 5)) (pv 5)) (pa_cons (pv 6) pa_nil)))) pa_nil)))))
        (pss_one (ps_if (pt_cmpR op_ne (pe_callB (Gu.call_reprD hG hu) (by rfl) T.mp boot_repr (pa_cons (pv 8) pa_nil)) (pe_callB (Gu.call_reprD hG hu) (by rfl) T.mp boot_repr (pa_cons (pe_lst (pa_cons (pv 7) (pa_cons (pv 7) (pa_cons (pv 7) pa_nil)))) pa_nil)) (nomark _)) (pss_one (ps_ret pe_bl)) pss_nil)), ?_⟩
      intro D a b p s t S x0 x1 x8 H1 hp ha hb s0 s1 t0 t1 hS k
      obtain ⟨i1, i2, pm⟩ := signs hp ha hb
      rw [← hS] at i1 i2 pm
      obtain ⟨a0, a1, a2⟩ := wts_mem ha
      obtain ⟨b0, b1, b2⟩ := wts_mem hb
      obtain ⟨f1, f2, f3, f4⟩ := ints3 pm
      have ma : (a * s * s).natAbs ≤ 30 * 40 * 40 := by rw [Int.natAbs_mul, Int.natAbs_mul]; exact Nat.mul_le_mul (Nat.mul_le_mul (by omega) (by omega)) (by omega)
      have mb : (b * t * t).natAbs ≤ 30 * 40 * 40 := by rw [Int.natAbs_mul, Int.natAbs_mul]; exact Nat.mul_le_mul (Nat.mul_le_mul (by omega) (by omega)) (by omega)
      have na : a * s * s ≠ 0 := Int.mul_ne_zero (Int.mul_ne_zero a0 (by omega)) (by omega)
      have nb : b * t * t ≠ 0 := Int.mul_ne_zero (Int.mul_ne_zero b0 (by omega)) (by omega)
      refine ⟨.int a, rfl, .int b, rfl, .int p, rfl, a, b, p, S, rfl, a0, b0, by omega, by omega, i1, fun H2 s2 => ?_⟩
      refine ⟨.int p, rfl, .int b, rfl, .int a, rfl, rfl, a, b, p, S, rfl, a0, b0, by omega, by omega, i1, fun H3 s3 => ?_⟩
      refine ⟨.int a, rfl, .int s, rfl, a, s, rfl, rfl, .inl ⟨by omega, by omega⟩, .int s, rfl, _, s, rfl, rfl, .inr ⟨by omega, by omega⟩, .int b, rfl, .int t, rfl, b, t, rfl, rfl, .inl ⟨by omega, by omega⟩, .int t, rfl, _, t, rfl, rfl, .inr ⟨by omega, by omega⟩, .int p, rfl, a * s * s, b * t * t, p, S, rfl, na, nb, by omega, by omega, i2 s t s0 t0, fun H4 s4 => ⟨hl3, fun L nL => ?_⟩⟩
      refine ⟨.ref L, rfl, L, _, rfl, dp3i upd_same, f1, f2, f3, f4, .int S, rfl, .int S, rfl, .int S, rfl, hl3, fun L2 nL2 => ⟨L2, _, rfl, dp3i upd_same, f1, f2, f3, f4, rfl, _, rfl, ne_ite (fun z => absurd rfl z) (fun _ => ?_)⟩⟩
      exact k _ _ (s2.trans (s3.trans (s4.trans ((same_new nL).trans (same_new nL2)))))
    refine ⟨_, pss_cons (ps_for PassesOwn.never rfl (pi_range1 rfl T.mr (pa_cons pe_int pa_nil)) (pg_name (i := 1) nd rfl (.inl rfl))
        (pss_cons (ps_asg (pe_call T.W (hr.mono (by decide)) (by rfl) T.mW T.kW T.bW .nil pass0 (pa_cons (pv 0) (pa_cons pe_int pa_nil))) (pg_unl rfl (pgs_cons (pg_name (i := 2) nd rfl (.inl rfl)) (pgs_cons (pg_name (i := 3) nd rfl (.inl rfl)) pgs_nil))))
        (pss_cons (ps_par (i := 4) (j := 5) rfl nd rfl rfl (by decide) rfl rfl (pa_cons (pe_op op_add pe_int (pe_call T.F (hr.mono (by decide)) (by rfl) T.mF T.kF T.bF .nil pass0 (pa_cons (pv 0) (pa_cons pe_int pa_nil)))) (pa_cons (pe_op op_add pe_int (pe_call T.F (hr.mono (by decide)) (by rfl) T.mF T.kF T.bF .nil pass0 (pa_cons (pv 0) (pa_cons pe_int pa_nil)))) pa_nil)) (by rfl))
        (pss_one (ps_for PassesOwn.never rfl (pi_list (pe_lst (pa_cons pe_int (pa_cons pe_int (pa_cons pe_int (pa_cons pe_int (pa_cons pe_int pa_nil))))))) (pg_name (i := 6) nd rfl (.inl rfl))
          (pss_cons (ps_set (i := 7) nd rfl (.inl rfl) (pe_ifExp (pt_val (pe_call T.Z (hr.mono (by decide)) (by rfl) T.mZ T.kZ T.bZ .nil pass0 (pa_cons (pe_lst (pa_cons (pv 2) (pa_cons (pv 3) (pa_cons (pe_un un_neg pe_int) pa_nil)))) (pa_cons (pv 6) pa_nil)))) pe_int (pe_un un_neg pe_int))) hR))))))
      (pss_one (ps_ret pe_bl)), ?_⟩
    refine ⟨4, rfl, by decide, by decide, for_range (n := ((4 : Int).toNat)) (fun i σ H' => But c H H' ∧ ChB H' c (10 + 10 * i) ∧ ∃ x1 x2 x3 x4 x5 x6 x7 x8, σ = [some (.ref c), x1, x2, x3, x4, x5, x6, x7, x8])
      ⟨.refl, hC, _, _, _, _, _, _, _, _, rfl⟩ ?_ ?_⟩
    · rintro i σ H1 hi ⟨bt, ch, x1, x2, x3, x4, x5, x6, x7, x8, rfl⟩
      have hi4 : i < 4 := hi
      refine ⟨.ref c, rfl, c, _, rfl, ch, by omega, fun H2 D a b ha hb bt2 ch2 hD => ?_⟩
      refine ⟨D, _, rfl, .inl (.inl hD), rfl, _, _, rfl, _, _, rfl, rfl, ?_⟩
      refine ⟨.ref c, rfl, c, 40, _, rfl, by decide, by decide, ch2, by omega, fun H3 r r0 r1 bt3 ch3 => ⟨1, r, rfl, rfl, ?_⟩⟩
      refine ⟨.ref c, rfl, c, 40, _, rfl, by decide, by decide, ch3, by omega, fun H4 r2 r20 r21 bt4 ch4 => ⟨1, r2, rfl, rfl, _, _, rfl, ?_⟩⟩
      have btA : But c H H4 := bt.trans (bt2.trans (bt3.trans bt4))
      refine ⟨hl5, fun L nL => ?_⟩
      refine ⟨L, rfl, ⟨_, .inl (.inl upd_same)⟩, for_list (xs := [.int 0, .int 2, .int 3, .int 5, .int 7]) (fun j σ H' => But c H H' ∧ H' L = some (.lst [.int 0, .int 2, .int 3, .int 5, .int 7]) ∧ ChB H' c (10 + 10 * (i + 1)) ∧ ∃ y6 y7 y8, σ = [some (.ref c), some (.int (0 + (i : Int))), some (.int a), some (.int b), some (.int (1 + r)), some (.int (1 + r2)), y6, y7, y8])
        ⟨btA.trans (.new nL), upd_same, (ch4.same (same_new nL)).mono (by omega), _, _, _, rfl⟩ (fun _ _ _ _ z => .inl (.inl z.2.1)) ?_ ?_⟩
      · rintro j x σ H5 hx ⟨bt5, hL, ch5, y6, y7, y8, rfl⟩
        obtain ⟨p, rfl, hp⟩ := pls_at hx
        refine ⟨.int a, rfl, .int b, rfl, 1, rfl, hl3, fun L3 nL3 => ⟨.int p, rfl, L3, p, a, b, rfl, upd_same, ha, hb, hp, fun H6 z s6 e => ⟨z, rfl, ?_⟩⟩⟩
        have s7 := (same_new (o := .lst [.int a, .int b, .int (-1)]) nL3).trans s6
        have fin : ∀ H', Same H6 H' → But c H H' ∧ H' L = some (.lst [.int 0, .int 2, .int 3, .int 5, .int 7]) ∧ ChB H' c (10 + 10 * (i + 1)) := fun H' s8 => ⟨bt5.trans (.same (s7.trans s8)), s8 _ _ (s7 _ _ hL), ch5.same (s7.trans s8)⟩
        cases z with
        | true =>
          refine iteT (qR _ a b p (1 + r) (1 + r2) 1 _ _ _ H6 hp ha hb (by omega) (by omega) (by omega) (by omega) e.symm fun H' y8 s8 => ?_)
          exact ⟨(fin _ s8).1, (fin _ s8).2.1, (fin _ s8).2.2, _, _, _, rfl⟩
        | false =>
          refine iteF ⟨1, rfl, qR _ a b p (1 + r) (1 + r2) (-1) _ _ _ H6 hp ha hb (by omega) (by omega) (by omega) (by omega) e.symm fun H' y8 s8 => ?_⟩
          exact ⟨(fin _ s8).1, (fin _ s8).2.1, (fin _ s8).2.2, _, _, _, rfl⟩
      · rintro σ H5 ⟨bt5, hL, ch5, y6, y7, y8, rfl⟩
        exact ⟨bt5, ch5, _, _, _, _, _, _, _, _, rfl⟩
    · rintro σ H1 ⟨bt, ch, x1, x2, x3, x4, x5, x6, x7, x8, rfl⟩
      exact q _ bt
end
end K26

namespace K26
open PySem PySem.Spec PyProof.Rows L2 NT
section
variable {P : Program} {w : World} {K : PySem.W.Frag} {mg : Str → Option Value} {base : Heap}
def spLaw (K : PySem.W.Frag) : Sp := fun vs H Q _ => ∃ (a : Addr) (ns : List Int), vs = [.ref a] ∧ SqL K H a (ns.map V.int) ∧ ns.length ≤ 63 ∧ ∀ H', Q (.bl true) H'
theorem ok_law {f fC fR : Addr} {fd dC dR : FuncData} (F : Fun K "law" "law" sLaw f fd) (GC : FnOk P w K mg base CX0 1 fC dC ["_law_script", "_law_at"] (spChest K)) (mC : mg "_law_chest" = some (.ref fC)) (kC : PySem.W.keepIn K (.ref fC) = true) (bC : Binds K dC ["_law_script", "_law_at"] [])
    (GR : Gu.GOk P w K mg base CX0 7 fR dR ["_law_chest_here"] spRight) (mR : mg "_law_right" = some (.ref fR)) (kR : PySem.W.keepIn K (.ref fR) = true) (bR : Binds K dR ["_law_chest_here"] []) (ma : mg "all" = none) (mr : mg "range" = none) (mm : mg "max" = none) (mn : mg "min" = none) (ml : mg "len" = none) :
    Gu.GOk P w K mg base CX0 8 f fd ["_law_script"] (spLaw K) := by
  refine Gu.GOk.fun F scLaw (fun vs H Q E h => ?_) (fun cdv A out s H vs Q E hG hr h => ?_)
  · obtain ⟨a, ns, rfl, _⟩ := h
    rfl
  · obtain ⟨a, ns, rfl, hS, hl, q⟩ := h
    refine ⟨_, pss_one (ps_ret (pe_callB (cr_all rfl) (by rfl) ma boot_all (pa_cons (pe_lc (own := [("_law_at", 1)]) (g := gName 1) (tt := tYes) rfl scLaw.nd
        (pi_range1 rfl mr (pa_cons (pe_callB (call_max2 rfl) (by rfl) mm boot_max (pa_cons pe_int (pa_cons (pe_callB (call_min2 rfl) (by rfl) mn boot_min (pa_cons (pe_callB call_len_seq (by rfl) ml PySem.boot_len (pa_cons (pv 0) pa_nil)) (pa_cons pe_int pa_nil))) pa_nil))) pa_nil))
        (blkOk_by (N := ["_law_script", "_law_at"]) (sc := defScope sLaw) (by decide +kernel)) (fun _ _ _ _ _ => pg_name (i := 1) scLaw.nd rfl (.inl rfl)) (fun _ _ _ _ _ => pts_nil)
        (fun _ _ _ _ _ => Gu.pe_callG GR hG hr (by rfl) mR kR bR .nil pass0 (pa_cons (pe_call GC (hr.mono (by decide)) (by rfl) mC kC bC .nil pass0 (pa_cons (pv 0) (pa_cons (pv 1) pa_nil))) pa_nil))) pa_nil))), ?_⟩
    refine ⟨.ref a, rfl, a, _, rfl, .inl hS, _, 3, rfl, 2, _, rfl, _, rfl, ?_⟩
    generalize hj : (if (if (3 : Int) < ((ns.map V.int).length : Nat) then (3 : Int) else ((ns.map V.int).length : Nat)) > 2 then (if (3 : Int) < ((ns.map V.int).length : Nat) then (3 : Int) else ((ns.map V.int).length : Nat)) else 2) = j
    have j3 : j ≤ 3 ∧ 0 ≤ j := by
      rw [← hj]
      constructor <;> repeat' split
      all_goals omega
    refine ⟨by omega, by omega, fun D nD => lc_range (lo := 0) (n := j.toNat) (fun i H' => Same H H' ∧ H' D = some (.lst ((List.replicate i true).map V.bl))) ⟨same_new nD, upd_same⟩ ?_ ?_⟩
    · rintro i H' hi ⟨sm, hD⟩
      have e0 : (0 : Int) + i = i := by omega
      rw [e0]
      refine ⟨rfl, .ref a, rfl, .int i, rfl, a, ns, i, rfl, sm.seq hS, by omega, hl, fun H2 c s2 nc ch => ⟨c, rfl, ch.mono (by decide), fun H3 bt => ?_⟩⟩
      have Dc : D ≠ c := fun e => by rw [e, nc] at hD; cases hD
      refine ⟨_, bt _ _ Dc (s2 _ _ hD), ?_, fun b o e => ?_, ?_⟩
      · rw [List.length_map, List.length_replicate, sizeLine_eq]; omega
      · rw [upd_ne (ne_of_none e nD)]
        have e1 := sm _ _ e
        have bc : b ≠ c := fun z => by rw [z, nc] at e1; cases e1
        exact bt _ _ bc (s2 _ _ e1)
      · rw [upd_same, List.replicate_succ', List.map_append]
        rfl
    · rintro H' ⟨sm, hD⟩
      refine ⟨D, _, rfl, .inl (.inl hD), to (q _) (congrArg V.bl ?_)⟩
      rw [List.all_replicate]
      cases j.toNat <;> rfl
end
theorem all_mk {l : PySem.W.OpenLaw} {w : World} {K : PySem.W.Frag} {h : Heap} {mg : Str → Option Value} {fa : Addr} (X : K.In h) (G : h.Ns mainGlobals mg) (hfa : mg "law" = some (.ref fa))
    {fX1 : Addr} {odX1 anX1 : Option Addr} {slX1 : Array (Option Value)} {ocX1 kVX1 dcX1 pmX1 cdX1 ctX1 : Value} {fX2 : Addr} {odX2 anX2 : Option Addr} {slX2 : Array (Option Value)} {ocX2 kVX2 dcX2 pmX2 cdX2 ctX2 : Value} {fX3 : Addr} {odX3 anX3 : Option Addr} {slX3 : Array (Option Value)} {ocX3 kVX3 dcX3 pmX3 cdX3 ctX3 : Value} {fX0 : Addr} {odX0 anX0 : Option Addr} {slX0 : Array (Option Value)} {ocX0 kVX0 dcX0 pmX0 cdX0 ctX0 : Value} {fY0 : Addr} {odY0 anY0 : Option Addr} {slY0 : Array (Option Value)} {ocY0 kVY0 dcY0 pmY0 cdY0 ctY0 : Value} {fX4 : Addr} {odX4 anX4 : Option Addr} {slX4 : Array (Option Value)} {ocX4 kVX4 dcX4 pmX4 cdX4 ctX4 : Value} {fX5 : Addr} {odX5 anX5 : Option Addr} {slX5 : Array (Option Value)} {ocX5 kVX5 dcX5 pmX5 cdX5 ctX5 : Value} {fX6 : Addr} {odX6 anX6 : Option Addr} {slX6 : Array (Option Value)} {ocX6 kVX6 dcX6 pmX6 cdX6 ctX6 : Value} {fX7 : Addr} {odX7 anX7 : Option Addr} {slX7 : Array (Option Value)} {ocX7 kVX7 dcX7 pmX7 cdX7 ctX7 : Value} {fX8 : Addr} {odX8 anX8 : Option Addr} {slX8 : Array (Option Value)} {ocX8 kVX8 dcX8 pmX8 cdX8 ctX8 : Value} {fX9 : Addr} {odX9 anX9 : Option Addr} {slX9 : Array (Option Value)} {ocX9 kVX9 dcX9 pmX9 cdX9 ctX9 : Value} {fY1 : Addr} {odY1 anY1 : Option Addr} {slY1 : Array (Option Value)} {ocY1 kVY1 dcY1 pmY1 cdY1 ctY1 : Value} {fY2 : Addr} {odY2 anY2 : Option Addr} {slY2 : Array (Option Value)} {ocY2 kVY2 dcY2 pmY2 cdY2 ctY2 : Value} {fY3 : Addr} {odY3 anY3 : Option Addr} {slY3 : Array (Option Value)} {ocY3 kVY3 dcY3 pmY3 cdY3 ctY3 : Value} {fA : Addr} {odA anA : Option Addr} {slA : Array (Option Value)} {ocA kVA dcA pmA cdA ctA : Value} {fB : Addr} {odB anB : Option Addr} {slB : Array (Option Value)} {ocB kVB dcB pmB cdB ctB : Value} {fC : Addr} {odC anC : Option Addr} {slC : Array (Option Value)} {ocC kVC dcC pmC cdC ctC : Value} {fD : Addr} {odD anD : Option Addr} {slD : Array (Option Value)} {ocD kVD dcD pmD cdD ctD : Value} {fE : Addr} {odE anE : Option Addr} {slE : Array (Option Value)} {ocE kVE dcE pmE cdE ctE : Value} {fF : Addr} {odF anF : Option Addr} {slF : Array (Option Value)} {ocF kVF dcF pmF cdF ctF : Value} {fI : Addr} {odI anI : Option Addr} {slI : Array (Option Value)} {ocI kVI dcI pmI cdI ctI : Value} {fJ : Addr} {odJ anJ : Option Addr} {slJ : Array (Option Value)} {ocJ kVJ dcJ pmJ cdJ ctJ : Value} {fL : Addr} {odL anL : Option Addr} {slL : Array (Option Value)} {ocL kVL dcL pmL cdL ctL : Value} {fM : Addr} {odM anM : Option Addr} {slM : Array (Option Value)} {ocM kVM dcM pmM cdM ctM : Value} {fN : Addr} {odN anN : Option Addr} {slN : Array (Option Value)} {ocN kVN dcN pmN cdN ctN : Value} {fO : Addr} {odO anO : Option Addr} {slO : Array (Option Value)} {ocO kVO dcO pmO cdO ctO : Value} {fR : Addr} {odR anR : Option Addr} {slR : Array (Option Value)} {ocR kVR dcR pmR cdR ctR : Value} {fS : Addr} {odS anS : Option Addr} {slS : Array (Option Value)} {ocS kVS dcS pmS cdS ctS : Value} {t1 t2 : Tok} {aW : Addr} {dW : Option Addr} {its : Array Value} {nW : Nat} {slW : Array (Option Value)}
    (aX1 : PySem.W.nsIn K mainGlobals "is_integer" = some (some (.ref fX1))) (lX1 : K.lookup fX1 = some ⟨ocX1, odX1, .func (PySem.W.fnOf "is_integer" "is_integer" (defArgs sInt) (defBody sInt) (defScope sInt) .none kVX1 dcX1 pmX1 anX1 cdX1 ctX1), slX1⟩) (cX1 : PySem.W.codeIn K cdX1 "is_integer" = true) (kX1 : PySem.W.keepIn K (.ref fX1) = true)
    (aX2 : PySem.W.nsIn K mainGlobals "is_within" = some (some (.ref fX2))) (lX2 : K.lookup fX2 = some ⟨ocX2, odX2, .func (PySem.W.fnOf "is_within" "is_within" (defArgs sWithin) (defBody sWithin) (defScope sWithin) .none kVX2 dcX2 pmX2 anX2 cdX2 ctX2), slX2⟩) (cX2 : PySem.W.codeIn K cdX2 "is_within" = true) (kX2 : PySem.W.keepIn K (.ref fX2) = true)
    (aX3 : PySem.W.nsIn K mainGlobals "check_other_than_nought" = some (some (.ref fX3))) (lX3 : K.lookup fX3 = some ⟨ocX3, odX3, .func (PySem.W.fnOf "check_other_than_nought" "check_other_than_nought" (defArgs sOther) (defBody sOther) (defScope sOther) .none kVX3 dcX3 pmX3 anX3 cdX3 ctX3), slX3⟩) (cX3 : PySem.W.codeIn K cdX3 "check_other_than_nought" = true) (kX3 : PySem.W.keepIn K (.ref fX3) = true)
    (aX0 : PySem.W.nsIn K mainGlobals "is_other_than_nought" = some (some (.ref fX0))) (lX0 : K.lookup fX0 = some ⟨ocX0, odX0, .func (PySem.W.fnOf "is_other_than_nought" "is_other_than_nought" (defArgs sIsOther) (defBody sIsOther) (defScope sIsOther) .none kVX0 dcX0 pmX0 anX0 cdX0 ctX0), slX0⟩) (cX0 : PySem.W.codeIn K cdX0 "is_other_than_nought" = true) (kX0 : PySem.W.keepIn K (.ref fX0) = true)
    (aY0 : PySem.W.nsIn K mainGlobals "is_place" = some (some (.ref fY0))) (lY0 : K.lookup fY0 = some ⟨ocY0, odY0, .func (PySem.W.fnOf "is_place" "is_place" (defArgs sIsPlace) (defBody sIsPlace) (defScope sIsPlace) .none kVY0 dcY0 pmY0 anY0 cdY0 ctY0), slY0⟩) (cY0 : PySem.W.codeIn K cdY0 "is_place" = true) (kY0 : PySem.W.keepIn K (.ref fY0) = true)
    (aX4 : PySem.W.nsIn K mainGlobals "power_rest" = some (some (.ref fX4))) (lX4 : K.lookup fX4 = some ⟨ocX4, odX4, .func (PySem.W.fnOf "power_rest" "power_rest" (defArgs sPow) (defBody sPow) (defScope sPow) .none kVX4 dcX4 pmX4 anX4 cdX4 ctX4), slX4⟩) (cX4 : PySem.W.codeIn K cdX4 "power_rest" = true) (kX4 : PySem.W.keepIn K (.ref fX4) = true)
    (aX5 : PySem.W.nsIn K mainGlobals "split_power" = some (some (.ref fX5))) (lX5 : K.lookup fX5 = some ⟨ocX5, odX5, .func (PySem.W.fnOf "split_power" "split_power" (defArgs sSplit) (defBody sSplit) (defScope sSplit) .none kVX5 dcX5 pmX5 anX5 cdX5 ctX5), slX5⟩) (cX5 : PySem.W.codeIn K cdX5 "split_power" = true) (kX5 : PySem.W.keepIn K (.ref fX5) = true)
    (aX6 : PySem.W.nsIn K mainGlobals "is_passed" = some (some (.ref fX6))) (lX6 : K.lookup fX6 = some ⟨ocX6, odX6, .func (PySem.W.fnOf "is_passed" "is_passed" (defArgs sPassed) (defBody sPassed) (defScope sPassed) .none kVX6 dcX6 pmX6 anX6 cdX6 ctX6), slX6⟩) (cX6 : PySem.W.codeIn K cdX6 "is_passed" = true) (kX6 : PySem.W.keepIn K (.ref fX6) = true)
    (aX7 : PySem.W.nsIn K mainGlobals "is_prime" = some (some (.ref fX7))) (lX7 : K.lookup fX7 = some ⟨ocX7, odX7, .func (PySem.W.fnOf "is_prime" "is_prime" (defArgs sPrime) (defBody sPrime) (defScope sPrime) .none kVX7 dcX7 pmX7 anX7 cdX7 ctX7), slX7⟩) (cX7 : PySem.W.codeIn K cdX7 "is_prime" = true) (kX7 : PySem.W.keepIn K (.ref fX7) = true)
    (aX8 : PySem.W.nsIn K mainGlobals "is_square_rest" = some (some (.ref fX8))) (lX8 : K.lookup fX8 = some ⟨ocX8, odX8, .func (PySem.W.fnOf "is_square_rest" "is_square_rest" (defArgs sSqRest) (defBody sSqRest) (defScope sSqRest) .none kVX8 dcX8 pmX8 anX8 cdX8 ctX8), slX8⟩) (cX8 : PySem.W.codeIn K cdX8 "is_square_rest" = true) (kX8 : PySem.W.keepIn K (.ref fX8) = true)
    (aX9 : PySem.W.nsIn K mainGlobals "require_place" = some (some (.ref fX9))) (lX9 : K.lookup fX9 = some ⟨ocX9, odX9, .func (PySem.W.fnOf "require_place" "require_place" (defArgs sPlace) (defBody sPlace) (defScope sPlace) .none kVX9 dcX9 pmX9 anX9 cdX9 ctX9), slX9⟩) (cX9 : PySem.W.codeIn K cdX9 "require_place" = true) (kX9 : PySem.W.keepIn K (.ref fX9) = true)
    (aY1 : PySem.W.nsIn K mainGlobals "sign" = some (some (.ref fY1))) (lY1 : K.lookup fY1 = some ⟨ocY1, odY1, .func (PySem.W.fnOf "sign" "sign" (defArgs sSign) (defBody sSign) (defScope sSign) .none kVY1 dcY1 pmY1 anY1 cdY1 ctY1), slY1⟩) (cY1 : PySem.W.codeIn K cdY1 "sign" = true) (kY1 : PySem.W.keepIn K (.ref fY1) = true)
    (aY2 : PySem.W.nsIn K mainGlobals "sign_at" = some (some (.ref fY2))) (lY2 : K.lookup fY2 = some ⟨ocY2, odY2, .func (PySem.W.fnOf "sign_at" "sign_at" (defArgs sSignAt) (defBody sSignAt) (defScope sSignAt) .none kVY2 dcY2 pmY2 anY2 cdY2 ctY2), slY2⟩) (cY2 : PySem.W.codeIn K cdY2 "sign_at" = true) (kY2 : PySem.W.keepIn K (.ref fY2) = true)
    (aY3 : PySem.W.nsIn K mainGlobals "odd_for" = some (some (.ref fY3))) (lY3 : K.lookup fY3 = some ⟨ocY3, odY3, .func (PySem.W.fnOf "odd_for" "odd_for" (defArgs sOddFor) (defBody sOddFor) (defScope sOddFor) .none kVY3 dcY3 pmY3 anY3 cdY3 ctY3), slY3⟩) (cY3 : PySem.W.codeIn K cdY3 "odd_for" = true) (kY3 : PySem.W.keepIn K (.ref fY3) = true)
    (aA : PySem.W.nsIn K mainGlobals "_law_chest" = some (some (.ref fA))) (lA : K.lookup fA = some ⟨ocA, odA, .func (PySem.W.fnOf "_law_chest" "_law_chest" (defArgs sChest) (defBody sChest) (defScope sChest) .none kVA dcA pmA anA cdA ctA), slA⟩) (cA : PySem.W.codeIn K cdA "_law_chest" = true) (kA : PySem.W.keepIn K (.ref fA) = true)
    (aB : PySem.W.nsIn K mainGlobals "_law_fetch" = some (some (.ref fB))) (lB : K.lookup fB = some ⟨ocB, odB, .func (PySem.W.fnOf "_law_fetch" "_law_fetch" (defArgs sFetch) (defBody sFetch) (defScope sFetch) .none kVB dcB pmB anB cdB ctB), slB⟩) (cB : PySem.W.codeIn K cdB "_law_fetch" = true) (kB : PySem.W.keepIn K (.ref fB) = true)
    (aC : PySem.W.nsIn K mainGlobals "_law_choose" = some (some (.ref fC))) (lC : K.lookup fC = some ⟨ocC, odC, .func (PySem.W.fnOf "_law_choose" "_law_choose" (defArgs sChoose) (defBody sChoose) (defScope sChoose) .none kVC dcC pmC anC cdC ctC), slC⟩) (cC : PySem.W.codeIn K cdC "_law_choose" = true) (kC : PySem.W.keepIn K (.ref fC) = true)
    (aD : PySem.W.nsIn K mainGlobals "_law_split" = some (some (.ref fD))) (lD : K.lookup fD = some ⟨ocD, odD, .func (PySem.W.fnOf "_law_split" "_law_split" (defArgs sSpl) (defBody sSpl) (defScope sSpl) .none kVD dcD pmD anD cdD ctD), slD⟩) (cD : PySem.W.codeIn K cdD "_law_split" = true) (kD : PySem.W.keepIn K (.ref fD) = true)
    (aE : PySem.W.nsIn K mainGlobals "_law_rest_sign" = some (some (.ref fE))) (lE : K.lookup fE = some ⟨ocE, odE, .func (PySem.W.fnOf "_law_rest_sign" "_law_rest_sign" (defArgs sRs) (defBody sRs) (defScope sRs) .none kVE dcE pmE anE cdE ctE), slE⟩) (cE : PySem.W.codeIn K cdE "_law_rest_sign" = true) (kE : PySem.W.keepIn K (.ref fE) = true)
    (aF : PySem.W.nsIn K mainGlobals "_law_symbol" = some (some (.ref fF))) (lF : K.lookup fF = some ⟨ocF, odF, .func (PySem.W.fnOf "_law_symbol" "_law_symbol" (defArgs sSym) (defBody sSym) (defScope sSym) .none kVF dcF pmF anF cdF ctF), slF⟩) (cF : PySem.W.codeIn K cdF "_law_symbol" = true) (kF : PySem.W.keepIn K (.ref fF) = true)
    (aI : PySem.W.nsIn K mainGlobals "_law_weights" = some (some (.ref fI))) (lI : K.lookup fI = some ⟨ocI, odI, .func (PySem.W.fnOf "_law_weights" "_law_weights" (defArgs sWts) (defBody sWts) (defScope sWts) .none kVI dcI pmI anI cdI ctI), slI⟩) (cI : PySem.W.codeIn K cdI "_law_weights" = true) (kI : PySem.W.keepIn K (.ref fI) = true)
    (aJ : PySem.W.nsIn K mainGlobals "_law_product" = some (some (.ref fJ))) (lJ : K.lookup fJ = some ⟨ocJ, odJ, .func (PySem.W.fnOf "_law_product" "_law_product" (defArgs sProd) (defBody sProd) (defScope sProd) .none kVJ dcJ pmJ anJ cdJ ctJ), slJ⟩) (cJ : PySem.W.codeIn K cdJ "_law_product" = true) (kJ : PySem.W.keepIn K (.ref fJ) = true)
    (aL : PySem.W.nsIn K mainGlobals "_law_form_symbol" = some (some (.ref fL))) (lL : K.lookup fL = some ⟨ocL, odL, .func (PySem.W.fnOf "_law_form_symbol" "_law_form_symbol" (defArgs sForm) (defBody sForm) (defScope sForm) .none kVL dcL pmL anL cdL ctL), slL⟩) (cL : PySem.W.codeIn K cdL "_law_form_symbol" = true) (kL : PySem.W.keepIn K (.ref fL) = true)
    (aM : PySem.W.nsIn K mainGlobals "_law_values" = some (some (.ref fM))) (lM : K.lookup fM = some ⟨ocM, odM, .func (PySem.W.fnOf "_law_values" "_law_values" (defArgs sVal) (defBody sVal) (defScope sVal) .none kVM dcM pmM anM cdM ctM), slM⟩) (cM : PySem.W.codeIn K cdM "_law_values" = true) (kM : PySem.W.keepIn K (.ref fM) = true)
    (aN : PySem.W.nsIn K mainGlobals "_law_zero_by_rests" = some (some (.ref fN))) (lN : K.lookup fN = some ⟨ocN, odN, .func (PySem.W.fnOf "_law_zero_by_rests" "_law_zero_by_rests" (defArgs sZr) (defBody sZr) (defScope sZr) .none kVN dcN pmN anN cdN ctN), slN⟩) (cN : PySem.W.codeIn K cdN "_law_zero_by_rests" = true) (kN : PySem.W.keepIn K (.ref fN) = true)
    (aO : PySem.W.nsIn K mainGlobals "_law_zero" = some (some (.ref fO))) (lO : K.lookup fO = some ⟨ocO, odO, .func (PySem.W.fnOf "_law_zero" "_law_zero" (defArgs sZero) (defBody sZero) (defScope sZero) .none kVO dcO pmO anO cdO ctO), slO⟩) (cO : PySem.W.codeIn K cdO "_law_zero" = true) (kO : PySem.W.keepIn K (.ref fO) = true)
    (aR : PySem.W.nsIn K mainGlobals "_law_right" = some (some (.ref fR))) (lR : K.lookup fR = some ⟨ocR, odR, .func (PySem.W.fnOf "_law_right" "_law_right" (defArgs sRight) (defBody sRight) (defScope sRight) .none kVR dcR pmR anR cdR ctR), slR⟩) (cR : PySem.W.codeIn K cdR "_law_right" = true) (kR : PySem.W.keepIn K (.ref fR) = true)
    (aS : PySem.W.nsIn K mainGlobals "law" = some (some (.ref fS))) (lS : K.lookup fS = some ⟨ocS, odS, .func (PySem.W.fnOf "law" "law" (defArgs sLaw) (defBody sLaw) (defScope sLaw) .none kVS dcS pmS anS cdS ctS), slS⟩) (cS : PySem.W.codeIn K cdS "law" = true) (kS : PySem.W.keepIn K (.ref fS) = true)
    (z_isinstance : PySem.W.nsIn K mainGlobals "isinstance" = some none)
    (z_int : PySem.W.nsIn K mainGlobals "int" = some none)
    (z_bool : PySem.W.nsIn K mainGlobals "bool" = some none)
    (z_range : PySem.W.nsIn K mainGlobals "range" = some none)
    (z_len : PySem.W.nsIn K mainGlobals "len" = some none)
    (z_divmod : PySem.W.nsIn K mainGlobals "divmod" = some none)
    (z_abs : PySem.W.nsIn K mainGlobals "abs" = some none)
    (z_max : PySem.W.nsIn K mainGlobals "max" = some none)
    (z_min : PySem.W.nsIn K mainGlobals "min" = some none)
    (z_all : PySem.W.nsIn K mainGlobals "all" = some none)
    (z_repr : PySem.W.nsIn K mainGlobals "repr" = some none)
    (z_list : PySem.W.nsIn K mainGlobals "list" = some none)
    (gS : PySem.W.nsIn K mainGlobals "MOST_SIZE" = some (some (.int (10 ^ 12) t1))) (gO : PySem.W.nsIn K mainGlobals "MOST_OPERAND" = some (some (.int (10 ^ 9) t2))) (gW : PySem.W.nsIn K mainGlobals "WITNESSES" = some (some (.ref aW))) (lW : K.lookup aW = some ⟨.type "tuple", dW, .seq its nW, slW⟩) (vW : Vals (W5.map V.int) its.toList) (zW : its.size ≤ sizeLine) :
    ∃ fd : FuncData, (∀ (s : Shared) (v : Value), BindsTo s fd ⟨[v], []⟩ [("_law_script", v)]) ∧ ∀ base : Heap, K.In base → base.Ns mainGlobals mg → Gu.GOk l.prog w K mg base CX0 8 fa fd ["_law_script"] (spLaw K) := by
  have e := hfa.symm.trans (PySem.W.mg_of X G aS)
  cases e
  have FX1 := fun_mk (st := sInt) lX1 cX1 kX1
  have mX1 := PySem.W.mg_of X G aX1
  have bX1 := FX1.binds (ps := ["value"]) fun _ _ _ _ _ _ us hl => match us, hl with | [_], _ => rfl
  have FX2 := fun_mk (st := sWithin) lX2 cX2 kX2
  have mX2 := PySem.W.mg_of X G aX2
  have bX2 := FX2.binds (ps := ["value", "least", "most"]) fun _ _ _ _ _ _ us hl => match us, hl with | [_, _, _], _ => rfl
  have FX3 := fun_mk (st := sOther) lX3 cX3 kX3
  have mX3 := PySem.W.mg_of X G aX3
  have bX3 := FX3.binds (ps := ["number", "size"]) fun _ _ _ _ _ _ us hl => match us, hl with | [_, _], _ => rfl
  have FX0 := fun_mk (st := sIsOther) lX0 cX0 kX0
  have mX0 := PySem.W.mg_of X G aX0
  have bX0 := FX0.binds (ps := ["value", "size"]) fun _ _ _ _ _ _ us hl => match us, hl with | [_, _], _ => rfl
  have FY0 := fun_mk (st := sIsPlace) lY0 cY0 kY0
  have mY0 := PySem.W.mg_of X G aY0
  have bY0 := FY0.binds (ps := ["value"]) fun _ _ _ _ _ _ us hl => match us, hl with | [_], _ => rfl
  have FX4 := fun_mk (st := sPow) lX4 cX4 kX4
  have mX4 := PySem.W.mg_of X G aX4
  have bX4 := FX4.binds (ps := ["base", "exponent", "modulus"]) fun _ _ _ _ _ _ us hl => match us, hl with | [_, _, _], _ => rfl
  have FX5 := fun_mk (st := sSplit) lX5 cX5 kX5
  have mX5 := PySem.W.mg_of X G aX5
  have bX5 := FX5.binds (ps := ["number", "prime"]) fun _ _ _ _ _ _ us hl => match us, hl with | [_, _], _ => rfl
  have FX6 := fun_mk (st := sPassed) lX6 cX6 kX6
  have mX6 := PySem.W.mg_of X G aX6
  have bX6 := FX6.binds (ps := ["number", "witness"]) fun _ _ _ _ _ _ us hl => match us, hl with | [_, _], _ => rfl
  have FX7 := fun_mk (st := sPrime) lX7 cX7 kX7
  have mX7 := PySem.W.mg_of X G aX7
  have bX7 := FX7.binds (ps := ["number"]) fun _ _ _ _ _ _ us hl => match us, hl with | [_], _ => rfl
  have FX8 := fun_mk (st := sSqRest) lX8 cX8 kX8
  have mX8 := PySem.W.mg_of X G aX8
  have bX8 := FX8.binds (ps := ["number", "prime"]) fun _ _ _ _ _ _ us hl => match us, hl with | [_, _], _ => rfl
  have FX9 := fun_mk (st := sPlace) lX9 cX9 kX9
  have mX9 := PySem.W.mg_of X G aX9
  have bX9 := FX9.binds (ps := ["place"]) fun _ _ _ _ _ _ us hl => match us, hl with | [_], _ => rfl
  have FY1 := fun_mk (st := sSign) lY1 cY1 kY1
  have mY1 := PySem.W.mg_of X G aY1
  have bY1 := FY1.binds (ps := ["number", "other", "place"]) fun _ _ _ _ _ _ us hl => match us, hl with | [_, _, _], _ => rfl
  have FY2 := fun_mk (st := sSignAt) lY2 cY2 kY2
  have mY2 := PySem.W.mg_of X G aY2
  have bY2 := FY2.binds (ps := ["number", "other", "place"]) fun _ _ _ _ _ _ us hl => match us, hl with | [_, _, _], _ => rfl
  have FY3 := fun_mk (st := sOddFor) lY3 cY3 kY3
  have mY3 := PySem.W.mg_of X G aY3
  have bY3 := FY3.binds (ps := ["number", "prime"]) fun _ _ _ _ _ _ us hl => match us, hl with | [_, _], _ => rfl
  have FA := fun_mk (st := sChest) lA cA kA
  have mA := PySem.W.mg_of X G aA
  have bA := FA.binds (ps := ["_law_script", "_law_at"]) fun _ _ _ _ _ _ us hl => match us, hl with | [_, _], _ => rfl
  have FB := fun_mk (st := sFetch) lB cB kB
  have mB := PySem.W.mg_of X G aB
  have bB := FB.binds (ps := ["_law_chest_here", "_law_most"]) fun _ _ _ _ _ _ us hl => match us, hl with | [_, _], _ => rfl
  have FC := fun_mk (st := sChoose) lC cC kC
  have mC := PySem.W.mg_of X G aC
  have bC := FC.binds (ps := ["_law_chest_here", "_law_menu"]) fun _ _ _ _ _ _ us hl => match us, hl with | [_, _], _ => rfl
  have FD := fun_mk (st := sSpl) lD cD kD
  have mD := PySem.W.mg_of X G aD
  have bD := FD.binds (ps := ["_law_n", "_law_p"]) fun _ _ _ _ _ _ us hl => match us, hl with | [_, _], _ => rfl
  have FE := fun_mk (st := sRs) lE cE kE
  have mE := PySem.W.mg_of X G aE
  have bE := FE.binds (ps := ["_law_u", "_law_p"]) fun _ _ _ _ _ _ us hl => match us, hl with | [_, _], _ => rfl
  have FF := fun_mk (st := sSym) lF cF kF
  have mF := PySem.W.mg_of X G aF
  have bF := FF.binds (ps := ["_law_a", "_law_b", "_law_p"]) fun _ _ _ _ _ _ us hl => match us, hl with | [_, _, _], _ => rfl
  have FI := fun_mk (st := sWts) lI cI kI
  have mI := PySem.W.mg_of X G aI
  have bI := FI.binds (ps := ["_law_chest_here", "_law_n"]) fun _ _ _ _ _ _ us hl => match us, hl with | [_, _], _ => rfl
  have FJ := fun_mk (st := sProd) lJ cJ kJ
  have mJ := PySem.W.mg_of X G aJ
  have bJ := FJ.binds (ps := ["_law_parts"]) fun _ _ _ _ _ _ us hl => match us, hl with | [_], _ => rfl
  have FL := fun_mk (st := sForm) lL cL kL
  have mL := PySem.W.mg_of X G aL
  have bL := FL.binds (ps := ["_law_parts", "_law_p"]) fun _ _ _ _ _ _ us hl => match us, hl with | [_, _], _ => rfl
  have FM := fun_mk (st := sVal) lM cM kM
  have mM := PySem.W.mg_of X G aM
  have bM := FM.binds (ps := ["_law_some", "_law_p", "_law_size"]) fun _ _ _ _ _ _ us hl => match us, hl with | [_, _, _], _ => rfl
  have FN := fun_mk (st := sZr) lN cN kN
  have mN := PySem.W.mg_of X G aN
  have bN := FN.binds (ps := ["_law_parts", "_law_p"]) fun _ _ _ _ _ _ us hl => match us, hl with | [_, _], _ => rfl
  have FO := fun_mk (st := sZero) lO cO kO
  have mO := PySem.W.mg_of X G aO
  have bO := FO.binds (ps := ["_law_parts", "_law_p"]) fun _ _ _ _ _ _ us hl => match us, hl with | [_, _], _ => rfl
  have FR := fun_mk (st := sRight) lR cR kR
  have mR := PySem.W.mg_of X G aR
  have bR := FR.binds (ps := ["_law_chest_here"]) fun _ _ _ _ _ _ us hl => match us, hl with | [_], _ => rfl
  have FS := fun_mk (st := sLaw) lS cS kS
  have mS := PySem.W.mg_of X G aS
  have bS := FS.binds (ps := ["_law_script"]) fun _ _ _ _ _ _ us hl => match us, hl with | [_], _ => rfl
  have n_isinstance := PySem.W.mg_none_of X G z_isinstance
  have n_int := PySem.W.mg_none_of X G z_int
  have n_bool := PySem.W.mg_none_of X G z_bool
  have n_range := PySem.W.mg_none_of X G z_range
  have n_len := PySem.W.mg_none_of X G z_len
  have n_divmod := PySem.W.mg_none_of X G z_divmod
  have n_abs := PySem.W.mg_none_of X G z_abs
  have n_max := PySem.W.mg_none_of X G z_max
  have n_min := PySem.W.mg_none_of X G z_min
  have n_all := PySem.W.mg_none_of X G z_all
  have n_repr := PySem.W.mg_none_of X G z_repr
  have n_list := PySem.W.mg_none_of X G z_list
  have mS' := PySem.W.mg_of X G gS
  have mO' := PySem.W.mg_of X G gO
  have mW := PySem.W.mg_of X G gW
  have hW : ∀ H, SqT K H aW (W5.map V.int) := fun H => .inr ⟨_, its, nW, lW, rfl, rfl, zW, vW⟩
  refine ⟨PySem.W.fnOf "law" "law" (defArgs sLaw) (defBody sLaw) (defScope sLaw) .none kVS dcS pmS anS cdS ctS, fun s v => .of_eq rfl, fun base _ _ => ?_⟩
  have G1 : FnOk l.prog w K mg base CX0 _ _ _ _ _ := ok_int FX1 n_isinstance n_int n_bool
  have G2 : FnOk l.prog w K mg base CX0 _ _ _ _ _ := ok_within FX2 G1 mX1 kX1 bX1
  have G0 : FnOk l.prog w K mg base CX0 _ _ _ _ _ := ok_isOther FX0 G2 mX2 kX2 bX2
  have G3 : FnOk l.prog w K mg base CX0 _ _ _ _ _ := ok_other FX3 G0 mX0 kX0 bX0
  have G4 : FnOk l.prog w K mg base CX0 _ _ _ _ _ := ok_pow FX4
  have G5 : FnOk l.prog w K mg base CX0 _ _ _ _ _ := ok_split FX5
  have G6 : FnOk l.prog w K mg base CX0 _ _ _ _ _ := ok_passed FX6 G5 mX5 kX5 bX5 G4 mX4 kX4 bX4 n_range
  have G7 : FnOk l.prog w K mg base CX0 _ _ _ _ _ := ok_prime FX7 G6 mX6 kX6 bX6 mW hW n_all
  have G8 : FnOk l.prog w K mg base CX0 _ _ _ _ _ := ok_sqrest FX8 G4 mX4 kX4 bX4
  have H0 : FnOk l.prog w K mg base CX0 _ _ _ _ _ := ok_isPlace FY0 G2 mX2 kX2 bX2 G7 mX7 kX7 bX7 mS'
  have G9 : FnOk l.prog w K mg base CX0 _ _ _ _ _ := ok_place FX9 H0 mY0 kY0 bY0
  have H3 : FnOk l.prog w K mg base CX0 _ _ _ _ _ := ok_oddfor FY3 G8 mX8 kX8 bX8
  have H2 : FnOk l.prog w K mg base CX0 _ _ _ _ _ := ok_signat FY2 G5 mX5 kX5 bX5 H3 mY3 kY3 bY3
  have H1 : FnOk l.prog w K mg base CX0 _ _ _ _ _ := sign2 (ok_sign FY1 G3 mX3 kX3 bX3 G9 mX9 kX9 bX9 H2 mY2 kY2 bY2 mO')
  have GA : FnOk l.prog w K mg base CX0 _ _ _ _ _ := ok_chest FA n_int n_len n_abs
  have GB : FnOk l.prog w K mg base CX0 _ _ _ _ _ := ok_fetch FB n_int n_divmod
  have GC : FnOk l.prog w K mg base CX0 _ _ _ _ _ := ok_choose FC GB mB kB bB n_len
  have GD : FnOk l.prog w K mg base CX0 _ _ _ _ _ := ok_spl FD n_int n_range
  have GE : FnOk l.prog w K mg base CX0 _ _ _ _ _ := ok_rs FE n_int n_range
  have GF : FnOk l.prog w K mg base CX0 _ _ _ _ _ := ok_sym FF GD mD kD bD GE mE kE bE n_int
  have GI : FnOk l.prog w K mg base CX0 _ _ _ _ _ := ok_wts FI GC mC kC bC n_range
  have GJ : FnOk l.prog w K mg base CX0 _ _ _ _ _ := ok_prod FJ
  have GL : FnOk l.prog w K mg base CX0 _ _ _ _ _ := ok_form FL GF mF kF bF n_range n_len
  have GM2 : FnOk l.prog w K mg base CX0 _ _ _ _ _ := ok_val2 FM n_int n_range n_len n_list
  have GM1 : FnOk l.prog w K mg base CX0 _ _ _ _ _ := ok_val1 FM n_int n_range n_len n_list
  have GN : FnOk l.prog w K mg base CX0 _ _ _ _ _ := ok_zr FN GM2 GM1 mM kM bM n_int n_len
  have GO : FnOk l.prog w K mg base CX0 _ _ _ _ _ := ok_zero FO GN mN kN bN GJ mJ kJ bJ GL mL kL bL GF mF kF bF n_min n_max n_len
  exact ok_law FS GA mA kA bA (ok_right FR ⟨GI, mI, kI, bI, GB, mB, kB, bB, GO, mO, kO, bO, H1, mY1, kY1, bY1, sign_kw FY1, n_range, n_repr⟩) mR kR bR n_all n_range n_max n_min n_len
end K26
open PySem PySem.W PyProof.Rows
set_option maxHeartbeats 0 in
theorem PySem.Challenge.cw_formworld_k26_whole_signs_by_rests_holds : PySem.Challenge.rw_formworld_k26_whole_signs_by_rests.Holds := by
  w_on; o_law; k_head; (case hw => w_witness2)
  k_fill
  refine Gu.walk_ofG (law := PySem.Challenge.rw_formworld_k26_whole_signs_by_rests) (n := 63) (k := 8) (x := "_law_script") (sp := fun w => K26.spLaw _) rfl (by decide) rfl ⟨rfl, by decide, by decide⟩ (fun w h Y => PySem.W.kIn_of Y) ?F (fun _ _ a ns hl _ hS => ⟨a, ns, rfl, hS, hl, fun _ => rfl⟩)
  case F =>
    intro w mg fa h KX G hmg
    refine' K26.all_mk KX G hmg ?aX1 ?lX1 ?cX1 ?kX1 ?aX2 ?lX2 ?cX2 ?kX2 ?aX3 ?lX3 ?cX3 ?kX3 ?aX0 ?lX0 ?cX0 ?kX0 ?aY0 ?lY0 ?cY0 ?kY0 ?aX4 ?lX4 ?cX4 ?kX4 ?aX5 ?lX5 ?cX5 ?kX5 ?aX6 ?lX6 ?cX6 ?kX6 ?aX7 ?lX7 ?cX7 ?kX7 ?aX8 ?lX8 ?cX8 ?kX8 ?aX9 ?lX9 ?cX9 ?kX9 ?aY1 ?lY1 ?cY1 ?kY1 ?aY2 ?lY2 ?cY2 ?kY2 ?aY3 ?lY3 ?cY3 ?kY3 ?aA ?lA ?cA ?kA ?aB ?lB ?cB ?kB ?aC ?lC ?cC ?kC ?aD ?lD ?cD ?kD ?aE ?lE ?cE ?kE ?aF ?lF ?cF ?kF ?aI ?lI ?cI ?kI ?aJ ?lJ ?cJ ?kJ ?aL ?lL ?cL ?kL ?aM ?lM ?cM ?kM ?aN ?lN ?cN ?kN ?aO ?lO ?cO ?kO ?aR ?lR ?cR ?kR ?aS ?lS ?cS ?kS ?z_isinstance ?z_int ?z_bool ?z_range ?z_len ?z_divmod ?z_abs ?z_max ?z_min ?z_all ?z_repr ?z_list ?gS ?gO ?gW ?lW ?vW ?zW
    (case aX1 => k_is); (case lX1 => k_is); (case cX1 => k_is); (case kX1 => k_is); (case aX2 => k_is); (case lX2 => k_is); (case cX2 => k_is); (case kX2 => k_is); (case aX3 => k_is); (case lX3 => k_is); (case cX3 => k_is); (case kX3 => k_is); (case aX0 => k_is); (case lX0 => k_is); (case cX0 => k_is); (case kX0 => k_is); (case aY0 => k_is); (case lY0 => k_is); (case cY0 => k_is); (case kY0 => k_is); (case aX4 => k_is); (case lX4 => k_is); (case cX4 => k_is); (case kX4 => k_is); (case aX5 => k_is); (case lX5 => k_is); (case cX5 => k_is); (case kX5 => k_is); (case aX6 => k_is); (case lX6 => k_is); (case cX6 => k_is); (case kX6 => k_is); (case aX7 => k_is); (case lX7 => k_is); (case cX7 => k_is); (case kX7 => k_is); (case aX8 => k_is); (case lX8 => k_is); (case cX8 => k_is); (case kX8 => k_is); (case aX9 => k_is); (case lX9 => k_is); (case cX9 => k_is); (case kX9 => k_is); (case aY1 => k_is); (case lY1 => k_is); (case cY1 => k_is); (case kY1 => k_is); (case aY2 => k_is); (case lY2 => k_is); (case cY2 => k_is); (case kY2 => k_is); (case aY3 => k_is); (case lY3 => k_is); (case cY3 => k_is); (case kY3 => k_is); (case aA => k_is); (case lA => k_is); (case cA => k_is); (case kA => k_is); (case aB => k_is); (case lB => k_is); (case cB => k_is); (case kB => k_is); (case aC => k_is); (case lC => k_is); (case cC => k_is); (case kC => k_is); (case aD => k_is); (case lD => k_is); (case cD => k_is); (case kD => k_is); (case aE => k_is); (case lE => k_is); (case cE => k_is); (case kE => k_is); (case aF => k_is); (case lF => k_is); (case cF => k_is); (case kF => k_is); (case aI => k_is); (case lI => k_is); (case cI => k_is); (case kI => k_is); (case aJ => k_is); (case lJ => k_is); (case cJ => k_is); (case kJ => k_is); (case aL => k_is); (case lL => k_is); (case cL => k_is); (case kL => k_is); (case aM => k_is); (case lM => k_is); (case cM => k_is); (case kM => k_is); (case aN => k_is); (case lN => k_is); (case cN => k_is); (case kN => k_is); (case aO => k_is); (case lO => k_is); (case cO => k_is); (case kO => k_is); (case aR => k_is); (case lR => k_is); (case cR => k_is); (case kR => k_is); (case aS => k_is); (case lS => k_is); (case cS => k_is); (case kS => k_is); (case z_isinstance => k_is); (case z_int => k_is); (case z_bool => k_is); (case z_range => k_is); (case z_len => k_is); (case z_divmod => k_is); (case z_abs => k_is); (case z_max => k_is); (case z_min => k_is); (case z_all => k_is); (case z_repr => k_is); (case z_list => k_is); (case gS => k_is); (case gO => k_is); (case gW => k_is); (case lW => k_is); (case vW => exact .cons ⟨_, rfl⟩ (.cons ⟨_, rfl⟩ (.cons ⟨_, rfl⟩ (.cons ⟨_, rfl⟩ (.cons ⟨_, rfl⟩ .nil))))); (case zW => decide)
