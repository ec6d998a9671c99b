import PyProof.Rows.All
import Wide.All
import OpenK.AllK
import Wide.FinOn
import HandS.ForMost
import HandS.Defaults
import HandS.Style
import PyProof.ReprRoads
import HandS.IsInst
import PySem.Challenge.RW_formworld_k28_whole_squares_at_places
set_option Elab.async false
set_option linter.all false
set_option maxRecDepth 100000
set_option maxHeartbeats 8000000
namespace Gu
open PySem PySem.Spec PyProof.Rows L2
section
variable {P : Program} {w : World} {K : PySem.W.Frag} {mg : Str → Option Value} {base : Heap}
/-- a def's promise where no repr is under way around the call -/
structure GOk (P : Program) (w : World) (K : PySem.W.Frag) (mg : Str → Option Value) (base : Heap) (CX : CXT) (lv : Nat) (fa : Addr) (fd : FuncData) (ps : List Str) (sp : Sp) : Prop where
  size : ∀ vs H Q E, sp vs H Q E → vs.length = ps.length
  go : ∀ (B : Around) (out : List Env) (t : Shared) (H : Hp) (ar : Args) (us : List Value) (vs : List V) (Q : VK) (E : XK), B.guards = some [] → Room lv B → Env0 P w K mg base B out t H → BindsTo t fd ar (ps.zip us) → Vals vs us → sp vs H Q E →
    codeAny (model P w) B (.call (.ref fa) ar) (CR CX out P w H t Q E) t
theorem GOk.of {CX : CXT} {lv : Nat} {fa : Addr} {fd : FuncData} {ps : List Str} {sp : Sp} (F : FnOk P w K mg base CX lv fa fd ps sp) : GOk P w K mg base CX lv fa fd ps sp :=
  ⟨F.len, fun B out t H ar us vs Q E _ a b c d e => F.run B out t H ar us vs Q E a b c d e⟩
theorem GOk.mk_of {CX : CXT} {lv : Nat} {fa : Addr} {nm ql : Str} {par : Arguments} {bod : List Stmt} {sco : Scope} {dV kV doc pm cdv ct oc : Value} {an od : Option Addr} {osl : Array (Option Value)} {N ps : List Str} {sp : Sp}
    (lk : K.lookup fa = some ⟨oc, od, .func (PySem.W.fnOf nm ql par bod sco dV kV doc pm an cdv ct), osl⟩) (hcd : PySem.W.codeIn K cdv ql = true) (S : FnScope N ps sco) (size : ∀ vs H Q E, sp vs H Q E → vs.length = ps.length)
    (hb : ∀ (B : Around) (out : List Env) (t : Shared) (H : Hp) (vs : List V) (Q : VK) (E : XK), (B.deeper (envOfC ql sco t.heap.objs.size fa cdv)).guards = some [] → Room lv (B.deeper (envOfC ql sco t.heap.objs.size fa cdv)) → sp vs H Q E →
      ∃ tm, PSs (cxOf CX P w K mg base N ql sco fa cdv B out t H E) bod tm ∧ tm { nx := fun _ H' => Q .non H', rt := Q } (start N vs) H) :
    GOk P w K mg base CX (lv + 1) fa (PySem.W.fnOf nm ql par bod sco dV kV doc pm an cdv ct) ps sp := by
  refine ⟨size, fun B out t H ar us vs Q E hgd hro e0 hbd hvs hsp => ?_⟩
  have inB : ∀ b o, base.get? b = some o → t.heap.get? b = some o := fun b o z => (e0.bs b o z).1
  have KX : K.In t.heap := e0.mod.kin.keeps inB
  have noL : t.heap.NoLimit := e0.mod.nolimit.keeps inB
  have kinds : ∀ y ∈ ps.zip us, sco.names.lookup y.1 = some .local ∨ (sco.names.lookup y.1 = some .cell ∧ ((cellsFrom (t.heap.objs.size + 1) sco.names []).lookup y.1).isSome = true) := by
    rintro ⟨n, v⟩ hy
    exact (S.par n (List.of_mem_zip hy).1).imp id fun z => ⟨z, PySem.W.cellsFrom_some _ _ _ (.inl z)⟩
  refine codeAny_call_function hro.depth (KX _ _ lk) rfl S.co S.gen rfl (PySem.W.codeRec_of KX hcd) (hbd _ _ _ _ (wpAny_newFunctionEnv_cells S.kind kinds fun en he t1 x => ?_))
  subst he
  refine ⟨noL.keeps x.toInCall.keep, codeAny_func ?_⟩
  obtain ⟨tm, hp, hq⟩ := hb B out t H vs Q E hgd (hro.deeper _) hsp
  have J0 := inv_start (CX := CX) (E := E) S hro.hd e0 (size _ _ _ _ hsp) hvs x
  refine wpAny_mono (hp.run [] t1 (start N vs) H _ J0 hq) (fun fl t2 hs => ?_) fun _ _ z => z
  cases fl with
  | ret u =>
    obtain ⟨v, _, H2, J, rv, q⟩ := hs
    exact ⟨v, H2, J.os, J.bare, J.base, J.hok, rv, q⟩
  | next =>
    obtain ⟨_, H2, J, q⟩ := hs
    exact ⟨V.non, H2, J.os, J.bare, J.base, J.hok, rfl, q⟩
  | brk => obtain ⟨_, _, _, q⟩ := hs; exact q.elim
  | cont => obtain ⟨_, _, _, q⟩ := hs; exact q.elim
/-- its body as a term, as for Fun.ok -/
theorem GOk.fun {x qual : Str} {st : Stmt} {fa : Addr} {fd : FuncData} {N ps : List Str} {lv : Nat} {sp : Sp} (F : Fun K x qual st fa fd) (S : FnScope N ps (defScope st)) (size : ∀ vs H Q E, sp vs H Q E → vs.length = ps.length)
    (hb : ∀ (cdv : Value) (B : Around) (out : List Env) (t : Shared) (H : Hp) (vs : List V) (Q : VK) (E : XK), (B.deeper (envOfC qual (defScope st) t.heap.objs.size fa cdv)).guards = some [] → Room lv (B.deeper (envOfC qual (defScope st) t.heap.objs.size fa cdv)) → sp vs H Q E →
      ∃ tm, PSs (cxOf CX0 P w K mg base N qual (defScope st) fa cdv B out t H E).nox (defBody st) tm ∧ tm { nx := fun _ H' => Q .non H', rt := Q } (start N vs) H) : GOk P w K mg base CX0 (lv + 1) fa fd ps sp := by
  obtain ⟨_, _, _, _, _, _, cdv, _, _, rfl, lk, hcd⟩ := F.ex
  refine GOk.mk_of lk hcd S size fun B out t H vs Q E hg hro hsp => ?_
  obtain ⟨tm, hp, q⟩ := hb cdv B out t H vs Q E hg hro hsp
  exact ⟨tm, hp.nox, q⟩
end
section
variable {X : Cx} {CX : CXT} {k : Nat} {f : Addr} {fd : FuncData} {ps : List Str} {sp : Sp} {dvs : List V} {ds : List Value} {E : XK} {x : Str} {p pos : Pos} {e : Expr} {es : List Expr} {t tk : TA} {kws : List Keyword} {ks : List Str} {g : List Value → List Value → List Value} {gV : List V → List V → List V}
theorem ends {pins : List (Addr × Obj)} {σ : L2.St} {H : Hp} {s : Shared} {Q : VK} (hx : Passes CX X E) (I : Inv X pins σ H s) {r : Result} {s' : Shared} (hq : CR CX X.stack X.prog X.w H s Q E r s') :
    match r with | .ok (.ret u) => EP X pins σ Q u s' | .ok _ => False | .error e => X.xe e s' := by
  cases r with
  | error z => exact hx pins σ H s z s' I hq
  | ok fl =>
    cases fl with
    | ret u => exact I.after hq
    | next => exact hq.elim
    | brk => exact hq.elim
    | cont => exact hq.elim
theorem runG {pins : List (Addr × Obj)} {σ : L2.St} {H : Hp} {s : Shared} {Q : VK} {us : List Value} {vs : List V} (F : GOk X.prog X.w X.K X.mg X.base CX k f fd ps sp) (hG : X.A.guards = some []) (hr : Room k X.A) (hb : Binds X.K fd ps ds) (hd : Vals dvs ds) (hx : Passes CX X E)
    (J : Inv X pins σ H s) (rv : Vals vs us) (hsp : sp (vs ++ dvs) H Q E) : wpAny (model X.prog X.w) X.A (call (.ref f) us) (EP X pins σ Q) X.xe s := by
  have rw2 := rv.append hd
  have hl : (us ++ ds).length = ps.length := rw2.length.symm.trans (F.size _ _ _ _ hsp)
  refine wpAny_call (codeAny_mono (F.go X.A X.stack s H ⟨us, []⟩ _ _ Q E hG hr J.env0 (hb s us J.kIn hl) rw2 hsp) fun r s' hq => ?_)
  have z := ends hx J hq
  cases r with
  | error e => exact z
  | ok fl => cases fl <;> exact z
/-- f(e, ..) of such a def -/
theorem pe_callG (F : GOk X.prog X.w X.K X.mg X.base CX k f fd ps sp) (hG : X.A.guards = some []) (hr : Room k X.A) (hg : Gl X x) (hm : X.mg x = some (.ref f)) (hk : PySem.W.keepIn X.K (.ref f) = true) (hb : Binds X.K fd ps ds) (hd : Vals dvs ds) (hx : Passes CX X E)
    (args : PA X (e :: es) t) (hdb : (x == ("__debug__" : Str)) = false := by decide) (hse : starEach (e :: es) X.env = (false, eval e X.env) :: starEach es X.env := by rfl) (hna : (backTo pos (starEach es X.env)).any (·.1) = false := by rfl) : PE X (.Call (.Name x p) (e :: es) [] pos) (tCall sp dvs E t) :=
  ⟨fun pins s σ H Q I h => wpAny_Call_Name_kw (ld_glob I hg hm (PySem.W.callWith_K (h₀ := X.base) I.ok.mod.kin hk (thn (args.run pos pins s σ H _ I h) fun us s1 ⟨vs, H1, I1, r, q⟩ => ⟨I1.kIn, runG F hG hr hb hd hx I1 r q⟩) hse hna) hdb)⟩
/-- f(k = e, ..), keywords alone -/
def tCallO (sp : Sp) (gV : List V → List V → List V) (m : Nat) (E : XK) (tk : TA) : TE := fun σ H Q => tk σ H fun zs H2 => zs.length = m ∧ sp (gV [] zs) H2 Q E
theorem pe_callO (F : FnOk X.prog X.w X.K X.mg X.base CX k f fd ps sp) (hr : Room k X.A) (hg : Gl X x) (hm : X.mg x = some (.ref f)) (hk : PySem.W.keepIn X.K (.ref f) = true) (hb : KBn X.K fd ps 0 ks g gV) (hx : Passes CX X E) (hkw : PK X kws tk)
    (hnm : (backToKw pos (keywordEach kws X.env)).all (·.1.isSome) = true := by rfl) (hks : (backToKw pos (keywordEach kws X.env)).filterMap (·.1) = ks := by rfl)
    (hdb : (x == ("__debug__" : Str)) = false := by decide) (hst : ((backTo pos (starEach [] X.env)).any (·.1) || (backToKw pos (keywordEach kws X.env)).any (·.1.isNone)) = false := by rfl) :
    PE X (.Call (.Name x p) [] kws pos) (tCallO sp gV ks.length E tk) := by
  constructor
  intro pins s σ H Q I h
  apply wpAny_Call_Name_kw
  refine ld_glob I hg hm (PySem.W.callWith_KW0 (h₀ := X.base) I.ok.mod.kin hk hnm ?_ hst) hdb
  refine thn (hkw.run pos pins s σ H _ I h) fun wv s2 ⟨zs, H2, I2, rz, lz, q2⟩ => ⟨I2.kIn, ?_⟩
  rw [hks]
  have r2 := hb.rel .nil rz
  refine wpAny_call (codeAny_mono (F.run X.A X.stack s2 H2 ⟨[], ks.zip wv⟩ _ _ Q E hr I2.env0 (hb.to s2 [] wv I2.kIn rfl (rz.length.symm.trans lz)) r2 q2) fun r s' hq => ?_)
  have z := ends hx I2 hq
  cases r with
  | error e => exact z
  | ok fl => cases fl <;> exact z
/-- repr of data -/
theorem call_reprD (hG : X.A.guards = some []) (hu : X.A.units + 64 < cLine) : CallR X (.builtin "repr") (fun xs H Q => ∃ a d, xs = [V.ref a] ∧ Dp X.K H (.ref a) d ∧ d.showable = true ∧ d.hasDict = false ∧ d.depth < 60 ∧ d.shown.length ≤ sizeLine ∧ Q (.str d.shown) H) := by
  intro pins s σ H xs us Q I rv hw
  obtain ⟨a, d, rfl, hd, hs, hn, hdp, hsz, q⟩ := hw
  cases rv with
  | cons r1 r2 =>
    cases r2
    obtain ⟨as, hr⟩ := Dp.reads I d _ _ hd r1
    cases r1
    exact repr_of_reads' hr hs (fun z => absurd (hn.symm.trans z) (by decide)) hG (by omega) (fun _ _ z => z) (fun h' u tk kp => ⟨.str _, H, I.kept kp, ⟨_, rfl⟩, q⟩) hsz
/-- bools by is, is not -/
theorem op_isB : OpR X (compareOp .IsNot) (fun x y H Q => ∃ b c, x = .bl b ∧ y = .bl c ∧ Q (.bl (b != c)) H) := by
  intro pins s σ H x y v u Q I rx ry hw
  obtain ⟨b1, b2, rfl, rfl, q⟩ := hw
  cases rx
  cases ry
  exact PyProof.Rows.isnot_bool ⟨.bl _, H, I, rfl, q⟩
end
section
/-- the law is called, nothing being under way -/
theorem law_callG {P : Program} {w : World} {K : PySem.W.Frag} {mg mb : Str → Option Value} {CX : CXT} {k : Nat} {fa a : Addr} {fd : FuncData} {x : Str} {sp : Sp} {t : Shared} {vs : List Value} {ns : List Int}
    (KX : K.In t.heap) (hns : t.heap.Ns mainGlobals mg) (hb : t.heap.Ns builtinsNs mb) (hbb : ∀ y : Str, y ≠ "__name__" → mb y = bootBuiltins y) (hlim : t.heap.NoLimit) (hg : t.gens = #[])
    (ha : t.heap.get? a = some { cls := .type "list", data := .seq vs.toArray }) (hi : IntsAre vs ns) (hl : ns.length ≤ sizeLine) (hr : Room k callerA)
    (F : ∀ base : Heap, K.In base → base.Ns mainGlobals mg → GOk P w K mg base CX k fa fd [x] sp) (hbind : ∀ (s : Shared) (u : Value), BindsTo s fd ⟨[u], []⟩ [(x, u)])
    (hkept : ∀ H : Hp, Only H → SqL K H a (ns.map V.int) → sp [.ref a] H (fun v _ => v = .bl true) fun _ _ _ => False) (hCX : ∀ H e s', CX [] H t (fun _ _ _ => False) e s' → False) :
    codeAny (model P w) callerA (.call (.ref fa) ⟨[.ref a], []⟩) (fun r s' => r = .ok (.ret (.bool true)) ∧ OldK t.heap s'.heap ∧ s'.os = t.os ∧ AllBare s'.gens) t := by
  have rv := vals_ints hi
  have main : ∀ H : Hp, Only H → SqL K H a (ns.map V.int) → HOk P w H t.heap → (∀ b, H b ≠ none → b = a) → (H a ≠ none → K.lookup a = none) →
      codeAny (model P w) callerA (.call (.ref fa) ⟨[.ref a], []⟩) (fun r s' => r = .ok (.ret (.bool true)) ∧ OldK t.heap s'.heap ∧ s'.os = t.os ∧ AllBare s'.gens) t := by
    intro H hO hS hok hA hK
    have keep : ∀ {b : Addr} {o : Obj}, t.heap.get? b = some o → (H b ≠ none → False) → (hidT t.heap H).get? b = some o := fun {b o} z n => hidT_get z (by
      cases q : H b with
      | none => rfl
      | some u => exact (n (by rw [q]; simp)).elim)
    have nsB : ∀ {b : Addr} {m : Str → Option Value}, t.heap.Ns b m → (hidT t.heap H).Ns b m := by
      rintro b m ⟨o, es, ep, z, d, r⟩
      refine ⟨o, es, ep, keep z fun hn => ?_, d, r⟩
      have hab := hA b hn
      subst hab
      rw [ha] at z
      cases z
      have bad : Data.seq vs.toArray _ = Data.dict es ep := d
      cases bad
    have KB : K.In (hidT t.heap H) := fun b o z => keep (KX b o z) fun hn => by
      have hab := hA b hn
      subst hab
      rw [hK hn] at z
      cases z
    obtain ⟨mc, c1, c2⟩ := hlim
    have M : Mod K mg (hidT t.heap H) := ⟨KB, nsB hns, ⟨mb, nsB hb, hbb⟩, ⟨mc, nsB c1, c2⟩⟩
    have none0 : ∀ b : Addr, b ∉ ([] : List Addr) := fun b z => absurd z List.not_mem_nil
    have e0 : Env0 P w K mg (hidT t.heap H) callerA [] t H := ⟨rfl, M, fun b o z => of_hidT z, Nat.le_of_eq (hidT_size _ _), trivial, fun b z => absurd z (none0 b), hok, .of_eq hg⟩
    refine codeAny_mono ((F _ KB (nsB hns)).go callerA [] t H ⟨[.ref a], []⟩ [.ref a] [.ref a] _ _ rfl hr e0 (hbind t (.ref a)) (.cons rfl .nil) (hkept H hO hS)) fun r s' z => ?_
    cases r with
    | error e => exact (hCX H e s' z).elim
    | ok fl =>
      cases fl with
      | next => exact z.elim
      | brk => exact z.elim
      | cont => exact z.elim
      | ret u =>
        obtain ⟨v, H2, os, bare, un, hok2, rv2, qv⟩ := z
        have qv2 : v = .bl true := qv
        subst qv2
        cases rv2
        refine ⟨rfl, OldK.of_keep fun b o z => ?_, os, bare⟩
        cases q : H b with
        | none => exact un.keep b o z q (fun y => absurd y (none0 b)) List.not_mem_nil
        | some u =>
          rcases hO b with y | ⟨ob, xs, y⟩
          · rw [q] at y
            cases y
          · obtain ⟨e1, _⟩ := hok b _ y
            obtain ⟨e2, _⟩ := hok2 b _ (un.frzs b ob _ y)
            rw [z] at e1
            cases e1
            exact e2
  cases hk : K.lookup a with
  | some o =>
    have z := KX a o hk
    rw [ha] at z
    cases z
    exact main (fun _ => none) (fun _ => .inl rfl) (.inr ⟨_, vs.toArray, _, hk, rfl, rfl, rfl, by rw [List.size_toArray, hi.length]; exact hl, by simpa using rv⟩) (fun b u y => by have y2 : (none : Option HO) = some u := y; cases y2) (fun b y => absurd rfl y) fun y => absurd rfl y
  | none =>
    refine main (fun b => if b = a then some (.frz { cls := .type "list", data := .seq vs.toArray } (.lst (ns.map V.int))) else none) (fun b => ?_) (.inl (.inr ⟨{ cls := .type "list", data := .seq vs.toArray }, if_pos rfl⟩)) (fun b u y => ?_) (fun b y => ?_) fun _ => hk
    · by_cases hb : b = a
      · exact Or.inr ⟨_, _, if_pos hb⟩
      · exact .inl (if_neg hb)
    · by_cases hb : b = a
      · subst hb
        have y2 := (if_pos rfl).symm.trans y
        cases y2
        refine ⟨ha, ?_, vs, _, rv, ha⟩
        rw [List.length_map]
        exact hl
      · have y2 := (if_neg hb).symm.trans y
        cases y2
    · exact Classical.byContradiction fun hb => y (if_neg hb)
/-- the end of a law, as walk_of -/
theorem walk_ofG {law : PySem.W.OpenLaw} {n k : Nat} {qq : Program} {lo : List Str} {XP : (Str → Option Value) → Heap → Prop} {YP : World → Heap → Prop} {dr : DefRec} {KK : Params → PySem.W.Frag} {sp : World → Sp} {x : Str}
    (hn : law.most = some n) (hsz : n ≤ sizeLine) (hdf : dr.params.defaults = []) (hro : Room k callerA) (hY : ∀ (w : World) (h : Heap), YP w h → (KK w.params).In h)
    (F : ∀ (w : World) (mg : Str → Option Value) (fa : Addr) (h : Heap), (KK w.params).In h → h.Ns mainGlobals mg → mg dr.name = some (.ref fa) →
      ∃ fd : FuncData, (∀ (s : Shared) (u : Value), BindsTo s fd ⟨[u], []⟩ [(x, u)]) ∧ ∀ bs : Heap, (KK w.params).In bs → bs.Ns mainGlobals mg → GOk law.prog w (KK w.params) mg bs CX0 k fa fd [x] (sp w))
    (hkept : ∀ (w : World) (H : Hp) (a : Addr) (ns : List Int), ns.length ≤ n → Only H → SqL (KK w.params) H a (ns.map V.int) → sp w [.ref a] H (fun v _ => v = .bl true) fun _ _ _ => False) : PySem.W.WalkO qq lo XP YP law.row.toRowW dr [] (fun f vs => PySem.call f vs) := by
  apply Att.attach_call hn hdf
  intro w _ t mg mb fa _ _ _ _ a vs ns G Y _ _ _ hmg hobj hints hlen hgens
  obtain ⟨fd, hbn, hF⟩ := F w mg fa _ (hY w _ Y) G.T.g hmg
  exact law_callG (hY w _ Y) G.T.g G.T.b G.T.builtins G.T.nolimit hgens hobj hints (Nat.le_trans hlen hsz) hro hF hbn (fun H hO hS => hkept w H a ns hlen hO hS) fun _ _ _ z => z
end
end Gu

namespace NT
/-! ### powers by squaring -/
def powMod : Nat → Nat → Nat → Nat → Nat
  | 0, _, _, m => 1 % m
  | f + 1, b, e, m => if e = 0 then 1 % m else
      let h := powMod f (b * b % m) (e / 2) m
      if e % 2 = 1 then b * h % m else h
theorem powMod_eq : ∀ (f b e m : Nat), e < 2 ^ f → powMod f b e m = b ^ e % m
  | 0, b, e, m, h => by
    have : e = 0 := by simpa using h
    subst this; rfl
  | f + 1, b, e, m, h => by
    unfold powMod
    by_cases h0 : e = 0
    · subst h0; simp
    · rw [if_neg h0]
      have h2 : e / 2 < 2 ^ f := by rw [Nat.pow_succ] at h; omega
      have ih := powMod_eq f (b * b % m) (e / 2) m h2
      have key : (b * b % m) ^ (e / 2) % m = (b ^ (2 * (e / 2))) % m := by
        rw [← Nat.pow_mod, Nat.pow_mul, Nat.pow_two]
      show (if e % 2 = 1 then b * powMod f (b * b % m) (e / 2) m % m else powMod f (b * b % m) (e / 2) m) = _
      rw [ih, key]
      by_cases h1 : e % 2 = 1
      · rw [if_pos h1]
        have : e = 2 * (e / 2) + 1 := by omega
        conv => rhs; rw [this, Nat.pow_succ, Nat.mul_comm, Nat.mul_mod]
        conv => lhs; rw [Nat.mul_mod, Nat.mod_mod]
      · rw [if_neg h1]
        have : 2 * (e / 2) = e := by omega
        rw [this]
/-! ### primes -/
def Prime (p : Nat) : Prop := 2 ≤ p ∧ ∀ d, d ∣ p → d = 1 ∨ d = p
theorem prime_of_trial {p k : Nat} (h2 : 2 ≤ p) (hk : p < k * k) (h : ∀ d, d < k → 2 ≤ d → p % d ≠ 0) : Prime p := by
  refine ⟨h2, fun d hd => ?_⟩
  by_cases h1 : d = 1
  · exact .inl h1
  by_cases hp : d = p
  · exact .inr hp
  exfalso
  obtain ⟨e, he⟩ := hd
  have d0 : d ≠ 0 := by rintro rfl; simp at he; omega
  have e0 : e ≠ 0 := by rintro rfl; simp at he; omega
  have e1 : e ≠ 1 := by rintro rfl; simp at he; exact hp he.symm
  by_cases hd : d < k
  · exact h d hd (by omega) (by rw [he]; exact Nat.mul_mod_right d e)
  · by_cases he' : e < k
    · exact h e he' (by omega) (by rw [he]; exact Nat.mul_mod_left d e)
    · have : k * k ≤ d * e := Nat.mul_le_mul (by omega) (by omega)
      omega
def noDiv (p : Nat) : Nat → Bool
  | 0 => true
  | k + 1 => (decide (k < 2) || decide (p % k ≠ 0)) && noDiv p k
theorem noDiv_spec {p : Nat} : ∀ {k : Nat}, noDiv p k = true → ∀ d, d < k → 2 ≤ d → p % d ≠ 0
  | 0, _, d, h, _ => by omega
  | k + 1, h, d, hd, h2 => by
    unfold noDiv at h
    rw [Bool.and_eq_true] at h
    by_cases e : d = k
    · subst e
      have := h.1
      simp at this
      rcases this with q | q
      · omega
      · exact q
    · exact noDiv_spec h.2 d (by omega) h2
theorem prime_by {p : Nat} (k : Nat) (h : (decide (2 ≤ p) && decide (p < k * k) && noDiv p k) = true) : Prime p := by
  simp only [Bool.and_eq_true, decide_eq_true_eq] at h
  exact prime_of_trial h.1.1 h.1.2 (noDiv_spec h.2)
theorem prime_coprime {p n : Nat} (hp : Prime p) (h : n % p ≠ 0) : Nat.Coprime p n := by
  unfold Nat.Coprime
  rcases hp.2 _ (Nat.gcd_dvd_left p n) with e | e
  · exact e
  · exfalso
    apply h
    have : p ∣ n := e ▸ Nat.gcd_dvd_right p n
    exact Nat.mod_eq_zero_of_dvd this
theorem prime_mul {p a b : Nat} (hp : Prime p) (ha : a % p ≠ 0) (hb : b % p ≠ 0) : (a * b) % p ≠ 0 := by
  intro h
  have := (prime_coprime hp ha).dvd_of_dvd_mul_left (Nat.dvd_of_mod_eq_zero h)
  exact hb (Nat.mod_eq_zero_of_dvd this)
/-! ### binomials -/
def C : Nat → Nat → Nat
  | _, 0 => 1
  | 0, _ + 1 => 0
  | n + 1, k + 1 => C n k + C n (k + 1)
theorem C_gt : ∀ (n k : Nat), n < k → C n k = 0
  | _, 0, h => by omega
  | 0, _ + 1, _ => rfl
  | n + 1, k + 1, h => by unfold C; rw [C_gt n k (by omega), C_gt n (k + 1) (by omega)]
theorem C_self : ∀ n, C n n = 1
  | 0 => rfl
  | n + 1 => by unfold C; rw [C_self n, C_gt n (n + 1) (by omega)]
theorem C_absorb : ∀ (n k : Nat), (k + 1) * C (n + 1) (k + 1) = (n + 1) * C n k
  | n, 0 => by
    show 1 * (C n 0 + C n 1) = (n + 1) * C n 0
    have h1 : ∀ n, C n 1 = n := by
      intro n; induction n with
      | zero => rfl
      | succ n ih => unfold C; rw [ih]; unfold C; omega
    have h0 : C n 0 = 1 := by unfold C; rfl
    rw [h0, h1]; omega
  | 0, k + 1 => by simp [C]
  | n + 1, k + 1 => by
    have i1 := C_absorb n k
    have i2 := C_absorb n (k + 1)
    have e1 : C (n + 1 + 1) (k + 1 + 1) = C (n + 1) (k + 1) + C (n + 1) (k + 1 + 1) := rfl
    have e2 : C (n + 1) (k + 1) = C n k + C n (k + 1) := rfl
    rw [e1]
    have : (k + 1 + 1) * (C (n + 1) (k + 1) + C (n + 1) (k + 1 + 1)) = (k + 1) * C (n + 1) (k + 1) + C (n + 1) (k + 1) + (k + 1 + 1) * C (n + 1) (k + 1 + 1) := by
      rw [Nat.mul_add, Nat.add_mul (k + 1) 1 (C (n + 1) (k + 1)), Nat.one_mul]
    rw [this, i1, i2, e2]
    have : (n + 1 + 1) * (C n k + C n (k + 1)) = (n + 1) * C n k + (C n k + C n (k + 1)) + (n + 1) * C n (k + 1) := by
      rw [Nat.add_mul (n + 1) 1, Nat.mul_add, Nat.one_mul]; omega
    omega
/-- sum of f k for k < n -/
def S (f : Nat → Nat) : Nat → Nat
  | 0 => 0
  | n + 1 => S f n + f n
theorem S_congr {f g : Nat → Nat} : ∀ n, (∀ k, k < n → f k = g k) → S f n = S g n
  | 0, _ => rfl
  | n + 1, h => by unfold S; rw [S_congr n fun k hk => h k (by omega), h n (by omega)]
theorem S_add (f g : Nat → Nat) : ∀ n, S (fun k => f k + g k) n = S f n + S g n
  | 0 => rfl
  | n + 1 => by unfold S; rw [S_add f g n]; omega
theorem S_mul (f : Nat → Nat) (c : Nat) : ∀ n, S (fun k => c * f k) n = c * S f n
  | 0 => rfl
  | n + 1 => by unfold S; rw [S_mul f c n, Nat.mul_add]
theorem S_shift (f : Nat → Nat) : ∀ n, S f (n + 1) = f 0 + S (fun k => f (k + 1)) n
  | 0 => by unfold S; unfold S; omega
  | n + 1 => by
    show S f (n + 1) + f (n + 1) = f 0 + (S (fun k => f (k + 1)) n + f (n + 1))
    rw [S_shift f n]; omega
theorem S_dvd {f : Nat → Nat} {p : Nat} : ∀ n, (∀ k, k < n → p ∣ f k) → p ∣ S f n
  | 0, _ => Nat.dvd_zero p
  | n + 1, h => by unfold S; exact Nat.dvd_add (S_dvd n fun k hk => h k (by omega)) (h n (by omega))
theorem binom (x : Nat) : ∀ n, (x + 1) ^ n = S (fun k => C n k * x ^ k) (n + 1)
  | 0 => by simp [S, C]
  | n + 1 => by
    have ih := binom x n
    rw [Nat.pow_succ, ih, Nat.mul_add, Nat.mul_one]
    rw [S_shift (fun k => C (n + 1) k * x ^ k) (n + 1)]
    have e : S (fun k => C (n + 1) (k + 1) * x ^ (k + 1)) (n + 1) = S (fun k => x * (C n k * x ^ k)) (n + 1) + S (fun k => C n (k + 1) * x ^ (k + 1)) (n + 1) := by
      rw [← S_add]
      refine S_congr _ fun k _ => ?_
      show (C n k + C n (k + 1)) * x ^ (k + 1) = _
      rw [Nat.add_mul, Nat.pow_succ, ← Nat.mul_assoc, Nat.mul_comm (C n k * x ^ k) x]
    have e2 : C (n + 1) 0 * x ^ 0 + S (fun k => C n (k + 1) * x ^ (k + 1)) (n + 1) = S (fun k => C n k * x ^ k) (n + 1 + 1) := by
      rw [S_shift (fun k => C n k * x ^ k) (n + 1)]
      simp [C]
    have e3 : S (fun k => C n k * x ^ k) (n + 1 + 1) = S (fun k => C n k * x ^ k) (n + 1) := by
      show S (fun k => C n k * x ^ k) (n + 1) + C n (n + 1) * x ^ (n + 1) = _
      rw [C_gt n (n + 1) (by omega)]; omega
    rw [e, S_mul]
    have hx : S (fun k => C n k * x ^ k) (n + 1) * x = x * S (fun k => C n k * x ^ k) (n + 1) := Nat.mul_comm _ _
    rw [hx]
    show _ = C (n + 1) 0 * x ^ 0 + (x * S (fun k => C n k * x ^ k) (n + 1) + S (fun k => C n (k + 1) * x ^ (k + 1)) (n + 1))
    omega
theorem prime_C {p k : Nat} (hp : Prime p) (h0 : 0 < k) (hk : k < p) : p ∣ C p k := by
  obtain ⟨n, rfl⟩ : ∃ n, p = n + 1 := ⟨p - 1, by have := hp.1; omega⟩
  obtain ⟨j, rfl⟩ : ∃ j, k = j + 1 := ⟨k - 1, by omega⟩
  have e := C_absorb n j
  have hc : Nat.Coprime (n + 1) (j + 1) := prime_coprime hp (by rw [Nat.mod_eq_of_lt hk]; omega)
  exact hc.dvd_of_dvd_mul_left (e ▸ Nat.dvd_mul_right (n + 1) (C n j))
theorem fermat' {p : Nat} (hp : Prime p) : ∀ x : Nat, x ^ p % p = x % p
  | 0 => by
    obtain ⟨n, rfl⟩ : ∃ n, p = n + 1 := ⟨p - 1, by have := hp.1; omega⟩
    rw [Nat.pow_succ, Nat.mul_zero]
  | x + 1 => by
    have ih := fermat' hp x
    obtain ⟨n, rfl⟩ : ∃ n, p = n + 1 := ⟨p - 1, by have := hp.1; omega⟩
    rw [binom x (n + 1)]
    show (S (fun k => C (n + 1) k * x ^ k) (n + 1) + C (n + 1) (n + 1) * x ^ (n + 1)) % (n + 1) = _
    rw [S_shift, C_self, Nat.one_mul]
    have hd : (n + 1) ∣ S (fun k => C (n + 1) (k + 1) * x ^ (k + 1)) n := S_dvd n fun k hk => Nat.dvd_trans (prime_C hp (by omega) (by omega)) (Nat.dvd_mul_right _ _)
    obtain ⟨q, hq⟩ := hd
    rw [hq]
    have : C (n + 1) 0 * x ^ 0 = 1 := by simp [C]
    show (C (n + 1) 0 * x ^ 0 + (n + 1) * q + x ^ (n + 1)) % (n + 1) = _
    rw [this]
    rw [show 1 + (n + 1) * q + x ^ (n + 1) = (x ^ (n + 1) + 1) + (n + 1) * q by omega, Nat.add_mul_mod_self_left, Nat.add_mod, ih, ← Nat.add_mod]
theorem fermat {p x : Nat} (hp : Prime p) (hx : x % p ≠ 0) : x ^ (p - 1) % p = 1 := by
  have h := fermat' hp x
  have hp2 := hp.1
  obtain ⟨n, rfl⟩ : ∃ n, p = n + 1 := ⟨p - 1, by omega⟩
  show x ^ n % (n + 1) = 1
  have hx1 : 1 ≤ x ^ n := Nat.pos_of_ne_zero (fun z => by
    have : x ≠ 0 := fun e => hx (by rw [e]; exact Nat.zero_mod _)
    exact absurd z (Nat.pos_iff_ne_zero.mp (Nat.pow_pos (Nat.pos_of_ne_zero this))))
  have hd : (n + 1) ∣ x * (x ^ n - 1) := by
    rw [Nat.mul_sub, Nat.mul_one, Nat.mul_comm x, ← Nat.pow_succ]
    exact Nat.dvd_of_mod_eq_zero (Nat.sub_mod_eq_zero_of_mod_eq h)
  have := (prime_coprime hp hx).dvd_of_dvd_mul_left hd
  obtain ⟨q, hq⟩ := this
  have e : x ^ n = 1 + (n + 1) * q := by omega
  rw [e, Nat.add_mul_mod_self_left]
  exact Nat.mod_eq_of_lt (by omega)
end NT

namespace NT
theorem ipow_emod (u p : Int) : ∀ n : Nat, u ^ n % p = (u % p) ^ n % p
  | 0 => by simp
  | n + 1 => by
    rw [Int.pow_succ, Int.pow_succ, Int.mul_emod, ipow_emod u p n, Int.mul_emod ((u % p) ^ n)]
    simp
/-- a = p ^ k * u, u not divided by p -/
structure Spl (p a : Int) (k : Nat) (u : Int) : Prop where
  eq : a = p ^ k * u
  nd : u % p ≠ 0
theorem Spl.uniq {p a : Int} (hp : 2 ≤ p) : ∀ {k : Nat} {u : Int} {k' : Nat} {u' : Int}, Spl p a k u → Spl p a k' u' → k = k' ∧ u = u'
  | 0, u, 0, u', h, h' => ⟨rfl, by have := h.eq; have := h'.eq; simp at *; omega⟩
  | 0, u, k' + 1, u', h, h' => by
    exfalso
    have e := h.eq.symm.trans h'.eq
    apply h.nd
    have : u = p * (p ^ k' * u') := by rw [Int.pow_succ] at e; simp at e; rw [e, Int.mul_comm (p ^ k') p, Int.mul_assoc]
    rw [this, Int.mul_emod_right]
  | k + 1, u, 0, u', h, h' => by
    exfalso
    have e := h'.eq.symm.trans h.eq
    apply h'.nd
    have : u' = p * (p ^ k * u) := by rw [Int.pow_succ] at e; simp at e; rw [e, Int.mul_comm (p ^ k) p, Int.mul_assoc]
    rw [this, Int.mul_emod_right]
  | k + 1, u, k' + 1, u', h, h' => by
    have e := h.eq.symm.trans h'.eq
    have e2 : p * (p ^ k * u) = p * (p ^ k' * u') := by
      rw [Int.pow_succ, Int.pow_succ, Int.mul_comm (p ^ k) p, Int.mul_comm (p ^ k') p, Int.mul_assoc, Int.mul_assoc] at e
      exact e
    have e3 : p ^ k * u = p ^ k' * u' := Int.eq_of_mul_eq_mul_left (by omega) e2
    obtain ⟨a1, a2⟩ := Spl.uniq hp (a := p ^ k * u) ⟨rfl, h.nd⟩ ⟨e3, h'.nd⟩
    exact ⟨by rw [a1], a2⟩
theorem Spl.mul {p a b : Int} {k l : Nat} {u v : Int} (h : Spl p a k u) (h' : Spl p b l v) (hn : (u * v) % p ≠ 0) : Spl p (a * b) (k + l) (u * v) := by
  refine ⟨?_, hn⟩
  rw [h.eq, h'.eq, Int.pow_add, Int.mul_assoc, Int.mul_assoc, Int.mul_left_comm u]
/-- what is_local_square tells -/
def sqU (p u : Int) : Bool := if p = 2 then decide (u % 8 = 1) else decide (u ^ (p / 2).toNat % p = 1)
def sqB (p : Int) (k : Nat) (u : Int) : Bool := decide (k % 2 = 0) && sqU p u
/-- the law's own list of rests -/
def rests (s : Nat) (u : Int) : List Nat := (List.range s).filter fun j => decide (((j : Int) * j - u) % s = 0)
def rsz (p : Int) : Nat := if p = 2 then 8 else p.toNat
def restU (p u : Int) : Bool := !(rests (rsz p) u).isEmpty
theorem rests_emod (s : Nat) (u : Int) : rests s u = rests s (u % s) := by
  unfold rests
  congr 1
  funext j
  have : ((j : Int) * j - u) % s = ((j : Int) * j - u % s) % s := by
    rw [Int.sub_emod, Int.sub_emod ((j : Int) * j) (u % s), Int.emod_emod]
  rw [this]
def five (p : Int) : Prop := p = 2 ∨ p = 3 ∨ p = 5 ∨ p = 7 ∨ p = 13
theorem sq_rest2 {u : Int} (h : u % 2 ≠ 0) : sqU 2 u = restU 2 u := by
  have e : rsz 2 = 8 := rfl
  unfold sqU restU
  rw [if_pos rfl, e, rests_emod]
  have : u % 8 = 1 ∨ u % 8 = 3 ∨ u % 8 = 5 ∨ u % 8 = 7 := by omega
  show decide (u % 8 = 1) = !(rests 8 (u % 8)).isEmpty
  rcases this with z | z | z | z <;> rw [z] <;> decide
theorem sq_rest_odd {p : Nat} {u : Int} (hp : (p : Int) ≠ 2) (h0 : 0 < p) (h : u % p ≠ 0)
    (hd : ∀ r : Nat, r < p → r ≠ 0 → decide ((r : Int) ^ ((p : Int) / 2).toNat % p = 1) = !(rests p r).isEmpty) : sqU p u = restU p u := by
  have e : rsz p = p := by unfold rsz; rw [if_neg hp]; rfl
  unfold sqU restU
  rw [if_neg hp, e, rests_emod, ipow_emod]
  have h1 : 0 ≤ u % p := Int.emod_nonneg _ (by omega)
  have h2 : u % p < p := Int.emod_lt_of_pos _ (by omega)
  obtain ⟨r, hr⟩ : ∃ r : Nat, u % p = r := ⟨(u % p).toNat, by omega⟩
  rw [hr] at h h2 ⊢
  exact hd r (by omega) (by omega)
theorem sq_rest {p u : Int} (hp : five p) (h : u % p ≠ 0) : sqU p u = restU p u := by
  rcases hp with rfl | rfl | rfl | rfl | rfl
  · exact sq_rest2 h
  · exact sq_rest_odd (p := 3) (by decide) (by decide) h (by decide)
  · exact sq_rest_odd (p := 5) (by decide) (by decide) h (by decide)
  · exact sq_rest_odd (p := 7) (by decide) (by decide) h (by decide)
  · exact sq_rest_odd (p := 13) (by decide) (by decide) h (by decide)
/-! products -/
theorem nd_mul {p u v : Int} (hp : Prime p.toNat) (h0 : 0 ≤ p) (hu : u % p ≠ 0) (hv : v % p ≠ 0) : (u * v) % p ≠ 0 := by
  intro h
  have hd : p ∣ u * v := Int.dvd_of_emod_eq_zero h
  have hd2 : p.toNat ∣ u.natAbs * v.natAbs := by
    rw [← Int.natAbs_mul]
    have := Int.natAbs_dvd_natAbs.mpr hd
    have e : p.natAbs = p.toNat := by omega
    rwa [e] at this
  have key : ∀ x : Int, x % p ≠ 0 → x.natAbs % p.toNat ≠ 0 := by
    intro x hx hz
    apply hx
    have d1 : p.toNat ∣ x.natAbs := Nat.dvd_of_mod_eq_zero hz
    have e : p.natAbs = p.toNat := by omega
    rw [← e] at d1
    exact Int.emod_eq_zero_of_dvd (Int.natAbs_dvd_natAbs.mp d1)
  exact prime_mul hp (key u hu) (key v hv) (Nat.mod_eq_zero_of_dvd hd2)
theorem sqU_self {p u : Int} (hp : Prime p.toNat) (h0 : 0 ≤ p) (hodd : p = 2 ∨ p % 2 = 1) (hu : u % p ≠ 0) : sqU p (u * u) = true := by
  unfold sqU
  by_cases e : p = 2
  · subst e
    rw [if_pos rfl]
    have : u % 8 = 1 ∨ u % 8 = 3 ∨ u % 8 = 5 ∨ u % 8 = 7 := by omega
    rw [Int.mul_emod]
    rcases this with z | z | z | z <;> rw [z] <;> decide
  · rw [if_neg e]
    have hodd' : p % 2 = 1 := by rcases hodd with z | z; exact absurd z e; exact z
    have key : (u.natAbs) ^ (p.toNat - 1) % p.toNat = 1 := by
      refine fermat hp ?_
      intro hz
      apply hu
      have d1 : p.toNat ∣ u.natAbs := Nat.dvd_of_mod_eq_zero hz
      have e : p.natAbs = p.toNat := by omega
      rw [← e] at d1
      exact Int.emod_eq_zero_of_dvd (Int.natAbs_dvd_natAbs.mp d1)
    have e1 : u * u = ((u.natAbs * u.natAbs : Nat) : Int) := by
      rw [Int.natCast_mul]
      exact (Int.natAbs_mul_self' u).symm
    have e2 : (u.natAbs * u.natAbs) ^ (p / 2).toNat = u.natAbs ^ (p.toNat - 1) := by
      rw [← Nat.pow_two, ← Nat.pow_mul]
      congr 1
      omega
    have e3 : (u * u) ^ (p / 2).toNat % p = 1 := by
      rw [e1, ← Int.natCast_pow, e2]
      have ep : p = ((p.toNat : Nat) : Int) := by omega
      rw [ep]
      show (((u.natAbs ^ (p.toNat - 1) : Nat) : Int) % ((p.toNat : Nat) : Int)) = 1
      rw [← Int.natCast_emod, key]; rfl
    rw [e3]; rfl
theorem sqB_self {p a : Int} {k : Nat} {u : Int} (hp : Prime p.toNat) (h0 : 0 ≤ p) (hodd : p = 2 ∨ p % 2 = 1) (h : Spl p a k u) : ∃ k' u', Spl p (a * a) k' u' ∧ sqB p k' u' = true := by
  refine ⟨k + k, u * u, h.mul h (nd_mul hp h0 h.nd h.nd), ?_⟩
  unfold sqB
  rw [sqU_self hp h0 hodd h.nd]
  simp
  omega
theorem five_prime {p : Int} (h : five p) : Prime p.toNat ∧ 2 ≤ p ∧ (p = 2 ∨ p % 2 = 1) ∧ p ≤ 13 := by
  rcases h with rfl | rfl | rfl | rfl | rfl
  · exact ⟨prime_by 2 (by decide), by decide, .inl rfl, by decide⟩
  · exact ⟨prime_by 2 (by decide), by decide, .inr rfl, by decide⟩
  · exact ⟨prime_by 4 (by decide), by decide, .inr rfl, by decide⟩
  · exact ⟨prime_by 4 (by decide), by decide, .inr rfl, by decide⟩
  · exact ⟨prime_by 4 (by decide), by decide, .inr rfl, by decide⟩
/-- the product of units: a square if both are, none if just one is -/
theorem sqU_mul {p u v : Int} (hp : five p) (hu : u % p ≠ 0) (hv : v % p ≠ 0) (h : sqU p u = true ∨ sqU p v = true) : sqU p (u * v) = (sqU p u && sqU p v) := by
  have gen : ∀ (p : Nat), 0 < p → (p : Int) ≠ 2 → (∀ r : Nat, r < p → ∀ s : Nat, s < p → r ≠ 0 → s ≠ 0 → (decide ((r : Int) ^ ((p : Int) / 2).toNat % p = 1) || decide ((s : Int) ^ ((p : Int) / 2).toNat % p = 1)) = true → decide (((r * s : Nat) : Int) ^ ((p : Int) / 2).toNat % p = 1) = (decide ((r : Int) ^ ((p : Int) / 2).toNat % p = 1) && decide ((s : Int) ^ ((p : Int) / 2).toNat % p = 1))) →
      u % p ≠ 0 → v % p ≠ 0 → (sqU p u = true ∨ sqU p v = true) → sqU p (u * v) = (sqU p u && sqU p v) := by
    intro p h0 h2 hd hu hv h
    have e1 : ∀ x : Int, sqU p x = decide ((x % p) ^ ((p : Int) / 2).toNat % p = 1) := by
      intro x; unfold sqU; rw [if_neg h2, ipow_emod]
    have pz : (p : Int) ≠ 0 := by omega
    have ppos : (0 : Int) < p := by omega
    obtain ⟨r, hr⟩ : ∃ r : Nat, u % p = r := ⟨(u % p).toNat, by have := Int.emod_nonneg u pz; omega⟩
    obtain ⟨s, hs⟩ : ∃ s : Nat, v % p = s := ⟨(v % p).toNat, by have := Int.emod_nonneg v pz; omega⟩
    have hr2 := Int.emod_lt_of_pos u ppos
    have hs2 := Int.emod_lt_of_pos v ppos
    rw [e1, e1] at h
    rw [e1, e1, e1]
    have e3 : (u * v % p) ^ ((p : Int) / 2).toNat % p = (((r * s : Nat) : Int)) ^ ((p : Int) / 2).toNat % p := by
      rw [Int.mul_emod, hr, hs, ← ipow_emod, Int.natCast_mul]
    rw [e3]
    rw [hr] at hu hr2 h ⊢
    rw [hs] at hv hs2 h ⊢
    exact hd r (by omega) s (by omega) (by omega) (by omega) (by rw [Bool.or_eq_true]; exact h)
  rcases hp with rfl | rfl | rfl | rfl | rfl
  · have e1 : ∀ x : Int, sqU 2 x = decide (x % 8 = 1) := fun x => rfl
    rw [e1, e1] at h
    rw [e1, e1, e1]
    have a1 : u % 8 = 1 ∨ u % 8 = 3 ∨ u % 8 = 5 ∨ u % 8 = 7 := by omega
    have a2 : v % 8 = 1 ∨ v % 8 = 3 ∨ v % 8 = 5 ∨ v % 8 = 7 := by omega
    rw [Int.mul_emod]
    rcases a1 with z | z | z | z <;> rcases a2 with y | y | y | y <;> rw [z, y] at h ⊢ <;> revert h <;> decide
  · exact gen 3 (by decide) (by decide) (by decide +kernel) hu hv h
  · exact gen 5 (by decide) (by decide) (by decide +kernel) hu hv h
  · exact gen 7 (by decide) (by decide) (by decide +kernel) hu hv h
  · exact gen 13 (by decide) (by decide) (by decide +kernel) hu hv h
theorem sqB_mul {p a b : Int} {k l : Nat} {u v : Int} (hp : five p) (h : Spl p a k u) (h' : Spl p b l v) (h1 : sqB p k u = true ∨ sqB p l v = true) :
    ∃ k' u', Spl p (a * b) k' u' ∧ sqB p k' u' = (sqB p k u && sqB p l v) := by
  obtain ⟨pp, p2, _, _⟩ := five_prime hp
  refine ⟨k + l, u * v, h.mul h' (nd_mul pp (by omega) h.nd h'.nd), ?_⟩
  unfold sqB at *
  have h2 : sqU p u = true ∨ sqU p v = true := by
    rcases h1 with z | z
    · rw [Bool.and_eq_true] at z; exact .inl z.2
    · rw [Bool.and_eq_true] at z; exact .inr z.2
  rw [sqU_mul hp h.nd h'.nd h2]
  rcases h1 with z | z
  · rw [Bool.and_eq_true] at z
    have zk : k % 2 = 0 := of_decide_eq_true z.1
    rw [z.2]
    have e : decide ((k + l) % 2 = 0) = decide (l % 2 = 0) := by
      congr 1; apply propext; omega
    rw [e, zk]; simp
  · rw [Bool.and_eq_true] at z
    have zk : l % 2 = 0 := of_decide_eq_true z.1
    rw [z.2]
    have e : decide ((k + l) % 2 = 0) = decide (k % 2 = 0) := by
      congr 1; apply propext; omega
    rw [e, zk]; simp
theorem Spl.ex {p : Int} (hp : 2 ≤ p) : ∀ (n : Nat) (a : Int), a.natAbs ≤ n → a ≠ 0 → ∃ k u, Spl p a k u
  | 0, a, h, h0 => by omega
  | n + 1, a, h, h0 => by
    by_cases e : a % p = 0
    · have e1 : a = p * (a / p) := by have := Int.mul_ediv_add_emod a p; omega
      have hz : a / p ≠ 0 := fun z => by rw [z] at e1; simp at e1; exact h0 e1
      have hl : (a / p).natAbs ≤ n := by
        have : a.natAbs = p.natAbs * (a / p).natAbs := by rw [← Int.natAbs_mul, ← e1]
        have p2 : 2 ≤ p.natAbs := by omega
        have : 2 * (a / p).natAbs ≤ p.natAbs * (a / p).natAbs := Nat.mul_le_mul_right _ p2
        omega
      obtain ⟨k, u, hk⟩ := Spl.ex hp n (a / p) hl hz
      refine ⟨k + 1, u, ?_, hk.nd⟩
      conv => lhs; rw [e1, hk.eq]
      rw [Int.pow_succ, Int.mul_comm (p ^ k) p, Int.mul_assoc]
    · exact ⟨0, a, by simp, e⟩
end NT

namespace K28
open PySem PySem.Spec PyProof.Rows L2 NT
def topS (i : Nat) : Stmt := PySem.Challenge.pw_formworld_k28_whole_squares_at_places.main.body.getD i (.Pass ⟨0, 0, 0, 0⟩)
abbrev sInt : Stmt := topS 13
abbrev sWithin : Stmt := topS 14
abbrev sOther : Stmt := topS 16
theorem scInt : FnScope ["value"] ["value"] (defScope sInt) := ⟨rfl, rfl, rfl, by decide +kernel, rfl, by decide +kernel, by decide +kernel⟩
theorem scWithin : FnScope ["value", "least", "most"] ["value", "least", "most"] (defScope sWithin) := ⟨rfl, rfl, rfl, by decide +kernel, rfl, by decide +kernel, by decide +kernel⟩
theorem scOther : FnScope ["number", "size"] ["number", "size"] (defScope sOther) := ⟨rfl, rfl, rfl, by decide +kernel, rfl, by decide +kernel, by decide +kernel⟩
abbrev sPow : Stmt := topS 7
abbrev sSplit : Stmt := topS 8
abbrev sPassed : Stmt := topS 9
abbrev sPrime : Stmt := topS 10
abbrev sSqRest : Stmt := topS 11
abbrev sPlace : Stmt := topS 19
abbrev sSqAt : Stmt := topS 22
abbrev sLocal : Stmt := topS 23
theorem scPow : FnScope ["base", "exponent", "modulus", "rest", "square"] ["base", "exponent", "modulus"] (defScope sPow) := ⟨rfl, rfl, rfl, by decide +kernel, rfl, by decide +kernel, by decide +kernel⟩
theorem scSplit : FnScope ["number", "prime", "exponent"] ["number", "prime"] (defScope sSplit) := ⟨rfl, rfl, rfl, by decide +kernel, rfl, by decide +kernel, by decide +kernel⟩
theorem scPassed : FnScope ["number", "witness", "twos", "odd", "rest", "_"] ["number", "witness"] (defScope sPassed) := ⟨rfl, rfl, rfl, by decide +kernel, rfl, by decide +kernel, by decide +kernel⟩
theorem scPrime : FnScope ["number", "witness"] ["number"] (defScope sPrime) := ⟨rfl, rfl, rfl, by decide +kernel, rfl, by decide +kernel, by decide +kernel⟩
theorem scSqRest : FnScope ["number", "prime"] ["number", "prime"] (defScope sSqRest) := ⟨rfl, rfl, rfl, by decide +kernel, rfl, by decide +kernel, by decide +kernel⟩
theorem scPlace : FnScope ["place"] ["place"] (defScope sPlace) := ⟨rfl, rfl, rfl, by decide +kernel, rfl, by decide +kernel, by decide +kernel⟩
theorem scSqAt : FnScope ["number", "place"] ["number", "place"] (defScope sSqAt) := ⟨rfl, rfl, rfl, by decide +kernel, rfl, by decide +kernel, by decide +kernel⟩
theorem scLocal : FnScope ["number", "place", "power", "left"] ["number", "place"] (defScope sLocal) := ⟨rfl, rfl, rfl, by decide +kernel, rfl, by decide +kernel, by decide +kernel⟩
abbrev sIsOther : Stmt := topS 15
abbrev sIsPlace : Stmt := topS 18
theorem scIsOther : FnScope ["value", "size"] ["value", "size"] (defScope sIsOther) := ⟨rfl, rfl, rfl, by decide +kernel, rfl, by decide +kernel, by decide +kernel⟩
theorem scIsPlace : FnScope ["value"] ["value"] (defScope sIsPlace) := ⟨rfl, rfl, rfl, by decide +kernel, rfl, by decide +kernel, by decide +kernel⟩
theorem to {Q : VK} {v v' : V} {H : Hp} (q : Q v H) (e : v = v') : Q v' H := e ▸ q
section
variable {P : Program} {w : World} {K : PySem.W.Frag} {mg : Str → Option Value} {base : Heap}
def spInt : Sp := fun vs H Q _ => ∃ i, vs = [.int i] ∧ Q (.bl true) H
theorem ok_int {f : Addr} {fd : FuncData} (F : Fun K "is_integer" "is_integer" sInt f fd) (m1 : mg "isinstance" = none) (m2 : mg "int" = none) (m3 : mg "bool" = none) : FnOk P w K mg base CX0 1 f fd ["value"] spInt := by
  refine F.ok scInt (fun vs H Q E h => ?_) (fun cdv A outer s H vs Q E hr h => ?_)
  · obtain ⟨i, rfl, _⟩ := h
    rfl
  · obtain ⟨i, rfl, q⟩ := h
    refine ⟨_, pss_one (ps_ret (pe_and (pe_callB call_isi (by rfl) m1 boot_isinstance (pa_cons (pv 0) (pa_cons (pe_bltn (v := .ty "int") (by rfl) m2 boot_int rfl) pa_nil)))
      (pe_one (pe_not (pe_callB call_isi (by rfl) m1 boot_isinstance (pa_cons (pv 0) (pa_cons (pe_bltn (v := .ty "bool") (by rfl) m3 (by decide +kernel) rfl) pa_nil))))))), ?_⟩
    refine ⟨.int i, rfl, _, _, _, _, true, rfl, .ty _, .base (.int i), kit_ty (by decide +kernel), true, rfl, iteT ?_⟩
    refine ⟨.int i, rfl, _, _, _, _, false, rfl, .ty _, .base (.int i), kit_ty (by decide +kernel), false, rfl, q⟩

/-! ### is_within, check_other_than_nought -/
def spWithin : Sp := fun vs H Q _ => ∃ i a b, vs = [.int i, .int a, .int b] ∧ Q (.bl (decide (a ≤ i ∧ i ≤ b))) H
theorem ok_within {f g : Addr} {fd gd : FuncData} (F : Fun K "is_within" "is_within" sWithin f fd) (G : FnOk P w K mg base CX0 1 g gd ["value"] spInt) (mG : mg "is_integer" = some (.ref g)) (kG : PySem.W.keepIn K (.ref g) = true) (bG : Binds K gd ["value"] []) : FnOk P w K mg base CX0 2 f fd ["value", "least", "most"] spWithin := by
  refine F.ok scWithin (fun vs H Q E h => ?_) (fun cdv A outer s H vs Q E hr h => ?_)
  · obtain ⟨i, a, b, rfl, _⟩ := h
    rfl
  · obtain ⟨i, a, b, rfl, q⟩ := h
    refine ⟨_, pss_one (ps_ret (pe_and (pe_call G hr (by rfl) mG kG bG .nil pass0 (pa_cons (pv 0) pa_nil)) (pe_one (pe_chain op_le op_le (pv 1) (pv 0) (pv 2))))), ?_⟩
    refine ⟨.int i, rfl, i, rfl, true, rfl, iteT ?_⟩
    refine ⟨.int a, rfl, .int i, rfl, a, i, rfl, rfl, decide (a ≤ i), rfl, ?_⟩
    by_cases h1 : a ≤ i
    · rw [if_pos (decide_eq_true h1)]
      refine ⟨.int b, rfl, i, b, rfl, rfl, ?_⟩
      have e : decide (i ≤ b) = decide (a ≤ i ∧ i ≤ b) := by congr 1; apply propext; exact ⟨fun z => ⟨h1, z⟩, fun z => z.2⟩
      exact to q (congrArg V.bl e.symm)
    · rw [if_neg (by simpa using h1)]
      have e : decide (a ≤ i ∧ i ≤ b) = false := decide_eq_false fun z => h1 z.1
      exact to q (congrArg V.bl e)
def spIsOther : Sp := fun vs H Q _ => ∃ n s : Int, vs = [.int n, .int s] ∧ -s ≤ n ∧ n ≤ s ∧ n ≠ 0 ∧ Q (.bl true) H
theorem ok_isOther {f g : Addr} {fd gd : FuncData} (F : Fun K "is_other_than_nought" "is_other_than_nought" sIsOther f fd) (G : FnOk P w K mg base CX0 2 g gd ["value", "least", "most"] spWithin) (mG : mg "is_within" = some (.ref g)) (kG : PySem.W.keepIn K (.ref g) = true) (bG : Binds K gd ["value", "least", "most"] []) : FnOk P w K mg base CX0 3 f fd ["value", "size"] spIsOther := by
  refine F.ok scIsOther (fun vs H Q E h => ?_) (fun cdv A outer s H vs Q E hr h => ?_)
  · obtain ⟨n, s, rfl, _⟩ := h
    rfl
  · obtain ⟨n, s, rfl, h1, h2, h3, q⟩ := h
    refine ⟨_, pss_one (ps_ret (pe_and (pe_call G hr (by rfl) mG kG bG .nil pass0 (pa_cons (pv 0) (pa_cons (pe_un un_neg (pv 1)) (pa_cons (pv 1) pa_nil)))) (pe_one (pe_cmpR op_ne (pv 0) pe_int (nomark _))))), ?_⟩
    refine ⟨.int n, rfl, .int s, rfl, s, rfl, .int s, rfl, n, -s, s, rfl, true, ?_, ?_⟩
    · rw [decide_eq_true (show -s ≤ n ∧ n ≤ s from ⟨h1, h2⟩)]
    · refine iteT ⟨.int n, rfl, rfl, to q (congrArg V.bl ?_)⟩
      rw [decide_eq_false (fun z => h3 (V.int.inj z))]
      rfl
def spOther : Sp := fun vs H Q _ => ∃ n s : Int, vs = [.int n, .int s] ∧ -s ≤ n ∧ n ≤ s ∧ n ≠ 0 ∧ Q .non H
theorem ok_other {f g : Addr} {fd gd : FuncData} (F : Fun K "check_other_than_nought" "check_other_than_nought" sOther f fd) (G : FnOk P w K mg base CX0 3 g gd ["value", "size"] spIsOther) (mG : mg "is_other_than_nought" = some (.ref g)) (kG : PySem.W.keepIn K (.ref g) = true) (bG : Binds K gd ["value", "size"] []) : FnOk P w K mg base CX0 4 f fd ["number", "size"] spOther := by
  refine F.ok scOther (fun vs H Q E h => ?_) (fun cdv A outer s H vs Q E hr h => ?_)
  · obtain ⟨n, s, rfl, _⟩ := h
    rfl
  · obtain ⟨n, s, rfl, h1, h2, h3, q⟩ := h
    refine ⟨_, pss_one (ps_if (pt_not (pt_val (pe_call G hr (by rfl) mG kG bG .nil pass0 (pa_cons (pv 0) (pa_cons (pv 1) pa_nil))))) (pss_one ps_never) pss_nil), ?_⟩
    exact ⟨.int n, rfl, .int s, rfl, n, s, rfl, h1, h2, h3, _, rfl, iteF q⟩
/-! ### power_rest -/
def spPow : Sp := fun vs H Q _ => ∃ b e m : Int, vs = [.int b, .int e, .int m] ∧ 0 ≤ e ∧ 1 < m ∧ m < 2 ^ 62 ∧ Q (.int (b ^ e.toNat % m)) H
theorem pow_turn (r s e m : Int) (he : 0 < e) : ((if e % 2 = 1 then r * s % m else r) * (s * s % m) ^ (e / 2).toNat) % m = (r * s ^ e.toNat) % m := by
  have key : (s * s % m) ^ (e / 2).toNat % m = (s ^ (2 * (e / 2).toNat)) % m := by
    rw [← ipow_emod, Int.pow_mul, Int.pow_succ, Int.pow_succ, Int.pow_zero, Int.one_mul]
  by_cases h : e % 2 = 1
  · rw [if_pos h, Int.mul_emod, key, ← Int.mul_emod, Int.mul_emod, Int.emod_emod, ← Int.mul_emod]
    have : e.toNat = 2 * (e / 2).toNat + 1 := by omega
    conv => rhs; rw [this, Int.pow_succ]
    rw [Int.mul_assoc, Int.mul_comm (s ^ _) s]
  · rw [if_neg h, Int.mul_emod, key, ← Int.mul_emod]
    have : e.toNat = 2 * (e / 2).toNat := by omega
    rw [← this]
theorem ok_pow {f : Addr} {fd : FuncData} (F : Fun K "power_rest" "power_rest" sPow f fd) : FnOk P w K mg base CX0 1 f fd ["base", "exponent", "modulus"] spPow := by
  refine F.ok scPow (fun vs H Q E h => ?_) (fun cdv A outer s H vs Q E hr h => ?_)
  · obtain ⟨b, e, m, rfl, _⟩ := h
    rfl
  · obtain ⟨b, e, m, rfl, h1, h2, h3, q⟩ := h
    refine ⟨_, pss_cons (ps_set (i := 3) scPow.nd rfl (.inl rfl) pe_int) (pss_cons (ps_set (i := 4) scPow.nd rfl (.inl rfl) (pe_op op_mod (pv 0) (pv 2)))
      (pss_cons (ps_while PassesOwn.never (pt_cmpR op_gt (pv 1) pe_int (nomark _))
        (pss_cons (ps_if (pt_cmpR op_eq (pe_op op_mod (pv 1) pe_int) pe_int (nomark _)) (pss_one (ps_set (i := 3) scPow.nd rfl (.inl rfl) (pe_op op_mod (pe_op op_mul (pv 3) (pv 4)) (pv 2)))) pss_nil)
        (pss_cons (ps_set (i := 4) scPow.nd rfl (.inl rfl) (pe_op op_mod (pe_op op_mul (pv 4) (pv 4)) (pv 2)))
        (pss_one (ps_set (i := 1) scPow.nd rfl (.inl rfl) (pe_op op_fdiv (pv 1) pe_int))))))
      (pss_one (ps_ret (pv 3))))), ?_⟩
    have m0 : 0 < m := by omega
    refine ⟨.int b, rfl, .int m, rfl, b, m, rfl, rfl, m0, ?_⟩
    refine ⟨fun k σ H' => H' = H ∧ ∃ r s e' : Int, σ = [some (.int b), some (.int e'), some (.int m), some (.int r), some (.int s)] ∧ k = e'.toNat ∧ 0 ≤ e' ∧ 0 ≤ r ∧ r < m ∧ 0 ≤ s ∧ s < m ∧ (r * s ^ e'.toNat) % m = b ^ e.toNat % m,
      ⟨e.toNat, rfl, 1, b % m, e, rfl, rfl, h1, by decide, by omega, Int.emod_nonneg _ (by omega), Int.emod_lt_of_pos _ m0, ?_⟩, fun k σ H' hW => ?_⟩
    · rw [Int.one_mul, ← ipow_emod]
    · obtain ⟨rfl, r, s, e', rfl, rfl, he, r0, r1, s0, s1, hp⟩ := hW
      refine ⟨.int e', rfl, e', 0, rfl, rfl, _, rfl, ite2 (fun z => ?_) (fun z => ?_)⟩
      · have ep : 0 < e' := of_decide_eq_true z
        have turn := pow_turn r s e' m ep
        refine ⟨fun σ H'' => H'' = H' ∧ ∃ r s e2 : Int, σ = [some (.int b), some (.int e2), some (.int m), some (.int r), some (.int s)] ∧ e2.toNat < e'.toNat ∧ 0 ≤ e2 ∧ 0 ≤ r ∧ r < m ∧ 0 ≤ s ∧ s < m ∧ (r * s ^ e2.toNat) % m = b ^ e.toNat % m, ?_, ?_⟩
        · rintro σ' H'' ⟨rfl, r', s', e2, rfl, l, a⟩
          exact ⟨_, l, rfl, r', s', e2, rfl, rfl, a⟩
        · have b1 : ∀ x : Int, 0 ≤ x → x < m → (-(2 ^ 64) < x ∧ x < 2 ^ 64) := fun x h1 h2 => ⟨by omega, by omega⟩
          have sq : 0 ≤ s * s % m ∧ s * s % m < m := ⟨Int.emod_nonneg _ (by omega), Int.emod_lt_of_pos _ m0⟩
          refine ⟨.int e', rfl, e', 2, rfl, rfl, (by show (0 : Int) < 2; decide), rfl, _, rfl, ite2 (fun z2 => ?_) (fun z2 => ?_)⟩
          · have e1 : e' % 2 = 1 := V.int.inj (of_decide_eq_true z2)
            rw [if_pos e1] at turn
            refine ⟨.int r, rfl, .int s, rfl, r, s, rfl, rfl, .inl (b1 r r0 r1), .int m, rfl, _, m, rfl, rfl, m0, ?_⟩
            refine ⟨.int s, rfl, .int s, rfl, s, s, rfl, rfl, .inl (b1 s s0 s1), .int m, rfl, _, m, rfl, rfl, m0, ?_⟩
            refine ⟨.int e', rfl, e', 2, rfl, rfl, ⟨by decide, by decide⟩, ?_⟩
            exact ⟨rfl, r * s % m, s * s % m, e' / 2, rfl, by omega, by omega, Int.emod_nonneg _ (by omega), Int.emod_lt_of_pos _ m0, sq.1, sq.2, turn.trans hp⟩
          · have e1 : ¬ e' % 2 = 1 := fun y => z2 (decide_eq_true (congrArg V.int y))
            rw [if_neg e1] at turn
            refine ⟨.int s, rfl, .int s, rfl, s, s, rfl, rfl, .inl (b1 s s0 s1), .int m, rfl, _, m, rfl, rfl, m0, ?_⟩
            refine ⟨.int e', rfl, e', 2, rfl, rfl, ⟨by decide, by decide⟩, ?_⟩
            exact ⟨rfl, r, s * s % m, e' / 2, rfl, by omega, by omega, r0, r1, sq.1, sq.2, turn.trans hp⟩
      · have ez : e' = 0 := by
          have : ¬ (0 < e') := fun y => z (decide_eq_true y)
          omega
        subst ez
        have : r = b ^ e.toNat % m := by
          rw [← hp]
          show r = r * s ^ 0 % m
          rw [Int.pow_zero, Int.mul_one, Int.emod_eq_of_lt r0 r1]
        exact ⟨.int r, rfl, this ▸ q⟩
end
end K28

namespace K28
open PySem PySem.Spec PyProof.Rows L2 NT
section
variable {P : Program} {w : World} {K : PySem.W.Frag} {mg : Str → Option Value} {base : Heap}
theorem same_new {H : Hp} {p : Addr} {o : HO} (h : H p = none) : Same H (upd H p o) := fun b x e => (upd_ne (ne_of_none e h)).trans e
/-! ### split_power -/
def spSplit : Sp := fun vs H Q _ => ∃ (n p : Int) (k : Nat) (u : Int), vs = [.int n, .int p] ∧ 2 ≤ p ∧ p < 1073741824 ∧ n ≠ 0 ∧ Spl p n k u ∧ ∀ q, H q = none → Q (.ref q) (upd H q (.tup [.int k, .int u]))
theorem ok_split {f : Addr} {fd : FuncData} (F : Fun K "split_power" "split_power" sSplit f fd) : FnOk P w K mg base CX0 1 f fd ["number", "prime"] spSplit := by
  refine F.ok scSplit (fun vs H Q E h => ?_) (fun cdv A outer s H vs Q E hr h => ?_)
  · obtain ⟨n, p, k, u, rfl, _⟩ := h
    rfl
  · obtain ⟨n, p, k, u, rfl, p2, pb, n0, hS, q⟩ := h
    refine ⟨_, pss_cons (ps_set (i := 2) scSplit.nd rfl (.inl rfl) pe_int)
      (pss_cons (ps_while PassesOwn.never (pt_cmpR op_eq (pe_op op_mod (pv 0) (pv 1)) pe_int (nomark _))
        (pss_cons (ps_set (i := 0) scSplit.nd rfl (.inl rfl) (pe_op op_fdiv (pv 0) (pv 1)))
        (pss_one (ps_set (i := 2) scSplit.nd rfl (.inl rfl) (pe_op op_add (pv 2) pe_int)))))
      (pss_one (ps_ret (pe_tup (pa_cons (pv 2) (pa_cons (pv 0) pa_nil)))))), ?_⟩
    refine ⟨fun m σ H' => H' = H ∧ ∃ (j : Nat) (n' : Int), σ = [some (.int n'), some (.int p), some (.int j)] ∧ m = n'.natAbs ∧ n' ≠ 0 ∧ n = p ^ j * n', ⟨n.natAbs, rfl, 0, n, rfl, rfl, n0, by simp⟩, fun m σ H' hW => ?_⟩
    obtain ⟨rfl, j, n', rfl, rfl, z0, e⟩ := hW
    refine ⟨.int n', rfl, .int p, rfl, n', p, rfl, rfl, (by show 0 < p; omega), rfl, _, rfl, ite2 (fun z => ?_) (fun z => ?_)⟩
    · have hz : n' % p = 0 := V.int.inj (of_decide_eq_true z)
      have e1 : n' = p * (n' / p) := by have := Int.mul_ediv_add_emod n' p; omega
      have q0 : n' / p ≠ 0 := fun y => by rw [y] at e1; simp at e1; exact z0 e1
      have lt : (n' / p).natAbs < n'.natAbs := by
        have h1 : n'.natAbs = p.natAbs * (n' / p).natAbs := by rw [← Int.natAbs_mul, ← e1]
        have h2 : 2 * (n' / p).natAbs ≤ p.natAbs * (n' / p).natAbs := Nat.mul_le_mul_right _ (by omega)
        omega
      refine ⟨fun σ H'' => H'' = H' ∧ σ = [some (.int (n' / p)), some (.int p), some (.int (j + 1))], ?_, ?_⟩
      · rintro σ' H'' ⟨rfl, rfl⟩
        refine ⟨_, lt, rfl, j + 1, n' / p, rfl, rfl, q0, ?_⟩
        rw [e, Int.pow_succ, Int.mul_assoc, ← e1]
      · exact ⟨.int n', rfl, .int p, rfl, n', p, rfl, rfl, ⟨by omega, pb⟩, .int j, rfl, j, 1, rfl, rfl, rfl, rfl⟩
    · have hz : n' % p ≠ 0 := fun y => z (decide_eq_true (congrArg V.int y))
      obtain ⟨rfl, rfl⟩ := hS.uniq p2 ⟨e, hz⟩
      exact ⟨.int k, rfl, .int u, rfl, (by show 2 ≤ sizeLine; decide), q⟩
/-! ### is_passed -/
structure PassOk (n w : Int) : Prop where
  big : 2 < n
  top : n < 2 ^ 62
  ex : ∃ (k : Nat) (u : Int) (i : Nat), Spl 2 (n - 1) k u ∧ 0 ≤ u ∧ k < 1000 ∧ i < k ∧ (w ^ u.toNat % n = 1 ∨ w ^ (u.toNat * 2 ^ i) % n = n - 1)
def spPassed : Sp := fun vs H Q _ => ∃ n v : Int, vs = [.int n, .int v] ∧ PassOk n v ∧ ∀ H', Same H H' → Q (.bl true) H'
theorem ok_passed {f fS fP : Addr} {fd dS dP : FuncData} (F : Fun K "is_passed" "is_passed" sPassed f fd) (GS : FnOk P w K mg base CX0 1 fS dS ["number", "prime"] spSplit) (mS : mg "split_power" = some (.ref fS)) (kS : PySem.W.keepIn K (.ref fS) = true) (bS : Binds K dS ["number", "prime"] [])
    (GP : FnOk P w K mg base CX0 1 fP dP ["base", "exponent", "modulus"] spPow) (mP : mg "power_rest" = some (.ref fP)) (kP : PySem.W.keepIn K (.ref fP) = true) (bP : Binds K dP ["base", "exponent", "modulus"] []) (mr : mg "range" = none) :
    FnOk P w K mg base CX0 2 f fd ["number", "witness"] spPassed := by
  refine F.ok scPassed (fun vs H Q E h => ?_) (fun cdv A outer s H vs Q E hr h => ?_)
  · obtain ⟨n, v, rfl, _⟩ := h
    rfl
  · obtain ⟨n, v, rfl, ⟨nb, nt, k, u, i0, hS, u0, kb, ik, hor⟩, q⟩ := h
    refine ⟨_, pss_cons (ps_asg (pe_call GS hr (by rfl) mS kS bS .nil pass0 (pa_cons (pe_op op_sub (pv 0) pe_int) (pa_cons pe_int pa_nil))) (pg_tup rfl (pgs_cons (pg_name (i := 2) scPassed.nd rfl (.inl rfl)) (pgs_cons (pg_name (i := 3) scPassed.nd rfl (.inl rfl)) pgs_nil))))
      (pss_cons (ps_set (i := 4) scPassed.nd rfl (.inl rfl) (pe_call GP hr (by rfl) mP kP bP .nil pass0 (pa_cons (pv 1) (pa_cons (pv 3) (pa_cons (pv 0) pa_nil)))))
      (pss_cons (ps_if (pt_cmpR op_eq (pv 4) pe_int (nomark _)) (pss_one (ps_ret pe_bl)) pss_nil)
      (pss_cons (ps_for PassesOwn.never rfl (pi_range1 rfl mr (pa_cons (pv 2) pa_nil)) (pg_name (i := 5) scPassed.nd rfl (.inl rfl))
        (pss_cons (ps_if (pt_cmpR op_eq (pv 4) (pe_op op_sub (pv 0) pe_int) (nomark _)) (pss_one (ps_ret pe_bl)) pss_nil)
        (pss_one (ps_set (i := 4) scPassed.nd rfl (.inl rfl) (pe_op op_mod (pe_op op_mul (pv 4) (pv 4)) (pv 0))))))
      (pss_one (ps_ret pe_bl))))), ?_⟩
    refine ⟨.int n, rfl, n, 1, rfl, rfl, n - 1, 2, k, u, rfl, by decide, by decide, by omega, hS, fun t nt => ?_⟩
    have sm := same_new (o := .tup [.int k, .int u]) nt
    refine ⟨t, [.int k, .int u], rfl, .inl (.inl upd_same), rfl, _, _, rfl, _, _, rfl, rfl, ?_⟩
    refine ⟨.int v, rfl, .int u, rfl, .int n, rfl, v, u, n, rfl, u0, by omega, ‹_›, ?_⟩
    refine ⟨.int (v ^ u.toNat % n), rfl, rfl, _, rfl, ite2 (fun z => ?_) (fun z => ?_)⟩
    · exact q _ sm
    · have z1 : v ^ u.toNat % n ≠ 1 := fun y => z (decide_eq_true (congrArg V.int y))
      have hp : v ^ (u.toNat * 2 ^ i0) % n = n - 1 := hor.resolve_left z1
      refine ⟨.int k, rfl, k, rfl, by omega, by omega, for_range (n := ((k : Int).toNat)) (fun i σ H' => H' = upd H t (.tup [.int k, .int u]) ∧ i ≤ i0 ∧ ∃ x, σ = [some (.int n), some (.int v), some (.int k), some (.int u), some (.int (v ^ (u.toNat * 2 ^ i) % n)), x])
        ⟨rfl, by omega, none, ?_⟩ ?_ ?_⟩
      · rw [Nat.pow_zero, Nat.mul_one]; rfl
      · rintro i σ H' hi ⟨rfl, hi0, x, rfl⟩
        refine ⟨.int (v ^ (u.toNat * 2 ^ i) % n), rfl, .int n, rfl, n, 1, rfl, rfl, rfl, _, rfl, ite2 (fun z => ?_) (fun z => ?_)⟩
        · exact q _ sm
        · have z2 : v ^ (u.toNat * 2 ^ i) % n ≠ n - 1 := fun y => z (decide_eq_true (congrArg V.int y))
          have ne : i ≠ i0 := fun y => z2 (y ▸ hp)
          have r0 : 0 ≤ v ^ (u.toNat * 2 ^ i) % n := Int.emod_nonneg _ (by omega)
          have r1 : v ^ (u.toNat * 2 ^ i) % n < n := Int.emod_lt_of_pos _ (by omega)
          refine ⟨.int _, rfl, .int _, rfl, _, _, rfl, rfl, .inl ⟨by omega, by omega⟩, .int n, rfl, _, n, rfl, rfl, (by show 0 < n; omega), rfl, by omega, some (.int (0 + (i : Int))), ?_⟩
          have e : v ^ (u.toNat * 2 ^ i) % n * (v ^ (u.toNat * 2 ^ i) % n) % n = v ^ (u.toNat * 2 ^ (i + 1)) % n := by
            rw [← Int.mul_emod, ← Int.pow_add]
            congr 2
            rw [Nat.pow_succ, ← Nat.mul_assoc]; omega
          show [some (V.int n), some (V.int v), some (V.int k), some (V.int u), some (V.int (v ^ (u.toNat * 2 ^ i) % n * (v ^ (u.toNat * 2 ^ i) % n) % n)), some (V.int (0 + (i : Int)))] = _
          rw [e]
      · rintro σ H' ⟨rfl, hi0, x, rfl⟩
        exfalso
        have : (k : Int).toNat = k := rfl
        omega
/-! ### is_prime -/
def W5 : List Int := [2, 3, 5, 7, 11]
structure PrimeOk (n : Int) : Prop where
  two : 2 ≤ n
  top : n ≤ 10 ^ 12
  own : ∀ v ∈ W5, n % v = 0 → n = v
  pass : (∀ v ∈ W5, n % v ≠ 0) → ∀ v ∈ W5, PassOk n v
def spPrime : Sp := fun vs H Q _ => ∃ n : Int, vs = [.int n] ∧ PrimeOk n ∧ ∀ H', Same H H' → Q (.bl true) H'
theorem w5_pos : ∀ v ∈ W5, (0 : Int) < v := by decide
theorem w5_at {i : Nat} {x : V} (h : (W5.map V.int)[i]? = some x) : ∃ v ∈ W5, x = .int v ∧ W5[i]? = some v := by
  rw [List.getElem?_map] at h
  cases e : W5[i]? with
  | none => rw [e] at h; cases h
  | some v =>
    rw [e] at h
    exact ⟨v, List.mem_of_getElem? e, (Option.some.inj h).symm, rfl⟩
theorem ok_prime {f fP aW : Addr} {fd dP : FuncData} (F : Fun K "is_prime" "is_prime" sPrime f fd) (GP : FnOk P w K mg base CX0 2 fP dP ["number", "witness"] spPassed) (mP : mg "is_passed" = some (.ref fP)) (kP : PySem.W.keepIn K (.ref fP) = true) (bP : Binds K dP ["number", "witness"] [])
    (mW : mg "WITNESSES" = some (.ref aW)) (hW : ∀ H, SqT K H aW (W5.map V.int)) (ma : mg "all" = none) : FnOk P w K mg base CX0 3 f fd ["number"] spPrime := by
  refine F.ok scPrime (fun vs H Q E h => ?_) (fun cdv A outer s H vs Q E hr h => ?_)
  · obtain ⟨n, rfl, _⟩ := h
    rfl
  · obtain ⟨n, rfl, ⟨n2, nt, own, pass⟩, q⟩ := h
    refine ⟨_, pss_cons (ps_if (pt_cmpR op_lt (pv 0) pe_int (nomark _)) (pss_one (ps_ret pe_bl)) pss_nil)
      (pss_cons (ps_for PassesOwn.never rfl (pi_tup (pe_glob (v := .ref aW) (by rfl) mW rfl)) (pg_name (i := 1) scPrime.nd rfl (.inl rfl))
        (pss_one (ps_if (pt_cmpR op_eq (pe_op op_mod (pv 0) (pv 1)) pe_int (nomark _)) (pss_one (ps_ret (pe_cmpR op_eq (pv 0) (pv 1) (nomark _)))) pss_nil)))
      (pss_one (ps_ret (pe_callB (cr_all rfl) (by rfl) ma boot_all (pa_cons (pe_lc (own := [("witness", 1)]) (g := gName 1) (tt := tYes) rfl scPrime.nd (pi_tup (pe_glob (v := .ref aW) (by rfl) mW rfl)) (blkOk_by (N := ["number", "witness"]) (sc := defScope sPrime) (by decide +kernel))
        (fun _ _ _ _ _ => pg_name (i := 1) scPrime.nd rfl (.inl rfl)) (fun _ _ _ _ _ => pts_nil) (fun _ _ _ _ _ => pe_call GP hr (by rfl) mP kP bP .nil pass0 (pa_cons (pv 0) (pa_cons (pv 1) pa_nil)))) pa_nil))))), ?_⟩
    refine ⟨.int n, rfl, n, 2, rfl, rfl, _, rfl, ite2 (fun z => ?_) (fun _ => ?_)⟩
    · exact absurd (of_decide_eq_true z) (by omega)
    · refine ⟨aW, rfl, ⟨_, hW _⟩, for_tup (xs := W5.map V.int) (fun i σ H' => H' = H ∧ (∃ x, σ = [some (.int n), x]) ∧ ∀ j v, j < i → W5[j]? = some v → n % v ≠ 0) ⟨rfl, ⟨none, rfl⟩, fun j v hj => absurd hj (by omega)⟩ (fun _ _ _ _ _ => hW _) ?_ ?_⟩
      · rintro i x σ H' hx ⟨rfl, ⟨y, rfl⟩, hb⟩
        obtain ⟨v, hv, rfl, hi⟩ := w5_at hx
        refine ⟨.int n, rfl, .int v, rfl, n, v, rfl, rfl, w5_pos v hv, rfl, _, rfl, ite2 (fun z => ?_) (fun z => ?_)⟩
        · have hz : n % v = 0 := V.int.inj (of_decide_eq_true z)
          refine ⟨.int n, rfl, .int v, rfl, rfl, ?_⟩
          rw [decide_eq_true (congrArg V.int (own v hv hz))]
          exact q _ (Same.refl _)
        · have hz : n % v ≠ 0 := fun y => z (decide_eq_true (congrArg V.int y))
          refine ⟨rfl, ⟨some (.int v), rfl⟩, fun j v' hj e => ?_⟩
          by_cases ej : j = i
          · subst ej
            rw [hi] at e
            cases e
            exact hz
          · exact hb j v' (by omega) e
      · rintro σ H0 ⟨rfl, ⟨y, rfl⟩, hb⟩
        have none : ∀ v ∈ W5, n % v ≠ 0 := fun v hv => by
          obtain ⟨j, hj, e⟩ := List.getElem_of_mem hv
          exact hb j v (by simpa using hj) (by rw [← e]; exact List.getElem?_eq_getElem hj)
        have pp := pass none
        refine ⟨aW, rfl, ⟨_, hW _⟩, fun D nD => lc_tup (xs := W5.map V.int) (fun i H' => Same H0 H' ∧ H' D = some (.lst ((List.replicate i true).map V.bl))) ⟨same_new nD, upd_same⟩ (fun _ _ _ _ => hW _) ?_ ?_⟩
        · rintro i x H' hx ⟨sm, hD⟩
          obtain ⟨v, hv, rfl, hi⟩ := w5_at hx
          refine ⟨rfl, .int n, rfl, .int v, rfl, n, v, rfl, pp v hv, fun H2 sm2 => ⟨_, sm2 _ _ hD, ?_, fun b o e => ?_, ?_⟩⟩
          · rw [List.length_map, List.length_replicate]
            have : i < 5 := by
              have := (List.getElem?_eq_some_iff.mp hi).1
              exact this
            rw [sizeLine_eq]; omega
          · rw [upd_ne (ne_of_none e nD)]
            exact sm2 _ _ (sm _ _ e)
          · rw [upd_same, List.replicate_succ', List.map_append]
            rfl
        · rintro H' ⟨sm, hD⟩
          exact ⟨D, _, rfl, .inl (.inl hD), q _ sm⟩
end
end K28

namespace K28
open PySem PySem.Spec PyProof.Rows L2 NT
/-! ### which primes the test passes -/
/-- the test of one witness, to be computed -/
def passB (n v : Nat) (k u i : Nat) : Bool :=
  decide (n - 1 = 2 ^ k * u) && decide (u % 2 = 1) && decide (i < k) && decide (k < 1000) && decide (2 < n) && decide (n < 2 ^ 62) && (decide (powMod 70 v u n = 1) || decide (powMod 70 v (u * 2 ^ i) n = n - 1))
theorem pass_of {n v k u i : Nat} (h : passB n v k u i = true) : PassOk n v := by
  unfold passB at h
  simp only [Bool.and_eq_true, Bool.or_eq_true, decide_eq_true_eq] at h
  obtain ⟨⟨⟨⟨⟨⟨h1, h2⟩, h3⟩, h4⟩, h5⟩, h6⟩, h7⟩ := h
  have hu : u ≤ n - 1 := by
    rw [h1]
    exact Nat.le_mul_of_pos_left u (Nat.pow_pos (by decide))
  have hi : u * 2 ^ i ≤ n - 1 := by
    rw [h1, Nat.mul_comm]
    exact Nat.mul_le_mul_right u (Nat.pow_le_pow_right (by decide) (by omega))
  have big : n - 1 < 2 ^ 70 := Nat.lt_of_lt_of_le (by omega) (Nat.pow_le_pow_right (n := 2) (by decide) (show 62 ≤ 70 by decide))
  rw [powMod_eq _ _ _ _ (by omega), powMod_eq _ _ _ _ (by omega)] at h7
  refine ⟨by omega, by omega, k, u, i, ⟨?_, by omega⟩, by omega, h4, h3, ?_⟩
  · have : (n : Int) - 1 = ((n - 1 : Nat) : Int) := by omega
    rw [this, h1]
    simp
  · rw [Int.toNat_natCast]
    rcases h7 with z | z
    · left
      rw [← Int.natCast_pow, ← Int.natCast_emod, z]; rfl
    · right
      rw [← Int.natCast_pow, ← Int.natCast_emod, z]
      omega
theorem prime_small {n : Int} (h : n ∈ W5) : PrimeOk n := by
  have key : ∀ n ∈ W5, (2 ≤ n ∧ n ≤ 10 ^ 12) ∧ (∀ v ∈ W5, n % v = 0 → n = v) ∧ ∃ v ∈ W5, n % v = 0 := by decide
  obtain ⟨⟨a, b⟩, c, d, hd, e⟩ := key n h
  exact ⟨a, b, c, fun z => absurd e (z d hd)⟩
theorem prime_great {n : Nat} (h2 : 2 ≤ n) (h12 : n ≤ 10 ^ 12) (hn : ∀ v ∈ W5, (n : Int) % v ≠ 0) (h : ∀ v ∈ [2, 3, 5, 7, 11], PassOk n ((v : Nat) : Int)) : PrimeOk n := by
  refine ⟨by omega, by omega, fun v hv z => absurd z (hn v hv), fun _ v hv => ?_⟩
  have e : W5 = [2, 3, 5, 7, 11].map fun x : Nat => (x : Int) := rfl
  rw [e] at hv
  obtain ⟨x, hx, rfl⟩ := List.mem_map.mp hv
  exact h x hx
theorem prime_test {n : Nat} (k u a b c d e : Nat) (h : (decide (2 ≤ n) && decide (n ≤ 10 ^ 12) && W5.all (fun v => decide ((n : Int) % v ≠ 0)) && passB n 2 k u a && passB n 3 k u b && passB n 5 k u c && passB n 7 k u d && passB n 11 k u e) = true) : PrimeOk n := by
  simp only [Bool.and_eq_true, decide_eq_true_eq, List.all_eq_true] at h
  obtain ⟨⟨⟨⟨⟨⟨⟨h1, h2⟩, h3⟩, p1⟩, p2⟩, p3⟩, p4⟩, p5⟩ := h
  refine prime_great h1 h2 h3 fun v hv => ?_
  simp only [List.mem_cons, List.not_mem_nil, or_false] at hv
  rcases hv with rfl | rfl | rfl | rfl | rfl
  · exact pass_of p1
  · exact pass_of p2
  · exact pass_of p3
  · exact pass_of p4
  · exact pass_of p5
theorem pk13 : PrimeOk 13 := prime_test (n := 13) 2 3 1 0 1 1 1 (by decide +kernel)
theorem pk17 : PrimeOk 17 := prime_test (n := 17) 4 1 2 3 3 3 3 (by decide +kernel)
theorem pk101 : PrimeOk 101 := prime_test (n := 101) 2 25 1 1 0 1 1 (by decide +kernel)
theorem pk10007 : PrimeOk 10007 := prime_test (n := 10007) 1 5003 0 0 0 0 0 (by decide +kernel)
theorem pk999983 : PrimeOk 999983 := prime_test (n := 999983) 1 499991 0 0 0 0 0 (by decide +kernel)
theorem pk1000003 : PrimeOk 1000003 := prime_test (n := 1000003) 1 500001 0 0 0 0 0 (by decide +kernel)
theorem pk_five {p : Int} (h : five p) : PrimeOk p := by
  rcases h with rfl | rfl | rfl | rfl | rfl
  · exact prime_small (by decide)
  · exact prime_small (by decide)
  · exact prime_small (by decide)
  · exact prime_small (by decide)
  · exact pk13
section
variable {P : Program} {w : World} {K : PySem.W.Frag} {mg : Str → Option Value} {base : Heap}
/-! ### is_square_rest, require_place, is_local_square, is_square_at -/
def spSqRest : Sp := fun vs H Q _ => ∃ u p : Int, vs = [.int u, .int p] ∧ 2 ≤ p ∧ p < 1073741824 ∧ Q (.bl (decide (u ^ (p / 2).toNat % p = 1))) H
theorem ok_sqrest {f fP : Addr} {fd dP : FuncData} (F : Fun K "is_square_rest" "is_square_rest" sSqRest f fd) (GP : FnOk P w K mg base CX0 1 fP dP ["base", "exponent", "modulus"] spPow) (mP : mg "power_rest" = some (.ref fP)) (kP : PySem.W.keepIn K (.ref fP) = true) (bP : Binds K dP ["base", "exponent", "modulus"] []) :
    FnOk P w K mg base CX0 2 f fd ["number", "prime"] spSqRest := by
  refine F.ok scSqRest (fun vs H Q E h => ?_) (fun cdv A outer s H vs Q E hr h => ?_)
  · obtain ⟨u, p, rfl, _⟩ := h
    rfl
  · obtain ⟨u, p, rfl, p2, pb, q⟩ := h
    refine ⟨_, pss_one (ps_ret (pe_cmpR op_eq (pe_call GP hr (by rfl) mP kP bP .nil pass0 (pa_cons (pv 0) (pa_cons (pe_op op_fdiv (pv 1) pe_int) (pa_cons (pv 1) pa_nil)))) pe_int (nomark _))), ?_⟩
    refine ⟨.int u, rfl, .int p, rfl, p, 2, rfl, rfl, ⟨by decide, by decide⟩, .int p, rfl, u, p / 2, p, rfl, by omega, by omega, by omega, rfl, ?_⟩
    exact to q (congrArg V.bl (by congr 1; exact propext ⟨fun z => congrArg V.int z, fun z => V.int.inj z⟩))
def spIsPlace : Sp := fun vs H Q _ => ∃ p : Int, vs = [.int p] ∧ (p = 0 ∨ PrimeOk p) ∧ ∀ H', Same H H' → Q (.bl true) H'
theorem ok_isPlace {f fW fP : Addr} {fd dW dP : FuncData} {t : Tok} (F : Fun K "is_place" "is_place" sIsPlace f fd) (GW : FnOk P w K mg base CX0 2 fW dW ["value", "least", "most"] spWithin) (mW : mg "is_within" = some (.ref fW)) (kW : PySem.W.keepIn K (.ref fW) = true) (bW : Binds K dW ["value", "least", "most"] [])
    (GP : FnOk P w K mg base CX0 3 fP dP ["number"] spPrime) (mP : mg "is_prime" = some (.ref fP)) (kP : PySem.W.keepIn K (.ref fP) = true) (bP : Binds K dP ["number"] []) (mS : mg "MOST_SIZE" = some (.int (10 ^ 12) t)) : FnOk P w K mg base CX0 4 f fd ["value"] spIsPlace := by
  refine F.ok scIsPlace (fun vs H Q E h => ?_) (fun cdv A outer s H vs Q E hr h => ?_)
  · obtain ⟨p, rfl, _⟩ := h
    rfl
  · obtain ⟨p, rfl, hp, q⟩ := h
    refine ⟨_, pss_one (ps_ret (pe_and (pe_call GW (hr.mono (by decide)) (by rfl) mW kW bW .nil pass0 (pa_cons (pv 0) (pa_cons pe_int (pa_cons (pe_glob (v := .int (10 ^ 12)) (by rfl) mS ⟨_, rfl⟩) pa_nil))))
      (pe_one (pe_or (pe_cmpR op_eq (pv 0) pe_int (nomark _)) (pe_one (pe_call GP hr (by rfl) mP kP bP .nil pass0 (pa_cons (pv 0) pa_nil))))))), ?_⟩
    have hb : 0 ≤ p ∧ p ≤ 10 ^ 12 := by
      rcases hp with rfl | z
      · decide
      · exact ⟨by have := z.two; omega, z.top⟩
    refine ⟨.int p, rfl, p, 0, 10 ^ 12, rfl, true, ?_, ?_⟩
    · rw [decide_eq_true hb]
    · refine iteT ⟨.int p, rfl, rfl, ?_⟩
      refine ⟨_, rfl, ?_⟩
      by_cases z : p = 0
      · subst z
        exact q _ (Same.refl _)
      · rw [if_neg (by simpa using z)]
        rcases hp with rfl | hp
        · exact absurd rfl z
        · exact ⟨.int p, rfl, p, rfl, hp, fun H' sm => q _ sm⟩
def spPlace : Sp := fun vs H Q _ => ∃ p : Int, vs = [.int p] ∧ (p = 0 ∨ PrimeOk p) ∧ ∀ H', Same H H' → Q .non H'
theorem ok_place {f g : Addr} {fd gd : FuncData} (F : Fun K "require_place" "require_place" sPlace f fd) (G : FnOk P w K mg base CX0 4 g gd ["value"] spIsPlace) (mG : mg "is_place" = some (.ref g)) (kG : PySem.W.keepIn K (.ref g) = true) (bG : Binds K gd ["value"] []) : FnOk P w K mg base CX0 5 f fd ["place"] spPlace := by
  refine F.ok scPlace (fun vs H Q E h => ?_) (fun cdv A outer s H vs Q E hr h => ?_)
  · obtain ⟨p, rfl, _⟩ := h
    rfl
  · obtain ⟨p, rfl, hp, q⟩ := h
    refine ⟨_, pss_one (ps_if (pt_not (pt_val (pe_call G hr (by rfl) mG kG bG .nil pass0 (pa_cons (pv 0) pa_nil)))) (pss_one ps_never) pss_nil), ?_⟩
    exact ⟨.int p, rfl, p, rfl, hp, fun H1 s1 => ⟨_, rfl, iteF (q _ s1)⟩⟩
def spLocal : Sp := fun vs H Q _ => ∃ n p : Int, vs = [.int n, .int p] ∧ n ≠ 0 ∧ ((p = 0 ∧ Q (.bl (decide (0 < n))) H) ∨ (2 ≤ p ∧ p < 1073741824 ∧ ∃ k u, Spl p n k u ∧ ∀ H', Same H H' → Q (.bl (sqB p k u)) H'))
theorem ok_local {f fS fR : Addr} {fd dS dR : FuncData} (F : Fun K "is_local_square" "is_local_square" sLocal f fd) (GS : FnOk P w K mg base CX0 1 fS dS ["number", "prime"] spSplit) (mS : mg "split_power" = some (.ref fS)) (kS : PySem.W.keepIn K (.ref fS) = true) (bS : Binds K dS ["number", "prime"] [])
    (GR : FnOk P w K mg base CX0 2 fR dR ["number", "prime"] spSqRest) (mR : mg "is_square_rest" = some (.ref fR)) (kR : PySem.W.keepIn K (.ref fR) = true) (bR : Binds K dR ["number", "prime"] []) : FnOk P w K mg base CX0 3 f fd ["number", "place"] spLocal := by
  refine F.ok scLocal (fun vs H Q E h => ?_) (fun cdv A outer s H vs Q E hr h => ?_)
  · obtain ⟨u, p, rfl, _⟩ := h
    rfl
  · obtain ⟨n, p, rfl, n0, hc⟩ := h
    refine ⟨_, pss_cons (ps_if (pt_cmpR op_eq (pv 1) pe_int (nomark _)) (pss_one (ps_ret (pe_cmpR op_gt (pv 0) pe_int (nomark _)))) pss_nil)
      (pss_cons (ps_asg (pe_call GS (hr.mono (by decide)) (by rfl) mS kS bS .nil pass0 (pa_cons (pv 0) (pa_cons (pv 1) pa_nil))) (pg_tup rfl (pgs_cons (pg_name (i := 2) scLocal.nd rfl (.inl rfl)) (pgs_cons (pg_name (i := 3) scLocal.nd rfl (.inl rfl)) pgs_nil))))
      (pss_cons (ps_if (pt_cmpR op_eq (pe_op op_mod (pv 2) pe_int) pe_int (nomark _)) (pss_one (ps_ret pe_bl)) pss_nil)
      (pss_one (ps_ret (pe_ifExp (pt_cmpR op_eq (pv 1) pe_int (nomark _)) (pe_cmpR op_eq (pe_op op_mod (pv 3) pe_int) pe_int (nomark _)) (pe_call GR hr (by rfl) mR kR bR .nil pass0 (pa_cons (pv 3) (pa_cons (pv 1) pa_nil)))))))), ?_⟩
    refine ⟨.int p, rfl, rfl, _, rfl, ite2 (fun z => ?_) (fun z => ?_)⟩
    · have e : p = 0 := V.int.inj (of_decide_eq_true z)
      rcases hc with ⟨_, q⟩ | ⟨h2, _⟩
      · exact ⟨.int n, rfl, n, 0, rfl, rfl, q⟩
      · omega
    · have e : p ≠ 0 := fun y => z (decide_eq_true (congrArg V.int y))
      rcases hc with ⟨y, _⟩ | ⟨p2, pb, k, u, hS, q⟩
      · exact absurd y e
      · refine ⟨.int n, rfl, .int p, rfl, n, p, k, u, rfl, p2, pb, n0, hS, fun t nt => ?_⟩
        have sm := same_new (o := .tup [.int k, .int u]) nt
        refine ⟨t, _, rfl, .inl (.inl upd_same), rfl, _, _, rfl, _, _, rfl, rfl, ?_⟩
        refine ⟨.int k, rfl, k, 2, rfl, rfl, (by show (0 : Int) < 2; decide), rfl, _, rfl, ite2 (fun z => ?_) (fun z => ?_)⟩
        · have e1 : (k : Int) % 2 = 1 := V.int.inj (of_decide_eq_true z)
          refine to (q _ sm) (congrArg V.bl ?_)
          unfold sqB
          rw [decide_eq_false (by omega)]
          rfl
        · have e1 : ¬ (k : Int) % 2 = 1 := fun y => z (decide_eq_true (congrArg V.int y))
          have e2 : sqB p k u = sqU p u := by
            unfold sqB
            rw [decide_eq_true (by omega)]
            rfl
          refine ⟨.int p, rfl, rfl, _, rfl, ite2 (fun y => ?_) (fun y => ?_)⟩
          · have p2 : p = 2 := V.int.inj (of_decide_eq_true y)
            refine ⟨.int u, rfl, u, 8, rfl, rfl, (by show (0 : Int) < 8; decide), rfl, ?_⟩
            refine to (q _ sm) (congrArg V.bl ?_)
            rw [e2]
            unfold sqU
            rw [if_pos p2]
            congr 1
            exact propext ⟨fun z => congrArg V.int z, fun z => V.int.inj z⟩
          · have p2' : p ≠ 2 := fun z => y (decide_eq_true (congrArg V.int z))
            refine ⟨.int u, rfl, .int p, rfl, u, p, rfl, p2, pb, ?_⟩
            refine to (q _ sm) (congrArg V.bl ?_)
            rw [e2]
            unfold sqU
            rw [if_neg p2']
def spSqAt : Sp := fun vs H Q _ => ∃ n p : Int, vs = [.int n, .int p] ∧ n ≠ 0 ∧ -(10 ^ 9) ≤ n ∧ n ≤ 10 ^ 9 ∧ ((p = 0 ∧ ∀ H', Same H H' → Q (.bl (decide (0 < n))) H') ∨ (PrimeOk p ∧ p < 1073741824 ∧ ∃ k u, Spl p n k u ∧ ∀ H', Same H H' → Q (.bl (sqB p k u)) H'))
theorem ok_sqat {f fO fP fL : Addr} {fd dO dP dL : FuncData} {t : Tok} (F : Fun K "is_square_at" "is_square_at" sSqAt f fd) (GO : FnOk P w K mg base CX0 4 fO dO ["number", "size"] spOther) (mO : mg "check_other_than_nought" = some (.ref fO)) (kO : PySem.W.keepIn K (.ref fO) = true) (bO : Binds K dO ["number", "size"] [])
    (GP : FnOk P w K mg base CX0 5 fP dP ["place"] spPlace) (mP : mg "require_place" = some (.ref fP)) (kP : PySem.W.keepIn K (.ref fP) = true) (bP : Binds K dP ["place"] [])
    (GL : FnOk P w K mg base CX0 3 fL dL ["number", "place"] spLocal) (mL : mg "is_local_square" = some (.ref fL)) (kL : PySem.W.keepIn K (.ref fL) = true) (bL : Binds K dL ["number", "place"] []) (mM : mg "MOST_OPERAND" = some (.int (10 ^ 9) t)) : FnOk P w K mg base CX0 6 f fd ["number", "place"] spSqAt := by
  refine F.ok scSqAt (fun vs H Q E h => ?_) (fun cdv A outer s H vs Q E hr h => ?_)
  · obtain ⟨u, p, rfl, _⟩ := h
    rfl
  · obtain ⟨n, p, rfl, n0, lo, hi, hc⟩ := h
    refine ⟨_, pss_cons (ps_expr (pe_call GO (hr.mono (by decide)) (by rfl) mO kO bO .nil pass0 (pa_cons (pv 0) (pa_cons (pe_glob (v := .int (10 ^ 9)) (by rfl) mM ⟨_, rfl⟩) pa_nil))))
      (pss_cons (ps_expr (pe_call GP hr (by rfl) mP kP bP .nil pass0 (pa_cons (pv 1) pa_nil)))
      (pss_one (ps_ret (pe_call GL (hr.mono (by decide)) (by rfl) mL kL bL .nil pass0 (pa_cons (pv 0) (pa_cons (pv 1) pa_nil)))))), ?_⟩
    refine ⟨.int n, rfl, n, 10 ^ 9, rfl, lo, hi, n0, ?_⟩
    refine ⟨.int p, rfl, p, rfl, ?_, fun H1 s1 => ?_⟩
    · rcases hc with ⟨z, _⟩ | ⟨z, _⟩
      · exact .inl z
      · exact .inr z
    · refine ⟨.int n, rfl, .int p, rfl, n, p, rfl, n0, ?_⟩
      rcases hc with ⟨z, q⟩ | ⟨z, pb, k, u, hS, q⟩
      · exact .inl ⟨z, q _ s1⟩
      · exact .inr ⟨z.two, pb, k, u, hS, fun H' s2 => q _ (s1.trans s2)⟩
end
end K28

namespace K28
open PySem PySem.Spec PyProof.Rows L2 NT
abbrev sChest : Stmt := topS 25
abbrev sFetch : Stmt := topS 26
abbrev sChoose : Stmt := topS 27
abbrev sSpl : Stmt := topS 28
abbrev sBy : Stmt := topS 29
abbrev sNum : Stmt := topS 30
abbrev sRight : Stmt := topS 31
abbrev sLaw : Stmt := topS 32
theorem scChest : FnScope ["_law_script", "_law_at", "_law_mixed", "_law_cell", "_law_own"] ["_law_script", "_law_at"] (defScope sChest) := ⟨rfl, rfl, rfl, by decide +kernel, rfl, by decide +kernel, by decide +kernel⟩
theorem scFetch : FnScope ["_law_chest_here", "_law_most", "_law_figure", "_law_mixed"] ["_law_chest_here", "_law_most"] (defScope sFetch) := ⟨rfl, rfl, rfl, by decide +kernel, rfl, by decide +kernel, by decide +kernel⟩
theorem scChoose : FnScope ["_law_chest_here", "_law_menu"] ["_law_chest_here", "_law_menu"] (defScope sChoose) := ⟨rfl, rfl, rfl, by decide +kernel, rfl, by decide +kernel, by decide +kernel⟩
theorem scSpl : FnScope ["_law_n", "_law_p", "_law_often", "_law_left", "_law_turn"] ["_law_n", "_law_p"] (defScope sSpl) := ⟨rfl, rfl, rfl, by decide +kernel, rfl, by decide +kernel, by decide +kernel⟩
theorem scBy : FnScope ["_law_n", "_law_p", "_law_often", "_law_left", "_law_size", "_law_own", "_law_k"] ["_law_n", "_law_p"] (defScope sBy) := ⟨rfl, rfl, rfl, by decide +kernel, rfl, by decide +kernel, by decide +kernel⟩
theorem scNum : FnScope ["_law_chest_here", "_law_p", "_law_found"] ["_law_chest_here", "_law_p"] (defScope sNum) := ⟨rfl, rfl, rfl, by decide +kernel, rfl, by decide +kernel, by decide +kernel⟩
theorem scRight : FnScope ["_law_chest_here", "_law_lap", "_law_p", "_law_a", "_law_b", "_law_one", "_law_two", "_law_told", "_law_root_here"] ["_law_chest_here"] (defScope sRight) := ⟨rfl, rfl, rfl, by decide +kernel, rfl, by decide +kernel, by decide +kernel⟩
theorem scLaw : FnScope ["_law_script", "_law_at"] ["_law_script"] (defScope sLaw) := ⟨rfl, rfl, rfl, by decide +kernel, rfl, by decide +kernel, by decide +kernel⟩
/-- a chest at c: what is left, the mixed number, how many were fetched -/
def ChB (H : Hp) (c : Addr) (B : Nat) : Prop := ∃ a b n : Int, H c = some (.lst [.int a, .int b, .int n]) ∧ 0 ≤ a ∧ 0 ≤ b ∧ b < 2 ^ 40 ∧ 0 ≤ n ∧ n < B
/-- all but c stands -/
def But (c : Addr) (H H' : Hp) : Prop := ∀ b o, b ≠ c → H b = some o → H' b = some o
theorem But.refl {c : Addr} {H : Hp} : But c H H := fun _ _ _ e => e
theorem But.trans {c : Addr} {H H1 H2 : Hp} (h : But c H H1) (h' : But c H1 H2) : But c H H2 := fun b o n e => h' b o n (h b o n e)
theorem But.same {c : Addr} {H H1 : Hp} (h : Same H H1) : But c H H1 := fun b o _ e => h b o e
theorem But.put {c : Addr} {H : Hp} {o : HO} : But c H (upd H c o) := fun b x n e => (upd_ne n).trans e
theorem ChB.mono {H : Hp} {c : Addr} {B B' : Nat} (h : ChB H c B) (l : B ≤ B') : ChB H c B' := by
  obtain ⟨a, b, n, e, h1, h2, h3, h4, h5⟩ := h
  exact ⟨a, b, n, e, h1, h2, h3, h4, by omega⟩
theorem ChB.same {H H' : Hp} {c : Addr} {B : Nat} (h : ChB H c B) (s : Same H H') : ChB H' c B := by
  obtain ⟨a, b, n, e, r⟩ := h
  exact ⟨a, b, n, s _ _ e, r⟩
theorem But.new {c p : Addr} {H : Hp} {o : HO} (h : H p = none) : But c H (upd H p o) := But.same (same_new h)
theorem ne_ite {c A B : Prop} [Decidable c] (h1 : ¬ c → A) (h2 : c → B) : if (!decide c) = true then A else B := by
  by_cases h : c
  · rw [decide_eq_true h]
    exact h2 h
  · rw [decide_eq_false h]
    exact h1 h
section
variable {P : Program} {w : World} {K : PySem.W.Frag} {mg : Str → Option Value} {base : Heap}
def spFetch : Sp := fun vs H Q _ => ∃ (c : Addr) (m : Int) (B : Nat), vs = [.ref c, .int m] ∧ 0 < m ∧ m < 1073741824 ∧ ChB H c B ∧ B ≤ 1000000 ∧ ∀ H' r, 0 ≤ r → r < m → But c H H' → ChB H' c (B + 1) → Q (.int r) H'
theorem ok_fetch {f : Addr} {fd : FuncData} (F : Fun K "_law_fetch" "_law_fetch" sFetch f fd) (mi : mg "int" = none) (md : mg "divmod" = none) : FnOk P w K mg base CX0 1 f fd ["_law_chest_here", "_law_most"] spFetch := by
  refine F.ok scFetch (fun vs H Q E h => ?_) (fun cdv A outer s H vs Q E hr h => ?_)
  · obtain ⟨c, m, B, rfl, _⟩ := h
    rfl
  · obtain ⟨c, m, B, rfl, m0, mb, ⟨a, b, n, hc, a0, b0, b1, n0, n1⟩, hB, q⟩ := h
    refine ⟨_, pss_cons (ps_if (pt_cmpR op_gt (pe_ix ix_list (pv 0) pe_int (fun _ _ => rfl)) pe_int (nomark _))
        (pss_cons (ps_asg (pe_callB call_divmod (by rfl) md boot_divmod (pa_cons (pe_ix ix_list (pv 0) pe_int (fun _ _ => rfl)) (pa_cons (pv 1) pa_nil)))
            (pg_tup rfl (pgs_cons (pg_sub (pv 0) pe_int set_list) (pgs_cons (pg_name (i := 2) scFetch.nd rfl (.inl rfl)) pgs_nil))))
        (pss_one (ps_ret (pv 2)))) pss_nil)
      (pss_cons (ps_asg (pe_op op_add (pe_ix ix_list (pv 0) pe_int (fun _ _ => rfl)) pe_int) (pg_sub (pv 0) pe_int set_list))
      (pss_cons (ps_set (i := 3) scFetch.nd rfl (.inl rfl) (pe_op op_mod (pe_callTy call_int1 (by rfl) mi boot_int (pa_cons (pe_op op_add (pe_op op_add (pe_op op_mul (pe_ix ix_list (pv 0) pe_int (fun _ _ => rfl)) pe_int)
          (pe_op op_mul (pe_op op_mul (pe_ix ix_list (pv 0) pe_int (fun _ _ => rfl)) (pe_ix ix_list (pv 0) pe_int (fun _ _ => rfl))) pe_int)) pe_int) pa_nil)) pe_int))
      (pss_cons (ps_asg (pe_op op_mod (pe_callTy call_int1 (by rfl) mi boot_int (pa_cons (pe_op op_add (pe_op op_mul (pv 3) (pe_op op_add pe_int (pe_op op_mod (pe_callTy call_int1 (by rfl) mi boot_int (pa_cons (pv 3) pa_nil)) pe_int))) pe_int) pa_nil)) pe_int) (pg_sub (pv 0) pe_int set_list))
      (pss_one (ps_ret (pe_op op_mod (pe_callTy call_int1 (by rfl) mi boot_int (pa_cons (pe_op op_fdiv (pe_ix ix_list (pv 0) pe_int (fun _ _ => rfl)) pe_int) pa_nil)) (pv 1))))))), ?_⟩
    have q1 : SqL K H c [.int a, .int b, .int n] := .inl (.inl hc)
    refine ⟨.ref c, rfl, c, _, 0, .int a, rfl, rfl, q1, rfl, a, 0, rfl, rfl, _, rfl, ite2 (fun z => ?_) (fun z => ?_)⟩
    · refine ⟨.ref c, rfl, c, _, 0, .int a, rfl, rfl, q1, rfl, .int m, rfl, a, m, rfl, ⟨m0, mb⟩, fun p np => ?_⟩
      have pc : c ≠ p := ne_of_none hc np
      refine ⟨p, _, rfl, .inl (.inl upd_same), rfl, _, _, rfl, .ref c, rfl, c, [.int a, .int b, .int n], 0, 0, rfl, rfl, (upd_ne pc).trans hc, rfl, _, _, rfl, rfl, ?_⟩
      refine ⟨.int (a % m), rfl, q _ _ (Int.emod_nonneg _ (by omega)) (Int.emod_lt_of_pos _ m0) ((But.new np).trans But.put) ⟨a / m, b, n, upd_same, Int.ediv_nonneg a0 (by omega), b0, b1, n0, by omega⟩⟩
    · refine ⟨.ref c, rfl, c, _, 2, .int n, rfl, rfl, q1, rfl, n, 1, rfl, rfl, .ref c, rfl, c, [.int a, .int b, .int n], 2, 2, rfl, rfl, hc, rfl, ?_⟩
      have q2 : SqL K (upd H c (.lst [.int a, .int b, .int (n + 1)])) c [.int a, .int b, .int (n + 1)] := .inl (.inl upd_same)
      refine ⟨.ref c, rfl, c, _, 1, .int b, rfl, rfl, q2, rfl, b, 45007, rfl, rfl, .inr ⟨by decide, by decide⟩, ?_⟩
      refine ⟨.ref c, rfl, c, _, 2, .int (n + 1), rfl, rfl, q2, rfl, .ref c, rfl, c, _, 2, .int (n + 1), rfl, rfl, q2, rfl, n + 1, n + 1, rfl, rfl, .inl ⟨by omega, by omega⟩, _, 137, rfl, rfl, .inr ⟨by decide, by decide⟩, _, _, rfl, rfl, _, 71, rfl, rfl, .inl ⟨_, rfl, _, 2147479819, rfl, rfl, (by show (0 : Int) < 2147479819; decide), ?_⟩⟩
      generalize b * 45007 + (n + 1) * (n + 1) * 137 + 71 = x
      have x0 : 0 ≤ x % 2147479819 := Int.emod_nonneg _ (by decide)
      have x1 : x % 2147479819 < 2147479819 := Int.emod_lt_of_pos _ (by decide)
      refine ⟨.int (x % 2147479819), rfl, .int (x % 2147479819), rfl, .inl ⟨_, rfl, _, 6011, rfl, rfl, (by show (0 : Int) < 6011; decide), 39041, _, rfl, rfl, _, _, rfl, rfl, .inl ⟨by omega, by omega⟩, _, 97, rfl, rfl, .inl ⟨_, rfl, _, 2147479903, rfl, rfl, (by show (0 : Int) < 2147479903; decide), ?_⟩⟩⟩
      generalize x % 2147479819 * (39041 + x % 2147479819 % 6011) + 97 = y
      have y0 : 0 ≤ y % 2147479903 := Int.emod_nonneg _ (by decide)
      have y1 : y % 2147479903 < 2147479903 := Int.emod_lt_of_pos _ (by decide)
      refine ⟨.ref c, rfl, c, [.int a, .int b, .int (n + 1)], 1, 1, rfl, rfl, upd_same, rfl, ?_⟩
      refine ⟨.ref c, rfl, c, [.int a, .int (y % 2147479903), .int (n + 1)], 1, .int (y % 2147479903), rfl, rfl, .inl (.inl upd_same), rfl, _, 512, rfl, rfl, ⟨by decide, by decide⟩, .inl ⟨_, rfl, .int m, rfl, _, m, rfl, rfl, m0, ?_⟩⟩
      exact q _ _ (Int.emod_nonneg _ (by omega)) (Int.emod_lt_of_pos _ m0) (But.put.trans But.put) ⟨a, y % 2147479903, n + 1, upd_same, a0, y0, by omega, by omega, by omega⟩
def spChoose : Sp := fun vs H Q _ => ∃ (c l : Addr) (xs : List V) (B : Nat), vs = [.ref c, .ref l] ∧ H l = some (.lst xs) ∧ l ≠ c ∧ 0 < xs.length ∧ xs.length < 1000 ∧ ChB H c B ∧ B ≤ 1000000 ∧ ∀ H' (j : Nat) x, xs[j]? = some x → But c H H' → ChB H' c (B + 1) → Q x H'
theorem ok_choose {f g : Addr} {fd gd : FuncData} (F : Fun K "_law_choose" "_law_choose" sChoose f fd) (G : FnOk P w K mg base CX0 1 g gd ["_law_chest_here", "_law_most"] spFetch) (mG : mg "_law_fetch" = some (.ref g)) (kG : PySem.W.keepIn K (.ref g) = true) (bG : Binds K gd ["_law_chest_here", "_law_most"] []) (ml : mg "len" = none) : FnOk P w K mg base CX0 2 f fd ["_law_chest_here", "_law_menu"] spChoose := by
  refine F.ok scChoose (fun vs H Q E h => ?_) (fun cdv A outer s H vs Q E hr h => ?_)
  · obtain ⟨c, m, xs, B, rfl, _⟩ := h
    rfl
  · obtain ⟨c, l, xs, B, rfl, hl, lc, l0, l1, hC, hB, q⟩ := h
    refine ⟨_, pss_one (ps_ret (pe_ix ix_list (pv 1) (pe_call G hr (by rfl) mG kG bG .nil pass0 (pa_cons (pv 0) (pa_cons (pe_callB call_len_seq (by rfl) ml PySem.boot_len (pa_cons (pv 1) pa_nil)) pa_nil))) (fun _ _ => rfl))), ?_⟩
    refine ⟨.ref l, rfl, .ref c, rfl, .ref l, rfl, l, xs, rfl, .inl (.inl (.inl hl)), c, xs.length, B, rfl, by omega, by omega, hC, hB, fun H' r r0 r1 hbut hch => ?_⟩
    obtain ⟨j, rfl⟩ : ∃ j : Nat, r = j := ⟨r.toNat, by omega⟩
    have hj : j < xs.length := by omega
    exact ⟨l, xs, j, xs[j], rfl, rfl, .inl (.inl (hbut _ _ lc hl)), atI_nat (List.getElem?_eq_getElem hj), q _ j _ (List.getElem?_eq_getElem hj) hbut hch⟩
/-! ### the law's own splitting, and by rests -/
theorem pow_big {p : Int} (hp : 2 ≤ p) : ∀ k : Nat, 2 ^ k ≤ (p ^ k).natAbs
  | 0 => by simp
  | k + 1 => by
    have ih := pow_big hp k
    rw [Int.pow_succ, Int.natAbs_mul, Nat.pow_succ]
    exact Nat.mul_le_mul ih (by omega)
def spSpl : Sp := fun vs H Q _ => ∃ (n p : Int) (k : Nat) (u : Int), vs = [.int n, .int p] ∧ 2 ≤ p ∧ p < 1073741824 ∧ n ≠ 0 ∧ n.natAbs < 1000000000000 ∧ Spl p n k u ∧ ∀ q, H q = none → Q (.ref q) (upd H q (.tup [.int k, .int u]))
theorem ok_spl {f : Addr} {fd : FuncData} (F : Fun K "_law_split" "_law_split" sSpl f fd) (mi : mg "int" = none) (mr : mg "range" = none) : FnOk P w K mg base CX0 1 f fd ["_law_n", "_law_p"] spSpl := by
  refine F.ok scSpl (fun vs H Q E h => ?_) (fun cdv A outer s H vs Q E hr h => ?_)
  · obtain ⟨n, p, k, u, rfl, _⟩ := h
    rfl
  · obtain ⟨n, p, k, u, rfl, p2, pb, n0, nb, hS, q⟩ := h
    refine ⟨_, pss_cons (ps_par (i := 2) (j := 3) rfl scSpl.nd rfl rfl (by decide) rfl rfl (pa_cons pe_int (pa_cons (pv 0) pa_nil)) (by rfl))
      (pss_cons (ps_for PassesOwn.never rfl (pi_range1 rfl mr (pa_cons pe_int pa_nil)) (pg_name (i := 4) scSpl.nd rfl (.inl rfl))
        (pss_cons (ps_if (pt_cmpR op_ne (pe_op op_mod (pe_callTy call_int1 (by rfl) mi boot_int (pa_cons (pv 3) pa_nil)) (pv 1)) pe_int (nomark _)) (pss_one ps_break) pss_nil)
        (pss_one (ps_par (i := 2) (j := 3) rfl scSpl.nd rfl rfl (by decide) rfl rfl (pa_cons (pe_op op_add (pv 2) pe_int) (pa_cons (pe_op op_fdiv (pv 3) (pv 1)) pa_nil)) (by rfl)))))
      (pss_one (ps_ret (pe_tup (pa_cons (pv 2) (pa_cons (pv 3) pa_nil)))))), ?_⟩
    refine ⟨.int n, rfl, .int 0, .int n, rfl, ?_⟩
    refine ⟨400, rfl, by decide, by decide, for_range (n := ((400 : Int).toNat)) (fun i σ H' => H' = H ∧ ∃ (n' : Int) (x : Option V), σ = [some (.int n), some (.int p), some (.int i), some (.int n'), x] ∧ n' ≠ 0 ∧ n = p ^ i * n')
      ⟨rfl, n, none, rfl, n0, by simp⟩ ?_ ?_⟩
    · rintro i σ H0 hi ⟨rfl, n', x, rfl, z0, e⟩
      refine ⟨.int n', rfl, .inl ⟨n', rfl, .int p, rfl, n', p, rfl, rfl, (by show 0 < p; omega), rfl, _, rfl, ne_ite (fun z => ?_) (fun z => ?_)⟩⟩
      · have hz : n' % p ≠ 0 := fun y => z (congrArg V.int y)
        obtain ⟨rfl, rfl⟩ := hS.uniq p2 ⟨e, hz⟩
        exact ⟨.int k, rfl, .int u, rfl, (by show 2 ≤ sizeLine; decide), q⟩
      · have hz : n' % p = 0 := V.int.inj z
        have e1 : n' = p * (n' / p) := by have := Int.mul_ediv_add_emod n' p; omega
        have q0 : n' / p ≠ 0 := fun y => by rw [y] at e1; simp at e1; exact z0 e1
        refine ⟨.int i, rfl, i, 1, rfl, rfl, .int n', rfl, .int p, rfl, n', p, rfl, rfl, ⟨by omega, pb⟩, _, _, rfl, rfl, n' / p, some (.int (0 + (i : Int))), rfl, q0, ?_⟩
        rw [e, Int.pow_succ, Int.mul_assoc, ← e1]
    · rintro σ H0 ⟨rfl, n', x, rfl, z0, e⟩
      exfalso
      have hb := pow_big p2 400
      have : n.natAbs = (p ^ 400).natAbs * n'.natAbs := by rw [← Int.natAbs_mul]; exact congrArg Int.natAbs e
      have h1 : (p ^ 400).natAbs * 1 ≤ (p ^ 400).natAbs * n'.natAbs := Nat.mul_le_mul_left _ (by omega)
      have h2 : 1000000000000 ≤ (2 : Nat) ^ 400 := by decide +kernel
      omega
end
end K28

namespace K28
open PySem PySem.Spec PyProof.Rows L2 NT
theorem dp_ints {K : PySem.W.Frag} {H : Hp} : ∀ ns : List Int, DpAll K H (ns.map V.int) (ns.map PyData.int)
  | [] => .nil
  | n :: ns => .cons (.int n) (dp_ints ns)
theorem sh_ints (ns : List Int) : SeqAt.shaped (.list (ns.map PyData.int)) = true := by
  have h1 : ∀ ns : List Int, PyData.canLay0 (.list (ns.map PyData.int)) = true := by
    intro ns
    induction ns with
    | nil => rfl
    | cons n ns ih => simpa [PyData.canLay0, PyData.canLayAll0] using ih
  have h2 : ∀ ns : List Int, PyData.depthAll (ns.map PyData.int) ≤ 1 := by
    intro ns
    induction ns with
    | nil => decide
    | cons n ns ih => simp only [List.map_cons, PyData.depthAll, PyData.depth]; omega
  unfold SeqAt.shaped
  rw [h1, Bool.true_and, decide_eq_true_eq]
  have := h2 ns
  simp only [PyData.depth]
  omega
theorem eq_nil (ns : List Int) : PyData.eqv (.list (ns.map PyData.int)) (.list []) = ns.isEmpty := by
  cases ns <;> rfl
section
variable {P : Program} {w : World} {K : PySem.W.Frag} {mg : Str → Option Value} {base : Heap}
def spBy : Sp := fun vs H Q _ => ∃ (n p : Int) (k : Nat) (u : Int), vs = [.int n, .int p] ∧ five p ∧ n ≠ 0 ∧ n.natAbs < 1000000000000 ∧ Spl p n k u ∧ ∀ H', Same H H' → Q (.bl (decide (k % 2 = 0) && restU p u)) H'
theorem ok_by {f g : Addr} {fd gd : FuncData} (F : Fun K "_law_by_rests" "_law_by_rests" sBy f fd) (G : FnOk P w K mg base CX0 1 g gd ["_law_n", "_law_p"] spSpl) (mG : mg "_law_split" = some (.ref g)) (kG : PySem.W.keepIn K (.ref g) = true) (bG : Binds K gd ["_law_n", "_law_p"] []) (mi : mg "int" = none) (mr : mg "range" = none) :
    FnOk P w K mg base CX0 2 f fd ["_law_n", "_law_p"] spBy := by
  refine F.ok scBy (fun vs H Q E h => ?_) (fun cdv A outer s H vs Q E hr h => ?_)
  · obtain ⟨n, p, k, u, rfl, _⟩ := h
    rfl
  · obtain ⟨n, p, k, u, rfl, hp, n0, nb, hS, q⟩ := h
    have hu : A.units + 3 + 64 < cLine := hr.units
    obtain ⟨_, p2, _, p13⟩ := five_prime hp
    have hz : ((rsz p : Nat) : Int) = if p = 2 then 8 else p := by
      unfold rsz
      by_cases e : p = 2
      · rw [if_pos e, if_pos e]; rfl
      · rw [if_neg e, if_neg e]; omega
    have z0 : 0 < rsz p := by
      have : (0 : Int) < (rsz p : Nat) := by rw [hz]; split <;> omega
      omega
    have z1 : rsz p ≤ 13 := by
      have : ((rsz p : Nat) : Int) ≤ 13 := by rw [hz]; split <;> omega
      omega
    -- the comprehension and the answer
    obtain ⟨tR, hR, qR⟩ : ∃ t, PSs (cxOf CX0 P w K mg base ["_law_n", "_law_p", "_law_often", "_law_left", "_law_size", "_law_own", "_law_k"] "_law_by_rests" (defScope sBy) f cdv A outer s H E).nox ((defBody sBy).drop 2) t ∧
        ∀ (sz : Int) H1, sz = (rsz p : Nat) → Same H H1 → t { nx := fun _ H' => Q .non H', rt := Q } [some (.int n), some (.int p), some (.int k), some (.int u), some (.int sz), none, none] H1 := by
      refine ⟨_, (pss_cons (ps_setLc (i := 5) (own := [("_law_k", 6)]) (g := gName 6) rfl scBy.nd rfl rfl (sw_true rfl rfl rfl (by decide +kernel)) (pi_range1 rfl mr (pa_cons (pv 4) pa_nil)) (blkOk_by (N := ["_law_n", "_law_p", "_law_often", "_law_left", "_law_size", "_law_own", "_law_k"]) (sc := defScope sBy) (by decide +kernel))
          (fun _ _ _ _ _ => pg_name (i := 6) scBy.nd rfl (.inl rfl)) (fun _ _ _ _ _ => pts_one (pt_cmpR op_eq (pe_op op_mod (pe_callTy call_int1 (by rfl) mi boot_int (pa_cons (pe_op op_sub (pe_op op_mul (pv 6) (pv 6)) (pv 3)) pa_nil)) (pv 4)) pe_int (nomark _))) (fun _ _ _ _ _ => pv 6))
        (pss_one (ps_ret (pe_and (pe_cmpR op_eq (pe_op op_mod (pe_callTy call_int1 (by rfl) mi boot_int (pa_cons (pv 2) pa_nil)) pe_int) pe_int (nomark _)) (pe_one (pe_cmpR (op_neD hu) (pv 5) (pe_lst pa_nil) (nomark _))))))), ?_⟩
      rintro sz H1 rfl sm
      refine ⟨.int (rsz p : Nat), rfl, ((rsz p : Nat) : Int), rfl, by omega, by omega, fun D nD => lc_range (lo := 0) (n := (((rsz p : Nat) : Int).toNat)) (fun i H' => Same H1 H' ∧ H' D = some (.lst (((((List.range i).filter fun j : Nat => decide (((j : Int) * j - u) % (rsz p : Nat) = 0))).map fun j : Nat => (j : Int)).map V.int))) ⟨same_new nD, upd_same⟩ ?_ ?_⟩
      · rintro i H' hi ⟨sm1, hD⟩
        have hi' : i < rsz p := by omega
        have e0 : (0 : Int) + i = i := by omega
        rw [e0]
        refine ⟨rfl, .int i, rfl, .int i, rfl, i, i, rfl, rfl, .inl ⟨by omega, by omega⟩, .int u, rfl, _, u, rfl, rfl, .inl ⟨_, rfl, .int (rsz p : Nat), rfl, _, _, rfl, rfl, (by show (0 : Int) < (rsz p : Nat); omega), rfl, _, rfl, ?_⟩⟩
        refine ite2 (fun z => ?_) (fun z => ?_)
        · have hd : ((i : Int) * i - u) % (rsz p : Nat) = 0 := V.int.inj (of_decide_eq_true z)
          refine ⟨.int i, rfl, _, hD, ?_, fun b o e => ?_, ?_⟩
          · rw [List.length_map, List.length_map]
            have := List.length_filter_le (fun j : Nat => decide (((j : Int) * j - u) % (rsz p : Nat) = 0)) (List.range i)
            rw [List.length_range] at this
            rw [sizeLine_eq]; omega
          · rw [upd_ne (ne_of_none e nD)]
            exact sm1 _ _ e
          · have ef : [i].filter (fun j : Nat => decide (((j : Int) * j - u) % (rsz p : Nat) = 0)) = [i] := by
              rw [List.filter_cons, decide_eq_true hd, if_pos rfl, List.filter_nil]
            rw [upd_same, List.range_succ, List.filter_append, ef, List.map_append, List.map_append]
            rfl
        · have hd : ¬ ((i : Int) * i - u) % (rsz p : Nat) = 0 := fun y => z (decide_eq_true (congrArg V.int y))
          refine ⟨sm1, ?_⟩
          have ef : [i].filter (fun j : Nat => decide (((j : Int) * j - u) % (rsz p : Nat) = 0)) = [] := by
            rw [List.filter_cons, decide_eq_false hd, if_neg Bool.false_ne_true, List.filter_nil]
          rw [hD, List.range_succ, List.filter_append, ef, List.append_nil]
      · rintro H' ⟨sm1, hD⟩
        have et : (((rsz p : Nat) : Int).toNat) = rsz p := rfl
        rw [et] at hD
        have er : ((List.range (rsz p)).filter fun j : Nat => decide (((j : Int) * j - u) % (rsz p : Nat) = 0)) = rests (rsz p) u := rfl
        rw [er] at hD
        refine ⟨.int k, rfl, .inl ⟨_, rfl, k, 2, rfl, rfl, (by show (0 : Int) < 2; decide), rfl, decide (k % 2 = 0), ?_, ?_⟩⟩
        · congr 1
          congr 1
          exact propext ⟨fun y => by have := V.int.inj y; omega, fun y => congrArg V.int (by omega)⟩
        · by_cases hk : k % 2 = 0
          · rw [if_pos (decide_eq_true hk)]
            refine ⟨.ref D, rfl, by show 0 ≤ sizeLine; exact Nat.zero_le _, fun L nL => ⟨.list ((rests (rsz p) u).map fun j => PyData.int (j : Nat)), .list [], ?_, .lst (.inl (.inl upd_same)) .nil, ?_, by decide, ?_⟩⟩
            · have e := dp_ints (K := K) (H := upd H' L (.lst [])) ((rests (rsz p) u).map fun j => ((j : Nat) : Int))
              rw [List.map_map] at e
              rw [List.map_map] at hD
              exact .lst (.inl (.inl ((upd_ne (ne_of_none hD nL)).trans hD))) (by rw [List.map_map] at e; exact e)
            · have e := sh_ints ((rests (rsz p) u).map fun j => ((j : Nat) : Int))
              rw [List.map_map] at e
              exact e
            · have e := eq_nil ((rests (rsz p) u).map fun j => ((j : Nat) : Int))
              rw [List.map_map] at e
              refine to (q _ (sm.trans (sm1.trans (same_new nL)))) (congrArg V.bl ?_)
              rw [decide_eq_true hk, Bool.true_and]
              show restU p u = !PyData.eqv (.list ((rests (rsz p) u).map fun j => PyData.int (j : Nat))) (.list [])
              have e2 : PyData.eqv (.list ((rests (rsz p) u).map fun j => PyData.int (j : Nat))) (.list []) = ((rests (rsz p) u).map fun j => ((j : Nat) : Int)).isEmpty := e
              rw [e2, List.isEmpty_map]
              rfl
          · rw [if_neg (by simpa using hk)]
            refine to (q _ (sm.trans sm1)) (congrArg V.bl ?_)
            rw [decide_eq_false hk]; rfl
    refine ⟨_, pss_cons (ps_asg (pe_call G hr (by rfl) mG kG bG .nil pass0 (pa_cons (pv 0) (pa_cons (pv 1) pa_nil))) (pg_tup rfl (pgs_cons (pg_name (i := 2) scBy.nd rfl (.inl rfl)) (pgs_cons (pg_name (i := 3) scBy.nd rfl (.inr rfl)) pgs_nil))))
      (pss_cons (ps_set (i := 4) scBy.nd rfl (.inr rfl) (pe_ifExp (pt_cmpR op_eq (pv 1) pe_int (nomark _)) pe_int (pv 1))) hR), ?_⟩
    refine ⟨.int n, rfl, .int p, rfl, n, p, k, u, rfl, p2, by omega, n0, nb, hS, fun t nt => ?_⟩
    refine ⟨t, _, rfl, .inl (.inl upd_same), rfl, _, _, rfl, _, _, rfl, rfl, ?_⟩
    refine ⟨.int p, rfl, rfl, _, rfl, ite2 (fun z => ?_) (fun z => ⟨.int p, rfl, ?_⟩)⟩
    · have e : p = 2 := V.int.inj (of_decide_eq_true z)
      exact qR 8 _ (by rw [hz, if_pos e]) (same_new nt)
    · have e : p ≠ 2 := fun y => z (decide_eq_true (congrArg V.int y))
      exact qR p _ (by rw [hz, if_neg e]) (same_new nt)
end
end K28

namespace K28
open PySem PySem.Spec PyProof.Rows L2 NT
theorem mem_get {α : Type} {xs : List α} {j : Nat} {x : α} (h : xs[j]? = some x) : x ∈ xs := List.mem_of_getElem? h
section
variable {P : Program} {w : World} {K : PySem.W.Frag} {mg : Str → Option Value} {base : Heap}
/-- the greatest number that is drawn -/
def spNum : Sp := fun vs H Q _ => ∃ (c : Addr) (p : Int) (B : Nat), vs = [.ref c, .int p] ∧ 0 ≤ p ∧ p ≤ 13 ∧ ChB H c B ∧ B + 3 ≤ 1000000 ∧ ∀ H' a, a ≠ 0 → -16900 ≤ a → a ≤ 16900 → But c H H' → ChB H' c (B + 3) → Q (.int a) H'
theorem ok_num {f g g2 : Addr} {fd gd gd2 : FuncData} (F : Fun K "_law_number" "_law_number" sNum f fd) (G : FnOk P w K mg base CX0 2 g gd ["_law_chest_here", "_law_menu"] spChoose) (mG : mg "_law_choose" = some (.ref g)) (kG : PySem.W.keepIn K (.ref g) = true) (bG : Binds K gd ["_law_chest_here", "_law_menu"] [])
    (G2 : FnOk P w K mg base CX0 1 g2 gd2 ["_law_chest_here", "_law_most"] spFetch) (mG2 : mg "_law_fetch" = some (.ref g2)) (kG2 : PySem.W.keepIn K (.ref g2) = true) (bG2 : Binds K gd2 ["_law_chest_here", "_law_most"] []) (mi : mg "int" = none) (mm : mg "max" = none) : FnOk P w K mg base CX0 3 f fd ["_law_chest_here", "_law_p"] spNum := by
  refine F.ok scNum (fun vs H Q E h => ?_) (fun cdv A outer s H vs Q E hr h => ?_)
  · obtain ⟨c, p, B, rfl, _⟩ := h
    rfl
  · obtain ⟨c, p, B, rfl, p0, p13, hC, hB, q⟩ := h
    refine ⟨_, pss_cons (ps_set (i := 2) scNum.nd rfl (.inl rfl) (pe_op op_mul (pe_call G hr (by rfl) mG kG bG .nil pass0 (pa_cons (pv 0) (pa_cons (pe_lst (pa_cons pe_int (pa_cons pe_int (pa_cons (pe_callB (call_max2 rfl) (by rfl) mm boot_max (pa_cons (pv 1) (pa_cons pe_int pa_nil)))
          (pa_cons (pe_op op_add (pe_op op_mul (pv 1) (pv 1)) (pe_callTy call_int1 (by rfl) mi boot_int (pa_cons (pe_cmpR op_eq (pv 1) pe_int (nomark _)) pa_nil))) (pa_cons pe_int pa_nil)))))) pa_nil)))
        (pe_op op_add pe_int (pe_call G2 (hr.mono (by decide)) (by rfl) mG2 kG2 bG2 .nil pass0 (pa_cons (pv 0) (pa_cons pe_int pa_nil))))))
      (pss_one (ps_ret (pe_op op_mul (pv 2) (pe_call G hr (by rfl) mG kG bG .nil pass0 (pa_cons (pv 0) (pa_cons (pe_lst (pa_cons pe_int (pa_cons pe_int (pa_cons (pe_un un_neg pe_int) pa_nil)))) pa_nil)))))), ?_⟩
    have hc := hC
    obtain ⟨_, _, _, ec, _⟩ := hC
    refine ⟨.ref c, rfl, .int p, rfl, p, 1, rfl, .int p, rfl, .int p, rfl, p, p, rfl, rfl, .inl ⟨by omega, by omega⟩, .int p, rfl, rfl, .inr ⟨_, rfl, _, _, rfl, rfl, (by show 5 ≤ sizeLine; decide), fun l nl => ?_⟩⟩
    have lc : l ≠ c := fun e => by rw [e, ec] at nl; cases nl
    refine ⟨c, l, _, B, rfl, upd_same, lc, (by show 0 < 5; decide), (by show 5 < 1000; decide), hc.same (same_new nl), by omega, fun H1 j x hx hb1 hc1 => ?_⟩
    have hm : ∃ m : Int, x = .int m ∧ 0 < m ∧ m ≤ 169 := by
      have pp : 0 ≤ p * p := Int.mul_nonneg p0 p0
      have pp2 : p * p ≤ 13 * 13 := Int.mul_le_mul p13 p13 p0 (by decide)
      have hx := mem_get hx
      simp only [List.mem_cons, List.not_mem_nil, or_false] at hx
      rcases hx with rfl | rfl | rfl | rfl | rfl
      · exact ⟨1, rfl, by decide, by decide⟩
      · exact ⟨1, rfl, by decide, by decide⟩
      · refine ⟨_, rfl, ?_, ?_⟩ <;> split <;> omega
      · refine ⟨_, rfl, ?_, ?_⟩
        · by_cases e : p = 0
          · subst e; decide
          · have : 1 * 1 ≤ p * p := Int.mul_le_mul (by omega) (by omega) (by decide) p0
            split <;> omega
        · by_cases e : p = 0
          · subst e; decide
          · have : decide (V.int p = V.int 0) = false := decide_eq_false fun y => e (V.int.inj y)
            show p * p + (if decide (V.int p = V.int 0) = true then 1 else 0) ≤ 169
            rw [this]
            simp; omega
      · exact ⟨4, rfl, by decide, by decide⟩
    obtain ⟨m, rfl, m0, m1⟩ := hm
    refine ⟨.ref c, rfl, c, 100, B + 1, rfl, by decide, by decide, hc1, by omega, fun H2 r r0 r1 hb2 hc2 => ?_⟩
    have v0 : 1 * 1 ≤ m * (1 + r) := Int.mul_le_mul (by omega) (by omega) (by decide) (by omega)
    have v1 : m * (1 + r) ≤ 169 * 100 := Int.mul_le_mul m1 (by omega) (by omega) (by decide)
    refine ⟨1, r, rfl, rfl, m, 1 + r, rfl, rfl, .inl ⟨by omega, by omega⟩, ?_⟩
    refine ⟨.int (m * (1 + r)), rfl, .ref c, rfl, 1, rfl, (by show 3 ≤ sizeLine; decide), fun l2 nl2 => ?_⟩
    have hc2' := hc2
    obtain ⟨_, _, _, ec2, _⟩ := hc2
    have lc2 : l2 ≠ c := fun e => by rw [e, ec2] at nl2; cases nl2
    refine ⟨c, l2, _, B + 2, rfl, upd_same, lc2, (by show 0 < 3; decide), (by show 3 < 1000; decide), hc2'.same (same_new nl2), by omega, fun H3 j x hx hb3 hc3 => ?_⟩
    have hx := mem_get hx
    have hbut : But c H H3 := (But.new nl).trans (hb1.trans (hb2.trans ((But.new nl2).trans hb3)))
    simp only [List.mem_cons, List.not_mem_nil, or_false] at hx
    rcases hx with rfl | rfl | rfl
    · refine ⟨_, 1, rfl, rfl, .inl ⟨by omega, by omega⟩, q _ _ (by omega) (by omega) (by omega) hbut hc3⟩
    · refine ⟨_, 1, rfl, rfl, .inl ⟨by omega, by omega⟩, q _ _ (by omega) (by omega) (by omega) hbut hc3⟩
    · refine ⟨_, -1, rfl, rfl, .inl ⟨by omega, by omega⟩, q _ _ (by omega) (by omega) (by omega) hbut hc3⟩
/-! ### a chest is made -/
def spChest (K : PySem.W.Frag) : Sp := fun vs H Q _ => ∃ (a : Addr) (ns : List Int) (i : Nat), vs = [.ref a, .int i] ∧ SqL K H a (ns.map V.int) ∧ i ≤ 2 ∧ ns.length ≤ 63 ∧ ∀ H' c, Same H H' → H c = none → ChB H' c 1 → Q (.ref c) H'
theorem cut6 (ns : List Int) : cutV (ns.map V.int) none (some 6) = (ns.take 6).map V.int := by
  unfold cutV
  rw [show HT.sIx (ns.map V.int).length 0 none = 0 from HT.sIx_none _ _, List.drop_zero, Nat.sub_zero, show HT.sIx (ns.map V.int).length (ns.map V.int).length (some 6) = min 6 (ns.map V.int).length from HT.sIx_nat _ _ 6, List.map_take]
  by_cases h : 6 ≤ (ns.map V.int).length
  · rw [Nat.min_eq_left h]
  · rw [Nat.min_eq_right (by omega), List.take_of_length_le Nat.le.refl, List.take_of_length_le (show _ ≤ 6 by omega)]
theorem ok_chest {f : Addr} {fd : FuncData} (F : Fun K "_law_chest" "_law_chest" sChest f fd) (mi : mg "int" = none) (ml : mg "len" = none) (ma : mg "abs" = none) : FnOk P w K mg base CX0 1 f fd ["_law_script", "_law_at"] (spChest K) := by
  refine F.ok scChest (fun vs H Q E h => ?_) (fun cdv A outer s H vs Q E hr h => ?_)
  · obtain ⟨a, ns, i, rfl, _⟩ := h
    rfl
  · obtain ⟨a, ns, i, rfl, hS, hi, hl, q⟩ := h
    have md : (0 : Int) < 2147479819 := by decide
    obtain ⟨tR, hR, qR⟩ : ∃ t, PSs (cxOf CX0 P w K mg base ["_law_script", "_law_at", "_law_mixed", "_law_cell", "_law_own"] "_law_chest" (defScope sChest) f cdv A outer s H E).nox ((defBody sChest).drop 3) t ∧
        ∀ (mx own : Int) (x3 : Option V) H1, 0 ≤ mx → mx < 2147479819 → Same H H1 → t { nx := fun _ H' => Q .non H', rt := Q } [some (.ref a), some (.int i), some (.int mx), x3, some (.int own)] H1 := by
      refine ⟨_, pss_one (ps_ret (pe_lst (pa_cons (pe_ifExp (pt_cmpR op_ge (pe_callB call_abs (by rfl) ma boot_abs (pa_cons (pv 4) pa_nil)) (pe_op op_pow pe_int pe_int) (nomark _)) (pe_callB call_abs (by rfl) ma boot_abs (pa_cons (pv 4) pa_nil)) pe_int)
        (pa_cons (pe_op op_mod (pe_callTy call_int1 (by rfl) mi boot_int (pa_cons (pe_op op_add (pe_op op_add (pe_op op_mul (pv 2) pe_int) (pe_op op_mul (pv 4) pe_int)) pe_int) pa_nil)) pe_int) (pa_cons pe_int pa_nil))))), ?_⟩
      intro mx own x3 H1 m0 m1 sm
      have ab : 0 ≤ (if own < 0 then -own else own) := by split <;> omega
      refine ⟨.int own, rfl, own, rfl, 10, 17, rfl, rfl, ⟨by decide, by decide, by decide⟩, _, _, rfl, rfl, _, rfl, ite2 (fun _ => ⟨.int own, rfl, own, rfl, ?_⟩) (fun _ => ?_)⟩
      · refine ⟨.int mx, rfl, mx, 97, rfl, rfl, .inr ⟨by decide, by decide⟩, .int own, rfl, own, 59, rfl, rfl, .inr ⟨by decide, by decide⟩, _, _, rfl, rfl, _, 43, rfl, rfl, .inl ⟨_, rfl, _, 2147479819, rfl, rfl, md, (by show 3 ≤ sizeLine; decide), fun c nc => ?_⟩⟩
        exact q _ c (sm.trans (same_new nc)) (sm.free nc) ⟨_, _, 0, upd_same, ab, Int.emod_nonneg _ (by decide), Int.lt_trans (Int.emod_lt_of_pos _ md) (by decide), by decide, by decide⟩
      · refine ⟨.int mx, rfl, mx, 97, rfl, rfl, .inr ⟨by decide, by decide⟩, .int own, rfl, own, 59, rfl, rfl, .inr ⟨by decide, by decide⟩, _, _, rfl, rfl, _, 43, rfl, rfl, .inl ⟨_, rfl, _, 2147479819, rfl, rfl, md, (by show 3 ≤ sizeLine; decide), fun c nc => ?_⟩⟩
        exact q _ c (sm.trans (same_new nc)) (sm.free nc) ⟨_, _, 0, upd_same, Int.le_refl 0, Int.emod_nonneg _ (by decide), Int.lt_trans (Int.emod_lt_of_pos _ md) (by decide), by decide, by decide⟩
    refine ⟨_, pss_cons (ps_set (i := 2) scChest.nd rfl (.inl rfl) (pe_op op_add pe_int (pe_op op_mul pe_int (pv 1))))
      (pss_cons (ps_for PassesOwn.never rfl (pi_list (pe_slice sl_list (pv 0) po_none (po_some pe_int))) (pg_name (i := 3) scChest.nd rfl (.inl rfl))
        (pss_one (ps_set (i := 2) scChest.nd rfl (.inl rfl) (pe_op op_mod (pe_callTy call_int1 (by rfl) mi boot_int (pa_cons (pe_op op_add (pe_op op_mul (pv 2) pe_int) (pv 3)) pa_nil)) pe_int))))
      (pss_cons (ps_set (i := 4) scChest.nd rfl (.inl rfl) (pe_ifExp (pt_cmpR op_lt (pv 1) (pe_callB call_len_seq (by rfl) ml PySem.boot_len (pa_cons (pv 0) pa_nil)) (nomark _)) (pe_ix ix_list (pv 0) (pv 1) (fun _ _ => rfl)) (pe_op op_add (pe_op op_mul pe_int (pv 1)) pe_int))) hR)), ?_⟩
    refine ⟨.int i, rfl, 8009, i, rfl, rfl, .inl ⟨by decide, by decide⟩, 39019, _, rfl, rfl, .ref a, rfl, 6, rfl, a, _, rfl, hS, fun l nl => ?_⟩
    have sm := same_new (o := .lst (cutV (ns.map V.int) none (some 6))) nl
    have hL : SqL K (upd H l (.lst (cutV (ns.map V.int) none (some 6)))) l ((ns.take 6).map V.int) := by
      rw [← cut6]
      exact .inl (.inl upd_same)
    refine ⟨l, rfl, ⟨_, hL⟩, for_list (xs := (ns.take 6).map V.int) (fun j σ H' => H' = upd H l (.lst (cutV (ns.map V.int) none (some 6))) ∧ ∃ (mx : Int) (x3 : Option V), σ = [some (.ref a), some (.int i), some (.int mx), x3, none] ∧ 0 ≤ mx ∧ mx < 2147479819)
      ⟨rfl, 39019 + 8009 * i, none, rfl, by omega, by omega⟩ (fun j σ H' _ hP => hP.1 ▸ hL) ?_ ?_⟩
    · rintro j x σ H' hx ⟨rfl, mx, x3, rfl, m0, m1⟩
      rw [List.getElem?_map] at hx
      obtain ⟨v, hv, rfl⟩ := Option.map_eq_some_iff.mp hx
      refine ⟨.int mx, rfl, mx, 31013, rfl, rfl, .inr ⟨by decide, by decide⟩, .int v, rfl, _, v, rfl, rfl, .inl ⟨_, rfl, _, 2147479819, rfl, rfl, md, rfl, _, some (.int v), rfl, Int.emod_nonneg _ (by decide), Int.emod_lt_of_pos _ md⟩⟩
    · rintro σ H' ⟨rfl, mx, x3, rfl, m0, m1⟩
      have hS2 : SqL K (upd H l (.lst (cutV (ns.map V.int) none (some 6)))) a (ns.map V.int) := sm.seq hS
      refine ⟨.int i, rfl, .ref a, rfl, a, _, rfl, .inl hS2, i, _, rfl, rfl, _, rfl, ite2 (fun z => ?_) (fun z => ?_)⟩
      · have hlt : (i : Int) < ((ns.map V.int).length : Nat) := of_decide_eq_true z
        have hlt2 : i < ns.length := by rw [List.length_map] at hlt; omega
        refine ⟨.ref a, rfl, .int i, rfl, a, _, i, .int ns[i], rfl, rfl, hS2, atI_nat ?_, qR mx _ x3 _ m0 m1 sm⟩
        rw [List.getElem?_map, List.getElem?_eq_getElem hlt2]
        rfl
      · exact ⟨.int i, rfl, 67, i, rfl, rfl, .inl ⟨by decide, by decide⟩, _, 37, rfl, rfl, qR mx _ x3 _ m0 m1 sm⟩
end
end K28

namespace K28
open PySem PySem.Spec PyProof.Rows L2 NT
theorem bools3 (x y z : Bool) : (PyData.list [.bool x, .bool y, .bool z]).showable = true ∧ (PyData.list [.bool x, .bool y, .bool z]).hasDict = false ∧ (PyData.list [.bool x, .bool y, .bool z]).depth < 60 ∧ (PyData.list [.bool x, .bool y, .bool z]).shown.length ≤ sizeLine := by
  cases x <;> cases y <;> cases z <;> exact ⟨rfl, rfl, by decide +kernel, by decide +kernel⟩
section
variable {P : Program} {w : World} {K : PySem.W.Frag} {mg : Str → Option Value} {base : Heap}
theorem dp3 {H : Hp} {a : Addr} {x y z : Bool} (h : H a = some (.lst [.bl x, .bl y, .bl z])) : Dp K H (.ref a) (.list [.bool x, .bool y, .bool z]) :=
  .lst (.inl (.inl h)) (.cons (.bl _) (.cons (.bl _) (.cons (.bl _) .nil)))
/-- is_square_at(place = .., number = ..) -/
theorem sq_kw {f : Addr} {fd : FuncData} (F : Fun K "is_square_at" "is_square_at" sSqAt f fd) : KBn K fd ["number", "place"] 0 ["place", "number"] (fun _ ws => [ws.getD 1 .none, ws.getD 0 .none]) (fun _ zs => [zs.getD 1 .non, zs.getD 0 .non]) := by
  obtain ⟨_, _, kV, doc, pm, an, cdv, ct, _, rfl, _, _⟩ := F.ex
  refine ⟨fun s us ws X h1 h2 => .of_eq ?_, fun _ rz => ?_⟩
  · match us, ws, h1, h2 with
    | [], [_, _], _, _ => rfl
  · cases rz with
    | nil => exact .cons rfl (.cons rfl .nil)
    | cons r1 r2 =>
      cases r2 with
      | nil => exact .cons rfl (.cons r1 .nil)
      | cons r2 _ => exact .cons r2 (.cons r1 .nil)
def spBy2 : Sp := fun vs H Q _ => ∃ (n p : Int) (k : Nat) (u : Int), vs = [.int n, .int p] ∧ five p ∧ n ≠ 0 ∧ n.natAbs < 1000000000000 ∧ Spl p n k u ∧ ∀ H', Same H H' → Q (.bl (sqB p k u)) H'
theorem by2 {f : Addr} {fd : FuncData} (F : FnOk P w K mg base CX0 2 f fd ["_law_n", "_law_p"] spBy) : FnOk P w K mg base CX0 2 f fd ["_law_n", "_law_p"] spBy2 :=
  F.imp fun vs H Q E ⟨n, p, k, u, e, hp, n0, nb, hS, q⟩ => ⟨n, p, k, u, e, hp, n0, nb, hS, fun H' sm => to (q H' sm) (congrArg V.bl (by unfold sqB; rw [sq_rest hp hS.nd]))⟩
def spRight : Sp := fun vs H Q _ => ∃ c : Addr, vs = [.ref c] ∧ ChB H c 10 ∧ ∀ H', But c H H' → Q (.bl true) H'
structure Knows (P : Program) (w : World) (K : PySem.W.Frag) (mg : Str → Option Value) (base : Heap) (fN fB fS fF fC : Addr) (dN dB dS dF dC : FuncData) : Prop where
  N : FnOk P w K mg base CX0 3 fN dN ["_law_chest_here", "_law_p"] spNum
  mN : mg "_law_number" = some (.ref fN)
  kN : PySem.W.keepIn K (.ref fN) = true
  bN : Binds K dN ["_law_chest_here", "_law_p"] []
  B : FnOk P w K mg base CX0 2 fB dB ["_law_n", "_law_p"] spBy2
  mB : mg "_law_by_rests" = some (.ref fB)
  kB : PySem.W.keepIn K (.ref fB) = true
  bB : Binds K dB ["_law_n", "_law_p"] []
  S : FnOk P w K mg base CX0 6 fS dS ["number", "place"] spSqAt
  mS : mg "is_square_at" = some (.ref fS)
  kS : PySem.W.keepIn K (.ref fS) = true
  bS : Binds K dS ["number", "place"] []
  wS : KBn K dS ["number", "place"] 0 ["place", "number"] (fun _ ws => [ws.getD 1 .none, ws.getD 0 .none]) (fun _ zs => [zs.getD 1 .non, zs.getD 0 .non])
  F : FnOk P w K mg base CX0 1 fF dF ["_law_chest_here", "_law_most"] spFetch
  mF : mg "_law_fetch" = some (.ref fF)
  kF : PySem.W.keepIn K (.ref fF) = true
  bF : Binds K dF ["_law_chest_here", "_law_most"] []
  C : FnOk P w K mg base CX0 2 fC dC ["_law_chest_here", "_law_menu"] spChoose
  mC : mg "_law_choose" = some (.ref fC)
  kC : PySem.W.keepIn K (.ref fC) = true
  bC : Binds K dC ["_law_chest_here", "_law_menu"] []
  mr : mg "range" = none
  mp : mg "repr" = none
theorem five_at {i : Nat} {x : V} (h : ([.int 2, .int 3, .int 5, .int 7, .int 13] : List V)[i]? = some x) : ∃ p, x = .int p ∧ five p := by
  have h := mem_get h
  simp only [List.mem_cons, List.not_mem_nil, or_false] at h
  rcases h with rfl | rfl | rfl | rfl | rfl
  · exact ⟨_, rfl, .inl rfl⟩
  · exact ⟨_, rfl, .inr (.inl rfl)⟩
  · exact ⟨_, rfl, .inr (.inr (.inl rfl))⟩
  · exact ⟨_, rfl, .inr (.inr (.inr (.inl rfl)))⟩
  · exact ⟨_, rfl, .inr (.inr (.inr (.inr rfl)))⟩
/-- the places of the second loop -/
def Big (p : Int) : Prop := p = 0 ∨ (PrimeOk p ∧ Prime p.toNat ∧ 2 ≤ p ∧ (p = 2 ∨ p % 2 = 1) ∧ p < 1073741824)
theorem big_menu {j : Nat} {x : V} (h : ([.int 999983, .int 1000003, .int 10007, .int 101, .int 17] : List V)[j]? = some x) : ∃ p, x = .int p ∧ Big p := by
  have h := mem_get h
  simp only [List.mem_cons, List.not_mem_nil, or_false] at h
  rcases h with rfl | rfl | rfl | rfl | rfl
  · exact ⟨_, rfl, .inr ⟨pk999983, prime_by 1000 (by decide +kernel), by decide, by decide, by decide⟩⟩
  · exact ⟨_, rfl, .inr ⟨pk1000003, prime_by 1001 (by decide +kernel), by decide, by decide, by decide⟩⟩
  · exact ⟨_, rfl, .inr ⟨pk10007, prime_by 101 (by decide +kernel), by decide, by decide, by decide⟩⟩
  · exact ⟨_, rfl, .inr ⟨pk101, prime_by 11 (by decide +kernel), by decide, by decide, by decide⟩⟩
  · exact ⟨_, rfl, .inr ⟨pk17, prime_by 5 (by decide +kernel), by decide, by decide, by decide⟩⟩
theorem big_five {p : Int} (h : five p) : Big p := by
  obtain ⟨a, b, c, d⟩ := five_prime h
  exact .inr ⟨pk_five h, a, b, c, by omega⟩
/-- squares are squares at all of these -/
theorem sq_own {p n : Int} (hp : Big p) (n0 : n ≠ 0) (lo : n * n ≤ 10 ^ 9) {H : Hp} {Q : VK} (q : ∀ H', Same H H' → Q (.bl true) H') : spSqAt [.int (n * n), .int p] H Q E0 := by
  have nn : 0 < n * n := by
    rcases Int.lt_or_gt_of_ne n0 with h | h
    · exact Int.mul_pos_of_neg_of_neg h h
    · exact Int.mul_pos h h
  refine ⟨n * n, p, rfl, by omega, by omega, lo, ?_⟩
  rcases hp with rfl | ⟨h1, h2, h3, h4, h5⟩
  · exact .inl ⟨rfl, fun H' sm => to (q H' sm) (congrArg V.bl (decide_eq_true nn).symm)⟩
  · obtain ⟨k, u, hs⟩ := Spl.ex h3 _ n (Nat.le_refl _) n0
    obtain ⟨k', u', hs', e⟩ := sqB_self h2 (by omega) h4 hs
    exact .inr ⟨h1, h5, k', u', hs', fun H' sm => to (q H' sm) (congrArg V.bl e.symm)⟩
end
end K28

namespace K28
open PySem PySem.Spec PyProof.Rows L2 NT
section
variable {P : Program} {w : World} {K : PySem.W.Frag} {mg : Str → Option Value} {base : Heap}
theorem keep {c l : Addr} {H H1 : Hp} {o : HO} (h : But c H H1) (e : H l = some o) (n : l ≠ c) : H1 l = some o := h l o n e
theorem ne_new {c l : Addr} {H : Hp} {B : Nat} (h : ChB H c B) (n : H l = none) : l ≠ c := by
  obtain ⟨_, _, _, e, _⟩ := h
  intro z
  rw [z, e] at n
  cases n
theorem not_ite {b : Bool} {A B : Prop} (h : b = true) (k : B) : if (!b) = true then A else B := by
  rw [h]
  exact iteF k
theorem isnot_ite {b : Bool} {A B : Prop} (h : b = true) (k : B) : if (b != true) = true then A else B := by
  rw [h]
  exact iteF k
theorem e13 : sqB 13 0 (-1) = true := by decide +kernel
theorem e7 : sqB 7 0 (-1) = false := by decide +kernel
theorem ok_right {f fN fB fS fF fC : Addr} {fd dN dB dS dF dC : FuncData} (F : Fun K "_law_right" "_law_right" sRight f fd) (T : Knows P w K mg base fN fB fS fF fC dN dB dS dF dC) : Gu.GOk P w K mg base CX0 7 f fd ["_law_chest_here"] spRight := by
  refine Gu.GOk.fun F scRight (fun vs H Q E h => ?_) (fun cdv A out s H vs Q E hG hr h => ?_)
  · obtain ⟨c, rfl, _⟩ := h
    rfl
  · obtain ⟨c, rfl, hC, q⟩ := h
    have hu : A.units + 3 + 64 < cLine := hr.units
    have nd := scRight.nd
    refine ⟨_, pss_cons (ps_for PassesOwn.never rfl (pi_range1 rfl T.mr (pa_cons pe_int pa_nil)) (pg_name (i := 1) nd rfl (.inl rfl))
        (pss_cons (ps_for PassesOwn.never rfl (pi_list (pe_lst (pa_cons pe_int (pa_cons pe_int (pa_cons pe_int (pa_cons pe_int (pa_cons pe_int pa_nil))))))) (pg_name (i := 2) nd rfl (.inl rfl))
          (pss_cons (ps_par (i := 3) (j := 4) rfl nd rfl rfl (by decide) rfl rfl (pa_cons (pe_call T.N (hr.mono (by decide)) (by rfl) T.mN T.kN T.bN .nil pass0 (pa_cons (pv 0) (pa_cons (pv 2) pa_nil))) (pa_cons (pe_call T.N (hr.mono (by decide)) (by rfl) T.mN T.kN T.bN .nil pass0 (pa_cons (pv 0) (pa_cons (pv 2) pa_nil))) pa_nil)) (by rfl))
          (pss_cons (ps_par (i := 5) (j := 6) rfl nd rfl rfl (by decide) rfl rfl (pa_cons (pe_call T.B (hr.mono (by decide)) (by rfl) T.mB T.kB T.bB .nil pass0 (pa_cons (pv 3) (pa_cons (pv 2) pa_nil))) (pa_cons (pe_call T.B (hr.mono (by decide)) (by rfl) T.mB T.kB T.bB .nil pass0 (pa_cons (pv 4) (pa_cons (pv 2) pa_nil))) pa_nil)) (by rfl))
          (pss_cons (ps_set (i := 7) nd rfl (.inl rfl) (pe_lst (pa_cons (pe_call T.S hr (by rfl) T.mS T.kS T.bS .nil pass0 (pa_cons (pv 3) (pa_cons (pv 2) pa_nil)))
              (pa_cons (Gu.pe_callO T.S hr (by rfl) T.mS T.kS T.wS pass0 (pk_cons (pv 2) (pk_cons (pv 3) pk_nil)))
              (pa_cons (pe_call T.S hr (by rfl) T.mS T.kS T.bS .nil pass0 (pa_cons (pv 4) (pa_cons (pv 2) pa_nil))) pa_nil)))))
          (pss_cons (ps_if (pt_cmpR op_ne (pe_callB (Gu.call_reprD hG hu) (by rfl) T.mp boot_repr (pa_cons (pv 7) pa_nil)) (pe_callB (Gu.call_reprD hG hu) (by rfl) T.mp boot_repr (pa_cons (pe_lst (pa_cons (pv 5) (pa_cons (pv 5) (pa_cons (pv 6) pa_nil)))) pa_nil)) (nomark _)) (pss_one (ps_ret pe_bl)) pss_nil)
          (pss_one (ps_if (PW.pt (pw_or (PW.pt (pw_and (PW.pt (pw_or (pt_val (pv 5)) (pw_or1 (pt_val (pv 6))))) (pw_and1 (pt_cmpR op_ne (pe_call T.S hr (by rfl) T.mS T.kS T.bS .nil pass0 (pa_cons (pe_op op_mul (pv 3) (pv 4)) (pa_cons (pv 2) pa_nil))) (pe_and (pv 5) (pe_one (pv 6))) (nomark _)))))
              (pw_or1 (pt_not (pt_val (pe_call T.S hr (by rfl) T.mS T.kS T.bS .nil pass0 (pa_cons (pe_op op_mul (pv 3) (pv 3)) (pa_cons (pv 2) pa_nil)))))))) (pss_one (ps_ret pe_bl)) pss_nil)))))))
        (pss_cons (ps_set (i := 8) nd rfl (.inl rfl) (pe_op op_add pe_int (pe_call T.F (hr.mono (by decide)) (by rfl) T.mF T.kF T.bF .nil pass0 (pa_cons (pv 0) (pa_cons pe_int pa_nil)))))
        (pss_cons (ps_for PassesOwn.never rfl (pi_list (pe_lst (pa_cons pe_int (pa_cons pe_int (pa_cons pe_int (pa_cons (pe_call T.C (hr.mono (by decide)) (by rfl) T.mC T.kC T.bC .nil pass0 (pa_cons (pv 0) (pa_cons (pe_lst (pa_cons pe_int (pa_cons pe_int (pa_cons pe_int (pa_cons pe_int (pa_cons pe_int pa_nil)))))) pa_nil))) pa_nil)))))) (pg_name (i := 2) nd rfl (.inl rfl))
          (pss_one (ps_if (pt_cmpR Gu.op_isB (pe_call T.S hr (by rfl) T.mS T.kS T.bS .nil pass0 (pa_cons (pe_op op_mul (pv 8) (pv 8)) (pa_cons (pv 2) pa_nil))) pe_bl (nomark _)) (pss_one (ps_ret pe_bl)) pss_nil)))
        (pss_cons (ps_set (i := 3) nd rfl (.inl rfl) (pe_call T.N (hr.mono (by decide)) (by rfl) T.mN T.kN T.bN .nil pass0 (pa_cons (pv 0) (pa_cons pe_int pa_nil))))
        (pss_one (ps_if (pt_cmpR op_ne (pe_callB (Gu.call_reprD hG hu) (by rfl) T.mp boot_repr (pa_cons (pe_lst (pa_cons (pe_call T.S hr (by rfl) T.mS T.kS T.bS .nil pass0 (pa_cons (pv 3) (pa_cons pe_int pa_nil)))
              (pa_cons (pe_call T.S hr (by rfl) T.mS T.kS T.bS .nil pass0 (pa_cons (pe_un un_neg pe_int) (pa_cons pe_int pa_nil))) (pa_cons (pe_call T.S hr (by rfl) T.mS T.kS T.bS .nil pass0 (pa_cons (pe_un un_neg pe_int) (pa_cons pe_int pa_nil))) pa_nil)))) pa_nil))
            (pe_callB (Gu.call_reprD hG hu) (by rfl) T.mp boot_repr (pa_cons (pe_lst (pa_cons (pe_cmpR op_gt (pv 3) pe_int (nomark _)) (pa_cons pe_bl (pa_cons pe_bl pa_nil)))) pa_nil)) (nomark _)) (pss_one (ps_ret pe_bl)) pss_nil)))))))
      (pss_one (ps_ret pe_bl)), ?_⟩
    have hl3 : 3 ≤ sizeLine := by decide
    have hl5 : 5 ≤ sizeLine := by decide
    refine ⟨3, rfl, by decide, by decide, for_range (n := ((3 : Int).toNat)) (fun i σ H' => But c H H' ∧ ChB H' c (10 + 50 * i) ∧ ∃ x1 x2 x3 x4 x5 x6 x7 x8, σ = [some (.ref c), x1, x2, x3, x4, x5, x6, x7, x8])
      ⟨.refl, hC, _, _, _, _, _, _, _, _, rfl⟩ ?_ ?_⟩
    · rintro i σ H1 hi ⟨bt, ch, x1, x2, x3, x4, x5, x6, x7, x8, rfl⟩
      have hi3 : i < 3 := hi
      refine ⟨hl5, fun L nL => ?_⟩
      have Lc := ne_new ch nL
      refine ⟨L, rfl, ⟨_, .inl (.inl upd_same)⟩, for_list (xs := [.int 2, .int 3, .int 5, .int 7, .int 13]) (fun j σ H' => But c H H' ∧ H' L = some (.lst [.int 2, .int 3, .int 5, .int 7, .int 13]) ∧ ChB H' c (10 + 50 * i + 6 * j) ∧ ∃ y2 y3 y4 y5 y6 y7 y8, σ = [some (.ref c), some (.int (0 + (i : Int))), y2, y3, y4, y5, y6, y7, y8])
        ⟨bt.trans (.new nL), upd_same, ch.same (same_new nL), _, _, _, _, _, _, _, rfl⟩ (fun _ _ _ _ z => .inl (.inl z.2.1)) ?_ ?_⟩
      · rintro j x σ H2 hx ⟨bt2, hL, ch2, y2, y3, y4, y5, y6, y7, y8, rfl⟩
        have hj : j < 5 := (List.getElem?_eq_some_iff.mp hx).1
        obtain ⟨p, rfl, hp⟩ := five_at hx
        obtain ⟨pp, p2, po, p13⟩ := five_prime hp
        have pk := pk_five hp
        -- a, b
        refine ⟨.ref c, rfl, .int p, rfl, c, p, _, rfl, by omega, p13, ch2, by omega, fun H3 a a0 alo ahi bt3 ch3 => ?_⟩
        refine ⟨.ref c, rfl, .int p, rfl, c, p, _, rfl, by omega, p13, ch3, by omega, fun H4 b b0 blo bhi bt4 ch4 => ⟨_, _, rfl, ?_⟩⟩
        obtain ⟨ka, ua, sa⟩ := Spl.ex p2 _ a (Nat.le_refl _) a0
        obtain ⟨kb, ub, sb⟩ := Spl.ex p2 _ b (Nat.le_refl _) b0
        -- one, two
        refine ⟨.int a, rfl, .int p, rfl, a, p, ka, ua, rfl, hp, a0, by omega, sa, fun H5 s5 => ?_⟩
        refine ⟨.int b, rfl, .int p, rfl, b, p, kb, ub, rfl, hp, b0, by omega, sb, fun H6 s6 => ⟨_, _, rfl, ?_⟩⟩
        -- told
        refine ⟨.int a, rfl, .int p, rfl, a, p, rfl, a0, by omega, by omega, .inr ⟨pk, by omega, ka, ua, sa, fun H7 s7 => ?_⟩⟩
        refine ⟨.int p, rfl, .int a, rfl, rfl, a, p, rfl, a0, by omega, by omega, .inr ⟨pk, by omega, ka, ua, sa, fun H8 s8 => ?_⟩⟩
        refine ⟨.int b, rfl, .int p, rfl, b, p, rfl, b0, by omega, by omega, .inr ⟨pk, by omega, kb, ub, sb, fun H9 s9 => ⟨hl3, fun L1 nL1 => ?_⟩⟩⟩
        have sm : Same H4 (upd H9 L1 (.lst [.bl (sqB p ka ua), .bl (sqB p ka ua), .bl (sqB p kb ub)])) := s5.trans (s6.trans (s7.trans (s8.trans (s9.trans (same_new nL1)))))
        obtain ⟨f1, f2, f3, f4⟩ := bools3 (sqB p ka ua) (sqB p ka ua) (sqB p kb ub)
        -- repr == repr
        refine ⟨.ref L1, rfl, L1, _, rfl, dp3 upd_same, f1, f2, f3, f4, .bl (sqB p ka ua), rfl, .bl (sqB p ka ua), rfl, .bl (sqB p kb ub), rfl, hl3, fun L2 nL2 => ⟨L2, _, rfl, dp3 upd_same, f1, f2, f3, f4, rfl, _, rfl, ne_ite (fun z => absurd rfl z) (fun _ => ?_)⟩⟩
        have sm2 := sm.trans (same_new (o := .lst [.bl (sqB p ka ua), .bl (sqB p ka ua), .bl (sqB p kb ub)]) nL2)
        -- the products
        have ab0 : a * b ≠ 0 := Int.mul_ne_zero a0 b0
        have absq : (a * b).natAbs ≤ 16900 * 16900 := by rw [Int.natAbs_mul]; exact Nat.mul_le_mul (by omega) (by omega)
        have aasq : (a * a).natAbs ≤ 16900 * 16900 := by rw [Int.natAbs_mul]; exact Nat.mul_le_mul (by omega) (by omega)
        have fin : ∀ H', Same (upd (upd H9 L1 (.lst [.bl (sqB p ka ua), .bl (sqB p ka ua), .bl (sqB p kb ub)])) L2 (.lst [.bl (sqB p ka ua), .bl (sqB p ka ua), .bl (sqB p kb ub)])) H' → But c H H' ∧ H' L = some (.lst [.int 2, .int 3, .int 5, .int 7, .int 13]) ∧ ChB H' c (10 + 50 * i + 6 * (j + 1)) := fun H' sz => by
          have all := sm2.trans sz
          exact ⟨bt2.trans (bt3.trans (bt4.trans (.same all))), all _ _ (keep bt4 (keep bt3 hL Lc) Lc), (ch4.same all).mono (by omega)⟩
        -- not is_square_at(a * a, p)
        obtain ⟨k2, u2, hs2, e2⟩ := sqB_self pp (by omega) po sa
        have aa0 : a * a ≠ 0 := Int.mul_ne_zero a0 a0
        have ba : -(2 ^ 64) < a ∧ a < 2 ^ 64 := ⟨by omega, by omega⟩
        refine ⟨.bl (sqB p ka ua), rfl, _, rfl, ite2 (fun z => ?_) (fun z => ?_)⟩
        · obtain ⟨k', u', hs, e⟩ := sqB_mul hp sa sb (.inl z)
          refine ⟨.int a, rfl, .int b, rfl, a, b, rfl, rfl, .inl ba, .int p, rfl, a * b, p, rfl, ab0, by omega, by omega, .inr ⟨pk, by omega, k', u', hs, fun H10 s10 => ?_⟩⟩
          refine ⟨.bl (sqB p ka ua), rfl, _, rfl, ite2 (fun _ => ⟨.bl (sqB p kb ub), rfl, rfl, _, rfl, ne_ite (fun y => absurd (congrArg V.bl (e.trans (by rw [z, Bool.true_and]))) y) (fun _ => ?_)⟩) (fun y => absurd z y)⟩
          exact ⟨.int a, rfl, .int a, rfl, a, a, rfl, rfl, .inl ba, .int p, rfl, a * a, p, rfl, aa0, by omega, by omega, .inr ⟨pk, by omega, k2, u2, hs2, fun H11 s11 => ⟨_, rfl, not_ite e2 (by have y := fin _ (s10.trans s11); exact ⟨y.1, y.2.1, y.2.2, _, _, _, _, _, _, _, rfl⟩)⟩⟩⟩
        · refine ⟨.bl (sqB p kb ub), rfl, _, rfl, ite2 (fun z2 => ?_) (fun z2 => ?_)⟩
          · obtain ⟨k', u', hs, e⟩ := sqB_mul hp sa sb (.inr z2)
            refine ⟨.int a, rfl, .int b, rfl, a, b, rfl, rfl, .inl ba, .int p, rfl, a * b, p, rfl, ab0, by omega, by omega, .inr ⟨pk, by omega, k', u', hs, fun H10 s10 => ?_⟩⟩
            have zf : sqB p ka ua = false := by cases hh : sqB p ka ua with | true => exact absurd hh z | false => rfl
            refine ⟨.bl (sqB p ka ua), rfl, _, rfl, ite2 (fun y => absurd y z) (fun _ => ⟨rfl, _, rfl, ne_ite (fun y => absurd (congrArg V.bl (e.trans (by rw [zf, Bool.false_and]))) y) (fun _ => ?_)⟩)⟩
            exact ⟨.int a, rfl, .int a, rfl, a, a, rfl, rfl, .inl ba, .int p, rfl, a * a, p, rfl, aa0, by omega, by omega, .inr ⟨pk, by omega, k2, u2, hs2, fun H11 s11 => ⟨_, rfl, not_ite e2 (by have y := fin _ (s10.trans s11); exact ⟨y.1, y.2.1, y.2.2, _, _, _, _, _, _, _, rfl⟩)⟩⟩⟩
          · exact ⟨.int a, rfl, .int a, rfl, a, a, rfl, rfl, .inl ba, .int p, rfl, a * a, p, rfl, aa0, by omega, by omega, .inr ⟨pk, by omega, k2, u2, hs2, fun H11 s11 => ⟨_, rfl, not_ite e2 (by have y := fin _ s11; exact ⟨y.1, y.2.1, y.2.2, _, _, _, _, _, _, _, rfl⟩)⟩⟩⟩
      · rintro σ H2 ⟨bt2, hL, ch2, y2, y3, y4, y5, y6, y7, y8, rfl⟩
        have ch2' : ChB H2 c (10 + 50 * i + 30) := ch2
        -- the root
        refine ⟨.ref c, rfl, c, 30000, _, rfl, by decide, by decide, ch2', by omega, fun H3 r r0 r1 bt3 ch3 => ⟨1, r, rfl, rfl, ?_⟩⟩
        have rr : (1 + r) * (1 + r) ≤ 30000 * 30000 := Int.mul_le_mul (by omega) (by omega) (by omega) (by decide)
        refine ⟨.ref c, rfl, hl5, fun M nM => ⟨c, M, _, _, rfl, upd_same, ne_new ch3 nM, (by show 0 < 5; decide), (by show 5 < 1000; decide), ch3.same (same_new nM), by omega, fun H4 jj x hx bt4 ch4 => ?_⟩⟩
        obtain ⟨pb, rfl, hb⟩ := big_menu hx
        have bt5 : But c H H4 := bt2.trans (bt3.trans ((But.new nM).trans bt4))
        refine ⟨(by show 4 ≤ sizeLine; decide), fun L3 nL3 => ?_⟩
        have big4 : ∀ {j : Nat} {x : V}, ([.int 0, .int 2, .int 5, .int pb] : List V)[j]? = some x → ∃ p, x = .int p ∧ Big p := fun {j x} h => by
          have h := mem_get h
          simp only [List.mem_cons, List.not_mem_nil, or_false] at h
          rcases h with rfl | rfl | rfl | rfl
          · exact ⟨_, rfl, .inl rfl⟩
          · exact ⟨_, rfl, big_five (.inl rfl)⟩
          · exact ⟨_, rfl, big_five (.inr (.inr (.inl rfl)))⟩
          · exact ⟨_, rfl, hb⟩
        refine ⟨L3, rfl, ⟨_, .inl (.inl upd_same)⟩, for_list (xs := [.int 0, .int 2, .int 5, .int pb]) (fun j σ H' => But c H H' ∧ H' L3 = some (.lst [.int 0, .int 2, .int 5, .int pb]) ∧ ChB H' c (10 + 50 * i + 32) ∧ ∃ y2 y3 y4 y5 y6 y7, σ = [some (.ref c), some (.int (0 + (i : Int))), y2, y3, y4, y5, y6, y7, some (.int (1 + r))])
          ⟨bt5.trans (.new nL3), upd_same, ch4.same (same_new nL3), _, _, _, _, _, _, rfl⟩ (fun _ _ _ _ z => .inl (.inl z.2.1)) ?_ ?_⟩
        · rintro j x σ H5 hx ⟨bt6, hL3, ch6, z2, z3, z4, z5, z6, z7, rfl⟩
          obtain ⟨p, rfl, hp⟩ := big4 hx
          have n0 : (1 + r) * (1 + r) ≠ 0 := Int.mul_ne_zero (by omega) (by omega)
          have pos : 0 < (1 + r) * (1 + r) := Int.mul_pos (by omega) (by omega)
          rcases hp with rfl | ⟨h1, h2, h3, h4, h5⟩
          · exact ⟨.int (1 + r), rfl, .int (1 + r), rfl, 1 + r, 1 + r, rfl, rfl, .inl ⟨by omega, by omega⟩, .int 0, rfl, (1 + r) * (1 + r), 0, rfl, n0, by omega, by omega, .inl ⟨rfl, fun H6 s6 => ⟨_, true, rfl, rfl, _, rfl, isnot_ite (decide_eq_true pos) ⟨bt6.trans (.same s6), s6 _ _ hL3, ch6.same s6, _, _, _, _, _, _, rfl⟩⟩⟩⟩
          · obtain ⟨k, u, hs⟩ := Spl.ex h3 _ (1 + r) (Nat.le_refl _) (by omega)
            obtain ⟨k', u', hs', e⟩ := sqB_self h2 (by omega) h4 hs
            exact ⟨.int (1 + r), rfl, .int (1 + r), rfl, 1 + r, 1 + r, rfl, rfl, .inl ⟨by omega, by omega⟩, .int p, rfl, (1 + r) * (1 + r), p, rfl, n0, by omega, by omega, .inr ⟨h1, h5, k', u', hs', fun H6 s6 => ⟨_, true, rfl, rfl, _, rfl, isnot_ite e ⟨bt6.trans (.same s6), s6 _ _ hL3, ch6.same s6, _, _, _, _, _, _, rfl⟩⟩⟩⟩
        · rintro σ H5 ⟨bt6, hL3, ch6, z2, z3, z4, z5, z6, z7, rfl⟩
          refine ⟨.ref c, rfl, c, 0, _, rfl, by decide, by decide, ch6, by omega, fun H6 a a0 alo ahi bt7 ch7 => ?_⟩
          refine ⟨.int a, rfl, a, 0, rfl, a0, by omega, by omega, .inl ⟨rfl, fun H7 s7 => ?_⟩⟩
          refine ⟨1, rfl, -1, 13, rfl, by decide, by decide, by decide, .inr ⟨pk13, by decide, 0, -1, ⟨by decide, by decide⟩, fun H8 s8 => ?_⟩⟩
          refine ⟨1, rfl, -1, 7, rfl, by decide, by decide, by decide, .inr ⟨pk_five (.inr (.inr (.inr (.inl rfl)))), by decide, 0, -1, ⟨by decide, by decide⟩, fun H9 s9 => ⟨hl3, fun L4 nL4 => ?_⟩⟩⟩
          obtain ⟨f1, f2, f3, f4⟩ := bools3 (decide (0 < a)) (sqB 13 0 (-1)) (sqB 7 0 (-1))
          obtain ⟨g1, g2, g3, g4⟩ := bools3 (decide (0 < a)) true false
          refine ⟨L4, _, rfl, dp3 upd_same, f1, f2, f3, f4, .int a, rfl, a, 0, rfl, rfl, hl3, fun L5 nL5 => ⟨L5, _, rfl, dp3 upd_same, g1, g2, g3, g4, rfl, _, rfl, ne_ite (fun z => absurd (by rw [e13, e7]) z) (fun _ => ?_)⟩⟩
          have all : Same H6 (upd (upd H9 L4 (.lst [.bl (decide (0 < a)), .bl (sqB 13 0 (-1)), .bl (sqB 7 0 (-1))])) L5 (.lst [.bl (decide (0 < a)), .bl true, .bl false])) := s7.trans (s8.trans (s9.trans ((same_new nL4).trans (same_new nL5))))
          exact ⟨bt6.trans (bt7.trans (.same all)), (ch7.same all).mono (by omega), _, _, _, _, _, _, _, _, rfl⟩
    · rintro σ H1 ⟨bt, ch, x1, x2, x3, x4, x5, x6, x7, x8, rfl⟩
      exact q _ bt
end
end K28

namespace K28
open PySem PySem.Spec PyProof.Rows L2 NT
section
variable {P : Program} {w : World} {K : PySem.W.Frag} {mg : Str → Option Value} {base : Heap}
def spLaw (K : PySem.W.Frag) : Sp := fun vs H Q _ => ∃ (a : Addr) (ns : List Int), vs = [.ref a] ∧ SqL K H a (ns.map V.int) ∧ ns.length ≤ 63 ∧ ∀ H', Q (.bl true) H'
theorem ok_law {f fC fR : Addr} {fd dC dR : FuncData} (F : Fun K "law" "law" sLaw f fd) (GC : FnOk P w K mg base CX0 1 fC dC ["_law_script", "_law_at"] (spChest K)) (mC : mg "_law_chest" = some (.ref fC)) (kC : PySem.W.keepIn K (.ref fC) = true) (bC : Binds K dC ["_law_script", "_law_at"] [])
    (GR : Gu.GOk P w K mg base CX0 7 fR dR ["_law_chest_here"] spRight) (mR : mg "_law_right" = some (.ref fR)) (kR : PySem.W.keepIn K (.ref fR) = true) (bR : Binds K dR ["_law_chest_here"] []) (ma : mg "all" = none) (mr : mg "range" = none) (mm : mg "max" = none) (mn : mg "min" = none) (ml : mg "len" = none) :
    Gu.GOk P w K mg base CX0 8 f fd ["_law_script"] (spLaw K) := by
  refine Gu.GOk.fun F scLaw (fun vs H Q E h => ?_) (fun cdv A out s H vs Q E hG hr h => ?_)
  · obtain ⟨a, ns, rfl, _⟩ := h
    rfl
  · obtain ⟨a, ns, rfl, hS, hl, q⟩ := h
    refine ⟨_, pss_one (ps_ret (pe_callB (cr_all rfl) (by rfl) ma boot_all (pa_cons (pe_lc (own := [("_law_at", 1)]) (g := gName 1) (tt := tYes) rfl scLaw.nd
        (pi_range1 rfl mr (pa_cons (pe_callB (call_max2 rfl) (by rfl) mm boot_max (pa_cons pe_int (pa_cons (pe_callB (call_min2 rfl) (by rfl) mn boot_min (pa_cons (pe_callB call_len_seq (by rfl) ml PySem.boot_len (pa_cons (pv 0) pa_nil)) (pa_cons pe_int pa_nil))) pa_nil))) pa_nil))
        (blkOk_by (N := ["_law_script", "_law_at"]) (sc := defScope sLaw) (by decide +kernel)) (fun _ _ _ _ _ => pg_name (i := 1) scLaw.nd rfl (.inl rfl)) (fun _ _ _ _ _ => pts_nil)
        (fun _ _ _ _ _ => Gu.pe_callG GR hG hr (by rfl) mR kR bR .nil pass0 (pa_cons (pe_call GC (hr.mono (by decide)) (by rfl) mC kC bC .nil pass0 (pa_cons (pv 0) (pa_cons (pv 1) pa_nil))) pa_nil))) pa_nil))), ?_⟩
    refine ⟨.ref a, rfl, a, _, rfl, .inl hS, _, 3, rfl, 2, _, rfl, _, rfl, ?_⟩
    generalize hj : (if (if (3 : Int) < ((ns.map V.int).length : Nat) then (3 : Int) else ((ns.map V.int).length : Nat)) > 2 then (if (3 : Int) < ((ns.map V.int).length : Nat) then (3 : Int) else ((ns.map V.int).length : Nat)) else 2) = j
    have j3 : j ≤ 3 ∧ 0 ≤ j := by
      rw [← hj]
      constructor <;> repeat' split
      all_goals omega
    refine ⟨by omega, by omega, fun D nD => lc_range (lo := 0) (n := j.toNat) (fun i H' => Same H H' ∧ H' D = some (.lst ((List.replicate i true).map V.bl))) ⟨same_new nD, upd_same⟩ ?_ ?_⟩
    · rintro i H' hi ⟨sm, hD⟩
      have e0 : (0 : Int) + i = i := by omega
      rw [e0]
      refine ⟨rfl, .ref a, rfl, .int i, rfl, a, ns, i, rfl, sm.seq hS, by omega, hl, fun H2 c s2 nc ch => ⟨c, rfl, ch.mono (by decide), fun H3 bt => ?_⟩⟩
      have Dc : D ≠ c := fun e => by rw [e, nc] at hD; cases hD
      refine ⟨_, bt _ _ Dc (s2 _ _ hD), ?_, fun b o e => ?_, ?_⟩
      · rw [List.length_map, List.length_replicate, sizeLine_eq]; omega
      · rw [upd_ne (ne_of_none e nD)]
        have e1 := sm _ _ e
        have bc : b ≠ c := fun z => by rw [z, nc] at e1; cases e1
        exact bt _ _ bc (s2 _ _ e1)
      · rw [upd_same, List.replicate_succ', List.map_append]
        rfl
    · rintro H' ⟨sm, hD⟩
      refine ⟨D, _, rfl, .inl (.inl hD), to (q _) (congrArg V.bl ?_)⟩
      rw [List.all_replicate]
      cases j.toNat <;> rfl
end
theorem all_mk {l : PySem.W.OpenLaw} {w : World} {K : PySem.W.Frag} {h : Heap} {mg : Str → Option Value} {fa : Addr} (X : K.In h) (G : h.Ns mainGlobals mg) (hfa : mg "law" = some (.ref fa))
    {fX0 : Addr} {odX0 anX0 : Option Addr} {slX0 : Array (Option Value)} {ocX0 kVX0 dcX0 pmX0 cdX0 ctX0 : Value} {fY0 : Addr} {odY0 anY0 : Option Addr} {slY0 : Array (Option Value)} {ocY0 kVY0 dcY0 pmY0 cdY0 ctY0 : Value} {fi : Addr} {odi ani : Option Addr} {sli : Array (Option Value)} {oci kVi dci pmi cdi cti : Value} {fw : Addr} {odw anw : Option Addr} {slw : Array (Option Value)} {ocw kVw dcw pmw cdw ctw : Value} {fo : Addr} {odo ano : Option Addr} {slo : Array (Option Value)} {oco kVo dco pmo cdo cto : Value} {fp : Addr} {odp anp : Option Addr} {slp : Array (Option Value)} {ocp kVp dcp pmp cdp ctp : Value} {fs : Addr} {ods ans : Option Addr} {sls : Array (Option Value)} {ocs kVs dcs pms cds cts : Value} {fq : Addr} {odq anq : Option Addr} {slq : Array (Option Value)} {ocq kVq dcq pmq cdq ctq : Value} {fr : Addr} {odr anr : Option Addr} {slr : Array (Option Value)} {ocr kVr dcr pmr cdr ctr : Value} {fT : Addr} {odT anT : Option Addr} {slT : Array (Option Value)} {ocT kVT dcT pmT cdT ctT : Value} {fu : Addr} {odu anu : Option Addr} {slu : Array (Option Value)} {ocu kVu dcu pmu cdu ctu : Value} {fv : Addr} {odv anv : Option Addr} {slv : Array (Option Value)} {ocv kVv dcv pmv cdv ctv : Value} {fx : Addr} {odx anx : Option Addr} {slx : Array (Option Value)} {ocx kVx dcx pmx cdx ctx : Value} {fA : Addr} {odA anA : Option Addr} {slA : Array (Option Value)} {ocA kVA dcA pmA cdA ctA : Value} {fB : Addr} {odB anB : Option Addr} {slB : Array (Option Value)} {ocB kVB dcB pmB cdB ctB : Value} {fC : Addr} {odC anC : Option Addr} {slC : Array (Option Value)} {ocC kVC dcC pmC cdC ctC : Value} {fD : Addr} {odD anD : Option Addr} {slD : Array (Option Value)} {ocD kVD dcD pmD cdD ctD : Value} {fE : Addr} {odE anE : Option Addr} {slE : Array (Option Value)} {ocE kVE dcE pmE cdE ctE : Value} {fF : Addr} {odF anF : Option Addr} {slF : Array (Option Value)} {ocF kVF dcF pmF cdF ctF : Value} {fG : Addr} {odG anG : Option Addr} {slG : Array (Option Value)} {ocG kVG dcG pmG cdG ctG : Value} {fH : Addr} {odH anH : Option Addr} {slH : Array (Option Value)} {ocH kVH dcH pmH cdH ctH : Value} {t1 t2 : Tok} {aW : Addr} {dW : Option Addr} {its : Array Value} {nW : Nat} {slW : Array (Option Value)}
    (aX0 : PySem.W.nsIn K mainGlobals "is_other_than_nought" = some (some (.ref fX0))) (lX0 : K.lookup fX0 = some ⟨ocX0, odX0, .func (PySem.W.fnOf "is_other_than_nought" "is_other_than_nought" (defArgs sIsOther) (defBody sIsOther) (defScope sIsOther) .none kVX0 dcX0 pmX0 anX0 cdX0 ctX0), slX0⟩) (cX0 : PySem.W.codeIn K cdX0 "is_other_than_nought" = true) (kX0 : PySem.W.keepIn K (.ref fX0) = true)
    (aY0 : PySem.W.nsIn K mainGlobals "is_place" = some (some (.ref fY0))) (lY0 : K.lookup fY0 = some ⟨ocY0, odY0, .func (PySem.W.fnOf "is_place" "is_place" (defArgs sIsPlace) (defBody sIsPlace) (defScope sIsPlace) .none kVY0 dcY0 pmY0 anY0 cdY0 ctY0), slY0⟩) (cY0 : PySem.W.codeIn K cdY0 "is_place" = true) (kY0 : PySem.W.keepIn K (.ref fY0) = true)
    (ai : PySem.W.nsIn K mainGlobals "is_integer" = some (some (.ref fi))) (li : K.lookup fi = some ⟨oci, odi, .func (PySem.W.fnOf "is_integer" "is_integer" (defArgs sInt) (defBody sInt) (defScope sInt) .none kVi dci pmi ani cdi cti), sli⟩) (ci : PySem.W.codeIn K cdi "is_integer" = true) (ki : PySem.W.keepIn K (.ref fi) = true)
    (aw : PySem.W.nsIn K mainGlobals "is_within" = some (some (.ref fw))) (lw : K.lookup fw = some ⟨ocw, odw, .func (PySem.W.fnOf "is_within" "is_within" (defArgs sWithin) (defBody sWithin) (defScope sWithin) .none kVw dcw pmw anw cdw ctw), slw⟩) (cw : PySem.W.codeIn K cdw "is_within" = true) (kw : PySem.W.keepIn K (.ref fw) = true)
    (ao : PySem.W.nsIn K mainGlobals "check_other_than_nought" = some (some (.ref fo))) (lo : K.lookup fo = some ⟨oco, odo, .func (PySem.W.fnOf "check_other_than_nought" "check_other_than_nought" (defArgs sOther) (defBody sOther) (defScope sOther) .none kVo dco pmo ano cdo cto), slo⟩) (co : PySem.W.codeIn K cdo "check_other_than_nought" = true) (ko : PySem.W.keepIn K (.ref fo) = true)
    (ap : PySem.W.nsIn K mainGlobals "power_rest" = some (some (.ref fp))) (lp : K.lookup fp = some ⟨ocp, odp, .func (PySem.W.fnOf "power_rest" "power_rest" (defArgs sPow) (defBody sPow) (defScope sPow) .none kVp dcp pmp anp cdp ctp), slp⟩) (cp : PySem.W.codeIn K cdp "power_rest" = true) (kp : PySem.W.keepIn K (.ref fp) = true)
    (as : PySem.W.nsIn K mainGlobals "split_power" = some (some (.ref fs))) (ls : K.lookup fs = some ⟨ocs, ods, .func (PySem.W.fnOf "split_power" "split_power" (defArgs sSplit) (defBody sSplit) (defScope sSplit) .none kVs dcs pms ans cds cts), sls⟩) (cs : PySem.W.codeIn K cds "split_power" = true) (ks : PySem.W.keepIn K (.ref fs) = true)
    (aq : PySem.W.nsIn K mainGlobals "is_passed" = some (some (.ref fq))) (lq : K.lookup fq = some ⟨ocq, odq, .func (PySem.W.fnOf "is_passed" "is_passed" (defArgs sPassed) (defBody sPassed) (defScope sPassed) .none kVq dcq pmq anq cdq ctq), slq⟩) (cq : PySem.W.codeIn K cdq "is_passed" = true) (kq : PySem.W.keepIn K (.ref fq) = true)
    (ar : PySem.W.nsIn K mainGlobals "is_prime" = some (some (.ref fr))) (lr : K.lookup fr = some ⟨ocr, odr, .func (PySem.W.fnOf "is_prime" "is_prime" (defArgs sPrime) (defBody sPrime) (defScope sPrime) .none kVr dcr pmr anr cdr ctr), slr⟩) (cr : PySem.W.codeIn K cdr "is_prime" = true) (kr : PySem.W.keepIn K (.ref fr) = true)
    (aT : PySem.W.nsIn K mainGlobals "is_square_rest" = some (some (.ref fT))) (lT : K.lookup fT = some ⟨ocT, odT, .func (PySem.W.fnOf "is_square_rest" "is_square_rest" (defArgs sSqRest) (defBody sSqRest) (defScope sSqRest) .none kVT dcT pmT anT cdT ctT), slT⟩) (cT : PySem.W.codeIn K cdT "is_square_rest" = true) (kT : PySem.W.keepIn K (.ref fT) = true)
    (au : PySem.W.nsIn K mainGlobals "require_place" = some (some (.ref fu))) (lu : K.lookup fu = some ⟨ocu, odu, .func (PySem.W.fnOf "require_place" "require_place" (defArgs sPlace) (defBody sPlace) (defScope sPlace) .none kVu dcu pmu anu cdu ctu), slu⟩) (cu : PySem.W.codeIn K cdu "require_place" = true) (ku : PySem.W.keepIn K (.ref fu) = true)
    (av : PySem.W.nsIn K mainGlobals "is_square_at" = some (some (.ref fv))) (lv : K.lookup fv = some ⟨ocv, odv, .func (PySem.W.fnOf "is_square_at" "is_square_at" (defArgs sSqAt) (defBody sSqAt) (defScope sSqAt) .none kVv dcv pmv anv cdv ctv), slv⟩) (cv : PySem.W.codeIn K cdv "is_square_at" = true) (kv : PySem.W.keepIn K (.ref fv) = true)
    (ax : PySem.W.nsIn K mainGlobals "is_local_square" = some (some (.ref fx))) (lx : K.lookup fx = some ⟨ocx, odx, .func (PySem.W.fnOf "is_local_square" "is_local_square" (defArgs sLocal) (defBody sLocal) (defScope sLocal) .none kVx dcx pmx anx cdx ctx), slx⟩) (cx : PySem.W.codeIn K cdx "is_local_square" = true) (kx : PySem.W.keepIn K (.ref fx) = true)
    (aA : PySem.W.nsIn K mainGlobals "_law_chest" = some (some (.ref fA))) (lA : K.lookup fA = some ⟨ocA, odA, .func (PySem.W.fnOf "_law_chest" "_law_chest" (defArgs sChest) (defBody sChest) (defScope sChest) .none kVA dcA pmA anA cdA ctA), slA⟩) (cA : PySem.W.codeIn K cdA "_law_chest" = true) (kA : PySem.W.keepIn K (.ref fA) = true)
    (aB : PySem.W.nsIn K mainGlobals "_law_fetch" = some (some (.ref fB))) (lB : K.lookup fB = some ⟨ocB, odB, .func (PySem.W.fnOf "_law_fetch" "_law_fetch" (defArgs sFetch) (defBody sFetch) (defScope sFetch) .none kVB dcB pmB anB cdB ctB), slB⟩) (cB : PySem.W.codeIn K cdB "_law_fetch" = true) (kB : PySem.W.keepIn K (.ref fB) = true)
    (aC : PySem.W.nsIn K mainGlobals "_law_choose" = some (some (.ref fC))) (lC : K.lookup fC = some ⟨ocC, odC, .func (PySem.W.fnOf "_law_choose" "_law_choose" (defArgs sChoose) (defBody sChoose) (defScope sChoose) .none kVC dcC pmC anC cdC ctC), slC⟩) (cC : PySem.W.codeIn K cdC "_law_choose" = true) (kC : PySem.W.keepIn K (.ref fC) = true)
    (aD : PySem.W.nsIn K mainGlobals "_law_split" = some (some (.ref fD))) (lD : K.lookup fD = some ⟨ocD, odD, .func (PySem.W.fnOf "_law_split" "_law_split" (defArgs sSpl) (defBody sSpl) (defScope sSpl) .none kVD dcD pmD anD cdD ctD), slD⟩) (cD : PySem.W.codeIn K cdD "_law_split" = true) (kD : PySem.W.keepIn K (.ref fD) = true)
    (aE : PySem.W.nsIn K mainGlobals "_law_by_rests" = some (some (.ref fE))) (lE : K.lookup fE = some ⟨ocE, odE, .func (PySem.W.fnOf "_law_by_rests" "_law_by_rests" (defArgs sBy) (defBody sBy) (defScope sBy) .none kVE dcE pmE anE cdE ctE), slE⟩) (cE : PySem.W.codeIn K cdE "_law_by_rests" = true) (kE : PySem.W.keepIn K (.ref fE) = true)
    (aF : PySem.W.nsIn K mainGlobals "_law_number" = some (some (.ref fF))) (lF : K.lookup fF = some ⟨ocF, odF, .func (PySem.W.fnOf "_law_number" "_law_number" (defArgs sNum) (defBody sNum) (defScope sNum) .none kVF dcF pmF anF cdF ctF), slF⟩) (cF : PySem.W.codeIn K cdF "_law_number" = true) (kF : PySem.W.keepIn K (.ref fF) = true)
    (aG : PySem.W.nsIn K mainGlobals "_law_right" = some (some (.ref fG))) (lG : K.lookup fG = some ⟨ocG, odG, .func (PySem.W.fnOf "_law_right" "_law_right" (defArgs sRight) (defBody sRight) (defScope sRight) .none kVG dcG pmG anG cdG ctG), slG⟩) (cG : PySem.W.codeIn K cdG "_law_right" = true) (kG : PySem.W.keepIn K (.ref fG) = true)
    (aH : PySem.W.nsIn K mainGlobals "law" = some (some (.ref fH))) (lH : K.lookup fH = some ⟨ocH, odH, .func (PySem.W.fnOf "law" "law" (defArgs sLaw) (defBody sLaw) (defScope sLaw) .none kVH dcH pmH anH cdH ctH), slH⟩) (cH : PySem.W.codeIn K cdH "law" = true) (kH : PySem.W.keepIn K (.ref fH) = true)
    (z_isinstance : PySem.W.nsIn K mainGlobals "isinstance" = some none)
    (z_int : PySem.W.nsIn K mainGlobals "int" = some none)
    (z_bool : PySem.W.nsIn K mainGlobals "bool" = some none)
    (z_range : PySem.W.nsIn K mainGlobals "range" = some none)
    (z_len : PySem.W.nsIn K mainGlobals "len" = some none)
    (z_divmod : PySem.W.nsIn K mainGlobals "divmod" = some none)
    (z_abs : PySem.W.nsIn K mainGlobals "abs" = some none)
    (z_max : PySem.W.nsIn K mainGlobals "max" = some none)
    (z_min : PySem.W.nsIn K mainGlobals "min" = some none)
    (z_all : PySem.W.nsIn K mainGlobals "all" = some none)
    (z_repr : PySem.W.nsIn K mainGlobals "repr" = some none)
    (gS : PySem.W.nsIn K mainGlobals "MOST_SIZE" = some (some (.int (10 ^ 12) t1))) (gO : PySem.W.nsIn K mainGlobals "MOST_OPERAND" = some (some (.int (10 ^ 9) t2))) (gW : PySem.W.nsIn K mainGlobals "WITNESSES" = some (some (.ref aW))) (lW : K.lookup aW = some ⟨.type "tuple", dW, .seq its nW, slW⟩) (vW : Vals (W5.map V.int) its.toList) (zW : its.size ≤ sizeLine) :
    ∃ fd : FuncData, (∀ (s : Shared) (v : Value), BindsTo s fd ⟨[v], []⟩ [("_law_script", v)]) ∧ ∀ base : Heap, K.In base → base.Ns mainGlobals mg → Gu.GOk l.prog w K mg base CX0 8 fa fd ["_law_script"] (spLaw K) := by
  have e := hfa.symm.trans (PySem.W.mg_of X G aH)
  cases e
  have FX0 := fun_mk (st := sIsOther) lX0 cX0 kX0
  have mX0 := PySem.W.mg_of X G aX0
  have FY0 := fun_mk (st := sIsPlace) lY0 cY0 kY0
  have mY0 := PySem.W.mg_of X G aY0
  have bX0 := FX0.binds (ps := ["value", "size"]) fun _ _ _ _ _ _ us hl => match us, hl with | [_, _], _ => rfl
  have bY0 := FY0.binds (ps := ["value"]) fun _ _ _ _ _ _ us hl => match us, hl with | [_], _ => rfl
  have Fi := fun_mk (st := sInt) li ci ki
  have mi := PySem.W.mg_of X G ai
  have Fw := fun_mk (st := sWithin) lw cw kw
  have mw := PySem.W.mg_of X G aw
  have Fo := fun_mk (st := sOther) lo co ko
  have mo := PySem.W.mg_of X G ao
  have Fp := fun_mk (st := sPow) lp cp kp
  have mp := PySem.W.mg_of X G ap
  have Fs := fun_mk (st := sSplit) ls cs ks
  have ms := PySem.W.mg_of X G as
  have Fq := fun_mk (st := sPassed) lq cq kq
  have mq := PySem.W.mg_of X G aq
  have Fr := fun_mk (st := sPrime) lr cr kr
  have mr := PySem.W.mg_of X G ar
  have FT := fun_mk (st := sSqRest) lT cT kT
  have mT := PySem.W.mg_of X G aT
  have Fu := fun_mk (st := sPlace) lu cu ku
  have mu := PySem.W.mg_of X G au
  have Fv := fun_mk (st := sSqAt) lv cv kv
  have mv := PySem.W.mg_of X G av
  have Fx := fun_mk (st := sLocal) lx cx kx
  have mx := PySem.W.mg_of X G ax
  have FA := fun_mk (st := sChest) lA cA kA
  have mA := PySem.W.mg_of X G aA
  have FB := fun_mk (st := sFetch) lB cB kB
  have mB := PySem.W.mg_of X G aB
  have FC := fun_mk (st := sChoose) lC cC kC
  have mC := PySem.W.mg_of X G aC
  have FD := fun_mk (st := sSpl) lD cD kD
  have mD := PySem.W.mg_of X G aD
  have FE := fun_mk (st := sBy) lE cE kE
  have mE := PySem.W.mg_of X G aE
  have FF := fun_mk (st := sNum) lF cF kF
  have mF := PySem.W.mg_of X G aF
  have FG := fun_mk (st := sRight) lG cG kG
  have mG := PySem.W.mg_of X G aG
  have FH := fun_mk (st := sLaw) lH cH kH
  have mH := PySem.W.mg_of X G aH
  have n_isinstance := PySem.W.mg_none_of X G z_isinstance
  have n_int := PySem.W.mg_none_of X G z_int
  have n_bool := PySem.W.mg_none_of X G z_bool
  have n_range := PySem.W.mg_none_of X G z_range
  have n_len := PySem.W.mg_none_of X G z_len
  have n_divmod := PySem.W.mg_none_of X G z_divmod
  have n_abs := PySem.W.mg_none_of X G z_abs
  have n_max := PySem.W.mg_none_of X G z_max
  have n_min := PySem.W.mg_none_of X G z_min
  have n_all := PySem.W.mg_none_of X G z_all
  have n_repr := PySem.W.mg_none_of X G z_repr
  have bi := Fi.binds (ps := ["value"]) fun _ _ _ _ _ _ us hl => match us, hl with | [_], _ => rfl
  have bw := Fw.binds (ps := ["value", "least", "most"]) fun _ _ _ _ _ _ us hl => match us, hl with | [_, _, _], _ => rfl
  have bo := Fo.binds (ps := ["number", "size"]) fun _ _ _ _ _ _ us hl => match us, hl with | [_, _], _ => rfl
  have bp := Fp.binds (ps := ["base", "exponent", "modulus"]) fun _ _ _ _ _ _ us hl => match us, hl with | [_, _, _], _ => rfl
  have bs := Fs.binds (ps := ["number", "prime"]) fun _ _ _ _ _ _ us hl => match us, hl with | [_, _], _ => rfl
  have bq := Fq.binds (ps := ["number", "witness"]) fun _ _ _ _ _ _ us hl => match us, hl with | [_, _], _ => rfl
  have br := Fr.binds (ps := ["number"]) fun _ _ _ _ _ _ us hl => match us, hl with | [_], _ => rfl
  have bT := FT.binds (ps := ["number", "prime"]) fun _ _ _ _ _ _ us hl => match us, hl with | [_, _], _ => rfl
  have bu := Fu.binds (ps := ["place"]) fun _ _ _ _ _ _ us hl => match us, hl with | [_], _ => rfl
  have bv := Fv.binds (ps := ["number", "place"]) fun _ _ _ _ _ _ us hl => match us, hl with | [_, _], _ => rfl
  have bx := Fx.binds (ps := ["number", "place"]) fun _ _ _ _ _ _ us hl => match us, hl with | [_, _], _ => rfl
  have bA := FA.binds (ps := ["_law_script", "_law_at"]) fun _ _ _ _ _ _ us hl => match us, hl with | [_, _], _ => rfl
  have bB := FB.binds (ps := ["_law_chest_here", "_law_most"]) fun _ _ _ _ _ _ us hl => match us, hl with | [_, _], _ => rfl
  have bC := FC.binds (ps := ["_law_chest_here", "_law_menu"]) fun _ _ _ _ _ _ us hl => match us, hl with | [_, _], _ => rfl
  have bD := FD.binds (ps := ["_law_n", "_law_p"]) fun _ _ _ _ _ _ us hl => match us, hl with | [_, _], _ => rfl
  have bE := FE.binds (ps := ["_law_n", "_law_p"]) fun _ _ _ _ _ _ us hl => match us, hl with | [_, _], _ => rfl
  have bF := FF.binds (ps := ["_law_chest_here", "_law_p"]) fun _ _ _ _ _ _ us hl => match us, hl with | [_, _], _ => rfl
  have bG := FG.binds (ps := ["_law_chest_here"]) fun _ _ _ _ _ _ us hl => match us, hl with | [_], _ => rfl
  have mS := PySem.W.mg_of X G gS
  have mO := PySem.W.mg_of X G gO
  have mW := PySem.W.mg_of X G gW
  have hW : ∀ H, SqT K H aW (W5.map V.int) := fun H => .inr ⟨_, its, nW, lW, rfl, rfl, zW, vW⟩
  refine ⟨PySem.W.fnOf "law" "law" (defArgs sLaw) (defBody sLaw) (defScope sLaw) .none kVH dcH pmH anH cdH ctH, fun s v => .of_eq rfl, fun base _ _ => ?_⟩
  have Gi : FnOk l.prog w K mg base CX0 _ _ _ _ _ := ok_int Fi n_isinstance n_int n_bool
  have Gw : FnOk l.prog w K mg base CX0 _ _ _ _ _ := ok_within Fw Gi mi ki bi
  have G0x : FnOk l.prog w K mg base CX0 _ _ _ _ _ := ok_isOther FX0 Gw mw kw bw
  have Go : FnOk l.prog w K mg base CX0 _ _ _ _ _ := ok_other Fo G0x mX0 kX0 bX0
  have Gp : FnOk l.prog w K mg base CX0 _ _ _ _ _ := ok_pow Fp
  have Gs : FnOk l.prog w K mg base CX0 _ _ _ _ _ := ok_split Fs
  have Gq : FnOk l.prog w K mg base CX0 _ _ _ _ _ := ok_passed Fq Gs ms ks bs Gp mp kp bp n_range
  have Gr : FnOk l.prog w K mg base CX0 _ _ _ _ _ := ok_prime Fr Gq mq kq bq mW hW n_all
  have Gt : FnOk l.prog w K mg base CX0 _ _ _ _ _ := ok_sqrest FT Gp mp kp bp
  have H0x : FnOk l.prog w K mg base CX0 _ _ _ _ _ := ok_isPlace FY0 Gw mw kw bw Gr mr kr br mS
  have Gu' : FnOk l.prog w K mg base CX0 _ _ _ _ _ := ok_place Fu H0x mY0 kY0 bY0
  have Gx : FnOk l.prog w K mg base CX0 _ _ _ _ _ := ok_local Fx Gs ms ks bs Gt mT kT bT
  have Gv : FnOk l.prog w K mg base CX0 _ _ _ _ _ := ok_sqat Fv Go mo ko bo Gu' mu ku bu Gx mx kx bx mO
  have GA : FnOk l.prog w K mg base CX0 _ _ _ _ _ := ok_chest FA n_int n_len n_abs
  have GB : FnOk l.prog w K mg base CX0 _ _ _ _ _ := ok_fetch FB n_int n_divmod
  have GC : FnOk l.prog w K mg base CX0 _ _ _ _ _ := ok_choose FC GB mB kB bB n_len
  have GD : FnOk l.prog w K mg base CX0 _ _ _ _ _ := ok_spl FD n_int n_range
  have GE : FnOk l.prog w K mg base CX0 _ _ _ _ _ := by2 (ok_by FE GD mD kD bD n_int n_range)
  have GF : FnOk l.prog w K mg base CX0 _ _ _ _ _ := ok_num FF GC mC kC bC GB mB kB bB n_int n_max
  exact ok_law FH GA mA kA bA (ok_right FG ⟨GF, mF, kF, bF, GE, mE, kE, bE, Gv, mv, kv, bv, sq_kw Fv, GB, mB, kB, bB, GC, mC, kC, bC, n_range, n_repr⟩) mG kG bG n_all n_range n_max n_min n_len
end K28
open PySem PySem.W PyProof.Rows
set_option maxHeartbeats 0 in
theorem PySem.Challenge.cw_formworld_k28_whole_squares_at_places_holds : PySem.Challenge.rw_formworld_k28_whole_squares_at_places.Holds := by
  w_on; o_law; k_head; (case hw => w_witness2)
  k_fill
  refine Gu.walk_ofG (law := PySem.Challenge.rw_formworld_k28_whole_squares_at_places) (n := 63) (k := 8) (x := "_law_script") (sp := fun w => K28.spLaw _) rfl (by decide) rfl ⟨rfl, by decide, by decide⟩ (fun w h Y => PySem.W.kIn_of Y) ?F (fun _ _ a ns hl _ hS => ⟨a, ns, rfl, hS, hl, fun _ => rfl⟩)
  case F =>
    intro w mg fa h KX G hmg
    refine' K28.all_mk KX G hmg ?aX0 ?lX0 ?cX0 ?kX0 ?aY0 ?lY0 ?cY0 ?kY0 ?ai ?li ?ci ?ki ?aw ?lw ?cw ?kw ?ao ?lo ?co ?ko ?ap ?lp ?cp ?kp ?as ?ls ?cs ?ks ?aq ?lq ?cq ?kq ?ar ?lr ?cr ?kr ?aT ?lT ?cT ?kT ?au ?lu ?cu ?ku ?av ?lv ?cv ?kv ?ax ?lx ?cx ?kx ?aA ?lA ?cA ?kA ?aB ?lB ?cB ?kB ?aC ?lC ?cC ?kC ?aD ?lD ?cD ?kD ?aE ?lE ?cE ?kE ?aF ?lF ?cF ?kF ?aG ?lG ?cG ?kG ?aH ?lH ?cH ?kH ?z_isinstance ?z_int ?z_bool ?z_range ?z_len ?z_divmod ?z_abs ?z_max ?z_min ?z_all ?z_repr ?gS ?gO ?gW ?lW ?vW ?zW
    (case aX0 => k_is); (case lX0 => k_is); (case cX0 => k_is); (case kX0 => k_is); (case aY0 => k_is); (case lY0 => k_is); (case cY0 => k_is); (case kY0 => k_is); (case ai => k_is); (case li => k_is); (case ci => k_is); (case ki => k_is); (case aw => k_is); (case lw => k_is); (case cw => k_is); (case kw => k_is); (case ao => k_is); (case lo => k_is); (case co => k_is); (case ko => k_is); (case ap => k_is); (case lp => k_is); (case cp => k_is); (case kp => k_is); (case as => k_is); (case ls => k_is); (case cs => k_is); (case ks => k_is); (case aq => k_is); (case lq => k_is); (case cq => k_is); (case kq => k_is); (case ar => k_is); (case lr => k_is); (case cr => k_is); (case kr => k_is); (case aT => k_is); (case lT => k_is); (case cT => k_is); (case kT => k_is); (case au => k_is); (case lu => k_is); (case cu => k_is); (case ku => k_is); (case av => k_is); (case lv => k_is); (case cv => k_is); (case kv => k_is); (case ax => k_is); (case lx => k_is); (case cx => k_is); (case kx => k_is); (case aA => k_is); (case lA => k_is); (case cA => k_is); (case kA => k_is); (case aB => k_is); (case lB => k_is); (case cB => k_is); (case kB => k_is); (case aC => k_is); (case lC => k_is); (case cC => k_is); (case kC => k_is); (case aD => k_is); (case lD => k_is); (case cD => k_is); (case kD => k_is); (case aE => k_is); (case lE => k_is); (case cE => k_is); (case kE => k_is); (case aF => k_is); (case lF => k_is); (case cF => k_is); (case kF => k_is); (case aG => k_is); (case lG => k_is); (case cG => k_is); (case kG => k_is); (case aH => k_is); (case lH => k_is); (case cH => k_is); (case kH => k_is); (case z_isinstance => k_is); (case z_int => k_is); (case z_bool => k_is); (case z_range => k_is); (case z_len => k_is); (case z_divmod => k_is); (case z_abs => k_is); (case z_max => k_is); (case z_min => k_is); (case z_all => k_is); (case z_repr => k_is); (case gS => k_is); (case gO => k_is); (case gW => k_is); (case lW => k_is); (case vW => exact .cons ⟨_, rfl⟩ (.cons ⟨_, rfl⟩ (.cons ⟨_, rfl⟩ (.cons ⟨_, rfl⟩ (.cons ⟨_, rfl⟩ .nil))))); (case zW => decide)
