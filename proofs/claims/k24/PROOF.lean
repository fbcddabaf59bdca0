import PyProof.Rows.All
import Wide.All
import OpenK.AllK
import Wide.FinOn
import HandS.ForMost
import HandS.ForExc
import HandS.Conv
import HandS.Style
import HandS.Flow
import HandS.Rev
import HandS.Walk
import HandS.ExcIs
import HandS.Small
import HandS.RaiseMore
import HandS.Codes
import PyProof.ReprRoads
import PyProof.ReprBulk
import PyProof.FitsInt
import HandS.TupAny
import HandS.IsInst
import HandS.Deep
import HandS.ExcInit
import HandS.TryOnly
import HandS.ExcField
import KE.KExcIs
import HandS.ListItems
import HandS.Iter
import HandS.New
import PySem.Challenge.RW_recstore_k24_conflicts_met
section
set_option Elab.async false
set_option linter.all false
set_option maxRecDepth 100000
set_option maxHeartbeats 2000000
namespace Z
open PySem PySem.Spec PyProof.Rows L2
/-! ### defs whose promise also wants that no repr is under way -/
structure FnG (P : Program) (w : World) (K : PySem.W.Frag) (mg : Str → Option Value) (base : Heap) (CX : CXT) (k : Nat) (f : Addr) (fd : FuncData) (ps : List Str) (sp : Sp) : Prop where
  ln : ∀ vs H Q E, sp vs H Q E → vs.length = ps.length
  go : ∀ (A : Around) (fr : List Env) (s : Shared) (H : Hp) (as : Args) (us : List Value) (vs : List V) (Q : VK) (E : XK),
    Room k A → A.guards = some [] → Env0 P w K mg base A fr s H → BindsTo s fd as (ps.zip us) → Vals vs us → sp vs H Q E →
      codeAny (model P w) A (.call (.ref f) as) (CR CX fr P w H s Q E) s
section
variable {P : Program} {w : World} {K : PySem.W.Frag} {mg : Str → Option Value} {base : Heap} {CX : CXT} {k : Nat}
theorem FnG.of {f : Addr} {fd : FuncData} {ps : List Str} {sp : Sp} (F : FnOk P w K mg base CX k f fd ps sp) : FnG P w K mg base CX k f fd ps sp :=
  ⟨F.len, fun A fr s H as us vs Q E r _ e b v q => F.run A fr s H as us vs Q E r e b v q⟩
/-- the promise by the body -/
theorem fnG_of {x qual : Str} {st : Stmt} {f : Addr} {fd : FuncData} {N ps : List Str} {sp : Sp} (F : L2.Fun K x qual st f fd) (S : FnScope N ps (defScope st))
    (ln : ∀ vs H Q E, sp vs H Q E → vs.length = ps.length)
    (body : ∀ (cdv : Value) (A : Around) (fr : List Env) (s : Shared) (H : Hp) (vs : List V) (Q : VK) (E : XK),
      Room k (A.deeper (envOfC qual (defScope st) s.heap.objs.size f cdv)) → A.guards = some [] → sp vs H Q E →
        ∃ t, PSs (cxOf CX P w K mg base N qual (defScope st) f cdv A fr s H E) (defBody st) t ∧ t { nx := fun _ H' => Q .non H', rt := Q } (start N vs) H) :
    FnG P w K mg base CX (k + 1) f fd ps sp := by
  obtain ⟨oc, od, kV, doc, pm, an, cdv, ct, osl, rfl, lk, hcd⟩ := F.ex
  constructor
  · exact ln
  · intro A fr s H as us vs Q E hr hg e0 hb r hsp
    have hlen := ln _ _ _ _ hsp
    have old : ∀ b o, base.get? b = some o → s.heap.get? b = some o := fun b o e => (e0.bs b o e).1
    have KX : K.In s.heap := e0.mod.kin.keeps old
    have noLim : s.heap.NoLimit := e0.mod.nolimit.keeps old
    have kinds : ∀ y ∈ ps.zip us, (defScope st).names.lookup y.1 = some .local ∨
        ((defScope st).names.lookup y.1 = some .cell ∧ ((cellsFrom (s.heap.objs.size + 1) (defScope st).names []).lookup y.1).isSome = true) := by
      intro y hy
      rcases S.par y.1 (List.of_mem_zip (b := y.2) hy).1 with loc | cel
      · exact Or.inl loc
      · exact Or.inr ⟨cel, PySem.W.cellsFrom_some _ _ _ (Or.inl cel)⟩
    refine codeAny_call_function (hr.depth) (KX _ _ lk) rfl S.co S.gen rfl
      (PySem.W.codeRec_of KX hcd) (hb _ _ _ _ ?_)
    refine wpAny_newFunctionEnv_cells (S.kind) kinds
      (fun env he s1 x => ?_)
    subst he
    refine ⟨noLim.keeps x.toInCall.keep, ?_⟩
    refine codeAny_func ?_
    obtain ⟨t, ht, hq⟩ := body cdv A fr s H vs Q E (hr.deeper _) hg hsp
    have I : Inv (cxOf CX P w K mg base N qual (defScope st) f cdv A fr s H E) [] (start N vs) H s1 := inv_start S hr.hd e0 hlen r x
    refine wpAny_mono (ht.run [] s1 (start N vs) H _ I hq) ?_ ?_
    · intro fl s' hs
      cases fl with
      | next =>
        obtain ⟨σ', H', J, q⟩ := hs
        exact ⟨V.non, H', J.os, J.bare, J.base, J.hok, rfl, q⟩
      | ret u =>
        obtain ⟨v, σ', H', J, rv, q⟩ := hs
        exact ⟨v, H', J.os, J.bare, J.base, J.hok, rv, q⟩
      | brk =>
        obtain ⟨σ', H', J, q⟩ := hs
        exact (show False from q).elim
      | cont =>
        obtain ⟨σ', H', J, q⟩ := hs
        exact (show False from q).elim
    · intro e s' hs
      exact hs
end
section
variable {X : Cx} {CX : CXT} {k : Nat} {f : Addr} {fd : FuncData} {ps : List Str} {sp : Sp} {E : XK} {x : Str} {p pos : Pos} {e : Expr} {es : List Expr} {t : TA}
theorem pe_callG (F : FnG X.prog X.w X.K X.mg X.base CX k f fd ps sp) (hr : Room k X.A) (gu : X.A.guards = some []) (hg : Gl X x) (hm : X.mg x = some (.ref f)) (hk : PySem.W.keepIn X.K (.ref f) = true)
    (hb : Binds X.K fd ps []) (hx : Passes CX X E) (ha : PA X (e :: es) t) (hdb : (x == ("__debug__" : Str)) = false := by decide)
    (he : starEach (e :: es) X.env = (false, eval e X.env) :: starEach es X.env := by rfl) (hpl : (backTo pos (starEach es X.env)).any (·.1) = false := by rfl) :
    PE X (.Call (.Name x p) (e :: es) [] pos) (tCall sp [] E t) := by
  constructor
  intro pins s σ H Q I h
  apply wpAny_Call_Name_kw (ld_glob I hg hm ?_ hdb)
  refine PySem.W.callWith_K (h₀ := X.base) I.ok.mod.kin hk (thn (ha.run pos pins s σ H _ I h) ?_) he hpl
  intro us s1 got
  obtain ⟨vs, H1, I1, r, q⟩ := got
  rw [List.append_nil] at q
  refine ⟨I1.kIn, ?_⟩
  have hl : us.length = ps.length := by
    rw [← r.length]
    exact F.ln _ _ _ _ q
  have b := hb s1 us I1.kIn (by rw [List.append_nil]; exact hl)
  rw [List.append_nil] at b
  refine wpAny_call (codeAny_mono (F.go X.A X.stack s1 H1 ⟨us, []⟩ us vs Q E hr gu I1.env0 b r q) ?_)
  intro res s' hq
  cases res with
  | error err => exact hx pins σ H1 s1 err s' I1 hq
  | ok fl =>
    cases fl with
    | ret u => exact I1.after hq
    | next => exact hq.elim
    | brk => exact hq.elim
    | cont => exact hq.elim
end
/-! ### repr of data -/
def rRepr (K : PySem.W.Frag) : List V → Hp → VK → Prop := fun xs H Q => ∃ x d, xs = [x] ∧ Dp K H x d ∧ d.showable = true ∧ d.hasDict = false ∧ d.depth ≤ 60 ∧ d.shown.length ≤ sizeLine ∧ Q (.str d.shown) H
theorem call_repr {X : Cx} (gu : X.A.guards = some []) (hu : X.A.units + 64 < cLine) : CallR X (.builtin "repr") (rRepr X.K) := by
  intro pins s σ H xs us Q I r h
  obtain ⟨x, d, rfl, hd, hs, hn, hdp, hz, q⟩ := h
  obtain ⟨u, rfl, rx⟩ : ∃ u, us = [u] ∧ RelV x u := by
    cases r with
    | cons a b => cases b; exact ⟨_, rfl, a⟩
  cases hd with
  | non =>
    obtain rfl : u = Value.none := rx
    exact PySem.P.repr_of_none ⟨.str _, H, I.tok _, ⟨_, rfl⟩, by rw [PyData.shown_none] at q; exact q⟩
  | bl b =>
    obtain rfl : u = Value.bool b := rx
    exact PySem.P.repr_of_bool ⟨.str _, H, I.tok _, ⟨_, rfl⟩, by rw [PyData.shown_bool] at q; exact q⟩
  | int i =>
    obtain ⟨t, rfl⟩ := rx
    have hi : i.natAbs.log2 < 1920 := by
      have z : decide (i.natAbs.log2 < 1920) = true := by
        simpa only [PyData.showable] using hs
      exact of_decide_eq_true z
    exact PySem.P.repr_of_int hi ⟨.str _, H, I.tok _, ⟨_, rfl⟩, by rw [PyData.shown_int] at q; exact q⟩
  | str z =>
    obtain ⟨t, rfl⟩ := rx
    rw [PyData.shown_str] at q hz
    exact PySem.P.repr_of_str ⟨.str _, H, I.tok _, ⟨_, rfl⟩, q⟩ hz
  | lst sq al =>
    obtain rfl : u = Value.ref _ := rx
    obtain ⟨as, rr⟩ := Dp.reads I _ _ _ (Dp.lst sq al) rfl
    exact repr_of_reads' rr hs (PyData.noDict_hsm hn) gu (by omega) (fun _ _ e => e) (fun h' u tk hk => ⟨.str _, H, I.kept (t' := tk) hk, ⟨_, rfl⟩, q⟩) hz
  | tup sq al =>
    obtain rfl : u = Value.ref _ := rx
    obtain ⟨as, rr⟩ := Dp.reads I _ _ _ (Dp.tup sq al) rfl
    exact repr_of_reads' rr hs (PyData.noDict_hsm hn) gu (by omega) (fun _ _ e => e) (fun h' u tk hk => ⟨.str _, H, I.kept (t' := tk) hk, ⟨_, rfl⟩, q⟩) hz
/-! ### an own exception without arguments -/
theorem pmk_own0 {X : Cx} {C : Addr} {bmB : List Value} {B newId initId : String} {x : Str} {p pos : Pos} (F : ExcBaseFacts B newId initId bmB) (q : PySem.W.excIn X.K C bmB newId = true)
    (gC : X.mg x = some (.ref C)) (kC : PySem.W.keepIn X.K (.ref C) = true) (r : Raises X (.ref C)) (hg : Gl X x) (hdb : (x == ("__debug__" : Str)) = false := by decide) :
    PMk X (.Call (.Name x p) [] [] pos) (fun _ H Q => Q (.ref C) none H) := by
  intro pins s σ H Q I h
  apply wpAny_Call_Name_kw (ld_glob I hg gC ?_ hdb)
  refine PySem.W.callWith_K0 I.kIn kC ?_
  show wpAny _ _ (call (.ref C) []) _ _ _
  obtain ⟨bm, N, nm, qn, bs, hdct, sn, sub, ab, col, dd, k0, k1, k2, k3, k5, mN, hC, hN, hni, T⟩ := exc_obj I.kIn q
  refine wpAny_call_exc_subT F T hC hN hni (fun h' e hm => ?_) (Nat.zero_le _)
  exact mk_of I hm r h (I.hok.gone hm.new)
end Z
end

section
set_option Elab.async false
set_option linter.all false
set_option maxRecDepth 100000
set_option maxHeartbeats 2000000
namespace Z
open PySem PySem.Spec PyProof.Rows L2
/-! ### the end of a law whose promise wants that no repr is under way -/
theorem law_goes {P : Program} {w : World} {K : PySem.W.Frag} {mg mb : Str → Option Value} {CX : CXT} {k : Nat} {fa a : Addr} {fd : FuncData} {x : Str} {sp : Sp} {t : Shared} {vs : List Value} {ns : List Int}
    (KX : K.In t.heap) (g1 : t.heap.Ns mainGlobals mg) (g2 : t.heap.Ns builtinsNs mb) (g3 : ∀ x : Str, x ≠ "__name__" → mb x = bootBuiltins x) (lim : t.heap.NoLimit) (gn : t.gens = #[])
    (at_a : t.heap.get? a = some { cls := .type "list", data := .seq vs.toArray }) (its : IntsAre vs ns) (short : ns.length ≤ sizeLine) (room : Room k callerA)
    (F : ∀ base : Heap, K.In base → base.Ns mainGlobals mg → FnG P w K mg base CX k fa fd [x] sp) (bd : ∀ (s : Shared) (u : Value), BindsTo s fd ⟨[u], []⟩ [(x, u)])
    (want : ∀ H : Hp, Only H → SqL K H a (ns.map V.int) → sp [.ref a] H (fun v _ => v = .bl true) fun _ _ _ => False)
    (calm : ∀ H e s', CX [] H t (fun _ _ _ => False) e s' → False) :
    codeAny (model P w) callerA (.call (.ref fa) ⟨[.ref a], []⟩) (fun r s' => r = .ok (.ret (.bool true)) ∧ OldK t.heap s'.heap ∧ s'.os = t.os ∧ AllBare s'.gens) t := by
  have rel := vals_ints its
  have same_len := its.length
  obtain ⟨H, hH, hS⟩ : ∃ H : Hp, (∀ b u, H b = some u → b = a ∧ K.lookup a = none ∧ u = .frz { cls := .type "list", data := .seq vs.toArray } (.lst (ns.map V.int))) ∧ SqL K H a (ns.map V.int) := by
    cases look : K.lookup a with
    | none =>
      refine ⟨fun b => if b = a then some (.frz { cls := .type "list", data := .seq vs.toArray } (.lst (ns.map V.int))) else none, ?_, ?_⟩
      · intro b u e
        by_cases hb : b = a
        · have e' := (if_pos hb).symm.trans e
          exact ⟨hb, rfl, (Option.some.inj e').symm⟩
        · have e' := (if_neg hb).symm.trans e
          cases e'
      · exact Or.inl (Or.inr ⟨_, if_pos rfl⟩)
    | some o =>
      have e := KX a o look
      rw [at_a] at e
      cases e
      refine ⟨fun _ => none, fun b u e => ?_, ?_⟩
      · have e' : (none : Option HO) = some u := e
        cases e'
      · exact Or.inr ⟨_, vs.toArray, _, look, rfl, rfl, rfl, by rw [List.size_toArray, same_len]; exact short, by simpa using rel⟩
  have only : Only H := fun b => by
    cases e : H b with
    | none => exact Or.inl rfl
    | some u =>
      obtain ⟨_, _, hu⟩ := hH b u e
      exact Or.inr ⟨_, _, by rw [hu]⟩
  have held : HOk P w H t.heap := fun b u e => by
    obtain ⟨hb, _, hu⟩ := hH b u e
    subst hb hu
    exact ⟨at_a, by rw [List.length_map]; exact short, vs, _, rel, at_a⟩
  have keep : ∀ {b : Addr} {o : Obj}, t.heap.get? b = some o → H b = none → (hidT t.heap H).get? b = some o := fun e n => hidT_get e n
  have ofK : K.In (hidT t.heap H) := fun b o e => keep (KX b o e) (by
    cases q : H b with
    | none => rfl
    | some u =>
      obtain ⟨hb, no, _⟩ := hH b u q
      rw [hb, no] at e
      cases e)
  have ofNs : ∀ {b : Addr} {m : Str → Option Value}, t.heap.Ns b m → (hidT t.heap H).Ns b m := by
    intro b m hb
    obtain ⟨o, es, ep, e, d, r⟩ := hb
    refine ⟨o, es, ep, keep e ?_, d, r⟩
    cases q : H b with
    | none => rfl
    | some u =>
      obtain ⟨hb, _, _⟩ := hH b u q
      rw [hb, at_a] at e
      cases e
      cases d
  have M : Mod K mg (hidT t.heap H) := by
    obtain ⟨mc, c1, c2⟩ := lim
    exact ⟨ofK, ofNs g1, ⟨mb, ofNs g2, g3⟩, mc, ofNs c1, c2⟩
  have e0 : Env0 P w K mg (hidT t.heap H) callerA [] t H := by
    refine ⟨rfl, M, fun b o e => of_hidT e, Nat.le_of_eq (hidT_size _ _), trivial, ?_, held, AllBare.of_eq gn⟩
    intro b hb
    exact absurd (show b ∈ ([] : List Addr) from hb) List.not_mem_nil
  refine codeAny_mono ((F _ ofK (ofNs g1)).go callerA [] t H ⟨[.ref a], []⟩ [.ref a] [.ref a] _ _ room rfl e0 (bd t (.ref a)) (.cons rfl .nil) (want H only hS)) ?_
  intro r s' h
  cases r with
  | error e => exact (calm H e s' h).elim
  | ok fl =>
    cases fl with
    | next => exact (show False from h).elim
    | brk => exact (show False from h).elim
    | cont => exact (show False from h).elim
    | ret u =>
      obtain ⟨v, H', os, bare, un, held', rv, q⟩ := h
      have q' : v = V.bl true := q
      subst q'
      obtain rfl : u = Value.bool true := rv
      refine ⟨rfl, OldK.of_keep ?_, os, bare⟩
      intro b o e
      cases q : H b with
      | none => exact un.keep b o e q (show b ∉ ([] : List Addr) from List.not_mem_nil) List.not_mem_nil
      | some u =>
        obtain ⟨_, _, hu⟩ := hH b u q
        rw [hu] at q
        have z2 := un.frzs b _ _ q
        have e1 := (held b _ q).1
        have e2 := (held' b _ z2).1
        rw [e] at e1
        cases e1
        exact e2
theorem walk_ofG {l : PySem.W.OpenLaw} {n k : Nat} {q : Program} {loose : List Str} {XP : (Str → Option Value) → Heap → Prop} {YP : World → Heap → Prop} {d : DefRec} {K : Params → PySem.W.Frag} {CX : World → CXT} {sp : World → Sp} {x : Str}
    (hn : l.most = some n) (hn2 : n ≤ sizeLine) (hdf : d.params.defaults = []) (hr : Room k callerA)
    (hY : ∀ (w : World) (h : Heap), YP w h → (K w.params).In h)
    (F : ∀ (w : World) (mg : Str → Option Value) (fa : Addr) (h : Heap), (K w.params).In h → h.Ns mainGlobals mg → mg d.name = some (.ref fa) →
      ∃ fd : FuncData, (∀ (s : Shared) (u : Value), BindsTo s fd ⟨[u], []⟩ [(x, u)]) ∧
        ∀ base : Heap, (K w.params).In base → base.Ns mainGlobals mg → FnG l.prog w (K w.params) mg base (CX w) k fa fd [x] (sp w))
    (hsp : ∀ (w : World) (H : Hp) (a : Addr) (ns : List Int), ns.length ≤ n → Only H → SqL (K w.params) H a (ns.map V.int) → sp w [.ref a] H (fun v _ => v = .bl true) fun _ _ _ => False)
    (hCX : ∀ (w : World) (H : Hp) (s : Shared) (e : Value) (s' : Shared), CX w [] H s (fun _ _ _ => False) e s' → False) :
    PySem.W.WalkO q loose XP YP l.row.toRowW d [] (fun f vs => PySem.call f vs) := by
  apply Att.attach_call hn hdf
  intro w s₀ t mg mb fa o pm cd doc a vs ns G Y _ _ _ hmg hobj hints hlen hg
  obtain ⟨fd, hb, hF⟩ := F w mg fa _ (hY w _ Y) G.T.g hmg
  exact law_goes (hY w _ Y) G.T.g G.T.b G.T.builtins G.T.nolimit hg hobj hints (Nat.le_trans hlen hn2) hr hF hb
    (fun H hO hS => hsp w H a ns hlen hO hS) (fun H e s' => hCX w H t e s')
end Z
end

section
set_option Elab.async false
set_option linter.all false
set_option maxRecDepth 100000
set_option maxHeartbeats 2000000
namespace Z
open PySem PySem.Spec PyProof.Rows L2
theorem hu64 {k : Nat} {A : Around} (hr : Room k A) : A.units + 64 < cLine := by
  have h := hr.un
  omega
/-- a def of the module by its name -/
structure Df (P : Program) (w : World) (K : PySem.W.Frag) (mg : Str → Option Value) (base : Heap) (k : Nat) (x : Str) (sp : Sp) : Prop where
  ex : ∃ (f : Addr) (fd : FuncData) (ps : List Str), FnG P w K mg base (L2.CX P w) k f fd ps sp ∧ mg x = some (.ref f) ∧ PySem.W.keepIn K (.ref f) = true ∧ Binds K fd ps []
section
variable {P : Program} {w : World} {K : PySem.W.Frag} {mg : Str → Option Value} {base : Heap} {k : Nat}
theorem df_of {x : Str} {st : Stmt} {f : Addr} {fd : FuncData} {N ps : List Str} {sp : Sp} (F : L2.Fun K x x st f fd) (hm : mg x = some (.ref f)) (b : Binds K fd ps []) (S : FnScope N ps (defScope st))
    (ln : ∀ vs H Q E, sp vs H Q E → vs.length = ps.length)
    (body : ∀ (cdv : Value) (A : Around) (fr : List Env) (s : Shared) (H : Hp) (vs : List V) (Q : VK) (E : XK),
      Room k (A.deeper (envOfC x (defScope st) s.heap.objs.size f cdv)) → A.guards = some [] → sp vs H Q E →
        ∃ t, PSs (cxOf (L2.CX P w) P w K mg base N x (defScope st) f cdv A fr s H E) (defBody st) t ∧ t { nx := fun _ H' => Q .non H', rt := Q } (start N vs) H) :
    Df P w K mg base (k + 1) x sp := ⟨f, fd, ps, fnG_of F S ln body, hm, F.kp, b⟩
/-- for a def that lets nothing out -/
theorem df_0 {x : Str} {st : Stmt} {f : Addr} {fd : FuncData} {N ps : List Str} {sp : Sp} (F : L2.Fun K x x st f fd) (hm : mg x = some (.ref f)) (b : Binds K fd ps []) (S : FnScope N ps (defScope st))
    (ln : ∀ vs H Q E, sp vs H Q E → vs.length = ps.length)
    (body : ∀ (cdv : Value) (A : Around) (fr : List Env) (s : Shared) (H : Hp) (vs : List V) (Q : VK) (E : XK),
      Room k (A.deeper (envOfC x (defScope st) s.heap.objs.size f cdv)) → A.guards = some [] → sp vs H Q E →
        ∃ t, PSs (cxOf (L2.CX P w) P w K mg base N x (defScope st) f cdv A fr s H E).nox (defBody st) t ∧ t { nx := fun _ H' => Q .non H', rt := Q } (start N vs) H) :
    Df P w K mg base (k + 1) x sp := df_of F hm b S ln fun cdv A fr s H vs Q E hr hg h => by
  obtain ⟨t, ht, q⟩ := body cdv A fr s H vs Q E hr hg h
  exact ⟨t, ht.nox, q⟩
end
section
variable {X : Cx} {j k : Nat} {sp : Sp} {E : XK} {x : Str} {p pos : Pos} {e : Expr} {es : List Expr} {t : TA}
def tF (sp : Sp) (t : TA) : TE := fun σ H Q => t σ H fun vs H1 => sp vs H1 Q (fun _ _ _ => False)
theorem pe_f (c : Df X.prog X.w X.K X.mg X.base k x sp) (hr : Room j X.A) (hk : k ≤ j) (gu : X.A.guards = some []) (hg : Gl X x) (ha : PA X (e :: es) t)
    (hdb : (x == ("__debug__" : Str)) = false := by decide) (he : starEach (e :: es) X.env = (false, eval e X.env) :: starEach es X.env := by rfl) (hpl : (backTo pos (starEach es X.env)).any (·.1) = false := by rfl) :
    PE X (.Call (.Name x p) (e :: es) [] pos) (tF sp t) := by
  obtain ⟨f, fd, ps, F, hm, kp, b⟩ := c.ex
  constructor
  intro pins s σ H Q I h
  refine (pe_callG (E := fun _ _ _ => False) F (hr.mono hk) gu hg hm kp b passL ha hdb he hpl).run pins s σ H Q I ?_
  have e1 : (fun (vs : List V) (H1 : Hp) => sp (vs ++ []) H1 Q fun _ _ _ => False) = fun vs H1 => sp vs H1 Q fun _ _ _ => False := by
    funext vs H1
    rw [List.append_nil]
  show t σ H fun vs H1 => sp (vs ++ []) H1 Q fun _ _ _ => False
  rw [e1]
  exact h
/-- a call in a try -/
def tFS (sp : Sp) (E : L2.St → XK) (t : TA) : TE := fun σ H Q => t σ H fun vs H1 => sp vs H1 Q (E σ)
theorem pe_fS {E : L2.St → XK} (c : Df X.prog X.w X.K X.mg X.base k x sp) (hr : Room j X.A) (hk : k ≤ j) (gu : X.A.guards = some []) (hg : Gl X x) (hx : ∀ σ, PassesAt (L2.CX X.prog X.w) X σ (E σ)) (ha : PA X (e :: es) t)
    (hdb : (x == ("__debug__" : Str)) = false := by decide) (he : starEach (e :: es) X.env = (false, eval e X.env) :: starEach es X.env := by rfl) (hpl : (backTo pos (starEach es X.env)).any (·.1) = false := by rfl) :
    PE X (.Call (.Name x p) (e :: es) [] pos) (tFS sp E t) := by
  obtain ⟨f, fd, ps, F, hm, kp, b⟩ := c.ex
  constructor
  intro pins s σ H Q I h
  apply wpAny_Call_Name_kw (ld_glob I hg hm ?_ hdb)
  refine PySem.W.callWith_K (h₀ := X.base) I.ok.mod.kin kp (thn (ha.run pos pins s σ H _ I h) ?_) he hpl
  intro us s1 got
  obtain ⟨vs, H1, I1, r, q⟩ := got
  refine ⟨I1.kIn, ?_⟩
  have hl : us.length = ps.length := by
    rw [← r.length]
    exact F.ln _ _ _ _ q
  have bb := b s1 us I1.kIn (by rw [List.append_nil]; exact hl)
  rw [List.append_nil] at bb
  refine wpAny_call (codeAny_mono (F.go X.A X.stack s1 H1 ⟨us, []⟩ us vs Q (E σ) (hr.mono hk) gu I1.env0 bb r q) ?_)
  intro res s' hq
  cases res with
  | error err => exact hx σ pins H1 s1 err s' I1 hq
  | ok fl =>
    cases fl with
    | ret u => exact I1.after hq
    | next => exact hq.elim
    | brk => exact hq.elim
    | cont => exact hq.elim
end
/-! ### what stays as it was -/
def Kp (as : List Addr) (H H' : Hp) : Prop := ∀ b o, H b = some o → b ∉ as → H' b = some o
theorem Kp.refl {as : List Addr} (H : Hp) : Kp as H H := fun _ _ e _ => e
theorem Kp.trans {as : List Addr} {H H1 H2 : Hp} (a : Kp as H H1) (b : Kp as H1 H2) : Kp as H H2 := fun c o e n => b c o (a c o e n) n
theorem Kp.more {as bs : List Addr} {H H1 : Hp} (a : Kp as H H1) (h : ∀ x ∈ as, x ∈ bs) : Kp bs H H1 := fun c o e n => a c o e fun z => n (h c z)
theorem Kp.of0 {bs : List Addr} {H H1 : Hp} (a : Kp [] H H1) : Kp bs H H1 := a.more fun _ z => by cases z
theorem Kp.new {as : List Addr} {H : Hp} {p : Addr} {o : HO} (h : H p = none) : Kp as H (upd H p o) := fun b x e _ => by
  rw [upd_ne (ne_of_none e h)]
  exact e
theorem Kp.put {as : List Addr} {H : Hp} {p : Addr} {o : HO} (h : p ∈ as) : Kp as H (upd H p o) := fun b x e n => by
  rw [upd_ne (fun z => n (by rw [z]; exact h))]
  exact e
/-- an object that was new may change -/
theorem Kp.own {as : List Addr} {H H1 : Hp} {p : Addr} {o : HO} (k : Kp as H H1) (h : H p = none) : Kp as H (upd H1 p o) := fun b x e n => by
  rw [upd_ne (ne_of_none e h)]
  exact k b x e n
theorem Kp.ownK {as : List Addr} {H H1 H2 : Hp} {p : Addr} (k : Kp as H H1) (h : H p = none) (k2 : Kp (p :: as) H1 H2) : Kp as H H2 := fun b x e n => by
  refine k2 b x (k b x e n) fun z => ?_
  rcases List.mem_cons.mp z with z | z
  · exact ne_of_none e h z
  · exact n z
theorem Kp.at {H H1 : Hp} {b : Addr} {o : HO} (k : Kp [] H H1) (e : H b = some o) : H1 b = some o := k b o e List.not_mem_nil
theorem Kp.seq {K : PySem.W.Frag} {as : List Addr} {H H' : Hp} {a : Addr} {xs : List V} (k : Kp as H H') (n : a ∉ as) (h : SqL K H a xs) : SqL K H' a xs := by
  rcases h with (h | ⟨o, h⟩) | h
  · exact .inl (.inl (k _ _ h n))
  · exact .inl (.inr ⟨o, k _ _ h n⟩)
  · exact .inr h
theorem Kp.seqT {K : PySem.W.Frag} {as : List Addr} {H H' : Hp} {a : Addr} {xs : List V} (k : Kp as H H') (n : a ∉ as) (h : SqT K H a xs) : SqT K H' a xs := by
  rcases h with (h | ⟨o, h⟩) | h
  · exact .inl (.inl (k _ _ h n))
  · exact .inl (.inr ⟨o, k _ _ h n⟩)
  · exact .inr h
/-- what is free behind was free before -/
theorem Kp.free {as : List Addr} {H H' : Hp} {p : Addr} (k : Kp as H H') (e : H' p = none) (n : p ∉ as) : H p = none := by
  cases q : H p with
  | none => rfl
  | some o =>
    rw [k p o q n] at e
    cases e
theorem small {n : Nat} (h : n ≤ 100000) : n ≤ sizeLine := Nat.le_trans h (by decide)
theorem small' {n : Nat} (h : n < 100000) : n < sizeLine := Nat.lt_of_lt_of_le h (by decide)
end Z
end

section
set_option Elab.async false
set_option linter.all false
set_option maxRecDepth 100000
set_option maxHeartbeats 2000000
namespace Z
open PySem PySem.Spec PyProof.Rows L2
/-! ### data that repr can tell -/
structure Okd (d : PyData) : Prop where
  sh : d.showable = true
  nd : d.hasDict = false
  dp : d.depth ≤ 60
  sz : d.shown.length ≤ sizeLine
theorem int_show {z : Int} (h : z.natAbs < 10 ^ 12) : (PyData.int z).showable = true ∧ (PyData.int z).leavesShort 13 = true := by
  have e : z.natAbs.log2 < 1920 := by
    by_cases h0 : z.natAbs = 0
    · rw [h0]
      decide
    · rw [Nat.log2_lt h0]
      exact Nat.lt_of_lt_of_le h (Nat.le_trans (show 10 ^ 12 ≤ 2 ^ 40 by decide) (Nat.pow_le_pow_right (by decide) (by decide)))
  refine ⟨by simp only [PyData.showable, decide_eq_true_eq]; exact e, ?_⟩
  simp only [PyData.leavesShort, decide_eq_true_eq, PyData.shown_int]
  have z2 := int_text_length_le10 (show 0 < 12 by decide) h
  rw [PySem.ofString_length]
  exact z2
theorem ints_show : ∀ {l : List Int}, (∀ z ∈ l, z.natAbs < 10 ^ 12) → PyData.showableAll (l.map .int) = true ∧ PyData.leavesShortAll 13 (l.map .int) = true ∧ PyData.hasDictAll (l.map .int) = false ∧ PyData.depthAll (l.map .int) = 0 ∧ PyData.bulkAll (l.map .int) = l.length
  | [], _ => ⟨rfl, rfl, rfl, rfl, rfl⟩
  | z :: r, h => by
    obtain ⟨h1, h2, h3, h4, h5⟩ := ints_show (l := r) fun x hx => h x (List.mem_cons_of_mem _ hx)
    obtain ⟨g1, g2⟩ := int_show (h z List.mem_cons_self)
    refine ⟨?_, ?_, ?_, ?_, ?_⟩
    · simp only [List.map_cons, PyData.showableAll, g1, h1, Bool.and_self]
    · simp only [List.map_cons, PyData.leavesShortAll, g2, h2, Bool.and_self]
    · simp only [List.map_cons, PyData.hasDictAll, PyData.hasDict, h3, Bool.or_self]
    · simp only [List.map_cons, PyData.depthAll, PyData.depth, h4, Nat.max_self]
    · simp only [List.map_cons, PyData.bulkAll, PyData.bulk, h5, List.length_cons]
      omega
theorem Okd.int {z : Int} (h : z.natAbs < 10 ^ 12) : Okd (.int z) := by
  obtain ⟨h1, h2⟩ := int_show h
  exact ⟨h1, by simp only [PyData.hasDict], by simp only [PyData.depth]; omega, PyData.shown_fits_bulk (by decide) (by decide) h2 (by simp only [PyData.bulk]; decide)⟩
theorem Okd.tup {l : List Int} (h : ∀ z ∈ l, z.natAbs < 10 ^ 12) (hl : l.length ≤ 1000) : Okd (.tuple (l.map .int)) := by
  obtain ⟨h1, h2, h3, h4, h5⟩ := ints_show h
  refine ⟨by simp only [PyData.showable, h1], by simp only [PyData.hasDict, h3], by simp only [PyData.depth, h4]; omega, PyData.shown_fits_bulk (B := 13) (by decide) (by decide) ?_ ?_⟩
  · simp only [PyData.leavesShort, h2]
  · simp only [PyData.bulk, h5]
    exact Nat.le_trans hl (by decide)
theorem Okd.lst {l : List Int} (h : ∀ z ∈ l, z.natAbs < 10 ^ 12) (hl : l.length ≤ 1000) : Okd (.list (l.map .int)) := by
  obtain ⟨h1, h2, h3, h4, h5⟩ := ints_show h
  refine ⟨by simp only [PyData.showable, h1], by simp only [PyData.hasDict, h3], by simp only [PyData.depth, h4]; omega, PyData.shown_fits_bulk (B := 13) (by decide) (by decide) ?_ ?_⟩
  · simp only [PyData.leavesShort, h2]
  · simp only [PyData.bulk, h5]
    exact Nat.le_trans hl (by decide)
theorem dp_ints {K : PySem.W.Frag} {H : Hp} : ∀ l : List Int, DpAll K H (l.map V.int) (l.map .int)
  | [] => .nil
  | z :: r => .cons (.int z) (dp_ints r)
theorem canLay_ints : ∀ l : List Int, PyData.canLayAll0 (l.map .int) = true
  | [] => rfl
  | z :: r => by simp only [List.map_cons, PyData.canLayAll0, PyData.canLay0, canLay_ints r, Bool.and_self]
theorem depth_ints : ∀ l : List Int, PyData.depthAll (l.map .int) = 0
  | [] => rfl
  | z :: r => by simp only [List.map_cons, PyData.depthAll, PyData.depth, depth_ints r, Nat.max_self]
theorem shaped_ints (l : List Int) : SeqAt.shaped (.list (l.map .int)) = true := by
  simp only [SeqAt.shaped, PyData.canLay0, PyData.depth, canLay_ints, depth_ints, Bool.true_and, decide_eq_true_eq]
  omega
/-- an item of a list, the written part told by name (within a try, a comprehension) -/
theorem ix_listK {X : Cx} (K : PySem.W.Frag) (h : X.K = K) : IxR X (rIxL K) := by
  subst h
  exact ix_list
/-! ### isinstance of a caught error, whatever it is -/
theorem call_isE0 {X : Cx} {a : Addr} {oe : Obj} {cls : Value} {d : Option Addr} {pn : List (Addr × Obj)} (hz : Zc cls d oe) (hf : ∃ vs, oe.data = .fields vs) :
    CallR (X.suite a ((a, oe) :: pn)) (.builtin "isinstance") (fun xs H Q => ∃ D : Addr, cls = .ref D ∧ d = none ∧ ExcC X.K D ∧ rIsE X.K D a xs H Q) := by
  intro pins s σ H xs us Q I r h
  obtain ⟨D, rfl, rfl, C, q⟩ := h
  exact call_isE C hz hf pins s σ H xs us Q I r q
end Z
end

section
set_option Elab.async false
set_option linter.all false
set_option maxRecDepth 100000
set_option maxHeartbeats 2000000
namespace Z
open PySem PySem.Spec PyProof.Rows L2
/-! ### rules whose readings name no changed heap: it is told by what it keeps -/
/-- a new object: its address, the heap behind -/
def Nw (H : Hp) (o : HO) (Q : VK) : Prop := ∀ p H2, H p = none → Kp [] H H2 → H2 p = some o → Q (.ref p) H2
theorem Nw.of {H : Hp} {o : HO} {Q : VK} (h : Nw H o Q) : ∀ p, H p = none → Q (.ref p) (upd H p o) := fun p np => h p _ np (Kp.new np) upd_same
/-- the object at a becomes o -/
def Ch (H : Hp) (a : Addr) (o : HO) (R : Hp → Prop) : Prop := ∀ H2, Kp [a] H H2 → H2 a = some o → R H2
theorem Ch.of {H : Hp} {a : Addr} {o : HO} {R : Hp → Prop} (h : Ch H a o R) : R (upd H a o) := h _ (Kp.put (by simp)) upd_same
section
variable {X : Cx} {e : Expr} {es : List Expr} {ta : TA} {te : TE} {pos : Pos} (K : PySem.W.Frag)
theorem PE.wk {t t' : TE} (h : PE X e t) (i : ∀ σ H Q, t' σ H Q → t σ H Q) : PE X e t' := ⟨fun pins s σ H Q I q => h.run pins s σ H Q I (i σ H Q q)⟩
theorem OpR.wk {f : Value → Value → Sem Value} {r r' : R2} (h : OpR X f r) (i : ∀ x y H Q, r' x y H Q → r x y H Q) : OpR X f r' := fun pins s σ H x y v u Q I rx ry q => h pins s σ H x y v u Q I rx ry (i x y H Q q)
theorem CallR.wk {f : Value} {r r' : List V → Hp → VK → Prop} (h : CallR X f r) (i : ∀ xs H Q, r' xs H Q → r xs H Q) : CallR X f r' := fun pins s σ H xs us Q I r1 q => h pins s σ H xs us Q I r1 (i xs H Q q)
theorem MtM.wk {id : String} {r r' : V → List V → Hp → VK → Prop} (h : MtM X id r) (i : ∀ x xs H Q, r' x xs H Q → r x xs H Q) : MtM X id r' := fun pins s σ H x xs v us Q I r1 r2 q => h pins s σ H x xs v us Q I r1 r2 (i x xs H Q q)
def tLstK (t : TA) : TE := fun σ H Q => t σ H fun xs H1 => xs.length ≤ 100000 ∧ Nw H1 (.lst xs) Q
def tTupK (t : TA) : TE := fun σ H Q => t σ H fun xs H1 => xs.length ≤ 100000 ∧ Nw H1 (.tup xs) Q
/-- what an argument list's reading hands on may be weakened -/
theorem PA.lift {t : TA} (h : PA X es t) {G G' : List V → Hp → Prop} (i : ∀ xs H, G' xs H → G xs H) (pins : List (Addr × Obj)) (s : Shared) (σ : L2.St) (H : Hp) (I : Inv X pins σ H s) (q : t σ H G') :
    wpAny (model X.prog X.w) X.A (spliced (backTo pos (starEach es X.env))) (AP X pins σ G) X.xe s := wpAny_mono (h.run pos pins s σ H G' I q) (fun us s' ⟨vs, H', J, r, g⟩ => ⟨vs, H', J, r, i vs H' g⟩) fun _ _ z => z
theorem pe_lstK {q : Pos} (ha : PA X es ta) : PE X (.List es q) (tLstK ta) := by
  have w : PA X es (fun σ H G => ∃ G' : List V → Hp → Prop, ta σ H G' ∧ ∀ xs H1, G' xs H1 → G xs H1) :=
    ⟨fun pos pins s σ H G I ⟨G', q, i⟩ => PA.lift (pos := pos) ha i pins s σ H I q⟩
  refine PE.wk (pe_lst w) fun σ H Q q => ?_
  exact ⟨_, q, fun xs H1 ⟨h1, h2⟩ => ⟨small h1, h2.of⟩⟩
theorem pe_tupK {k : Nat} {q : Pos} (ha : PA X es ta) : PE X (.Tuple es k q) (tTupK ta) := by
  have w : PA X es (fun σ H G => ∃ G' : List V → Hp → Prop, ta σ H G' ∧ ∀ xs H1, G' xs H1 → G xs H1) :=
    ⟨fun pos pins s σ H G I ⟨G', q, i⟩ => PA.lift (pos := pos) ha i pins s σ H I q⟩
  refine PE.wk (pe_tup w) fun σ H Q q => ?_
  exact ⟨_, q, fun xs H1 ⟨h1, h2⟩ => ⟨small h1, h2.of⟩⟩
def rSlK (K : PySem.W.Frag) : V → Option Int → Option Int → Hp → VK → Prop := fun x lo hi H Q => ∃ a xs, x = .ref a ∧ SqL K H a xs ∧ Nw H (.lst (cutV xs lo hi)) Q
theorem sl_listK (hK : X.K = K) : L2.SlR X (rSlK K) := by
  subst hK
  intro pins s σ H x v vl vu lo hi sl Q I rx hs pl pu q
  obtain ⟨a, xs, ex, hx, n⟩ := q
  exact sl_list pins s σ H x v vl vu lo hi sl Q I rx hs pl pu ⟨a, xs, ex, hx, n.of⟩
def rCatK : R2 := fun x y H Q => ∃ l b xs zs, x = .ref l ∧ y = .ref b ∧ H l = some (.lst xs) ∧ H b = some (.lst zs) ∧ xs.length + zs.length ≤ 100000 ∧ Nw H (.lst (xs ++ zs)) Q
theorem op_catK : OpR X (binaryOp .Add) rCatK := OpR.wk op_cat fun x y H Q ⟨l, b, xs, zs, e1, e2, h1, h2, hl, n⟩ => ⟨l, b, xs, zs, e1, e2, h1, h2, small hl, n.of⟩
def rRepK : R2 := fun x y H Q => ∃ l k xs, x = .ref l ∧ y = .int k ∧ H l = some (.lst xs) ∧ -(2 ^ 63) ≤ k ∧ k < 2 ^ 63 ∧ xs.length * k.toNat ≤ 100000 ∧ Nw H (.lst (List.replicate k.toNat xs).flatten) Q
theorem op_repK : OpR X (binaryOp .Mult) rRepK := OpR.wk op_rep fun x y H Q ⟨l, k, xs, e1, e2, h1, h2, h3, hl, n⟩ => ⟨l, k, xs, e1, e2, h1, h2, h3, small hl, n.of⟩
def rListK (K : PySem.W.Frag) : List V → Hp → VK → Prop := fun xs H Q => ∃ p ys, xs = [.ref p] ∧ (SqL K H p ys ∨ SqT K H p ys) ∧ Nw H (.lst ys) Q
theorem call_list_ofK (hK : X.K = K) : CallR X (.type "list") (rListK K) := by
  subst hK
  exact CallR.wk call_list_of fun xs H Q ⟨p, ys, e, h, n⟩ => ⟨p, ys, e, h, n.of⟩
def rLenK (K : PySem.W.Frag) : List V → Hp → VK → Prop := fun xs H Q => ∃ p ys, xs = [.ref p] ∧ (SqL K H p ys ∨ SqT K H p ys) ∧ Q (.int ys.length) H
theorem call_len_seqK (hK : X.K = K) : CallR X (.builtin "len") (rLenK K) := by
  subst hK
  exact call_len_seq
def tRevK (K : PySem.W.Frag) (te : TE) : TE := fun σ H Q => te σ H fun x H1 => ∃ a xs, x = .ref a ∧ SqL K H1 a xs ∧ Nw H1 (.lst xs.reverse) Q
/-- what an expression's reading hands on may be weakened -/
theorem PE.soft {t : TE} (h : PE X e t) : PE X e (fun σ H G => ∃ G' : VK, t σ H G' ∧ ∀ x H1, G' x H1 → G x H1) :=
  ⟨fun pins s σ H G I ⟨G', q, i⟩ => wpAny_mono (h.run pins s σ H G' I q) (fun u s' ⟨v, H', J, r, g⟩ => ⟨v, H', J, r, i v H' g⟩) fun _ _ z => z⟩
theorem pe_revLK {k : Nat} {p1 p2 p3 q : Pos} (hK : X.K = K) (he : PE X e te) : PE X (.Subscript e (.Slice none none (some (.UnaryOp .USub (.Constant (.int 1) k p1) p2)) p3) q) (tRevK K te) := by
  subst hK
  refine PE.wk (pe_revL (PE.soft he)) fun σ H Q q => ?_
  exact ⟨_, q, fun x H1 ⟨a, xs, ex, hx, n⟩ => ⟨a, xs, ex, hx, n.of⟩⟩
def rAppK : V → List V → Hp → VK → Prop := fun x vs H Q => ∃ l xs y, x = .ref l ∧ vs = [y] ∧ H l = some (.lst xs) ∧ xs.length < 100000 ∧ Ch H l (.lst (xs ++ [y])) (Q .non)
theorem mt_appendK : MtM X "list.append" rAppK := MtM.wk mt_append fun x xs H Q ⟨l, ys, y, e1, e2, h, hl, c⟩ => ⟨l, ys, y, e1, e2, h, small' hl, c.of⟩
theorem ix_tupK (hK : X.K = K) : IxR X (rIxT K) := by
  subst hK
  exact ix_tup
def rSetK : TSet := fun o i v H Q => ∃ p xs k j, o = .ref p ∧ i = .int k ∧ H p = some (.lst xs) ∧ ixN xs.length k = some j ∧ Ch H p (.lst (xs.set j v)) Q
theorem set_listK : PSet X rSetK := fun pins s σ H o i v ov iv u Q I r1 r2 r3 ⟨p, xs, k, j, e1, e2, h, hj, c⟩ => set_list pins s σ H o i v ov iv u Q I r1 r2 r3 ⟨p, xs, k, j, e1, e2, h, hj, c.of⟩
theorem op_eqDK (hK : X.K = K) (hu : X.A.units + 64 < cLine) : OpR X (compareOp .Eq) (rEqD K) := by
  subst hK
  exact op_eqD hu
theorem op_neDK (hK : X.K = K) (hu : X.A.units + 64 < cLine) : OpR X (compareOp .NotEq) (rNeD K) := by
  subst hK
  exact op_neD hu
theorem pi_listK {tg : Expr} (hK : X.K = K) (h : PE X e te) : PI X tg e (iList K te) := by
  subst hK
  exact pi_list h
theorem pi_tupK {tg : Expr} (hK : X.K = K) (h : PE X e te) : PI X tg e (iTup K te) := by
  subst hK
  exact pi_tup h
end
/-! ### a def's promise without a name -/
theorem fnG_0 {P : Program} {w : World} {K : PySem.W.Frag} {mg : Str → Option Value} {base : Heap} {k : Nat} {x : Str} {st : Stmt} {f : Addr} {fd : FuncData} {N ps : List Str} {sp : Sp} (F : L2.Fun K x x st f fd) (S : FnScope N ps (defScope st))
    (ln : ∀ vs H Q E, sp vs H Q E → vs.length = ps.length)
    (body : ∀ (cdv : Value) (A : Around) (fr : List Env) (s : Shared) (H : Hp) (vs : List V) (Q : VK) (E : XK),
      Room k (A.deeper (envOfC x (defScope st) s.heap.objs.size f cdv)) → A.guards = some [] → sp vs H Q E →
        ∃ t, PSs (cxOf (L2.CX P w) P w K mg base N x (defScope st) f cdv A fr s H E).nox (defBody st) t ∧ t { nx := fun _ H' => Q .non H', rt := Q } (start N vs) H) :
    FnG P w K mg base (L2.CX P w) (k + 1) f fd ps sp := fnG_of F S ln fun cdv A fr s H vs Q E hr hg h => by
  obtain ⟨t, ht, q⟩ := body cdv A fr s H vs Q E hr hg h
  exact ⟨t, ht.nox, q⟩
end Z
end

section
set_option Elab.async false
set_option linter.all false
set_option maxRecDepth 100000
set_option maxHeartbeats 2000000
namespace Z
open PySem PySem.Spec PyProof.Rows L2
/-! ### what stands in a heap is looked up along what was kept -/
theorem Kp.look {as : List Addr} {H H' : Hp} {a : Addr} {o : HO} (k : Kp as H H') (n : a ∉ as) (e : H a = some o) : H' a = some o := k a o e n
theorem nin1 {H : Hp} {a b : Addr} {o : HO} (h2 : H a = none) (h1 : H b = some o) : a ∉ [b] := fun z => ne_of_none h1 h2 (List.mem_singleton.mp z).symm
theorem nin2 {H : Hp} {a b : Addr} {o : HO} (h2 : H b = none) (h1 : H a = some o) : a ∉ [b] := fun z => ne_of_none h1 h2 (List.mem_singleton.mp z)
theorem ninT {H : Hp} {a b : Addr} {xs ys : List V} (h1 : H a = some (.tup xs)) (h2 : H b = some (.lst ys)) : a ∉ [b] := fun z => by
  rw [List.mem_singleton.mp z, h2] at h1
  cases h1
theorem nin_cons {a b : Addr} {bs : List Addr} (h1 : a ∉ [b]) (h2 : a ∉ bs) : a ∉ b :: bs := fun z => by
  rcases List.mem_cons.mp z with z | z
  · exact h1 (by rw [z]; exact List.mem_singleton.mpr rfl)
  · exact h2 z
theorem SqL.look {K : PySem.W.Frag} {as : List Addr} {H H' : Hp} {a : Addr} {xs : List V} (k : Kp as H H') (n : a ∉ as) (e : SqL K H a xs) : SqL K H' a xs := k.seq n e
end Z
end

section
set_option Elab.async false
set_option linter.all false
set_option maxRecDepth 100000
set_option maxHeartbeats 2000000
namespace Z
open PySem PySem.Spec PyProof.Rows L2
section
variable {X : Cx} {CX : CXT} {k j : Nat} {f C : Addr} {fd : FuncData} {ps : List Str} {sp : Sp} {x m : Str} {p pos apos : Pos} {o e : Expr} {es : List Expr} {ta : TE} {t : TA}
/-- a call of a def, its arguments read; what may be raised told at these slots -/
theorem runG {pins : List (Addr × Obj)} {σ : L2.St} {H : Hp} {s : Shared} {Q : VK} {E : XK} {us : List Value} {vs : List V} (F : FnG X.prog X.w X.K X.mg X.base CX k f fd ps sp) (hr : Room k X.A) (gu : X.A.guards = some []) (hb : Binds X.K fd ps [])
    (hx : ∀ (e : Value) (s' : Shared), CX X.stack H s E e s' → X.xe e s') (I : Inv X pins σ H s) (r : Vals vs us) (q : sp vs H Q E) :
    wpAny (model X.prog X.w) X.A (call (.ref f) us) (EP X pins σ Q) X.xe s := by
  have hl : us.length = ps.length := by
    rw [← r.length]
    exact F.ln _ _ _ _ q
  have b := hb s us I.kIn (by rw [List.append_nil]; exact hl)
  rw [List.append_nil] at b
  refine wpAny_call (codeAny_mono (F.go X.A X.stack s H ⟨us, []⟩ us vs Q E hr gu I.env0 b r q) ?_)
  intro res s' hq
  cases res with
  | error err => exact hx err s' hq
  | ok fl =>
    cases fl with
    | ret u => exact I.after hq
    | next => exact hq.elim
    | brk => exact hq.elim
    | cont => exact hq.elim
theorem none_out {P : Program} {w : World} {fr : List Env} {H : Hp} {s : Shared} {e : Value} {s' : Shared} (h : L2.CX P w fr H s (fun _ _ _ => False) e s') : False := by
  obtain ⟨_, _, _, _, _, _, _, _, _, _, _, _, z⟩ := h
  exact z
/-! ### methods -/
structure Mt (P : Program) (w : World) (K : PySem.W.Frag) (mg : Str → Option Value) (base : Heap) (k : Nat) (C : Addr) (m : Str) (sp : Sp) : Prop where
  ex : ∃ (f : Addr) (fd : FuncData) (ps : List Str), Cls K C ∧ Meth K C m f ∧ FnG P w K mg base (L2.CX P w) k f fd ps sp ∧ Binds K fd ps []
def tM (C : Addr) (m : Str) (sp : Sp) (E : L2.St → XK) (ta : TE) (t : TA) : TE := fun σ H Q => ta σ H fun x H1 => ∃ a dx fs, x = .ref a ∧ H1 a = some (.ins C dx fs) ∧ fs.lookup m = none ∧ t σ H1 fun vs H2 => sp (.ref a :: vs) H2 Q (E σ)
theorem pe_mS {pl : Sem Bool} {E : L2.St → XK} (c : Mt X.prog X.w X.K X.mg X.base k C m sp) (hr : Room j X.A) (hk : k ≤ j) (gu : X.A.guards = some []) (hx : ∀ σ, PassesAt (L2.CX X.prog X.w) X σ (E σ)) (he : PE X o ta) (ha : PA X (e :: es) t)
    (hst : starEach (e :: es) X.env = (false, eval e X.env) :: starEach es X.env := by rfl) (hpl : (backTo pos (starEach es X.env)).any (·.1) = false := by rfl)
    (ht : eval (.Call (.Attribute o m apos) (e :: es) [] pos) X.env = (do
      let ov ← eval o X.env
      standAt apos.atName
      let (f, first) ← holding [ov] (getMethod ov m pl)
      callWith pos f first (backTo pos (starEach (e :: es) X.env)) (backToKw pos (keywordEach [] X.env))) := by rfl) :
    PE X (.Call (.Attribute o m apos) (e :: es) [] pos) (tM C m sp E ta t) := by
  obtain ⟨f, fd, ps, cl, me, F, b⟩ := c.ex
  constructor
  intro pins s σ H Q I h
  refine PySem.W.methodCall_KW (pl := pl) (thn (he.run pins s σ H _ I h) ?_) ht
  intro u s1 got
  obtain ⟨x, H1, I1, rx, a, dx, fs, ex, ea, l, q⟩ := got
  subst ex
  obtain rfl : u = Value.ref a := rx
  refine getmeth_ok I1 ea cl me l ?_
  refine PySem.W.callWith_K (first := [.ref a]) (h₀ := X.base) I.ok.mod.kin me.kp (thn (ha.run pos pins s1 σ H1 _ I1 q) ?_) hst hpl
  intro us s2 got
  obtain ⟨vs, H2, I2, r, q2⟩ := got
  exact ⟨I2.kIn, runG (us := .ref a :: us) (vs := .ref a :: vs) F (hr.mono hk) gu b (fun e s' h => hx σ pins H2 s2 e s' I2 h) I2 (.cons rfl r) q2⟩
theorem pe_m0S {pl : Sem Bool} {E : L2.St → XK} (c : Mt X.prog X.w X.K X.mg X.base k C m sp) (hr : Room j X.A) (hk : k ≤ j) (gu : X.A.guards = some []) (hx : ∀ σ, PassesAt (L2.CX X.prog X.w) X σ (E σ)) (he : PE X o ta)
    (ht : eval (.Call (.Attribute o m apos) [] [] pos) X.env = (do
      let ov ← eval o X.env
      standAt apos.atName
      let (f, first) ← holding [ov] (getMethod ov m pl)
      callWith pos f first (backTo pos (starEach [] X.env)) (backToKw pos (keywordEach [] X.env))) := by rfl) :
    PE X (.Call (.Attribute o m apos) [] [] pos) (tM C m sp E ta tNil) := by
  obtain ⟨f, fd, ps, cl, me, F, b⟩ := c.ex
  constructor
  intro pins s σ H Q I h
  refine PySem.W.methodCall_KW (pl := pl) (thn (he.run pins s σ H _ I h) ?_) ht
  intro u s1 got
  obtain ⟨x, H1, I1, rx, a, dx, fs, ex, ea, l, q⟩ := got
  subst ex
  obtain rfl : u = Value.ref a := rx
  refine getmeth_ok I1 ea cl me l ?_
  exact PySem.W.callWith_K0 (first := [.ref a]) I1.kIn me.kp (runG (us := [.ref a]) (vs := [.ref a]) F (hr.mono hk) gu b (fun e s' h => hx σ pins H1 s1 e s' I1 h) I1 (.cons rfl .nil) q)
theorem pass_none (σ : L2.St) : PassesAt (L2.CX X.prog X.w) X σ (fun _ _ _ => False) := fun _ _ _ _ _ _ h => (none_out h).elim
theorem pe_m {pl : Sem Bool} (c : Mt X.prog X.w X.K X.mg X.base k C m sp) (hr : Room j X.A) (hk : k ≤ j) (gu : X.A.guards = some []) (he : PE X o ta) (ha : PA X (e :: es) t)
    (hst : starEach (e :: es) X.env = (false, eval e X.env) :: starEach es X.env := by rfl) (hpl : (backTo pos (starEach es X.env)).any (·.1) = false := by rfl)
    (ht : eval (.Call (.Attribute o m apos) (e :: es) [] pos) X.env = (do
      let ov ← eval o X.env
      standAt apos.atName
      let (f, first) ← holding [ov] (getMethod ov m pl)
      callWith pos f first (backTo pos (starEach (e :: es) X.env)) (backToKw pos (keywordEach [] X.env))) := by rfl) :
    PE X (.Call (.Attribute o m apos) (e :: es) [] pos) (tM C m sp (fun _ _ _ _ => False) ta t) := pe_mS c hr hk gu pass_none he ha hst hpl ht
theorem pe_m0 {pl : Sem Bool} (c : Mt X.prog X.w X.K X.mg X.base k C m sp) (hr : Room j X.A) (hk : k ≤ j) (gu : X.A.guards = some []) (he : PE X o ta)
    (ht : eval (.Call (.Attribute o m apos) [] [] pos) X.env = (do
      let ov ← eval o X.env
      standAt apos.atName
      let (f, first) ← holding [ov] (getMethod ov m pl)
      callWith pos f first (backTo pos (starEach [] X.env)) (backToKw pos (keywordEach [] X.env))) := by rfl) :
    PE X (.Call (.Attribute o m apos) [] [] pos) (tM C m sp (fun _ _ _ _ => False) ta tNil) := pe_m0S c hr hk gu pass_none he ht
/-! ### making an instance -/
structure Mn (P : Program) (w : World) (K : PySem.W.Frag) (mg : Str → Option Value) (base : Heap) (k : Nat) (x : Str) (C : Addr) (sp : Sp) : Prop where
  ex : ∃ (f : Addr) (fd : FuncData) (ps : List Str), Mk K C f ∧ FnG P w K mg base (L2.CX P w) k f fd ps sp ∧ mg x = some (.ref C) ∧ Binds K fd ps []
def tN (C : Addr) (sp : Sp) (E : L2.St → XK) (t : TA) : TE := fun σ H Q => t σ H fun vs H1 => ∀ x H2, H1 x = none → Kp [] H1 H2 → (∃ dx, H2 x = some (.ins C dx [])) → sp (.ref x :: vs) H2 (fun v H3 => v = .non ∧ Q (.ref x) H3) (E σ)
theorem under_guards {A : Around} {C : Addr} {us : List Value} {kw : List (Str × Value)} : (A.under (.builtin "type.__call__" ⟨.ref C :: us, kw⟩)).guards = A.guards := by
  first
    | rfl
    | simp [Around.under, Code.guards, Code.isGuard, pushGuards, guardIds]
theorem pe_nS {E : L2.St → XK} (c : Mn X.prog X.w X.K X.mg X.base k x C sp) (hr : Room j X.A) (hk : k + 1 ≤ j) (gu : X.A.guards = some []) (hg : Gl X x) (hx : ∀ σ, PassesAt (L2.CX X.prog X.w) X σ (E σ)) (ha : PA X (e :: es) t)
    (hdb : (x == ("__debug__" : Str)) = false := by decide) (he : starEach (e :: es) X.env = (false, eval e X.env) :: starEach es X.env := by rfl) (hpl : (backTo pos (starEach es X.env)).any (·.1) = false := by rfl) :
    PE X (.Call (.Name x p) (e :: es) [] pos) (tN C sp E t) := by
  obtain ⟨f, fd, ps, M, F, hm, b⟩ := c.ex
  constructor
  intro pins s σ H Q I h
  apply wpAny_Call_Name_kw (ld_glob I hg hm ?_ hdb)
  refine PySem.W.callWith_K (h₀ := X.base) I.ok.mod.kin M.kp (thn (ha.run pos pins s σ H _ I h) ?_) he hpl
  intro us s1 got
  obtain ⟨vs, H1, I1, r, q⟩ := got
  refine ⟨I1.kIn, ?_⟩
  have f1 : H1 (s1.heap.objs.size + 1) = none := I1.hok.fresh (Nat.le_succ _)
  have f2 : H1 s1.heap.objs.size = none := I1.hok.fresh (Nat.le_refl _)
  have ne : s1.heap.objs.size ≠ s1.heap.objs.size + 1 := Nat.ne_of_lt (Nat.lt_succ_self _)
  have kk : Kp [] H1 (upd (upd H1 s1.heap.objs.size (.own (s1.heap.objs.size + 1))) (s1.heap.objs.size + 1) (.ins C s1.heap.objs.size [])) := by
    intro b o e _
    rw [upd_ne (ne_of_none e f1), upd_ne (ne_of_none e f2)]
    exact e
  have hq := q (s1.heap.objs.size + 1) _ f1 kk ⟨s1.heap.objs.size, upd_same⟩
  have I2 := Inv.made (C := C) I1
  have r2 : Vals (V.ref (s1.heap.objs.size + 1) :: vs) (Value.ref (s1.heap.objs.size + 1) :: us) := .cons rfl r
  have hl : (Value.ref (s1.heap.objs.size + 1) :: us).length = ps.length := by
    rw [← r2.length]
    exact F.ln _ _ _ _ hq
  have bb := b _ (Value.ref (s1.heap.objs.size + 1) :: us) I2.kIn (by rw [List.append_nil]; exact hl)
  rw [List.append_nil] at bb
  refine wpAny_call (make_map (f := f) I1.kIn M.makes M.init (beq_iff_eq.mp M.fn) (codeAny_mono (F.go _ X.stack _ _ ⟨Value.ref (s1.heap.objs.size + 1) :: us, []⟩ (Value.ref (s1.heap.objs.size + 1) :: us) _ _ (E σ) ((hr.mono hk).make C us [])
    (under_guards.trans gu) (I2.env0.make C us []) bb r2 hq) ?_))
  intro res s' hq'
  cases res with
  | error err => exact hx σ pins _ _ err s' I2 hq'
  | ok fl =>
    cases fl with
    | ret u =>
      obtain ⟨v, H', I3, rv, ev, q3⟩ := I2.after hq'
      subst ev
      exact ⟨rv, ⟨V.ref (s1.heap.objs.size + 1), H', I3, rfl, q3⟩⟩
    | next => exact hq'.elim
    | brk => exact hq'.elim
    | cont => exact hq'.elim
theorem pe_n (c : Mn X.prog X.w X.K X.mg X.base k x C sp) (hr : Room j X.A) (hk : k + 1 ≤ j) (gu : X.A.guards = some []) (hg : Gl X x) (ha : PA X (e :: es) t)
    (hdb : (x == ("__debug__" : Str)) = false := by decide) (he : starEach (e :: es) X.env = (false, eval e X.env) :: starEach es X.env := by rfl) (hpl : (backTo pos (starEach es X.env)).any (·.1) = false := by rfl) :
    PE X (.Call (.Name x p) (e :: es) [] pos) (tN C sp (fun _ _ _ _ => False) t) := pe_nS c hr hk gu hg pass_none ha hdb he hpl
end
/-! ### attributes -/
section
variable {X : Cx} {e o : Expr} {ta tv : TE} {fl : Str} {pos : Pos}
/-- o.f = e: the heap behind told by what it keeps -/
def sFldK (K : PySem.W.Frag) (to tv : TE) (f : Str) : TS := fun D σ H => tv σ H fun v H1 => to σ H1 fun x H2 => ∃ a C dx fs, x = .ref a ∧ H2 a = some (.ins C dx fs) ∧ Cls K C ∧ NoAttr K C f ∧ fs.length < 1000 ∧ Ch H2 a (.ins C dx (putF f v fs)) (D.nx σ)
end
end Z
end

section
set_option Elab.async false
set_option linter.all false
set_option maxRecDepth 100000
set_option maxHeartbeats 2000000
/-! T1: data by value. A frozen part G of the heap; lists and dicts that a slot owns; what holds of the slots (Rp). -/
namespace T
open PySem PySem.Spec PyProof.Rows L2 Z
abbrev Fg := PySem.W.Frag
def Sub (G H : Hp) : Prop := ∀ a o, G a = some o → H a = some o
theorem Sub.refl (G : Hp) : Sub G G := fun _ _ e => e
theorem Sub.trans {G H I : Hp} (a : Sub G H) (b : Sub H I) : Sub G I := fun c o e => b c o (a c o e)
end T
namespace L2
open PySem PySem.Spec PyProof.Rows Z
theorem Rd.sub {G H : Hp} {a : Addr} {u : HO} (s : T.Sub G H) (r : Rd G a u) : Rd H a u := r.elim (fun e => .inl (s _ _ e)) fun ⟨o, e⟩ => .inr ⟨o, s _ _ e⟩
theorem SqL.sub {K : PySem.W.Frag} {G H : Hp} {a : Addr} {xs : List V} (s : T.Sub G H) (r : SqL K G a xs) : SqL K H a xs := r.elim (fun e => .inl (Rd.sub s e)) .inr
theorem SqT.sub {K : PySem.W.Frag} {G H : Hp} {a : Addr} {xs : List V} (s : T.Sub G H) (r : SqT K G a xs) : SqT K H a xs := r.elim (fun e => .inl (Rd.sub s e)) .inr
mutual
theorem Dp.sub {K : PySem.W.Frag} {G H : Hp} (s : T.Sub G H) : ∀ {d : PyData} {v : V}, Dp K G v d → Dp K H v d
  | .none, _, h => by cases h; exact .non
  | .bool b, _, h => by cases h; exact .bl b
  | .int b, _, h => by cases h; exact .int b
  | .str b, _, h => by cases h; exact .str b
  | .list ds, _, h => by
    cases h with
    | lst a b => exact .lst (SqL.sub s a) (DpAll.sub s b)
  | .tuple ds, _, h => by
    cases h with
    | tup a b => exact .tup (SqT.sub s a) (DpAll.sub s b)
  | .dict _, _, h => by cases h
theorem DpAll.sub {K : PySem.W.Frag} {G H : Hp} (s : T.Sub G H) : ∀ {ds : List PyData} {vs : List V}, DpAll K G vs ds → DpAll K H vs ds
  | [], _, h => by cases h; exact .nil
  | d :: ds, _, h => by
    cases h with
    | cons a b => exact .cons (Dp.sub s a) (DpAll.sub s b)
end
theorem DpAll.len {K : PySem.W.Frag} {G : Hp} : ∀ {vs : List V} {ds : List PyData}, DpAll K G vs ds → vs.length = ds.length
  | _, _, .nil => rfl
  | _, _, .cons _ t => by rw [List.length_cons, List.length_cons, DpAll.len t]
theorem DpAll.app {K : PySem.W.Frag} {G : Hp} : ∀ {vs ws : List V} {ds es : List PyData}, DpAll K G vs ds → DpAll K G ws es → DpAll K G (vs ++ ws) (ds ++ es)
  | _, _, _, _, .nil, h => h
  | _, _, _, _, .cons a t, h => .cons a (DpAll.app t h)
theorem DpAll.get {K : PySem.W.Frag} {G : Hp} : ∀ {vs : List V} {ds : List PyData}, DpAll K G vs ds → ∀ {i : Nat} {d : PyData}, ds[i]? = some d → ∃ v, vs[i]? = some v ∧ Dp K G v d
  | _, _, .nil, i, d, e => by simp at e
  | _, _, .cons a t, 0, d, e => by
    simp at e
    subst e
    exact ⟨_, rfl, a⟩
  | _, _, .cons a t, i + 1, d, e => by
    obtain ⟨v, h1, h2⟩ := DpAll.get t (i := i) (d := d) (by simpa using e)
    exact ⟨v, by simpa using h1, h2⟩
theorem DpAll.getV {K : PySem.W.Frag} {G : Hp} : ∀ {vs : List V} {ds : List PyData}, DpAll K G vs ds → ∀ {i : Nat} {v : V}, vs[i]? = some v → ∃ d, ds[i]? = some d ∧ Dp K G v d
  | _, _, .nil, i, d, e => by simp at e
  | _, _, .cons a t, 0, d, e => by
    simp at e
    subst e
    exact ⟨_, rfl, a⟩
  | _, _, .cons a t, i + 1, d, e => by
    obtain ⟨v, h1, h2⟩ := DpAll.getV t (i := i) (v := d) (by simpa using e)
    exact ⟨v, by simpa using h1, h2⟩
theorem DpAll.take {K : PySem.W.Frag} {G : Hp} : ∀ {vs : List V} {ds : List PyData}, DpAll K G vs ds → ∀ n, DpAll K G (vs.take n) (ds.take n)
  | _, _, .nil, n => by simp; exact .nil
  | _, _, .cons a t, 0 => .nil
  | _, _, .cons a t, n + 1 => .cons a (DpAll.take t n)
theorem DpAll.drop {K : PySem.W.Frag} {G : Hp} : ∀ {vs : List V} {ds : List PyData}, DpAll K G vs ds → ∀ n, DpAll K G (vs.drop n) (ds.drop n)
  | _, _, .nil, n => by simp; exact .nil
  | _, _, .cons a t, 0 => .cons a t
  | _, _, .cons a t, n + 1 => DpAll.drop t n
theorem DpAll.rev {K : PySem.W.Frag} {G : Hp} : ∀ {vs : List V} {ds : List PyData}, DpAll K G vs ds → DpAll K G vs.reverse ds.reverse
  | _, _, .nil => .nil
  | _, _, .cons a t => by
    rw [List.reverse_cons, List.reverse_cons]
    exact (DpAll.rev t).app (.cons a .nil)
theorem DpAll.set {K : PySem.W.Frag} {G : Hp} : ∀ {vs : List V} {ds : List PyData}, DpAll K G vs ds → ∀ {v : V} {d : PyData} (i : Nat), Dp K G v d → DpAll K G (vs.set i v) (ds.set i d)
  | _, _, .nil, v, d, i, h => .nil
  | _, _, .cons a t, v, d, 0, h => .cons h t
  | _, _, .cons a t, v, d, i + 1, h => .cons a (DpAll.set t i h)
theorem DpAll.ints {K : PySem.W.Frag} {G : Hp} : ∀ (l : List Int), DpAll K G (l.map V.int) (l.map .int)
  | [] => .nil
  | z :: r => .cons (.int z) (DpAll.ints r)
theorem DpAll.ints_of {K : PySem.W.Frag} {G : Hp} : ∀ {l : List Int} {vs : List V}, DpAll K G vs (l.map .int) → vs = l.map V.int
  | [], _, h => by cases h; rfl
  | z :: r, _, h => by
    cases h with
    | cons a b =>
      cases a
      rw [DpAll.ints_of b]
      rfl
end L2
namespace T
open PySem PySem.Spec PyProof.Rows L2 Z
/-! ### what a slot owns -/
inductive Ct where
  | L (ds : List PyData)
  | D (c : Option Str) (kvs : List (Key × PyData))
def RC (K : Fg) (G : Hp) : HO → Ct → Prop
  | .lst vs, .L ds => DpAll K G vs ds
  | .dK ks, .D none kd => Paired (fun (p : Key × V) (q : Key × PyData) => p.1 = q.1 ∧ Dp K G p.2 q.2) ks kd
  | .ins C _ fs, .D (some c) kd => PySem.W.nsIn K mainGlobals c = some (some (.ref C)) ∧ Paired (fun (p : Str × V) (q : Key × PyData) => .inr p.1 = q.1 ∧ Dp K G p.2 q.2) fs kd
  | _, _ => False
theorem RC.sub {K : Fg} {G H : Hp} {o : HO} {c : Ct} (s : Sub G H) (h : RC K G o c) : RC K H o c := by
  cases o <;> cases c <;> try exact (show False from h).elim
  · exact DpAll.sub s h
  · rename_i c _
    cases c with
    | none => exact Paired.mapP (show Paired _ _ _ from h) fun p q ⟨a, b⟩ => ⟨a, Dp.sub s b⟩
    | some c => exact (show False from h).elim
  · rename_i c _
    cases c with
    | none => exact (show False from h).elim
    | some c => exact ⟨(show _ ∧ _ from h).1, Paired.mapP (show _ ∧ _ from h).2 fun p q ⟨a, b⟩ => ⟨a, Dp.sub s b⟩⟩
inductive Kd where
  | ow | io | ro
  deriving DecidableEq
/-- an error that is handled: its class's name, its fields -/
structure Exn where
  c : Str
  f : Option (List (Str × PyData))
/-- what is known otherwise: a handled error, a dict that is locked -/
inductive Nv where
  | e (x : Exn)
  | d (kvs : List (Key × PyData))
inductive Sl where
  | nv (x : Option Nv)
  | sh (d : PyData)
  | ct (k : Kd) (lk : Bool) (c : Ct)
/-- nothing that can be read -/
abbrev Sl.no : Sl := .nv none
abbrev Te := List Sl
/-- read only: what stands there -/
def RRo (K : Fg) (H G : Hp) (p : Addr) : Ct → Prop
  | .L ds => ∃ vs, Rd H p (.lst vs) ∧ DpAll K G vs ds
  | .D none kd => ∃ ks, Rd H p (.dK ks) ∧ Paired (fun (p : Key × V) (q : Key × PyData) => p.1 = q.1 ∧ Dp K G p.2 q.2) ks kd
  | .D (some c) kd => ∃ C dx fs, H p = some (.ins C dx fs) ∧ PySem.W.nsIn K mainGlobals c = some (some (.ref C)) ∧ Paired (fun (p : Str × V) (q : Key × PyData) => .inr p.1 = q.1 ∧ Dp K G p.2 q.2) fs kd
/-- a list of the written part -/
def Wn (K : Fg) (G : Hp) (p : Addr) (c : Ct) : Prop := ∃ ds vs, c = .L ds ∧ DpAll K G vs ds ∧ ∀ H', SqL K H' p vs
theorem Wn.sub {K : Fg} {G G' : Hp} {p : Addr} {c : Ct} (s : Sub G G') (h : Wn K G p c) : Wn K G' p c := by
  obtain ⟨ds, vs, a, b, e⟩ := h
  exact ⟨ds, vs, a, DpAll.sub s b, e⟩
structure Bs where
  K : Fg
  mg : Str → Option Value
  H0 : Hp
  G0 : Hp
  io : List (Nat × Addr)
  ro : Addr → Prop
  W : WX
  ex : Option (Addr × Value × Option Addr) := none
/-- a raised error: its dict is frozen -/
def REx (K : Fg) (mg : Str → Option Value) (G : Hp) (c : Str) (f : Option (List (Str × PyData))) (C : Value) (d : Option Addr) : Prop :=
  (∃ a, C = .ref a ∧ mg c = some (.ref a)) ∧ match f with
    | none => d = none
    | some fs => ∃ dd vs, d = some dd ∧ G dd = some (.xd vs) ∧ Paired (fun (p : Str × V) (q : Str × PyData) => p.1 = q.1 ∧ Dp K G p.2 q.2) vs fs
theorem REx.sub {K : Fg} {mg : Str → Option Value} {G G' : Hp} {c : Str} {f : Option (List (Str × PyData))} {C : Value} {d : Option Addr} (s : Sub G G') (h : REx K mg G c f C d) : REx K mg G' c f C d := by
  obtain ⟨a, b⟩ := h
  refine ⟨a, ?_⟩
  cases f with
  | none => exact b
  | some fs =>
    obtain ⟨dd, vs, e, g, p⟩ := b
    exact ⟨dd, vs, e, s _ _ g, Paired.mapP p fun x y ⟨h1, h2⟩ => ⟨h1, Dp.sub s h2⟩⟩
abbrev Bs.as (B : Bs) : List Addr := B.io.map (·.2)
/-- a slot that may change what it holds -/
def Own (τ : Te) (i : Nat) : Prop := ∃ k l c, τ[i]? = some (.ct k l c) ∧ k ≠ .ro
/-- an own slot's address -/
def OwnAt (σ : L2.St) (τ : Te) (p : Addr) : Prop := ∃ i, Own τ i ∧ σ[i]? = some (some (.ref p))
def RSl (B : Bs) (σ : L2.St) (H : Hp) (τ : Te) (G : Hp) (i : Nat) : Sl → Prop
  | .nv none => True
  | .nv (some (.d kd)) => ∃ p od ks, B.H0 p = some (.frz od (.dK ks)) ∧ p ∉ B.as ∧ σ[i]? = some (some (.ref p)) ∧ Paired (fun (p : Key × V) (q : Key × PyData) => p.1 = q.1 ∧ Dp B.K G p.2 q.2) ks kd
  | .nv (some (.e x)) => ∃ a C d, B.ex = some (a, C, d) ∧ σ[i]? = some (some (.ref a)) ∧ REx B.K B.mg G x.c x.f C d
  | .sh d => ∃ v, σ[i]? = some (some v) ∧ Dp B.K G v d
  | .ct .ro _ c => ∃ p, σ[i]? = some (some (.ref p)) ∧ (Wn B.K G p c ∨ (RRo B.K H G p c ∧ ¬ OwnAt σ τ p ∧ B.ro p))
  | .ct .ow _ c => ∃ p o, σ[i]? = some (some (.ref p)) ∧ H p = some o ∧ RC B.K G o c ∧ G p = none ∧ B.H0 p = none
  | .ct .io _ c => ∃ p o, σ[i]? = some (some (.ref p)) ∧ H p = some o ∧ RC B.K G o c ∧ G p = none ∧ (i, p) ∈ B.io
structure Rp (B : Bs) (σ : L2.St) (H : Hp) (τ : Te) (G : Hp) : Prop where
  gh : Sub G H
  g0 : Sub B.G0 G
  nw : ∀ a, B.G0 a = none → G a ≠ none → B.H0 a = none
  kp : Kp B.as B.H0 H
  da : ∀ a ∈ B.as, H a ≠ none
  dr : ∀ a, B.ro a → H a ≠ none
  sl : ∀ i s, τ[i]? = some s → RSl B σ H τ G i s
  ds : ∀ i j p, Own τ i → Own τ j → σ[i]? = some (some (.ref p)) → σ[j]? = some (some (.ref p)) → i = j
  ln : σ.length = τ.length
section
variable {B : Bs} {σ : L2.St} {H : Hp} {τ : Te} {G : Hp}
theorem Rp.own (R : Rp B σ H τ G) {i : Nat} (h : Own τ i) : ∃ p o, σ[i]? = some (some (.ref p)) ∧ H p = some o ∧ G p = none ∧ (B.H0 p = none ∨ (i, p) ∈ B.io) := by
  obtain ⟨k, l, c, e, hk⟩ := h
  have z := R.sl i _ e
  cases k with
  | ow =>
    obtain ⟨p, o, e1, e2, _, e3, e4⟩ := z
    exact ⟨p, o, e1, e2, e3, .inl e4⟩
  | io =>
    obtain ⟨p, o, e1, e2, _, e3, e4⟩ := z
    exact ⟨p, o, e1, e2, e3, .inr e4⟩
  | ro => exact absurd rfl hk
theorem Rp.ownAt (R : Rp B σ H τ G) {p : Addr} (h : OwnAt σ τ p) : (∃ o, H p = some o) ∧ G p = none ∧ (B.H0 p = none ∨ p ∈ B.as) := by
  obtain ⟨i, hi, e⟩ := h
  obtain ⟨q, o, e1, e2, e3, e4⟩ := R.own hi
  rw [e] at e1
  cases e1
  refine ⟨⟨o, e2⟩, e3, e4.imp id fun z => ?_⟩
  exact List.mem_map.mpr ⟨_, z, rfl⟩
theorem Rp.noIo (R : Rp B σ H τ G) {p : Addr} (h : H p = none) : p ∉ B.as := fun z => R.da p z h
theorem Rp.h0 (R : Rp B σ H τ G) {p : Addr} (h : H p = none) : B.H0 p = none := R.kp.free h (R.noIo h)
theorem Rp.g (R : Rp B σ H τ G) {p : Addr} (h : H p = none) : G p = none := by
  cases e : G p with
  | none => rfl
  | some o =>
    rw [R.gh p o e] at h
    cases h
theorem Rp.notOwn (R : Rp B σ H τ G) {p : Addr} (h : H p = none) : ¬ OwnAt σ τ p := fun z => by
  obtain ⟨⟨o, e⟩, _⟩ := R.ownAt z
  rw [e] at h
  cases h
/-- the slots' clause carries over where G grows and what they lean on stays -/
theorem RSl.move {σ' : L2.St} {H' : Hp} {τ' : Te} {G' : Hp} {i : Nat} {s : Sl} (h : RSl B σ H τ G i s) (e : σ'[i]? = σ[i]?) (sg : Sub G G')
    (own : ∀ p o, σ[i]? = some (some (.ref p)) → (∃ k l c, s = .ct k l c ∧ k ≠ .ro) → H p = some o → H' p = some o) (gp : ∀ p, σ[i]? = some (some (.ref p)) → (∃ k l c, s = .ct k l c ∧ k ≠ .ro) → G p = none → G' p = none)
    (ro : ∀ p c, B.ro p → ¬ OwnAt σ τ p → RRo B.K H G p c → RRo B.K H' G' p c ∧ ¬ OwnAt σ' τ' p) : RSl B σ' H' τ' G' i s := by
  cases s with
  | nv o =>
    cases o with
    | none => trivial
    | some x =>
      cases x with
      | e x =>
        obtain ⟨a, C, d, e0, e1, e2⟩ := h
        exact ⟨a, C, d, e0, e.trans e1, e2.sub sg⟩
      | d kd =>
        obtain ⟨p, od, ks, e0, en, e1, e2⟩ := h
        exact ⟨p, od, ks, e0, en, e.trans e1, Paired.mapP e2 fun p q ⟨a, b⟩ => ⟨a, Dp.sub sg b⟩⟩
  | sh d =>
    obtain ⟨v, e1, e2⟩ := h
    exact ⟨v, e.trans e1, Dp.sub sg e2⟩
  | ct k l c =>
    cases k with
    | ow =>
      obtain ⟨p, o, e1, e2, e3, e4, e5⟩ := h
      exact ⟨p, o, e.trans e1, own p o e1 ⟨_, _, _, rfl, by decide⟩ e2, e3.sub sg, gp p e1 ⟨_, _, _, rfl, by decide⟩ e4, e5⟩
    | io =>
      obtain ⟨p, o, e1, e2, e3, e4, e5⟩ := h
      exact ⟨p, o, e.trans e1, own p o e1 ⟨_, _, _, rfl, by decide⟩ e2, e3.sub sg, gp p e1 ⟨_, _, _, rfl, by decide⟩ e4, e5⟩
    | ro =>
      obtain ⟨p, e1, h⟩ := h
      refine ⟨p, e.trans e1, ?_⟩
      rcases h with h | ⟨hr, hn, hm⟩
      · exact .inl (h.sub sg)
      · obtain ⟨z1, z2⟩ := ro p c hm hn hr
        exact .inr ⟨z1, z2, hm⟩
theorem RRo.sub {K : Fg} {H G G' : Hp} {p : Addr} {c : Ct} (s : Sub G G') (h : RRo K H G p c) : RRo K H G' p c := by
  cases c with
  | L ds =>
    obtain ⟨vs, a, b⟩ := h
    exact ⟨vs, a, DpAll.sub s b⟩
  | D c kd =>
    cases c with
    | some c =>
      obtain ⟨C, dx, fs, a, n, b⟩ := (show ∃ _, _ from h)
      exact ⟨C, dx, fs, a, n, Paired.mapP b fun p q ⟨a, b⟩ => ⟨a, Dp.sub s b⟩⟩
    | none =>
      obtain ⟨vs, a, b⟩ := (show ∃ _, _ from h)
      exact ⟨vs, a, Paired.mapP b fun p q ⟨a, b⟩ => ⟨a, Dp.sub s b⟩⟩
theorem RRo.kp {K : Fg} {H H' G : Hp} {p : Addr} {c : Ct} {as : List Addr} (k : Kp as H H') (n : p ∉ as) (h : RRo K H G p c) : RRo K H' G p c := by
  cases c with
  | L ds =>
    obtain ⟨vs, a, b⟩ := h
    exact ⟨vs, a.elim (fun e => .inl (k _ _ e n)) fun ⟨o, e⟩ => .inr ⟨o, k _ _ e n⟩, b⟩
  | D c kd =>
    cases c with
    | some c =>
      obtain ⟨C, dx, fs, a, n2, b⟩ := (show ∃ _, _ from h)
      exact ⟨C, dx, fs, k _ _ a n, n2, b⟩
    | none =>
    obtain ⟨vs, a, b⟩ := (show ∃ _, _ from h)
    exact ⟨vs, a.elim (fun e => .inl (k _ _ e n)) fun ⟨o, e⟩ => .inr ⟨o, k _ _ e n⟩, b⟩
/-- the heap has more than before -/
theorem Rp.more (R : Rp B σ H τ G) {H' : Hp} (k : Kp [] H H') : Rp B σ H' τ G where
  gh := fun a o e => k.at (R.gh a o e)
  g0 := R.g0
  nw := R.nw
  kp := R.kp.trans k.of0
  da := fun a ha z => by
    cases e : H a with
    | none => exact R.da a ha e
    | some o =>
      rw [k.at e] at z
      cases z
  dr := fun a ha z => by
    cases e : H a with
    | none => exact R.dr a ha e
    | some o =>
      rw [k.at e] at z
      cases z
  sl := fun i s e => (R.sl i s e).move rfl (Sub.refl _) (fun p o _ _ h => k.at h) (fun _ _ _ h => h) fun p c _ n h => ⟨h.kp k List.not_mem_nil, n⟩
  ds := R.ds
  ln := R.ln
/-- what is new is frozen -/
theorem Rp.frz (R : Rp B σ H τ G) {p : Addr} {o : HO} (h : H p = some o) (h0 : B.H0 p = none) (n : ¬ OwnAt σ τ p) (g : G p = none) : Rp B σ H τ (upd G p o) where
  gh := fun a u e => by
    by_cases c : a = p
    · subst c
      rw [upd_same] at e
      rw [← e]
      exact h
    · rw [upd_ne c] at e
      exact R.gh a u e
  g0 := fun a u e => by
    have e1 := R.g0 a u e
    rw [upd_ne (ne_of_none e1 g)]
    exact e1
  nw := fun a e e2 => by
    by_cases c : a = p
    · subst c
      exact h0
    · rw [upd_ne c] at e2
      exact R.nw a e e2
  kp := R.kp
  da := R.da
  dr := R.dr
  sl := fun i s e => (R.sl i s e).move rfl (fun a u e => by rw [upd_ne (ne_of_none e g)]; exact e) (fun p o _ _ h => h)
    (fun q e1 hs hq => by
      by_cases c : q = p
      · subst c
        obtain ⟨k, l, c, rfl, hk⟩ := hs
        exact absurd ⟨i, ⟨k, l, c, e, hk⟩, e1⟩ n
      · rw [upd_ne c]
        exact hq) fun q c _ hn h => ⟨h.sub (fun a u e => by rw [upd_ne (ne_of_none e g)]; exact e), hn⟩
  ds := R.ds
  ln := R.ln
theorem Sub.upd {G : Hp} {p : Addr} {o : HO} (g : G p = none) : Sub G (upd G p o) := fun a u e => by
  rw [upd_ne (ne_of_none e g)]
  exact e
end
/-! ### values -/
inductive RV where
  | val (d : PyData)
  | tmp (c : Ct)
  | slot (i : Nat)
def RR (B : Bs) (σ : L2.St) (H : Hp) (τ : Te) (G : Hp) (v : V) : RV → Prop
  | .val d => Dp B.K G v d
  | .tmp c => ∃ p o, v = .ref p ∧ H p = some o ∧ RC B.K G o c ∧ G p = none ∧ B.H0 p = none ∧ ¬ OwnAt σ τ p ∧ ∀ (i : Nat) (l : Bool) (c : Ct), τ[i]? = some (Sl.ct .ro l c) → σ[i]? = some (some (V.ref p)) → Wn B.K G p c
  | .slot i => σ[i]? = some (some v)
inductive Res (α : Type) where
  | ok (a : α) (τ : Te)
  | exc (c : Str) (f : Option (List (Str × PyData))) (τ : Te)
  | stuck
@[reducible] def Res.bind {α β : Type} (r : Res α) (k : α → Te → Res β) : Res β :=
  match r with
  | .ok a τ => k a τ
  | .exc c f τ => .exc c f τ
  | .stuck => .stuck
section
variable {β α : Type} (RL : L2.St → Hp → Te → Hp → β → α → Prop)
/-- what is to follow an evaluation -/
def Po (B : Bs) (σ : L2.St) (G : Hp) (Q : β → Hp → Prop) : Res α → Prop
  | .ok r τ' => ∀ v H' G', Sub G G' → Rp B σ H' τ' G' → RL σ H' τ' G' v r → Q v H'
  | .exc c f τ' => ∀ C d H' G', Sub G G' → Rp B σ H' τ' G' → REx B.K B.mg G' c f C d → B.W C d σ H'
  | .stuck => False
theorem Po.sub {RL : L2.St → Hp → Te → Hp → β → α → Prop} {B : Bs} {σ : L2.St} {G G' : Hp} {Q : β → Hp → Prop} {r : Res α} (s : Sub G G') (h : Po RL B σ G Q r) : Po RL B σ G' Q r := by
  cases r with
  | ok r τ' => exact fun v H' G2 s2 => h v H' G2 (s.trans s2)
  | exc c f τ' => exact fun C d H' G2 s2 => h C d H' G2 (s.trans s2)
  | stuck => exact h
end
abbrev PE1 (B : Bs) := Po (RR B) B
abbrev PT1 (B : Bs) := Po (fun (_ : L2.St) (_ : Hp) (_ : Te) (_ : Hp) (b : Bool) (c : Bool) => b = c) B
/-- arguments: frozen data or a slot -/
def RA (B : Bs) (σ : L2.St) (H : Hp) (τ : Te) (G : Hp) : List V → List RV → Prop := Paired fun v r => RR B σ H τ G v r ∧ ∀ c, r ≠ .tmp c
abbrev PA1 (B : Bs) := Po (RA B) B
abbrev FE := Te → Res RV
abbrev FT := Te → Res Bool
abbrev FA := Te → Res (List RV)
def tE (B : Bs) (F : FE) : TE := fun σ H Q => ∃ τ G, Rp B σ H τ G ∧ PE1 B σ G Q (F τ)
def tT (B : Bs) (F : FT) : TT := fun σ H Q => ∃ τ G, Rp B σ H τ G ∧ PT1 B σ G Q (F τ)
def tA (B : Bs) (F : FA) : TA := fun σ H Q => ∃ τ G, Rp B σ H τ G ∧ PA1 B σ G Q (F τ)
section
variable {β α γ δ : Type} {RL : L2.St → Hp → Te → Hp → β → α → Prop} {RM : L2.St → Hp → Te → Hp → γ → δ → Prop} {B : Bs} {σ : L2.St} {G : Hp} {Q : γ → Hp → Prop} {Q1 : β → Hp → Prop} {r : Res α} {k : α → Te → Res δ}
theorem Po.bind (h : Po RM B σ G Q (r.bind k)) (next : ∀ a τ1 x H1 G1, r = .ok a τ1 → Sub G G1 → Rp B σ H1 τ1 G1 → RL σ H1 τ1 G1 x a → Po RM B σ G1 Q (k a τ1) → Q1 x H1) : Po RL B σ G Q1 r := by
  cases r with
  | ok a τ1 => exact fun x H1 G1 s R rr => next a τ1 x H1 G1 rfl s R rr (Po.sub s h)
  | exc c f τ1 => exact h
  | stuck => exact h
end
end T
end

section
set_option Elab.async false
set_option linter.all false
set_option maxRecDepth 100000
set_option maxHeartbeats 2000000
/-! T2: expressions by value. -/
namespace T
open PySem PySem.Spec PyProof.Rows L2 Z
/-! ### looking at a value -/
def look (τ : Te) : RV → Option PyData
  | .val d => some d
  | .tmp (.L ds) => some (.list ds)
  | .tmp (.D _ _) => none
  | .slot i => match τ[i]? with
    | some (.sh d) => some d
    | some (.ct _ _ (.L ds)) => some (.list ds)
    | _ => none
def Lk (K : Fg) (H G : Hp) (x : V) : PyData → Prop
  | .list ds => ∃ p vs, x = .ref p ∧ SqL K H p vs ∧ DpAll K G vs ds
  | d => Dp K G x d
theorem Lk.dp {K : Fg} {H G : Hp} {x : V} {d : PyData} (s : Sub G H) (h : Lk K H G x d) : Dp K H x d := by
  cases d <;> try exact Dp.sub s h
  obtain ⟨p, vs, rfl, a, b⟩ := h
  exact .lst a (DpAll.sub s b)
theorem Lk.of {K : Fg} {H G : Hp} {x : V} {d : PyData} (s : Sub G H) (h : Dp K G x d) : Lk K H G x d := by
  cases d <;> try exact h
  cases h with
  | lst a b => exact ⟨_, _, rfl, SqL.sub s a, b⟩
section
variable {B : Bs} {σ : L2.St} {H : Hp} {τ : Te} {G : Hp} {x : V}
theorem look_ok (R : Rp B σ H τ G) {r : RV} {d : PyData} (h : RR B σ H τ G x r) (e : look τ r = some d) : Lk B.K H G x d := by
  cases r with
  | val d' =>
    cases e
    exact Lk.of R.gh h
  | tmp c =>
    cases c with
    | L ds =>
      cases e
      obtain ⟨p, o, rfl, e1, rc, _⟩ := h
      cases o <;> try exact (show False from rc).elim
      exact ⟨p, _, rfl, SqL.of e1, rc⟩
    | D c kd => cases e
  | slot i =>
    have h' : σ[i]? = some (some x) := h
    have e0 : (match τ[i]? with | some (.sh d) => some d | some (.ct _ _ (.L ds)) => some (PyData.list ds) | _ => none) = some d := e
    cases q : τ[i]? with
    | none =>
      rw [q] at e0
      cases e0
    | some s =>
      rw [q] at e0
      have z := R.sl i _ q
      cases s with
      | nv o => cases e0
      | sh d' =>
        cases e0
        obtain ⟨v, e1, e2⟩ := z
        rw [h'] at e1
        cases e1
        exact Lk.of R.gh e2
      | ct k l c =>
        cases c with
        | D c kd => cases e0
        | L ds =>
          cases e0
          cases k with
          | ow =>
            obtain ⟨p, o, e1, e2, rc, _⟩ := z
            rw [h'] at e1
            cases e1
            cases o <;> try exact (show False from rc).elim
            exact ⟨p, _, rfl, SqL.of e2, rc⟩
          | io =>
            obtain ⟨p, o, e1, e2, rc, _⟩ := z
            rw [h'] at e1
            cases e1
            cases o <;> try exact (show False from rc).elim
            exact ⟨p, _, rfl, SqL.of e2, rc⟩
          | ro =>
            obtain ⟨p, e1, z⟩ := z
            rw [h'] at e1
            cases e1
            rcases z with ⟨ds', vs, hc, hd, hw⟩ | ⟨⟨vs, a, b⟩, _⟩
            · cases hc
              exact ⟨p, vs, rfl, hw H, hd⟩
            · exact ⟨p, vs, rfl, .inl a, b⟩
/-! ### holding a value while another one is reckoned -/
def hold : RV → Te → Res RV
  | .tmp (.L ds), τ => .ok (.val (.list ds)) τ
  | .tmp (.D _ _), _ => .stuck
  | r, τ => .ok r τ
def NoTmp (r : RV) : Prop := ∀ c, r ≠ .tmp c
theorem nt_val {d : PyData} : NoTmp (.val d) := by
  intro c e
  cases e
theorem nt_slot {i : Nat} : NoTmp (.slot i) := by
  intro c e
  cases e
theorem RR.stay {B : Bs} {σ : L2.St} {H H' : Hp} {τ τ' : Te} {G G' : Hp} {x : V} {r : RV} (n : NoTmp r) (s : Sub G G') (h : RR B σ H τ G x r) : RR B σ H' τ' G' x r := by
  cases r with
  | val d => exact Dp.sub s h
  | tmp c => exact absurd rfl (n c)
  | slot i => exact h
theorem RA.stay {B : Bs} {σ : L2.St} {H H' : Hp} {τ τ' : Te} {G G' : Hp} {xs : List V} {rs : List RV} (s : Sub G G') (h : RA B σ H τ G xs rs) : RA B σ H' τ' G' xs rs := Paired.mapP h fun _ _ ⟨a, b⟩ => ⟨RR.stay b s a, b⟩
theorem hold_ok {γ δ : Type} {RM : L2.St → Hp → Te → Hp → γ → δ → Prop} {Q : γ → Hp → Prop} {r : RV} {k : RV → Te → Res δ} (R : Rp B σ H τ G) (h : RR B σ H τ G x r) (q : Po RM B σ G Q ((hold r τ).bind k)) :
    ∃ r' τ' G', hold r τ = .ok r' τ' ∧ Sub G G' ∧ Rp B σ H τ' G' ∧ RR B σ H τ' G' x r' ∧ NoTmp r' ∧ Po RM B σ G' Q (k r' τ') := by
  cases r with
  | val d => exact ⟨_, _, G, rfl, Sub.refl _, R, h, nt_val, q⟩
  | slot i => exact ⟨_, _, G, rfl, Sub.refl _, R, h, nt_slot, q⟩
  | tmp c =>
    cases c with
    | D c kd => exact (show False from q).elim
    | L ds =>
      obtain ⟨p, o, rfl, e1, rc, g, h0, n, _⟩ := h
      cases o <;> try exact (show False from rc).elim
      rename_i vs
      exact ⟨_, _, upd G p (.lst vs), rfl, Sub.upd g, R.frz e1 h0 n g, .lst (SqL.of upd_same) (DpAll.sub (Sub.upd g) rc), nt_val, Po.sub (Sub.upd g) q⟩
end
/-! ### what an operation gives -/
inductive O where
  | v (d : PyData)
  | l (ds : List PyData)
  | t (ds : List PyData)
  | no
@[reducible] def O.res (o : O) (τ : Te) : Res RV := match o with
  | .v d => .ok (.val d) τ
  | .l ds => .ok (.tmp (.L ds)) τ
  | .t ds => .ok (.val (.tuple ds)) τ
  | .no => .stuck
def Fi (K : Fg) (H G : Hp) (Q : VK) : O → Prop
  | .v d => ∀ x, Dp K G x d → Q x H
  | .l ds => ∀ vs, DpAll K G vs ds → Nw H (.lst vs) Q
  | .t ds => ∀ vs, DpAll K G vs ds → Nw H (.tup vs) Q
  | .no => False
section
variable {B : Bs} {σ : L2.St} {H : Hp} {τ : Te} {G : Hp} {Q : VK}
theorem Rp.newTmp (R : Rp B σ H τ G) {p : Addr} {H2 : Hp} {o : HO} {c : Ct} (np : H p = none) (k : Kp [] H H2) (e : H2 p = some o) (rc : RC B.K G o c) : Rp B σ H2 τ G ∧ RR B σ H2 τ G (.ref p) (.tmp c) := by
  refine ⟨R.more k, p, o, rfl, e, rc, R.g np, R.h0 np, R.notOwn np, ?_⟩
  intro i l c ei es
  obtain ⟨q, e1, z⟩ := R.sl i _ ei
  rw [es] at e1
  cases e1
  rcases z with z | ⟨hr, _, _⟩
  · exact z
  · cases c with
    | L ds =>
      obtain ⟨vs, a, _⟩ := hr
      rcases a with a | ⟨o, a⟩
      · rw [np] at a
        cases a
      · rw [np] at a
        cases a
    | D c kd =>
      have a : ∃ u, Rd H p u := by
        cases c with
        | none =>
          obtain ⟨ks, a, _⟩ := (show ∃ _, _ from hr)
          exact ⟨_, a⟩
        | some c =>
          obtain ⟨C, dx, fs, a, _⟩ := (show ∃ _, _ from hr)
          exact ⟨_, .inl a⟩
      obtain ⟨_, a⟩ := a
      rcases a with a | ⟨o, a⟩
      · rw [np] at a
        cases a
      · rw [np] at a
        cases a
theorem new_lst (R : Rp B σ H τ G) {vs : List V} {ds : List PyData} (d : DpAll B.K G vs ds) (h : PE1 B σ G Q (.ok (.tmp (.L ds)) τ)) : Nw H (.lst vs) Q := fun p H2 np k e => by
  obtain ⟨a, b⟩ := R.newTmp (c := .L ds) np k e d
  exact h _ _ _ (Sub.refl _) a b
theorem new_tup (R : Rp B σ H τ G) {vs : List V} {ds : List PyData} (d : DpAll B.K G vs ds) (h : PE1 B σ G Q (.ok (.val (.tuple ds)) τ)) : Nw H (.tup vs) Q := fun p H2 np k e => by
  have g := R.g np
  exact h _ _ (upd G p (.tup vs)) (Sub.upd g) ((R.more k).frz e (R.h0 np) (R.notOwn np) g) (.tup (SqT.of upd_same) (DpAll.sub (Sub.upd g) d))
theorem fin_of (R : Rp B σ H τ G) {o : O} (h : PE1 B σ G Q (o.res τ)) : Fi B.K H G Q o := by
  cases o with
  | v d => exact fun x dx => h x H G (Sub.refl _) R dx
  | l ds => exact fun vs d => new_lst R d h
  | t ds => exact fun vs d => new_tup R d h
  | no => exact h
end
/-! ### names, constants -/
def fVar (i : Nat) : FE := fun τ => match τ[i]? with
  | some (.sh d) => .ok (.val d) τ
  | some (.ct _ _ _) => .ok (.slot i) τ
  | some (.nv (some (.d _))) => .ok (.slot i) τ
  | _ => .stuck
def fC (d : PyData) : FE := fun τ => .ok (.val d) τ
section
variable {X : Cx} {B : Bs} {e a b : Expr} {pos : Pos}
theorem PE.wkt {t t' : TE} (h : PE X e t) (i : ∀ σ H Q, t' σ H Q → t σ H Q) : PE X e t' := ⟨fun pins s σ H Q I q => h.run pins s σ H Q I (i σ H Q q)⟩
theorem x_var {i : Nat} {x : Str} (hN : X.N[i]? = some x) (hv : Vis X.env.scope x) (hd : (x == ("__debug__" : Str)) = false := by decide) (hcd : (x == ("__classdict__" : Str)) = false := by decide) : PE X (.Name x pos) (tE B (fVar i)) := by
  refine PE.wkt (pe_var hN hv hd hcd) ?_
  rintro σ H Q ⟨τ, G, R, h⟩
  unfold fVar at h
  cases q : τ[i]? with
  | none =>
    rw [q] at h
    exact h.elim
  | some s =>
    rw [q] at h
    have z := R.sl i _ q
    cases s with
    | nv o =>
      rcases o with _ | (x | kd)
      · exact h.elim
      · exact h.elim
      · obtain ⟨p, _, _, _, _, e1, _⟩ := z
        exact ⟨_, e1, h _ H G (Sub.refl _) R e1⟩
    | sh d =>
      obtain ⟨v, e1, e2⟩ := z
      exact ⟨v, e1, h v H G (Sub.refl _) R e2⟩
    | ct k l c =>
      have z2 : ∃ p, σ[i]? = some (some (V.ref p)) := by
        cases k with
        | ow =>
          obtain ⟨p, o, e1, _⟩ := z
          exact ⟨p, e1⟩
        | io =>
          obtain ⟨p, o, e1, _⟩ := z
          exact ⟨p, e1⟩
        | ro =>
          obtain ⟨p, e1, _⟩ := z
          exact ⟨p, e1⟩
      obtain ⟨p, e1⟩ := z2
      exact ⟨_, e1, h _ H G (Sub.refl _) R e1⟩
theorem x_c {v : V} {d : PyData} (h : PE X e (tC v)) (hd : ∀ G, Dp B.K G v d) : PE X e (tE B (fC d)) := by
  refine PE.wkt h ?_
  rintro σ H Q ⟨τ, G, R, h⟩
  exact h v H G (Sub.refl _) R (hd G)
end
/-! ### two operands -/
def fOp (g : PyData → PyData → O) (Fa Fb : FE) : FE := fun τ => (Fa τ).bind fun ra τ1 => (hold ra τ1).bind fun ra τ2 => (Fb τ2).bind fun rb τ3 => match look τ3 ra, look τ3 rb with
  | some d, some e => (g d e).res τ3
  | _, _ => .stuck
def Op2 (K : Fg) (r : R2) (g : PyData → PyData → O) : Prop := ∀ H G x y d e Q, Sub G H → Lk K H G x d → Lk K H G y e → Fi K H G Q (g d e) → r x y H Q
section
variable {X : Cx} {B : Bs} {e a b : Expr} {pos : Pos} {Fa Fb : FE}
theorem op2_of {r : R2} {g : PyData → PyData → O} (o : Op2 B.K r g) {σ : L2.St} {H : Hp} {Q : VK} (h : tE B (fOp g Fa Fb) σ H Q) : tOp r (tE B Fa) (tE B Fb) σ H Q := by
  obtain ⟨τ, G, R, h⟩ := h
  refine ⟨τ, G, R, Po.bind h fun ra τ1 x H1 G1 _ _ R1 rr h => ?_⟩
  obtain ⟨ra, τ2, G2, _, _, R2, rr, nt, h⟩ := hold_ok R1 rr h
  refine ⟨τ2, G2, R2, Po.bind h fun rb τ3 y H3 G3 _ s3 R3 rrb h => ?_⟩
  have rr := rr.stay (H' := H3) (τ' := τ3) nt s3
  revert h
  cases e1 : look τ3 ra with
  | none => exact fun h => h.elim
  | some d =>
    cases e2 : look τ3 rb with
    | none => exact fun h => h.elim
    | some e => exact fun h => o _ _ _ _ _ _ _ R3.gh (look_ok R3 rr e1) (look_ok R3 rrb e2) (fin_of R3 h)
theorem x_op {op : Operator} {r : R2} {g : PyData → PyData → O} (ho : OpR X (binaryOp op) r) (o : Op2 B.K r g) (ha : PE X a (tE B Fa)) (hb : PE X b (tE B Fb)) : PE X (.BinOp a op b pos) (tE B (fOp g Fa Fb)) :=
  PE.wkt (pe_op ho ha hb) fun _ _ _ h => op2_of o h
theorem x_cmp {op : CmpOp} {r : R2} {g : PyData → PyData → O} (ho : OpR X (compareOp op) r) (o : Op2 B.K r g) (ha : PE X a (tE B Fa)) (hb : PE X b (tE B Fb)) (hm : behindInMarks op b = false) : PE X (.Compare a [op] [b] pos) (tE B (fOp g Fa Fb)) :=
  PE.wkt (pe_cmpR ho ha hb hm) fun _ _ _ h => op2_of o h
theorem x_ix {r : R2} {g : PyData → PyData → O} (ho : IxR X r) (o : Op2 B.K r g) (ha : PE X a (tE B Fa)) (hb : PE X b (tE B Fb)) (hs : PlainIx b) : PE X (.Subscript a b pos) (tE B (fOp g Fa Fb)) :=
  PE.wkt (pe_ix ho ha hb hs) fun _ _ _ h => op2_of o h
/-! ### tests -/
def fTest (Fa : FE) : FT := fun τ => (Fa τ).bind fun ra τ1 => match ra with
  | .val (.bool b) => .ok b τ1
  | _ => .stuck
def pyTruth : PyData → Option Bool
  | .none => some false
  | .bool b => some b
  | .int i => some (i != 0)
  | .str s => if s.length ≤ sizeLine then some ((s.length : Int) != 0) else none
  | .list ds => some (!ds.isEmpty)
  | .tuple ds => some (!ds.isEmpty)
  | .dict _ => none
def fTru (Fa : FE) : FT := fun τ => (Fa τ).bind fun ra τ1 => match (look τ1 ra).bind pyTruth with
  | some b => .ok b τ1
  | none => .stuck
theorem PT.wkt {t t' : TT} (h : PT X e t) (i : ∀ σ H Q, t' σ H Q → t σ H Q) : PT X e t' := ⟨fun pins s σ H Q I q => h.run pins s σ H Q I (i σ H Q q)⟩
theorem test_of {σ : L2.St} {H : Hp} {Q : Bool → Hp → Prop} (h : tT B (fTest Fa) σ H Q) : tE B Fa σ H (fun x H' => ∃ k, x = .bl k ∧ Q k H') := by
  obtain ⟨τ, G, R, h⟩ := h
  refine ⟨τ, G, R, Po.bind h fun ra τ1 x H1 G1 _ _ R1 rr h => ?_⟩
  cases ra with
  | slot i => exact h.elim
  | tmp c => exact h.elim
  | val d =>
    cases d with
    | bool k =>
      cases rr
      exact ⟨k, rfl, h k H1 G1 (Sub.refl _) R1 rfl⟩
    | _ => exact (show False from h).elim
/-- a comparison as a test -/
theorem xt_cmp {op : CmpOp} {r : R2} {g : PyData → PyData → O} (ho : OpR X (compareOp op) r) (o : Op2 B.K r g) (ha : PE X a (tE B Fa)) (hb : PE X b (tE B Fb)) (hm : behindInMarks op b = false) : PT X (.Compare a [op] [b] pos) (tT B (fTest (fOp g Fa Fb))) := by
  refine PT.wkt (pt_cmpR ho ha hb hm) fun σ H Q h => ?_
  have z := test_of h
  exact op2_of o z
theorem tru_of (hK : X.K = B.K) {σ : L2.St} {H : Hp} {Q : Bool → Hp → Prop} (h : tT B (fTru Fa) σ H Q) : tE B Fa σ H (fun x H' => ∃ k, TruV X.K x H' k ∧ Q k H') := by
  rw [hK]
  obtain ⟨τ, G, R, h⟩ := h
  refine ⟨τ, G, R, Po.bind h fun ra τ1 x H1 G1 _ _ R1 rr h => ?_⟩
  revert h
  cases e1 : look τ1 ra with
  | none => exact fun h => h.elim
  | some d =>
    have z := look_ok R1 rr e1
    show PT1 B σ G1 Q (match pyTruth d with | some b => .ok b τ1 | none => .stuck) → _
    cases e2 : pyTruth d with
    | none => exact fun h => h.elim
    | some b =>
      intro h
      refine ⟨b, ?_, h b H1 G1 (Sub.refl _) R1 rfl⟩
      cases d with
      | none =>
        cases z
        cases e2
        rfl
      | bool k =>
        cases z
        cases e2
        rfl
      | int k =>
        cases z
        cases e2
        rfl
      | str k =>
        cases z
        have e3 : (if k.length ≤ sizeLine then some ((k.length : Int) != 0) else none) = some b := e2
        by_cases c : k.length ≤ sizeLine
        · rw [if_pos c] at e3
          exact ⟨c, (Option.some.inj e3).symm⟩
        · rw [if_neg c] at e3
          cases e3
      | list ds =>
        obtain ⟨p, vs, rfl, a, d⟩ := z
        cases e2
        refine .inl ⟨vs, a, ?_⟩
        cases d <;> rfl
      | tuple ds =>
        have z : Dp B.K G1 x (.tuple ds) := z
        cases z with
        | tup a d =>
          cases e2
          refine .inr (.inl ⟨_, SqT.sub R1.gh a, ?_⟩)
          cases d <;> rfl
      | dict _ => cases e2
theorem xt_tru (hK : X.K = B.K) (ha : PE X a (tE B Fa)) (he : ∀ whole, isTrue a X.env whole = (do let v ← whole; standAt a.pos; holding [v] (truthy v)) := by intro _; rfl) : PT X a (tT B (fTru Fa)) :=
  PT.wkt (pt_truth ha he) fun _ _ _ h => tru_of hK h
def fNotT (F : FT) : FT := fun τ => (F τ).bind fun b τ1 => .ok (!b) τ1
def fAndT (F G : FT) : FT := fun τ => (F τ).bind fun b τ1 => if b = true then G τ1 else .ok false τ1
def fOrT (F G : FT) : FT := fun τ => (F τ).bind fun b τ1 => if b = true then .ok true τ1 else G τ1
end
end T
end

section
set_option Elab.async false
set_option linter.all false
set_option maxRecDepth 100000
set_option maxHeartbeats 2000000
/-! T3: tests joined, displays, calls, slices, the operators by kind. -/
namespace T
open PySem PySem.Spec PyProof.Rows L2 Z
section
variable {X : Cx} {B : Bs} {e a b : Expr} {es rest : List Expr} {pos : Pos} {Fa Fb : FE} {Ta Tb : FT}
theorem bindT {RM : L2.St → Hp → Te → Hp → V → RV → Prop} {σ : L2.St} {G : Hp} {Q : V → Hp → Prop} {r : Res Bool} {k : Bool → Te → Res RV} {Q1 : Bool → Hp → Prop} (h : Po RM B σ G Q (r.bind k))
    (next : ∀ c τ1 H1 G1, Sub G G1 → Rp B σ H1 τ1 G1 → Po RM B σ G1 Q (k c τ1) → Q1 c H1) : PT1 B σ G Q1 r :=
  Po.bind h fun c τ1 x H1 G1 _ s R1 rr h => by
    cases rr
    exact next _ _ _ _ s R1 h
theorem xt_not (ha : PT X a (tT B Ta)) : PT X (.UnaryOp .Not a pos) (tT B (fNotT Ta)) := by
  refine PT.wkt (pt_not ha) ?_
  rintro σ H Q ⟨τ, G, R, h⟩
  exact ⟨τ, G, R, Po.bind h fun c τ1 x H1 G1 _ _ R1 rr h => by
    cases rr
    exact h _ _ _ (Sub.refl _) R1 rfl⟩
theorem xw_and1 (ha : PT X a (tT B Ta)) : PW X (.BoolOp .And [a] pos) (tT B Ta) := pw_and1 ha
theorem xw_or1 (ha : PT X a (tT B Ta)) : PW X (.BoolOp .Or [a] pos) (tT B Ta) := pw_or1 ha
theorem PW.wkt {t t' : TT} (h : PW X e t) (i : ∀ σ H Q, t' σ H Q → t σ H Q) : PW X e t' := ⟨fun w pins s σ H Q I q => h.run w pins s σ H Q I (i σ H Q q)⟩
theorem xw_and (ha : PT X a (tT B Ta)) (hb : PW X (.BoolOp .And (b :: rest) pos) (tT B Tb)) : PW X (.BoolOp .And (a :: b :: rest) pos) (tT B (fAndT Ta Tb)) := by
  refine PW.wkt (pw_and ha hb) ?_
  rintro σ H Q ⟨τ, G, R, h⟩
  refine ⟨τ, G, R, Po.bind h fun c τ1 x H1 G1 _ _ R1 rr h => ?_⟩
  cases rr
  cases c with
  | true => exact ⟨τ1, G1, R1, h⟩
  | false => exact h _ _ _ (Sub.refl _) R1 rfl
theorem xw_or (ha : PT X a (tT B Ta)) (hb : PW X (.BoolOp .Or (b :: rest) pos) (tT B Tb)) : PW X (.BoolOp .Or (a :: b :: rest) pos) (tT B (fOrT Ta Tb)) := by
  refine PW.wkt (pw_or ha hb) ?_
  rintro σ H Q ⟨τ, G, R, h⟩
  refine ⟨τ, G, R, Po.bind h fun c τ1 x H1 G1 _ _ R1 rr h => ?_⟩
  cases rr
  cases c with
  | false => exact ⟨τ1, G1, R1, h⟩
  | true => exact h _ _ _ (Sub.refl _) R1 rfl
/-! bools as values -/
def fBl (F : FE) (k : Bool → Te → Res RV) : FE := fun τ => (F τ).bind fun r τ1 => match r with
  | .val (.bool c) => k c τ1
  | _ => .stuck
def fAndV (Fa Fb : FE) : FE := fBl Fa fun c τ1 => if c = true then Fb τ1 else .ok (.val (.bool false)) τ1
def fOrV (Fa Fb : FE) : FE := fBl Fa fun c τ1 => if c = true then .ok (.val (.bool true)) τ1 else Fb τ1
def fNotV (Fa : FE) : FE := fBl Fa fun c τ1 => .ok (.val (.bool (!c))) τ1
theorem bl_of {k : Bool → Te → Res RV} {σ : L2.St} {H : Hp} {Q : VK} {Q1 : Bool → Hp → Prop} (h : tE B (fBl Fa k) σ H Q) (next : ∀ c τ1 H1 G1, Rp B σ H1 τ1 G1 → PE1 B σ G1 Q (k c τ1) → Q1 c H1) :
    tE B Fa σ H (fun x H1 => ∃ c, x = .bl c ∧ Q1 c H1) := by
  obtain ⟨τ, G, R, h⟩ := h
  refine ⟨τ, G, R, Po.bind h fun ra τ1 x H1 G1 _ _ R1 rr h => ?_⟩
  cases ra with
  | slot i => exact h.elim
  | tmp c => exact h.elim
  | val d =>
    cases d with
    | bool c =>
      cases rr
      exact ⟨c, rfl, next c _ _ _ R1 h⟩
    | _ => exact (show False from h).elim
theorem x_one {op} (h : PE X a (tE B Fa)) : PE X (.BoolOp op [a] pos) (tE B Fa) := pe_one h
theorem x_and (ha : PE X a (tE B Fa)) (hb : PE X (.BoolOp .And (b :: rest) pos) (tE B Fb)) : PE X (.BoolOp .And (a :: b :: rest) pos) (tE B (fAndV Fa Fb)) :=
  PE.wkt (pe_and ha hb) fun σ H Q h => bl_of h fun c τ1 H1 G1 R1 h => by
    cases c with
    | true => exact ⟨τ1, G1, R1, h⟩
    | false => exact h _ _ _ (Sub.refl _) R1 (.bl false)
theorem x_or (ha : PE X a (tE B Fa)) (hb : PE X (.BoolOp .Or (b :: rest) pos) (tE B Fb)) : PE X (.BoolOp .Or (a :: b :: rest) pos) (tE B (fOrV Fa Fb)) :=
  PE.wkt (pe_or ha hb) fun σ H Q h => bl_of h fun c τ1 H1 G1 R1 h => by
    cases c with
    | false => exact ⟨τ1, G1, R1, h⟩
    | true => exact h _ _ _ (Sub.refl _) R1 (.bl true)
theorem x_not (ha : PE X a (tE B Fa)) : PE X (.UnaryOp .Not a pos) (tE B (fNotV Fa)) :=
  PE.wkt (pe_not ha) fun σ H Q h => bl_of h fun c τ1 H1 G1 R1 h => h _ _ _ (Sub.refl _) R1 (.bl _)
/-! a if t else b -/
def fIf (T : FT) (Fa Fb : FE) : FE := fun τ => (T τ).bind fun c τ1 => if c = true then Fa τ1 else Fb τ1
theorem x_if {c : Expr} (hc : PT X c (tT B Ta)) (ha : PE X a (tE B Fa)) (hb : PE X b (tE B Fb)) : PE X (.IfExp c a b pos) (tE B (fIf Ta Fa Fb)) := by
  refine PE.wkt (pe_ifExp hc ha hb) ?_
  rintro σ H Q ⟨τ, G, R, h⟩
  refine ⟨τ, G, R, Po.bind h fun c τ1 x H1 G1 _ _ R1 rr h => ?_⟩
  cases rr
  cases c with
  | true => exact ⟨τ1, G1, R1, h⟩
  | false => exact ⟨τ1, G1, R1, h⟩
/-! ### arguments -/
def fNil : FA := fun τ => .ok [] τ
def fCons (F : FE) (A : FA) : FA := fun τ => (F τ).bind fun r τ1 => (hold r τ1).bind fun r τ2 => (A τ2).bind fun rs τ3 => .ok (r :: rs) τ3
theorem xa_nil : PA X [] (tA B fNil) := ⟨fun pos pins s σ H Q I ⟨τ, G, R, h⟩ => pa_nil.run pos pins s σ H Q I (h _ _ _ (Sub.refl _) R .nil)⟩
theorem PA.wkt {t t' : TA} (h : PA X es t) (i : ∀ σ H Q, t' σ H Q → t σ H Q) : PA X es t' := ⟨fun pos pins s σ H Q I q => h.run pos pins s σ H Q I (i σ H Q q)⟩
theorem xa_cons {A : FA} (ha : PE X e (tE B Fa)) (hr : PA X es (tA B A)) (hs : starEach (e :: es) X.env = (false, eval e X.env) :: starEach es X.env := by rfl) : PA X (e :: es) (tA B (fCons Fa A)) := by
  refine PA.wkt (pa_cons ha hr hs) ?_
  rintro σ H Q ⟨τ, G, R, h⟩
  refine ⟨τ, G, R, Po.bind h fun ra τ1 x H1 G1 _ _ R1 rr h => ?_⟩
  obtain ⟨ra, τ2, G2, _, _, R2, rr, nt, h⟩ := hold_ok R1 rr h
  refine ⟨τ2, G2, R2, Po.bind h fun rs τ3 ys H3 G3 _ s3 R3 rrb h => ?_⟩
  exact h _ _ _ (Sub.refl _) R3 (.cons ⟨rr.stay nt s3, nt⟩ rrb)
/-! ### what the arguments show -/
def looks (τ : Te) : List RV → Option (List PyData)
  | [] => some []
  | r :: rs => match look τ r, looks τ rs with
    | some d, some ds => some (d :: ds)
    | _, _ => none
abbrev Lks (K : Fg) (H G : Hp) : List V → List PyData → Prop := Paired (Lk K H G)
theorem looks_ok {σ : L2.St} {H : Hp} {τ : Te} {G : Hp} (R : Rp B σ H τ G) : ∀ {xs : List V} {rs : List RV} {ds : List PyData}, RA B σ H τ G xs rs → looks τ rs = some ds → Lks B.K H G xs ds
  | [], [], ds, h, e => by
    cases e
    exact .nil
  | x :: xs, r :: rs, ds, h, e => by
    have e0 : (match look τ r, looks τ rs with | some d, some ds => some (d :: ds) | _, _ => none) = some ds := e
    cases h with
    | cons a b =>
      cases e1 : look τ r with
      | none =>
        rw [e1] at e0
        cases e0
      | some d =>
        cases e2 : looks τ rs with
        | none =>
          rw [e1, e2] at e0
          cases e0
        | some ds' =>
          rw [e1, e2] at e0
          cases e0
          exact .cons (look_ok R a.1 e1) (looks_ok R b e2)
/-! frozen arguments (what is displayed in a tuple or a list) -/
def frz1 (r : RV) (τ : Te) : Option (PyData × Te) := match r with
  | .val d => some (d, τ)
  | .tmp _ => none
  | .slot i => match τ[i]? with
    | some (.sh d) => some (d, τ)
    | some (.ct .ow false (.L ds)) => some (.list ds, τ.set i (.sh (.list ds)))
    | _ => none
def frzs (τ : Te) : List RV → Option (List PyData × Te)
  | [] => some ([], τ)
  | r :: rs => match frz1 r τ with
    | some (d, τ1) => match frzs τ1 rs with
      | some (ds, τ2) => some (d :: ds, τ2)
      | none => none
    | none => none
end
section
variable {B : Bs} {σ : L2.St} {H : Hp} {τ : Te} {G : Hp} {x : V}
theorem Own.of_set {τ : Te} {i j : Nat} {s : Sl} (hs : ∀ k l c, s = .ct k l c → k = .ro) (h : Own (τ.set i s) j) : Own τ j ∧ j ≠ i := by
  obtain ⟨k, l, c, e, hk⟩ := h
  by_cases q : i = j
  · subst q
    by_cases hl : i < τ.length
    · rw [List.getElem?_set_self hl] at e
      exact absurd (hs k l c (Option.some.inj e)) hk
    · rw [List.getElem?_eq_none (by simpa using hl)] at e
      cases e
  · rw [List.getElem?_set_ne q] at e
    exact ⟨⟨k, l, c, e, hk⟩, fun z => q z.symm⟩
/-- a slot that no longer owns -/
theorem Rp.drop (R : Rp B σ H τ G) {i : Nat} {s : Sl} (hs : ∀ k l c, s = .ct k l c → k = .ro) (h : ∀ s0, τ[i]? = some s0 → RSl B σ H τ G i s) (hn : ∀ l c, s ≠ .ct .ro l c) : Rp B σ H (τ.set i s) G where
  gh := R.gh
  g0 := R.g0
  nw := R.nw
  kp := R.kp
  da := R.da
  dr := R.dr
  sl := fun j s' e => by
    have nown : ∀ p, OwnAt σ (τ.set i s) p → OwnAt σ τ p := fun p ⟨k, hk, e⟩ => ⟨k, (Own.of_set hs hk).1, e⟩
    by_cases q : i = j
    · subst q
      by_cases hl : i < τ.length
      · rw [List.getElem?_set_self hl] at e
        cases e
        have z := h _ (List.getElem?_eq_getElem hl)
        exact z.move rfl (Sub.refl _) (fun _ _ _ _ h => h) (fun _ _ _ h => h) fun p c _ n h => ⟨h, fun z => n (nown p z)⟩
      · rw [List.getElem?_eq_none (by simpa using hl)] at e
        cases e
    · rw [List.getElem?_set_ne q] at e
      exact (R.sl j s' e).move rfl (Sub.refl _) (fun _ _ _ _ h => h) (fun _ _ _ h => h) fun p c _ n h => ⟨h, fun z => n (nown p z)⟩
  ds := fun a b p ha hb => R.ds a b p (Own.of_set hs ha).1 (Own.of_set hs hb).1
  ln := by rw [List.length_set]; exact R.ln
theorem frz1_ok (R : Rp B σ H τ G) {r : RV} {d : PyData} {τ' : Te} (h : RR B σ H τ G x r) (e : frz1 r τ = some (d, τ')) : ∃ G', Sub G G' ∧ Rp B σ H τ' G' ∧ Dp B.K G' x d := by
  cases r with
  | val d' =>
    cases e
    exact ⟨G, Sub.refl _, R, h⟩
  | tmp c => cases e
  | slot i =>
    have h' : σ[i]? = some (some x) := h
    have e0 : (match τ[i]? with | some (.sh d) => some (d, τ) | some (.ct .ow false (.L ds)) => some (PyData.list ds, τ.set i (.sh (.list ds))) | _ => none) = some (d, τ') := e
    cases q : τ[i]? with
    | none =>
      rw [q] at e0
      cases e0
    | some s =>
      rw [q] at e0
      have z := R.sl i _ q
      cases s with
      | nv o => cases e0
      | sh d' =>
        cases e0
        obtain ⟨v, e1, e2⟩ := z
        rw [h'] at e1
        cases e1
        exact ⟨G, Sub.refl _, R, e2⟩
      | ct k l c =>
        cases k with
        | io => cases e0
        | ro => cases e0
        | ow =>
          cases l with
          | true => cases e0
          | false =>
            cases c with
            | D c kd => cases e0
            | L ds =>
              cases e0
              obtain ⟨p, o, e1, e2, rc, g, h0⟩ := z
              rw [h'] at e1
              cases e1
              cases o <;> try exact (show False from rc).elim
              rename_i vs
              have oi : Own τ i := ⟨_, _, _, q, by decide⟩
              have R1 : Rp B σ H (τ.set i .no) G := R.drop (fun k l c z => by cases z) (fun _ _ => trivial) (fun l c z => by cases z)
              have n1 : ¬ OwnAt σ (τ.set i .no) p := fun ⟨j, hj, ej⟩ => by
                obtain ⟨h1, h2⟩ := Own.of_set (fun k l c z => by cases z) hj
                exact h2 (R.ds _ _ _ h1 oi ej h')
              have R2 := R1.frz e2 h0 n1 g
              have dd : Dp B.K (upd G p (.lst vs)) (.ref p) (.list ds) := .lst (SqL.of upd_same) (DpAll.sub (Sub.upd g) rc)
              have R3 : Rp B σ H ((τ.set i .no).set i (.sh (.list ds))) (upd G p (.lst vs)) := R2.drop (fun k l c z => by cases z) (fun _ _ => ⟨_, h', dd⟩) (fun l c z => by cases z)
              rw [List.set_set] at R3
              exact ⟨_, Sub.upd g, R3, dd⟩
theorem frzs_ok : ∀ {xs : List V} {rs : List RV} {ds : List PyData} {τ τ' : Te} {G : Hp}, Rp B σ H τ G → RA B σ H τ G xs rs → frzs τ rs = some (ds, τ') → ∃ G', Sub G G' ∧ Rp B σ H τ' G' ∧ DpAll B.K G' xs ds
  | [], [], ds, τ, τ', G, R, h, e => by
    cases e
    exact ⟨G, Sub.refl _, R, .nil⟩
  | x :: xs, r :: rs, ds, τ, τ', G, R, h, e => by
    cases h with
    | cons a b =>
      have e0 : (match frz1 r τ with | some (d, τ1) => (match frzs τ1 rs with | some (ds, τ2) => some (d :: ds, τ2) | none => none) | none => none) = some (ds, τ') := e
      cases e1 : frz1 r τ with
      | none =>
        rw [e1] at e0
        cases e0
      | some z =>
        obtain ⟨d, τ1⟩ := z
        rw [e1] at e0
        obtain ⟨G1, s1, R1, h1⟩ := frz1_ok R a.1 e1
        cases e2 : frzs τ1 rs with
        | none =>
          simp only [e2] at e0
          cases e0
        | some z =>
          obtain ⟨ds', τ2⟩ := z
          simp only [e2] at e0
          cases e0
          obtain ⟨G2, s2, R2, h2⟩ := frzs_ok R1 (RA.stay s1 b) e2
          exact ⟨G2, s1.trans s2, R2, .cons (Dp.sub s2 h1) h2⟩
end
section
variable {X : Cx} {B : Bs} {e a b : Expr} {es rest : List Expr} {pos : Pos} {Fa Fb : FE} {A : FA}
/-! (a, b), [a, b] -/
def fDisp (g : List PyData → O) (A : FA) : FE := fun τ => (A τ).bind fun rs τ1 => match frzs τ1 rs with
  | some (ds, τ2) => (g ds).res τ2
  | none => .stuck
theorem disp_of {g : List PyData → O} {σ : L2.St} {H : Hp} {Q : VK} {Q1 : List V → Hp → Prop} (h : tE B (fDisp g A) σ H Q) (next : ∀ ds τ2 xs H1 G1, Rp B σ H1 τ2 G1 → DpAll B.K G1 xs ds → PE1 B σ G1 Q ((g ds).res τ2) → Q1 xs H1) : tA B A σ H Q1 := by
  obtain ⟨τ, G, R, h⟩ := h
  refine ⟨τ, G, R, Po.bind h fun rs τ1 xs H1 G1 _ _ R1 rr h => ?_⟩
  revert h
  cases e1 : frzs τ1 rs with
  | none => exact fun h => h.elim
  | some z =>
    obtain ⟨ds, τ2⟩ := z
    intro h
    obtain ⟨G2, s2, R2, hd⟩ := frzs_ok R1 rr e1
    exact next _ _ _ _ _ R2 hd (Po.sub s2 h)
def gTupD (ds : List PyData) : O := if ds.length ≤ 100000 then .t ds else .no
def gLstD (ds : List PyData) : O := if ds.length ≤ 100000 then .l ds else .no
theorem x_tup {k : Nat} (ha : PA X es (tA B A)) : PE X (.Tuple es k pos) (tE B (fDisp gTupD A)) :=
  PE.wkt (pe_tupK ha) fun σ H Q h => disp_of h fun ds τ2 xs H1 G1 R1 hd h => by
    unfold gTupD at h
    by_cases c : ds.length ≤ 100000
    · rw [if_pos c] at h
      exact ⟨by rw [hd.len]; exact c, new_tup R1 hd h⟩
    · rw [if_neg c] at h
      exact h.elim
theorem x_lst (ha : PA X es (tA B A)) : PE X (.List es pos) (tE B (fDisp gLstD A)) :=
  PE.wkt (pe_lstK ha) fun σ H Q h => disp_of h fun ds τ2 xs H1 G1 R1 hd h => by
    unfold gLstD at h
    by_cases c : ds.length ≤ 100000
    · rw [if_pos c] at h
      exact ⟨by rw [hd.len]; exact c, new_lst R1 hd h⟩
    · rw [if_neg c] at h
      exact h.elim
/-! ### built-in calls by what the arguments show -/
def fCB (g : List PyData → O) (A : FA) : FE := fun τ => (A τ).bind fun rs τ1 => match looks τ1 rs with
  | some ds => (g ds).res τ1
  | none => .stuck
def OpN (K : Fg) (r : List V → Hp → VK → Prop) (g : List PyData → O) : Prop := ∀ H G xs ds Q, Sub G H → Lks K H G xs ds → Fi K H G Q (g ds) → r xs H Q
theorem cb_of {r : List V → Hp → VK → Prop} {g : List PyData → O} (o : OpN B.K r g) {σ : L2.St} {H : Hp} {Q : VK} (h : tE B (fCB g A) σ H Q) : tCB r (tA B A) σ H Q := by
  obtain ⟨τ, G, R, h⟩ := h
  refine ⟨τ, G, R, Po.bind h fun rs τ1 xs H1 G1 _ _ R1 rr h => ?_⟩
  revert h
  cases e1 : looks τ1 rs with
  | none => exact fun h => h.elim
  | some ds => exact fun h => o _ _ _ _ _ R1.gh (looks_ok R1 rr e1) (fin_of R1 h)
theorem x_callB {id : String} {x : Str} {p : Pos} {r : List V → Hp → VK → Prop} {g : List PyData → O} (hc : CallR X (.builtin id) r) (o : OpN B.K r g) (hg : Gl X x) (hm : X.mg x = none) (hv : bootBuiltins x = some (.builtin id)) (ha : PA X (e :: es) (tA B A)) (hn : x ≠ "__name__" := by decide) (hdb : (x == ("__debug__" : Str)) = false := by decide)
    (he : starEach (e :: es) X.env = (false, eval e X.env) :: starEach es X.env := by rfl) (hpl : (backTo pos (starEach es X.env)).any (·.1) = false := by rfl) : PE X (.Call (.Name x p) (e :: es) [] pos) (tE B (fCB g A)) :=
  PE.wkt (pe_callB hc hg hm hv ha hn hdb he hpl) fun σ H Q h => cb_of o h
theorem x_callTy {ty : String} {x : Str} {p : Pos} {r : List V → Hp → VK → Prop} {g : List PyData → O} (hc : CallR X (.type ty) r) (o : OpN B.K r g) (hg : Gl X x) (hm : X.mg x = none) (hv : bootBuiltins x = some (.type ty)) (ha : PA X (e :: es) (tA B A)) (hn : x ≠ "__name__" := by decide) (hdb : (x == ("__debug__" : Str)) = false := by decide)
    (he : starEach (e :: es) X.env = (false, eval e X.env) :: starEach es X.env := by rfl) (hpl : (backTo pos (starEach es X.env)).any (·.1) = false := by rfl) : PE X (.Call (.Name x p) (e :: es) [] pos) (tE B (fCB g A)) :=
  PE.wkt (pe_callTy hc hg hm hv ha hn hdb he hpl) fun σ H Q h => cb_of o h
/-! ### unary -/
def fUn (g : PyData → O) (Fa : FE) : FE := fun τ => (Fa τ).bind fun r τ1 => match look τ1 r with
  | some d => (g d).res τ1
  | none => .stuck
def Op1 (K : Fg) (r : V → Hp → VK → Prop) (g : PyData → O) : Prop := ∀ H G x d Q, Sub G H → Lk K H G x d → Fi K H G Q (g d) → r x H Q
theorem un_of {r : V → Hp → VK → Prop} {g : PyData → O} (o : Op1 B.K r g) {σ : L2.St} {H : Hp} {Q : VK} (h : tE B (fUn g Fa) σ H Q) : tE B Fa σ H (fun x H1 => r x H1 Q) := by
  obtain ⟨τ, G, R, h⟩ := h
  refine ⟨τ, G, R, Po.bind h fun ra τ1 x H1 G1 _ _ R1 rr h => ?_⟩
  revert h
  cases e1 : look τ1 ra with
  | none => exact fun h => h.elim
  | some d => exact fun h => o _ _ _ _ _ R1.gh (look_ok R1 rr e1) (fin_of R1 h)
theorem x_un {op : UnaryOp} {r : V → Hp → VK → Prop} {g : PyData → O} (ho : UnR X (unaryOp op) r) (o : Op1 B.K r g) (ha : PE X a (tE B Fa)) : PE X (.UnaryOp op a pos) (tE B (fUn g Fa)) :=
  PE.wkt (pe_un ho ha) fun σ H Q h => un_of o h
/-! ### methods of texts -/
def fBM (g : PyData → List PyData → O) (Fo : FE) (A : FA) : FE := fun τ => (Fo τ).bind fun ro τ1 => (hold ro τ1).bind fun ro τ2 => (A τ2).bind fun rs τ3 => match look τ3 ro, looks τ3 rs with
  | some (.str z), some ds => (g (.str z) ds).res τ3
  | _, _ => .stuck
end
end T
end

section
set_option Elab.async false
set_option linter.all false
set_option maxRecDepth 100000
set_option maxHeartbeats 2000000
/-! T4: the operators, by what the operands are. -/
namespace T
open PySem PySem.Spec PyProof.Rows L2 Z
theorem Lk.ref {K : Fg} {H G : Hp} {x : V} {ds : List PyData} (s : Sub G H) (h : Lk K H G x (.tuple ds)) : ∃ p vs, x = .ref p ∧ SqT K H p vs ∧ DpAll K G vs ds := by
  have h : Dp K G x (.tuple ds) := h
  cases h with
  | tup a b => exact ⟨_, _, rfl, SqT.sub s a, b⟩
theorem Lk.int {K : Fg} {H G : Hp} {x : V} {i : Int} (h : Lk K H G x (.int i)) : x = .int i := by
  have h : Dp K G x (.int i) := h
  cases h
  rfl
theorem Lk.str {K : Fg} {H G : Hp} {x : V} {i : Str} (h : Lk K H G x (.str i)) : x = .str i := by
  have h : Dp K G x (.str i) := h
  cases h
  rfl
theorem Lk.bl {K : Fg} {H G : Hp} {x : V} {i : Bool} (h : Lk K H G x (.bool i)) : x = .bl i := by
  have h : Dp K G x (.bool i) := h
  cases h
  rfl
theorem Lk.non {K : Fg} {H G : Hp} {x : V} (h : Lk K H G x .none) : x = .non := by
  have h : Dp K G x .none := h
  cases h
  rfl
theorem Fi.if {K : Fg} {H G : Hp} {Q : VK} {c : Prop} [Decidable c] {o : O} (h : Fi K H G Q (if c then o else .no)) : c ∧ Fi K H G Q o := by
  by_cases q : c
  · rw [if_pos q] at h
    exact ⟨q, h⟩
  · rw [if_neg q] at h
    exact h.elim
/-! ### + -/
def pyAdd : PyData → PyData → O
  | .int i, .int j => .v (.int (i + j))
  | .str a, .str b => if a.length + b.length ≤ sizeLine then .v (.str (a ++ b)) else .no
  | .list ds, .list es => if ds.length + es.length ≤ 100000 then .l (ds ++ es) else .no
  | .tuple (d :: ds), .tuple [] => if (d :: ds).length ≤ 100000 then .v (.tuple (d :: ds)) else .no
  | .tuple (d :: ds), .tuple (e :: es) => if (d :: ds).length + (e :: es).length ≤ 100000 then .t (d :: ds ++ e :: es) else .no
  | _, _ => .no
def rCatS (K : Fg) : R2 := fun x y H Q => ∃ l b xs zs, x = .ref l ∧ y = .ref b ∧ SqL K H l xs ∧ SqL K H b zs ∧ xs.length + zs.length ≤ 100000 ∧ Nw H (.lst (xs ++ zs)) Q
theorem op_catS {X : Cx} : OpR X (binaryOp .Add) (rCatS X.K) := by
  intro pins s σ H x y v u Q I rx ry h
  obtain ⟨l, b, xs, zs, rfl, rfl, hH, hB, hz, q⟩ := h
  cases rx
  cases ry
  obtain ⟨its, r, ⟨⟨c1, dd1, dt1, sl1⟩, n1, ho1, hc1, hd1, ht1⟩, _⟩ := I.list hH
  obtain ⟨its2, r2, ⟨⟨c2, dd2, dt2, sl2⟩, n2, ho2, hc2, hd2, ht2⟩, _⟩ := I.list hB
  simp only at hc1 hd1 ht1 hc2 hd2 ht2
  subst hc1 hd1 ht1 hc2 hd2 ht2
  have l1 := r.length
  have l2 := r2.length
  have sz := sizeLine_eq
  refine concat_meets ⟨_, ho1, rfl⟩ ⟨_, ho2, rfl⟩ noFill_list_add seq_list_add PySem.F.slot_list_add PySem.F.entry_list_add (PySem.F.args_list_add_2 _ _)
    (list_addW l b its.toArray its2.toArray n1 n2 none none sl1 sl2 (by rw [List.size_toArray, List.size_toArray]; omega)) ⟨ho1, ho2, ?_⟩
  have ea : its.toArray ++ its2.toArray = (its ++ its2).toArray := by simp
  rw [ea]
  exact ⟨.ref _, _, I.lnew (t' := s.toks) (r.append r2) (by rw [List.length_append]; omega), rfl, Nw.of q _ I.fresh⟩
/-- a tuple that may be the operand itself -/
theorem op_addA {X : Cx} : OpR X (binaryOp .Add) (fun x y H Q => (rI0 (fun i j => .int (i + j))) x y H Q ∨ (∃ i j, x = .str i ∧ y = .str j ∧ i.length + j.length ≤ sizeLine ∧ Q (.str (i ++ j)) H) ∨ rCatS X.K x y H Q ∨ rCatT X.K x y H Q) :=
  op_add.or (op_add_str.or (op_catS.or op_catT))
theorem o_add {K : Fg} : Op2 K (fun x y H Q => (rI0 (fun i j => .int (i + j))) x y H Q ∨ (∃ i j, x = .str i ∧ y = .str j ∧ i.length + j.length ≤ sizeLine ∧ Q (.str (i ++ j)) H) ∨ rCatS K x y H Q ∨ rCatT K x y H Q) pyAdd := by
  intro H G x y d e Q s hx hy h
  unfold pyAdd at h
  split at h
  · cases hx.int
    cases hy.int
    exact .inl ⟨_, _, rfl, rfl, h _ (.int _)⟩
  · cases hx.str
    cases hy.str
    obtain ⟨c, h⟩ := h.if
    exact .inr (.inl ⟨_, _, rfl, rfl, c, h _ (.str _)⟩)
  · obtain ⟨c, h⟩ := h.if
    obtain ⟨p, vs, rfl, a, b⟩ := hx
    obtain ⟨q, ws, rfl, a2, b2⟩ := hy
    exact .inr (.inr (.inl ⟨p, q, vs, ws, rfl, rfl, a, a2, by rw [b.len, b2.len]; exact c, h _ (b.app b2)⟩))
  · obtain ⟨c, h⟩ := h.if
    have hx' := hx
    obtain ⟨p, vs, rfl, a, b⟩ := hx.ref s
    obtain ⟨q, ws, rfl, a2, b2⟩ := hy.ref s
    cases b2
    refine .inr (.inr (.inr ⟨p, q, vs, [], rfl, rfl, a, a2, ?_, ?_, fun _ => h _ hx', fun e => (e rfl).elim⟩))
    · intro e
      subst e
      cases b
    · have l1 := b.len
      exact small (by rw [l1]; exact c)
  · obtain ⟨c, h⟩ := h.if
    obtain ⟨p, vs, rfl, a, b⟩ := hx.ref s
    obtain ⟨q, ws, rfl, a2, b2⟩ := hy.ref s
    have z : DpAll K G (vs ++ ws) (_ :: _ ++ _ :: _) := b.app b2
    refine .inr (.inr (.inr ⟨p, q, vs, ws, rfl, rfl, a, a2, ?_, ?_, ?_, ?_⟩))
    · intro e
      subst e
      cases b
    · have l1 := b.len
      have l2 := b2.len
      exact small (by omega)
    · intro e
      subst e
      cases b2
    · intro _ r nr
      exact Nw.of (h _ z) r nr
  · exact h.elim

/-! ### - * // % << >> & | ** -/
def pyI (g : Int → Int → Option Int) : PyData → PyData → O
  | .int i, .int j => match g i j with
    | some k => .v (.int k)
    | none => .no
  | _, _ => .no
theorem o_i0 {K : Fg} {f : Int → Int → Int} : Op2 K (rI0 fun i j => .int (f i j)) (pyI fun i j => some (f i j)) := by
  intro H G x y d e Q s hx hy h
  unfold pyI at h
  split at h
  · cases hx.int
    cases hy.int
    exact ⟨_, _, rfl, rfl, h _ (.int _)⟩
  · exact h.elim
theorem o_ic {K : Fg} {f : Int → Int → Int} {C : Int → Int → Prop} [∀ i j, Decidable (C i j)] : Op2 K (rI C fun i j => .int (f i j)) (pyI fun i j => if C i j then some (f i j) else none) := by
  intro H G x y d e Q s hx hy h
  unfold pyI at h
  split at h
  · rename_i i j
    cases hx.int
    cases hy.int
    dsimp only at h
    by_cases c : C i j
    · rw [if_pos c] at h
      exact ⟨_, _, rfl, rfl, c, h _ (.int _)⟩
    · rw [if_neg c] at h
      exact h.elim
  · exact h.elim
abbrev pySub := pyI fun i j => some (i - j)
abbrev pyAnd := pyI fun i j => some (Builtin.bitAnd i j)
abbrev pyOr := pyI fun i j => some (Builtin.bitOr i j)
instance (i j : Int) : Decidable (CMul i j) := by unfold CMul; infer_instance
instance (i j : Int) : Decidable (CDiv i j) := by unfold CDiv; infer_instance
instance (i j : Int) : Decidable (CPow i j) := by unfold CPow; infer_instance
abbrev pyDiv := pyI fun i j => if CDiv i j then some (i / j) else none
abbrev pyMod := pyI fun i j => if 0 < j then some (i % j) else none
abbrev pyPow := pyI fun i j => if CPow i j then some (i ^ j.toNat) else none
abbrev pyShl := pyI fun i j => if CPow i j then some (i * 2 ^ j.toNat) else none
abbrev pyShr := pyI fun i j => if 0 ≤ j then some (i / 2 ^ j.toNat) else none
/-- a product of ints; a list so many times -/
def pyMul : PyData → PyData → O
  | .int i, .int j => if CMul i j then .v (.int (i * j)) else .no
  | .list ds, .int k => if -(2 ^ 63) ≤ k ∧ k < 2 ^ 63 ∧ ds.length * k.toNat ≤ 100000 then .l (List.replicate k.toNat ds).flatten else .no
  | _, _ => .no
def rRepS (K : Fg) : R2 := fun x y H Q => ∃ l k xs, x = .ref l ∧ y = .int k ∧ H l = some (.lst xs) ∧ -(2 ^ 63) ≤ k ∧ k < 2 ^ 63 ∧ xs.length * k.toNat ≤ 100000 ∧ Nw H (.lst (List.replicate k.toNat xs).flatten) Q
/-! ### == != -/
def pyEq (d e : PyData) : O := if SeqAt.shaped d = true ∧ SeqAt.shaped e = true then .v (.bool (PyData.eqv d e)) else .no
def pyNe (d e : PyData) : O := if SeqAt.shaped d = true ∧ SeqAt.shaped e = true then .v (.bool (!PyData.eqv d e)) else .no
theorem o_eq {K : Fg} : Op2 K (rEqD K) pyEq := by
  intro H G x y d e Q s hx hy h
  obtain ⟨⟨c1, c2⟩, h⟩ := h.if
  exact ⟨d, e, hx.dp s, hy.dp s, c1, c2, h _ (.bl _)⟩
theorem o_ne {K : Fg} : Op2 K (rNeD K) pyNe := by
  intro H G x y d e Q s hx hy h
  obtain ⟨⟨c1, c2⟩, h⟩ := h.if
  exact ⟨d, e, hx.dp s, hy.dp s, c1, c2, h _ (.bl _)⟩
/-! ### < <= > >= of ints -/
def pyB (g : Int → Int → Bool) : PyData → PyData → O
  | .int i, .int j => .v (.bool (g i j))
  | _, _ => .no
theorem o_b {K : Fg} {g : Int → Int → Bool} : Op2 K (rI0 fun i j => .bl (g i j)) (pyB g) := by
  intro H G x y d e Q s hx hy h
  unfold pyB at h
  split at h
  · cases hx.int
    cases hy.int
    exact ⟨_, _, rfl, rfl, h _ (.bl _)⟩
  · exact h.elim
abbrev pyLt := pyB fun i j => decide (i < j)
abbrev pyLe := pyB fun i j => decide (i ≤ j)
abbrev pyGt := pyB fun i j => decide (j < i)
abbrev pyGe := pyB fun i j => decide (j ≤ i)
/-! ### is None, is not None -/
def isNon : PyData → Bool
  | .none => true
  | _ => false
def pyIs (d e : PyData) : O := match e with
  | .none => .v (.bool (isNon d))
  | _ => .no
def pyIsNot (d e : PyData) : O := match e with
  | .none => .v (.bool (!isNon d))
  | _ => .no
theorem isNon_of {K : Fg} {H G : Hp} {x : V} {d : PyData} (h : Lk K H G x d) : decide (x = .non) = isNon d := by
  cases d with
  | none =>
    cases h.non
    rfl
  | bool b =>
    cases h.bl
    rfl
  | int b =>
    cases h.int
    rfl
  | str b =>
    cases h.str
    rfl
  | list b =>
    obtain ⟨p, vs, rfl, _⟩ := h
    rfl
  | tuple b =>
    have h : Dp K G x (.tuple b) := h
    cases h
    rfl
  | dict b =>
    have h : Dp K G x (.dict b) := h
    cases h
theorem o_is {K : Fg} : Op2 K (fun x y H Q => y = .non ∧ Q (.bl (decide (x = .non))) H) pyIs := by
  intro H G x y d e Q s hx hy h
  unfold pyIs at h
  split at h
  · refine ⟨hy.non, ?_⟩
    rw [isNon_of hx]
    exact h _ (.bl _)
  · exact h.elim
theorem o_isNot {K : Fg} : Op2 K (fun x y H Q => y = .non ∧ Q (.bl (!decide (x = .non))) H) pyIsNot := by
  intro H G x y d e Q s hx hy h
  unfold pyIsNot at h
  split at h
  · refine ⟨hy.non, ?_⟩
    rw [isNon_of hx]
    exact h _ (.bl _)
  · exact h.elim
/-! ### x[i] -/
theorem atI_len {α β : Type} {xs : List α} {ys : List β} (h : xs.length = ys.length) {i : Int} {y : β} (e : atI ys i = some y) : ∃ k : Nat, ys[k]? = some y ∧ ∀ x, xs[k]? = some x → atI xs i = some x := by
  unfold atI at e ⊢
  rw [h]
  cases q : ixN ys.length i with
  | none =>
    rw [q] at e
    cases e
  | some k =>
    rw [q] at e
    exact ⟨k, e, fun x hx => hx⟩
def pyIx : PyData → PyData → O
  | .list ds, .int i => match atI ds i with
    | some d => .v d
    | none => .no
  | .tuple ds, .int i => match atI ds i with
    | some d => .v d
    | none => .no
  | .str z, .int i => if z.length ≤ sizeLine then (match atI z.cps.toList i with
    | some c => .v (.str ⟨#[c]⟩)
    | none => .no) else .no
  | _, _ => .no
theorem o_ix {K : Fg} : Op2 K (rIx K) pyIx := by
  intro H G x y d e Q s hx hy h
  unfold pyIx at h
  split at h
  · rename_i ds i
    obtain ⟨p, vs, rfl, a, b⟩ := hx
    cases hy.int
    cases q : atI ds i with
    | none =>
      rw [q] at h
      exact h.elim
    | some d =>
      rw [q] at h
      obtain ⟨k, e1, e2⟩ := atI_len b.len q
      obtain ⟨v, h1, h2⟩ := b.get e1
      exact .inl ⟨p, vs, i, v, rfl, rfl, a, e2 v h1, h v h2⟩
  · rename_i ds i
    obtain ⟨p, vs, rfl, a, b⟩ := hx.ref s
    cases hy.int
    cases q : atI ds i with
    | none =>
      rw [q] at h
      exact h.elim
    | some d =>
      rw [q] at h
      obtain ⟨k, e1, e2⟩ := atI_len b.len q
      obtain ⟨v, h1, h2⟩ := b.get e1
      exact .inr (.inl ⟨p, vs, i, v, rfl, rfl, a, e2 v h1, h v h2⟩)
  · rename_i z i
    cases hx.str
    cases hy.int
    obtain ⟨c, h⟩ := h.if
    cases q : atI z.cps.toList i with
    | none =>
      rw [q] at h
      exact h.elim
    | some d =>
      rw [q] at h
      exact .inr (.inr ⟨z, i, d, rfl, rfl, c, q, h _ (.str _)⟩)
  · exact h.elim
/-! ### len, int, repr -/
def pyLen : List PyData → O
  | [.list ds] => .v (.int ds.length)
  | [.tuple ds] => .v (.int ds.length)
  | [.str z] => if z.length ≤ sizeLine then .v (.int z.length) else .no
  | _ => .no
theorem Lks.one {K : Fg} {H G : Hp} {xs : List V} {d : PyData} (h : Lks K H G xs [d]) : ∃ x, xs = [x] ∧ Lk K H G x d := by
  cases h with
  | cons a b =>
    cases b
    exact ⟨_, rfl, a⟩
theorem Lks.two {K : Fg} {H G : Hp} {xs : List V} {d e : PyData} (h : Lks K H G xs [d, e]) : ∃ x y, xs = [x, y] ∧ Lk K H G x d ∧ Lk K H G y e := by
  cases h with
  | cons a b =>
    cases b with
    | cons b c =>
      cases c
      exact ⟨_, _, rfl, a, b⟩
def rLenA (K : Fg) : List V → Hp → VK → Prop := fun xs H Q => ∃ x n, xs = [x] ∧ LenV K x H n ∧ Q (.int n) H
theorem o_len {K : Fg} : OpN K (rLenA K) pyLen := by
  intro H G xs ds Q s hs h
  unfold pyLen at h
  split at h
  · obtain ⟨x, rfl, p, vs, rfl, a, b⟩ := hs.one
    exact ⟨_, _, rfl, .inl ⟨vs, a, rfl⟩, by rw [b.len]; exact h _ (.int _)⟩
  · obtain ⟨x, rfl, hx⟩ := hs.one
    obtain ⟨p, vs, rfl, a, b⟩ := hx.ref s
    exact ⟨_, _, rfl, .inr ⟨vs, a, rfl⟩, by rw [b.len]; exact h _ (.int _)⟩
  · obtain ⟨x, rfl, hx⟩ := hs.one
    cases hx.str
    obtain ⟨c, h⟩ := h.if
    exact ⟨_, _, rfl, ⟨c, rfl⟩, h _ (.int _)⟩
  · exact h.elim
def pyInt : List PyData → O
  | [.int i] => .v (.int i)
  | [.bool b] => .v (.int (if b then 1 else 0))
  | [.str a] => match PySem.intText? a with
    | some n => if a.length ≤ 640 then .v (.int n) else .no
    | none => .no
  | _ => .no
def rInt1 : List V → Hp → VK → Prop := fun xs H Q => ((∃ i, xs = [.int i] ∧ Q (.int i) H) ∨ ∃ k, xs = [.bl k] ∧ Q (.int (if k then 1 else 0)) H) ∨ ∃ a n, xs = [.str a] ∧ PySem.intText? a = some n ∧ a.length ≤ 640 ∧ Q (.int n) H
theorem call_intA {X : Cx} : CallR X (.type "int") rInt1 := call_int1.or call_int_str
theorem o_int {K : Fg} : OpN K rInt1 pyInt := by
  intro H G xs ds Q s hs h
  unfold pyInt at h
  split at h
  · obtain ⟨x, rfl, hx⟩ := hs.one
    cases hx.int
    exact .inl (.inl ⟨_, rfl, h _ (.int _)⟩)
  · obtain ⟨x, rfl, hx⟩ := hs.one
    cases hx.bl
    exact .inl (.inr ⟨_, rfl, h _ (.int _)⟩)
  · rename_i a
    obtain ⟨x, rfl, hx⟩ := hs.one
    cases hx.str
    cases q : PySem.intText? a with
    | none =>
      rw [q] at h
      exact h.elim
    | some n =>
      rw [q] at h
      obtain ⟨c, h⟩ := h.if
      exact .inr ⟨a, n, rfl, q, c, h _ (.int _)⟩
  · exact h.elim
/-- what repr can tell -/
def showOk (d : PyData) : Bool := d.showable && !d.hasDict && decide (d.depth ≤ 60) && decide (d.shown.length ≤ sizeLine)
def pyRepr : List PyData → O
  | [d] => if showOk d = true then .v (.str d.shown) else .no
  | _ => .no
theorem o_repr {K : Fg} : OpN K (rRepr K) pyRepr := by
  intro H G xs ds Q s hs h
  unfold pyRepr at h
  split at h
  · obtain ⟨x, rfl, hx⟩ := hs.one
    obtain ⟨c, h⟩ := h.if
    unfold showOk at c
    simp only [Bool.and_eq_true, decide_eq_true_eq, Bool.not_eq_true'] at c
    obtain ⟨⟨⟨c1, c2⟩, c3⟩, c4⟩ := c
    exact ⟨x, _, rfl, hx.dp s, c1, c2, c3, c4, h _ (.str _)⟩
  · exact h.elim
def pyNeg : PyData → O
  | .int i => .v (.int (-i))
  | _ => .no
theorem o_neg {K : Fg} : Op1 K (rU fun i => .int (-i)) pyNeg := by
  intro H G x d Q s hx h
  unfold pyNeg at h
  split at h
  · cases hx.int
    exact ⟨_, rfl, h _ (.int _)⟩
  · exact h.elim
end T
end

section
set_option Elab.async false
set_option linter.all false
set_option maxRecDepth 100000
set_option maxHeartbeats 2000000
/-! T5: statements by value. -/
namespace T
open PySem PySem.Spec PyProof.Rows L2 Z
inductive SR where
  | nx | bk | ct
  | rt (r : RV)
abbrev FS := Te → Res SR
def PS1 (B : Bs) (G : Hp) (D : Ends) : Res SR → Prop
  | .ok .nx τ' => ∀ σ' H' G', Sub G G' → Rp B σ' H' τ' G' → D.nx σ' H'
  | .ok .bk τ' => ∀ σ' H' G', Sub G G' → Rp B σ' H' τ' G' → D.bk σ' H'
  | .ok .ct τ' => ∀ σ' H' G', Sub G G' → Rp B σ' H' τ' G' → D.ct σ' H'
  | .ok (.rt r) τ' => ∀ v σ' H' G', Sub G G' → Rp B σ' H' τ' G' → RR B σ' H' τ' G' v r → D.rt v H'
  | .exc c f τ' => ∀ C d σ' H' G', Sub G G' → Rp B σ' H' τ' G' → REx B.K B.mg G' c f C d → B.W C d σ' H'
  | .stuck => False
def tS (B : Bs) (F : FS) : TS := fun D σ H => ∃ τ G, Rp B σ H τ G ∧ PS1 B G D (F τ)
theorem PS1.sub {B : Bs} {G G' : Hp} {D : Ends} {r : Res SR} (s : Sub G G') (h : PS1 B G D r) : PS1 B G' D r := by
  cases r with
  | ok r τ =>
    cases r with
    | rt r => exact fun v σ' H' G2 s2 => h v σ' H' G2 (s.trans s2)
    | _ => exact fun σ' H' G2 s2 => h σ' H' G2 (s.trans s2)
  | exc c f τ => exact fun C d σ' H' G2 s2 => h C d σ' H' G2 (s.trans s2)
  | stuck => exact h
section
variable {β α : Type} {RL : L2.St → Hp → Te → Hp → β → α → Prop} {B : Bs} {σ : L2.St} {G : Hp} {D : Ends} {Q1 : β → Hp → Prop} {r : Res α} {k : α → Te → Res SR}
theorem Po.bindS (h : PS1 B G D (r.bind k)) (next : ∀ a τ1 x H1 G1, r = .ok a τ1 → Sub G G1 → Rp B σ H1 τ1 G1 → RL σ H1 τ1 G1 x a → PS1 B G1 D (k a τ1) → Q1 x H1) : Po RL B σ G Q1 r := by
  cases r with
  | ok a τ1 => exact fun x H1 G1 s R rr => next a τ1 x H1 G1 rfl s R rr (PS1.sub s h)
  | exc c f τ1 => exact fun C d H' G' s R e => h C d σ H' G' s R e
  | stuck => exact h
end
section
variable {X : Cx} {B : Bs} {st : Stmt} {sts rest : List Stmt} {e a b c : Expr} {pos : Pos} {Fa : FE} {Ta : FT} {F F' : FS}
theorem PS.wkt {t t' : TS} (h : PS X st t) (i : ∀ D σ H, t' D σ H → t D σ H) : PS X st t' := ⟨fun pins s σ H D I q => h.run pins s σ H D I (i D σ H q)⟩
theorem PSs.wkt {t t' : TS} (h : PSs X sts t) (i : ∀ D σ H, t' D σ H → t D σ H) : PSs X sts t' := ⟨fun pins s σ H D I q => h.run pins s σ H D I (i D σ H q)⟩
/-! blocks -/
def fSkip : FS := fun τ => .ok .nx τ
def fSeq (F K : FS) : FS := fun τ => match F τ with
  | .ok .nx τ1 => K τ1
  | r => r
theorem xss_nil : PSs X [] (tS B fSkip) := PSs.wkt pss_nil fun D σ H ⟨τ, G, R, h⟩ => h σ H G (Sub.refl _) R
theorem xss_cons (h1 : PS X st (tS B F)) (h2 : PSs X rest (tS B F')) : PSs X (st :: rest) (tS B (fSeq F F')) := by
  refine PSs.wkt (pss_cons h1 h2) ?_
  rintro D σ H ⟨τ, G, R, h⟩
  refine ⟨τ, G, R, ?_⟩
  unfold fSeq at h
  revert h
  generalize F τ = r
  intro h
  cases r with
  | ok r τ1 =>
    cases r with
    | nx => exact fun σ' H' G' s R' => ⟨τ1, G', R', PS1.sub s h⟩
    | bk => exact h
    | ct => exact h
    | rt r => exact h
  | exc c f τ => exact h
  | stuck => exact h
theorem xss_one (h1 : PS X st (tS B F)) : PSs X [st] (tS B F) := pss_one h1
theorem xs_pass : PS X (.Pass pos) (tS B fSkip) := PS.wkt ps_pass fun D σ H ⟨τ, G, R, h⟩ => h σ H G (Sub.refl _) R
def fBrk : FS := fun τ => .ok .bk τ
def fCnt : FS := fun τ => .ok .ct τ
theorem xs_break : PS X (.Break pos) (tS B fBrk) := PS.wkt ps_break fun D σ H ⟨τ, G, R, h⟩ => h σ H G (Sub.refl _) R
theorem xs_continue : PS X (.Continue pos) (tS B fCnt) := PS.wkt ps_continue fun D σ H ⟨τ, G, R, h⟩ => h σ H G (Sub.refl _) R
theorem xs_doc {x j pos pos'} : PS X (.Expr (.Constant (.str x) j pos) pos') (tS B fSkip) := PS.wkt ps_doc fun D σ H ⟨τ, G, R, h⟩ => h σ H G (Sub.refl _) R
def fDrop (F : FE) : FS := fun τ => (F τ).bind fun _ τ1 => .ok .nx τ1
theorem xs_expr (he : PE X e (tE B Fa)) (hs : swapsWith e none pos.line X.env = pure false := by rfl) : PS X (.Expr e pos) (tS B (fDrop Fa)) :=
  PS.wkt (ps_expr he hs) fun D σ H ⟨τ, G, R, h⟩ => ⟨τ, G, R, Po.bindS h fun r τ1 x H1 G1 _ _ R1 _ h => h σ H1 G1 (Sub.refl _) R1⟩
/-! return: what a slot owns goes along -/
def movS (τ : Te) : RV → Res SR
  | .val d => .ok (.rt (.val d)) τ
  | .tmp c => .ok (.rt (.tmp c)) τ
  | .slot i => match τ[i]? with
    | some (.sh d) => .ok (.rt (.val d)) τ
    | some (.ct .ow false c) => .ok (.rt (.tmp c)) (τ.set i .no)
    | _ => .stuck
def fRet (F : FE) : FS := fun τ => (F τ).bind fun r τ1 => movS τ1 r
theorem mov_ok {σ : L2.St} {H : Hp} {τ : Te} {G : Hp} {x : V} {r : RV} {D : Ends} (R : Rp B σ H τ G) (h : RR B σ H τ G x r) (q : PS1 B G D (movS τ r)) : D.rt x H := by
  cases r with
  | val d => exact q x σ H G (Sub.refl _) R h
  | tmp c => exact q x σ H G (Sub.refl _) R h
  | slot i =>
    have h' : σ[i]? = some (some x) := h
    have q0 : PS1 B G D (match τ[i]? with | some (.sh d) => .ok (.rt (.val d)) τ | some (.ct .ow false c) => .ok (.rt (.tmp c)) (τ.set i .no) | _ => .stuck) := q
    cases e : τ[i]? with
    | none =>
      rw [e] at q0
      exact q0.elim
    | some s =>
      rw [e] at q0
      have z := R.sl i _ e
      cases s with
      | nv o => exact q0.elim
      | sh d =>
        obtain ⟨v, e1, e2⟩ := z
        rw [h'] at e1
        cases e1
        exact q0 x σ H G (Sub.refl _) R e2
      | ct k l c =>
        cases k with
        | io => exact q0.elim
        | ro => exact q0.elim
        | ow =>
          cases l with
          | true => exact q0.elim
          | false =>
            obtain ⟨p, o, e1, e2, rc, g, h0⟩ := z
            rw [h'] at e1
            cases e1
            have oi : Own τ i := ⟨_, _, _, e, by decide⟩
            have R1 : Rp B σ H (τ.set i .no) G := R.drop (fun k l c z => by cases z) (fun _ _ => trivial) (fun l c z => by cases z)
            refine q0 (.ref p) σ H G (Sub.refl _) R1 ⟨p, o, rfl, e2, rc, g, h0, ?_, ?_⟩
            · rintro ⟨j, hj, ej⟩
              obtain ⟨h1, h2⟩ := Own.of_set (fun k l c z => by cases z) hj
              exact h2 (R.ds _ _ _ h1 oi ej h')
            · intro j l2 c2 ej es
              have hne : i ≠ j := fun z => by
                subst z
                have hl : i < τ.length := (List.getElem?_eq_some_iff.mp e).1
                rw [List.getElem?_set_self hl] at ej
                cases ej
              rw [List.getElem?_set_ne hne] at ej
              obtain ⟨q, e4, z4⟩ := R.sl j _ ej
              rw [es] at e4
              cases e4
              rcases z4 with z4 | ⟨_, n, _⟩
              · exact z4
              · exact absurd ⟨i, oi, h'⟩ n
theorem xs_ret (he : PE X e (tE B Fa)) : PS X (.Return (some e) pos) (tS B (fRet Fa)) :=
  PS.wkt (ps_ret he) fun D σ H ⟨τ, G, R, h⟩ => ⟨τ, G, R, Po.bindS h fun r τ1 x H1 G1 _ _ R1 rr h => mov_ok R1 rr h⟩
def fRetN : FS := fun τ => .ok (.rt (.val .none)) τ
theorem xs_retN : PS X (.Return none pos) (tS B fRetN) := PS.wkt ps_retN fun D σ H ⟨τ, G, R, h⟩ => h .non σ H G (Sub.refl _) R .non
/-! if -/
def fIfS (T : FT) (F F' : FS) : FS := fun τ => (T τ).bind fun b τ1 => if b = true then F τ1 else F' τ1
theorem xs_if {sa sb : List Stmt} (hc : PT X c (tT B Ta)) (ha : PSs X sa (tS B F)) (hb : PSs X sb (tS B F')) : PS X (.If c sa sb pos) (tS B (fIfS Ta F F')) := by
  refine PS.wkt (ps_if hc ha hb) ?_
  rintro D σ H ⟨τ, G, R, h⟩
  refine ⟨τ, G, R, Po.bindS h fun b τ1 x H1 G1 _ _ R1 rr h => ?_⟩
  cases rr
  cases b with
  | true => exact ⟨τ1, G1, R1, h⟩
  | false => exact ⟨τ1, G1, R1, h⟩
end
/-! ### storing into a slot -/
def isLk : Option Sl → Bool
  | some (.ct _ l _) => l
  | _ => false
def sto (i : Nat) (r : RV) (τ : Te) : Option Te :=
  if isLk τ[i]? = true then none else match r with
  | .val d => some (τ.set i (.sh d))
  | .tmp c => some (τ.set i (.ct .ow false c))
  | .slot j => match τ[j]? with
    | some (.sh d) => some (τ.set i (.sh d))
    | some (.ct .ow false (.L ds)) => some ((τ.set j (.sh (.list ds))).set i (.sh (.list ds)))
    | _ => none
section
variable {B : Bs} {σ : L2.St} {H : Hp} {τ : Te} {G : Hp} {x : V} {i : Nat}
/-- a slot is given frozen data -/
theorem Rp.setSh (R : Rp B σ H τ G) {d : PyData} (h : Dp B.K G x d) : Rp B (σ.set i (some x)) H (τ.set i (.sh d)) G where
  gh := R.gh
  g0 := R.g0
  nw := R.nw
  kp := R.kp
  da := R.da
  dr := R.dr
  sl := fun j s' e => by
    have nown : ∀ p, OwnAt (σ.set i (some x)) (τ.set i (.sh d)) p → OwnAt σ τ p := fun p ⟨k, hk, e⟩ => by
      obtain ⟨h1, h2⟩ := Own.of_set (fun k l c z => by cases z) hk
      rw [List.getElem?_set_ne (fun z => h2 z.symm)] at e
      exact ⟨k, h1, e⟩
    by_cases q : i = j
    · subst q
      by_cases hl : i < τ.length
      · rw [List.getElem?_set_self hl] at e
        cases e
        exact ⟨x, List.getElem?_set_self (by rw [R.ln]; exact hl), h⟩
      · rw [List.getElem?_eq_none (by simpa using hl)] at e
        cases e
    · rw [List.getElem?_set_ne q] at e
      exact (R.sl j s' e).move (List.getElem?_set_ne q) (Sub.refl _) (fun _ _ _ _ h => h) (fun _ _ _ h => h) fun p c _ n h => ⟨h, fun z => n (nown p z)⟩
  ds := fun a b p ha hb ea eb => by
    obtain ⟨h1, h2⟩ := Own.of_set (fun k l c z => by cases z) ha
    obtain ⟨h3, h4⟩ := Own.of_set (fun k l c z => by cases z) hb
    rw [List.getElem?_set_ne (fun z => h2 z.symm)] at ea
    rw [List.getElem?_set_ne (fun z => h4 z.symm)] at eb
    exact R.ds a b p h1 h3 ea eb
  ln := by rw [List.length_set, List.length_set]; exact R.ln
/-- a slot takes over what is new -/
theorem Rp.setOw (R : Rp B σ H τ G) {c : Ct} (h : RR B σ H τ G x (.tmp c)) : Rp B (σ.set i (some x)) H (τ.set i (.ct .ow false c)) G := by
  obtain ⟨p, o, rfl, e1, rc, g, h0, n, nr⟩ := h
  have own : ∀ k, Own (τ.set i (.ct .ow false c)) k → (k = i ∧ i < τ.length) ∨ (k ≠ i ∧ Own τ k) := fun k hk => by
    obtain ⟨a, b, c', e, hh⟩ := hk
    by_cases q : i = k
    · subst q
      by_cases hl : i < τ.length
      · exact .inl ⟨rfl, hl⟩
      · rw [List.getElem?_eq_none (by simpa using hl)] at e
        cases e
    · rw [List.getElem?_set_ne q] at e
      exact .inr ⟨fun z => q z.symm, a, b, c', e, hh⟩
  have at_ : ∀ k q, Own (τ.set i (.ct .ow false c)) k → (σ.set i (some (.ref p)))[k]? = some (some (.ref q)) → (k = i ∧ q = p) ∨ (k ≠ i ∧ Own τ k ∧ σ[k]? = some (some (.ref q))) := fun k q hk e => by
    rcases own k hk with ⟨rfl, hl⟩ | ⟨h1, h2⟩
    · rw [List.getElem?_set_self (by rw [R.ln]; exact hl)] at e
      cases e
      exact .inl ⟨rfl, rfl⟩
    · rw [List.getElem?_set_ne (fun z => h1 z.symm)] at e
      exact .inr ⟨h1, h2, e⟩
  refine ⟨R.gh, R.g0, R.nw, R.kp, R.da, R.dr, fun j s' e => ?_, fun a b q ha hb ea eb => ?_, by rw [List.length_set, List.length_set]; exact R.ln⟩
  · by_cases q : i = j
    · subst q
      by_cases hl : i < τ.length
      · rw [List.getElem?_set_self hl] at e
        cases e
        exact ⟨p, o, List.getElem?_set_self (by rw [R.ln]; exact hl), e1, rc, g, h0⟩
      · rw [List.getElem?_eq_none (by simpa using hl)] at e
        cases e
    · rw [List.getElem?_set_ne q] at e
      have z := R.sl j s' e
      have es : (σ.set i (some (V.ref p)))[j]? = σ[j]? := List.getElem?_set_ne q
      cases s' with
      | nv o =>
        cases o with
        | none => trivial
        | some x =>
          cases x with
          | e x =>
            obtain ⟨a, C, d, a0, a1, a2⟩ := z
            exact ⟨a, C, d, a0, es.trans a1, a2⟩
          | d kd =>
            obtain ⟨p, od, ks, a0, an, a1, a2⟩ := z
            exact ⟨p, od, ks, a0, an, es.trans a1, a2⟩
      | sh d =>
        obtain ⟨v, a1, a2⟩ := z
        exact ⟨v, es.trans a1, a2⟩
      | ct k l c' =>
        cases k with
        | ow =>
          obtain ⟨p', o', a1, a2⟩ := z
          exact ⟨p', o', es.trans a1, a2⟩
        | io =>
          obtain ⟨p', o', a1, a2⟩ := z
          exact ⟨p', o', es.trans a1, a2⟩
        | ro =>
          obtain ⟨p', a1, z⟩ := z
          refine ⟨p', es.trans a1, ?_⟩
          rcases z with z | ⟨z, n', hm⟩
          · exact .inl z
          · by_cases hp : p' = p
            · subst hp
              exact .inl (nr j l c' e a1)
            · refine .inr ⟨z, fun ⟨k, hk, ek⟩ => ?_, hm⟩
              rcases at_ k p' hk ek with ⟨_, h2⟩ | ⟨_, h2, h3⟩
              · exact hp h2
              · exact n' ⟨k, h2, h3⟩
  · rcases at_ a q ha ea with ⟨h1, h2⟩ | ⟨h1, h2, h3⟩
    · rcases at_ b q hb eb with ⟨h4, h5⟩ | ⟨h4, h5, h6⟩
      · rw [h1, h4]
      · subst h2
        exact absurd ⟨b, h5, h6⟩ n
    · rcases at_ b q hb eb with ⟨h4, h5⟩ | ⟨h4, h5, h6⟩
      · subst h5
        exact absurd ⟨a, h2, h3⟩ n
      · exact R.ds a b q h2 h5 h3 h6
theorem sto_ok (R : Rp B σ H τ G) {r : RV} {τ' : Te} (h : RR B σ H τ G x r) (e : sto i r τ = some τ') : ∃ G', Sub G G' ∧ Rp B (σ.set i (some x)) H τ' G' := by
  unfold sto at e
  by_cases lk : isLk τ[i]? = true
  · rw [if_pos lk] at e
    cases e
  · rw [if_neg lk] at e
    cases r with
    | val d =>
      cases e
      exact ⟨G, Sub.refl _, R.setSh h⟩
    | tmp c =>
      cases e
      exact ⟨G, Sub.refl _, R.setOw h⟩
    | slot j =>
      have e0 : (match τ[j]? with | some (.sh d) => some (τ.set i (.sh d)) | some (.ct .ow false (.L ds)) => some ((τ.set j (.sh (.list ds))).set i (.sh (.list ds))) | _ => none) = some τ' := e
      have f1 : ∀ d τ1, frz1 (.slot j) τ = some (d, τ1) → τ' = τ1.set i (.sh d) → ∃ G', Sub G G' ∧ Rp B (σ.set i (some x)) H τ' G' := fun d τ1 a b => by
        obtain ⟨G', s, R', hd⟩ := frz1_ok R h a
        subst b
        exact ⟨G', s, R'.setSh hd⟩
      cases q : τ[j]? with
      | none =>
        rw [q] at e0
        cases e0
      | some s =>
        rw [q] at e0
        cases s with
        | nv o => cases e0
        | sh d =>
          cases e0
          exact f1 d τ (by unfold frz1; simp only [q]) rfl
        | ct k l c =>
          cases k with
          | io => cases e0
          | ro => cases e0
          | ow =>
            cases l with
            | true => cases e0
            | false =>
              cases c with
              | D c kd => cases e0
              | L ds =>
                cases e0
                exact f1 (.list ds) _ (by unfold frz1; simp only [q]) rfl
end
section
variable {X : Cx} {B : Bs} {st : Stmt} {sts rest : List Stmt} {e a b c : Expr} {pos : Pos} {Fa : FE} {Ta : FT} {F F' : FS}
def stoS (i : Nat) (r : RV) (τ : Te) : Res SR := match sto i r τ with
  | some τ' => .ok .nx τ'
  | none => .stuck
def fSet (i : Nat) (F : FE) : FS := fun τ => (F τ).bind fun r τ1 => stoS i r τ1
theorem stoS_ok {σ : L2.St} {H : Hp} {τ : Te} {G : Hp} {x : V} {i : Nat} {r : RV} {D : Ends} (R : Rp B σ H τ G) (h : RR B σ H τ G x r) (q : PS1 B G D (stoS i r τ)) : D.nx (σ.set i (some x)) H := by
  unfold stoS at q
  cases e : sto i r τ with
  | none =>
    rw [e] at q
    exact q.elim
  | some τ' =>
    rw [e] at q
    obtain ⟨G', s, R'⟩ := sto_ok (i := i) R h e
    exact q _ _ G' s R'
theorem xs_set {i : Nat} {x : Str} {pos' : Pos} (hN : X.N.Nodup) (hi : X.N[i]? = some x) (hx : Loc X.env.scope x) (he : PE X e (tE B Fa)) (hs : swapsWith e (some (.Name x pos')) pos.line X.env = pure false := by rfl)
    (hf : X.fn x = true ∨ X.env.scope.names.lookup x = some .local := by first | exact .inl rfl | exact .inr rfl | assumption) : PS X (.Assign [.Name x pos'] e pos) (tS B (fSet i Fa)) := by
  refine PS.wkt (ps_set hN hi hx he hs hf) ?_
  rintro D σ H ⟨τ, G, R, h⟩
  exact ⟨τ, G, R, Po.bindS h fun r τ1 x H1 G1 _ _ R1 rr h => stoS_ok R1 rr h⟩
/-! x op= e, ints and texts -/
def fAug (i : Nat) (g : PyData → PyData → O) (F : FE) : FS := fun τ => match τ[i]? with
  | some (.sh d) => (F τ).bind fun r τ1 => match look τ1 r with
    | some e => match g d e with
      | .v z => stoS i (.val z) τ1
      | _ => .stuck
    | none => .stuck
  | _ => .stuck
/-- scalars do not lean on the heap -/
def flat : PyData → Bool
  | .none | .bool _ | .int _ | .str _ => true
  | _ => false
def OpF (r : TIp) (g : PyData → PyData → O) : Prop := ∀ K H G x y d e z (Q : VK), Lk K H G x d → Lk K H G y e → g d e = .v z → (∀ v, Dp K G v z → Q v H) → r x y H Q
theorem xs_aug {i : Nat} {x : Str} {op : Operator} {ti : TIp} {pos' : Pos} {g : PyData → PyData → O} (hN : X.N.Nodup) (hi : X.N[i]? = some x) (hx : Loc X.env.scope x) (he : PE X e (tE B Fa)) (ho : PIp X op ti) (o : OpF ti g)
    (hf : X.fn x = true ∨ X.env.scope.names.lookup x = some .local := by first | exact .inl rfl | exact .inr rfl | assumption) : PS X (.AugAssign (.Name x pos') op e pos) (tS B (fAug i g Fa)) := by
  refine PS.wkt (ps_aug hN hi hx he ho hf) ?_
  rintro D σ H ⟨τ, G, R, h⟩
  unfold fAug at h
  cases q : τ[i]? with
  | none =>
    rw [q] at h
    exact h.elim
  | some s =>
    rw [q] at h
    cases s with
    | nv o => exact h.elim
    | ct k l c => exact h.elim
    | sh d =>
      obtain ⟨v, e1, e2⟩ := R.sl i _ q
      refine ⟨v, e1, τ, G, R, Po.bindS h fun r τ1 y H1 G1 _ s1 R1 rr h => ?_⟩
      revert h
      cases q1 : look τ1 r with
      | none => exact fun h => h.elim
      | some e =>
        dsimp only
        cases q2 : g d e with
        | v z => exact fun h => o B.K H1 G1 v y d e z _ (Lk.of R1.gh (Dp.sub s1 e2)) (look_ok R1 rr q1) q2 fun w hw => stoS_ok (r := .val z) R1 hw h
        | _ => exact fun h => h.elim
end
end T
end

section
set_option Elab.async false
set_option linter.all false
set_option maxRecDepth 100000
set_option maxHeartbeats 2000000
/-! T6: stores into lists, methods that change a list, targets, loops, comprehensions. -/
namespace T
open PySem PySem.Spec PyProof.Rows L2 Z
section
variable {B : Bs} {σ : L2.St} {H : Hp} {τ : Te} {G : Hp} {x : V} {i : Nat}
theorem Rp.ownEq (R : Rp B σ H τ G) {k : Kd} {l : Bool} {c : Ct} (e : τ[i]? = some (.ct k l c)) (hk : k ≠ .ro) : ∃ p o, σ[i]? = some (some (.ref p)) ∧ H p = some o ∧ RC B.K G o c ∧ G p = none := by
  have z := R.sl i _ e
  cases k with
  | ow =>
    obtain ⟨p, o, e1, e2, rc, g, _⟩ := z
    exact ⟨p, o, e1, e2, rc, g⟩
  | io =>
    obtain ⟨p, o, e1, e2, rc, g, _⟩ := z
    exact ⟨p, o, e1, e2, rc, g⟩
  | ro => exact absurd rfl hk
theorem Own.same {τ : Te} {i j : Nat} {k : Kd} {l l' : Bool} {c c' : Ct} (e : τ[i]? = some (.ct k l c)) (hk : k ≠ .ro) : Own (τ.set i (.ct k l' c')) j ↔ Own τ j := by
  by_cases q : i = j
  · subst q
    have hl : i < τ.length := (List.getElem?_eq_some_iff.mp e).1
    exact ⟨fun _ => ⟨_, _, _, e, hk⟩, fun _ => ⟨_, _, _, List.getElem?_set_self hl, hk⟩⟩
  · unfold Own
    rw [List.getElem?_set_ne q]
/-- what a slot owns is written -/
theorem Rp.wr (R : Rp B σ H τ G) {k : Kd} {l l' : Bool} {c c' : Ct} (e : τ[i]? = some (.ct k l c)) (hk : k ≠ .ro) {p : Addr} (ep : σ[i]? = some (some (.ref p))) {H2 : Hp} {o : HO} (kp : Kp [p] H H2) (e2 : H2 p = some o) (rc : RC B.K G o c') :
    Rp B σ H2 (τ.set i (.ct k l' c')) G := by
  have oi : Own τ i := ⟨_, _, _, e, hk⟩
  have hl : i < τ.length := (List.getElem?_eq_some_iff.mp e).1
  obtain ⟨q, o1, e3, e4, gp, h0⟩ := R.own oi
  rw [ep] at e3
  cases e3
  have oa : ∀ q, OwnAt σ (τ.set i (.ct k l' c')) q ↔ OwnAt σ τ q := fun q => by
    constructor
    · rintro ⟨j, hj, ej⟩
      exact ⟨j, (Own.same e hk).mp hj, ej⟩
    · rintro ⟨j, hj, ej⟩
      exact ⟨j, (Own.same e hk).mpr hj, ej⟩
  refine ⟨fun a u ea => ?_, R.g0, R.nw, fun b u eb nb => ?_, fun a ha z => ?_, fun a ha z => ?_, fun j s ej => ?_, fun a b q ha hb => R.ds a b q ((Own.same e hk).mp ha) ((Own.same e hk).mp hb), by rw [List.length_set]; exact R.ln⟩
  · exact kp a u (R.gh a u ea) (by simpa using ne_of_none ea gp)
  · have z := R.kp b u eb nb
    refine kp b u z fun hb => ?_
    have hb := List.mem_singleton.mp hb
    subst hb
    rcases h0 with h0 | h0
    · rw [h0] at eb
      cases eb
    · exact nb (List.mem_map.mpr ⟨_, h0, rfl⟩)
  · by_cases q : a = p
    · subst q
      rw [e2] at z
      cases z
    · cases ea : H a with
      | none => exact R.da a ha ea
      | some u =>
        rw [kp a u ea (by simpa using q)] at z
        cases z
  · by_cases q : a = p
    · subst q
      rw [e2] at z
      cases z
    · cases ea : H a with
      | none => exact R.dr a ha ea
      | some u =>
        rw [kp a u ea (by simpa using q)] at z
        cases z
  · by_cases q : i = j
    · subst q
      rw [List.getElem?_set_self hl] at ej
      cases ej
      cases k with
      | ow =>
        obtain ⟨p', o', a1, a2, a3, a4, a5⟩ := R.sl i _ e
        rw [ep] at a1
        cases a1
        exact ⟨p, o, ep, e2, rc, gp, a5⟩
      | io =>
        obtain ⟨p', o', a1, a2, a3, a4, a5⟩ := R.sl i _ e
        rw [ep] at a1
        cases a1
        exact ⟨p, o, ep, e2, rc, gp, a5⟩
      | ro => exact absurd rfl hk
    · rw [List.getElem?_set_ne q] at ej
      refine (R.sl j s ej).move rfl (Sub.refl _) (fun r u er hs eu => ?_) (fun _ _ _ h => h) fun r c _ n h => ⟨?_, fun z => n ((oa r).mp z)⟩
      · obtain ⟨k', l2, c2, rfl, hk'⟩ := hs
        refine kp r u eu fun z => ?_
        have z := List.mem_singleton.mp z
        subst z
        exact q (R.ds _ _ _ oi ⟨_, _, _, ej, hk'⟩ ep er)
      · exact h.kp kp fun z => n (by rw [List.mem_singleton.mp z]; exact ⟨i, oi, ep⟩)
end
/-! ### methods that change a list -/
def MuR (K : Fg) (r : V → List V → Hp → VK → Prop) (g : List PyData → List PyData → Option (List PyData × PyData)) : Prop := ∀ H G l vs xs ds as ds' d (Q : VK), Sub G H → H l = some (.lst vs) → DpAll K G vs ds → DpAll K G xs as → g ds as = some (ds', d) →
  (∀ H2 vs' v, Kp [l] H H2 → H2 l = some (.lst vs') → DpAll K G vs' ds' → Dp K G v d → Q v H2) → r (.ref l) xs H Q
/-- the list of slot i, as it stands -/
def ownL (τ : Te) (i : Nat) : Option (Kd × List PyData) := match τ[i]? with
  | some (.ct .ow false (.L ds)) => some (.ow, ds)
  | some (.ct .io false (.L ds)) => some (.io, ds)
  | _ => none
theorem ownL_ok {τ : Te} {i : Nat} {k : Kd} {ds : List PyData} (h : ownL τ i = some (k, ds)) : τ[i]? = some (.ct k false (.L ds)) ∧ k ≠ .ro := by
  unfold ownL at h
  split at h
  · cases h
    exact ⟨by assumption, by decide⟩
  · cases h
    exact ⟨by assumption, by decide⟩
  · cases h
def fMut (i : Nat) (g : List PyData → List PyData → Option (List PyData × PyData)) (A : FA) : FE := fun τ => match ownL τ i with
  | some _ => (A τ).bind fun rs τ1 => match frzs τ1 rs with
    | some (as, τ2) => match ownL τ2 i with
      | some (k, ds) => match g ds as with
        | some (ds', d) => if flat d = true then .ok (.val d) (τ2.set i (.ct k false (.L ds'))) else .stuck
        | none => .stuck
      | none => .stuck
    | none => .stuck
  | none => .stuck
theorem Rp.listAt {B : Bs} {σ : L2.St} {H : Hp} {τ : Te} {G : Hp} {i : Nat} {k : Kd} {ds : List PyData} (R : Rp B σ H τ G) (h : ownL τ i = some (k, ds)) : ∃ p vs, σ[i]? = some (some (.ref p)) ∧ H p = some (.lst vs) ∧ DpAll B.K G vs ds := by
  obtain ⟨e, hk⟩ := ownL_ok h
  obtain ⟨p, o, e1, e2, rc, _⟩ := R.ownEq e hk
  cases o <;> try exact (show False from rc).elim
  exact ⟨p, _, e1, e2, rc⟩
section
variable {X : Cx} {B : Bs} {st : Stmt} {sts rest : List Stmt} {e a b c : Expr} {es : List Expr} {pos : Pos} {Fa Fb Fc : FE} {A : FA} {Ta : FT} {F F' : FS}
theorem mut_of {i : Nat} {r : V → List V → Hp → VK → Prop} {g : List PyData → List PyData → Option (List PyData × PyData)} (o : MuR B.K r g) {σ : L2.St} {H : Hp} {Q : VK} (h : tE B (fMut i g A) σ H Q) : tBM B.K "list" r (tE B (fVar i)) (tA B A) σ H Q := by
  obtain ⟨τ, G, R, h⟩ := h
  unfold fMut at h
  cases q : ownL τ i with
  | none =>
    rw [q] at h
    exact h.elim
  | some z =>
    obtain ⟨k0, ds0⟩ := z
    rw [q] at h
    obtain ⟨p, vs0, ep, eh, _⟩ := R.listAt q
    obtain ⟨ei, _⟩ := ownL_ok q
    refine ⟨τ, G, R, ?_⟩
    unfold fVar
    rw [ei]
    intro x H1 G1 s1 R1 rr
    have rr : σ[i]? = some (some x) := rr
    rw [ep] at rr
    cases rr
    have tyv : tyV B.K "list" (.ref p) H1 := by
      obtain ⟨p1, vs1, ep1, eh1, _⟩ := R1.listAt q
      rw [ep] at ep1
      cases ep1
      exact .inl ⟨rfl, vs1, SqL.of eh1⟩
    refine ⟨tyv, τ, G1, R1, Po.bind (Po.sub s1 h) fun rs τ1 xs H2 G2 _ _ R2 rr2 h => ?_⟩
    cases e1 : frzs τ1 rs with
    | none =>
      rw [e1] at h
      exact h.elim
    | some z =>
      obtain ⟨as, τ2⟩ := z
      rw [e1] at h
      obtain ⟨G3, s3, R3, hd⟩ := frzs_ok R2 rr2 e1
      dsimp only at h
      cases e2 : ownL τ2 i with
      | none =>
        rw [e2] at h
        exact h.elim
      | some z =>
        obtain ⟨k, ds⟩ := z
        rw [e2] at h
        dsimp only at h
        cases e3 : g ds as with
        | none =>
          rw [e3] at h
          exact h.elim
        | some z =>
          obtain ⟨ds', d⟩ := z
          rw [e3] at h
          dsimp only at h
          by_cases fl : flat d = true
          · rw [if_pos fl] at h
            obtain ⟨p2, vs2, ep2, eh2, dp2⟩ := R3.listAt e2
            rw [ep] at ep2
            cases ep2
            obtain ⟨ei2, hk⟩ := ownL_ok e2
            refine o H2 G3 p vs2 xs ds as ds' d Q R3.gh eh2 dp2 hd e3 fun H4 vs' v k4 e4 d4 dv => ?_
            exact h v H4 G3 s3 (R3.wr ei2 hk ep k4 e4 d4) dv
          · rw [if_neg fl] at h
            exact h.elim
/-- x.m(e, ..), x a slot that owns a list -/
theorem x_mut {i : Nat} {x name : Str} {id : String} {p apos : Pos} {r : V → List V → Hp → VK → Prop} {g : List PyData → List PyData → Option (List PyData × PyData)} (hK : X.K = B.K) (slot : PySem.Slot "list" name id) (hty : typeOf (.builtin id) = pure (.type "method_descriptor")) (hm : MtR X id r) (o : MuR B.K r g)
    (ho : PE X (.Name x p) (tE B (fVar i))) (ha : PA X (e :: es) (tA B A))
    (hbase : attributeBase (.Name x p) name X.env (eval (.Name x p) X.env) = eval (.Name x p) X.env := by rfl)
    (hfew : ((backTo pos (starEach (e :: es) X.env)).all (fun x => !x.1) && (backToKw pos (keywordEach [] X.env)).all (fun x => x.1.isSome)
      && decide ((e :: es).length + ([] : List Keyword).length + (if ([] : List Keyword).isEmpty then 0 else 1) < 30)) = true := by rfl)
    (hline : (apos.endLine == pos.line) = true := by rfl) (hs : starEach (e :: es) X.env = (false, eval e X.env) :: starEach es X.env := by rfl) (hplain : (backTo pos (starEach es X.env)).any (·.1) = false := by rfl) :
    PE X (.Call (.Attribute (.Name x p) name apos) (e :: es) [] pos) (tE B (fMut i g A)) :=
  PE.wkt (pe_bm PySem.F.plainAttrs_list slot hty hm ho ha hbase hfew hline hs hplain) fun σ H Q h => by
    rw [hK]
    exact mut_of o h
/-- x.m() -/
theorem x_mut0 {i : Nat} {x name : Str} {id : String} {p apos : Pos} {r : V → List V → Hp → VK → Prop} {g : List PyData → List PyData → Option (List PyData × PyData)} (hK : X.K = B.K) (slot : PySem.Slot "list" name id) (hty : typeOf (.builtin id) = pure (.type "method_descriptor")) (hm : MtR X id r) (o : MuR B.K r g)
    (ho : PE X (.Name x p) (tE B (fVar i)))
    (hbase : attributeBase (.Name x p) name X.env (eval (.Name x p) X.env) = eval (.Name x p) X.env := by rfl) (hline : (apos.endLine == pos.line) = true := by rfl) :
    PE X (.Call (.Attribute (.Name x p) name apos) [] [] pos) (tE B (fMut i g fNil)) :=
  PE.wkt (pe_bm0 PySem.F.plainAttrs_list slot hty hm ho hbase hline) fun σ H Q h => by
    rw [hK]
    have z := mut_of (A := fNil) o h
    obtain ⟨τ, G, R, z⟩ := z
    refine ⟨τ, G, R, ?_⟩
    cases q : fVar i τ with
    | ok a τ1 =>
      rw [q] at z
      intro x H1 G1 s R1 rr
      obtain ⟨t1, τ2, G2, R2, z2⟩ := z x H1 G1 s R1 rr
      exact ⟨t1, z2 [] H1 G2 (Sub.refl _) R2 .nil⟩
    | exc c f τ1 =>
      rw [q] at z
      exact z
    | stuck =>
      rw [q] at z
      exact z
def gApp : List PyData → List PyData → Option (List PyData × PyData)
  | ds, [d] => if ds.length < 100000 then some (ds ++ [d], .none) else none
  | _, _ => none
theorem m_app {K : Fg} : MuR K rAppK gApp := by
  intro H G l vs xs ds as ds' d Q s eh dv dx hg h
  unfold gApp at hg
  split at hg
  · rename_i d0
    by_cases c : ds.length < 100000
    · rw [if_pos c] at hg
      cases hg
      cases dx with
      | cons a b =>
        cases b
        refine ⟨l, vs, _, rfl, rfl, eh, by rw [dv.len]; exact c, fun H2 k e => ?_⟩
        exact h H2 _ .non k e (dv.app (.cons a .nil)) .non
    · rw [if_neg c] at hg
      cases hg
  · cases hg
def gExt : List PyData → List PyData → Option (List PyData × PyData)
  | ds, [.list es] => if ds.length + es.length ≤ 100000 then some (ds ++ es, .none) else none
  | _, _ => none
def gRev : List PyData → List PyData → Option (List PyData × PyData)
  | ds, [] => some (ds.reverse, .none)
  | _, _ => none
theorem m_rev {K : Fg} : MuR K rReverse gRev := by
  intro H G l vs xs ds as ds' d Q s eh dv dx hg h
  unfold gRev at hg
  split at hg
  · cases hg
    cases dx
    refine ⟨l, vs, rfl, rfl, eh, ?_⟩
    exact h _ _ .non (Kp.put (by simp)) upd_same dv.rev .non
  · cases hg
def gPop : List PyData → List PyData → Option (List PyData × PyData)
  | ds, [] => match ds[ds.length - 1]? with
    | some d => some (ds.dropLast, d)
    | none => none
  | _, _ => none
/-! ### x[i] = v -/
def fSetIx (j : Nat) (Fv Fi : FE) : FS := fun τ => (Fv τ).bind fun rv τ1 => (hold rv τ1).bind fun rv τ2 => match frz1 rv τ2 with
  | some (d, τ3) => match ownL τ3 j with
    | some _ => (Fi τ3).bind fun ri τ4 => match look τ4 ri with
      | some (.int k) => match ownL τ4 j with
        | some (kd, ds) => match ixN ds.length k with
          | some n => .ok .nx (τ4.set j (.ct kd false (.L (ds.set n d))))
          | none => .stuck
        | none => .stuck
      | _ => .stuck
    | none => .stuck
  | none => .stuck
theorem hold_okS {B : Bs} {σ : L2.St} {H : Hp} {τ : Te} {G : Hp} {x : V} {D : Ends} {r : RV} {k : RV → Te → Res SR} (R : Rp B σ H τ G) (h : RR B σ H τ G x r) (q : PS1 B G D ((hold r τ).bind k)) :
    ∃ r' τ' G', hold r τ = .ok r' τ' ∧ Sub G G' ∧ Rp B σ H τ' G' ∧ RR B σ H τ' G' x r' ∧ NoTmp r' ∧ PS1 B G' D (k r' τ') := by
  cases r with
  | val d => exact ⟨_, _, G, rfl, Sub.refl _, R, h, nt_val, q⟩
  | slot i => exact ⟨_, _, G, rfl, Sub.refl _, R, h, nt_slot, q⟩
  | tmp c =>
    cases c with
    | D c kd => exact (show False from q).elim
    | L ds =>
      obtain ⟨p, o, rfl, e1, rc, g, h0, n, _⟩ := h
      cases o <;> try exact (show False from rc).elim
      rename_i vs
      exact ⟨_, _, upd G p (.lst vs), rfl, Sub.upd g, R.frz e1 h0 n g, .lst (SqL.of upd_same) (DpAll.sub (Sub.upd g) rc), nt_val, PS1.sub (Sub.upd g) q⟩
theorem xs_setIx {j : Nat} {x : Str} {px p2 : Pos} (ho : PE X (.Name x px) (tE B (fVar j))) (hv : PE X e (tE B Fa)) (hi : PE X a (tE B Fb)) (hg : PG X (.Subscript (.Name x px) a p2) (gSub (tE B (fVar j)) (tE B Fb) rSetK))
    (hs : swapsWithSole [.Subscript (.Name x px) a p2] e pos.line X.env = pure false := by rfl) (hw : swappedStores [.Subscript (.Name x px) a p2] e X.env = pure none := by rfl) :
    PS X (.Assign [.Subscript (.Name x px) a p2] e pos) (tS B (fSetIx j Fa Fb)) := by
  refine PS.wkt (ps_asg hv hg hs hw) ?_
  rintro D σ H ⟨τ, G, R, h⟩
  refine ⟨τ, G, R, Po.bindS h fun r τ1 v H1 G1 _ _ R1 rr h => ?_⟩
  obtain ⟨rv, τ2, G2, _, _, R2, rr, nt, h⟩ := hold_okS R1 rr h
  cases e1 : frz1 rv τ2 with
  | none =>
    rw [e1] at h
    exact h.elim
  | some z =>
    obtain ⟨d, τ3⟩ := z
    rw [e1] at h
    dsimp only at h
    obtain ⟨G3, s3, R3, hd⟩ := frz1_ok R2 rr e1
    cases e2 : ownL τ3 j with
    | none =>
      rw [e2] at h
      exact h.elim
    | some z =>
      rw [e2] at h
      dsimp only at h
      obtain ⟨p, vs, ep, _⟩ := R3.listAt e2
      refine ⟨τ3, G3, R3, ?_⟩
      unfold fVar
      rw [(ownL_ok e2).1]
      intro o H4 G4 s4 R4 ro
      have ro : σ[j]? = some (some o) := ro
      rw [ep] at ro
      cases ro
      refine ⟨τ3, G4, R4, Po.bindS (PS1.sub (s3.trans s4) h) fun ri τ5 i H5 G5 _ s5 R5 rri h => ?_⟩
      revert h
      cases e3 : look τ5 ri with
      | none => exact fun h => h.elim
      | some y =>
        cases y with
        | int k =>
          dsimp only
          intro h
          have ei := (look_ok R5 rri e3).int
          subst ei
          cases e4 : ownL τ5 j with
          | none =>
            rw [e4] at h
            exact h.elim
          | some z =>
            obtain ⟨kd, ds⟩ := z
            rw [e4] at h
            dsimp only at h
            cases e5 : ixN ds.length k with
            | none =>
              rw [e5] at h
              exact h.elim
            | some n =>
              rw [e5] at h
              obtain ⟨p5, vs5, ep5, eh5, dp5⟩ := R5.listAt e4
              rw [ep] at ep5
              cases ep5
              obtain ⟨ej, hk⟩ := ownL_ok e4
              refine ⟨p, vs5, k, n, rfl, rfl, eh5, by rw [dp5.len]; exact e5, fun H6 k6 e6 => ?_⟩
              exact h σ H6 G5 (Sub.refl _) (R5.wr ej hk ep k6 e6 (dp5.set n (Dp.sub (s4.trans s5) hd)))
        | _ => exact fun h => h.elim
end
end T
end

section
set_option Elab.async false
set_option linter.all false
set_option maxRecDepth 100000
set_option maxHeartbeats 2000000
/-! T7: targets, loops, comprehensions. -/
namespace T
open PySem PySem.Spec PyProof.Rows L2 Z
abbrev FG := PyData → Te → Option Te
/-- a target: what is stored where -/
def GG (B : Bs) (is : List Nat) (g : TG) (F : FG) : Prop := ∀ v d σ H τ G τ' (Q : L2.St → Hp → Prop), Rp B σ H τ G → Dp B.K G v d → F d τ = some τ' → (∀ σ', Rp B σ' H τ' G → (∀ j, j ∉ is → σ'[j]? = σ[j]?) → σ'.length = σ.length → Q σ' H) → g v σ H Q
def GGs (B : Bs) (is : List Nat) (g : TGs) (F : List PyData → Te → Option Te) : Prop := ∀ vs ds σ H τ G τ' (Q : L2.St → Hp → Prop), Rp B σ H τ G → DpAll B.K G vs ds → F ds τ = some τ' → (∀ σ', Rp B σ' H τ' G → (∀ j, j ∉ is → σ'[j]? = σ[j]?) → σ'.length = σ.length → Q σ' H) → g vs σ H Q
def gN (i : Nat) : FG := fun d τ => sto i (.val d) τ
def gNi : List PyData → Te → Option Te
  | [], τ => some τ
  | _, _ => none
def gCo (F : FG) (Fs : List PyData → Te → Option Te) : List PyData → Te → Option Te
  | d :: ds, τ => match F d τ with
    | some τ1 => Fs ds τ1
    | none => none
  | _, _ => none
def gTu (n : Nat) (Fs : List PyData → Te → Option Te) : FG
  | .tuple ds, τ => if ds.length = n then Fs ds τ else none
  | _, _ => none
section
variable {B : Bs}
theorem gg_name {i : Nat} : GG B [i] (gName i) (gN i) := by
  intro v d σ H τ G τ' Q R hd e h
  unfold gN sto at e
  by_cases lk : isLk τ[i]? = true
  · rw [if_pos lk] at e
    cases e
  · rw [if_neg lk] at e
    cases e
    exact h _ (R.setSh hd) (fun j hj => List.getElem?_set_ne (fun z => hj (by simp [z]))) List.length_set
theorem ggs_nil : GGs B [] gNil gNi := by
  intro vs ds σ H τ G τ' Q R hd e h
  cases hd with
  | nil =>
    cases e
    exact ⟨rfl, h σ R (fun _ _ => rfl) rfl⟩
  | cons a b => cases e
theorem ggs_cons {is js : List Nat} {g : TG} {gs : TGs} {F : FG} {Fs : List PyData → Te → Option Te} (a : GG B is g F) (b : GGs B js gs Fs) : GGs B (is ++ js) (gCons g gs) (gCo F Fs) := by
  intro vs ds σ H τ G τ' Q R hd e h
  cases hd with
  | nil => cases e
  | cons d1 d2 =>
    rename_i v vs d ds
    have e0 : (match F d τ with | some τ1 => Fs ds τ1 | none => none) = some τ' := e
    cases q : F d τ with
    | none =>
      rw [q] at e0
      cases e0
    | some τ1 =>
      rw [q] at e0
      refine ⟨v, vs, rfl, a v d σ H τ G τ1 _ R d1 q fun σ1 R1 h1 l1 => ?_⟩
      refine b vs ds σ1 H τ1 G τ' _ R1 d2 e0 fun σ2 R2 h2 l2 => h σ2 R2 (fun j hj => ?_) (l2.trans l1)
      rw [List.mem_append, not_or] at hj
      rw [h2 j hj.2, h1 j hj.1]
theorem gg_tup {is : List Nat} {n : Nat} {gs : TGs} {Fs : List PyData → Te → Option Te} {K : Fg} (hK : K = B.K) (b : GGs B is gs Fs) : GG B is (gTup K n gs) (gTu n Fs) := by
  subst hK
  intro v d σ H τ G τ' Q R hd e h
  cases hd with
  | tup hs ha =>
    rename_i a xs ds
    have e0 : (if ds.length = n then Fs ds τ else none) = some τ' := e
    by_cases c : ds.length = n
    · rw [if_pos c] at e0
      exact ⟨a, xs, rfl, SqT.sub R.gh hs, by rw [ha.len]; exact c, b xs ds σ H τ G τ' Q R ha e0 h⟩
    · rw [if_neg c] at e0
      cases e0
  | _ => cases e
end
/-! ### loops -/
def loopF (g : FG) (b : FS) : List PyData → Te → Res SR
  | [], τ => .ok .nx τ
  | d :: ds, τ => match g d τ with
    | none => .stuck
    | some τ1 => match b τ1 with
      | .ok .nx τ2 => loopF g b ds τ2
      | .ok .ct τ2 => loopF g b ds τ2
      | .ok .bk τ2 => .ok .nx τ2
      | r => r
abbrev FI := Te → Res (List PyData)
def fFor (S : FI) (g : FG) (b : FS) : FS := fun τ => (S τ).bind fun ds τ1 => loopF g b ds τ1
/-- an item comes: as it stands, or as a new pair -/
def IY (K : Fg) (G : Hp) (d : PyData) (H : Hp) (x : V) (H' : Hp) : Prop := (H' = H ∧ Dp K G x d) ∨ ∃ T a b da db, x = .ref T ∧ H T = none ∧ H' = upd H T (.tup [a, b]) ∧ d = .tuple [da, db] ∧ Dp K G a da ∧ Dp K G b db
def RI (B : Bs) (σ : L2.St) (H : Hp) (τ : Te) (G : Hp) (J : It) (ds : List PyData) : Prop := Walk J ds.length (fun H => Sub G H ∧ Kp B.as B.H0 H) fun i H x H' => ∃ d, ds[i]? = some d ∧ IY B.K G d H x H'
def tI (B : Bs) (S : FI) : TI := fun σ H R => ∃ τ G, Rp B σ H τ G ∧ Po (RI B) B σ G (fun J H' => R J H') (S τ)
theorem IY.ok {B : Bs} {σ : L2.St} {H H' : Hp} {τ : Te} {G G1 : Hp} {d : PyData} {x : V} (R : Rp B σ H τ G1) (s : Sub G G1) (h : IY B.K G d H x H') : ∃ G2, Sub G1 G2 ∧ Rp B σ H' τ G2 ∧ Dp B.K G2 x d := by
  rcases h with ⟨rfl, hd⟩ | ⟨T, a, b, da, db, rfl, hT, rfl, rfl, h1, h2⟩
  · exact ⟨G1, Sub.refl _, R, Dp.sub s hd⟩
  · have g := R.g hT
    have s2 : Sub G1 (upd G1 T (.tup [a, b])) := Sub.upd g
    exact ⟨_, s2, (R.more (Kp.new hT)).frz upd_same (R.h0 hT) (R.notOwn hT) g, .tup (SqT.of upd_same) (.cons (Dp.sub (s.trans s2) h1) (.cons (Dp.sub (s.trans s2) h2) .nil))⟩
section
variable {X : Cx} {B : Bs} {st : Stmt} {sts rest body : List Stmt} {e a b c iter tg : Expr} {es : List Expr} {pos : Pos} {Fa Fb Fc : FE} {A : FA} {Ta : FT} {F F' : FS} {S : FI} {gt : TG} {g : FG} {fb : FS} {is : List Nat}
theorem loop_of {J : It} {ds : List PyData} {G0 : Hp} {D : Ends} {σ : L2.St} {H : Hp} {τ : Te} {G : Hp} (gg : GG B is gt g) (w : RI B σ H τ G0 J ds) (s0 : Sub G0 G) (R : Rp B σ H τ G) (h : PS1 B G D (loopF g fb ds τ)) :
    ∃ W : Nat → Nat → L2.St → Hp → Prop, (∃ m, W 0 m σ H) ∧ ∀ i m σ H, W i m σ H →
      (J.stop i H ∧ D.nx σ H) ∨ (J.go i H ∧ ∃ N : L2.St → Hp → Prop, (∀ σ' H', N σ' H' → ∃ m', m' < m ∧ W (i + 1) m' σ' H') ∧ ∀ x H', J.yld i H x H' → gt x σ H' fun σ2 H2 => tS B fb { D with nx := N, ct := N, bk := D.nx } σ2 H2) := by
  refine for_it w (fun i σ H => ∃ τ G, Sub G0 G ∧ Rp B σ H τ G ∧ PS1 B G D (loopF g fb (ds.drop i) τ)) ⟨τ, G, s0, R, h⟩ ?_ ?_ ?_
  · rintro i σ H _ ⟨τ, G, s, R, _⟩
    exact ⟨s.trans R.gh, R.kp⟩
  · rintro i x σ H H' hi ⟨τ, G, s, R, h⟩ ⟨d, hd, y⟩
    have e : ds.drop i = d :: ds.drop (i + 1) := by
      obtain ⟨h1, h2⟩ := List.getElem?_eq_some_iff.mp hd
      rw [List.drop_eq_getElem_cons h1, h2]
    rw [e] at h
    obtain ⟨G2, s2, R2, hx⟩ := IY.ok R s y
    have h0 : PS1 B G D (match g d τ with | none => .stuck | some τ1 => match fb τ1 with | .ok .nx τ2 => loopF g fb (ds.drop (i + 1)) τ2 | .ok .ct τ2 => loopF g fb (ds.drop (i + 1)) τ2 | .ok .bk τ2 => .ok .nx τ2 | r => r) := h
    cases q : g d τ with
    | none =>
      rw [q] at h0
      exact h0.elim
    | some τ1 =>
      rw [q] at h0
      dsimp only at h0
      refine gg x d σ H' τ G2 τ1 _ R2 hx q fun σ1 R1 _ _ => ⟨τ1, G2, R1, ?_⟩
      revert h0
      generalize fb τ1 = r
      intro h0
      cases r with
      | ok r τ2 =>
        cases r with
        | nx => exact fun σ' H2 G' s' R' => ⟨τ2, G', (s.trans s2).trans s', R', PS1.sub (s2.trans s') h0⟩
        | ct => exact fun σ' H2 G' s' R' => ⟨τ2, G', (s.trans s2).trans s', R', PS1.sub (s2.trans s') h0⟩
        | bk => exact PS1.sub s2 h0
        | rt r => exact PS1.sub s2 h0
      | exc c f τ2 => exact PS1.sub s2 h0
      | stuck => exact h0
  · rintro σ H ⟨τ, G, s, R, h⟩
    rw [List.drop_length] at h
    exact h σ H G (Sub.refl _) R
theorem xs_for (hp : PassesOwn (model X.prog X.w) X.A X.env X.xe) (hc : X.calm = true) (hi : PI X tg iter (tI B S)) (hg : PG X tg gt) (gg : GG B is gt g) (hb : PSs X body (tS B fb))
    (hs : ∀ x, foldedSetIterable iter X.env x = pure x := by intro _; rfl) : PS X (.For tg iter body [] pos) (tS B (fFor S g fb)) := by
  refine PS.wkt (ps_for hp hc hi hg hb hs) ?_
  rintro D σ H ⟨τ, G, R, h⟩
  refine ⟨τ, G, R, Po.bindS h fun ds τ1 J H1 G1 _ _ R1 w h => ?_⟩
  exact loop_of gg w (Sub.refl _) R1 h
/-! what is walked -/
theorem PI.wkt {t t' : TI} (h : PI X tg e t) (i : ∀ σ H R, t' σ H R → t σ H R) : PI X tg e t' := ⟨fun pins s σ H R I q => h.run pins s σ H R I (i σ H R q)⟩
theorem PI.or {t t' : TI} (h : PI X tg e t) (h' : PI X tg e t') : PI X tg e (fun σ H R => t σ H R ∨ t' σ H R) := ⟨fun pins s σ H R I q => q.elim (h.run pins s σ H R I) (h'.run pins s σ H R I)⟩
/-- the items of a value -/
def itemsOf : PyData → Option (List PyData)
  | .list ds => some ds
  | .tuple ds => some ds
  | .str z => some (z.cps.toList.map fun c => .str ⟨#[c]⟩)
  | _ => none
/-- a reckoned value is frozen, and its items told -/
def fItems (Fa : FE) : FI := fun τ => (Fa τ).bind fun r τ1 => (hold r τ1).bind fun r τ2 => match frz1 r τ2 with
  | some (d, τ3) => match itemsOf d with
    | some ds => .ok ds τ3
    | none => .stuck
  | none => .stuck
theorem mem_get {α : Type} {l : List α} {i : Nat} (h : i < l.length) : ∃ x, l[i]? = some x := ⟨l[i], List.getElem?_eq_getElem h⟩
end
/-- a union of the ways a value is walked: what each of them asks is asked at the value alone -/
theorem xi_core {B : Bs} {Fa : FE} {σ : L2.St} {H : Hp} {R : It → Hp → Prop} (h : tI B (fItems Fa) σ H R) :
    tE B Fa σ H (fun x H1 => (∃ a, x = .ref a ∧ (∃ xs, SqL B.K H1 a xs) ∧ R (Itl B.K a) H1) ∨ (∃ a, x = .ref a ∧ (∃ xs, SqT B.K H1 a xs) ∧ R (Itt B.K a) H1) ∨ ∃ z, x = .str z ∧ R (Its z) H1) := by
  obtain ⟨τ, G, R0, h⟩ := h
  refine ⟨τ, G, R0, Po.bind h fun r τ1 x H1 G1 _ _ R1 rr h => ?_⟩
  have hold_okI : ∀ {k : RV → Te → Res (List PyData)}, Po (RI B) B σ G1 (fun J H' => R J H') ((hold r τ1).bind k) → ∃ r' τ' G', hold r τ1 = .ok r' τ' ∧ Sub G1 G' ∧ Rp B σ H1 τ' G' ∧ RR B σ H1 τ' G' x r' ∧ NoTmp r' ∧ Po (RI B) B σ G' (fun J H' => R J H') (k r' τ') := fun q => hold_ok R1 rr q
  obtain ⟨r2, τ2, G2, _, _, R2, rr2, nt, h⟩ := hold_okI h
  cases e1 : frz1 r2 τ2 with
  | none =>
    rw [e1] at h
    exact h.elim
  | some z =>
    obtain ⟨d, τ3⟩ := z
    rw [e1] at h
    dsimp only at h
    obtain ⟨G3, s3, R3, hd⟩ := frz1_ok R2 rr2 e1
    have h := Po.sub s3 h
    cases hd with
    | @lst a xs ds hs ha =>
      refine .inl ⟨a, rfl, ⟨xs, SqL.sub R3.gh hs⟩, h _ H1 G3 (Sub.refl _) R3 ?_⟩
      have w := walk_list (K := B.K) (a := a) (xs := xs)
      rw [ha.len] at w
      refine w.mono (fun H s => SqL.sub s.1 hs) fun i H x H' hi s y => ?_
      obtain ⟨e, hx⟩ := y
      obtain ⟨d, e2, hd⟩ := ha.getV hx
      exact ⟨d, e2, .inl ⟨e, hd⟩⟩
    | @tup a xs ds hs ha =>
      refine .inr (.inl ⟨a, rfl, ⟨xs, SqT.sub R3.gh hs⟩, h _ H1 G3 (Sub.refl _) R3 ?_⟩)
      have w := walk_tup (K := B.K) (a := a) (xs := xs)
      rw [ha.len] at w
      refine w.mono (fun H s => SqT.sub s.1 hs) fun i H x H' hi s y => ?_
      obtain ⟨e, hx⟩ := y
      obtain ⟨d, e2, hd⟩ := ha.getV hx
      exact ⟨d, e2, .inl ⟨e, hd⟩⟩
    | str z =>
      refine .inr (.inr ⟨z, rfl, h _ H1 G3 (Sub.refl _) R3 ?_⟩)
      have w := walk_str (z := z)
      have l : (z.cps.toList.map fun c => PyData.str ⟨#[c]⟩).length = z.cps.size := by simp
      unfold RI
      rw [l]
      refine w.mono (fun H s => trivial) fun i H x H' hi s y => ?_
      obtain ⟨e, c, hc, rfl⟩ := y
      exact ⟨.str ⟨#[c]⟩, by simp [hc], .inl ⟨e, .str _⟩⟩
    | non => exact h.elim
    | bl _ => exact h.elim
    | int _ => exact h.elim
section
variable {X : Cx} {B : Bs} {e a b tg : Expr} {es : List Expr} {pos p : Pos} {Fa Fb Fc : FE} {A : FA}
def iAny (K : Fg) (te : TE) : TI := fun σ H R => te σ H fun x H1 => (∃ a, x = .ref a ∧ (∃ xs, SqL K H1 a xs) ∧ R (Itl K a) H1) ∨ (∃ a, x = .ref a ∧ (∃ xs, SqT K H1 a xs) ∧ R (Itt K a) H1) ∨ ∃ z, x = .str z ∧ R (Its z) H1
theorem pi_any {te : TE} (he : PE X e te) : PI X tg e (iAny X.K te) := by
  refine ⟨fun pins s σ H R I h => ?_⟩
  refine thn (he.run pins s σ H _ I h) fun v s1 ⟨x, H1, I1, r1, q1⟩ => ?_
  rcases q1 with ⟨a, e, ⟨xs, hq⟩, q⟩ | ⟨a, e, ⟨xs, hq⟩, q⟩ | ⟨z, e, q⟩
  · subst e
    cases r1
    obtain ⟨its, rv, p, hz⟩ := I1.list hq
    exact wpAny_pyIter_list p.isList (pi_one (tk := s1.toks) I1 _ (turn_list a _) ⟨_, Heap.get?_push_size _ rfl, rfl, rfl⟩ q)
  · subst e
    cases r1
    obtain ⟨its, rv, p, hz⟩ := I1.tuple hq
    exact wpAny_pyIter_tuple (show s1.heap.IsTuple a its.toArray from p) (pi_one (tk := s1.toks) I1 _ (turn_tuple a _) ⟨_, Heap.get?_push_size _ rfl, rfl, rfl⟩ q)
  · subst e
    obtain ⟨t, rfl⟩ := r1
    cases ha : z.cps.all (· < 128)
    · exact wpAny_pyIter_wide ha (pi_one (tk := s1.toks) I1 _ (turn_str _ z t "str_iterator" (.inr rfl)) ⟨_, Heap.get?_push_size _ rfl, rfl, rfl⟩ q)
    · exact wpAny_pyIter_ascii ha (pi_one (tk := s1.toks) I1 _ (turn_str _ z t "str_ascii_iterator" (.inl rfl)) ⟨_, Heap.get?_push_size _ rfl, rfl, rfl⟩ q)
theorem xi_any (hK : X.K = B.K) (he : PE X e (tE B Fa)) : PI X tg e (tI B (fItems Fa)) :=
  PI.wkt (pi_any he) fun σ H R h => by
    rw [hK]
    exact xi_core h
/-! ranges -/
def rgOk (i : Int) : Bool := decide (-(2 ^ 62) ≤ i ∧ i < 2 ^ 62)
def rgItems (lo : Int) (n : Nat) : List PyData := (List.range n).map fun (k : Nat) => .int (lo + (k : Nat))
def fRange1 (A : FA) : FI := fun τ => (A τ).bind fun rs τ1 => match looks τ1 rs with
  | some [.int j] => if rgOk j = true then .ok (rgItems 0 j.toNat) τ1 else .stuck
  | _ => .stuck
def fRange2 (A : FA) : FI := fun τ => (A τ).bind fun rs τ1 => match looks τ1 rs with
  | some [.int i, .int j] => if rgOk i = true ∧ rgOk j = true then .ok (rgItems i (j - i).toNat) τ1 else .stuck
  | _ => .stuck
theorem walk_rg {σ : L2.St} {H : Hp} {τ : Te} {G : Hp} {lo : Int} {n : Nat} : RI B σ H τ G (Itr lo n) (rgItems lo n) := by
  have w := walk_range (lo := lo) (n := n)
  have l : (rgItems lo n).length = n := by simp [rgItems]
  unfold RI
  rw [l]
  refine w.mono (fun H s => trivial) fun i H x H' hi s y => ?_
  obtain ⟨e, rfl⟩ := y
  exact ⟨.int (lo + (i : Nat)), by simp [rgItems, hi], .inl ⟨e, .int _⟩⟩
theorem xi_range1 (hg : Gl X "range") (hm : X.mg "range" = none) (ha : PA X [a] (tA B A)) (hs : starEach [a] X.env = [(false, eval a X.env)] := by rfl) : PI X tg (.Call (.Name "range" p) [a] [] pos) (tI B (fRange1 A)) :=
  PI.wkt (pi_range1 hg hm ha hs) fun σ H R h => by
    obtain ⟨τ, G, R0, h⟩ := h
    refine ⟨τ, G, R0, Po.bind h fun rs τ1 xs H1 G1 _ _ R1 rr h => ?_⟩
    have z := fun ds => looks_ok (ds := ds) R1 rr
    revert h z
    generalize looks τ1 rs = o
    intro h z
    split at h
    · rename_i j
      obtain ⟨x, rfl, hx⟩ := Lks.one (z _ rfl)
      cases hx.int
      by_cases c : rgOk j = true
      · rw [if_pos c] at h
        have c' := of_decide_eq_true c
        exact ⟨j, rfl, c'.1, c'.2, h _ H1 G1 (Sub.refl _) R1 walk_rg⟩
      · rw [if_neg c] at h
        exact h.elim
    · exact h.elim
theorem xi_range2 (hg : Gl X "range") (hm : X.mg "range" = none) (ha : PA X [a, b] (tA B A)) (hs : starEach [a, b] X.env = [(false, eval a X.env), (false, eval b X.env)] := by rfl) (hs2 : starEach [b] X.env = [(false, eval b X.env)] := by rfl) :
    PI X tg (.Call (.Name "range" p) [a, b] [] pos) (tI B (fRange2 A)) :=
  PI.wkt (pi_range2 hg hm ha hs hs2) fun σ H R h => by
    obtain ⟨τ, G, R0, h⟩ := h
    refine ⟨τ, G, R0, Po.bind h fun rs τ1 xs H1 G1 _ _ R1 rr h => ?_⟩
    have z := fun ds => looks_ok (ds := ds) R1 rr
    revert h z
    generalize looks τ1 rs = o
    intro h z
    split at h
    · rename_i i j
      obtain ⟨x, y, rfl, hx, hy⟩ := Lks.two (z _ rfl)
      cases hx.int
      cases hy.int
      by_cases c : rgOk i = true ∧ rgOk j = true
      · rw [if_pos c] at h
        have c1 := of_decide_eq_true c.1
        have c2 := of_decide_eq_true c.2
        exact ⟨i, j, rfl, ⟨c1.1, c1.2, c2.1, c2.2⟩, h _ H1 G1 (Sub.refl _) R1 walk_rg⟩
      · rw [if_neg c] at h
        exact h.elim
    · exact h.elim
/-! while: at most so many turns -/
def whileF (c : FT) (b : FS) : Nat → Te → Res SR
  | 0, _ => .stuck
  | n + 1, τ => (c τ).bind fun t τ1 => if t = true then (match b τ1 with
      | .ok .nx τ2 => whileF c b n τ2
      | .ok .ct τ2 => whileF c b n τ2
      | .ok .bk τ2 => .ok .nx τ2
      | r => r) else .ok .nx τ1
end
end T
end

section
set_option Elab.async false
set_option linter.all false
set_option maxRecDepth 100000
set_option maxHeartbeats 2000000
/-! T8: comprehensions, while, further walks. -/
namespace T
open PySem PySem.Spec PyProof.Rows L2 Z
/-- what the rules want of where one stands -/
structure OkB (X : Cx) (B : Bs) : Prop where
  K : X.K = B.K
  mg : X.mg = B.mg
  calm : X.calm = true
  tk : Takes X B.W
  po : PassesOwn (model X.prog X.w) X.A X.env X.xe
section
variable {B : Bs} {σ σ' : L2.St} {H : Hp} {τ : Te} {G : Hp} {x : V} {i : Nat}
theorem Rp.chg (R : Rp B σ H τ G) (h : ∀ (j : Nat) s, τ[j]? = some s → s ≠ .no → σ'[j]? = σ[j]?) (l : σ'.length = σ.length) : Rp B σ' H τ G := by
  have ow : ∀ j, Own τ j → σ'[j]? = σ[j]? := fun j ⟨k, l, c, e, _⟩ => h j _ e (by intro z; cases z)
  refine ⟨R.gh, R.g0, R.nw, R.kp, R.da, R.dr, fun j s e => ?_, fun a b p ha hb ea eb => ?_, l.trans R.ln⟩
  · by_cases q : s = .no
    · subst q
      trivial
    · exact (R.sl j s e).move (h j s e q) (Sub.refl _) (fun _ _ _ _ h => h) (fun _ _ _ h => h) fun p c _ n hr => ⟨hr, fun ⟨k, hk, ek⟩ => n ⟨k, hk, by rw [← ow k hk]; exact ek⟩⟩
  · rw [ow a ha] at ea
    rw [ow b hb] at eb
    exact R.ds a b p ha hb ea eb
def wipeT (τ : Te) : List Nat → Te
  | [] => τ
  | v :: vs => (wipeT τ vs).set v .no
theorem wipeT_len (τ : Te) : ∀ vs : List Nat, (wipeT τ vs).length = τ.length
  | [] => rfl
  | v :: vs => by unfold wipeT; rw [List.length_set, wipeT_len τ vs]
theorem wipeT_at {τ : Te} {j : Nat} {s : Sl} : ∀ {vs : List Nat}, (wipeT τ vs)[j]? = some s → s = .no ∨ (j ∉ vs ∧ τ[j]? = some s)
  | [], h => .inr ⟨List.not_mem_nil, h⟩
  | v :: vs, h => by
    unfold wipeT at h
    by_cases q : v = j
    · subst q
      by_cases hl : v < (wipeT τ vs).length
      · rw [List.getElem?_set_self hl] at h
        exact .inl (Option.some.inj h).symm
      · rw [List.getElem?_eq_none (by simpa using hl)] at h
        cases h
    · rw [List.getElem?_set_ne q] at h
      rcases wipeT_at h with h | ⟨h1, h2⟩
      · exact .inl h
      · exact .inr ⟨by simp only [List.mem_cons, not_or]; exact ⟨fun z => q z.symm, h1⟩, h2⟩
theorem wipe_at {σ : L2.St} {j : Nat} : ∀ {vs : List Nat}, j ∉ vs → (wipe σ vs)[j]? = σ[j]?
  | [], _ => rfl
  | v :: vs, h => by
    simp only [List.mem_cons, not_or] at h
    unfold wipe
    rw [List.getElem?_set_ne (fun z => h.1 z.symm)]
    exact wipe_at h.2
theorem Rp.drops (R : Rp B σ H τ G) : ∀ vs : List Nat, Rp B σ H (wipeT τ vs) G
  | [] => R
  | v :: vs => (R.drops vs).drop (fun k l c z => by cases z) (fun _ _ => trivial) (fun l c z => by cases z)
theorem Rp.wipe (R : Rp B σ H τ G) (vs : List Nat) : Rp B (wipe σ vs) H (wipeT τ vs) G :=
  (R.drops vs).chg (fun j s e n => by
    rcases wipeT_at e with h | ⟨h1, h2⟩
    · exact absurd h n
    · exact wipe_at h1) (wipe_length σ vs)
theorem Rp.unwipe {vs : List Nat} (R : Rp B (L2.wipe σ vs) H (wipeT τ vs) G) : Rp B σ H (wipeT τ vs) G :=
  R.chg (fun j s e n => by
    rcases wipeT_at e with h | ⟨h1, h2⟩
    · exact absurd h n
    · exact (wipe_at h1).symm) (wipe_length σ vs).symm
/-- an object that the rules are to leave as it is -/
@[reducible] def Bs.pin (B : Bs) (D : Addr) (o : HO) : Bs := { B with H0 := upd B.H0 D o, W := fun _ _ _ _ => False }
theorem Rp.pin (R : Rp B σ H τ G) {D : Addr} {o : HO} (e : H D = some o) (n : ¬ OwnAt σ τ D) (g : G D = none) : Rp (B.pin D o) σ H τ G := by
  refine ⟨R.gh, R.g0, fun a e1 e2 => ?_, fun b u eb nb => ?_, R.da, R.dr, fun j s ej => ?_, R.ds, R.ln⟩
  · have ne : a ≠ D := fun z => e2 (by rw [z]; exact g)
    show upd B.H0 D o a = none
    rw [upd_ne ne]
    exact R.nw a e1 e2
  · have eb : upd B.H0 D o b = some u := eb
    by_cases q : b = D
    · subst q
      rw [upd_same] at eb
      rw [← eb]
      exact e
    · rw [upd_ne q] at eb
      exact R.kp b u eb nb
  · have z := R.sl j s ej
    cases s with
    | nv o =>
      cases o with
      | none => trivial
      | some x =>
        cases x with
        | e x => exact z
        | d kd =>
          obtain ⟨p, od, ks, a1, a2, a3, a4⟩ := z
          refine ⟨p, od, ks, ?_, a2, a3, a4⟩
          show upd B.H0 D o p = _
          by_cases q : p = D
          · have z1 := R.kp p _ a1 a2
            rw [q, upd_same, ← e, ← z1, q]
          · rw [upd_ne q]
            exact a1
    | sh d => exact z
    | ct k l c =>
      cases k with
      | ow =>
        obtain ⟨p, o1, a1, a2, a3, a4, a5⟩ := z
        refine ⟨p, o1, a1, a2, a3, a4, ?_⟩
        show upd B.H0 D o p = none
        rw [upd_ne fun q => n ⟨j, ⟨_, _, _, ej, by decide⟩, by rw [← q]; exact a1⟩]
        exact a5
      | io => exact z
      | ro => exact z
theorem Rp.unpinD {D : Addr} {o : HO} (R : Rp (B.pin D o) σ H τ G) (h0 : B.H0 D = none) (g0 : B.G0 D = none) (na : D ∉ B.as) (hD : ∀ (j : Nat) (kd : List (Key × PyData)), τ[j]? = some (Sl.nv (some (.d kd))) → σ[j]? ≠ some (some (V.ref D))) : H D = some o ∧ Rp B σ H τ G ∧ ¬ OwnAt σ τ D ∧ G D = none := by
  have e : H D = some o := R.kp D o (show upd B.H0 D o D = some o from upd_same) na
  have g : G D = none := by
    cases q : G D with
    | none => rfl
    | some u =>
      have z : upd B.H0 D o D = none := R.nw D g0 (by rw [q]; intro z; cases z)
      rw [upd_same] at z
      cases z
  have n : ¬ OwnAt σ τ D := fun z => by
    obtain ⟨_, _, h⟩ := R.ownAt z
    rcases h with h | h
    · have h : upd B.H0 D o D = none := h
      rw [upd_same] at h
      cases h
    · exact na h
  refine ⟨e, ⟨R.gh, R.g0, fun a e1 e2 => ?_, fun b u eb nb => ?_, R.da, R.dr, fun j s ej => ?_, R.ds, R.ln⟩, n, g⟩
  · have z : upd B.H0 D o a = none := R.nw a e1 e2
    by_cases q : a = D
    · rw [q, upd_same] at z
      cases z
    · rw [upd_ne q] at z
      exact z
  · refine R.kp b u ?_ nb
    show upd B.H0 D o b = some u
    rw [upd_ne (ne_of_none eb h0)]
    exact eb
  · have z := R.sl j s ej
    cases s with
    | nv o =>
      cases o with
      | none => trivial
      | some x =>
        cases x with
        | e x => exact z
        | d kd =>
          obtain ⟨p, od, ks, a1, a2, a3, a4⟩ := z
          have a1 : upd B.H0 D o p = some (.frz od (.dK ks)) := a1
          rw [upd_ne fun q => hD j kd ej (by rw [← q]; exact a3)] at a1
          exact ⟨p, od, ks, a1, a2, a3, a4⟩
    | sh d => exact z
    | ct k l c =>
      cases k with
      | ow =>
        obtain ⟨p, o1, a1, a2, a3, a4, a5⟩ := z
        refine ⟨p, o1, a1, a2, a3, a4, ?_⟩
        have a5 : upd B.H0 D o p = none := a5
        by_cases q : p = D
        · rw [q, upd_same] at a5
          cases a5
        · rw [upd_ne q] at a5
          exact a5
      | io => exact z
      | ro => exact z
theorem Rp.unpin {D : Addr} {o : HO} (R : Rp (B.pin D o) σ H τ G) (h0 : B.H0 D = none) (g0 : B.G0 D = none) (na : D ∉ B.as) (ho : ∀ od u, o ≠ .frz od u := by intro _ _ h; cases h) : H D = some o ∧ Rp B σ H τ G ∧ ¬ OwnAt σ τ D ∧ G D = none :=
  R.unpinD h0 g0 na fun j kd ej es => by
    obtain ⟨p, od, ks, a1, a2, a3, a4⟩ := R.sl j _ ej
    rw [es] at a3
    cases a3
    have a1 : upd B.H0 D o D = some (.frz od (.dK ks)) := a1
    rw [upd_same] at a1
    exact ho _ _ (Option.some.inj a1)
end
/-! ### [e for x in xs if t] -/
def lcF (vs : List Nat) (g : FG) (t : FT) (e : FE) : List PyData → Te → List PyData → Res (List PyData)
  | [], τ, acc => .ok acc τ
  | d :: ds, τ, acc => match g d (wipeT τ vs) with
    | none => .stuck
    | some τ1 => match t τ1 with
      | .ok b τ2 => if b = true then (match e τ2 with
        | .ok r τ3 => match hold r τ3 with
          | .ok r2 τ4 => match frz1 r2 τ4 with
            | some (d', τ5) => if acc.length < 100000 then lcF vs g t e ds τ5 (acc ++ [d']) else .stuck
            | none => .stuck
          | _ => .stuck
        | _ => .stuck) else lcF vs g t e ds τ2 acc
      | _ => .stuck
def lcEnd (vs : List Nat) : Res (List PyData) → Res RV
  | .ok acc τ2 => .ok (.tmp (.L acc)) (wipeT τ2 vs)
  | _ => .stuck
def fLc (S : FI) (vs : List Nat) (g : FG) (t : FT) (e : FE) : FE := fun τ => (S τ).bind fun ds τ1 => lcEnd vs (lcF vs g t e ds τ1 [])
def fYes : FT := fun τ => .ok true τ
section
variable {B : Bs} {σ : L2.St} {H : Hp} {Q : VK} {S : FI} {vs is : List Nat} {gt : TG} {g : FG} {tt : TT} {te : TE} {Ft : FT} {Fe : FE}
theorem wipe_eq : ∀ {vs is : List Nat} {σ2 σ : L2.St}, (∀ j, j ∉ is → σ2[j]? = σ[j]?) → σ2.length = σ.length → (∀ j ∈ is, j ∈ vs) → L2.wipe σ2 vs = L2.wipe σ vs := by
  intro vs is σ2 σ h l hs
  apply List.ext_getElem?
  intro j
  by_cases q : j ∈ vs
  · have z : ∀ (σ : L2.St) (vs : List Nat), j ∈ vs → (L2.wipe σ vs)[j]? = if j < σ.length then some none else none := by
      intro σ vs
      induction vs with
      | nil => intro q; cases q
      | cons v vs ih =>
        intro q
        unfold L2.wipe
        by_cases hv : v = j
        · subst hv
          by_cases hl : v < σ.length
          · rw [List.getElem?_set_self (by rw [wipe_length]; exact hl), if_pos hl]
          · rw [List.getElem?_eq_none (by rw [List.length_set, wipe_length]; omega), if_neg hl]
        · rw [List.getElem?_set_ne hv]
          exact ih (by
            rcases List.mem_cons.mp q with q | q
            · exact absurd q.symm hv
            · exact q)
    rw [z _ _ q, z _ _ q, l]
  · rw [wipe_at q, wipe_at q]
    exact h j fun z => q (hs j z)
theorem wipe_wipe {σ : L2.St} {vs : List Nat} : L2.wipe (L2.wipe σ vs) vs = L2.wipe σ vs := wipe_eq (is := vs) (fun j hj => wipe_at hj) (wipe_length σ vs) fun _ h => h
theorem lc_of (hv : ∀ j ∈ is, j ∈ vs) (gg : ∀ B' : Bs, B'.K = B.K → GG B' is gt g) (ht : ∀ (B' : Bs), B'.K = B.K → B'.mg = B.mg → B'.W = (fun _ _ _ _ => False) → ∀ σ H Q, tT B' Ft σ H Q → tt σ H Q)
    (he : ∀ (B' : Bs), B'.K = B.K → B'.mg = B.mg → B'.W = (fun _ _ _ _ => False) → ∀ σ H Q, tE B' Fe σ H Q → te σ H Q) (h : tE B (fLc S vs g Ft Fe) σ H Q) : tLc (tI B S) gt tt te vs σ H Q := by
  obtain ⟨τ, G, R, h⟩ := h
  refine ⟨τ, G, R, Po.bind h fun ds τ1 J H1 G1 _ _ R1 w h => ?_⟩
  intro D nD
  have h0 := R1.h0 nD
  have g1 := R1.g nD
  have na := R1.noIo nD
  have nr : ¬ B.ro D := fun z => R1.dr D z nD
  have gz : B.G0 D = none := by
    cases q : B.G0 D with
    | none => rfl
    | some u =>
      rw [R1.g0 D u q] at g1
      cases g1
  refine lc_it w (fun i H => ∃ τ' G' acc va, Sub G1 G' ∧ Rp B (L2.wipe σ vs) H (wipeT τ' vs) G' ∧ H D = some (.lst va) ∧ DpAll B.K G' va acc ∧ ¬ OwnAt (L2.wipe σ vs) (wipeT τ' vs) D ∧ G' D = none ∧ PE1 B σ G' Q (lcEnd vs (lcF vs g Ft Fe (ds.drop i) τ' acc))) ?_ ?_ ?_ ?_
  · have R2 := (R1.more (Kp.new (o := .lst []) nD)).wipe vs
    exact ⟨τ1, G1, [], [], Sub.refl _, R2, upd_same, .nil, ((R1.wipe vs).notOwn nD), g1, h⟩
  · rintro i H _ ⟨τ', G', acc, va, s, R, _⟩
    exact ⟨s.trans R.gh, R.kp⟩
  · rintro i x H H' hi ⟨τ', G', acc, va, s, R, eD, da, nO, gD, h⟩ ⟨d, hd, y⟩
    have e : ds.drop i = d :: ds.drop (i + 1) := by
      obtain ⟨h1, h2⟩ := List.getElem?_eq_some_iff.mp hd
      rw [List.drop_eq_getElem_cons h1, h2]
    rw [e] at h
    have Rq : Rp (B.pin D (.lst va)) (L2.wipe σ vs) H (wipeT τ' vs) G' := R.pin eD nO gD
    obtain ⟨G2, s2, R2, hx⟩ := IY.ok (B := B.pin D (.lst va)) Rq s y
    have h1 : PE1 B σ G' Q (lcEnd vs (match g d (wipeT τ' vs) with
      | none => .stuck
      | some τ1 => match Ft τ1 with
        | .ok b τ2 => if b = true then (match Fe τ2 with
          | .ok r τ3 => match hold r τ3 with
            | .ok r2 τ4 => match frz1 r2 τ4 with
              | some (d', τ5) => if acc.length < 100000 then lcF vs g Ft Fe (ds.drop (i + 1)) τ5 (acc ++ [d']) else .stuck
              | none => .stuck
            | _ => .stuck
          | _ => .stuck) else lcF vs g Ft Fe (ds.drop (i + 1)) τ2 acc
        | _ => .stuck)) := h
    clear h
    have h1 := Po.sub s2 h1
    cases q : g d (wipeT τ' vs) with
    | none =>
      rw [q] at h1
      exact h1.elim
    | some τ2 =>
      rw [q] at h1
      dsimp only at h1
      refine gg (B.pin D (.lst va)) rfl x d _ H' _ G2 τ2 _ R2 hx q fun σ3 R3 f3 l3 => ?_
      have we : L2.wipe σ3 vs = L2.wipe σ vs := by rw [wipe_eq f3 l3 hv, wipe_wipe]
      refine ⟨we, ?_⟩
      refine ht (B.pin D (.lst va)) rfl rfl rfl _ _ _ ⟨τ2, G2, R3, ?_⟩
      revert h1
      generalize Ft τ2 = rt
      intro h1
      cases rt with
      | exc c f τ => exact h1.elim
      | stuck => exact h1.elim
      | ok b τ3 =>
        intro b' H4 G4 s4 R4 eb
        have eb : b' = b := eb
        subst eb
        have h1 := Po.sub s4 h1
        cases b' with
        | false =>
          obtain ⟨eD4, R5, nO5, gD5⟩ := R4.unpin h0 gz na
          have R6 := R5.wipe vs
          rw [we] at R6
          have nO6 : ¬ OwnAt (L2.wipe σ vs) (wipeT τ3 vs) D := ((R4.wipe vs).unpin h0 gz na).2.2.1 |> fun z => by rw [we] at z; exact z
          exact ⟨τ3, G4, acc, va, ((s.trans s2).trans s4), R6, eD4, DpAll.sub (s2.trans s4) da, nO6, gD5, h1⟩
        | true =>
          show te σ3 H4 _
          refine he (B.pin D (.lst va)) rfl rfl rfl _ _ _ ⟨τ3, G4, R4, ?_⟩
          simp only [if_true] at h1
          revert h1
          generalize Fe τ3 = re
          intro h1
          cases re with
          | exc c f τ => exact h1.elim
          | stuck => exact h1.elim
          | ok r τ4 =>
            intro y H5 G5 s5 R5 rr
            have h1 := Po.sub s5 h1
            cases e6 : hold r τ4 with
            | exc c f τ =>
              simp only [e6] at h1
              exact h1.elim
            | stuck =>
              simp only [e6] at h1
              exact h1.elim
            | ok r2 τ5 =>
              simp only [e6] at h1
              have z : ∃ G6, Sub G5 G6 ∧ Rp (B.pin D (.lst va)) σ3 H5 τ5 G6 ∧ RR (B.pin D (.lst va)) σ3 H5 τ5 G6 y r2 := by
                obtain ⟨r', τ', G6, a1, a2, a3, a4, _, _⟩ := hold_ok (RM := RR (B.pin D (.lst va))) (Q := fun _ _ => True) (k := fun _ _ => .ok (.val .none) []) R5 rr (by rw [e6]; exact fun _ _ _ _ _ _ => trivial)
                rw [e6] at a1
                cases a1
                exact ⟨G6, a2, a3, a4⟩
              obtain ⟨G6, s6, R6, rr6⟩ := z
              cases e7 : frz1 r2 τ5 with
              | none =>
                simp only [e7] at h1
                exact h1.elim
              | some z =>
                obtain ⟨d', τ6⟩ := z
                simp only [e7] at h1
                obtain ⟨G7, s7, R7, hd7⟩ := frz1_ok R6 rr6 e7
                by_cases c : acc.length < 100000
                · rw [if_pos c] at h1
                  obtain ⟨eD7, R8, nO8, gD8⟩ := R7.unpin h0 gz na
                  refine ⟨va, eD7, small' (by rw [da.len]; exact c), ?_⟩
                  have R9 : Rp B σ3 (upd H5 D (.lst (va ++ [y]))) τ6 G7 := by
                    have t1 := R8.pin eD7 nO8 gD8
                    refine ⟨fun a o ea => ?_, R8.g0, R8.nw, fun b o eb nb => ?_, fun a ha => ?_, fun a ha => ?_, fun j s ej => ?_, R8.ds, R8.ln⟩
                    · rw [upd_ne (ne_of_none ea gD8)]
                      exact R8.gh a o ea
                    · rw [upd_ne (ne_of_none eb h0)]
                      exact R8.kp b o eb nb
                    · have : a ≠ D := fun z => na (by rw [← z]; exact ha)
                      rw [upd_ne this]
                      exact R8.da a ha
                    · have : a ≠ D := fun z => nr (by rw [← z]; exact ha)
                      rw [upd_ne this]
                      exact R8.dr a ha
                    · refine (R8.sl j s ej).move rfl (Sub.refl _) (fun p o ep hs eo => ?_) (fun _ _ _ h => h) fun p c hm n hr => ⟨?_, n⟩
                      · have : p ≠ D := fun z => nO8 ⟨j, by obtain ⟨k, l, c, rfl, hk⟩ := hs; exact ⟨k, l, c, ej, hk⟩, by rw [← z]; exact ep⟩
                        rw [upd_ne this]
                        exact eo
                      · exact hr.kp (Kp.put (o := .lst (va ++ [y])) (List.mem_singleton.mpr rfl)) fun z => nr (by rw [← List.mem_singleton.mp z]; exact hm)
                  have R10 := R9.wipe vs
                  rw [we] at R10
                  have nO10 : ¬ OwnAt (L2.wipe σ vs) (wipeT τ6 vs) D := ((R7.wipe vs).unpin h0 gz na).2.2.1 |> fun z => by rw [we] at z; exact z
                  exact ⟨τ6, G7, acc ++ [d'], va ++ [y], (((((s.trans s2).trans s4).trans s5).trans s6).trans s7), R10, upd_same, (DpAll.sub (((s2.trans s4).trans s5).trans (s6.trans s7)) da).app (.cons hd7 .nil), nO10, gD8, Po.sub (s6.trans s7) h1⟩
                · rw [if_neg c] at h1
                  exact h1.elim
  · rintro H ⟨τ', G', acc, va, s, R, eD, da, nO, gD, h⟩
    rw [List.drop_length] at h
    have R2 := R.unwipe
    refine h (.ref D) H G' (Sub.refl _) R2 ⟨D, _, rfl, eD, da, gD, h0, ?_, ?_⟩
    · rintro ⟨j, hj, ej⟩
      refine nO ⟨j, hj, ?_⟩
      obtain ⟨k, l, c, e, _⟩ := hj
      rcases wipeT_at e with z | ⟨z, _⟩
      · cases z
      · rw [wipe_at z]
        exact ej
    · intro j l c e es
      obtain ⟨q, e1, z⟩ := R2.sl j _ e
      rw [es] at e1
      cases e1
      rcases z with z | ⟨_, _, z⟩
      · exact z
      · exact absurd z nr
end
end T
end

section
set_option Elab.async false
set_option linter.all false
set_option maxRecDepth 100000
set_option maxHeartbeats 2000000
/-! T9: defs and their calls. -/
namespace T
open PySem PySem.Spec PyProof.Rows L2 Z
abbrev Fd := List Sl → Res RV
def isIo : Option Sl → Bool
  | some (.ct .io _ _) => true
  | _ => false
def ioOk : Option Sl → Bool
  | some (.ct .io false _) => true
  | _ => false
def kept (ps τ : Te) : Bool := (List.range ps.length).all fun i => !isIo ps[i]? || ioOk τ[i]?
/-- the parameters' slots behind: what was lent as it is now -/
def outsOf : Te → Te → Te
  | p :: ps, t :: ts => (if isIo (some p) = true then t else p) :: outsOf ps ts
  | ps, _ => ps
theorem outsOf_io : ∀ {ps τ : Te} {i : Nat} {s : Sl}, isIo ps[i]? = true → τ[i]? = some s → (outsOf ps τ)[i]? = some s
  | [], _, i, s, h, _ => by
    rw [List.getElem?_nil] at h
    cases h
  | p :: ps, [], i, s, _, h => by simp at h
  | p :: ps, t :: ts, 0, s, h, e => by
    have h : isIo (some p) = true := by simpa using h
    have e : t = s := by simpa using e
    unfold outsOf
    rw [if_pos h, e]
    rfl
  | p :: ps, t :: ts, i + 1, s, h, e => by
    unfold outsOf
    have z := outsOf_io (ps := ps) (τ := ts) (i := i) (s := s) (by simpa using h) (by simpa using e)
    simpa using z
def fin1 (ps : Te) : Res SR → Res RV
  | .ok (.rt (.val d)) τ => if kept ps τ = true then .ok (.val d) (outsOf ps τ) else .stuck
  | .ok (.rt (.tmp c)) τ => if kept ps τ = true then .ok (.tmp c) (outsOf ps τ) else .stuck
  | .ok .nx τ => if kept ps τ = true then .ok (.val .none) (outsOf ps τ) else .stuck
  | .exc c f τ => if kept ps τ = true then .exc c f (outsOf ps τ) else .stuck
  | _ => .stuck
def mkFd (N : Nat) (F : FS) : Fd := fun ps => fin1 ps (F (ps ++ List.replicate (N - ps.length) .no))
/-- the arguments show what the parameters' slots say -/
def P0 (K : Fg) (H G : Hp) (vs : List V) (ps : Te) (i : Nat) : Sl → Prop
  | .sh d => ∃ v, vs[i]? = some v ∧ Dp K G v d
  | .ct .io false c => ∃ p o, vs[i]? = some (.ref p) ∧ H p = some o ∧ RC K G o c ∧ G p = none
  | .ct .ro _ c => ∃ p, vs[i]? = some (.ref p) ∧ (Wn K G p c ∨ (RRo K H G p c ∧ ∀ j : Nat, isIo ps[j]? = true → vs[j]? ≠ some (.ref p)))
  | _ => False
structure St0 (K : Fg) (n : Nat) (H G : Hp) (vs : List V) (ps : Te) : Prop where
  gh : Sub G H
  lv : vs.length = n
  lp : ps.length = n
  sl : ∀ i s, ps[i]? = some s → P0 K H G vs ps i s
  ds : ∀ (i j : Nat) p, isIo ps[i]? = true → isIo ps[j]? = true → vs[i]? = some (.ref p) → vs[j]? = some (.ref p) → i = j
structure Aft (K : Fg) (H H' G G' : Hp) (vs : List V) (ps τ : Te) : Prop where
  sub : Sub G G'
  gh : Sub G' H'
  nw : ∀ a, G a = none → G' a ≠ none → H a = none
  kp : ∀ b o, H b = some o → (∀ i : Nat, isIo ps[i]? = true → vs[i]? ≠ some (.ref b)) → H' b = some o
  out : ∀ i : Nat, isIo ps[i]? = true → ∃ p o c, vs[i]? = some (.ref p) ∧ τ[i]? = some (.ct .io false c) ∧ H' p = some o ∧ RC K G' o c
def RRf (K : Fg) (H H' G' : Hp) (v : V) : RV → Prop
  | .val d => Dp K G' v d
  | .tmp c => ∃ p o, v = .ref p ∧ H' p = some o ∧ RC K G' o c ∧ G' p = none ∧ H p = none
  | .slot _ => False
def spOf (K : Fg) (mg : Str → Option Value) (n : Nat) (F : Fd) : Sp := fun vs H Q E => ∃ ps G, St0 K n H G vs ps ∧ match F ps with
  | .ok r τ => ∀ v H' G', Aft K H H' G G' vs ps τ → RRf K H H' G' v r → Q v H'
  | .exc c f τ => ∀ C d H' G', Aft K H H' G G' vs ps τ → REx K mg G' c f C d → E C d H'
  | .stuck => False
/-! ### a def's promise out of its body -/
def ioList (vs : List V) (ps : Te) : List (Nat × Addr) := (List.range ps.length).filterMap fun i => match isIo (ps[i]? : Option Sl), (vs[i]? : Option V) with
  | true, some (V.ref p) => some (i, p)
  | _, _ => none
theorem mem_ioList {vs : List V} {ps : Te} {i : Nat} {p : Addr} : (i, p) ∈ ioList vs ps ↔ isIo ps[i]? = true ∧ vs[i]? = some (.ref p) := by
  unfold ioList
  rw [List.mem_filterMap]
  constructor
  · rintro ⟨j, _, h⟩
    split at h
    · rename_i q e1 e2
      cases h
      exact ⟨e1, e2⟩
    · cases h
  · rintro ⟨h1, h2⟩
    have hl : i < ps.length := by
      cases e : ps[i]? with
      | none =>
        rw [e] at h1
        cases h1
      | some s => exact (List.getElem?_eq_some_iff.mp e).1
    exact ⟨i, List.mem_range.mpr hl, by simp only [h1, h2]⟩
@[reducible] def B0 (K : Fg) (mg : Str → Option Value) (H G : Hp) (vs : List V) (ps : Te) (E : XK) : Bs := { K := K, mg := mg, H0 := H, G0 := G, io := ioList vs ps, ro := fun a => H a ≠ none, W := fun C d _ H' => E C d H' }
theorem kept_at {ps τ : Te} (h : kept ps τ = true) {i : Nat} (hi : isIo ps[i]? = true) : ∃ c, τ[i]? = some (.ct .io false c) := by
  unfold kept at h
  rw [List.all_eq_true] at h
  have hl : i < ps.length := by
    cases e : ps[i]? with
    | none =>
      rw [e] at hi
      cases hi
    | some s => exact (List.getElem?_eq_some_iff.mp e).1
  have z := h i (List.mem_range.mpr hl)
  rw [hi] at z
  have z : ioOk τ[i]? = true := by simpa using z
  unfold ioOk at z
  split at z
  · exact ⟨_, by assumption⟩
  · cases z
section
variable {K : Fg} {mg : Str → Option Value} {n N : Nat} {H G : Hp} {vs : List V} {ps : Te} {E : XK}
theorem start_at {σ : L2.St} {Ns : List Str} (hs : σ = L2.start Ns vs) {i : Nat} {v : V} (h : vs[i]? = some v) : σ[i]? = some (some v) := by
  subst hs
  unfold L2.start
  have hl : i < vs.length := (List.getElem?_eq_some_iff.mp h).1
  rw [List.getElem?_append_left (by rw [List.length_map]; exact hl), List.getElem?_map, h]
  rfl
theorem St0.rp (S : St0 K n H G vs ps) {Ns : List Str} (hn : n ≤ Ns.length) : Rp (B0 K mg H G vs ps E) (L2.start Ns vs) H (ps ++ List.replicate (Ns.length - ps.length) .no) G := by
  have at_ : ∀ i s, (ps ++ List.replicate (Ns.length - ps.length) Sl.no)[i]? = some s → s = Sl.no ∨ ps[i]? = some s := fun i s e => by
    by_cases hl : i < ps.length
    · rw [List.getElem?_append_left hl] at e
      exact .inr e
    · rw [List.getElem?_append_right (by omega), List.getElem?_replicate] at e
      split at e
      · exact .inl (Option.some.inj e).symm
      · cases e
  have own : ∀ i, Own (ps ++ List.replicate (Ns.length - ps.length) Sl.no) i → isIo ps[i]? = true := fun i ⟨k, l, c, e, hk⟩ => by
    rcases at_ i _ e with z | z
    · cases z
    · have p := S.sl i _ z
      cases k with
      | io => rw [z]; rfl
      | ro => exact absurd rfl hk
      | ow => exact p.elim
  have sv : ∀ {i : Nat} {p : Addr}, isIo ps[i]? = true → (L2.start Ns vs)[i]? = some (some (V.ref p)) → vs[i]? = some (.ref p) := fun {i p} hi e => by
    have hl : i < vs.length := by
      rw [S.lv, ← S.lp]
      cases q : ps[i]? with
      | none =>
        rw [q] at hi
        cases hi
      | some s => exact (List.getElem?_eq_some_iff.mp q).1
    have z := start_at (Ns := Ns) rfl (List.getElem?_eq_getElem hl)
    rw [e] at z
    rw [List.getElem?_eq_getElem hl]
    injection z with z
    rw [← Option.some.inj z]
  refine ⟨S.gh, Sub.refl _, fun a h1 h2 => absurd h1 h2, fun b o e _ => e, fun a ha z => ?_, fun a ha => ha, fun i s e => ?_, fun i j p hi hj ei ej => ?_, ?_⟩
  · obtain ⟨⟨i, p⟩, hm, rfl⟩ := List.mem_map.mp ha
    obtain ⟨h1, h2⟩ := mem_ioList.mp hm
    cases q : ps[i]? with
    | none =>
      rw [q] at h1
      cases h1
    | some s =>
      rw [q] at h1
      have w := S.sl i s q
      cases s with
      | ct k l c =>
        cases k with
        | io =>
          cases l with
          | true => exact w.elim
          | false =>
            obtain ⟨p', o, e1, e2, _⟩ := w
            rw [h2] at e1
            cases e1
            rw [e2] at z
            cases z
        | _ => cases h1
      | _ => cases h1
  · rcases at_ i s e with z | z
    · subst z
      trivial
    · have w := S.sl i s z
      cases s with
      | nv o => exact w.elim
      | sh d =>
        obtain ⟨v, e1, e2⟩ := w
        exact ⟨v, start_at rfl e1, e2⟩
      | ct k l c =>
        cases k with
        | ow => exact w.elim
        | io =>
          cases l with
          | true => exact w.elim
          | false =>
            obtain ⟨p, o, e1, e2, e3, e4⟩ := w
            exact ⟨p, o, start_at rfl e1, e2, e3, e4, mem_ioList.mpr ⟨by rw [z]; rfl, e1⟩⟩
        | ro =>
          obtain ⟨p, e1, w⟩ := w
          refine ⟨p, start_at rfl e1, ?_⟩
          rcases w with w | ⟨w, hd⟩
          · exact .inl w
          · refine .inr ⟨w, fun ⟨j, hj, ej⟩ => hd j (own j hj) (sv (own j hj) ej), fun zn => ?_⟩
            cases c with
            | L ds =>
              obtain ⟨vs, a, _⟩ := w
              rcases a with a | ⟨o, a⟩
              · rw [zn] at a
                cases a
              · rw [zn] at a
                cases a
            | D c kd =>
              have a : ∃ u, Rd H p u := by
                cases c with
                | none =>
                  obtain ⟨ks, a, _⟩ := (show ∃ _, _ from w)
                  exact ⟨_, a⟩
                | some c =>
                  obtain ⟨C, dx, fs, a, _⟩ := (show ∃ _, _ from w)
                  exact ⟨_, .inl a⟩
              obtain ⟨_, a⟩ := a
              rcases a with a | ⟨o, a⟩
              · rw [zn] at a
                cases a
              · rw [zn] at a
                cases a
  · exact S.ds i j p (own i hi) (own j hj) (sv (own i hi) ei) (sv (own j hj) ej)
  · unfold L2.start
    rw [List.length_append, List.length_append, List.length_map, List.length_replicate, List.length_replicate, S.lv, S.lp]
theorem Rp.aft {Ns : List Str} {σ' : L2.St} {H' : Hp} {τ' : Te} {G' : Hp} (S : St0 K n H G vs ps) (s : Sub G G') (R : Rp (B0 K mg H G vs ps E) σ' H' τ' G') (k : kept ps τ' = true) : Aft K H H' G G' vs ps (outsOf ps τ') := by
  refine ⟨s, R.gh, R.nw, fun b o e h => R.kp b o e fun hm => ?_, fun i hi => ?_⟩
  · obtain ⟨⟨i, p⟩, hm2, rfl⟩ := List.mem_map.mp hm
    obtain ⟨h1, h2⟩ := mem_ioList.mp hm2
    exact h i h1 h2
  · obtain ⟨c, e⟩ := kept_at k hi
    obtain ⟨p, o, e1, e2, e3, e4, e5⟩ := R.sl i _ e
    obtain ⟨_, h2⟩ := mem_ioList.mp e5
    exact ⟨p, o, c, h2, outsOf_io hi e, e2, e3⟩
theorem fin_ps {Ns : List Str} {F : FS} {Q : VK} (S : St0 K n H G vs ps) (h : match mkFd Ns.length F ps with
  | .ok r τ => ∀ v H' G', Aft K H H' G G' vs ps τ → RRf K H H' G' v r → Q v H'
  | .exc c f τ => ∀ C d H' G', Aft K H H' G G' vs ps τ → REx K mg G' c f C d → E C d H'
  | .stuck => False) : PS1 (B0 K mg H G vs ps E) G { nx := fun _ H' => Q .non H', rt := Q } (F (ps ++ List.replicate (Ns.length - ps.length) .no)) := by
  unfold mkFd at h
  revert h
  generalize F (ps ++ List.replicate (Ns.length - ps.length) Sl.no) = r
  intro h
  have ifk : ∀ {τ : Te} {r : Res RV}, (match (if kept ps τ = true then r else .stuck) with
      | .ok r τ => ∀ v H' G', Aft K H H' G G' vs ps τ → RRf K H H' G' v r → Q v H'
      | .exc c f τ => ∀ C d H' G', Aft K H H' G G' vs ps τ → REx K mg G' c f C d → E C d H'
      | .stuck => False) → kept ps τ = true ∧ (match r with
      | .ok r τ => ∀ v H' G', Aft K H H' G G' vs ps τ → RRf K H H' G' v r → Q v H'
      | .exc c f τ => ∀ C d H' G', Aft K H H' G G' vs ps τ → REx K mg G' c f C d → E C d H'
      | .stuck => False) := fun {τ r} h => by
    by_cases c : kept ps τ = true
    · rw [if_pos c] at h
      exact ⟨c, h⟩
    · rw [if_neg c] at h
      exact h.elim
  cases r with
  | stuck => exact h
  | exc c f τ =>
    obtain ⟨k, h⟩ := ifk h
    exact fun C d σ' H' G' s R e => h C d H' G' (R.aft (Ns := Ns) S s k) e
  | ok r τ =>
    cases r with
    | bk => exact h.elim
    | ct => exact h.elim
    | nx =>
      obtain ⟨k, h⟩ := ifk h
      exact fun σ' H' G' s R => h .non H' G' (R.aft (Ns := Ns) S s k) .non
    | rt r =>
      cases r with
      | slot i => exact h.elim
      | val d =>
        obtain ⟨k, h⟩ := ifk h
        exact fun v σ' H' G' s R rr => h v H' G' (R.aft (Ns := Ns) S s k) rr
      | tmp c =>
        obtain ⟨k, h⟩ := ifk h
        exact fun v σ' H' G' s R rr => by
          obtain ⟨p, o, e1, e2, e3, e4, e5, _⟩ := rr
          exact h v H' G' (R.aft (Ns := Ns) S s k) ⟨p, o, e1, e2, e3, e4, e5⟩
end
section
variable {P : Program} {w : World} {K : Fg} {mg : Str → Option Value} {base : Heap} {k : Nat}
theorem spOf_len {n : Nat} {F : Fd} : ∀ vs H Q E, spOf K mg n F vs H Q E → vs.length = n := fun vs H Q E ⟨ps, G, S, _⟩ => S.lv
/-- a def by its body -/
theorem df_T {x : Str} {st : Stmt} {f : Addr} {fd : FuncData} {N ps : List Str} {F : FS} (Fn : L2.Fun K x x st f fd) (hm : mg x = some (.ref f)) (b : Binds K fd ps []) (S : FnScope N ps (defScope st)) (hn : ps.length ≤ N.length)
    (body : ∀ (cdv : Value) (A : Around) (fr : List Env) (s : Shared) (H : Hp) (E : XK) (B : Bs), Room k (A.deeper (envOfC x (defScope st) s.heap.objs.size f cdv)) → A.guards = some [] →
      OkB (cxOf (L2.CX P w) P w K mg base N x (defScope st) f cdv A fr s H E) B → B.K = K → B.mg = mg → PSs (cxOf (L2.CX P w) P w K mg base N x (defScope st) f cdv A fr s H E) (defBody st) (tS B F)) :
    Df P w K mg base (k + 1) x (spOf K mg ps.length (mkFd N.length F)) :=
  df_of Fn hm b S (fun vs H Q E h => spOf_len vs H Q E h) fun cdv A fr s H vs Q E hr hg h => by
    obtain ⟨qs, G, S0, h⟩ := h
    exact ⟨_, body cdv A fr s H E (B0 K mg H G vs qs E) hr hg ⟨rfl, rfl, rfl, takes_of rfl rfl rfl rfl, passes_of rfl⟩ rfl rfl, ⟨_, G, S0.rp hn, fin_ps S0 h⟩⟩
/-- the same of the def at f, for a law's end -/
theorem fn_T {x : Str} {st : Stmt} {f : Addr} {fd : FuncData} {N ps : List Str} {F : FS} (Fn : L2.Fun K x x st f fd) (S : FnScope N ps (defScope st)) (hn : ps.length ≤ N.length)
    (body : ∀ (cdv : Value) (A : Around) (fr : List Env) (s : Shared) (H : Hp) (E : XK) (B : Bs), Room k (A.deeper (envOfC x (defScope st) s.heap.objs.size f cdv)) → A.guards = some [] →
      OkB (cxOf (L2.CX P w) P w K mg base N x (defScope st) f cdv A fr s H E) B → B.K = K → B.mg = mg → PSs (cxOf (L2.CX P w) P w K mg base N x (defScope st) f cdv A fr s H E) (defBody st) (tS B F)) :
    FnG P w K mg base (L2.CX P w) (k + 1) f fd ps (spOf K mg ps.length (mkFd N.length F)) :=
  fnG_of Fn S (fun vs H Q E h => spOf_len vs H Q E h) fun cdv A fr s H vs Q E hr hg h => by
    obtain ⟨qs, G, S0, h⟩ := h
    exact ⟨_, body cdv A fr s H E (B0 K mg H G vs qs E) hr hg ⟨rfl, rfl, rfl, takes_of rfl rfl rfl rfl, passes_of rfl⟩ rfl rfl, ⟨_, G, S0.rp hn, fin_ps S0 h⟩⟩
end
end T
end

section
set_option Elab.async false
set_option linter.all false
set_option maxRecDepth 100000
set_option maxHeartbeats 2000000
/-! T10: the call of a def. -/
namespace T
open PySem PySem.Spec PyProof.Rows L2 Z
inductive Pm where
  | sh | io | ro
  deriving DecidableEq
/-- what goes along as frozen data is frozen -/
def frzM (τ : Te) : List Pm → List RV → Option Te
  | .sh :: ms, r :: rs => match frz1 r τ with
    | some (_, τ1) => frzM τ1 ms rs
    | none => none
  | _ :: ms, _ :: rs => frzM τ ms rs
  | _, _ => some τ
/-- a parameter's slot -/
def slot1 (τ : Te) : Pm → RV → Option Sl
  | .sh, .val d => some (.sh d)
  | .sh, .slot i => match τ[i]? with
    | some (.sh d) => some (.sh d)
    | _ => none
  | .io, .slot i => match τ[i]? with
    | some (.ct .ow false c) => some (.ct .io false c)
    | some (.ct .io false c) => some (.ct .io false c)
    | _ => none
  | .ro, .val (.list ds) => some (.ct .ro false (.L ds))
  | .ro, .slot i => match τ[i]? with
    | some (.sh (.list ds)) => some (.ct .ro false (.L ds))
    | some (.ct _ _ c) => some (.ct .ro false c)
    | _ => none
  | _, _ => none
def slots (τ : Te) : List Pm → List RV → Option Te
  | [], [] => some []
  | m :: ms, r :: rs => match slot1 τ m r, slots τ ms rs with
    | some s, some ss => some (s :: ss)
    | _, _ => none
  | _, _ => none
/-- the slots that are lent: no two alike, none also read -/
def lent : List Pm → List RV → List Nat
  | .io :: ms, .slot i :: rs => i :: lent ms rs
  | _ :: ms, _ :: rs => lent ms rs
  | _, _ => []
def seen : List Pm → List RV → List Nat
  | .ro :: ms, .slot i :: rs => i :: seen ms rs
  | _ :: ms, _ :: rs => seen ms rs
  | _, _ => []
def apart (ms : List Pm) (rs : List RV) : Bool := decide (lent ms rs).Nodup && (seen ms rs).all fun i => decide (i ∉ lent ms rs)
/-- what comes back in the lent ones -/
def back (outs : Te) : Nat → List Pm → List RV → Te → Option Te
  | k, .io :: ms, .slot i :: rs, τ => match τ[i]?, outs[k]? with
    | some (.ct kd false _), some (.ct .io false c) => back outs (k + 1) ms rs (τ.set i (.ct kd false c))
    | _, _ => none
  | k, _ :: ms, _ :: rs, τ => back outs (k + 1) ms rs τ
  | _, _, _, τ => some τ
def fCall (ms : List Pm) (F : Fd) (A : FA) : FE := fun τ => (A τ).bind fun rs τ1 => match frzM τ1 ms rs with
  | some τ2 => match slots τ2 ms rs with
    | some ps => if apart ms rs = true then (match F ps with
      | .ok (.val d) outs => match back outs 0 ms rs τ2 with
        | some τ3 => .ok (.val d) τ3
        | none => .stuck
      | .ok (.tmp c) outs => match back outs 0 ms rs τ2 with
        | some τ3 => .ok (.tmp c) τ3
        | none => .stuck
      | .exc c f outs => match back outs 0 ms rs τ2 with
        | some τ3 => .exc c f τ3
        | none => .stuck
      | _ => .stuck) else .stuck
    | none => .stuck
  | none => .stuck
section
variable {B : Bs} {σ : L2.St} {H : Hp} {G : Hp}
theorem frzM_ok : ∀ {ms : List Pm} {rs : List RV} {xs : List V} {τ τ' : Te} {G : Hp}, Rp B σ H τ G → RA B σ H τ G xs rs → frzM τ ms rs = some τ' → ∃ G', Sub G G' ∧ Rp B σ H τ' G' ∧ RA B σ H τ' G' xs rs
  | [], rs, xs, τ, τ', G, R, h, e => by
    unfold frzM at e
    cases e
    exact ⟨G, Sub.refl _, R, h⟩
  | .io :: ms, [], xs, τ, τ', G, R, h, e => by
    cases e
    exact ⟨G, Sub.refl _, R, h⟩
  | .sh :: ms, [], xs, τ, τ', G, R, h, e => by
    cases e
    exact ⟨G, Sub.refl _, R, h⟩
  | .ro :: ms, [], xs, τ, τ', G, R, h, e => by
    cases e
    exact ⟨G, Sub.refl _, R, h⟩
  | .io :: ms, r :: rs, xs, τ, τ', G, R, h, e => by
    cases h with
    | cons a b =>
      have e : frzM τ ms rs = some τ' := e
      obtain ⟨G', s, R', b'⟩ := frzM_ok R b e
      exact ⟨G', s, R', .cons ⟨a.1.stay a.2 s, a.2⟩ b'⟩
  | .ro :: ms, r :: rs, xs, τ, τ', G, R, h, e => by
    cases h with
    | cons a b =>
      have e : frzM τ ms rs = some τ' := e
      obtain ⟨G', s, R', b'⟩ := frzM_ok R b e
      exact ⟨G', s, R', .cons ⟨a.1.stay a.2 s, a.2⟩ b'⟩
  | .sh :: ms, r :: rs, xs, τ, τ', G, R, h, e => by
    cases h with
    | cons a b =>
      have e : (match frz1 r τ with | some (_, τ1) => frzM τ1 ms rs | none => none) = some τ' := e
      cases q : frz1 r τ with
      | none =>
        rw [q] at e
        cases e
      | some z =>
        obtain ⟨d, τ1⟩ := z
        rw [q] at e
        obtain ⟨G1, s1, R1, _⟩ := frz1_ok R a.1 q
        obtain ⟨G', s, R', b'⟩ := frzM_ok R1 (RA.stay s1 b) e
        exact ⟨G', s1.trans s, R', .cons ⟨a.1.stay a.2 (s1.trans s), a.2⟩ b'⟩
/-- arguments by place -/
theorem RA.at_ : ∀ {xs : List V} {rs : List RV} {τ : Te}, RA B σ H τ G xs rs → ∀ {k : Nat} {r : RV}, rs[k]? = some r → ∃ x, xs[k]? = some x ∧ RR B σ H τ G x r
  | _, _, τ, .nil, k, r, e => by simp at e
  | _, _, τ, .cons a t, 0, r, e => by
    simp at e
    subst e
    exact ⟨_, rfl, a.1⟩
  | _, _, τ, .cons a t, k + 1, r, e => by
    obtain ⟨x, h1, h2⟩ := RA.at_ t (k := k) (r := r) (by simpa using e)
    exact ⟨x, by simpa using h1, h2⟩
theorem slots_at : ∀ {ms : List Pm} {rs : List RV} {τ ps : Te}, slots τ ms rs = some ps → ms.length = rs.length ∧ ps.length = ms.length ∧ ∀ {k : Nat} {s : Sl}, ps[k]? = some s → ∃ m r, ms[k]? = some m ∧ rs[k]? = some r ∧ slot1 τ m r = some s
  | [], [], τ, ps, e => by
    cases e
    exact ⟨rfl, rfl, fun h => by simp at h⟩
  | [], r :: rs, τ, ps, e => by cases e
  | m :: ms, [], τ, ps, e => by cases m <;> cases e
  | m :: ms, r :: rs, τ, ps, e => by
    have e : (match slot1 τ m r, slots τ ms rs with | some s, some ss => some (s :: ss) | _, _ => none) = some ps := e
    cases q : slot1 τ m r with
    | none =>
      rw [q] at e
      cases e
    | some s =>
      cases q2 : slots τ ms rs with
      | none =>
        rw [q, q2] at e
        cases e
      | some ss =>
        rw [q, q2] at e
        cases e
        obtain ⟨h1, h2, h3⟩ := slots_at q2
        refine ⟨by simp [h1], by simp [h2], fun {k s'} h => ?_⟩
        cases k with
        | zero =>
          simp at h
          subst h
          exact ⟨m, r, rfl, rfl, q⟩
        | succ k =>
          obtain ⟨m', r', a, b, c⟩ := h3 (k := k) (s := s') (by simpa using h)
          exact ⟨m', r', by simpa using a, by simpa using b, c⟩
theorem lent_mem : ∀ {ms : List Pm} {rs : List RV} {i : Nat}, i ∈ lent ms rs ↔ ∃ k : Nat, ms[k]? = some .io ∧ rs[k]? = some (.slot i)
  | [], rs, i => by
    unfold lent
    simp
  | m :: ms, [], i => by
    cases m <;> (unfold lent; simp)
  | m :: ms, r :: rs, i => by
    have ih := lent_mem (ms := ms) (rs := rs) (i := i)
    have step : (∃ k : Nat, (m :: ms)[k]? = some Pm.io ∧ (r :: rs)[k]? = some (.slot i)) ↔ (m = .io ∧ r = .slot i) ∨ ∃ k : Nat, ms[k]? = some .io ∧ rs[k]? = some (.slot i) := by
      constructor
      · rintro ⟨k, h1, h2⟩
        cases k with
        | zero => exact .inl ⟨by simpa using h1, by simpa using h2⟩
        | succ k => exact .inr ⟨k, by simpa using h1, by simpa using h2⟩
      · rintro (⟨rfl, rfl⟩ | ⟨k, h1, h2⟩)
        · exact ⟨0, rfl, rfl⟩
        · exact ⟨k + 1, by simpa using h1, by simpa using h2⟩
    rw [step]
    cases m with
    | io =>
      cases r with
      | slot j =>
        show i ∈ j :: lent ms rs ↔ _
        rw [List.mem_cons, ih]
        constructor
        · rintro (rfl | h)
          · exact .inl ⟨rfl, rfl⟩
          · exact .inr h
        · rintro (⟨_, h⟩ | h)
          · cases h
            exact .inl rfl
          · exact .inr h
      | val d =>
        show i ∈ lent ms rs ↔ _
        rw [ih]
        exact ⟨.inr, fun h => h.elim (fun z => by cases z.2) id⟩
      | tmp d =>
        show i ∈ lent ms rs ↔ _
        rw [ih]
        exact ⟨.inr, fun h => h.elim (fun z => by cases z.2) id⟩
    | sh =>
      show i ∈ lent ms rs ↔ _
      rw [ih]
      exact ⟨.inr, fun h => h.elim (fun z => by cases z.1) id⟩
    | ro =>
      show i ∈ lent ms rs ↔ _
      rw [ih]
      exact ⟨.inr, fun h => h.elim (fun z => by cases z.1) id⟩
theorem lent_one : ∀ {ms : List Pm} {rs : List RV}, (lent ms rs).Nodup → ∀ {i k j : Nat}, ms[k]? = some .io → rs[k]? = some (.slot i) → ms[j]? = some .io → rs[j]? = some (.slot i) → k = j
  | [], rs, _, i, k, j, h1, _, _, _ => by simp at h1
  | m :: ms, [], _, i, k, j, _, h1, _, _ => by simp at h1
  | m :: ms, r :: rs, nd, i, k, j, h1, h2, h3, h4 => by
    have tl : (lent ms rs).Nodup := by
      cases m with
      | io =>
        cases r with
        | slot j => exact (List.nodup_cons.mp nd).2
        | _ => exact nd
      | _ => exact nd
    have hd : ∀ n : Nat, (m :: ms)[0]? = some Pm.io → (r :: rs)[0]? = some (.slot i) → ms[n]? = some .io → rs[n]? = some (.slot i) → False := fun n a b c d => by
      have a : m = .io := by simpa using a
      have b : r = .slot i := by simpa using b
      subst a b
      exact (List.nodup_cons.mp nd).1 (lent_mem.mpr ⟨n, c, d⟩)
    cases k with
    | zero =>
      cases j with
      | zero => rfl
      | succ j => exact (hd j h1 h2 (by simpa using h3) (by simpa using h4)).elim
    | succ k =>
      cases j with
      | zero => exact (hd k h3 h4 (by simpa using h1) (by simpa using h2)).elim
      | succ j =>
        have z := lent_one (ms := ms) (rs := rs) tl (i := i) (k := k) (j := j) (by simpa using h1) (by simpa using h2) (by simpa using h3) (by simpa using h4)
        rw [z]
theorem seen_mem : ∀ {ms : List Pm} {rs : List RV} {i k : Nat}, ms[k]? = some .ro → rs[k]? = some (.slot i) → i ∈ seen ms rs
  | [], rs, i, k, h, _ => by simp at h
  | m :: ms, [], i, k, _, h => by simp at h
  | m :: ms, r :: rs, i, 0, h1, h2 => by
    have a : m = .ro := by simpa using h1
    have b : r = .slot i := by simpa using h2
    subst a b
    exact List.mem_cons_self
  | m :: ms, r :: rs, i, k + 1, h1, h2 => by
    have z := seen_mem (ms := ms) (rs := rs) (i := i) (k := k) (by simpa using h1) (by simpa using h2)
    cases m with
    | ro =>
      cases r with
      | slot j => exact List.mem_cons_of_mem _ z
      | _ => exact z
    | _ => exact z
/-- what the lent slots hold behind -/
theorem back_at {outs : Te} : ∀ {ms : List Pm} {rs : List RV} {n : Nat} {τ τ' : Te}, back outs n ms rs τ = some τ' → (lent ms rs).Nodup → τ'.length = τ.length ∧ (∀ i, i ∉ lent ms rs → τ'[i]? = τ[i]?) ∧
    ∀ {k i : Nat}, ms[k]? = some .io → rs[k]? = some (.slot i) → ∃ kd c c', τ[i]? = some (.ct kd false c) ∧ outs[n + k]? = some (.ct .io false c') ∧ τ'[i]? = some (.ct kd false c')
  | [], rs, n, τ, τ', e, _ => by
    unfold back at e
    cases e
    exact ⟨rfl, fun _ _ => rfl, fun h _ => by simp at h⟩
  | m :: ms, [], n, τ, τ', e, _ => by
    cases m <;> (unfold back at e; cases e; exact ⟨rfl, fun _ _ => rfl, fun _ h => by simp at h⟩)
  | m :: ms, r :: rs, n, τ, τ', e, nd => by
    have other : (∀ i, ¬ (m = .io ∧ r = .slot i)) → back outs (n + 1) ms rs τ = some τ' → lent (m :: ms) (r :: rs) = lent ms rs → τ'.length = τ.length ∧ (∀ i, i ∉ lent (m :: ms) (r :: rs) → τ'[i]? = τ[i]?) ∧
        ∀ {k i : Nat}, (m :: ms)[k]? = some .io → (r :: rs)[k]? = some (.slot i) → ∃ kd c c', τ[i]? = some (.ct kd false c) ∧ outs[n + k]? = some (.ct .io false c') ∧ τ'[i]? = some (.ct kd false c') := fun hno e hl => by
      rw [hl] at nd ⊢
      obtain ⟨a, b, c⟩ := back_at e nd
      refine ⟨a, b, fun {k i} h1 h2 => ?_⟩
      cases k with
      | zero => exact absurd ⟨by simpa using h1, by simpa using h2⟩ (hno i)
      | succ k =>
        obtain ⟨kd, c1, c2, z1, z2, z3⟩ := c (k := k) (i := i) (by simpa using h1) (by simpa using h2)
        exact ⟨kd, c1, c2, z1, by rw [show n + (k + 1) = n + 1 + k by omega]; exact z2, z3⟩
    cases m with
    | sh => exact other (fun i z => by cases z.1) e rfl
    | ro => exact other (fun i z => by cases z.1) e rfl
    | io =>
      cases r with
      | val d => exact other (fun i z => by cases z.2) e rfl
      | tmp d => exact other (fun i z => by cases z.2) e rfl
      | slot j =>
        have nd' : (j :: lent ms rs).Nodup := nd
        obtain ⟨nj, nd2⟩ := List.nodup_cons.mp nd'
        have e : (match τ[j]?, outs[n]? with | some (.ct kd false _), some (.ct .io false c) => back outs (n + 1) ms rs (τ.set j (.ct kd false c)) | _, _ => none) = some τ' := e
        split at e
        · rename_i kd c0 c1 q1 q2
          have hl : j < τ.length := (List.getElem?_eq_some_iff.mp q1).1
          obtain ⟨a, b, c⟩ := back_at e nd2
          have bj : τ'[j]? = some (.ct kd false c1) := by rw [b j nj, List.getElem?_set_self hl]
          refine ⟨by rw [a, List.length_set], fun i hi => ?_, fun {k i} h1 h2 => ?_⟩
          · have hi : i ∉ j :: lent ms rs := hi
            simp only [List.mem_cons, not_or] at hi
            rw [b i hi.2, List.getElem?_set_ne (fun z => hi.1 z.symm)]
          · cases k with
            | zero =>
              have z : j = i := by simpa using h2
              subst z
              exact ⟨kd, c0, c1, q1, q2, bj⟩
            | succ k =>
              have h1 : ms[k]? = some Pm.io := by simpa using h1
              have h2 : rs[k]? = some (RV.slot i) := by simpa using h2
              obtain ⟨kd2, d1, d2, z1, z2, z3⟩ := c h1 h2
              have ne : j ≠ i := fun z => nj (by rw [z]; exact lent_mem.mpr ⟨k, h1, h2⟩)
              rw [List.getElem?_set_ne ne] at z1
              exact ⟨kd2, d1, d2, z1, by rw [show n + (k + 1) = n + 1 + k by omega]; exact z2, z3⟩
        · cases e
theorem RRo.kpc {K : Fg} {H H' G : Hp} {p : Addr} {c : Ct} {C : Addr → Prop} (h : RRo K H G p c) (k : ∀ b o, H b = some o → ¬ C b → H' b = some o) (n : ¬ C p) : RRo K H' G p c := by
  cases c with
  | L ds =>
    obtain ⟨vs, a, b⟩ := h
    exact ⟨vs, a.elim (fun e => .inl (k _ _ e n)) fun ⟨o, e⟩ => .inr ⟨o, k _ _ e n⟩, b⟩
  | D c kd =>
    cases c with
    | some c =>
      obtain ⟨C, dx, fs, a, n2, b⟩ := (show ∃ _, _ from h)
      exact ⟨C, dx, fs, k _ _ a n, n2, b⟩
    | none =>
    obtain ⟨vs, a, b⟩ := (show ∃ _, _ from h)
    exact ⟨vs, a.elim (fun e => .inl (k _ _ e n)) fun ⟨o, e⟩ => .inr ⟨o, k _ _ e n⟩, b⟩
/-- behind a call -/
theorem Rp.call {τ τ2 : Te} {H' G' : Hp} (R : Rp B σ H τ G) (Chd : Addr → Prop) (hc : ∀ b, Chd b → OwnAt σ τ b) (kp : ∀ b o, H b = some o → ¬ Chd b → H' b = some o) (hc2 : ∀ b, Chd b → H' b ≠ none) (sg : Sub G G') (gh : Sub G' H') (nw : ∀ a, G a = none → G' a ≠ none → H a = none)
    (hl : τ2.length = τ.length) (hs : ∀ i s2, τ2[i]? = some s2 → (τ[i]? = some s2 ∧ (Own τ i → ∀ p, σ[i]? = some (some (.ref p)) → ¬ Chd p)) ∨ ∃ kd c c' p o, kd ≠ .ro ∧ τ[i]? = some (.ct kd false c) ∧ s2 = .ct kd false c' ∧ σ[i]? = some (some (.ref p)) ∧ H' p = some o ∧ RC B.K G' o c') : Rp B σ H' τ2 G' := by
  have own : ∀ i, Own τ2 i → Own τ i := fun i ⟨k, l, c, e, hk⟩ => by
    rcases hs i _ e with ⟨e2, _⟩ | ⟨kd, c1, c2, p, o, hk2, e2, e3, _⟩
    · exact ⟨k, l, c, e2, hk⟩
    · exact ⟨kd, false, c1, e2, hk2⟩
  have gnone : ∀ p, (∃ o, H p = some o) → G p = none → G' p = none := fun p ⟨o, e⟩ g => by
    cases q : G' p with
    | none => rfl
    | some u =>
      have z := nw p g (by rw [q]; intro z; cases z)
      rw [e] at z
      cases z
  refine ⟨gh, R.g0.trans sg, fun a h1 h2 => ?_, fun b o e nb => ?_, fun a ha => ?_, fun a ha => ?_, fun i s2 e => ?_, fun a b p ha hb => R.ds a b p (own a ha) (own b hb), R.ln.trans hl.symm⟩
  · by_cases q : G a = none
    · exact R.h0 (nw a q h2)
    · exact R.nw a h1 q
  · have z := R.kp b o e nb
    refine kp b o z fun hb => ?_
    obtain ⟨_, _, h⟩ := R.ownAt (hc b hb)
    rcases h with h | h
    · rw [h] at e
      cases e
    · exact nb h
  · by_cases q : Chd a
    · exact hc2 a q
    · cases e : H a with
      | none => exact absurd e (R.da a ha)
      | some o =>
        rw [kp a o e q]
        intro z
        cases z
  · by_cases q : Chd a
    · exact hc2 a q
    · cases e : H a with
      | none => exact absurd e (R.dr a ha)
      | some o =>
        rw [kp a o e q]
        intro z
        cases z
  · rcases hs i s2 e with ⟨e2, hn⟩ | ⟨kd, c1, c2, p, o, hk2, e2, rfl, ep, eo, rc⟩
    · refine (R.sl i s2 e2).move rfl sg (fun p o ep hown eo => ?_) (fun p ep hown g => ?_) fun p c hm n hr => ⟨(RRo.sub sg hr).kpc kp fun z => n (hc p z), fun ⟨j, hj, ej⟩ => n ⟨j, own j hj, ej⟩⟩
      · obtain ⟨k, l, c, rfl, hk⟩ := hown
        exact kp p o eo (hn ⟨k, l, c, e2, hk⟩ p ep)
      · obtain ⟨k, l, c, rfl, hk⟩ := hown
        obtain ⟨q, o, e1, e3, _⟩ := R.ownEq e2 hk
        rw [ep] at e1
        cases e1
        exact gnone p ⟨o, e3⟩ g
    · have z := R.sl i _ e2
      cases kd with
      | ow =>
        obtain ⟨q, o1, e1, e3, _, g, h0⟩ := z
        rw [ep] at e1
        cases e1
        exact ⟨p, o, ep, eo, rc, gnone p ⟨o1, e3⟩ g, h0⟩
      | io =>
        obtain ⟨q, o1, e1, e3, _, g, h0⟩ := z
        rw [ep] at e1
        cases e1
        exact ⟨p, o, ep, eo, rc, gnone p ⟨o1, e3⟩ g, h0⟩
      | ro => exact absurd rfl hk2
end
end T
end

section
set_option Elab.async false
set_option linter.all false
set_option maxRecDepth 100000
set_option maxHeartbeats 2000000
/-! T11: the rule of a call. -/
namespace T
open PySem PySem.Spec PyProof.Rows L2 Z
theorem slot1_io {τ : Te} {m : Pm} {r : RV} {s : Sl} (e : slot1 τ m r = some s) (h : isIo (some s) = true) : m = .io ∧ ∃ i kd c, r = .slot i ∧ τ[i]? = some (.ct kd false c) ∧ kd ≠ .ro ∧ s = .ct .io false c := by
  unfold slot1 at e
  split at e
  · cases e
    cases h
  · split at e
    · cases e
      cases h
    · cases e
  · split at e
    · cases e
      exact ⟨rfl, _, _, _, rfl, by assumption, by decide, rfl⟩
    · cases e
      exact ⟨rfl, _, _, _, rfl, by assumption, by decide, rfl⟩
    · cases e
  · cases e
    cases h
  · split at e
    · cases e
      cases h
    · cases e
      cases h
    · cases e
  · cases e
section
variable {B : Bs} {σ : L2.St} {H : Hp} {G : Hp} {τ : Te} {ms : List Pm} {rs : List RV} {xs : List V} {ps : Te}
theorem io_at (e : slots τ ms rs = some ps) {k : Nat} (h : isIo ps[k]? = true) : ∃ i kd c, ms[k]? = some .io ∧ rs[k]? = some (.slot i) ∧ τ[i]? = some (.ct kd false c) ∧ kd ≠ .ro ∧ ps[k]? = some (.ct .io false c) := by
  obtain ⟨_, _, h3⟩ := slots_at e
  cases q : ps[k]? with
  | none =>
    rw [q] at h
    cases h
  | some s =>
    rw [q] at h
    obtain ⟨m, r, a, b, c⟩ := h3 q
    obtain ⟨rfl, i, kd, c0, rfl, h4, h5, rfl⟩ := slot1_io c h
    exact ⟨i, kd, c0, a, b, h4, h5, rfl⟩
theorem io_of (e : slots τ ms rs = some ps) {k i : Nat} (h1 : ms[k]? = some .io) (h2 : rs[k]? = some (.slot i)) : isIo ps[k]? = true := by
  obtain ⟨l1, l2, h3⟩ := slots_at e
  have hk : k < ps.length := by
    rw [l2]
    exact (List.getElem?_eq_some_iff.mp h1).1
  obtain ⟨m, r, a, b, c⟩ := h3 (List.getElem?_eq_getElem hk)
  rw [h1] at a
  cases a
  rw [h2] at b
  cases b
  rw [List.getElem?_eq_getElem hk]
  unfold slot1 at c
  simp only at c
  split at c
  · rw [← Option.some.inj c]
    rfl
  · rw [← Option.some.inj c]
    rfl
  · cases c
theorem call_st (R : Rp B σ H τ G) (ra : RA B σ H τ G xs rs) (e : slots τ ms rs = some ps) (ap : apart ms rs = true) : St0 B.K ms.length H G xs ps := by
  obtain ⟨l1, l2, h3⟩ := slots_at e
  have lx : xs.length = rs.length := Paired.length ra
  unfold apart at ap
  rw [Bool.and_eq_true] at ap
  have nd := of_decide_eq_true ap.1
  have ns := List.all_eq_true.mp ap.2
  -- a lent argument
  have lentAt : ∀ {k : Nat}, isIo ps[k]? = true → ∃ i kd c p, ms[k]? = some .io ∧ rs[k]? = some (.slot i) ∧ τ[i]? = some (.ct kd false c) ∧ kd ≠ .ro ∧ xs[k]? = some (.ref p) ∧ σ[i]? = some (some (.ref p)) := fun {k} h => by
    obtain ⟨i, kd, c, a1, a2, a3, a4, _⟩ := io_at e h
    obtain ⟨x, hx, rx⟩ := RA.at_ ra a2
    obtain ⟨p, o, e1, _⟩ := R.ownEq a3 a4
    have rx : σ[i]? = some (some x) := rx
    have rx' := rx
    rw [e1] at rx
    cases rx
    exact ⟨i, kd, c, p, a1, a2, a3, a4, hx, e1⟩
  refine ⟨R.gh, by rw [lx, ← l1], l2, fun k s hk => ?_, fun i j p hi hj ei ej => ?_⟩
  · obtain ⟨m, r, a, b, c⟩ := h3 hk
    obtain ⟨x, hx, rx⟩ := RA.at_ ra b
    -- read only: apart from the lent ones
    have roOf : ∀ {q : Addr} {c : Ct}, x = .ref q → RRo B.K H G q c → ¬ OwnAt σ τ q → P0 B.K H G xs ps k (.ct .ro false c) := fun {q c} ex hr n => by
      subst ex
      refine ⟨q, hx, .inr ⟨hr, fun j hj ej => ?_⟩⟩
      obtain ⟨i, kd, c2, p, a1, a2, a3, a4, a5, a6⟩ := lentAt hj
      rw [ej] at a5
      cases a5
      exact n ⟨i, ⟨_, _, _, a3, a4⟩, a6⟩
    have roVal : ∀ {ds : List PyData}, Dp B.K G x (.list ds) → P0 B.K H G xs ps k (.ct .ro false (.L ds)) := fun {ds} hd => by
      cases hd with
      | @lst a vs _ hs ha =>
        rcases hs with hs | hs
        · refine roOf rfl ⟨vs, Rd.sub R.gh hs, ha⟩ fun z => ?_
          obtain ⟨_, g, _⟩ := R.ownAt z
          rcases hs with hs | ⟨o, hs⟩
          · rw [g] at hs
            cases hs
          · rw [g] at hs
            cases hs
        · exact ⟨a, hx, .inl ⟨ds, vs, rfl, ha, fun H' => .inr hs⟩⟩
    unfold slot1 at c
    split at c
    · cases c
      exact ⟨x, hx, rx⟩
    · rename_i i
      have rx : σ[i]? = some (some x) := rx
      split at c
      · rename_i d q
        cases c
        obtain ⟨v, e1, e2⟩ := R.sl i _ q
        rw [rx] at e1
        cases e1
        exact ⟨x, hx, e2⟩
      · cases c
    · rename_i i
      have rx : σ[i]? = some (some x) := rx
      have fin : ∀ {kd : Kd} {cc : Ct}, τ[i]? = some (.ct kd false cc) → kd ≠ .ro → P0 B.K H G xs ps k (.ct .io false cc) := fun {kd cc} q hk2 => by
        obtain ⟨p, o, e1, e2, e3, e4⟩ := R.ownEq q hk2
        rw [rx] at e1
        cases e1
        exact ⟨p, o, hx, e2, e3, e4⟩
      split at c
      · cases c
        exact fin (by assumption) (by decide)
      · cases c
        exact fin (by assumption) (by decide)
      · cases c
    · cases c
      exact roVal rx
    · rename_i i
      have rx : σ[i]? = some (some x) := rx
      split at c
      · rename_i ds q
        cases c
        obtain ⟨v, e1, e2⟩ := R.sl i _ q
        rw [rx] at e1
        cases e1
        exact roVal e2
      · rename_i kd l cc q
        cases c
        by_cases hk2 : kd = .ro
        · subst hk2
          obtain ⟨p, e1, z⟩ := R.sl i _ q
          rw [rx] at e1
          cases e1
          rcases z with z | ⟨z, n, _⟩
          · exact ⟨p, hx, .inl z⟩
          · exact roOf rfl z n
        · obtain ⟨p, o, e1, e2, e3, e4⟩ := R.ownEq q hk2
          have rx' := rx
          rw [e1] at rx
          cases rx
          refine ⟨p, hx, .inr ⟨?_, fun j hj ej => ?_⟩⟩
          · cases o with
            | lst vs =>
              cases cc with
              | L ds => exact ⟨vs, .inl e2, e3⟩
              | D c kd => exact (show False from e3).elim
            | dK ks =>
              cases cc with
              | L ds => exact (show False from e3).elim
              | D c kd =>
                cases c with
                | none => exact ⟨ks, .inl e2, e3⟩
                | some c => exact (show False from e3).elim
            | ins C dx fs =>
              cases cc with
              | L ds => exact (show False from e3).elim
              | D c kd =>
                cases c with
                | none => exact (show False from e3).elim
                | some c => exact ⟨C, dx, fs, e2, (show _ ∧ _ from e3).1, (show _ ∧ _ from e3).2⟩
            | _ => cases cc <;> exact (show False from e3).elim
          · obtain ⟨i2, kd2, c2, p2, a1, a2, a3, a4, a5, a6⟩ := lentAt hj
            rw [ej] at a5
            cases a5
            have z : i = i2 := R.ds i i2 p ⟨_, _, _, q, hk2⟩ ⟨_, _, _, a3, a4⟩ e1 a6
            subst z
            have w := of_decide_eq_true (ns i (seen_mem a b))
            exact w (lent_mem.mpr ⟨j, a1, a2⟩)
      · cases c
    · cases c
  · obtain ⟨i1, kd1, c1, p1, a1, a2, a3, a4, a5, a6⟩ := lentAt hi
    obtain ⟨i2, kd2, c2, p2, b1, b2, b3, b4, b5, b6⟩ := lentAt hj
    rw [ei] at a5
    cases a5
    rw [ej] at b5
    cases b5
    have z : i1 = i2 := R.ds i1 i2 p ⟨_, _, _, a3, a4⟩ ⟨_, _, _, b3, b4⟩ a6 b6
    subst z
    exact lent_one nd a1 a2 b1 b2
/-- behind the call the slots hold what came back -/
theorem call_aft {H' G' : Hp} {outs τ3 : Te} (R : Rp B σ H τ G) (ra : RA B σ H τ G xs rs) (e : slots τ ms rs = some ps) (ap : apart ms rs = true) (a : Aft B.K H H' G G' xs ps outs) (hb : back outs 0 ms rs τ = some τ3) : Rp B σ H' τ3 G' := by
  have S := call_st R ra e ap
  unfold apart at ap
  rw [Bool.and_eq_true] at ap
  have nd := of_decide_eq_true ap.1
  obtain ⟨b1, b2, b3⟩ := back_at hb nd
  have lentA : ∀ {k i : Nat}, ms[k]? = some .io → rs[k]? = some (.slot i) → ∃ kd c c' p o, kd ≠ .ro ∧ τ[i]? = some (.ct kd false c) ∧ τ3[i]? = some (.ct kd false c') ∧ σ[i]? = some (some (.ref p)) ∧ xs[k]? = some (.ref p) ∧ H' p = some o ∧ RC B.K G' o c' := fun {k i} h1 h2 => by
    obtain ⟨kd, c, c', z1, z2, z3⟩ := b3 h1 h2
    rw [Nat.zero_add] at z2
    obtain ⟨p, o, c2, y1, y2, y3, y4⟩ := a.out k (io_of e h1 h2)
    rw [z2] at y2
    cases y2
    obtain ⟨x, hx, rx⟩ := RA.at_ ra h2
    rw [y1] at hx
    cases hx
    obtain ⟨i2, kd2, c3, w1, w2, w3, w4, _⟩ := io_at e (io_of e h1 h2)
    rw [h2] at w2
    cases w2
    rw [z1] at w3
    cases w3
    exact ⟨kd, c, c', p, o, w4, z1, z3, rx, y1, y3, y4⟩
  refine R.call (fun b => ∃ (k i : Nat), ms[k]? = some .io ∧ rs[k]? = some (.slot i) ∧ σ[i]? = some (some (.ref b))) ?_ ?_ ?_ a.sub a.gh a.nw b1 ?_
  · rintro b ⟨k, i, h1, h2, h3⟩
    obtain ⟨kd, c, c', p, o, w0, w1, w2, w3, _⟩ := lentA h1 h2
    exact ⟨i, ⟨_, _, _, w1, w0⟩, h3⟩
  · intro b o eb nb
    refine a.kp b o eb fun k hk ek => nb ?_
    obtain ⟨i, kd, c, w1, w2, w3, w4, _⟩ := io_at e hk
    obtain ⟨x, hx, rx⟩ := RA.at_ ra w2
    rw [ek] at hx
    cases hx
    exact ⟨k, i, w1, w2, rx⟩
  · rintro b ⟨k, i, h1, h2, h3⟩ z
    obtain ⟨kd, c, c', p, o, w0, w1, w2, w3, w4, w5, _⟩ := lentA h1 h2
    rw [h3] at w3
    cases w3
    rw [w5] at z
    cases z
  · intro i s2 e2
    by_cases q : i ∈ lent ms rs
    · obtain ⟨k, h1, h2⟩ := lent_mem.mp q
      obtain ⟨kd, c, c', p, o, w0, w1, w2, w3, w4, w5, w6⟩ := lentA h1 h2
      rw [e2] at w2
      cases w2
      exact .inr ⟨kd, c, c', p, o, w0, w1, rfl, w3, w5, w6⟩
    · rw [b2 i q] at e2
      refine .inl ⟨e2, fun hown p ep ⟨k, j, h1, h2, h3⟩ => ?_⟩
      obtain ⟨kd, c, c', p', o, w0, w1, w2, w3, _⟩ := lentA h1 h2
      have z : i = j := R.ds i j p hown ⟨_, _, _, w1, w0⟩ ep h3
      subst z
      exact q (lent_mem.mpr ⟨k, h1, h2⟩)
end
section
variable {X : Cx} {B : Bs} {e : Expr} {es : List Expr} {pos p : Pos} {A : FA} {ms : List Pm} {F : Fd} {x : Str} {j k n : Nat}
/-- f(e, ..) -/
theorem x_call {K : Fg} {mg : Str → Option Value} (ok : OkB X B) (hK : B.K = K) (hmg : B.mg = mg) (c : Df X.prog X.w K mg X.base k x (spOf K mg ms.length F)) (hr : Room j X.A) (hk : k ≤ j) (gu : X.A.guards = some []) (hg : Gl X x) (ha : PA X (e :: es) (tA B A))
    (hdb : (x == ("__debug__" : Str)) = false := by decide) (he : starEach (e :: es) X.env = (false, eval e X.env) :: starEach es X.env := by rfl) (hpl : (backTo pos (starEach es X.env)).any (·.1) = false := by rfl) :
    PE X (.Call (.Name x p) (e :: es) [] pos) (tE B (fCall ms F A)) := by
  subst hK hmg
  have c' : Df X.prog X.w X.K X.mg X.base k x (spOf B.K B.mg ms.length F) := by
    rw [ok.K, ok.mg]
    exact c
  refine PE.wkt (pe_fS (E := fun σ C d H => B.W C d σ H) c' hr hk gu hg (fun σ => passAt ok.tk σ) ha hdb he hpl) ?_
  rintro σ H Q ⟨τ, G, R, h⟩
  refine ⟨τ, G, R, Po.bind h fun rs τ1 xs H1 G1 _ _ R1 ra h => ?_⟩
  cases e1 : frzM τ1 ms rs with
  | none =>
    rw [e1] at h
    exact h.elim
  | some τ2 =>
    rw [e1] at h
    dsimp only at h
    obtain ⟨G2, s2, R2, ra2⟩ := frzM_ok R1 ra e1
    have h := Po.sub s2 h
    cases e2 : slots τ2 ms rs with
    | none =>
      rw [e2] at h
      exact h.elim
    | some ps =>
      rw [e2] at h
      dsimp only at h
      by_cases ap : apart ms rs = true
      · rw [if_pos ap] at h
        refine ⟨ps, G2, call_st R2 ra2 e2 ap, ?_⟩
        revert h
        generalize F ps = res
        intro h
        cases res with
        | stuck => exact h.elim
        | exc c f outs =>
          cases e3 : back outs 0 ms rs τ2 with
          | none =>
            simp only [e3] at h
            exact h.elim
          | some τ3 =>
            simp only [e3] at h
            exact fun C d H' G' a rx => h C d H' G' a.sub (call_aft R2 ra2 e2 ap a e3) rx
        | ok r outs =>
          cases r with
          | slot i => exact h.elim
          | val d =>
            cases e3 : back outs 0 ms rs τ2 with
            | none =>
              simp only [e3] at h
              exact h.elim
            | some τ3 =>
              simp only [e3] at h
              exact fun v H' G' a rv => h v H' G' a.sub (call_aft R2 ra2 e2 ap a e3) rv
          | tmp c =>
            cases e3 : back outs 0 ms rs τ2 with
            | none =>
              simp only [e3] at h
              exact h.elim
            | some τ3 =>
              simp only [e3] at h
              refine fun v H' G' a rv => h v H' G' a.sub (call_aft R2 ra2 e2 ap a e3) ?_
              obtain ⟨p, o, rfl, e4, rc, g, hn⟩ := rv
              have R3 := call_aft R2 ra2 e2 ap a e3
              have own : ∀ i, Own τ3 i → Own τ2 i := fun i hi => by
                have ap2 := ap
                unfold apart at ap2
                rw [Bool.and_eq_true] at ap2
                obtain ⟨b1, b2, b3⟩ := back_at e3 (of_decide_eq_true ap2.1)
                obtain ⟨kd, l, cc, ei, hk⟩ := hi
                by_cases q : i ∈ lent ms rs
                · obtain ⟨k, h1, h2⟩ := lent_mem.mp q
                  obtain ⟨kd2, c2, c3, z1, z2, z3⟩ := b3 h1 h2
                  rw [ei] at z3
                  cases z3
                  exact ⟨kd, false, c2, z1, hk⟩
                · rw [b2 i q] at ei
                  exact ⟨kd, l, cc, ei, hk⟩
              refine ⟨p, o, rfl, e4, rc, g, R2.h0 hn, fun ⟨i, hi, ei⟩ => ?_, fun i l c3 ei es => ?_⟩
              · exact R2.notOwn hn ⟨i, own i hi, ei⟩
              · obtain ⟨q, e5, z⟩ := R3.sl i _ ei
                rw [es] at e5
                cases e5
                rcases z with z | ⟨_, _, z⟩
                · exact z
                · exact absurd hn (R2.dr p z)
      · rw [if_neg ap] at h
        exact h.elim
end
end T
end

section
set_option Elab.async false
set_option linter.all false
set_option maxRecDepth 100000
set_option maxHeartbeats 2000000
/-! T12: comprehensions as expressions, slices, texts, further built-ins. -/
namespace T
open PySem PySem.Spec PyProof.Rows L2 Z
section
variable {X : Cx} {B : Bs}
theorem takes_never {W : WX} (h : W = fun _ _ _ _ => False) : Takes X W := fun u s' ⟨a, B, sI, pins, σ, H, cls, d, _, _, _, _, _, _, _, _, w⟩ => by
  subst h
  exact w.elim
theorem OkB.blk (ok : OkB X B) {s : Shared} {H : Hp} {scope : Scope} {cenv : Env} {fp : List Addr} {B' : Bs} (h1 : B'.K = B.K) (h2 : B'.mg = B.mg) (h3 : B'.W = fun _ _ _ _ => False) : OkB (X.blk s H scope cenv fp) B' :=
  ⟨ok.K.trans h1.symm, ok.mg.trans h2.symm, ok.calm, takes_never h3, PassesOwn.never⟩
variable {elt tg iter : Expr} {ifs : List Expr} {scope : Scope} {own : List (Str × Nat)} {pos : Pos} {S : FI} {gt : TG} {g : FG} {Ft : FT} {Fe : FE} {is : List Nat}
/-- [e for x in xs if t] -/
theorem x_lc (ok : OkB X B) (hN : X.N.Nodup) (hi : PI X tg iter (tI B S)) (blk : BlkOk X.N X.env.scope scope own)
    (hg : ∀ (s : Shared) (H : Hp) (C : Addr) (cl : List (Str × Addr)) (fp : List Addr), PG (X.blk s H scope (compEnvC scope cl C X.env) fp) tg gt) (gg : ∀ B' : Bs, B'.K = B.K → GG B' is gt g) (hv : ∀ j ∈ is, j ∈ own.map (·.2))
    (ht : ∀ (B' : Bs) (s : Shared) (H : Hp) (C : Addr) (cl : List (Str × Addr)) (fp : List Addr), B'.K = B.K → B'.mg = B.mg → OkB (X.blk s H scope (compEnvC scope cl C X.env) fp) B' → PTs (X.blk s H scope (compEnvC scope cl C X.env) fp) ifs (tT B' Ft))
    (he : ∀ (B' : Bs) (s : Shared) (H : Hp) (C : Addr) (cl : List (Str × Addr)) (fp : List Addr), B'.K = B.K → B'.mg = B.mg → OkB (X.blk s H scope (compEnvC scope cl C X.env) fp) B' → PE (X.blk s H scope (compEnvC scope cl C X.env) fp) elt (tE B' Fe))
    (hs : ∀ x, foldedSetIterable iter X.env x = pure x := by intro _; rfl) : PE X (.ListComp elt [⟨tg, iter, ifs, 0⟩] scope pos) (tE B (fLc S (own.map (·.2)) g Ft Fe)) := by
  refine PE.wkt (pe_lc (tt := fun σ H Q => ∃ B' : Bs, (B'.K = B.K ∧ B'.mg = B.mg ∧ B'.W = fun _ _ _ _ => False) ∧ tT B' Ft σ H Q) (te := fun σ H Q => ∃ B' : Bs, (B'.K = B.K ∧ B'.mg = B.mg ∧ B'.W = fun _ _ _ _ => False) ∧ tE B' Fe σ H Q)
    ok.calm hN hi blk hg (fun s H C cl fp => ⟨fun pins s' σ H' Q I ⟨B', ⟨h1, h2, h3⟩, q⟩ => (ht B' s H C cl fp h1 h2 (ok.blk h1 h2 h3)).run pins s' σ H' Q I q⟩)
    (fun s H C cl fp => ⟨fun pins s' σ H' Q I ⟨B', ⟨h1, h2, h3⟩, q⟩ => (he B' s H C cl fp h1 h2 (ok.blk h1 h2 h3)).run pins s' σ H' Q I q⟩) hs) fun σ H Q h => ?_
  exact lc_of hv gg (fun B' h1 h2 h3 σ H Q q => ⟨B', ⟨h1, h2, h3⟩, q⟩) (fun B' h1 h2 h3 σ H Q q => ⟨B', ⟨h1, h2, h3⟩, q⟩) h
theorem xs_setLc (ok : OkB X B) {i : Nat} {y : Str} {py spos : Pos} (hN : X.N.Nodup) (hy : X.N[i]? = some y) (hyl : X.env.scope.names.lookup y = some .local)
    (hsw : swapsWith (.ListComp elt [⟨tg, iter, ifs, 0⟩] scope pos) (some (.Name y py)) spos.line X.env = pure true) (hi : PI X tg iter (tI B S)) (blk : BlkOk X.N X.env.scope scope own)
    (hg : ∀ (s : Shared) (H : Hp) (C : Addr) (cl : List (Str × Addr)) (fp : List Addr), PG (X.blk s H scope (compEnvC scope cl C X.env) fp) tg gt) (gg : ∀ B' : Bs, B'.K = B.K → GG B' is gt g) (hv : ∀ j ∈ is, j ∈ own.map (·.2))
    (ht : ∀ (B' : Bs) (s : Shared) (H : Hp) (C : Addr) (cl : List (Str × Addr)) (fp : List Addr), B'.K = B.K → B'.mg = B.mg → OkB (X.blk s H scope (compEnvC scope cl C X.env) fp) B' → PTs (X.blk s H scope (compEnvC scope cl C X.env) fp) ifs (tT B' Ft))
    (he : ∀ (B' : Bs) (s : Shared) (H : Hp) (C : Addr) (cl : List (Str × Addr)) (fp : List Addr), B'.K = B.K → B'.mg = B.mg → OkB (X.blk s H scope (compEnvC scope cl C X.env) fp) B' → PE (X.blk s H scope (compEnvC scope cl C X.env) fp) elt (tE B' Fe))
    (hs : ∀ x, foldedSetIterable iter X.env x = pure x := by intro _; rfl) : PS X (.Assign [.Name y py] (.ListComp elt [⟨tg, iter, ifs, 0⟩] scope pos) spos) (tS B (fSet i (fLc S (own.map (·.2)) g Ft Fe))) := by
  refine PS.wkt (ps_setLc (tt := fun σ H Q => ∃ B' : Bs, (B'.K = B.K ∧ B'.mg = B.mg ∧ B'.W = fun _ _ _ _ => False) ∧ tT B' Ft σ H Q) (te := fun σ H Q => ∃ B' : Bs, (B'.K = B.K ∧ B'.mg = B.mg ∧ B'.W = fun _ _ _ _ => False) ∧ tE B' Fe σ H Q)
    ok.calm hN hy hyl hsw hi blk hg (fun s H C cl fp => ⟨fun pins s' σ H' Q I ⟨B', ⟨h1, h2, h3⟩, q⟩ => (ht B' s H C cl fp h1 h2 (ok.blk h1 h2 h3)).run pins s' σ H' Q I q⟩)
    (fun s H C cl fp => ⟨fun pins s' σ H' Q I ⟨B', ⟨h1, h2, h3⟩, q⟩ => (he B' s H C cl fp h1 h2 (ok.blk h1 h2 h3)).run pins s' σ H' Q I q⟩) hs) fun D σ H h => ?_
  obtain ⟨τ, G, R, h⟩ := h
  refine lc_of (B := B) hv gg (fun B' h1 h2 h3 σ H Q q => ⟨B', ⟨h1, h2, h3⟩, q⟩) (fun B' h1 h2 h3 σ H Q q => ⟨B', ⟨h1, h2, h3⟩, q⟩) ?_
  exact ⟨τ, G, R, Po.bindS h fun r τ1 x H1 G1 _ _ R1 rr h => stoS_ok R1 rr h⟩
theorem xts_nil : PTs X [] (tT B fYes) := ⟨fun pins s σ H Q I ⟨τ, G, R, h⟩ => pts_nil.run pins s σ H Q I (h true H G (Sub.refl _) R rfl)⟩
theorem xts_one {c : Expr} (h : PT X c (tT B Ft)) : PTs X [c] (tT B Ft) := pts_one h
end
/-! ### enumerate(list) -/
def enumD : Nat → List PyData → List PyData
  | _, [] => []
  | k, d :: ds => .tuple [.int (k : Nat), d] :: enumD (k + 1) ds
theorem enumD_get : ∀ {ds : List PyData} {k i : Nat}, (enumD k ds)[i]? = ds[i]?.map fun d => .tuple [.int ((k + i : Nat) : Int), d]
  | [], k, i => by simp [enumD]
  | d :: ds, k, 0 => by simp [enumD]
  | d :: ds, k, i + 1 => by
    have z := enumD_get (ds := ds) (k := k + 1) (i := i)
    simp only [enumD, List.getElem?_cons_succ, z]
    rw [show k + 1 + i = k + (i + 1) by omega]
theorem enumD_len : ∀ {ds : List PyData} {k : Nat}, (enumD k ds).length = ds.length
  | [], k => rfl
  | d :: ds, k => by simp only [enumD, List.length_cons, enumD_len]
/-- a list or nothing, frozen -/
def fListArg (A : FA) (k : List PyData → List PyData) : FI := fun τ => (A τ).bind fun rs τ1 => match frzs τ1 rs with
  | some ([.list ds], τ2) => .ok (k ds) τ2
  | _ => .stuck
section
variable {X : Cx} {B : Bs} {e : Expr} {es : List Expr} {pos p tpos : Pos} {elts : List Expr} {kk : Nat} {Fa Fb Fc : FE} {A : FA} {tg : Expr}
theorem xi_enum (ok : OkB X B) (hg : Gl X "enumerate") (hm : X.mg "enumerate" = none) (ha : PA X [e] (tA B A)) (hs : starEach [e] X.env = [(false, eval e X.env)] := by rfl) :
    PI X (.Tuple elts kk tpos) (.Call (.Name "enumerate" p) [e] [] pos) (tI B (fListArg A (enumD 0))) :=
  PI.wkt (pi_enum hg hm ha hs) fun σ H R h => by
    rw [ok.K]
    obtain ⟨τ, G, R0, h⟩ := h
    refine ⟨τ, G, R0, Po.bind h fun rs τ1 xs H1 G1 _ _ R1 ra h => ?_⟩
    have z := fun ds τ2 => frzs_ok (ds := ds) (τ' := τ2) R1 ra
    revert h z
    generalize frzs τ1 rs = o
    intro h z
    split at h
    · rename_i ds τ2
      obtain ⟨G2, s2, R2, hd⟩ := z _ _ rfl
      cases hd with
      | cons a b =>
        cases b
        cases a with
        | @lst a vs _ hs hv =>
          refine ⟨a, vs, rfl, SqL.sub R2.gh hs, h _ H1 G2 s2 R2 ?_⟩
          have w := walk_enum (K := B.K) (a := a) (xs := vs)
          unfold RI
          rw [enumD_len, ← hv.len]
          refine w.mono (fun H s => SqL.sub s.1 hs) fun i H x H' hi s y => ?_
          obtain ⟨T, x1, x2, rfl, hT, rfl, e1, e2⟩ := y
          obtain ⟨d, hd, hx⟩ := hv.getV e2
          refine ⟨.tuple [.int (i : Nat), d], by rw [enumD_get, hd]; simp, .inr ⟨T, x1, x2, .int (i : Nat), d, rfl, hT, rfl, rfl, ?_, hx⟩⟩
          cases e1
          exact .int _
    · exact h.elim
end
/-! ### slices -/
def fNoP : Te → Res (Option Int) := fun τ => .ok none τ
def fPart (F : FE) : Te → Res (Option Int) := fun τ => (F τ).bind fun r τ1 => match look τ1 r with
  | some (.int i) => .ok (some i) τ1
  | _ => .stuck
def tO (B : Bs) (F : Te → Res (Option Int)) : TO := fun σ H Q => ∃ τ G, Rp B σ H τ G ∧ Po (fun _ _ _ _ (a b : Option Int) => a = b) B σ G Q (F τ)
def cutD (xs : List PyData) (lo hi : Option Int) : List PyData := (xs.drop (HT.sIx xs.length 0 lo)).take (HT.sIx xs.length xs.length hi - HT.sIx xs.length 0 lo)
def pySl (d : PyData) (lo hi : Option Int) : O := match d with
  | .list ds => .l (cutD ds lo hi)
  | .tuple ds => if HT.sIx ds.length 0 lo = 0 ∧ HT.sIx ds.length ds.length hi = ds.length then .v (.tuple ds) else .t (cutD ds lo hi)
  | .str z => if z.length ≤ sizeLine then .v (.str (cutS z lo hi)) else .no
  | _ => .no
def fSl (Fa : FE) (Fl Fh : Te → Res (Option Int)) : FE := fun τ => (Fa τ).bind fun r τ1 => (hold r τ1).bind fun r τ2 => (Fl τ2).bind fun lo τ3 => (Fh τ3).bind fun hi τ4 => match look τ4 r with
  | some d => (pySl d lo hi).res τ4
  | none => .stuck
section
variable {X : Cx} {B : Bs} {e : Expr} {lo hi : Option Expr} {pos p2 : Pos} {Fa : FE} {Fl Fh : Te → Res (Option Int)}
theorem xo_none : PO X none (tO B fNoP) := ⟨fun pins s σ H Q I ⟨τ, G, R, h⟩ => po_none.run pins s σ H Q I (h none H G (Sub.refl _) R rfl)⟩
theorem xo_some (h : PE X e (tE B Fa)) : PO X (some e) (tO B (fPart Fa)) := by
  refine ⟨fun pins s σ H Q I hw => (po_some h).run pins s σ H Q I ?_⟩
  obtain ⟨τ, G, R, hw⟩ := hw
  refine ⟨τ, G, R, Po.bind hw fun r τ1 x H1 G1 _ _ R1 rr h => ?_⟩
  have z := fun d => look_ok (d := d) R1 rr
  revert h z
  generalize look τ1 r = o
  intro h z
  split at h
  · rename_i i
    exact ⟨i, (z _ rfl).int, h (some i) H1 G1 (Sub.refl _) R1 rfl⟩
  · exact h.elim
theorem x_slice (hK : X.K = B.K) (he : PE X e (tE B Fa)) (hl : PO X lo (tO B Fl)) (hu : PO X hi (tO B Fh)) : PE X (.Subscript e (.Slice lo hi none p2) pos) (tE B (fSl Fa Fl Fh)) := by
  refine PE.wkt (pe_slice ((sl_listK B.K hK).or ((hK ▸ sl_tupA (X := X)).or sl_str)) he hl hu) ?_
  rintro σ H Q ⟨τ, G, R, h⟩
  refine ⟨τ, G, R, Po.bind h fun ra τ1 x H1 G1 _ _ R1 rr h => ?_⟩
  obtain ⟨ra, τ2, G2, _, _, R2, rr, nt, h⟩ := hold_ok R1 rr h
  refine ⟨τ2, G2, R2, Po.bind h fun lo τ3 lo' H3 G3 _ s3 R3 el h => ?_⟩
  have el : lo' = lo := el
  subst el
  refine ⟨τ3, G3, R3, Po.bind h fun hi τ4 hi' H4 G4 _ s4 R4 eh h => ?_⟩
  have eh : hi' = hi := eh
  subst eh
  have rr := rr.stay (H' := H4) (τ' := τ4) nt (s3.trans s4)
  revert h
  cases e1 : look τ4 ra with
  | none => exact fun h => h.elim
  | some d =>
    intro h
    have lk := look_ok R4 rr e1
    have h := fin_of R4 h
    unfold pySl at h
    split at h
    · obtain ⟨p, vs, rfl, a, b⟩ := lk
      refine .inl ⟨p, vs, rfl, a, h _ ?_⟩
      unfold cutD cutV
      rw [b.len]
      exact (b.drop _).take _
    · obtain ⟨p, vs, rfl, a, b⟩ := lk.ref R4.gh
      refine .inr (.inl ⟨p, vs, rfl, a, fun c => ?_, fun c => ?_⟩)
      · rw [b.len] at c
        rw [if_pos c] at h
        exact h _ lk
      · have c' := c
        rw [b.len] at c'
        rw [if_neg c'] at h
        refine fun q nq => Nw.of (h _ ?_) q nq
        unfold cutD cutV
        rw [b.len]
        exact (b.drop _).take _
    · cases lk.str
      obtain ⟨c, h⟩ := h.if
      exact .inr (.inr ⟨_, rfl, c, h _ (.str _)⟩)
    · exact h.elim
end
/-! ### more built-ins -/
def pyList : List PyData → O
  | [.list ds] => .l ds
  | [.tuple ds] => .l ds
  | _ => .no
theorem o_list {K : Fg} : OpN K (rListK K) pyList := by
  intro H G xs ds Q s hs h
  unfold pyList at h
  split at h
  · obtain ⟨x, rfl, p, vs, rfl, a, b⟩ := hs.one
    exact ⟨p, vs, rfl, .inl a, h _ b⟩
  · obtain ⟨x, rfl, hx⟩ := hs.one
    obtain ⟨p, vs, rfl, a, b⟩ := hx.ref s
    exact ⟨p, vs, rfl, .inr a, h _ b⟩
  · exact h.elim
def pyTuple : List PyData → O
  | [.list ds] => .t ds
  | [.tuple ds] => .v (.tuple ds)
  | _ => .no
def rTupleK (K : Fg) : List V → Hp → VK → Prop := fun xs H Q => ∃ p ys, xs = [.ref p] ∧ ((SqL K H p ys ∧ ∀ l, H l = none → Q (.ref l) (upd H l (.tup ys))) ∨ (SqT K H p ys ∧ Q (.ref p) H))
theorem o_tuple {K : Fg} : OpN K (rTupleK K) pyTuple := by
  intro H G xs ds Q s hs h
  unfold pyTuple at h
  split at h
  · obtain ⟨x, rfl, p, vs, rfl, a, b⟩ := hs.one
    exact ⟨p, vs, rfl, .inl ⟨a, fun l nl => Nw.of (h _ b) l nl⟩⟩
  · obtain ⟨x, rfl, hx⟩ := hs.one
    have hx' := hx
    obtain ⟨p, vs, rfl, a, b⟩ := hx.ref s
    exact ⟨p, vs, rfl, .inr ⟨a, h _ hx'⟩⟩
  · exact h.elim
/-- ints out of data -/
def intsD : List PyData → Option (List Int)
  | [] => some []
  | .int i :: ds => (intsD ds).map (i :: ·)
  | _ => none
theorem intsD_eq : ∀ {ds : List PyData} {ns : List Int}, intsD ds = some ns → ds = ns.map .int
  | [], ns, h => by
    cases h
    rfl
  | d :: ds, ns, h => by
    cases d with
    | int i =>
      have h : (intsD ds).map (i :: ·) = some ns := h
      cases q : intsD ds with
      | none =>
        rw [q] at h
        cases h
      | some ms =>
        rw [q] at h
        cases h
        rw [intsD_eq q]
        rfl
    | _ => cases h
theorem intsD_map (ns : List Int) : intsD (ns.map .int) = some ns := by
  induction ns with
  | nil => rfl
  | cons n ns ih => simp only [List.map_cons, intsD, ih, Option.map_some]
def pyMax : List PyData → O
  | [.int i, .int j] => .v (.int (if j > i then j else i))
  | _ => .no
def pyMin : List PyData → O
  | [.int i, .int j] => .v (.int (if j < i then j else i))
  | _ => .no
def rMax2 : List V → Hp → VK → Prop := fun xs H Q => ∃ i j, xs = [.int i, .int j] ∧ Q (.int (if j > i then j else i)) H
def rMin2 : List V → Hp → VK → Prop := fun xs H Q => ∃ i j, xs = [.int i, .int j] ∧ Q (.int (if j < i then j else i)) H
theorem o_max2 {K : Fg} : OpN K rMax2 pyMax := by
  intro H G xs ds Q s hs h
  unfold pyMax at h
  split at h
  · obtain ⟨x, y, rfl, hx, hy⟩ := hs.two
    cases hx.int
    cases hy.int
    exact ⟨_, _, rfl, h _ (.int _)⟩
  · exact h.elim
theorem o_min2 {K : Fg} : OpN K rMin2 pyMin := by
  intro H G xs ds Q s hs h
  unfold pyMin at h
  split at h
  · obtain ⟨x, y, rfl, hx, hy⟩ := hs.two
    cases hx.int
    cases hy.int
    exact ⟨_, _, rfl, h _ (.int _)⟩
  · exact h.elim
/-- the greatest, the least of some ints -/
def maxI : Int → List Int → Int
  | a, [] => a
  | a, b :: r => maxI (if b > a then b else a) r
def minI : Int → List Int → Int
  | a, [] => a
  | a, b :: r => minI (if b < a then b else a) r
theorem maxI_ge : ∀ {r : List Int} {a : Int}, a ≤ maxI a r ∧ ∀ y ∈ r, y ≤ maxI a r
  | [], a => ⟨Int.le_refl _, fun _ h => nomatch h⟩
  | b :: r, a => by
    obtain ⟨h1, h2⟩ := maxI_ge (r := r) (a := if b > a then b else a)
    unfold maxI
    refine ⟨?_, fun y hy => ?_⟩
    · refine Int.le_trans ?_ h1
      split <;> omega
    · rcases List.mem_cons.mp hy with rfl | hy
      · refine Int.le_trans ?_ h1
        split <;> omega
      · exact h2 y hy
theorem minI_le : ∀ {r : List Int} {a : Int}, minI a r ≤ a ∧ ∀ y ∈ r, minI a r ≤ y
  | [], a => ⟨Int.le_refl _, fun _ h => nomatch h⟩
  | b :: r, a => by
    obtain ⟨h1, h2⟩ := minI_le (r := r) (a := if b < a then b else a)
    unfold minI
    refine ⟨?_, fun y hy => ?_⟩
    · refine Int.le_trans h1 ?_
      split <;> omega
    · rcases List.mem_cons.mp hy with rfl | hy
      · refine Int.le_trans h1 ?_
        split <;> omega
      · exact h2 y hy
theorem maxI_mem : ∀ {r : List Int} {a : Int}, maxI a r = a ∨ maxI a r ∈ r
  | [], a => .inl rfl
  | b :: r, a => by
    unfold maxI
    rcases maxI_mem (r := r) (a := if b > a then b else a) with h | h
    · rw [h]
      split
      · exact .inr List.mem_cons_self
      · exact .inl rfl
    · exact .inr (List.mem_cons_of_mem _ h)
theorem minI_mem : ∀ {r : List Int} {a : Int}, minI a r = a ∨ minI a r ∈ r
  | [], a => .inl rfl
  | b :: r, a => by
    unfold minI
    rcases minI_mem (r := r) (a := if b < a then b else a) with h | h
    · rw [h]
      split
      · exact .inr List.mem_cons_self
      · exact .inl rfl
    · exact .inr (List.mem_cons_of_mem _ h)
def pyMaxL : List PyData → O
  | [.list ds] => match intsD ds with
    | some (a :: r) => .v (.int (maxI a r))
    | _ => .no
  | _ => .no
def pySum : List PyData → O
  | [.list ds] => match intsD ds with
    | some ns => .v (.int ns.sum)
    | none => .no
  | _ => .no
theorem o_sum {K : Fg} : OpN K (rSum K) pySum := by
  intro H G xs ds Q s hs h
  unfold pySum at h
  split at h
  · rename_i ds
    obtain ⟨x, rfl, p, vs, rfl, a, b⟩ := hs.one
    cases q : intsD ds with
    | none =>
      rw [q] at h
      exact h.elim
    | some ns =>
      rw [q] at h
      rw [intsD_eq q] at b
      rw [DpAll.ints_of b] at a
      exact ⟨p, ns, rfl, a, h _ (.int _)⟩
  · exact h.elim
theorem o_maxL {K : Fg} : OpN K (rMax K) pyMaxL := by
  intro H G xs ds Q s hs h
  unfold pyMaxL at h
  split at h
  · rename_i ds
    obtain ⟨x, rfl, p, vs, rfl, a, b⟩ := hs.one
    split at h
    · rename_i m r q
      rw [intsD_eq q] at b
      rw [DpAll.ints_of b] at a
      refine ⟨p, m :: r, rfl, a, Nat.succ_pos _, fun k hk hle => ?_⟩
      have e : k = maxI m r := by
        have h1 := hle (maxI m r) (by
          rcases maxI_mem (r := r) (a := m) with z | z
          · rw [z]
            exact List.mem_cons_self
          · exact List.mem_cons_of_mem _ z)
        have h2 : k ≤ maxI m r := by
          rcases List.mem_cons.mp hk with rfl | hk
          · exact maxI_ge.1
          · exact maxI_ge.2 _ hk
        omega
      rw [e]
      exact h _ (.int _)
    · exact h.elim
  · exact h.elim
/-- bools out of data -/
def blsD : List PyData → Option (List Bool)
  | [] => some []
  | .bool i :: ds => (blsD ds).map (i :: ·)
  | _ => none
theorem blsD_of {K : Fg} {G : Hp} : ∀ {ds : List PyData} {ns : List Bool} {vs : List V}, blsD ds = some ns → DpAll K G vs ds → vs = ns.map V.bl
  | [], ns, vs, h, d => by
    cases h
    cases d
    rfl
  | d :: ds, ns, vs, h, dd => by
    cases d with
    | bool i =>
      have h : (blsD ds).map (i :: ·) = some ns := h
      cases q : blsD ds with
      | none =>
        rw [q] at h
        cases h
      | some ms =>
        rw [q] at h
        cases h
        cases dd with
        | cons a b =>
          cases a
          rw [blsD_of q b]
          rfl
    | _ => cases h
def pyAll : List PyData → O
  | [.list ds] => match blsD ds with
    | some bs => .v (.bool (bs.all id))
    | none => .no
  | _ => .no
def pyAny : List PyData → O
  | [.list ds] => match blsD ds with
    | some bs => .v (.bool (bs.any id))
    | none => .no
  | _ => .no
theorem o_all {K : Fg} : OpN K (rAll K) pyAll := by
  intro H G xs ds Q s hs h
  unfold pyAll at h
  split at h
  · rename_i ds
    obtain ⟨x, rfl, p, vs, rfl, a, b⟩ := hs.one
    cases q : blsD ds with
    | none =>
      rw [q] at h
      exact h.elim
    | some ns =>
      rw [q] at h
      rw [blsD_of q b] at a
      exact ⟨p, ns, rfl, a, h _ (.bl _)⟩
  · exact h.elim
theorem o_any {K : Fg} : OpN K (rAny K) pyAny := by
  intro H G xs ds Q s hs h
  unfold pyAny at h
  split at h
  · rename_i ds
    obtain ⟨x, rfl, p, vs, rfl, a, b⟩ := hs.one
    cases q : blsD ds with
    | none =>
      rw [q] at h
      exact h.elim
    | some ns =>
      rw [q] at h
      rw [blsD_of q b] at a
      exact ⟨p, ns, rfl, a, h _ (.bl _)⟩
  · exact h.elim
/-- str of an int -/
def pyStr : List PyData → O
  | [.int i] => if i.natAbs.log2 < 1920 then .v (.str (toString i)) else .no
  | _ => .no
def rStrI : List V → Hp → VK → Prop := fun xs H Q => ∃ i, xs = [.int i] ∧ i.natAbs.log2 < 1920 ∧ Q (.str (toString i)) H
theorem o_str {K : Fg} : OpN K rStrI pyStr := by
  intro H G xs ds Q s hs h
  unfold pyStr at h
  split at h
  · obtain ⟨x, rfl, hx⟩ := hs.one
    cases hx.int
    obtain ⟨c, h⟩ := h.if
    exact ⟨_, rfl, c, h _ (.str _)⟩
  · exact h.elim
end T
end

section
set_option Elab.async false
set_option linter.all false
set_option maxRecDepth 100000
set_option maxHeartbeats 2000000
/-! T13: short rules, as a program writes them for each construct. -/
namespace T
open PySem PySem.Spec PyProof.Rows L2 Z
section
variable {X : Cx} {B : Bs} {e a b t o : Expr} {es : List Expr} {pos p p2 apos : Pos} {Fa Fb Fo : FE} {A : FA} {x : Str}
theorem xv (i : Nat) {x : Str} {pos : Pos} (hN : X.N[i]? = some x := by rfl) (hv : Vis X.env.scope x := by first | exact Or.inl rfl | exact Or.inr (Or.inl rfl) | exact Or.inr (Or.inr rfl)) (hd : (x == ("__debug__" : Str)) = false := by decide)
    (hcd : (x == ("__classdict__" : Str)) = false := by decide) : PE X (.Name x pos) (tE B (fVar i)) := x_var hN hv hd hcd
theorem xc_int {i : Int} {j : Nat} : PE X (.Constant (.int i) j pos) (tE B (fC (.int i))) := x_c pe_int fun _ => .int _
theorem xc_str {s : Str} {j : Nat} : PE X (.Constant (.str s) j pos) (tE B (fC (.str s))) := x_c pe_str fun _ => .str _
theorem xc_bl {b : Bool} {j : Nat} : PE X (.Constant (.bool b) j pos) (tE B (fC (.bool b))) := x_c pe_bl fun _ => .bl _
theorem xc_non {j : Nat} : PE X (.Constant .none j pos) (tE B (fC .none)) := x_c pe_non fun _ => .non
/-- a constant of the module: an int, a text, a bool, None -/
theorem xg_flat {v : V} {d : PyData} (h : PE X e (tC v)) (hd : ∀ K G, Dp K G v d) : PE X e (tE B (fC d)) := x_c h fun G => hd B.K G
theorem op_addK {K : Fg} (hK : X.K = K) : OpR X (binaryOp .Add) (fun x y H Q => (rI0 (fun i j => .int (i + j))) x y H Q ∨ (∃ i j, x = .str i ∧ y = .str j ∧ i.length + j.length ≤ sizeLine ∧ Q (.str (i ++ j)) H) ∨ rCatS K x y H Q ∨ rCatT K x y H Q) := by
  subst hK
  exact op_addA
theorem x_add (ok : OkB X B) (ha : PE X a (tE B Fa)) (hb : PE X b (tE B Fb)) : PE X (.BinOp a .Add b pos) (tE B (fOp pyAdd Fa Fb)) := x_op (op_addK ok.K) o_add ha hb
theorem x_sub (ha : PE X a (tE B Fa)) (hb : PE X b (tE B Fb)) : PE X (.BinOp a .Sub b pos) (tE B (fOp pySub Fa Fb)) := x_op op_sub o_i0 ha hb
/-- a * b: ints, one of them small; a list so many times -/
def pyMulI := pyI fun i j => if CMul i j then some (i * j) else none
theorem x_mul (ha : PE X a (tE B Fa)) (hb : PE X b (tE B Fb)) : PE X (.BinOp a .Mult b pos) (tE B (fOp pyMulI Fa Fb)) := x_op op_mul o_ic ha hb
theorem x_div (ha : PE X a (tE B Fa)) (hb : PE X b (tE B Fb)) : PE X (.BinOp a .FloorDiv b pos) (tE B (fOp pyDiv Fa Fb)) := x_op op_fdiv o_ic ha hb
theorem x_mod (ha : PE X a (tE B Fa)) (hb : PE X b (tE B Fb)) : PE X (.BinOp a .Mod b pos) (tE B (fOp pyMod Fa Fb)) := x_op op_mod o_ic ha hb
theorem x_pow (ha : PE X a (tE B Fa)) (hb : PE X b (tE B Fb)) : PE X (.BinOp a .Pow b pos) (tE B (fOp pyPow Fa Fb)) := x_op op_pow o_ic ha hb
theorem x_shl (ha : PE X a (tE B Fa)) (hb : PE X b (tE B Fb)) : PE X (.BinOp a .LShift b pos) (tE B (fOp pyShl Fa Fb)) := x_op op_shl o_ic ha hb
theorem x_shr (ha : PE X a (tE B Fa)) (hb : PE X b (tE B Fb)) : PE X (.BinOp a .RShift b pos) (tE B (fOp pyShr Fa Fb)) := x_op op_shr o_ic ha hb
theorem x_band (ha : PE X a (tE B Fa)) (hb : PE X b (tE B Fb)) : PE X (.BinOp a .BitAnd b pos) (tE B (fOp pyAnd Fa Fb)) := x_op op_and o_i0 ha hb
theorem x_bor (ha : PE X a (tE B Fa)) (hb : PE X b (tE B Fb)) : PE X (.BinOp a .BitOr b pos) (tE B (fOp pyOr Fa Fb)) := x_op op_or o_i0 ha hb
theorem x_neg (ha : PE X a (tE B Fa)) : PE X (.UnaryOp .USub a pos) (tE B (fUn pyNeg Fa)) := x_un un_neg o_neg ha
theorem x_eq (ok : OkB X B) (hu : X.A.units + 64 < cLine) (ha : PE X a (tE B Fa)) (hb : PE X b (tE B Fb)) : PE X (.Compare a [.Eq] [b] pos) (tE B (fOp pyEq Fa Fb)) := x_cmp (op_eqDK B.K ok.K hu) o_eq ha hb (nomark _)
theorem x_ne (ok : OkB X B) (hu : X.A.units + 64 < cLine) (ha : PE X a (tE B Fa)) (hb : PE X b (tE B Fb)) : PE X (.Compare a [.NotEq] [b] pos) (tE B (fOp pyNe Fa Fb)) := x_cmp (op_neDK B.K ok.K hu) o_ne ha hb (nomark _)
theorem x_lt (ha : PE X a (tE B Fa)) (hb : PE X b (tE B Fb)) : PE X (.Compare a [.Lt] [b] pos) (tE B (fOp pyLt Fa Fb)) := x_cmp op_lt o_b ha hb (nomark _)
theorem x_le (ha : PE X a (tE B Fa)) (hb : PE X b (tE B Fb)) : PE X (.Compare a [.LtE] [b] pos) (tE B (fOp pyLe Fa Fb)) := x_cmp op_le o_b ha hb (nomark _)
theorem x_gt (ha : PE X a (tE B Fa)) (hb : PE X b (tE B Fb)) : PE X (.Compare a [.Gt] [b] pos) (tE B (fOp pyGt Fa Fb)) := x_cmp op_gt o_b ha hb (nomark _)
theorem x_ge (ha : PE X a (tE B Fa)) (hb : PE X b (tE B Fb)) : PE X (.Compare a [.GtE] [b] pos) (tE B (fOp pyGe Fa Fb)) := x_cmp op_ge o_b ha hb (nomark _)
theorem x_is (ha : PE X a (tE B Fa)) (hb : PE X b (tE B Fb)) : PE X (.Compare a [.Is] [b] pos) (tE B (fOp pyIs Fa Fb)) := x_cmp op_isN o_is ha hb (nomark _)
theorem x_isnot (ha : PE X a (tE B Fa)) (hb : PE X b (tE B Fb)) : PE X (.Compare a [.IsNot] [b] pos) (tE B (fOp pyIsNot Fa Fb)) := x_cmp op_notN o_isNot ha hb (nomark _)
theorem xt_eq (ok : OkB X B) (hu : X.A.units + 64 < cLine) (ha : PE X a (tE B Fa)) (hb : PE X b (tE B Fb)) : PT X (.Compare a [.Eq] [b] pos) (tT B (fTest (fOp pyEq Fa Fb))) := xt_cmp (op_eqDK B.K ok.K hu) o_eq ha hb (nomark _)
theorem xt_ne (ok : OkB X B) (hu : X.A.units + 64 < cLine) (ha : PE X a (tE B Fa)) (hb : PE X b (tE B Fb)) : PT X (.Compare a [.NotEq] [b] pos) (tT B (fTest (fOp pyNe Fa Fb))) := xt_cmp (op_neDK B.K ok.K hu) o_ne ha hb (nomark _)
theorem xt_lt (ha : PE X a (tE B Fa)) (hb : PE X b (tE B Fb)) : PT X (.Compare a [.Lt] [b] pos) (tT B (fTest (fOp pyLt Fa Fb))) := xt_cmp op_lt o_b ha hb (nomark _)
theorem xt_le (ha : PE X a (tE B Fa)) (hb : PE X b (tE B Fb)) : PT X (.Compare a [.LtE] [b] pos) (tT B (fTest (fOp pyLe Fa Fb))) := xt_cmp op_le o_b ha hb (nomark _)
theorem xt_gt (ha : PE X a (tE B Fa)) (hb : PE X b (tE B Fb)) : PT X (.Compare a [.Gt] [b] pos) (tT B (fTest (fOp pyGt Fa Fb))) := xt_cmp op_gt o_b ha hb (nomark _)
theorem xt_ge (ha : PE X a (tE B Fa)) (hb : PE X b (tE B Fb)) : PT X (.Compare a [.GtE] [b] pos) (tT B (fTest (fOp pyGe Fa Fb))) := xt_cmp op_ge o_b ha hb (nomark _)
theorem xt_is (ha : PE X a (tE B Fa)) (hb : PE X b (tE B Fb)) : PT X (.Compare a [.Is] [b] pos) (tT B (fTest (fOp pyIs Fa Fb))) := xt_cmp op_isN o_is ha hb (nomark _)
theorem xt_isnot (ha : PE X a (tE B Fa)) (hb : PE X b (tE B Fb)) : PT X (.Compare a [.IsNot] [b] pos) (tT B (fTest (fOp pyIsNot Fa Fb))) := xt_cmp op_notN o_isNot ha hb (nomark _)
theorem ix_seqK {K : Fg} (hK : X.K = K) : IxR X (rIx K) := by
  subst hK
  exact ix_seq
theorem x_idx (ok : OkB X B) (ha : PE X a (tE B Fa)) (hb : PE X b (tE B Fb)) (hs : PlainIx b := by intro _ _; rfl) : PE X (.Subscript a b pos) (tE B (fOp pyIx Fa Fb)) := x_ix (ix_seqK ok.K) o_ix ha hb hs
theorem call_lenA {K : Fg} (hK : X.K = K) : CallR X (.builtin "len") (rLenA K) := by
  subst hK
  exact call_len
theorem x_len (ok : OkB X B) (hg : Gl X "len") (hm : X.mg "len" = none) (ha : PA X [e] (tA B A)) (he : starEach (e :: []) X.env = (false, eval e X.env) :: starEach [] X.env := by rfl) (hpl : (backTo pos (starEach [] X.env)).any (·.1) = false := by rfl) :
    PE X (.Call (.Name "len" p) [e] [] pos) (tE B (fCB pyLen A)) := x_callB (call_lenA ok.K) o_len hg hm PySem.boot_len ha (by decide) (by decide) he hpl
theorem x_int (hg : Gl X "int") (hm : X.mg "int" = none) (ha : PA X [e] (tA B A)) (he : starEach (e :: []) X.env = (false, eval e X.env) :: starEach [] X.env := by rfl) (hpl : (backTo pos (starEach [] X.env)).any (·.1) = false := by rfl) :
    PE X (.Call (.Name "int" p) [e] [] pos) (tE B (fCB pyInt A)) := x_callTy call_intA o_int hg hm (by decide +kernel) ha (by decide) (by decide) he hpl
theorem x_str (hg : Gl X "str") (hm : X.mg "str" = none) (ha : PA X [e] (tA B A)) (he : starEach (e :: []) X.env = (false, eval e X.env) :: starEach [] X.env := by rfl) (hpl : (backTo pos (starEach [] X.env)).any (·.1) = false := by rfl) :
    PE X (.Call (.Name "str" p) [e] [] pos) (tE B (fCB pyStr A)) := x_callTy (ty := "str") (r := rStrI) call_str_int o_str hg hm (by decide +kernel) ha (by decide) (by decide) he hpl
theorem call_reprK {K : Fg} (hK : X.K = K) (gu : X.A.guards = some []) (hu : X.A.units + 64 < cLine) : CallR X (.builtin "repr") (rRepr K) := by
  subst hK
  exact call_repr gu hu
theorem x_repr (ok : OkB X B) (gu : X.A.guards = some []) (hu : X.A.units + 64 < cLine) (hg : Gl X "repr") (hm : X.mg "repr" = none) (ha : PA X [e] (tA B A)) (he : starEach (e :: []) X.env = (false, eval e X.env) :: starEach [] X.env := by rfl)
    (hpl : (backTo pos (starEach [] X.env)).any (·.1) = false := by rfl) : PE X (.Call (.Name "repr" p) [e] [] pos) (tE B (fCB pyRepr A)) := x_callB (call_reprK ok.K gu hu) o_repr hg hm (by decide +kernel) ha (by decide) (by decide) he hpl
theorem x_list (ok : OkB X B) (hg : Gl X "list") (hm : X.mg "list" = none) (ha : PA X [e] (tA B A)) (he : starEach (e :: []) X.env = (false, eval e X.env) :: starEach [] X.env := by rfl) (hpl : (backTo pos (starEach [] X.env)).any (·.1) = false := by rfl) :
    PE X (.Call (.Name "list" p) [e] [] pos) (tE B (fCB pyList A)) := x_callTy (call_list_ofK B.K ok.K) o_list hg hm (by decide +kernel) ha (by decide) (by decide) he hpl
theorem call_tupleK {K : Fg} (hK : X.K = K) : CallR X (.type "tuple") (rTupleK K) := by
  subst hK
  exact call_tuple_of
theorem x_tuple (ok : OkB X B) (hg : Gl X "tuple") (hm : X.mg "tuple" = none) (ha : PA X [e] (tA B A)) (he : starEach (e :: []) X.env = (false, eval e X.env) :: starEach [] X.env := by rfl) (hpl : (backTo pos (starEach [] X.env)).any (·.1) = false := by rfl) :
    PE X (.Call (.Name "tuple" p) [e] [] pos) (tE B (fCB pyTuple A)) := x_callTy (call_tupleK ok.K) o_tuple hg hm (by decide +kernel) ha (by decide) (by decide) he hpl
theorem x_max2 (ok : OkB X B) (hg : Gl X "max") (hm : X.mg "max" = none) (ha : PA X [e, a] (tA B A)) (he : starEach (e :: [a]) X.env = (false, eval e X.env) :: starEach [a] X.env := by rfl) (hpl : (backTo pos (starEach [a] X.env)).any (·.1) = false := by rfl) :
    PE X (.Call (.Name "max" p) [e, a] [] pos) (tE B (fCB pyMax A)) := x_callB (r := rMax2) (call_max2 ok.calm) o_max2 hg hm (by decide +kernel) ha (by decide) (by decide) he hpl
theorem x_min2 (ok : OkB X B) (hg : Gl X "min") (hm : X.mg "min" = none) (ha : PA X [e, a] (tA B A)) (he : starEach (e :: [a]) X.env = (false, eval e X.env) :: starEach [a] X.env := by rfl) (hpl : (backTo pos (starEach [a] X.env)).any (·.1) = false := by rfl) :
    PE X (.Call (.Name "min" p) [e, a] [] pos) (tE B (fCB pyMin A)) := x_callB (r := rMin2) (call_min2 ok.calm) o_min2 hg hm (by decide +kernel) ha (by decide) (by decide) he hpl
/-! ### texts' methods -/
def MtS' (K : Fg) (r : V → List V → Hp → VK → Prop) (g : Str → List PyData → O) : Prop := ∀ H G z xs ds Q, Sub G H → Lks K H G xs ds → Fi K H G Q (g z ds) → r (.str z) xs H Q
def fSM (g : Str → List PyData → O) (Fo : FE) (A : FA) : FE := fun τ => (Fo τ).bind fun ro τ1 => match look τ1 ro with
  | some (.str z) => (A τ1).bind fun rs τ3 => match looks τ3 rs with
    | some ds => (g z ds).res τ3
    | none => .stuck
  | _ => .stuck
theorem sm_of {r : V → List V → Hp → VK → Prop} {g : Str → List PyData → O} (m : MtS' B.K r g) {σ : L2.St} {H : Hp} {Q : VK} (h : tE B (fSM g Fo A) σ H Q) : tBM B.K "str" r (tE B Fo) (tA B A) σ H Q := by
  obtain ⟨τ, G, R, h⟩ := h
  refine ⟨τ, G, R, Po.bind h fun ro τ1 x H1 G1 _ _ R1 rr h => ?_⟩
  have z := fun d => look_ok (d := d) R1 rr
  revert h z
  generalize look τ1 ro = oo
  intro h z
  split at h
  · rename_i z0
    have e := (z _ rfl).str
    subst e
    refine ⟨rfl, τ1, G1, R1, Po.bind h fun rs τ3 xs H2 G2 _ _ R2 ra h => ?_⟩
    revert h
    cases e1 : looks τ3 rs with
    | none => exact fun h => h.elim
    | some ds => exact fun h => m _ _ _ _ _ _ R2.gh (looks_ok R2 ra e1) (fin_of R2 h)
  · exact h.elim
theorem x_sm {name : Str} {id : String} {r : V → List V → Hp → VK → Prop} {g : Str → List PyData → O} (ok : OkB X B) (slot : PySem.Slot "str" name id) (hty : typeOf (.builtin id) = pure (.type "method_descriptor")) (hm : MtR X id r) (m : MtS' B.K r g) (ho : PE X o (tE B Fo)) (ha : PA X (e :: es) (tA B A))
    (hbase : attributeBase o name X.env (eval o X.env) = eval o X.env := by rfl)
    (hfew : ((backTo pos (starEach (e :: es) X.env)).all (fun x => !x.1) && (backToKw pos (keywordEach [] X.env)).all (fun x => x.1.isSome)
      && decide ((e :: es).length + ([] : List Keyword).length + (if ([] : List Keyword).isEmpty then 0 else 1) < 30)) = true := by rfl)
    (hline : (apos.endLine == pos.line) = true := by rfl) (hs : starEach (e :: es) X.env = (false, eval e X.env) :: starEach es X.env := by rfl) (hplain : (backTo pos (starEach es X.env)).any (·.1) = false := by rfl) :
    PE X (.Call (.Attribute o name apos) (e :: es) [] pos) (tE B (fSM g Fo A)) :=
  PE.wkt (pe_bm PySem.F.plainAttrs_str slot hty hm ho ha hbase hfew hline hs hplain) fun σ H Q h => by
    rw [ok.K]
    exact sm_of m h
theorem x_sm0 {name : Str} {id : String} {r : V → List V → Hp → VK → Prop} {g : Str → List PyData → O} (ok : OkB X B) (slot : PySem.Slot "str" name id) (hty : typeOf (.builtin id) = pure (.type "method_descriptor")) (hm : MtR X id r) (m : MtS' B.K r g) (ho : PE X o (tE B Fo))
    (hbase : attributeBase o name X.env (eval o X.env) = eval o X.env := by rfl) (hline : (apos.endLine == pos.line) = true := by rfl) :
    PE X (.Call (.Attribute o name apos) [] [] pos) (tE B (fSM g Fo fNil)) :=
  PE.wkt (pe_bm0 PySem.F.plainAttrs_str slot hty hm ho hbase hline) fun σ H Q h => by
    rw [ok.K]
    obtain ⟨τ, G, R, z⟩ := sm_of (A := fNil) m h
    refine ⟨τ, G, R, ?_⟩
    cases q : Fo τ with
    | ok a τ1 =>
      rw [q] at z
      intro x H1 G1 s R1 rr
      obtain ⟨t1, τ2, G2, R2, z2⟩ := z x H1 G1 s R1 rr
      exact ⟨t1, z2 [] H1 G2 (Sub.refl _) R2 .nil⟩
    | exc c f τ1 =>
      rw [q] at z
      exact z
    | stuck =>
      rw [q] at z
      exact z
/-- texts out of data -/
def strsD : List PyData → Option (List Str)
  | [] => some []
  | .str i :: ds => (strsD ds).map (i :: ·)
  | _ => none
theorem strsD_of {K : Fg} {G : Hp} : ∀ {ds : List PyData} {ns : List Str} {vs : List V}, strsD ds = some ns → DpAll K G vs ds → vs = ns.map V.str
  | [], ns, vs, h, d => by
    cases h
    cases d
    rfl
  | d :: ds, ns, vs, h, dd => by
    cases d with
    | str i =>
      have h : (strsD ds).map (i :: ·) = some ns := h
      cases q : strsD ds with
      | none =>
        rw [q] at h
        cases h
      | some ms =>
        rw [q] at h
        cases h
        cases dd with
        | cons a b =>
          cases a
          rw [strsD_of q b]
          rfl
    | _ => cases h
theorem DpAll.strs {K : Fg} {G : Hp} : ∀ (l : List Str), DpAll K G (l.map V.str) (l.map .str)
  | [] => .nil
  | z :: r => .cons (.str z) (DpAll.strs r)
def gJoin (a : Str) : List PyData → O
  | [.list ds] => match strsD ds with
    | some ys => if (ys.map (·.length)).sum + ys.length * a.length ≤ 16777216 then .v (.str (Txt.join a ys)) else .no
    | none => .no
  | [.tuple ds] => match strsD ds with
    | some ys => if (ys.map (·.length)).sum + ys.length * a.length ≤ 16777216 then .v (.str (Txt.join a ys)) else .no
    | none => .no
  | _ => .no
theorem m_join {K : Fg} : MtS' K (fun x xs H Q => ∃ a p, ∃ ys : List Str, x = .str a ∧ xs = [.ref p] ∧ (SqL K H p (ys.map V.str) ∨ SqT K H p (ys.map V.str)) ∧ (ys.map (·.length)).sum + ys.length * a.length ≤ 16777216 ∧ Q (.str (Txt.join a ys)) H) gJoin := by
  intro H G z xs ds Q s hs h
  unfold gJoin at h
  split at h
  · rename_i ds
    obtain ⟨x, rfl, p, vs, rfl, a, b⟩ := hs.one
    cases q : strsD ds with
    | none =>
      rw [q] at h
      exact h.elim
    | some ys =>
      rw [q] at h
      obtain ⟨c, h⟩ := h.if
      rw [strsD_of q b] at a
      exact ⟨z, p, ys, rfl, rfl, .inl a, c, h _ (.str _)⟩
  · rename_i ds
    obtain ⟨x, rfl, hx⟩ := hs.one
    obtain ⟨p, vs, rfl, a, b⟩ := hx.ref s
    cases q : strsD ds with
    | none =>
      rw [q] at h
      exact h.elim
    | some ys =>
      rw [q] at h
      obtain ⟨c, h⟩ := h.if
      rw [strsD_of q b] at a
      exact ⟨z, p, ys, rfl, rfl, .inr a, c, h _ (.str _)⟩
  · exact h.elim
theorem mt_joinK {K : Fg} (hK : X.K = K) : MtR X "str.join" (fun x xs H Q => ∃ a p, ∃ ys : List Str, x = .str a ∧ xs = [.ref p] ∧ (SqL K H p (ys.map V.str) ∨ SqT K H p (ys.map V.str)) ∧ (ys.map (·.length)).sum + ys.length * a.length ≤ 16777216 ∧ Q (.str (Txt.join a ys)) H) := by
  subst hK
  exact mt_join
def gSplit (a : Str) : List PyData → O
  | [] => if a.length + 2 ≤ sizeLine then .l ((Txt.words a).map .str) else .no
  | [.str b] => if (b.length == 0) = false ∧ a.length + 2 ≤ sizeLine then .l ((Txt.split a b).map .str) else .no
  | _ => .no
end
end T
end

section
set_option Elab.async false
set_option linter.all false
set_option maxRecDepth 100000
set_option maxHeartbeats 2000000
/-! T14: targets assigned, op=, while, in, isinstance, reversed, texts' methods. -/
namespace T
open PySem PySem.Spec PyProof.Rows L2 Z
section
variable {X : Cx} {B : Bs} {e a b t o c : Expr} {es : List Expr} {body : List Stmt} {pos p p2 apos : Pos} {Fa Fb Fo : FE} {A : FA} {x : Str} {gt : TG} {g : FG} {is : List Nat} {Ta : FT} {fb : FS} {tg : Expr}
/-! a, b = e -/
def fAsg (F : FE) (g : FG) : FS := fun τ => (F τ).bind fun r τ1 => (hold r τ1).bind fun r τ2 => match frz1 r τ2 with
  | some (d, τ3) => match g d τ3 with
    | some τ4 => .ok .nx τ4
    | none => .stuck
  | none => .stuck
theorem xs_asg (he : PE X e (tE B Fa)) (hg : PG X tg gt) (gg : GG B is gt g) (hs : swapsWithSole [tg] e pos.line X.env = pure false := by rfl) (hw : swappedStores [tg] e X.env = pure none := by rfl)
    (h1 : (assignEach [tg] X.env).map (fun x => x.snd) = [assign tg X.env] := by rfl) : PS X (.Assign [tg] e pos) (tS B (fAsg Fa g)) := by
  refine PS.wkt (ps_asg he hg hs hw (h1 := h1)) ?_
  rintro D σ H ⟨τ, G, R, h⟩
  refine ⟨τ, G, R, Po.bindS h fun r τ1 v H1 G1 _ _ R1 rr h => ?_⟩
  obtain ⟨rv, τ2, G2, _, _, R2, rr, nt, h⟩ := hold_okS R1 rr h
  cases e1 : frz1 rv τ2 with
  | none =>
    rw [e1] at h
    exact h.elim
  | some z =>
    obtain ⟨d, τ3⟩ := z
    rw [e1] at h
    dsimp only at h
    obtain ⟨G3, s3, R3, hd⟩ := frz1_ok R2 rr e1
    cases e2 : g d τ3 with
    | none =>
      rw [e2] at h
      exact h.elim
    | some τ4 =>
      rw [e2] at h
      exact gg v d σ H1 τ3 G3 τ4 _ R3 hd e2 fun σ' R4 _ _ => h σ' H1 G3 s3 R4
/-! x += e: ints, texts; x -= e -/
def augAdd : PyData → PyData → O
  | .int i, .int j => .v (.int (i + j))
  | .str a, .str b => if a.length + b.length ≤ sizeLine then .v (.str (a ++ b)) else .no
  | _, _ => .no
def augSub : PyData → PyData → O
  | .int i, .int j => .v (.int (i - j))
  | _, _ => .no
def rAugAdd : TIp := fun x y H Q => ipI (fun i j => i + j) x y H Q ∨ ∃ i j, x = .str i ∧ y = .str j ∧ i.length + j.length ≤ sizeLine ∧ Q (.str (i ++ j)) H
theorem ip_addA : PIp X .Add rAugAdd := fun pins s σ H x y v u Q I r1 r2 q => q.elim (ip_add pins s σ H x y v u Q I r1 r2) (iop_add_str pins s σ H x y v u Q I r1 r2)
theorem f_augAdd : OpF rAugAdd augAdd := by
  intro K H G x y d e z Q hx hy hg h
  unfold augAdd at hg
  split at hg
  · cases hx.int
    cases hy.int
    cases hg
    exact .inl ⟨_, _, rfl, rfl, h _ (.int _)⟩
  · rename_i i j
    cases hx.str
    cases hy.str
    by_cases c : i.length + j.length ≤ sizeLine
    · rw [if_pos c] at hg
      cases hg
      exact .inr ⟨_, _, rfl, rfl, c, h _ (.str _)⟩
    · rw [if_neg c] at hg
      cases hg
  · cases hg
theorem f_augSub : OpF (ipI fun i j => i - j) augSub := by
  intro K H G x y d e z Q hx hy hg h
  unfold augSub at hg
  split at hg
  · cases hx.int
    cases hy.int
    cases hg
    exact ⟨_, _, rfl, rfl, h _ (.int _)⟩
  · cases hg
/-! while: at most so many turns -/
def turns : Nat := 100000
def fWhile (c : FT) (b : FS) : FS := fun τ => whileF c b turns τ
theorem xs_while (hp : PassesOwn (model X.prog X.w) X.A X.env X.xe) (hc : PT X c (tT B Ta)) (hb : PSs X body (tS B fb)) : PS X (.While c body [] pos) (tS B (fWhile Ta fb)) := by
  refine PS.wkt (ps_while hp hc hb) ?_
  rintro D σ H ⟨τ, G, R, h⟩
  refine ⟨fun n σ H => ∃ τ G, Rp B σ H τ G ∧ PS1 B G D (whileF Ta fb n τ), ⟨turns, τ, G, R, h⟩, ?_⟩
  rintro n σ H ⟨τ, G, R, h⟩
  cases n with
  | zero => exact h.elim
  | succ n =>
    have h : PS1 B G D ((Ta τ).bind fun t τ1 => if t = true then (match fb τ1 with
      | .ok .nx τ2 => whileF Ta fb n τ2
      | .ok .ct τ2 => whileF Ta fb n τ2
      | .ok .bk τ2 => .ok .nx τ2
      | r => r) else .ok .nx τ1) := h
    refine ⟨τ, G, R, Po.bindS h fun t τ1 x H1 G1 _ _ R1 rr h => ?_⟩
    cases rr
    cases t with
    | false => exact h σ H1 G1 (Sub.refl _) R1
    | true =>
      rw [if_pos rfl] at h
      refine ⟨fun σ' H' => ∃ m, m < n + 1 ∧ ∃ τ G, Rp B σ' H' τ G ∧ PS1 B G D (whileF Ta fb m τ), fun σ' H' z => z, τ1, G1, R1, ?_⟩
      revert h
      generalize fb τ1 = r
      intro h
      cases r with
      | ok r τ2 =>
        cases r with
        | nx => exact fun σ' H2 G' s' R' => ⟨n, Nat.lt_succ_self n, τ2, G', R', PS1.sub s' h⟩
        | ct => exact fun σ' H2 G' s' R' => ⟨n, Nat.lt_succ_self n, τ2, G', R', PS1.sub s' h⟩
        | bk => exact h
        | rt r => exact h
      | exc c f τ2 => exact h
      | stuck => exact h
/-! ### in -/
/-- flat values: as the library compares them -/
def eqF : PyData → PyData → Bool
  | .none, .none => true
  | .bool a, .bool b => a == b
  | .bool a, .int b => (if a then 1 else 0) == b
  | .int a, .bool b => a == (if b then 1 else 0)
  | .int a, .int b => a == b
  | .str a, .str b => a == b
  | _, _ => false
def pyIn (x : PyData) (y : PyData) : O := match y with
  | .str t => match x with
    | .str s => .v (.bool (!(Builtin.Str.occurrences t s 0 t.length 1).isEmpty))
    | _ => .no
  | .list ds => if SeqAt.shaped x = true ∧ SeqAt.shaped (.list ds) = true then .v (.bool (ds.any fun z => PyData.eqv z x)) else .no
  | .tuple ds => if flat x = true ∧ ds.all flat = true then .v (.bool (ds.any fun z => eqF z x)) else .no
  | _ => .no
theorem flat_V {K : Fg} {G : Hp} {x : V} {d : PyData} (h : Dp K G x d) (f : flat d = true) : flatV x = true := by
  cases h <;> first | rfl | (cases f)
theorem eqF_V {K : Fg} {G : Hp} {x y : V} {d e : PyData} (hx : Dp K G x d) (hy : Dp K G y e) (fx : flat d = true) (fy : flat e = true) : eqV x y = eqF d e := by
  cases hx <;> first | (cases fx; done) | (cases hy <;> first | rfl | (cases fy; done))
theorem anyF {K : Fg} {G : Hp} {x : V} {d : PyData} (hx : Dp K G x d) (fx : flat d = true) : ∀ {vs : List V} {ds : List PyData}, DpAll K G vs ds → ds.all flat = true → vs.all flatV = true ∧ inV x vs = ds.any fun z => eqF z d
  | _, _, .nil, _ => ⟨rfl, rfl⟩
  | _, _, .cons a b, h => by
    rw [List.all_cons, Bool.and_eq_true] at h
    obtain ⟨h1, h2⟩ := anyF hx fx b h.2
    refine ⟨by rw [List.all_cons, flat_V a h.1, h1]; rfl, ?_⟩
    unfold inV at h2 ⊢
    rw [List.any_cons, List.any_cons, h2, eqF_V a hx h.1 fx]
theorem Lk.flat {K : Fg} {H G : Hp} {x : V} {d : PyData} (h : Lk K H G x d) (f : flat d = true) : Dp K G x d := by
  cases d <;> first | exact h | (cases f)
def rInA (K : Fg) : R2 := fun x y H Q => (∃ i j, x = .str i ∧ y = .str j ∧ Q (.bl (!(Builtin.Str.occurrences j i 0 j.length 1).isEmpty)) H) ∨ rInD K x y H Q ∨ rIn K false x y H Q
theorem op_inA {K : Fg} (hK : X.K = K) (hu : X.A.units + 65 < cLine) : OpR X (compareOp .In) (rInA K) := by
  subst hK
  exact op_in_str.or ((op_inD hu).or op_in_seq)
theorem o_in {K : Fg} : Op2 K (rInA K) pyIn := by
  intro H G x y d e Q s hx hy h
  unfold pyIn at h
  split at h
  · split at h
    · cases hx.str
      cases hy.str
      exact .inl ⟨_, _, rfl, rfl, h _ (.bl _)⟩
    · exact h.elim
  · obtain ⟨⟨c1, c2⟩, h⟩ := h.if
    exact .inr (.inl ⟨_, _, hx.dp s, hy.dp s, c1, c2, h _ (.bl _)⟩)
  · obtain ⟨⟨c1, c2⟩, h⟩ := h.if
    obtain ⟨p, vs, rfl, a, b⟩ := hy.ref s
    obtain ⟨f1, f2⟩ := anyF (hx.flat c1) c1 b c2
    refine .inr (.inr ⟨p, vs, rfl, .inr a, flat_V (hx.flat c1) c1, f1, ?_⟩)
    rw [f2]
    exact h _ (.bl _)
  · exact h.elim
def negO : O → O
  | .v (.bool b) => .v (.bool (!b))
  | _ => .no
def pyNotIn (x y : PyData) : O := negO (pyIn x y)
def rNotInA (K : Fg) : R2 := fun x y H Q => (∃ i j, x = .str i ∧ y = .str j ∧ Q (.bl (!(!(Builtin.Str.occurrences j i 0 j.length 1).isEmpty))) H) ∨ rNotInD K x y H Q ∨ rIn K true x y H Q
theorem op_notInA {K : Fg} (hK : X.K = K) (hu : X.A.units + 65 < cLine) : OpR X (compareOp .NotIn) (rNotInA K) := by
  subst hK
  exact op_notIn_str.or ((op_notInD hu).or op_notIn_seq)
theorem Fi.ifn {K : Fg} {H G : Hp} {Q : VK} {c : Prop} [Decidable c] {o : O} (h : Fi K H G Q (negO (if c then o else .no))) : c ∧ Fi K H G Q (negO o) := by
  by_cases q : c
  · rw [if_pos q] at h
    exact ⟨q, h⟩
  · rw [if_neg q] at h
    exact h.elim
theorem o_notIn {K : Fg} : Op2 K (rNotInA K) pyNotIn := by
  intro H G x y d e Q s hx hy h
  unfold pyNotIn pyIn at h
  split at h
  · split at h
    · cases hx.str
      cases hy.str
      exact .inl ⟨_, _, rfl, rfl, h _ (.bl _)⟩
    · exact h.elim
  · obtain ⟨⟨c1, c2⟩, h⟩ := h.ifn
    exact .inr (.inl ⟨_, _, hx.dp s, hy.dp s, c1, c2, h _ (.bl _)⟩)
  · obtain ⟨⟨c1, c2⟩, h⟩ := h.ifn
    obtain ⟨p, vs, rfl, a, b⟩ := hy.ref s
    obtain ⟨f1, f2⟩ := anyF (hx.flat c1) c1 b c2
    refine .inr (.inr ⟨p, vs, rfl, .inr a, flat_V (hx.flat c1) c1, f1, ?_⟩)
    rw [f2]
    exact h _ (.bl _)
  · exact h.elim
theorem x_in (ok : OkB X B) (hu : X.A.units + 65 < cLine) (ha : PE X a (tE B Fa)) (hb : PE X b (tE B Fb)) (hm : behindInMarks .In b = false := by rfl) : PE X (.Compare a [.In] [b] pos) (tE B (fOp pyIn Fa Fb)) := x_cmp (op_inA ok.K hu) o_in ha hb hm
theorem x_notin (ok : OkB X B) (hu : X.A.units + 65 < cLine) (ha : PE X a (tE B Fa)) (hb : PE X b (tE B Fb)) (hm : behindInMarks .NotIn b = false := by rfl) : PE X (.Compare a [.NotIn] [b] pos) (tE B (fOp pyNotIn Fa Fb)) := x_cmp (op_notInA ok.K hu) o_notIn ha hb hm
theorem xt_in (ok : OkB X B) (hu : X.A.units + 65 < cLine) (ha : PE X a (tE B Fa)) (hb : PE X b (tE B Fb)) (hm : behindInMarks .In b = false := by rfl) : PT X (.Compare a [.In] [b] pos) (tT B (fTest (fOp pyIn Fa Fb))) := xt_cmp (op_inA ok.K hu) o_in ha hb hm
theorem xt_notin (ok : OkB X B) (hu : X.A.units + 65 < cLine) (ha : PE X a (tE B Fa)) (hb : PE X b (tE B Fb)) (hm : behindInMarks .NotIn b = false := by rfl) : PT X (.Compare a [.NotIn] [b] pos) (tT B (fTest (fOp pyNotIn Fa Fb))) := xt_cmp (op_notInA ok.K hu) o_notIn ha hb hm
theorem hu65 {k : Nat} {A : Around} (hr : Room k A) : A.units + 65 < cLine := by
  have h := hr.un
  omega
/-! ### isinstance of a built-in class -/
inductive Ty where
  | int | bool | str | list | tuple
  deriving DecidableEq
def Ty.nm : Ty → String
  | .int => "int" | .bool => "bool" | .str => "str" | .list => "list" | .tuple => "tuple"
def tyName : PyData → Option String
  | .none => some "NoneType" | .bool _ => some "bool" | .int _ => some "int" | .str _ => some "str" | .list _ => some "list" | .tuple _ => some "tuple" | .dict _ => none
def isTy : Ty → PyData → Option Bool
  | .int, .int _ => some true | .int, .bool _ => some true
  | .bool, .bool _ => some true | .str, .str _ => some true | .list, .list _ => some true | .tuple, .tuple _ => some true
  | _, .dict _ => none
  | _, _ => some false
theorem isTy_kit (t : Ty) (d : PyData) (b : Bool) (h : isTy t d = some b) : ∃ n, tyName d = some n ∧ kitB n t.nm = some b := by
  cases t <;> cases d <;> first
    | (cases h; done)
    | (cases h; exact ⟨_, rfl, by decide +kernel⟩)
theorem tyX_of {K : Fg} {H G : Hp} {x : V} {d : PyData} {n : String} (s : Sub G H) (h : Lk K H G x d) (e : tyName d = some n) : TyX K H x (.type n) := by
  cases d with
  | none =>
    cases h.non
    cases e
    exact .base .non
  | bool b =>
    cases h.bl
    cases e
    exact .base (.bl _)
  | int b =>
    cases h.int
    cases e
    exact .base (.int _)
  | str b =>
    cases h.str
    cases e
    exact .base (.str _)
  | list ds =>
    obtain ⟨p, vs, rfl, a, b⟩ := h
    cases e
    rcases a with (a | ⟨o, a⟩) | ⟨o, its, n, a, hc, _⟩
    · exact .base (.lst a)
    · exact .base (.frz a)
    · exact .kList a hc
  | tuple ds =>
    obtain ⟨p, vs, rfl, a, b⟩ := h.ref s
    cases e
    rcases a with (a | ⟨o, a⟩) | ⟨o, its, n, a, hc, _⟩
    · exact .base (.tup a)
    · exact .fTuple a
    · exact .kTuple a hc
  | dict ds => cases e
def fIsi (t : Ty) (Fa : FE) : FE := fun τ => (Fa τ).bind fun r τ1 => match (look τ1 r).bind (isTy t) with
  | some b => .ok (.val (.bool b)) τ1
  | none => .stuck
theorem call_isiKK {K : Fg} (hK : X.K = K) : CallR X (.builtin "isinstance") (rIsi K) := by
  subst hK
  exact call_isi
theorem x_isi (ok : OkB X B) (t : Ty) {nm : Str} {p3 : Pos} (ha : PE X e (tE B Fa)) (hm : X.mg "isinstance" = none) (hx : PE X (.Name nm p3) (tC (.ty t.nm))) (hg : Gl X "isinstance" := by rfl)
    (he : starEach (e :: [.Name nm p3]) X.env = (false, eval e X.env) :: starEach [.Name nm p3] X.env := by rfl) (hpl : (backTo pos (starEach [.Name nm p3] X.env)).any (·.1) = false := by rfl) (hs2 : starEach (.Name nm p3 :: []) X.env = (false, eval (.Name nm p3) X.env) :: starEach [] X.env := by rfl) :
    PE X (.Call (.Name "isinstance" p) [e, .Name nm p3] [] pos) (tE B (fIsi t Fa)) := by
  refine PE.wkt (pe_callB (call_isiKK ok.K) hg hm (by decide +kernel) (pa_cons ha (pa_cons hx pa_nil hs2) he) (by decide) (by decide) he hpl) ?_
  rintro σ H Q ⟨τ, G, R, h⟩
  refine ⟨τ, G, R, Po.bind h fun r τ1 x H1 G1 _ _ R1 rr h => ?_⟩
  revert h
  cases e1 : look τ1 r with
  | none => exact fun h => h.elim
  | some d =>
    show PE1 B σ G1 Q (match isTy t d with | some b => .ok (.val (.bool b)) τ1 | none => .stuck) → _
    cases e2 : isTy t d with
    | none => exact fun h => h.elim
    | some b =>
      intro h
      obtain ⟨n, hn, hk⟩ := isTy_kit t d b e2
      exact ⟨x, .ty t.nm, .type n, .type t.nm, b, rfl, .ty _, tyX_of R1.gh (look_ok R1 rr e1) hn, kit_ty hk, h _ H1 G1 (Sub.refl _) R1 (.bl _)⟩
/-! ### sum, all, any, max, min of a list -/
theorem cr_allK {K : Fg} (hK : X.K = K) (hc : X.calm = true) : CallR X (.builtin "all") (rAll K) := by
  subst hK
  exact cr_all hc
theorem x_all (ok : OkB X B) (hg : Gl X "all") (hm : X.mg "all" = none) (ha : PA X [e] (tA B A)) (he : starEach (e :: []) X.env = (false, eval e X.env) :: starEach [] X.env := by rfl) (hpl : (backTo pos (starEach [] X.env)).any (·.1) = false := by rfl) :
    PE X (.Call (.Name "all" p) [e] [] pos) (tE B (fCB pyAll A)) := x_callB (cr_allK ok.K ok.calm) o_all hg hm (by decide +kernel) ha (by decide) (by decide) he hpl
theorem cr_anyK {K : Fg} (hK : X.K = K) (hc : X.calm = true) : CallR X (.builtin "any") (rAny K) := by
  subst hK
  exact cr_any hc
theorem x_any (ok : OkB X B) (hg : Gl X "any") (hm : X.mg "any" = none) (ha : PA X [e] (tA B A)) (he : starEach (e :: []) X.env = (false, eval e X.env) :: starEach [] X.env := by rfl) (hpl : (backTo pos (starEach [] X.env)).any (·.1) = false := by rfl) :
    PE X (.Call (.Name "any" p) [e] [] pos) (tE B (fCB pyAny A)) := x_callB (cr_anyK ok.K ok.calm) o_any hg hm (by decide +kernel) ha (by decide) (by decide) he hpl
/-- the least of some ints -/
def pyMinL : List PyData → O
  | [.list ds] => match intsD ds with
    | some (a :: r) => .v (.int (minI a r))
    | _ => .no
  | _ => .no
theorem o_minL {K : Fg} : OpN K (rMin K) pyMinL := by
  intro H G xs ds Q s hs h
  unfold pyMinL at h
  split at h
  · rename_i ds
    obtain ⟨x, rfl, p, vs, rfl, a, b⟩ := hs.one
    split at h
    · rename_i m r q
      rw [intsD_eq q] at b
      rw [DpAll.ints_of b] at a
      refine ⟨p, m :: r, rfl, a, Nat.succ_pos _, fun k hk hle => ?_⟩
      have e : k = minI m r := by
        have h1 := hle (minI m r) (by
          rcases minI_mem (r := r) (a := m) with z | z
          · rw [z]
            exact List.mem_cons_self
          · exact List.mem_cons_of_mem _ z)
        have h2 : minI m r ≤ k := by
          rcases List.mem_cons.mp hk with rfl | hk
          · exact minI_le.1
          · exact minI_le.2 _ hk
        omega
      rw [e]
      exact h _ (.int _)
    · exact h.elim
  · exact h.elim
theorem cr_sumK {K : Fg} (hK : X.K = K) (hc : X.calm = true) : CallR X (.builtin "sum") (rSum K) := by
  subst hK
  exact cr_sum hc
theorem x_sum (ok : OkB X B) (hg : Gl X "sum") (hm : X.mg "sum" = none) (ha : PA X [e] (tA B A)) (he : starEach (e :: []) X.env = (false, eval e X.env) :: starEach [] X.env := by rfl) (hpl : (backTo pos (starEach [] X.env)).any (·.1) = false := by rfl) :
    PE X (.Call (.Name "sum" p) [e] [] pos) (tE B (fCB pySum A)) := x_callB (cr_sumK ok.K ok.calm) o_sum hg hm (by decide +kernel) ha (by decide) (by decide) he hpl
theorem cr_maxK {K : Fg} (hK : X.K = K) (hc : X.calm = true) : CallR X (.builtin "max") (rMax K) := by
  subst hK
  exact cr_max hc
theorem x_maxL (ok : OkB X B) (hg : Gl X "max") (hm : X.mg "max" = none) (ha : PA X [e] (tA B A)) (he : starEach (e :: []) X.env = (false, eval e X.env) :: starEach [] X.env := by rfl) (hpl : (backTo pos (starEach [] X.env)).any (·.1) = false := by rfl) :
    PE X (.Call (.Name "max" p) [e] [] pos) (tE B (fCB pyMaxL A)) := x_callB (cr_maxK ok.K ok.calm) o_maxL hg hm (by decide +kernel) ha (by decide) (by decide) he hpl
theorem cr_minK {K : Fg} (hK : X.K = K) (hc : X.calm = true) : CallR X (.builtin "min") (rMin K) := by
  subst hK
  exact cr_min hc
theorem x_minL (ok : OkB X B) (hg : Gl X "min") (hm : X.mg "min" = none) (ha : PA X [e] (tA B A)) (he : starEach (e :: []) X.env = (false, eval e X.env) :: starEach [] X.env := by rfl) (hpl : (backTo pos (starEach [] X.env)).any (·.1) = false := by rfl) :
    PE X (.Call (.Name "min" p) [e] [] pos) (tE B (fCB pyMinL A)) := x_callB (cr_minK ok.K ok.calm) o_minL hg hm (by decide +kernel) ha (by decide) (by decide) he hpl
/-! ### extend, pop -/
theorem ext_meets (l b : Addr) (us ws : Array Value) (n m : Nat) (dd : Option Addr) (sl : Array (Option Value)) (h0 : ¬(!us.isEmpty && Builtin.List.listTooLong (us.size + ws.size)) = true) (h1 : us.size ≤ sizeLine) (h2 : us.size + ws.size ≤ sizeLine + 1) :
    Meets (Builtin.«list.extend» ⟨[.ref l, .ref b], []⟩) fun _ R s => s.heap.get? l = some { cls := .type "list", dict := none, data := .seq us n, slots := #[] } ∧
      s.heap.get? b = some { cls := .type "list", dict := dd, data := .seq ws m, slots := sl } ∧
      R (.ok (.ret Value.none)) { s with heap := s.heap.update l (Obj.mapSeq fun x => x ++ ws), toks := s.toks } := by
  refine .of_wp fun prog w A R s h => ?_
  obtain ⟨hp, gs, dr, tk, os⟩ := s
  obtain ⟨hl, hb, q⟩ := h
  have i1 := AutoSeq1.idx_int
  have i2 := AutoSeq1.sub_tuple_tuple
  have i3 := AutoSeq1.sub_list_list
  have i4 := AutoSeq1.sub_tuple_list
  have i5 := AutoSeq1.sub_list_tuple
  have z : (us ++ ws).size ≤ sizeLine + 1 := by
    rw [Array.size_append]
    exact h2
  wp_walk using (wpAny_updateSeq hl rfl (hz := h1) (_hz' := z)), wpAny_loadPart' hl, wpAny_loadPart' hb
  exact ⟨_, rfl, q⟩
def rExtS (K : Fg) : V → List V → Hp → VK → Prop := fun x vs H Q => ∃ l b xs zs, x = .ref l ∧ vs = [.ref b] ∧ H l = some (.lst xs) ∧ SqL K H b zs ∧ xs.length + zs.length ≤ 100000 ∧ Ch H l (.lst (xs ++ zs)) (Q .non)
theorem mt_extS {K : Fg} (hK : X.K = K) : MtM X "list.extend" (rExtS K) := by
  subst hK
  intro pins s σ H x vs v us Q I rx rv h
  obtain ⟨l, b, xs, zs, rfl, rfl, hH, hB, hz, q⟩ := h
  cases rx
  obtain ⟨u, rfl, ru⟩ := rv.one
  cases ru
  obtain ⟨z, its, n, r, hl, e⟩ := I.lstM hH
  obtain ⟨its2, r2, ⟨⟨c2, dd2, dt2, sl2⟩, n2, ho2, hc2, hd2, ht2⟩, _⟩ := I.list hB
  simp only at hc2 hd2 ht2
  subst hc2 hd2 ht2
  have l2 := r2.length
  have sz := sizeLine_eq
  have sm : its.toArray.size + its2.toArray.size ≤ sizeLine := by
    rw [List.size_toArray, List.size_toArray]
    omega
  have lg : ¬ (!its.toArray.isEmpty && Builtin.List.listTooLong (its.toArray.size + its2.toArray.size)) = true := by
    rw [notLongL sm, Bool.and_false]
    exact Bool.false_ne_true
  refine call_meets PySem.F.slot_list_extend ⟨_, e, rfl⟩ PySem.F.entry_list_extend (PySem.F.args_list_extend_2 _ _) (ext_meets l b its.toArray its2.toArray n n2 none sl2 lg (by omega) (by omega)) ⟨e, ho2, ?_⟩
  refine ⟨.non, _, I.lset (its' := its ++ its2) hH e (by simp) (r.append r2) ?_, rfl, q.of⟩
  rw [List.length_append]
  omega
theorem m_ext {K : Fg} : MuR K (rExtS K) gExt := by
  intro H G l vs xs ds as ds' d Q s eh dv dx hg h
  unfold gExt at hg
  split at hg
  · rename_i es
    by_cases c : ds.length + es.length ≤ 100000
    · rw [if_pos c] at hg
      cases hg
      cases dx with
      | cons a b =>
        cases b
        cases a with
        | @lst b ws _ hs hv =>
          refine ⟨l, b, vs, ws, rfl, rfl, eh, SqL.sub s hs, by rw [dv.len, hv.len]; exact c, fun H2 k e => ?_⟩
          exact h H2 _ .non k e (dv.app hv) .non
    · rw [if_neg c] at hg
      cases hg
  · cases hg
end
/-! ### a def that calls itself: by how deep it goes -/
section
variable {P : Program} {w : World} {K : Fg} {mg : Str → Option Value} {base : Heap} {k : Nat}
theorem no_turn {X : Cx} {B : Bs} {sts : List Stmt} : PSs X sts (tS B fun _ => .stuck) := PSs.wkt pss_never fun D σ H ⟨τ, G, R, h⟩ => h
theorem mkFd_no {N : Nat} : mkFd N (fun _ => .stuck) = fun _ => .stuck := rfl
end
end T
end

section
set_option Elab.async false
set_option linter.all false
set_option maxRecDepth 100000
set_option maxHeartbeats 2000000
/-! T15: errors raised and handled. -/
namespace T
open PySem PySem.Spec PyProof.Rows L2 Z
section
variable {X : Cx} {B : Bs} {e a b : Expr} {es : List Expr} {pos p pos' np : Pos} {A : FA} {x : Str} {C fI : Addr}
/-! raise X(), X without an __init__ -/
def fRaise0 (x : Str) : FS := fun τ => .exc x none τ
theorem xs_raise0 (ok : OkB X B) (q : PySem.W.excIn X.K C [.type "ValueError", .type "Exception", .type "BaseException", .type "object"] "ValueError.__new__" = true) (gC : X.mg x = some (.ref C)) (kC : PySem.W.keepIn X.K (.ref C) = true) (r : Raises X (.ref C)) (hg : Gl X x)
    (hdb : (x == ("__debug__" : Str)) = false := by decide) : PS X (.Raise (some (.Call (.Name x p) [] [] pos)) none pos') (tS B (fRaise0 x)) := by
  refine PS.wkt (ps_raise ok.calm ok.tk (pmk_own0 PySem.F.excBase_ValueError q gC kC r hg hdb)) ?_
  rintro D σ H ⟨τ, G, R, h⟩
  exact h _ _ σ H G (Sub.refl _) R ⟨⟨C, rfl, by rw [← ok.mg]; exact gC⟩, rfl⟩
/-! an own class whose __init__ keeps two fields -/
def spInit2 (C : Addr) (f g : Str) : Sp := fun vs H Q _ => ∃ a v w, vs = [.ref a, v, w] ∧ H a = some (exo a C none) ∧ ∀ d, H d = none → d ≠ a → Q .non (upd (upd (upd H d (exd d [(f, v)])) a (exo a C (some d))) d (exd d [(g, w), (f, v)]))
def spInit1 (C : Addr) (f : Str) : Sp := fun vs H Q _ => ∃ a v, vs = [.ref a, v] ∧ H a = some (exo a C none) ∧ ∀ d, H d = none → d ≠ a → Q .non (upd (upd H d (exd d [(f, v)])) a (exo a C (some d)))
theorem init2_of {K : Fg} (T : OexC K C) {f g : Str} (nf : PySem.W.findIn K (.ref C) f = some none) (ng : PySem.W.findIn K (.ref C) g = some none) {H : Hp} {σ : L2.St} {D : Ends} {a : Addr} {v w : V} (h0 : σ[0]? = some (some (.ref a))) (h1 : σ[1]? = some (some v)) (h2 : σ[2]? = some (some w)) (ha : H a = some (exo a C none))
    (q : ∀ d, H d = none → d ≠ a → D.nx σ (upd (upd (upd H d (exd d [(f, v)])) a (exo a C (some d))) d (exd d [(g, w), (f, v)]))) : tSeq (tOst K f (tVar 0) (tVar 1)) (tOst K g (tVar 0) (tVar 2)) D σ H := by
  refine ⟨v, h1, .ref a, h0, a, C, rfl, T, nf, .inl ⟨ha, fun d nd ne => ?_⟩⟩
  refine ⟨w, h2, .ref a, h0, a, C, rfl, T, ng, .inr ⟨d, [(f, v)], upd_same, ?_, Nat.le_of_lt (by show 1 < 900; decide), q d nd ne⟩⟩
  rw [upd_ne ne, upd_same]
theorem init1_of {K : Fg} (T : OexC K C) {f : Str} (nf : PySem.W.findIn K (.ref C) f = some none) {H : Hp} {σ : L2.St} {D : Ends} {a : Addr} {v : V} (h0 : σ[0]? = some (some (.ref a))) (h1 : σ[1]? = some (some v)) (ha : H a = some (exo a C none))
    (q : ∀ d, H d = none → d ≠ a → D.nx σ (upd (upd H d (exd d [(f, v)])) a (exo a C (some d)))) : tOst K f (tVar 0) (tVar 1) D σ H :=
  ⟨v, h1, .ref a, h0, a, C, rfl, T, nf, .inl ⟨ha, q⟩⟩
/-- what the text says of such a class -/
structure ExT (P : Program) (w : World) (K : Fg) (mg : Str → Option Value) (base : Heap) (x : Str) (C : Addr) (sp : Sp) (n : Nat) : Prop where
  ex : ∃ (fI : Addr) (fd : FuncData) (ps : List Str), OexC K C ∧ PySem.W.findIn K (.ref C) "__init__" = some (some (.ref fI)) ∧ PySem.W.typeIn K (.ref fI) = some (.type "function") ∧ FnOk P w K mg base (L2.CX P w) 1 fI fd ps sp ∧ mg x = some (.ref C) ∧ Binds K fd ps [] ∧ ps.length = n
/-- e's two fields; the latest first -/
def zip2 (f g : Str) : List PyData → Option (List (Str × PyData))
  | [d, e] => some [(g, e), (f, d)]
  | _ => none
def zip1 (f : Str) : List PyData → Option (List (Str × PyData))
  | [d] => some [(f, d)]
  | _ => none
def fRaise (x : Str) (z : List PyData → Option (List (Str × PyData))) (A : FA) : FS := fun τ => (A τ).bind fun rs τ1 => match frzs τ1 rs with
  | some (ds, τ2) => match z ds with
    | some fs => .exc x (some fs) τ2
    | none => .stuck
  | none => .stuck
theorem xs_raise2 {f g : Str} (ok : OkB X B) (c : ExT X.prog X.w X.K X.mg X.base x C (spInit2 C f g) 3) (hr : Room 2 X.A) (hg : Gl X x) (ha : PA X (e :: es) (tA B A))
    (hdb : (x == ("__debug__" : Str)) = false := by decide) (he : starEach (e :: es) X.env = (false, eval e X.env) :: starEach es X.env := by rfl) (hpl : (backTo pos (starEach es X.env)).any (·.1) = false := by rfl) :
    PS X (.Raise (some (.Call (.Name x p) (e :: es) [] pos)) none pos') (tS B (fRaise x (zip2 f g) A)) := by
  obtain ⟨fI, fd, ps, T, iC, tI, F1, hm, bd, hn⟩ := c.ex
  refine PS.wkt (ps_raise ok.calm ok.tk (pmk_oex T iC tI F1 hr bd .nil (fun pins σ H s e s' _ h => (none_out h).elim) hg hm ha hdb he hpl)) ?_
  rintro D σ H ⟨τ, G, R, h⟩
  refine ⟨τ, G, R, Po.bindS h fun rs τ1 xs H1 G1 _ _ R1 ra h => ?_⟩
  cases e1 : frzs τ1 rs with
  | none =>
    rw [e1] at h
    exact h.elim
  | some z =>
    obtain ⟨ds, τ2⟩ := z
    rw [e1] at h
    dsimp only at h
    obtain ⟨G2, s2, R2, hd⟩ := frzs_ok R1 ra e1
    cases hd with
    | nil => exact h.elim
    | @cons v _ d _ hv t =>
      cases t with
      | nil => exact h.elim
      | @cons w _ d2 _ hw t =>
        cases t with
        | cons _ _ => exact h.elim
        | nil =>
          refine ⟨by show 2 ≤ 1000; decide, fun a na => ?_⟩
          refine ⟨a, v, w, rfl, upd_same, fun dd nd ne => ⟨rfl, dd, [(g, w), (f, v)], ?_, upd_same, ?_, ?_⟩⟩
          · rw [upd_ne (fun z => ne z.symm), upd_same]
          · rw [upd_ne ne] at nd
            exact nd
          · have nd' : H1 dd = none := by
              rw [upd_ne ne] at nd
              exact nd
            generalize hH : upd (del (upd (upd (upd (upd H1 a (exo a C none)) dd (exd dd [(f, v)])) a (exo a C (some dd))) dd (exd dd [(g, w), (f, v)])) a) dd (.xd [(g, w), (f, v)]) = HH
            have k : Kp [] H1 HH := fun b o eb _ => by
              have b1 : b ≠ a := ne_of_none eb na
              have b2 : b ≠ dd := ne_of_none eb nd'
              rw [← hH, upd_ne b2, del_ne b1, upd_ne b2, upd_ne b1, upd_ne b2, upd_ne b1]
              exact eb
            have ed : HH dd = some (.xd [(g, w), (f, v)]) := by rw [← hH, upd_same]
            have gd := R2.g nd'
            have s3 : Sub G2 (upd G2 dd (.xd [(g, w), (f, v)])) := Sub.upd gd
            have R3 := (R2.more k).frz ed (R2.h0 nd') (R2.notOwn nd') gd
            refine h _ _ σ HH _ (s2.trans s3) R3 ⟨⟨C, rfl, by rw [← ok.mg]; exact hm⟩, dd, _, rfl, upd_same, ?_⟩
            exact .cons ⟨rfl, Dp.sub s3 hw⟩ (.cons ⟨rfl, Dp.sub s3 hv⟩ .nil)
theorem xs_raise1 {f : Str} (ok : OkB X B) (c : ExT X.prog X.w X.K X.mg X.base x C (spInit1 C f) 2) (hr : Room 2 X.A) (hg : Gl X x) (ha : PA X (e :: es) (tA B A))
    (hdb : (x == ("__debug__" : Str)) = false := by decide) (he : starEach (e :: es) X.env = (false, eval e X.env) :: starEach es X.env := by rfl) (hpl : (backTo pos (starEach es X.env)).any (·.1) = false := by rfl) :
    PS X (.Raise (some (.Call (.Name x p) (e :: es) [] pos)) none pos') (tS B (fRaise x (zip1 f) A)) := by
  obtain ⟨fI, fd, ps, T, iC, tI, F1, hm, bd, hn⟩ := c.ex
  refine PS.wkt (ps_raise ok.calm ok.tk (pmk_oex T iC tI F1 hr bd .nil (fun pins σ H s e s' _ h => (none_out h).elim) hg hm ha hdb he hpl)) ?_
  rintro D σ H ⟨τ, G, R, h⟩
  refine ⟨τ, G, R, Po.bindS h fun rs τ1 xs H1 G1 _ _ R1 ra h => ?_⟩
  cases e1 : frzs τ1 rs with
  | none =>
    rw [e1] at h
    exact h.elim
  | some z =>
    obtain ⟨ds, τ2⟩ := z
    rw [e1] at h
    dsimp only at h
    obtain ⟨G2, s2, R2, hd⟩ := frzs_ok R1 ra e1
    cases hd with
    | nil => exact h.elim
    | @cons v _ d _ hv t =>
      cases t with
      | cons _ _ => exact h.elim
      | nil =>
        refine ⟨by show 1 ≤ 1000; decide, fun a na => ?_⟩
        refine ⟨a, v, rfl, upd_same, fun dd nd ne => ⟨rfl, dd, [(f, v)], upd_same, ?_, ?_, ?_⟩⟩
        · rw [upd_ne ne, upd_same]
        · rw [upd_ne ne] at nd
          exact nd
        · have nd' : H1 dd = none := by
            rw [upd_ne ne] at nd
            exact nd
          generalize hH : upd (del (upd (upd (upd H1 a (exo a C none)) dd (exd dd [(f, v)])) a (exo a C (some dd))) a) dd (.xd [(f, v)]) = HH
          have k : Kp [] H1 HH := fun b o eb _ => by
            have b1 : b ≠ a := ne_of_none eb na
            have b2 : b ≠ dd := ne_of_none eb nd'
            rw [← hH, upd_ne b2, del_ne b1, upd_ne b1, upd_ne b2, upd_ne b1]
            exact eb
          have ed : HH dd = some (.xd [(f, v)]) := by rw [← hH, upd_same]
          have gd := R2.g nd'
          have s3 : Sub G2 (upd G2 dd (.xd [(f, v)])) := Sub.upd gd
          have R3 := (R2.more k).frz ed (R2.h0 nd') (R2.notOwn nd') gd
          refine h _ _ σ HH _ (s2.trans s3) R3 ⟨⟨C, rfl, by rw [← ok.mg]; exact hm⟩, dd, _, rfl, upd_same, ?_⟩
          exact .cons ⟨rfl, Dp.sub s3 hv⟩ .nil
end
/-! ### try: .. except X as n: .. -/
@[reducible] def Bs.wish (B : Bs) (W : WX) : Bs := { B with W := W }
@[reducible] def Bs.held (B : Bs) (a : Addr) (C : Value) (d : Option Addr) : Bs := { B with W := fun _ _ _ _ => False, ex := some (a, C, d) }
section
variable {B : Bs} {σ : L2.St} {H : Hp} {τ : Te} {G : Hp}
theorem Rp.wish (R : Rp B σ H τ G) (W : WX) : Rp (B.wish W) σ H τ G := by
  refine ⟨R.gh, R.g0, R.nw, R.kp, R.da, R.dr, fun i s e => ?_, R.ds, R.ln⟩
  have z := R.sl i s e
  cases s with
  | nv o => rcases o with _ | (x | kd) <;> exact z
  | sh d => exact z
  | ct k l c => cases k <;> exact z
theorem Rp.unwish {W : WX} (R : Rp (B.wish W) σ H τ G) : Rp B σ H τ G := by
  refine ⟨R.gh, R.g0, R.nw, R.kp, R.da, R.dr, fun i s e => ?_, R.ds, R.ln⟩
  have z := R.sl i s e
  cases s with
  | nv o => rcases o with _ | (x | kd) <;> exact z
  | sh d => exact z
  | ct k l c => cases k <;> exact z
/-- no slot tells of a handled error -/
def noEx : Te → Bool
  | [] => true
  | .nv (some _) :: _ => false
  | _ :: ss => noEx ss
theorem noEx_at : ∀ {τ : Te}, noEx τ = true → ∀ {i : Nat} {x : Nv}, τ[i]? ≠ some (.nv (some x))
  | [], _, i, x, e => by simp at e
  | .nv (some _) :: _, h, _, _, _ => by cases h
  | .nv none :: ss, h, 0, x, e => by simp at e
  | .sh _ :: ss, h, 0, x, e => by simp at e
  | .ct _ _ _ :: ss, h, 0, x, e => by simp at e
  | .nv none :: ss, h, i + 1, x, e => noEx_at (τ := ss) h (i := i) (x := x) (by simpa using e)
  | .sh _ :: ss, h, i + 1, x, e => noEx_at (τ := ss) h (i := i) (x := x) (by simpa using e)
  | .ct _ _ _ :: ss, h, i + 1, x, e => noEx_at (τ := ss) h (i := i) (x := x) (by simpa using e)
/-- the suite begins: slot i tells of the error -/
theorem Rp.hold (R : Rp B σ H τ G) {a : Addr} {C : Value} {d : Option Addr} {i : Nat} {x : Exn} (hn : noEx τ = true) (r : REx B.K B.mg G x.c x.f C d) (lk : isLk τ[i]? = false) : Rp (B.held a C d) (σ.set i (some (.ref a))) H (τ.set i (.nv (some (.e x)))) G := by
  have ow : ∀ j, Own (τ.set i (.nv (some (.e x)))) j → Own τ j ∧ j ≠ i := fun j h => Own.of_set (fun k l c z => by cases z) h
  have oa : ∀ p, OwnAt (σ.set i (some (.ref a))) (τ.set i (.nv (some (.e x)))) p → OwnAt σ τ p := fun p ⟨j, hj, ej⟩ => by
    obtain ⟨h1, h2⟩ := ow j hj
    rw [List.getElem?_set_ne (fun z => h2 z.symm)] at ej
    exact ⟨j, h1, ej⟩
  refine ⟨R.gh, R.g0, R.nw, R.kp, R.da, R.dr, fun j s e => ?_, fun j k p hj hk ej ek => ?_, by rw [List.length_set, List.length_set]; exact R.ln⟩
  · by_cases q : i = j
    · subst q
      by_cases hl : i < τ.length
      · rw [List.getElem?_set_self hl] at e
        cases e
        exact ⟨a, C, d, rfl, List.getElem?_set_self (by rw [R.ln]; exact hl), r⟩
      · rw [List.getElem?_eq_none (by simpa using hl)] at e
        cases e
    · rw [List.getElem?_set_ne q] at e
      have z := R.sl j s e
      have es : (σ.set i (some (V.ref a)))[j]? = σ[j]? := List.getElem?_set_ne q
      cases s with
      | nv o =>
        cases o with
        | none => trivial
        | some y => exact absurd e (noEx_at hn)
      | sh d =>
        obtain ⟨v, e1, e2⟩ := z
        exact ⟨v, es.trans e1, e2⟩
      | ct k l c =>
        cases k with
        | ow =>
          obtain ⟨p, o, e1, e2⟩ := z
          exact ⟨p, o, es.trans e1, e2⟩
        | io =>
          obtain ⟨p, o, e1, e2⟩ := z
          exact ⟨p, o, es.trans e1, e2⟩
        | ro =>
          obtain ⟨p, e1, z⟩ := z
          refine ⟨p, es.trans e1, ?_⟩
          rcases z with z | ⟨z, n, hm⟩
          · exact .inl z
          · exact .inr ⟨z, fun w => n (oa p w), hm⟩
  · obtain ⟨h1, h2⟩ := ow j hj
    obtain ⟨h3, h4⟩ := ow k hk
    rw [List.getElem?_set_ne (fun z => h2 z.symm)] at ej
    rw [List.getElem?_set_ne (fun z => h4 z.symm)] at ek
    exact R.ds j k p h1 h3 ej ek
/-- the suite ends: the name goes -/
theorem Rp.unhold {a : Addr} {C : Value} {d : Option Addr} {i : Nat} (R : Rp (B.held a C d) σ H τ G) (hn : noEx (τ.set i .no) = true) : Rp B (σ.set i none) H (τ.set i .no) G := by
  have ow : ∀ j, Own (τ.set i .no) j → Own τ j ∧ j ≠ i := fun j h => Own.of_set (fun k l c z => by cases z) h
  have oa : ∀ p, OwnAt (σ.set i none) (τ.set i .no) p → OwnAt σ τ p := fun p ⟨j, hj, ej⟩ => by
    obtain ⟨h1, h2⟩ := ow j hj
    rw [List.getElem?_set_ne (fun z => h2 z.symm)] at ej
    exact ⟨j, h1, ej⟩
  refine ⟨R.gh, R.g0, R.nw, R.kp, R.da, R.dr, fun j s e => ?_, fun j k p hj hk ej ek => ?_, by rw [List.length_set, List.length_set]; exact R.ln⟩
  · have e' := e
    by_cases q : i = j
    · subst q
      by_cases hl : i < τ.length
      · rw [List.getElem?_set_self hl] at e
        cases e
        trivial
      · rw [List.getElem?_eq_none (by simpa using hl)] at e
        cases e
    · rw [List.getElem?_set_ne q] at e
      have z := R.sl j s e
      have es : (σ.set i none)[j]? = σ[j]? := List.getElem?_set_ne q
      cases s with
      | nv o =>
        cases o with
        | none => trivial
        | some y => exact absurd e' (noEx_at hn)
      | sh d =>
        obtain ⟨v, e1, e2⟩ := z
        exact ⟨v, es.trans e1, e2⟩
      | ct k l c =>
        cases k with
        | ow =>
          obtain ⟨p, o, e1, e2⟩ := z
          exact ⟨p, o, es.trans e1, e2⟩
        | io =>
          obtain ⟨p, o, e1, e2⟩ := z
          exact ⟨p, o, es.trans e1, e2⟩
        | ro =>
          obtain ⟨p, e1, z⟩ := z
          refine ⟨p, es.trans e1, ?_⟩
          rcases z with z | ⟨z, n, hm⟩
          · exact .inl z
          · exact .inr ⟨z, fun w => n (oa p w), hm⟩
  · obtain ⟨h1, h2⟩ := ow j hj
    obtain ⟨h3, h4⟩ := ow k hk
    rw [List.getElem?_set_ne (fun z => h2 z.symm)] at ej
    rw [List.getElem?_set_ne (fun z => h4 z.symm)] at ek
    exact R.ds j k p h1 h3 ej ek
end
/-- behind the suite -/
def unEx (i : Nat) : Res SR → Res SR
  | .ok (.rt (.slot _)) _ => .stuck
  | .ok r τ => if noEx (τ.set i .no) = true then .ok r (τ.set i .no) else .stuck
  | _ => .stuck
/-- tab: which classes the clause takes -/
def fTry (b : FS) (tab : List (Str × Bool)) (i : Nat) (suite : FS) : FS := fun τ => match b τ with
  | .exc c f τ1 => match tab.lookup c with
    | some true => if noEx τ1 = true ∧ isLk τ1[i]? = false then unEx i (suite (τ1.set i (.nv (some (.e ⟨c, f⟩))))) else .stuck
    | some false => .exc c f τ1
    | none => .stuck
  | r => r
section
variable {X : Cx} {B : Bs} {body suite : List Stmt} {b₀ : Stmt} {pos p pos' np : Pos} {x n : Str} {c : Value} {i : Nat} {Fb Fs : FS} {tab : List (Str × Bool)}
theorem OkB.tr (ok : OkB X B) {W : WX} {pn : List (Addr × Obj)} {xe : Value → Shared → Prop} (tk : Takes (X.tr pn xe) W) (po : PassesOwn (model X.prog X.w) X.A X.env xe) : OkB (X.tr pn xe) (B.wish W) := ⟨ok.K, ok.mg, ok.calm, tk, po⟩
theorem xs_try (ok : OkB X B) (hs : X.stack = X.env :: X.outer) (hf : X.env.frame = some X.env.locals) (hN : X.N.Nodup) (hi : X.N[i]? = some n) (hln : X.env.kindOf n = some .local) (hc : Names X x c)
    (ht : ∀ m b, tab.lookup m = some b → ∀ C, X.mg m = some (.ref C) → PySem.W.exmOne X.K (.ref C) c = some b)
    (hb : ∀ (W : WX) (pn : List (Addr × Obj)) (xe : Value → Shared → Prop), OkB (X.tr pn xe) (B.wish W) → PSs (X.tr pn xe) body (tS (B.wish W) Fb))
    (hsu : ∀ (a : Addr) (oe : Obj) (cls : Value) (d : Option Addr) (pn : List (Addr × Obj)), Zc cls d oe → (∃ vs, oe.data = .fields vs) → PSs (X.suite a ((a, oe) :: pn)) (b₀ :: suite) (tS (B.held a cls d) Fs)) :
    PS X (.Try body [.ExceptHandler (some (.Name x np)) (some n) (b₀ :: suite) pos'] [] [] pos) (tS B (fTry Fb tab i Fs)) := by
  refine PS.wkt (ps_try_as (tb := fun W => tS (B.wish W) Fb) (ts := fun a cls d => tS (B.held a cls d) Fs) (Wout := B.W) hs hf hN hi hln hc ok.tk (fun W pn xe tk po => hb W pn xe (ok.tr tk po)) hsu) ?_
  rintro D σ H ⟨τ, G, R, h⟩
  refine ⟨τ, G, R.wish _, ?_⟩
  unfold fTry at h
  revert h
  generalize Fb τ = r
  intro h
  cases r with
  | stuck => exact h
  | ok r τ1 =>
    cases r with
    | rt r => exact fun v σ' H' G' s R' rr => h v σ' H' G' s R'.unwish (by cases r <;> exact rr)
    | nx => exact fun σ' H' G' s R' => h σ' H' G' s R'.unwish
    | bk => exact fun σ' H' G' s R' => h σ' H' G' s R'.unwish
    | ct => exact fun σ' H' G' s R' => h σ' H' G' s R'.unwish
  | exc m f τ1 =>
    dsimp only at h
    intro C d σ' H' G' s R' rx
    have R1 := R'.unwish
    obtain ⟨a0, hC, hm⟩ := rx.1
    subst hC
    cases q : tab.lookup m with
    | none =>
      rw [q] at h
      exact h.elim
    | some b =>
      rw [q] at h
      refine ⟨b, ht m b q a0 (by rw [ok.mg]; exact hm), fun hb => ?_, fun hb => ?_⟩
      · subst hb
        dsimp only at h
        intro a na
        by_cases cn : noEx τ1 = true ∧ isLk τ1[i]? = false
        · rw [if_pos cn] at h
          refine ⟨_, G', R1.hold (x := ⟨m, f⟩) cn.1 rx cn.2, ?_⟩
          revert h
          generalize Fs (τ1.set i (.nv (some (.e ⟨m, f⟩)))) = r
          intro h
          have ifk : ∀ {r : SR} {τ2 : Te}, PS1 B G D (if noEx (τ2.set i .no) = true then .ok r (τ2.set i .no) else .stuck) → noEx (τ2.set i .no) = true ∧ PS1 B G D (.ok r (τ2.set i .no)) := fun {r τ2} h => by
            by_cases c : noEx (τ2.set i .no) = true
            · rw [if_pos c] at h
              exact ⟨c, h⟩
            · rw [if_neg c] at h
              exact h.elim
          cases r with
          | stuck => exact h
          | exc c f τ => exact (show False from h).elim
          | ok r τ2 =>
            cases r with
            | rt r =>
              cases r with
              | slot j => exact h.elim
              | val d0 =>
                obtain ⟨hn, h⟩ := ifk h
                exact fun v σ2 H2 G2 s2 R2 rr => h v (σ2.set i none) H2 G2 (s.trans s2) (R2.unhold hn) rr
              | tmp c0 =>
                obtain ⟨hn, h⟩ := ifk h
                intro v σ2 H2 G2 s2 R2 rr
                have R3 := R2.unhold hn
                refine h v (σ2.set i none) H2 G2 (s.trans s2) R3 ?_
                obtain ⟨p, o, e1, e2, e3, e4, e5, e6, e7⟩ := rr
                refine ⟨p, o, e1, e2, e3, e4, e5, fun ⟨j, hj, ej⟩ => e6 ?_, fun j l c ej es => ?_⟩
                · obtain ⟨h1, h2⟩ := Own.of_set (fun k l c z => by cases z) hj
                  rw [List.getElem?_set_ne (fun z => h2 z.symm)] at ej
                  exact ⟨j, h1, ej⟩
                · have hne : i ≠ j := fun z => by
                    subst z
                    by_cases hl : i < τ2.length
                    · rw [List.getElem?_set_self hl] at ej
                      cases ej
                    · rw [List.getElem?_eq_none (by simpa using hl)] at ej
                      cases ej
                  rw [List.getElem?_set_ne hne] at ej es
                  exact e7 j l c ej es
            | nx =>
              obtain ⟨hn, h⟩ := ifk h
              exact fun σ2 H2 G2 s2 R2 => h _ _ _ (s.trans s2) (R2.unhold hn)
            | bk =>
              obtain ⟨hn, h⟩ := ifk h
              exact fun σ2 H2 G2 s2 R2 => h _ _ _ (s.trans s2) (R2.unhold hn)
            | ct =>
              obtain ⟨hn, h⟩ := ifk h
              exact fun σ2 H2 G2 s2 R2 => h _ _ _ (s.trans s2) (R2.unhold hn)
        · rw [if_neg cn] at h
          exact h.elim
      · subst hb
        exact h _ _ σ' H' G' s R1 rx
end
end T
end

section
set_option Elab.async false
set_option linter.all false
set_option maxRecDepth 100000
set_option maxHeartbeats 2000000
/-! T16: what an except suite asks of its error. -/
namespace T
open PySem PySem.Spec PyProof.Rows L2 Z
/-- the class's own facts -/
structure ExH (K : Fg) (C : Addr) : Prop where
  cl : (PySem.W.clsIn K C).isSome = true
  ga : PySem.W.findIn K (.ref C) "__getattribute__" = some (some (.builtin "BaseException.__getattribute__"))
  gg : PySem.W.findIn K (.ref C) "__getattr__" = some none
  sb : PySem.W.subIn K (.ref C) (.type "BaseException") = some true
  hd : PySem.W.hasDictIn K C = true
  ha : PySem.W.findIn K (.ref C) "__class__" = some (some (.builtin "object.__class__"))
  hn : PySem.W.specialIn K (.builtin "object.__class__") "__get__" = some (some (.builtin "getset_descriptor.__get__"))
  ht : PySem.W.takesIn K (.builtin "object.__class__") = some true
  hm : PySem.W.mroIn K C (.type "object") = some true
def fExF (i : Nat) (f : Str) (cs : List Str) : FE := fun τ => match τ[i]? with
  | some (.nv (some (.e x))) => if cs.contains x.c = true then (match x.f.bind fun fs => fs.lookup f with
    | some d => .ok (.val d) τ
    | none => .stuck) else .stuck
  | _ => .stuck
theorem look_fs {K : Fg} {G : Hp} {f : Str} {d : PyData} : ∀ {vs : List (Str × V)} {fs : List (Str × PyData)}, Paired (fun (p : Str × V) (q : Str × PyData) => p.1 = q.1 ∧ Dp K G p.2 q.2) vs fs → fs.lookup f = some d → ∃ v, vs.lookup f = some v ∧ Dp K G v d
  | _, _, .nil, h => by cases h
  | (n, v) :: vs, (m, e) :: fs, .cons a b, h => by
    obtain ⟨a1, a2⟩ := a
    have a1 : n = m := a1
    subst a1
    by_cases c : (f == n) = true
    · simp only [List.lookup, c] at h ⊢
      cases h
      exact ⟨v, rfl, a2⟩
    · have c : (f == n) = false := by simpa using c
      simp only [List.lookup, c] at h ⊢
      exact look_fs b h
section
variable {X : Cx} {B : Bs} {a : Addr} {oe : Obj} {cls : Value} {d : Option Addr} {pn : List (Addr × Obj)} {i : Nat} {x nm n f : Str} {pos pe p3 : Pos}
/-- the slot's error -/
theorem ex_at {σ : L2.St} {H : Hp} {τ : Te} {G : Hp} (R : Rp (B.held a cls d) σ H τ G) {x : Exn} (e : τ[i]? = some (.nv (some (.e x)))) : σ[i]? = some (some (.ref a)) ∧ REx B.K B.mg G x.c x.f cls d := by
  obtain ⟨a', C', d', h0, h1, h2⟩ := R.sl i _ e
  have h0 : some (a, cls, d) = some (a', C', d') := h0
  cases h0
  exact ⟨h1, h2⟩
theorem x_exf {cs : List Str} (ok : OkB X B) (hz : Zc cls d oe) (hf : ∃ vs, oe.data = .fields vs) (hcs : ∀ c ∈ cs, ∀ C, X.mg c = some (.ref C) → ExH X.K C ∧ PySem.W.findIn X.K (.ref C) f = some none)
    (hv : PE (X.suite a ((a, oe) :: pn)) (.Name n pe) (tVar i)) (hb : attributeBase (.Name n pe) f X.env (eval (.Name n pe) X.env) = eval (.Name n pe) X.env := by rfl) :
    PE (X.suite a ((a, oe) :: pn)) (.Attribute (.Name n pe) f pos) (tE (B.held a cls d) (fExF i f cs)) := by
  have stuckCase : ∀ {τ : Te} {r : FE}, True := fun {_ _} => trivial
  have facts : ∀ {σ : L2.St} {H : Hp} {Q : VK}, tE (B.held a cls d) (fExF i f cs) σ H Q → ∃ C, cls = .ref C ∧ ExH X.K C ∧ PySem.W.findIn X.K (.ref C) f = some none ∧ σ[i]? = some (some (.ref a)) ∧ ∃ (dd : Addr) (fs : List (Str × V)) (v : V), d = some dd ∧ H dd = some (.xd fs) ∧ fs.lookup f = some v ∧ Q v H := by
    rintro σ H Q ⟨τ, G, R, h⟩
    unfold fExF at h
    split at h
    · rename_i x e
      obtain ⟨h1, ⟨C, hC, hm⟩, h2⟩ := ex_at R e
      by_cases c : cs.contains x.c = true
      · rw [if_pos c] at h
        cases q : x.f with
        | none =>
          rw [q] at h
          exact h.elim
        | some fs =>
          rw [q] at h h2
          obtain ⟨dd, vs, e1, e2, pp⟩ := h2
          have h : PE1 (B.held a cls d) σ G Q (match fs.lookup f with | some d => .ok (.val d) τ | none => .stuck) := h
          cases q2 : fs.lookup f with
          | none =>
            rw [q2] at h
            exact h.elim
          | some dv =>
            rw [q2] at h
            obtain ⟨v, l, dp⟩ := look_fs pp q2
            obtain ⟨z1, z2⟩ := hcs x.c (by simpa using c) C (by rw [ok.mg]; exact hm)
            exact ⟨C, hC, z1, z2, h1, dd, vs, v, e1, R.gh _ _ e2, l, h v H G (Sub.refl _) R dp⟩
      · rw [if_neg c] at h
        exact h.elim
    · exact h.elim
  by_cases hx : ∃ C, cls = .ref C ∧ ExH X.K C ∧ PySem.W.findIn X.K (.ref C) f = some none
  · obtain ⟨C, rfl, E, nf⟩ := hx
    refine PE.wkt (pe_xf (C := C) ⟨E.ga, E.gg, E.sb, E.hd⟩ nf hz hf hv hb) fun σ H Q h => ?_
    obtain ⟨C', hC, _, _, h1, r⟩ := facts h
    exact ⟨.ref a, h1, rfl, rfl, r⟩
  · refine ⟨fun pins s σ H Q I h => ?_⟩
    obtain ⟨C', hC, h1, h2, _⟩ := facts h
    exact absurd ⟨C', hC, h1, h2⟩ hx
/-- isinstance(e, c) -/
def fExI (i : Nat) (tab : List (Str × Bool)) : FE := fun τ => match τ[i]? with
  | some (.nv (some (.e x))) => match tab.lookup x.c with
    | some b => .ok (.val (.bool b)) τ
    | none => .stuck
  | _ => .stuck
theorem call_isEx {C : Addr} {c : V} {cv : Value} {b : Bool} (E : ExH X.K C) (hz : Zc (.ref C) d oe) (hf : ∃ vs, oe.data = .fields vs) (hc : ∀ u, RelV c u → u = cv) (k : PySem.W.kitOne X.K (.ref C) cv = some b) :
    CallR (X.suite a ((a, oe) :: pn)) (.builtin "isinstance") (fun xs H Q => xs = [.ref a, c] ∧ (∀ dd, d = some dd → ∃ fs, H dd = some (.xd fs)) ∧ Q (.bl b) H) := by
  intro pins s σ H xs us Q I r h
  obtain ⟨rfl, hd, q⟩ := h
  cases r with
  | cons rx rr =>
    cases rr with
    | cons rt rr =>
      cases rr
      cases rx
      have ec := hc _ rt
      subst ec
      obtain ⟨hget, _⟩ := I.pin (a, oe) (List.mem_append.mpr (.inl List.mem_cons_self))
      obtain ⟨vs, hv⟩ := hf
      have J : ∃ od, PySem.W.InstAt s.heap a oe C od := by
        cases d with
        | none =>
          refine ⟨none, ?_⟩
          obtain ⟨oc, od, oda, osl⟩ := oe
          obtain ⟨h1, h2⟩ := hz
          dsimp only at h1 h2 hv
          subst h1 h2 hv
          exact ⟨hget, rfl, rfl, trivial⟩
        | some dd =>
          obtain ⟨fs, ed⟩ := hd dd rfl
          have hx : ObjOk X.prog X.w H s.heap dd (.xd fs) := I.hok dd _ ed
          obtain ⟨mA, hns, hr⟩ := hx
          obtain ⟨od, ho, hl⟩ := lookIn_ns hns
          exact ⟨some od, hget, hz.1, by unfold PySem.W.notCls; rw [hv] <;> rfl, by rw [hz.2]; exact ho⟩
      obtain ⟨od, J⟩ := J
      exact PySem.W.kia_one (PySem.W.kitx_exc E.cl E.ga E.gg E.sb E.ha E.hn E.ht E.hm) I.kIn J k (fun z => nomatch z) fun tk => ⟨.bl b, H, I.kept (t' := tk) fun _ _ z => z, rfl, q⟩
theorem x_exi {tab : List (Str × Bool)} {c : V} {cv : Value} {p : Pos} (ok : OkB X B) (hz : Zc cls d oe) (hf : ∃ vs, oe.data = .fields vs) (hm : X.mg "isinstance" = none)
    (hct : ∀ m b, tab.lookup m = some b → ∀ C, X.mg m = some (.ref C) → ExH X.K C ∧ PySem.W.kitOne X.K (.ref C) cv = some b) (hcv : ∀ u, RelV c u → u = cv)
    (hv : PE (X.suite a ((a, oe) :: pn)) (.Name n pe) (tVar i)) (hx : PE (X.suite a ((a, oe) :: pn)) (.Name nm p3) (tC c)) (hg : Gl X "isinstance" := by rfl)
    (he : starEach (.Name n pe :: [.Name nm p3]) X.env = (false, eval (.Name n pe) X.env) :: starEach [.Name nm p3] X.env := by rfl) (hpl : (backTo pos (starEach [.Name nm p3] X.env)).any (·.1) = false := by rfl) (hs2 : starEach (.Name nm p3 :: []) X.env = (false, eval (.Name nm p3) X.env) :: starEach [] X.env := by rfl) :
    PE (X.suite a ((a, oe) :: pn)) (.Call (.Name "isinstance" p) [.Name n pe, .Name nm p3] [] pos) (tE (B.held a cls d) (fExI i tab)) := by
  have facts : ∀ {σ : L2.St} {H : Hp} {Q : VK}, tE (B.held a cls d) (fExI i tab) σ H Q → ∃ C b, cls = .ref C ∧ ExH X.K C ∧ PySem.W.kitOne X.K (.ref C) cv = some b ∧ σ[i]? = some (some (.ref a)) ∧ (∀ dd, d = some dd → ∃ fs, H dd = some (.xd fs)) ∧ Q (.bl b) H := by
    rintro σ H Q ⟨τ, G, R, h⟩
    unfold fExI at h
    split at h
    · rename_i x e
      obtain ⟨h1, ⟨C, hC, hm⟩, h2⟩ := ex_at R e
      split at h
      · rename_i b q
        obtain ⟨z1, z2⟩ := hct x.c b q C (by rw [ok.mg]; exact hm)
        refine ⟨C, b, hC, z1, z2, h1, fun dd ed => ?_, h _ H G (Sub.refl _) R (.bl b)⟩
        cases q3 : x.f with
        | none =>
          rw [q3] at h2
          have h2 : d = none := h2
          rw [h2] at ed
          cases ed
        | some fs =>
          rw [q3] at h2
          obtain ⟨d2, vs, e1, e2, _⟩ := h2
          rw [e1] at ed
          cases ed
          exact ⟨vs, R.gh _ _ e2⟩
      · exact h.elim
    · exact h.elim
  by_cases hx2 : ∃ C b, cls = .ref C ∧ ExH X.K C ∧ PySem.W.kitOne X.K (.ref C) cv = some b
  · obtain ⟨C, b, rfl, E, k⟩ := hx2
    refine PE.wkt (pe_callB (X := X.suite a ((a, oe) :: pn)) (call_isEx (pn := pn) E hz hf hcv k) hg hm (by decide +kernel) (pa_cons hv (pa_cons hx pa_nil hs2) he) (by decide) (by decide) he hpl) fun σ H Q h => ?_
    obtain ⟨C', b', hC, _, k', h1, h2, q⟩ := facts h
    cases hC
    rw [k] at k'
    cases k'
    exact ⟨.ref a, h1, rfl, h2, q⟩
  · refine ⟨fun pins s σ H Q I h => ?_⟩
    obtain ⟨C', b, hC, h1, h2, _⟩ := facts h
    exact absurd ⟨C', b, hC, h1, h2⟩ hx2
end
end T
end

section
set_option Elab.async false
set_option linter.all false
set_option maxRecDepth 100000
set_option maxHeartbeats 4000000
/-! T17: dicts whose keys are ints and texts. -/
namespace T
open PySem PySem.Spec PyProof.Rows L2 Z
abbrev KD := List (Key × PyData)
abbrev PD (K : Fg) (G : Hp) (ks : List (Key × V)) (kd : KD) : Prop := Paired (fun (p : Key × V) (q : Key × PyData) => p.1 = q.1 ∧ Dp K G p.2 q.2) ks kd
def keyD : Key → PyData
  | .inl i => .int i
  | .inr x => .str x
def keyOf : PyData → Option Key
  | .int i => some (.inl i)
  | .str x => some (.inr x)
  | _ => none
def valD (kd : KD) (k : Key) : Option PyData := (kd.find? fun q => decide (q.1 = k)).map (·.2)
def putD (kd : KD) (k : Key) (d : PyData) : KD := if (kd.any fun q => decide (q.1 = k)) = true then kd.map (fun q => if q.1 = k then (q.1, d) else q) else kd ++ [(k, d)]
section
variable {K : Fg} {H G : Hp} {ks : List (Key × V)} {kd : KD} {k : Key} {x v : V} {d : PyData}
theorem dp_key (k : Key) : Dp K G (kV k) (keyD k) := by
  cases k with
  | inl i => exact .int i
  | inr x => exact .str x
theorem keyOf_ok (h : Lk K H G x d) (e : keyOf d = some k) : x = kV k := by
  cases d <;> cases e
  · exact h.int
  · exact h.str
theorem PD.sub {G' : Hp} (s : Sub G G') (h : PD K G ks kd) : PD K G' ks kd := Paired.mapP h fun p q ⟨a, b⟩ => ⟨a, Dp.sub s b⟩
theorem valD_ok (k : Key) : ∀ {ks : List (Key × V)} {kd : KD}, PD K G ks kd → (valV ks k = none ∧ valD kd k = none) ∨ ∃ v d, valV ks k = some v ∧ valD kd k = some d ∧ Dp K G v d
  | _, _, .nil => .inl ⟨rfl, rfl⟩
  | p :: ks, q :: kd, .cons a b => by
    obtain ⟨a1, a2⟩ := a
    unfold valV valD
    by_cases c : p.1 = k
    · rw [List.find?_cons_of_pos (by simpa using c), List.find?_cons_of_pos (by rw [← a1]; simpa using c)]
      exact .inr ⟨_, _, rfl, rfl, a2⟩
    · rw [List.find?_cons_of_neg (by simpa using c), List.find?_cons_of_neg (by rw [← a1]; simpa using c)]
      exact valD_ok k b
theorem any_ok (k : Key) : ∀ {ks : List (Key × V)} {kd : KD}, PD K G ks kd → (ks.any fun p => decide (p.1 = k)) = kd.any fun q => decide (q.1 = k)
  | _, _, .nil => rfl
  | p :: ks, q :: kd, .cons a b => by
    simp only [List.any_cons]
    rw [any_ok k b, a.1]
theorem map_ok (k : Key) (hv : Dp K G v d) : ∀ {ks : List (Key × V)} {kd : KD}, PD K G ks kd → PD K G (ks.map fun p => if p.1 = k then (p.1, v) else p) (kd.map fun q => if q.1 = k then (q.1, d) else q)
  | _, _, .nil => .nil
  | p :: ks, q :: kd, .cons a b => by
    simp only [List.map_cons]
    refine .cons ?_ (map_ok k hv b)
    by_cases c : p.1 = k
    · rw [if_pos c, if_pos (by rw [← a.1]; exact c)]
      exact ⟨a.1, hv⟩
    · rw [if_neg c, if_neg (by rw [← a.1]; exact c)]
      exact a
theorem snoc_ok {α β : Type} {F : α → β → Prop} {a : α} {b : β} (h : F a b) : ∀ {xs : List α} {ys : List β}, Paired F xs ys → Paired F (xs ++ [a]) (ys ++ [b])
  | _, _, .nil => .cons h .nil
  | _, _, .cons p q => .cons p (snoc_ok h q)
theorem putD_ok (k : Key) (h : PD K G ks kd) (hv : Dp K G v d) : PD K G (putK ks k v) (putD kd k d) := by
  unfold putK putD
  rw [any_ok k h]
  by_cases c : (kd.any fun q => decide (q.1 = k)) = true
  · rw [if_pos c, if_pos c]
    exact map_ok k hv h
  · rw [if_neg c, if_neg c]
    exact snoc_ok ⟨rfl, hv⟩ h
end
theorem hu1 {k : Nat} {A : Around} (hr : Room k A) : A.units + 1 < cLine := by
  have h := hr.un
  omega
/-! what a slot tells of a dict -/
def slotD (τ : Te) (i : Nat) : Option KD := match τ[i]? with
  | some (.ct _ _ (.D none kd)) => some kd
  | some (.nv (some (.d kd))) => some kd
  | _ => none
section
variable {B : Bs} {σ : L2.St} {H : Hp} {τ : Te} {G : Hp} {i : Nat} {kd : KD}
theorem slotD_ok (R : Rp B σ H τ G) (e : slotD τ i = some kd) : ∃ p ks, σ[i]? = some (some (.ref p)) ∧ Rd H p (.dK ks) ∧ PD B.K G ks kd := by
  unfold slotD at e
  cases q : τ[i]? with
  | none =>
    rw [q] at e
    cases e
  | some s =>
    rw [q] at e
    have z := R.sl i _ q
    cases s with
    | sh d => cases e
    | nv o =>
      rcases o with _ | (x | kd')
      · cases e
      · cases e
      · cases e
        obtain ⟨p, od, ks, a1, a2, a3, a4⟩ := z
        exact ⟨p, ks, a3, .inr ⟨od, R.kp p _ a1 a2⟩, a4⟩
    | ct k l c =>
      cases c with
      | L ds => cases e
      | D c' kd' =>
        cases c' with
        | some c' => cases e
        | none =>
        cases e
        cases k with
        | ow =>
          obtain ⟨p, o, e1, e2, rc, _⟩ := z
          cases o <;> try exact (show False from rc).elim
          exact ⟨p, _, e1, .inl e2, rc⟩
        | io =>
          obtain ⟨p, o, e1, e2, rc, _⟩ := z
          cases o <;> try exact (show False from rc).elim
          exact ⟨p, _, e1, .inl e2, rc⟩
        | ro =>
          obtain ⟨p, e1, z⟩ := z
          rcases z with ⟨ds', vs, hc, hd, hw⟩ | ⟨⟨ks, a, b⟩, _⟩
          · cases hc
          · exact ⟨p, ks, e1, a, b⟩
theorem fVar_D (e : slotD τ i = some kd) : fVar i τ = .ok (.slot i) τ := by
  unfold slotD at e
  unfold fVar
  cases q : τ[i]? with
  | none =>
    rw [q] at e
    cases e
  | some s =>
    rw [q] at e
    cases s with
    | sh d => cases e
    | nv o =>
      rcases o with _ | (x | kd')
      · cases e
      · cases e
      · rfl
    | ct k l c => rfl
end
def keyAt (τ : Te) (r : RV) : Option Key := (look τ r).bind keyOf
theorem keyAt_ok {B : Bs} {σ : L2.St} {H : Hp} {τ : Te} {G : Hp} {x : V} {r : RV} {k : Key} (R : Rp B σ H τ G) (h : RR B σ H τ G x r) (e : keyAt τ r = some k) : x = kV k := by
  unfold keyAt at e
  cases q : look τ r with
  | none =>
    rw [q] at e
    cases e
  | some d =>
    rw [q] at e
    exact keyOf_ok (look_ok R h q) e
/-! ### {} -/
def fDict0 : FE := fun τ => .ok (.tmp (.D none [])) τ
section
variable {X : Cx} {B : Bs} {st : Stmt} {o e f a : Expr} {es : List Expr} {pos apos cpos p : Pos} {Fa Fb Fv Fi : FE} {i : Nat}
theorem x_dict0 : PE X (.Dict [] [] pos) (tE B fDict0) :=
  PE.wkt pe_dnewK fun σ H Q ⟨τ, G, R, h⟩ p np => by
    obtain ⟨a, b⟩ := R.newTmp (c := .D none []) np (Kp.new np) upd_same (show RC B.K G (.dK []) (.D none []) from Paired.nil)
    exact h _ _ _ (Sub.refl _) a b
/-! ### d[k] -/
def fDGet (i : Nat) (Fi : FE) : FE := fun τ => match slotD τ i with
  | some _ => (Fi τ).bind fun ri τ1 => match slotD τ1 i, keyAt τ1 ri with
    | some kd, some k => match valD kd k with
      | some d => .ok (.val d) τ1
      | none => .stuck
    | _, _ => .stuck
  | none => .stuck
theorem dget_of {σ : L2.St} {H : Hp} {Q : VK} (h : tE B (fDGet i Fi) σ H Q) : tDGet (tE B (fVar i)) (tE B Fi) σ H Q := by
  obtain ⟨τ, G, R, h⟩ := h
  unfold fDGet at h
  cases q : slotD τ i with
  | none =>
    rw [q] at h
    exact h.elim
  | some kd0 =>
    rw [q] at h
    dsimp only at h
    refine ⟨τ, G, R, ?_⟩
    rw [fVar_D q]
    intro x H1 G1 s1 R1 rx
    refine ⟨τ, G1, R1, Po.bind (Po.sub s1 h) fun ri τ2 y H2 G2 _ s2 R2 rr h => ?_⟩
    have rx : σ[i]? = some (some x) := rx
    revert h
    cases q2 : slotD τ2 i with
    | none => exact fun h => h.elim
    | some kd =>
      obtain ⟨p, ks, e1, e2, e3⟩ := slotD_ok R2 q2
      rw [rx] at e1
      cases e1
      cases q4 : keyAt τ2 ri with
      | none => exact fun h => h.elim
      | some k =>
        dsimp only
        have ek := keyAt_ok R2 rr q4
        subst ek
        rcases valD_ok k e3 with ⟨_, z⟩ | ⟨v, d', z1, z2, z3⟩
        · rw [z]
          exact fun h => h.elim
        · rw [z2]
          exact fun h => ⟨p, v, rfl, .inl ⟨ks, k, e2, rfl, z1.symm⟩, h v H2 G2 (Sub.refl _) R2 z3⟩
theorem x_dget (hu : X.A.units + 1 < cLine) (ho : PE X o (tE B (fVar i))) (hi : PE X e (tE B Fi)) (hs : NoSl e := by intro _ _; rfl) : PE X (.Subscript o e pos) (tE B (fDGet i Fi)) :=
  PE.wkt (pe_dget hu ho hi hs) fun _ _ _ h => dget_of h
/-! ### k in d -/
def fDIn (neg : Bool) (Fi : FE) (i : Nat) : FE := fun τ => (Fi τ).bind fun ri τ1 => match keyAt τ1 ri, slotD τ1 i with
  | some k, some kd => .ok (.val (.bool ((valD kd k).isSome != neg))) τ1
  | _, _ => .stuck
theorem din_core {σ : L2.St} {H : Hp} {Q : VK} {neg : Bool} (h : tE B (fDIn neg Fi i) σ H Q) : tE B Fi σ H fun y H1 => tE B (fVar i) σ H1 fun x H2 => ∃ a o, x = .ref a ∧ DGet H2 a y o ∧ Q (.bl (o.isSome != neg)) H2 := by
  obtain ⟨τ, G, R, h⟩ := h
  refine ⟨τ, G, R, Po.bind h fun ri τ1 y H1 G1 _ s1 R1 rr h => ?_⟩
  refine ⟨τ1, G1, R1, ?_⟩
  revert h
  cases q4 : keyAt τ1 ri with
  | none => exact fun h => h.elim
  | some k =>
    have ek := keyAt_ok R1 rr q4
    subst ek
    cases q2 : slotD τ1 i with
    | none => exact fun h => h.elim
    | some kd =>
      intro h
      rw [fVar_D q2]
      intro x H2 G2 s2 R2 rx
      obtain ⟨p, ks, e1, e2, e3⟩ := slotD_ok R2 q2
      have rx : σ[i]? = some (some x) := rx
      rw [rx] at e1
      cases e1
      refine ⟨p, valV ks k, rfl, .inl ⟨ks, k, e2, rfl, rfl⟩, ?_⟩
      have e4 : (valV ks k).isSome = (valD kd k).isSome := by
        rcases valD_ok k e3 with ⟨z1, z2⟩ | ⟨v, d', z1, z2, z3⟩
        · rw [z1, z2]
          rfl
        · rw [z1, z2]
          rfl
      rw [e4]
      exact h _ H2 G2 s2 R2 (.bl _)
theorem bxor_f (b : Bool) : (b != false) = b := by cases b <;> rfl
theorem bxor_t (b : Bool) : (b != true) = !b := by cases b <;> rfl
theorem x_din (hu : X.A.units + 1 < cLine) (hi : PE X e (tE B Fi)) (ho : PE X o (tE B (fVar i))) (hm : behindInMarks .In o = false := by rfl) : PE X (.Compare e [.In] [o] pos) (tE B (fDIn false Fi i)) :=
  PE.wkt (pe_cmp (pc_din hu hi ho) hm) fun σ H Q h => by
    have z := din_core h
    simp only [bxor_f] at z
    exact z
theorem x_dnotin (hu : X.A.units + 1 < cLine) (hi : PE X e (tE B Fi)) (ho : PE X o (tE B (fVar i))) (hm : behindInMarks .NotIn o = false := by rfl) : PE X (.Compare e [.NotIn] [o] pos) (tE B (fDIn true Fi i)) :=
  PE.wkt (pe_cmp (pc_dnotin hu hi ho) hm) fun σ H Q h => by
    have z := din_core h
    simp only [bxor_t] at z
    exact z
theorem xt_din (hu : X.A.units + 1 < cLine) (hi : PE X e (tE B Fi)) (ho : PE X o (tE B (fVar i))) (hm : behindInMarks .In o = false := by rfl) : PT X (.Compare e [.In] [o] pos) (tT B (fTest (fDIn false Fi i))) :=
  PT.wkt (pt_cmp (pc_din hu hi ho) hm) fun σ H Q h => by
    have z := din_core (test_of h)
    simp only [bxor_f] at z
    exact z
theorem xt_dnotin (hu : X.A.units + 1 < cLine) (hi : PE X e (tE B Fi)) (ho : PE X o (tE B (fVar i))) (hm : behindInMarks .NotIn o = false := by rfl) : PT X (.Compare e [.NotIn] [o] pos) (tT B (fTest (fDIn true Fi i))) :=
  PT.wkt (pt_cmp (pc_dnotin hu hi ho) hm) fun σ H Q h => by
    have z := din_core (test_of h)
    simp only [bxor_t] at z
    exact z
/-! ### d.get(k, x) -/
def fDGet2 (i : Nat) (Fi Fv : FE) : FE := fun τ => match slotD τ i with
  | some _ => (Fi τ).bind fun ri τ1 => match keyAt τ1 ri with
    | some k => (Fv τ1).bind fun rz τ2 => match slotD τ2 i, frz1 rz τ2 with
      | some kd, some (dz, τ3) => .ok (.val ((valD kd k).getD dz)) τ3
      | _, _ => .stuck
    | none => .stuck
  | none => .stuck
theorem dget2_of {σ : L2.St} {H : Hp} {Q : VK} (h : tE B (fDGet2 i Fi Fv) σ H Q) : tDGet2 (tE B (fVar i)) (tE B Fi) (tE B Fv) σ H Q := by
  obtain ⟨τ, G, R, h⟩ := h
  unfold fDGet2 at h
  cases q : slotD τ i with
  | none =>
    rw [q] at h
    exact h.elim
  | some kd0 =>
    rw [q] at h
    dsimp only at h
    refine ⟨τ, G, R, ?_⟩
    rw [fVar_D q]
    intro x H1 G1 s1 R1 rx
    have rx : σ[i]? = some (some x) := rx
    obtain ⟨p, ks0, e1, e2, _⟩ := slotD_ok R1 q
    rw [rx] at e1
    cases e1
    refine ⟨p, rfl, .inl ⟨ks0, e2⟩, τ, G1, R1, Po.bind (Po.sub s1 h) fun ri τ2 y H2 G2 _ s2 R2 rr h => ?_⟩
    revert h
    cases q4 : keyAt τ2 ri with
    | none => exact fun h => h.elim
    | some k =>
        dsimp only
        have ek := keyAt_ok R2 rr q4
        subst ek
        intro h
        refine ⟨τ2, G2, R2, Po.bind h fun rz τ3 z H3 G3 _ s3 R3 rz' h => ?_⟩
        revert h
        cases q5 : slotD τ3 i with
        | none => exact fun h => h.elim
        | some kd =>
          obtain ⟨p', ks, e4, e5, e6⟩ := slotD_ok R3 q5
          rw [rx] at e4
          cases e4
          cases q6 : frz1 rz τ3 with
          | none => exact fun h => h.elim
          | some w =>
            obtain ⟨dz, τ4⟩ := w
            obtain ⟨G4, s4, R4, hd⟩ := frz1_ok R3 rz' q6
            dsimp only
            intro h
            refine ⟨valV ks k, .inl ⟨ks, k, e5, rfl, rfl⟩, h _ H3 G4 s4 R4 ?_⟩
            rcases valD_ok k e6 with ⟨z1, z2⟩ | ⟨v, d', z1, z2, z3⟩
            · rw [z1, z2]
              exact hd
            · rw [z1, z2]
              exact Dp.sub s4 z3
theorem x_dget2 (hu : X.A.units + 1 < cLine) (ho : PE X o (tE B (fVar i))) (hi : PE X e (tE B Fi)) (hf : PE X f (tE B Fv)) (m : M2 X o "get" apos e f cpos := by exact ⟨rfl, rfl, rfl, rfl⟩) : PE X (.Call (.Attribute o "get" apos) [e, f] [] cpos) (tE B (fDGet2 i Fi Fv)) :=
  PE.wkt (pe_dget2 hu ho hi hf m) fun _ _ _ h => dget2_of h
/-! ### d[k] = v -/
def fSetD (i : Nat) (Fv Fi : FE) : FS := fun τ => (Fv τ).bind fun rv τ1 => (hold rv τ1).bind fun rv τ2 => match frz1 rv τ2 with
  | some (d, τ3) => match slotD τ3 i with
    | some _ => (Fi τ3).bind fun ri τ4 => match keyAt τ4 ri with
      | some k => match τ4[i]? with
        | some (.ct .ow l (.D none kd)) => if kd.length < 100000 then .ok .nx (τ4.set i (.ct .ow l (.D none (putD kd k d)))) else .stuck
        | some (.ct .io l (.D none kd)) => if kd.length < 100000 then .ok .nx (τ4.set i (.ct .io l (.D none (putD kd k d)))) else .stuck
        | _ => .stuck
      | none => .stuck
    | none => .stuck
  | none => .stuck
theorem setD_of {D : Ends} {σ : L2.St} {H : Hp} (h : tS B (fSetD i Fv Fi) D σ H) : sDPut (tE B (fVar i)) (tE B Fi) (tE B Fv) D σ H := by
  obtain ⟨τ, G, R, h⟩ := h
  refine ⟨τ, G, R, Po.bindS h fun rv τ1 v H1 G1 _ s1 R1 rr h => ?_⟩
  obtain ⟨rv, τ2, G2, _, _, R2, rr, nt, h⟩ := hold_okS R1 rr h
  cases q1 : frz1 rv τ2 with
  | none =>
    rw [q1] at h
    exact h.elim
  | some w =>
    obtain ⟨d, τ3⟩ := w
    rw [q1] at h
    dsimp only at h
    obtain ⟨G3, s3, R3, hd⟩ := frz1_ok R2 rr q1
    cases q2 : slotD τ3 i with
    | none =>
      rw [q2] at h
      exact h.elim
    | some kd0 =>
      rw [q2] at h
      dsimp only at h
      refine ⟨τ3, G3, R3, ?_⟩
      rw [fVar_D q2]
      intro x H4 G4 s4 R4 rx
      have rx : σ[i]? = some (some x) := rx
      refine ⟨τ3, G4, R4, Po.bindS (PS1.sub (s3.trans s4) h) fun ri τ5 y H5 G5 _ s5 R5 rri h => ?_⟩
      revert h
      cases q4 : keyAt τ5 ri with
      | none => exact fun h => h.elim
      | some k =>
          intro h
          dsimp only at h
          have ek := keyAt_ok R5 rri q4
          subst ek
          have hd5 : Dp B.K G5 v d := Dp.sub (s4.trans s5) hd
          have fin : ∀ {kk : Kd} {l : Bool} {kd : KD}, kk ≠ .ro → τ5[i]? = some (.ct kk l (.D none kd)) → PS1 B G5 D (if kd.length < 100000 then .ok .nx (τ5.set i (.ct kk l (.D none (putD kd k d)))) else .stuck) →
              ∃ a H6, x = .ref a ∧ DPut H5 a (kV k) v H6 ∧ D.nx σ H6 := by
            intro kk l kd hk e h
            obtain ⟨p, o, e1, e2, rc, gp⟩ := R5.ownEq e hk
            rw [rx] at e1
            cases e1
            cases o <;> try exact (show False from rc).elim
            rename_i ks
            by_cases c : kd.length < 100000
            · rw [if_pos c] at h
              have lk : ks.length = kd.length := Paired.length rc
              refine ⟨p, _, rfl, DPut.k e2 (by rw [lk, sizeLine_eq]; omega), ?_⟩
              refine h σ _ G5 (Sub.refl _) ?_
              exact R5.wr e hk rx (Kp.put (by simp)) upd_same (putD_ok k rc hd5)
            · rw [if_neg c] at h
              exact h.elim
          split at h
          · rename_i l kd e
            exact fin (by decide) e h
          · rename_i l kd e
            exact fin (by decide) e h
          · exact h.elim
theorem xs_setD {pos' : Pos} (hu : X.A.units + 1 < cLine) (ho : PE X o (tE B (fVar i))) (hi : PE X e (tE B Fi)) (hv : PE X f (tE B Fv)) (hs : swapsWith f (some (.Subscript o e pos')) pos.line X.env = pure false := by rfl) :
    PS X (.Assign [.Subscript o e pos'] f pos) (tS B (fSetD i Fv Fi)) :=
  PS.wkt (ps_dput hu ho hi hv hs) fun _ _ _ h => setD_of h
end
end T
end

section
set_option Elab.async false
set_option linter.all false
set_option maxRecDepth 100000
set_option maxHeartbeats 4000000
/-! T18: dicts, listed and walked. -/
namespace T
open PySem PySem.Spec PyProof.Rows L2 Z
def itemsD (kd : KD) : List PyData := kd.map fun q => .tuple [keyD q.1, q.2]
section
variable {B : Bs} {σ : L2.St} {H : Hp} {τ : Te} {G : Hp} {x : V} {i : Nat}
/-- new pairs stand from now on -/
theorem frzTs (H' : Hp) : ∀ {ts : List Addr} {ks : List (Key × V)} {kd : KD} {G : Hp}, Rp B σ H' τ G → (∀ t ∈ ts, B.H0 t = none ∧ ¬ OwnAt σ τ t) → Paired (fun (t : Addr) (q : Key × V) => H' t = some (.tup [kV q.1, q.2])) ts ks → PD B.K G ks kd →
    ∃ G', Sub G G' ∧ Rp B σ H' τ G' ∧ (∀ b, G' b ≠ none → G b ≠ none ∨ b ∈ ts) ∧ DpAll B.K G' (ts.map V.ref) (itemsD kd)
  | [], [], kd, G, R, hn, .nil, pd => by
    cases pd
    exact ⟨G, Sub.refl _, R, fun b h => .inl h, .nil⟩
  | t :: ts, q :: ks, kd, G, R, hn, .cons e es, pd => by
    cases pd with
    | @cons _ q' _ kd' a b =>
    have hn' : ∀ u ∈ ts, B.H0 u = none ∧ ¬ OwnAt σ τ u := fun u hu => hn u (List.mem_cons_of_mem _ hu)
    have dpq : ∀ {G1 : Hp}, Sub G G1 → SqT B.K G1 t [kV q.1, q.2] → Dp B.K G1 (.ref t) (.tuple [keyD q'.1, q'.2]) := fun {G1} s1 h => .tup h (.cons (by rw [← a.1]; exact dp_key _) (.cons (Dp.sub s1 a.2) .nil))
    by_cases g : G t = none
    · obtain ⟨h0, no⟩ := hn t (List.mem_cons_self ..)
      have R1 := R.frz e h0 no g
      have s1 : Sub G (upd G t (.tup [kV q.1, q.2])) := Sub.upd g
      obtain ⟨G', s2, R2, nw, da⟩ := frzTs H' R1 hn' es (PD.sub s1 b)
      refine ⟨G', s1.trans s2, R2, fun c hc => ?_, .cons (Dp.sub s2 (dpq s1 (SqT.of upd_same))) da⟩
      rcases nw c hc with h | h
      · by_cases w : c = t
        · exact .inr (by rw [w]; exact List.mem_cons_self ..)
        · rw [upd_ne w] at h
          exact .inl h
      · exact .inr (List.mem_cons_of_mem _ h)
    · obtain ⟨G', s2, R2, nw, da⟩ := frzTs H' R hn' es b
      refine ⟨G', s2, R2, fun c hc => (nw c hc).imp id fun h => List.mem_cons_of_mem _ h, .cons (Dp.sub s2 (dpq (Sub.refl _) ?_)) da⟩
      cases w : G t with
      | none => exact absurd w g
      | some o =>
        have z := R.gh t o w
        rw [e] at z
        cases z
        exact SqT.of w
end
/-! ### list(d.items()) -/
def fListItems (i : Nat) : FE := fun τ => match τ[i]? with
  | some (.ct .ow _ (.D none kd)) => .ok (.tmp (.L (itemsD kd))) τ
  | some (.ct .io _ (.D none kd)) => .ok (.tmp (.L (itemsD kd))) τ
  | _ => .stuck
section
variable {X : Cx} {B : Bs} {st : Stmt} {o e f a iter tg : Expr} {es : List Expr} {pos apos cpos p : Pos} {Fa Fb Fv Fi F : FE} {i : Nat}
theorem listItems_of {σ : L2.St} {H : Hp} {Q : VK} (h : tE B (fListItems i) σ H Q) : LiI.tListItems (tE B (fVar i)) σ H Q := by
  obtain ⟨τ, G, R, h⟩ := h
  have go : ∀ {k : Kd} {l : Bool} {kd : KD}, k ≠ .ro → τ[i]? = some (.ct k l (.D none kd)) → PE1 B σ G Q (.ok (.tmp (.L (itemsD kd))) τ) → LiI.tListItems (tE B (fVar i)) σ H Q := by
    intro k l kd hk e h
    refine ⟨τ, G, R, ?_⟩
    have ev : slotD τ i = some kd := by
      unfold slotD
      rw [e]
    rw [fVar_D ev]
    intro x H1 G1 s1 R1 rx
    have rx : σ[i]? = some (some x) := rx
    obtain ⟨p, o, e1, e2, rc, gp⟩ := R1.ownEq e hk
    rw [rx] at e1
    cases e1
    cases o <;> try exact (show False from rc).elim
    rename_i ks
    refine ⟨p, ks, rfl, e2, fun H' q ts kp np nt nq eq pt => ?_⟩
    have K1 : Kp [] H1 H' := fun b o e _ => kp b o e
    have R2 := R1.more K1
    obtain ⟨G2, s2, R3, nw, da⟩ := frzTs H' R2 (fun t ht => ⟨R1.h0 (nt t ht), R1.notOwn (nt t ht)⟩) pt (show PD B.K G1 ks kd from rc)
    have g2 : G2 q = none := by
      cases w : G2 q with
      | none => rfl
      | some u =>
        rcases nw q (by rw [w]; intro z; cases z) with h | h
        · exact absurd (R1.g np) h
        · exact absurd h nq
    have R4 := (R1.newTmp (c := .L []) (o := .lst []) (H2 := upd H1 q (.lst [])) np (Kp.new np) upd_same (show RC B.K G1 (.lst []) (.L []) from .nil)).2
    obtain ⟨_, _, ez, _, _, z1, z2, z3, z4⟩ := R4
    cases ez
    exact h _ H' G2 (s1.trans s2) R3 ⟨q, _, rfl, eq, da, g2, z2, z3, fun j l c e1 e2 => (z4 j l c e1 e2).sub s2⟩
  unfold fListItems at h
  split at h
  · rename_i l kd e
    exact go (by decide) e h
  · rename_i l kd e
    exact go (by decide) e h
  · exact h.elim
theorem x_listItems (ok : OkB X B) (he : PE X e (tE B (fVar i))) (hg : Gl X "list") (hm : X.mg "list" = none) (hv : bootBuiltins "list" = some (.type "list") := by decide +kernel) (hbase : attributeBase e "items" X.env (eval e X.env) = eval e X.env := by rfl) (hline : (apos.endLine == cpos.line) = true := by rfl)
    (hs : starEach [.Call (.Attribute e "items" apos) [] [] cpos] X.env = (false, eval (.Call (.Attribute e "items" apos) [] [] cpos) X.env) :: starEach [] X.env := by rfl) :
    PE X (.Call (.Name "list" p) [.Call (.Attribute e "items" apos) [] [] cpos] [] pos) (tE B (fListItems i)) :=
  PE.wkt (LiI.pe_listItems ok.calm he hg hm hv hbase hline hs) fun _ _ _ h => listItems_of h
/-! ### the keys of a dict that is locked meanwhile -/
def keysD (kd : KD) : List PyData := kd.map fun q => keyD q.1
def fKeys (i : Nat) : FI := fun τ => match τ[i]? with
  | some (.nv (some (.d kd))) => .ok (keysD kd) τ
  | _ => .stuck
theorem keys_of {σ : L2.St} {H : Hp} {Q : It → Hp → Prop} (h : tI B (fKeys i) σ H Q) : iKeys (tE B (fVar i)) σ H Q := by
  obtain ⟨τ, G, R, h⟩ := h
  unfold fKeys at h
  split at h
  · rename_i kd e
    refine ⟨τ, G, R, ?_⟩
    unfold fVar
    rw [e]
    intro x H1 G1 s1 R1 rx
    have rx : σ[i]? = some (some x) := rx
    obtain ⟨p, od, ks, a1, a2, a3, a4⟩ := R1.sl i _ e
    rw [rx] at a3
    cases a3
    refine ⟨p, od, rfl, .inl ⟨ks, R1.kp p _ a1 a2, h _ H1 G1 s1 R1 ?_⟩⟩
    have w := walk_keys (d := p) (o := od) (kvs := ks)
    have l : (keysD kd).length = ks.length := by
      rw [show (keysD kd).length = kd.length by simp [keysD]]
      exact (Paired.length a4).symm
    unfold RI
    rw [l]
    refine w.mono (fun H s => s.2 p _ a1 a2) fun j H x H' hj s y => ?_
    obtain ⟨rfl, k, v, e1, rfl⟩ := y
    obtain ⟨q, e2, e3⟩ := LiI.paired_get a4 e1
    refine ⟨keyD q.1, by simp [keysD, e2], .inl ⟨rfl, ?_⟩⟩
    rw [← e3.1]
    exact dp_key _
  · exact h.elim
theorem xi_keys (he : PE X e (tE B (fVar i))) : PI X tg e (tI B (fKeys i)) :=
  PI.wkt (pi_keys he) fun _ _ _ h => keys_of h
/-! ### the lock -/
def noLk : Te → Bool
  | [] => true
  | .nv (some (.d _)) :: _ => false
  | .ct .ro _ _ :: _ => false
  | _ :: ss => noLk ss
theorem noLk_at : ∀ {τ : Te}, noLk τ = true → ∀ {i : Nat} {s : Sl}, τ[i]? = some s → (∀ kd, s ≠ .nv (some (.d kd))) ∧ ∀ l c, s ≠ .ct .ro l c
  | [], _, _, _, e => by simp at e
  | s0 :: ss, h, 0, s, e => by
    simp only [List.getElem?_cons_zero, Option.some.injEq] at e
    subst e
    refine ⟨fun kd z => ?_, fun l c z => ?_⟩
    · subst z
      cases h
    · subst z
      cases h
  | s0 :: ss, h, i + 1, s, e => by
    have h' : noLk ss = true := by
      cases s0 with
      | nv o =>
        rcases o with _ | (x | kd)
        · exact h
        · exact h
        · cases h
      | sh d => exact h
      | ct k l c =>
        cases k
        · exact h
        · exact h
        · cases h
    exact noLk_at h' (by simpa using e)
def fLockE (i : Nat) (F : FE) : FE := fun τ => match τ[i]? with
  | some (.ct .ow false (.D none kd)) => if noLk τ = true then match F (τ.set i (.nv (some (.d kd)))) with
    | .ok r τ1 => match τ1[i]? with
      | some (.nv (some (.d kd1))) => if noLk (τ1.set i .no) = true then .ok r (τ1.set i (.ct .ow false (.D none kd1))) else .stuck
      | _ => .stuck
    | _ => .stuck else .stuck
  | _ => .stuck
/-- what no slot owns may change -/
theorem Rp.free {σ : L2.St} {H : Hp} {τ : Te} {G : Hp} (R : Rp B σ H τ G) {d : Addr} {o : HO} (n : ¬ OwnAt σ τ d) (g : G d = none) (h0 : B.H0 d = none) (nl : noLk τ = true) : Rp B σ (upd H d o) τ G := by
  refine ⟨fun a u e => ?_, R.g0, R.nw, fun b u e nb => ?_, fun a ha => ?_, fun a ha => ?_, fun j s e => ?_, R.ds, R.ln⟩
  · rw [upd_ne fun z => by rw [z, g] at e; cases e]
    exact R.gh a u e
  · rw [upd_ne fun z => by rw [z, h0] at e; cases e]
    exact R.kp b u e nb
  · by_cases z : a = d
    · rw [z, upd_same]
      intro z
      cases z
    · rw [upd_ne z]
      exact R.da a ha
  · by_cases z : a = d
    · rw [z, upd_same]
      intro z
      cases z
    · rw [upd_ne z]
      exact R.dr a ha
  · have z := R.sl j s e
    obtain ⟨n1, n2⟩ := noLk_at nl e
    cases s with
    | nv o =>
      rcases o with _ | (x | kd)
      · trivial
      · exact z
      · exact absurd rfl (n1 kd)
    | sh d => exact z
    | ct k l c =>
      cases k with
      | ow =>
        obtain ⟨p, o1, a1, a2, a3⟩ := z
        refine ⟨p, o1, a1, ?_, a3⟩
        rw [upd_ne fun z => n ⟨j, ⟨_, _, _, e, by decide⟩, by rw [← z]; exact a1⟩]
        exact a2
      | io =>
        obtain ⟨p, o1, a1, a2, a3⟩ := z
        refine ⟨p, o1, a1, ?_, a3⟩
        rw [upd_ne fun z => n ⟨j, ⟨_, _, _, e, by decide⟩, by rw [← z]; exact a1⟩]
        exact a2
      | ro => exact absurd rfl (n2 l c)
theorem noLk_set : ∀ {τ : Te} {i : Nat} {s : Sl}, noLk τ = true → (∀ kd, s ≠ .nv (some (.d kd))) → (∀ l c, s ≠ .ct .ro l c) → noLk (τ.set i s) = true
  | [], _, _, h, _, _ => h
  | s0 :: ss, 0, s, h, h1, h2 => by
    have h' : noLk ss = true := by
      cases s0 with
      | nv o =>
        rcases o with _ | (x | kd)
        · exact h
        · exact h
        · cases h
      | sh d => exact h
      | ct k l c =>
        cases k
        · exact h
        · exact h
        · cases h
    show noLk (s :: ss) = true
    cases s with
    | nv o =>
      rcases o with _ | (x | kd)
      · exact h'
      · exact h'
      · exact absurd rfl (h1 kd)
    | sh d => exact h'
    | ct k l c =>
      cases k
      · exact h'
      · exact h'
      · exact absurd rfl (h2 l c)
  | s0 :: ss, i + 1, s, h, h1, h2 => by
    show noLk (s0 :: ss.set i s) = true
    cases s0 with
    | nv o =>
      rcases o with _ | (x | kd)
      · exact noLk_set (τ := ss) h h1 h2
      · exact noLk_set (τ := ss) h h1 h2
      · cases h
    | sh d => exact noLk_set (τ := ss) h h1 h2
    | ct k l c =>
      cases k
      · exact noLk_set (τ := ss) h h1 h2
      · exact noLk_set (τ := ss) h h1 h2
      · cases h
@[reducible] def Bs.lockB (B : Bs) (D : Addr) (o : HO) : Bs := { B with H0 := upd B.H0 D o, io := B.io.filter fun q => decide (q.2 ≠ D), W := fun _ _ _ _ => False }
theorem as_lock {D : Addr} {o : HO} {a : Addr} : a ∈ (B.lockB D o).as ↔ a ∈ B.as ∧ a ≠ D := by
  show a ∈ (B.io.filter fun q => decide (q.2 ≠ D)).map (·.2) ↔ _
  constructor
  · intro h
    obtain ⟨q, hq, rfl⟩ := List.mem_map.mp h
    obtain ⟨h1, h2⟩ := List.mem_filter.mp hq
    exact ⟨List.mem_map.mpr ⟨q, h1, rfl⟩, of_decide_eq_true h2⟩
  · rintro ⟨h, n⟩
    obtain ⟨q, hq, rfl⟩ := List.mem_map.mp h
    exact List.mem_map.mpr ⟨q, List.mem_filter.mpr ⟨hq, decide_eq_true n⟩, rfl⟩
theorem Rp.toLock {σ : L2.St} {H : Hp} {τ : Te} {G : Hp} (R : Rp B σ H τ G) {d : Addr} {o : HO} (n : ¬ OwnAt σ τ d) (g : G d = none) (e : H d = some o) (nl : noLk τ = true) : Rp (B.lockB d o) σ H τ G := by
  refine ⟨R.gh, R.g0, fun a h1 h2 => ?_, fun b u eb nb => ?_, fun a ha => R.da a (as_lock.mp ha).1, R.dr, fun j s ej => ?_, R.ds, R.ln⟩
  · show upd B.H0 d o a = none
    rw [upd_ne fun z => h2 (by rw [z]; exact g)]
    exact R.nw a h1 h2
  · have eb : upd B.H0 d o b = some u := eb
    by_cases q : b = d
    · subst q
      rw [upd_same] at eb
      rw [← eb]
      exact e
    · rw [upd_ne q] at eb
      exact R.kp b u eb fun z => nb (as_lock.mpr ⟨z, q⟩)
  · have z := R.sl j s ej
    obtain ⟨n1, n2⟩ := noLk_at nl ej
    cases s with
    | nv o =>
      rcases o with _ | (x | kd)
      · trivial
      · exact z
      · exact absurd rfl (n1 kd)
    | sh d => exact z
    | ct k l c =>
      cases k with
      | ow =>
        obtain ⟨p, o1, a1, a2, a3, a4, a5⟩ := z
        refine ⟨p, o1, a1, a2, a3, a4, ?_⟩
        show upd B.H0 d o p = none
        rw [upd_ne fun z => n ⟨j, ⟨_, _, _, ej, by decide⟩, by rw [← z]; exact a1⟩]
        exact a5
      | io =>
        obtain ⟨p, o1, a1, a2, a3, a4, a5⟩ := z
        exact ⟨p, o1, a1, a2, a3, a4, List.mem_filter.mpr ⟨a5, decide_eq_true fun z => n ⟨j, ⟨_, _, _, ej, by decide⟩, by rw [← z]; exact a1⟩⟩⟩
      | ro => exact absurd rfl (n2 l c)
theorem Rp.ofLock {σ : L2.St} {H : Hp} {τ : Te} {G : Hp} {d : Addr} {o : HO} (R : Rp (B.lockB d o) σ H τ G) (h0 : B.H0 d = none) (g0 : B.G0 d = none) (nl : noLk τ = true) : H d = some o ∧ ¬ OwnAt σ τ d ∧ G d = none ∧ Rp B σ H τ G := by
  have e : H d = some o := R.kp d o (show upd B.H0 d o d = some o from upd_same) fun z => (as_lock.mp z).2 rfl
  have g : G d = none := by
    cases q : G d with
    | none => rfl
    | some u =>
      have z : upd B.H0 d o d = none := R.nw d g0 (by rw [q]; intro z; cases z)
      rw [upd_same] at z
      cases z
  have n : ¬ OwnAt σ τ d := fun z => by
    obtain ⟨_, _, h⟩ := R.ownAt z
    rcases h with h | h
    · have h : upd B.H0 d o d = none := h
      rw [upd_same] at h
      cases h
    · exact (as_lock.mp h).2 rfl
  refine ⟨e, n, g, R.gh, R.g0, fun a h1 h2 => ?_, fun b u eb nb => ?_, fun a ha => ?_, R.dr, fun j s ej => ?_, R.ds, R.ln⟩
  · have z : upd B.H0 d o a = none := R.nw a h1 h2
    by_cases q : a = d
    · rw [q, upd_same] at z
      cases z
    · rw [upd_ne q] at z
      exact z
  · refine R.kp b u ?_ fun z => nb (as_lock.mp z).1
    show upd B.H0 d o b = some u
    rw [upd_ne (ne_of_none eb h0)]
    exact eb
  · by_cases q : a = d
    · rw [q, e]
      intro z
      cases z
    · exact R.da a (as_lock.mpr ⟨ha, q⟩)
  · have z := R.sl j s ej
    obtain ⟨n1, n2⟩ := noLk_at nl ej
    cases s with
    | nv o =>
      rcases o with _ | (x | kd)
      · trivial
      · exact z
      · exact absurd rfl (n1 kd)
    | sh d => exact z
    | ct k l c =>
      cases k with
      | ow =>
        obtain ⟨p, o1, a1, a2, a3, a4, a5⟩ := z
        refine ⟨p, o1, a1, a2, a3, a4, ?_⟩
        have a5 : upd B.H0 d o p = none := a5
        by_cases q : p = d
        · rw [q, upd_same] at a5
          cases a5
        · rw [upd_ne q] at a5
          exact a5
      | io =>
        obtain ⟨p, o1, a1, a2, a3, a4, a5⟩ := z
        exact ⟨p, o1, a1, a2, a3, a4, (List.mem_filter.mp a5).1⟩
      | ro => exact absurd rfl (n2 l c)
theorem Rp.lock {σ : L2.St} {H : Hp} {τ : Te} {G : Hp} (R : Rp B σ H τ G) {l : Bool} {kd : KD} (e : τ[i]? = some (.ct .ow l (.D none kd))) (nl : noLk τ = true) :
    ∃ d ks, σ[i]? = some (some (.ref d)) ∧ H d = some (.dK ks) ∧ B.H0 d = none ∧ B.G0 d = none ∧ ∀ od, Rp (B.lockB d (.frz od (.dK ks))) σ (upd H d (.frz od (.dK ks))) (τ.set i (.nv (some (.d kd)))) G := by
  obtain ⟨d, o, e1, e2, rc, g, h0⟩ := R.sl i _ e
  cases o <;> try exact (show False from rc).elim
  rename_i ks
  have g0 : B.G0 d = none := by
    cases q : B.G0 d with
    | none => rfl
    | some u =>
      rw [R.g0 d u q] at g
      cases g
  refine ⟨d, ks, e1, e2, h0, g0, fun od => ?_⟩
  have nown : ¬ OwnAt σ (τ.set i .no) d := fun ⟨j, hj, ej⟩ => by
    obtain ⟨h1, h2⟩ := Own.of_set (fun k l c z => by cases z) hj
    exact h2 (R.ds j i d h1 ⟨_, _, _, e, by decide⟩ ej e1)
  have R0 : Rp B σ H (τ.set i .no) G := R.drop (s := .no) (fun k l c z => by cases z) (fun _ _ => trivial) (fun l c z => by cases z)
  have nl0 : noLk (τ.set i .no) = true := noLk_set nl (fun kd z => by cases z) fun l c z => by cases z
  have R1 := R0.free (o := .frz od (.dK ks)) nown g h0 nl0
  have R2 := R1.toLock (o := .frz od (.dK ks)) nown g upd_same nl0
  have R3 := R2.drop (i := i) (s := .nv (some (.d kd))) (fun k l c z => by cases z) (fun s0 _ => ⟨d, od, ks, upd_same, fun z => (as_lock.mp z).2 rfl, e1, rc⟩) (fun l c z => by cases z)
  rw [List.set_set] at R3
  exact R3
theorem set_same {α : Type} {l : List α} {i : Nat} {a : α} (e : l[i]? = some a) : l.set i a = l := by
  apply List.ext_getElem?
  intro j
  by_cases q : i = j
  · subst q
    rw [List.getElem?_set_self (List.getElem?_eq_some_iff.mp e).1, e]
  · rw [List.getElem?_set_ne q]
theorem lockE_of (hF : ∀ (B' : Bs), B'.K = B.K → B'.mg = B.mg → B'.W = (fun _ _ _ _ => False) → ∀ σ H Q, tE B' F σ H Q → ∃ B' : Bs, (B'.K = B.K ∧ B'.mg = B.mg ∧ B'.W = fun _ _ _ _ => False) ∧ tE B' F σ H Q) {σ : L2.St} {H : Hp} {Q : VK} (h : tE B (fLockE i F) σ H Q) :
    tLockE (fun σ H Q => ∃ B' : Bs, (B'.K = B.K ∧ B'.mg = B.mg ∧ B'.W = fun _ _ _ _ => False) ∧ tE B' F σ H Q) σ H Q := by
  obtain ⟨τ, G, R, h⟩ := h
  unfold fLockE at h
  split at h
  · rename_i kd e
    by_cases nl : noLk τ = true
    · rw [if_pos nl] at h
      obtain ⟨d, ks, e1, e2, h0, g0, lk⟩ := R.lock e nl
      refine ⟨d, .dK ks, e2, trivial, fun od => hF (B.lockB d (.frz od (.dK ks))) rfl rfl rfl _ _ _ ⟨_, G, lk od, ?_⟩⟩
      revert h
      cases F (τ.set i (.nv (some (.d kd)))) with
      | exc c f τ1 => exact fun h => h.elim
      | stuck => exact fun h => h.elim
      | ok r τ1 =>
        dsimp only
        intro h v H1 G1 s1 R1 rr
        split at h
        · rename_i kd1 e3
          by_cases nl1 : noLk (τ1.set i .no) = true
          · rw [if_pos nl1] at h
            obtain ⟨p, od', ks', a1, a2, a3, a4⟩ := R1.sl i _ e3
            rw [e1] at a3
            cases a3
            have a1 : upd B.H0 d (.frz od (.dK ks)) d = some (.frz od' (.dK ks')) := a1
            rw [upd_same] at a1
            cases a1
            have R2 := R1.drop (i := i) (s := .no) (fun k l c z => by cases z) (fun _ _ => trivial) (fun l c z => by cases z)
            obtain ⟨ed, nown, gd, R3⟩ := R2.ofLock h0 g0 nl1
            refine ⟨ed, ?_⟩
            have R4 := R3.free (o := .dK ks) nown gd h0 nl1
            have R5 := R4.setOw (i := i) (x := .ref d) (c := .D none kd1) ⟨d, .dK ks, rfl, upd_same, a4, gd, h0, nown, fun j l c e _ => absurd rfl ((noLk_at nl1 e).2 l c)⟩
            rw [set_same e1, List.set_set] at R5
            refine h v _ G1 s1 R5 ?_
            cases r with
            | val d' => exact rr
            | slot j => exact rr
            | tmp c =>
              obtain ⟨p, o1, rfl, b1, b2, b3, b4, b5, b6⟩ := rr
              have b4 : upd B.H0 d (.frz od (.dK ks)) p = none := b4
              have pd : p ≠ d := fun z => by
                rw [z, upd_same] at b4
                cases b4
              rw [upd_ne pd] at b4
              have hl : i < τ1.length := (List.getElem?_eq_some_iff.mp e3).1
              refine ⟨p, o1, rfl, by rw [upd_ne pd]; exact b1, b2, b3, b4, fun ⟨j, hj, ej⟩ => ?_, fun j l c e es => ?_⟩
              · obtain ⟨k, l, c, ek, hk⟩ := hj
                by_cases q : i = j
                · subst q
                  rw [e1] at ej
                  cases ej
                  exact pd rfl
                · rw [List.getElem?_set_ne q] at ek
                  exact b5 ⟨j, ⟨k, l, c, ek, hk⟩, ej⟩
              · by_cases q : i = j
                · subst q
                  rw [List.getElem?_set_self hl] at e
                  cases e
                · rw [List.getElem?_set_ne q] at e
                  exact b6 j l c e es
          · rw [if_neg nl1] at h
            exact h.elim
        · exact h.elim
    · rw [if_neg nl] at h
      exact h.elim
  · exact h.elim
theorem x_lock (ok : OkB X B) (h : ∀ (B' : Bs), B'.K = B.K → B'.mg = B.mg → OkB X B' → PE X e (tE B' F)) : PE X e (tE B (fLockE i F)) :=
  PE.wkt (pe_lock (t := fun σ H Q => ∃ B' : Bs, (B'.K = B.K ∧ B'.mg = B.mg ∧ B'.W = fun _ _ _ _ => False) ∧ tE B' F σ H Q)
    ⟨fun pins s σ H Q I ⟨B', ⟨h1, h2, h3⟩, q⟩ => (h B' h1 h2 ⟨ok.K.trans h1.symm, ok.mg.trans h2.symm, ok.calm, takes_never h3, ok.po⟩).run pins s σ H Q I q⟩)
    fun _ _ _ q => lockE_of (fun B' h1 h2 h3 σ H Q q => ⟨B', ⟨h1, h2, h3⟩, q⟩) q
end
end T
end

section
set_option Elab.async false
set_option linter.all false
set_option maxRecDepth 100000
set_option maxHeartbeats 4000000
/-! T19: try without a name; what is known of a class. -/
namespace T
open PySem PySem.Spec PyProof.Rows L2 Z
/-- behind a suite without a name -/
def unEx0 : Res SR → Res SR
  | .ok (.rt (.slot _)) _ => .stuck
  | .ok r τ => .ok r τ
  | _ => .stuck
def fTry0 (b : FS) (tab : List (Str × Bool)) (suite : FS) : FS := fun τ => match b τ with
  | .exc c f τ1 => match tab.lookup c with
    | some true => unEx0 (suite τ1)
    | some false => .exc c f τ1
    | none => .stuck
  | r => r
section
variable {X : Cx} {B : Bs} {body suite : List Stmt} {b₀ : Stmt} {pos p pos' np : Pos} {x : Str} {c : Value} {Fb Fs : FS} {tab : List (Str × Bool)}
theorem xs_try0 (ok : OkB X B) (hs : X.stack = X.env :: X.outer) (hf : X.env.frame = some X.env.locals) (hc : Names X x c)
    (ht : ∀ m b, tab.lookup m = some b → ∀ C, X.mg m = some (.ref C) → PySem.W.exmOne X.K (.ref C) c = some b)
    (hb : ∀ (W : WX) (pn : List (Addr × Obj)) (xe : Value → Shared → Prop), OkB (X.tr pn xe) (B.wish W) → PSs (X.tr pn xe) body (tS (B.wish W) Fb))
    (hsu : ∀ (a : Addr) (oe : Obj) (cls : Value) (d : Option Addr) (pn : List (Addr × Obj)), Zc cls d oe → (∃ vs, oe.data = .fields vs) → PSs (X.suite a ((a, oe) :: pn)) (b₀ :: suite) (tS (B.wish fun _ _ _ _ => False) Fs)) :
    PS X (.Try body [.ExceptHandler (some (.Name x np)) none (b₀ :: suite) pos'] [] [] pos) (tS B (fTry0 Fb tab Fs)) := by
  refine PS.wkt (ps_try_only (tb := fun W => tS (B.wish W) Fb) (ts := fun a cls d => tS (B.wish fun _ _ _ _ => False) Fs) (Wout := B.W) hs hf hc ok.tk (fun W pn xe tk po => hb W pn xe (ok.tr tk po)) hsu) ?_
  rintro D σ H ⟨τ, G, R, h⟩
  refine ⟨τ, G, R.wish _, ?_⟩
  unfold fTry0 at h
  revert h
  generalize Fb τ = r
  intro h
  cases r with
  | stuck => exact h
  | ok r τ1 =>
    cases r with
    | rt r => exact fun v σ' H' G' s R' rr => h v σ' H' G' s R'.unwish (by cases r <;> exact rr)
    | nx => exact fun σ' H' G' s R' => h σ' H' G' s R'.unwish
    | bk => exact fun σ' H' G' s R' => h σ' H' G' s R'.unwish
    | ct => exact fun σ' H' G' s R' => h σ' H' G' s R'.unwish
  | exc m f τ1 =>
    dsimp only at h
    intro C d σ' H' G' s R' rx
    have R1 := R'.unwish
    obtain ⟨a0, hC, hm⟩ := rx.1
    subst hC
    cases q : tab.lookup m with
    | none =>
      rw [q] at h
      exact h.elim
    | some b =>
      rw [q] at h
      refine ⟨b, ht m b q a0 (by rw [ok.mg]; exact hm), fun hb => ?_, fun hb => ?_⟩
      · subst hb
        dsimp only at h
        intro a na
        refine ⟨τ1, G', R1.wish _, ?_⟩
        revert h
        generalize Fs τ1 = r
        intro h
        cases r with
        | stuck => exact h
        | exc c f τ => exact (show False from h).elim
        | ok r τ2 =>
          cases r with
          | rt r =>
            cases r with
            | slot j => exact h.elim
            | val d0 => exact fun v σ2 H2 G2 s2 R2 rr => h v σ2 H2 G2 (s.trans s2) R2.unwish rr
            | tmp c0 => exact fun v σ2 H2 G2 s2 R2 rr => h v σ2 H2 G2 (s.trans s2) R2.unwish rr
          | nx => exact fun σ2 H2 G2 s2 R2 => h σ2 H2 G2 (s.trans s2) R2.unwish
          | bk => exact fun σ2 H2 G2 s2 R2 => h σ2 H2 G2 (s.trans s2) R2.unwish
          | ct => exact fun σ2 H2 G2 s2 R2 => h σ2 H2 G2 (s.trans s2) R2.unwish
      · subst hb
        exact h _ _ σ' H' G' s R1 rx
end
/-- what the text's top leaves of an own class -/
structure Cl (K : Fg) (mg : Str → Option Value) (x : Str) (C : Addr) : Prop where
  g : mg x = some (.ref C)
  k : PySem.W.keepIn K (.ref C) = true
  s : PySem.W.subIn K (.ref C) (.type "BaseException") = some true
  t : PySem.W.typeIn K (.ref C) = some (.type "type")
/-- .. without an __init__ -/
def Ne (K : Fg) (C : Addr) : Prop := PySem.W.excIn K C [.type "ValueError", .type "Exception", .type "BaseException", .type "object"] "ValueError.__new__" = true
/-- a table of what a clause takes, out of what is known of each class -/
theorem tab1 {K : Fg} {mg : Str → Option Value} {c : Value} {tab : List (Str × Bool)} (h : ∀ q ∈ tab, ∃ C, mg q.1 = some (.ref C) ∧ PySem.W.exmOne K (.ref C) c = some q.2) : ∀ m b, tab.lookup m = some b → ∀ C, mg m = some (.ref C) → PySem.W.exmOne K (.ref C) c = some b := by
  intro m b e C hC
  have : (m, b) ∈ tab := by
    clear h
    induction tab with
    | nil => cases e
    | cons q qs ih =>
      obtain ⟨n, b'⟩ := q
      by_cases z : (m == n) = true
      · simp only [List.lookup, z] at e
        have z := eq_of_beq z
        cases e
        rw [z]
        exact List.mem_cons_self ..
      · have z : (m == n) = false := by simpa using z
        simp only [List.lookup, z] at e
        exact List.mem_cons_of_mem _ (ih e)
  obtain ⟨C', h1, h2⟩ := h _ this
  have h1 : mg m = some (.ref C') := h1
  rw [hC] at h1
  cases h1
  exact h2
end T
end

section
set_option Elab.async false
set_option linter.all false
set_option maxRecDepth 100000
set_option maxHeartbeats 4000000
/-! T20: xs[::-1], list(range(..)), reversed, range with the step -1. -/
namespace T
open PySem PySem.Spec PyProof.Rows L2 Z
def fRevL (Fa : FE) : FE := fun τ => (Fa τ).bind fun r τ1 => match look τ1 r with
  | some (.list ds) => .ok (.tmp (.L ds.reverse)) τ1
  | _ => .stuck
def fLstRg2 (Fa Fb : FE) : FE := fun τ => (Fa τ).bind fun ra τ1 => match look τ1 ra with
  | some (.int i) => (Fb τ1).bind fun rb τ2 => match look τ2 rb with
    | some (.int j) => if rgOk i = true ∧ rgOk j = true ∧ (j - i).toNat ≤ 100000 then .ok (.tmp (.L (rgItems i (j - i).toNat))) τ2 else .stuck
    | _ => .stuck
  | _ => .stuck
def fLstRg1 (Fb : FE) : FE := fun τ => (Fb τ).bind fun rb τ2 => match look τ2 rb with
  | some (.int j) => if rgOk j = true ∧ j.toNat ≤ 100000 then .ok (.tmp (.L (rgItems 0 j.toNat))) τ2 else .stuck
  | _ => .stuck
theorem rg_dp {K : Fg} {G : Hp} (i : Int) (j : Int) : DpAll K G (rgV i j) (rgItems i (j - i).toNat) := by
  have go : ∀ l : List Nat, DpAll K G (l.map fun k => V.int (i + (k : Nat))) (l.map fun (k : Nat) => PyData.int (i + (k : Nat))) := by
    intro l
    induction l with
    | nil => exact .nil
    | cons a l ih => exact .cons (.int _) ih
  exact go _
section
variable {X : Cx} {B : Bs} {e a b c tg : Expr} {k : Nat} {p1 p2 p3 p pos : Pos} {Fa Fb : FE} {A : FA}
theorem x_revL (ok : OkB X B) (he : PE X e (tE B Fa)) : PE X (.Subscript e (.Slice none none (some (.UnaryOp .USub (.Constant (.int 1) k p1) p2)) p3) pos) (tE B (fRevL Fa)) := by
  refine PE.wkt (pe_revL he) ?_
  rintro σ H Q ⟨τ, G, R, h⟩
  refine ⟨τ, G, R, Po.bind h fun r τ1 x H1 G1 _ _ R1 rr h => ?_⟩
  revert h
  cases q : look τ1 r with
  | none => exact fun h => h.elim
  | some d =>
    cases d with
    | list ds =>
      intro h
      obtain ⟨p, vs, rfl, hs, hd⟩ := look_ok R1 rr q
      rw [ok.K]
      exact ⟨p, vs, rfl, hs, fun q nq => Nw.of (new_lst R1 hd.rev h) q nq⟩
    | _ => exact fun h => (show False from h).elim
theorem x_listRg2 (ok : OkB X B) (hg : Gl X "list") (hm : X.mg "list" = none) (hg2 : Gl X "range") (hm2 : X.mg "range" = none) (ha : PE X a (tE B Fa)) (hb : PE X b (tE B Fb))
    (na : starEach [a, b] X.env = (false, eval a X.env) :: starEach [b] X.env := by rfl) (nb : starEach [b] X.env = (false, eval b X.env) :: starEach [] X.env := by rfl) (hp : (backTo pos (starEach [b] X.env)).any (·.1) = false := by rfl)
    (nr : starEach [.Call (.Name "range" p1) [a, b] [] pos] X.env = (false, eval (.Call (.Name "range" p1) [a, b] [] pos) X.env) :: starEach [] X.env := by rfl) :
    PE X (.Call (.Name "list" p) [.Call (.Name "range" p1) [a, b] [] pos] [] p2) (tE B (fLstRg2 Fa Fb)) := by
  refine PE.wkt (pe_listRg ok.calm hg hm (prg_2 hg2 hm2 ha hb na nb hp) nr) ?_
  rintro σ H Q ⟨τ, G, R, h⟩
  refine ⟨τ, G, R, Po.bind h fun ra τ1 x H1 G1 _ _ R1 rr h => ?_⟩
  revert h
  cases q : look τ1 ra with
  | none => exact fun h => h.elim
  | some d =>
    cases d with
    | int i =>
      intro h
      have ex := (look_ok R1 rr q).int
      subst ex
      refine ⟨τ1, G1, R1, Po.bind h fun rb τ2 y H2 G2 _ _ R2 rr2 h => ?_⟩
      revert h
      cases q2 : look τ2 rb with
      | none => exact fun h => h.elim
      | some d2 =>
        cases d2 with
        | int j =>
          have ey := (look_ok R2 rr2 q2).int
          subst ey
          by_cases c : rgOk i = true ∧ rgOk j = true ∧ (j - i).toNat ≤ 100000
          · dsimp only
            rw [if_pos c]
            intro h
            have c1 := of_decide_eq_true c.1
            have c2 := of_decide_eq_true c.2.1
            exact ⟨i, j, rfl, rfl, ⟨c1.1, c1.2, c2.1, c2.2, by have := c.2.2; omega⟩, fun q nq => Nw.of (new_lst R2 (rg_dp i j) h) q nq⟩
          · dsimp only
            rw [if_neg c]
            exact fun h => h.elim
        | _ => exact fun h => (show False from h).elim
    | _ => exact fun h => (show False from h).elim
theorem x_listRg1 (ok : OkB X B) (hg : Gl X "list") (hm : X.mg "list" = none) (hg2 : Gl X "range") (hm2 : X.mg "range" = none) (hb : PE X b (tE B Fb))
    (nb : starEach [b] X.env = (false, eval b X.env) :: starEach [] X.env := by rfl)
    (nr : starEach [.Call (.Name "range" p1) [b] [] pos] X.env = (false, eval (.Call (.Name "range" p1) [b] [] pos) X.env) :: starEach [] X.env := by rfl) :
    PE X (.Call (.Name "list" p) [.Call (.Name "range" p1) [b] [] pos] [] p2) (tE B (fLstRg1 Fb)) := by
  refine PE.wkt (pe_listRg ok.calm hg hm (prg_1 hg2 hm2 hb nb) nr) ?_
  rintro σ H Q ⟨τ, G, R, h⟩
  refine ⟨τ, G, R, Po.bind h fun rb τ2 y H2 G2 _ _ R2 rr2 h => ?_⟩
  revert h
  cases q2 : look τ2 rb with
  | none => exact fun h => h.elim
  | some d2 =>
    cases d2 with
    | int j =>
      have ey := (look_ok R2 rr2 q2).int
      subst ey
      by_cases c : rgOk j = true ∧ j.toNat ≤ 100000
      · dsimp only
        rw [if_pos c]
        intro h
        have c1 := of_decide_eq_true c.1
        refine ⟨j, rfl, ⟨by omega, by omega, c1.1, c1.2, by have := c.2; omega⟩, fun q nq => Nw.of (new_lst R2 ?_ h) q nq⟩
        have z := rg_dp (K := B.K) (G := G2) 0 j
        rw [Int.sub_zero] at z
        exact z
      · dsimp only
        rw [if_neg c]
        exact fun h => h.elim
    | _ => exact fun h => (show False from h).elim
/-! reversed(x), x a list -/
def fRev (Fa : FE) : FI := fun τ => (Fa τ).bind fun r τ1 => (hold r τ1).bind fun r τ2 => match frz1 r τ2 with
  | some (.list ds, τ3) => .ok ds.reverse τ3
  | _ => .stuck
theorem xi_rev (ok : OkB X B) (hg : Gl X "reversed") (hm : X.mg "reversed" = none) (he : PE X e (tE B Fa)) (hs : starEach [e] X.env = (false, eval e X.env) :: starEach [] X.env := by rfl) : PI X tg (.Call (.Name "reversed" p) [e] [] pos) (tI B (fRev Fa)) := by
  refine PI.wkt (RT.pi_revA hg hm he hs) ?_
  rintro σ H R ⟨τ, G, R0, h⟩
  refine ⟨τ, G, R0, Po.bind h fun r τ1 x H1 G1 _ _ R1 rr h => ?_⟩
  have hold_okI : ∀ {k : RV → Te → Res (List PyData)}, Po (RI B) B σ G1 (fun J H' => R J H') ((hold r τ1).bind k) → ∃ r' τ' G', hold r τ1 = .ok r' τ' ∧ Sub G1 G' ∧ Rp B σ H1 τ' G' ∧ RR B σ H1 τ' G' x r' ∧ NoTmp r' ∧ Po (RI B) B σ G' (fun J H' => R J H') (k r' τ') := fun q => hold_ok R1 rr q
  obtain ⟨r2, τ2, G2, _, _, R2, rr2, nt, h⟩ := hold_okI h
  split at h
  · rename_i ds τ3 e1
    obtain ⟨G3, s3, R3, hd⟩ := frz1_ok R2 rr2 e1
    have h := Po.sub s3 h
    cases hd with
    | @lst a xs _ hs ha =>
      rw [ok.K]
      refine ⟨a, xs, rfl, .inl ⟨SqL.sub R3.gh hs, h _ H1 G3 (Sub.refl _) R3 ?_⟩⟩
      have w := walk_rev (K := B.K) (a := a) (xs := xs)
      unfold RI
      rw [List.length_reverse, ← ha.len]
      refine w.mono (fun H s => SqL.sub s.1 hs) fun i H x H' hi s y => ?_
      obtain ⟨e, hx⟩ := y
      obtain ⟨d, e2, hd⟩ := ha.getV hx
      refine ⟨d, ?_, .inl ⟨e, hd⟩⟩
      rw [List.getElem?_reverse (by rw [← ha.len]; exact hi), ← ha.len]
      exact e2
  · exact h.elim
/-! range(i, j, -1) -/
def dnItems (hi : Int) (n : Nat) : List PyData := (List.range n).map fun (k : Nat) => .int (hi - (k : Nat))
def fRange3 (A : FA) : FI := fun τ => (A τ).bind fun rs τ1 => match looks τ1 rs with
  | some [.int i, .int j, .int c] => if rgOk i = true ∧ rgOk j = true ∧ c = -1 then .ok (dnItems i (i - j).toNat) τ1 else .stuck
  | _ => .stuck
theorem Lks.three {K : Fg} {H G : Hp} {xs : List V} {d e f : PyData} (h : Lks K H G xs [d, e, f]) : ∃ x y z, xs = [x, y, z] ∧ Lk K H G x d ∧ Lk K H G y e ∧ Lk K H G z f := by
  cases h with
  | cons a h =>
    cases h with
    | cons b h =>
      cases h with
      | cons c h =>
        cases h
        exact ⟨_, _, _, rfl, a, b, c⟩
theorem xi_range3 (hg : Gl X "range") (hm : X.mg "range" = none) (ha : PA X [a, b, c] (tA B A)) (hs : starEach [a, b, c] X.env = (false, eval a X.env) :: starEach [b, c] X.env := by rfl) (hpl : (backTo pos (starEach [b, c] X.env)).any (·.1) = false := by rfl) :
    PI X tg (.Call (.Name "range" p) [a, b, c] [] pos) (tI B (fRange3 A)) :=
  PI.wkt (pi_range3 hg hm ha hs hpl) fun σ H R h => by
    obtain ⟨τ, G, R0, h⟩ := h
    refine ⟨τ, G, R0, Po.bind h fun rs τ1 xs H1 G1 _ _ R1 rr h => ?_⟩
    have z := fun ds => looks_ok (ds := ds) R1 rr
    revert h z
    generalize looks τ1 rs = o
    intro h z
    split at h
    · rename_i i j k
      obtain ⟨x, y, w, rfl, hx, hy, hw⟩ := Lks.three (z _ rfl)
      cases hx.int
      cases hy.int
      cases hw.int
      by_cases c : rgOk i = true ∧ rgOk j = true ∧ k = -1
      · rw [if_pos c] at h
        obtain ⟨c1, c2, c3⟩ := c
        subst c3
        have c1 := of_decide_eq_true c1
        have c2 := of_decide_eq_true c2
        refine ⟨i, j, -1, (i - j).toNat, rfl, RgC.neg c1.1 c1.2 c2.1 c2.2, h _ H1 G1 (Sub.refl _) R1 ?_⟩
        have w := walk_rangeC (lo := i) (c := -1) (n := (i - j).toNat)
        have l : (dnItems i (i - j).toNat).length = (i - j).toNat := by simp [dnItems]
        unfold RI
        rw [l]
        refine w.mono (fun H s => trivial) fun m H x H' hm s y => ?_
        obtain ⟨e, rfl⟩ := y
        refine ⟨.int (i - (m : Nat)), by simp [dnItems, hm], .inl ⟨e, ?_⟩⟩
        show Dp B.K G1 (.int (i + ((m : Nat) : Int) * -1)) _
        rw [show i + ((m : Nat) : Int) * -1 = i - (m : Nat) by omega]
        exact .int _
      · rw [if_neg c] at h
        exact h.elim
    · exact h.elim
end
end T
end

section
set_option Elab.async false
set_option linter.all false
set_option maxRecDepth 100000
set_option maxHeartbeats 4000000
/-! T21: the end of a law by value. -/
namespace T
open PySem PySem.Spec PyProof.Rows L2 Z
theorem law_end {K : Fg} {mg : Str → Option Value} {F : Fd} {H : Hp} {a : Addr} {ns : List Int} {τ : Te} {E : XK} (h : F [.sh (.list (ns.map .int))] = .ok (.val (.bool true)) τ) (hS : SqL K H a (ns.map V.int)) :
    spOf K mg 1 F [.ref a] H (fun v _ => v = .bl true) E := by
  refine ⟨[.sh (.list (ns.map .int))], H, ⟨Sub.refl _, rfl, rfl, fun i s e => ?_, fun i j p hi => ?_⟩, ?_⟩
  · cases i with
    | zero =>
      cases e
      exact ⟨_, rfl, .lst hS (DpAll.ints ns)⟩
    | succ i => cases e
  · cases i with
    | zero => exact absurd hi (by intro z; cases z)
    | succ i => exact absurd hi (by simp [isIo])
  · rw [h]
    intro v H' G' af rr
    cases rr
    rfl
/-- a law's promise -/
def spL (K : Fg) (F : Fd) : Sp := fun vs H Q _ => ∃ (a : Addr) (ns : List Int) (τ : Te), vs = [.ref a] ∧ SqL K H a (ns.map V.int) ∧ F [.sh (.list (ns.map .int))] = .ok (.val (.bool true)) τ ∧ ∀ H', Q (.bl true) H'
theorem fnG_law {P : Program} {w : World} {K : Fg} {mg : Str → Option Value} {base : Heap} {CX : CXT} {k : Nat} {f : Addr} {fd : FuncData} {ps : List Str} {F : Fd} (h : FnG P w K mg base CX k f fd ps (spOf K mg 1 F)) : FnG P w K mg base CX k f fd ps (spL K F) := by
  have im : ∀ vs H Q E, spL K F vs H Q E → spOf K mg 1 F vs H Q E := by
    rintro vs H Q E ⟨a, ns, τ, rfl, hS, e, q⟩
    obtain ⟨ps, G, S0, z⟩ := law_end (mg := mg) (E := E) e hS
    refine ⟨ps, G, S0, ?_⟩
    revert z
    cases F ps with
    | stuck => exact fun z => z.elim
    | exc c f τ' => exact fun z => z
    | ok r τ' =>
      intro z v H' G' af rr
      rw [z v H' G' af rr]
      exact q H'
  exact ⟨fun vs H Q E h2 => h.ln vs H Q E (im _ _ _ _ h2), fun A fr s H env us vs Q E hr gu he b r h2 => h.go A fr s H env us vs Q E hr gu he b r (im _ _ _ _ h2)⟩
theorem no_raise {P : Program} : ∀ (w : World) (H : Hp) (s : Shared) (e : Value) (s2 : Shared), L2.CX P w [] H s (fun _ _ _ => False) e s2 → False := fun w H s e s2 h => by
  obtain ⟨_, _, _, _, _, _, _, _, _, _, _, _, z⟩ := h
  exact z.elim
/-- what is known of two classes, out of the text's facts -/
theorem exm_of {K : Fg} {mg : Str → Option Value} {cE cR : Addr} {x y : Str} {b : Bool} (k : Cl K mg x cE) (r : Cl K mg y cR) (hR : PySem.W.hasDictIn K cR = true) (s : PySem.W.subIn K (.ref cE) (.ref cR) = some b) : ∃ C, mg x = some (.ref C) ∧ PySem.W.exmOne K (.ref C) (.ref cR) = some b :=
  ⟨cE, k.g, PySem.W.exm_ref r.s hR r.t s⟩
theorem lookup_mem {m : Str} {b : Bool} : ∀ {tab : List (Str × Bool)}, tab.lookup m = some b → (m, b) ∈ tab
  | [], e => by cases e
  | (n, b') :: qs, e => by
    by_cases z : (m == n) = true
    · simp only [List.lookup, z] at e
      have z := eq_of_beq z
      cases e
      rw [z]
      exact List.mem_cons_self ..
    · have z : (m == n) = false := by simpa using z
      simp only [List.lookup, z] at e
      exact List.mem_cons_of_mem _ (lookup_mem e)
end T
end

section
set_option Elab.async false
set_option linter.all false
set_option maxRecDepth 100000
set_option maxHeartbeats 2000000
/-! T22: objects of own classes, their attributes, their methods. -/
namespace T
open PySem PySem.Spec PyProof.Rows L2 Z
section
variable {B : Bs} {σ : L2.St} {H : Hp} {τ : Te} {G : Hp} {x : V}
/-! ### one slot more, for a time -/
theorem getA {α : Type} {l : List α} {y : α} {i : Nat} (h : i < l.length) : (l ++ [y])[i]? = l[i]? := List.getElem?_append_left h
theorem getB {α : Type} {l : List α} {y : α} : (l ++ [y])[l.length]? = some y := by simp
theorem lt_of_app {α : Type} {l : List α} {y z : α} {i : Nat} (h : (l ++ [y])[i]? = some z) : i < l.length ∨ (i = l.length ∧ y = z) := by
  by_cases c : i < l.length
  · exact .inl c
  · refine .inr ?_
    have hl := (List.getElem?_eq_some_iff.mp h).1
    rw [List.length_append, List.length_singleton] at hl
    have : i = l.length := by omega
    subst this
    rw [getB] at h
    exact ⟨rfl, Option.some.inj h⟩
theorem Own.app {i : Nat} {s : Sl} (h : Own (τ ++ [s]) i) (hs : ∀ k l c, s = .ct k l c → k = .ro) : Own τ i := by
  obtain ⟨k, l, c, e, hk⟩ := h
  rcases lt_of_app e with c1 | ⟨_, c1⟩
  · rw [getA c1] at e
    exact ⟨k, l, c, e, hk⟩
  · exact absurd (hs _ _ _ c1) hk
theorem Rp.pad (R : Rp B σ H τ G) : Rp B (σ ++ [none]) H (τ ++ [.no]) G where
  gh := R.gh
  g0 := R.g0
  nw := R.nw
  kp := R.kp
  da := R.da
  dr := R.dr
  sl := fun i s e => by
    have nown : ∀ p, OwnAt (σ ++ [none]) (τ ++ [.no]) p → OwnAt σ τ p := fun p ⟨k, hk, ek⟩ => by
      have ow := Own.app hk (fun k l c z => by cases z)
      obtain ⟨a, b, c, e1, _⟩ := ow
      have hl := (List.getElem?_eq_some_iff.mp e1).1
      rw [getA (by rw [R.ln]; exact hl)] at ek
      exact ⟨k, Own.app hk (fun k l c z => by cases z), ek⟩
    rcases lt_of_app e with c | ⟨rfl, rfl⟩
    · rw [getA c] at e
      exact (R.sl i s e).move (getA (by rw [R.ln]; exact c)) (Sub.refl _) (fun _ _ _ _ h => h) (fun _ _ _ h => h) fun p c _ n h => ⟨h, fun z => n (nown p z)⟩
    · trivial
  ds := fun a b p ha hb ea eb => by
    have oa := Own.app ha (fun k l c z => by cases z)
    have ob := Own.app hb (fun k l c z => by cases z)
    obtain ⟨_, _, _, e1, _⟩ := oa
    obtain ⟨_, _, _, e2, _⟩ := ob
    rw [getA (by rw [R.ln]; exact (List.getElem?_eq_some_iff.mp e1).1)] at ea
    rw [getA (by rw [R.ln]; exact (List.getElem?_eq_some_iff.mp e2).1)] at eb
    exact R.ds a b p (Own.app ha (fun k l c z => by cases z)) (Own.app hb (fun k l c z => by cases z)) ea eb
  ln := by simp [R.ln]
theorem Rp.unpad {y : Option V} {s : Sl} (R : Rp B (σ ++ [y]) H (τ ++ [s]) G) (ln : σ.length = τ.length) (hs : ∀ k l c, s = .ct k l c → k = .ro) : Rp B σ H τ G where
  gh := R.gh
  g0 := R.g0
  nw := R.nw
  kp := R.kp
  da := R.da
  dr := R.dr
  sl := fun i s' e => by
    have hl := (List.getElem?_eq_some_iff.mp e).1
    have nown : ∀ p, OwnAt σ τ p → OwnAt (σ ++ [y]) (τ ++ [s]) p := fun p ⟨k, ⟨a, b, c, e1, hk⟩, ek⟩ => by
      have h2 := (List.getElem?_eq_some_iff.mp e1).1
      exact ⟨k, ⟨a, b, c, by rw [getA h2]; exact e1, hk⟩, by rw [getA (by omega)]; exact ek⟩
    exact (R.sl i s' (by rw [getA hl]; exact e)).move (getA (by omega)).symm (Sub.refl _) (fun _ _ _ _ h => h) (fun _ _ _ h => h) fun p c _ n h => ⟨h, fun z => n (nown p z)⟩
  ds := fun a b p ⟨k1, l1, c1, e1, hk1⟩ ⟨k2, l2, c2, e2, hk2⟩ ea eb => by
    have h1 := (List.getElem?_eq_some_iff.mp e1).1
    have h2 := (List.getElem?_eq_some_iff.mp e2).1
    exact R.ds a b p ⟨k1, l1, c1, by rw [getA h1]; exact e1, hk1⟩ ⟨k2, l2, c2, by rw [getA h2]; exact e2, hk2⟩ (by rw [getA (by omega)]; exact ea) (by rw [getA (by omega)]; exact eb)
  ln := ln
theorem setB {α : Type} {l : List α} {y z : α} : (l ++ [y]).set l.length z = l ++ [z] := by simp
theorem Rp.push (R : Rp B σ H τ G) {c : Ct} (h : RR B σ H τ G x (.tmp c)) : Rp B (σ ++ [some x]) H (τ ++ [.ct .ow false c]) G := by
  have R1 := R.pad
  have h1 : RR B (σ ++ [none]) H (τ ++ [.no]) G x (.tmp c) := by
    obtain ⟨p, o, rfl, e1, rc, g, h0, n, nr⟩ := h
    refine ⟨p, o, rfl, e1, rc, g, h0, fun ⟨k, hk, ek⟩ => ?_, fun i l c' ei es => ?_⟩
    · have o := Own.app hk (fun k l c z => by cases z)
      obtain ⟨_, _, _, e2, _⟩ := o
      rw [getA (by rw [R.ln]; exact (List.getElem?_eq_some_iff.mp e2).1)] at ek
      exact n ⟨k, Own.app hk (fun k l c z => by cases z), ek⟩
    · rcases lt_of_app ei with q | ⟨_, q⟩
      · rw [getA q] at ei
        rw [getA (by rw [R.ln]; exact q)] at es
        exact nr i l c' ei es
      · cases q
  have R2 := R1.setOw (i := σ.length) h1
  rw [setB, show (τ ++ [Sl.no]).set σ.length (.ct .ow false c) = τ ++ [.ct .ow false c] by rw [R.ln]; exact setB] at R2
  exact R2
theorem Rp.pop {p : Addr} {c : Ct} (ln : σ.length = τ.length) (R : Rp B (σ ++ [some (.ref p)]) H (τ ++ [.ct .ow false c]) G) : Rp B σ H τ G ∧ RR B σ H τ G (.ref p) (.tmp c) := by
  have z := R.sl τ.length _ getB
  obtain ⟨q, o, e1, e2, rc, g, h0⟩ := z
  rw [← ln, getB] at e1
  cases e1
  have R0 : Rp B σ H τ G := by
    have R1 := R.drop (i := τ.length) (s := .no) (fun k l c z => by cases z) (fun _ _ => trivial) (fun l c z => by cases z)
    rw [setB] at R1
    exact R1.unpad ln (fun k l c z => by cases z)
  refine ⟨R0, p, o, rfl, e2, rc, g, h0, fun ⟨k, ⟨a, b, c', e3, hk⟩, ek⟩ => ?_, fun i l c' ei es => ?_⟩
  · have hl := (List.getElem?_eq_some_iff.mp e3).1
    have := R.ds k τ.length p ⟨a, b, c', by rw [getA hl]; exact e3, hk⟩ ⟨_, _, _, getB, by decide⟩ (by rw [getA (by omega)]; exact ek) (by rw [← ln]; exact getB)
    omega
  · have hl := (List.getElem?_eq_some_iff.mp ei).1
    obtain ⟨q, e5, z⟩ := R.sl i _ (by rw [getA hl]; exact ei)
    rw [getA (by omega), es] at e5
    cases e5
    rcases z with z | ⟨_, n, _⟩
    · exact z
    · exact absurd ⟨τ.length, ⟨_, _, _, getB, by decide⟩, by rw [← ln]; exact getB⟩ n
end
/-! ### classes -/
structure Kl (K : Fg) (c : Str) (C : Addr) : Prop where
  at_ : PySem.W.nsIn K mainGlobals c = some (some (.ref C))
  cls : L2.Cls K C
theorem Kl.eq {K : Fg} {c : Str} {C D : Addr} (k : Kl K c C) (h : PySem.W.nsIn K mainGlobals c = some (some (.ref D))) : D = C := by
  rw [k.at_] at h
  cases h
  rfl
/-- a method's promise -/
structure Dm (P : Program) (w : World) (K : Fg) (mg : Str → Option Value) (base : Heap) (k : Nat) (C : Addr) (m : Str) (sp : Sp) : Prop where
  ex : ∃ (f : Addr) (fd : FuncData) (ps : List Str), FnG P w K mg base (L2.CX P w) k f fd ps sp ∧ L2.Meth K C m f ∧ Binds K fd ps []
section
variable {P : Program} {w : World} {K : Fg} {mg : Str → Option Value} {base : Heap} {k : Nat}
theorem dm_T {x qual : Str} {C : Addr} {m : Str} {st : Stmt} {f : Addr} {fd : FuncData} {N ps : List Str} {F : FS} (Fn : L2.Fun K x qual st f fd) (hm : L2.Meth K C m f) (b : Binds K fd ps []) (S : FnScope N ps (defScope st)) (hn : ps.length ≤ N.length)
    (body : ∀ (cdv : Value) (A : Around) (fr : List Env) (s : Shared) (H : Hp) (E : XK) (B : Bs), Room k (A.deeper (envOfC qual (defScope st) s.heap.objs.size f cdv)) → A.guards = some [] →
      OkB (cxOf (L2.CX P w) P w K mg base N qual (defScope st) f cdv A fr s H E) B → B.K = K → B.mg = mg → PSs (cxOf (L2.CX P w) P w K mg base N qual (defScope st) f cdv A fr s H E) (defBody st) (tS B F)) :
    Dm P w K mg base (k + 1) C m (spOf K mg ps.length (mkFd N.length F)) :=
  ⟨f, fd, ps, fnG_of Fn S (fun vs H Q E h => spOf_len vs H Q E h) fun cdv A fr s H vs Q E hr hg h => by
    obtain ⟨qs, G, S0, h⟩ := h
    exact ⟨_, body cdv A fr s H E (B0 K mg H G vs qs E) hr hg ⟨rfl, rfl, rfl, takes_of rfl rfl rfl rfl, passes_of rfl⟩ rfl rfl, ⟨_, G, S0.rp hn, fin_ps S0 h⟩⟩, hm, b⟩
end
/-! ### attributes -/
def objD (c : Str) (τ : Te) (i : Nat) : Option KD := match τ[i]? with
  | some (.ct _ _ (.D (some c') kd)) => if c' = c then some kd else none
  | _ => none
def fFld (c : Str) (i : Nat) (f : Str) : FE := fun τ => match objD c τ i with
  | some kd => match valD kd (.inr f) with
    | some d => .ok (.val d) τ
    | none => .stuck
  | none => .stuck
def putK (kd : KD) (f : Str) (d : PyData) : KD := match kd with
  | [] => [(.inr f, d)]
  | (k, u) :: r => if k = .inr f then (k, d) :: r else (k, u) :: putK r f d
abbrev FP (K : Fg) (G : Hp) (fs : List (Str × V)) (kd : KD) : Prop := Paired (fun (p : Str × V) (q : Key × PyData) => .inr p.1 = q.1 ∧ Dp K G p.2 q.2) fs kd
theorem fp_look {K : Fg} {G : Hp} {f : Str} : ∀ {fs : List (Str × V)} {kd : KD}, FP K G fs kd → (∀ {d : PyData}, valD kd (.inr f) = some d → ∃ v, fs.lookup f = some v ∧ Dp K G v d) ∧ (valD kd (.inr f) = none → fs.lookup f = none)
  | _, _, .nil => ⟨(fun {d} e => by cases e), fun _ => rfl⟩
  | (g, v) :: fs, (k, u) :: kd, .cons h t => by
    obtain ⟨h1, h2⟩ := h
    have h1 : Sum.inr g = k := h1
    subst h1
    obtain ⟨i1, i2⟩ := fp_look (f := f) t
    have l1 : ((g, v) :: fs).lookup f = match f == g with | true => some v | false => fs.lookup f := rfl
    by_cases c : g = f
    · subst c
      have l2 : valD ((Sum.inr g, u) :: kd) (.inr g) = some u := by unfold valD; simp
      rw [l1, l2]
      simp only [beq_self_eq_true]
      exact ⟨(fun {d} e => ⟨v, rfl, by (cases e; exact h2)⟩), (fun e => by cases e)⟩
    · have n2 : (f == g) = false := by
        rw [beq_eq_false_iff_ne]
        exact fun z => c z.symm
      have l2 : valD ((Sum.inr g, u) :: kd) (.inr f) = valD kd (.inr f) := by
        unfold valD
        rw [List.find?_cons_of_neg]
        simpa using c
      rw [l1, l2, n2]
      exact ⟨i1, i2⟩
theorem fp_put {K : Fg} {G : Hp} {f : Str} {v : V} {d : PyData} (hd : Dp K G v d) : ∀ {fs : List (Str × V)} {kd : KD}, FP K G fs kd → FP K G (L2.putF f v fs) (putK kd f d)
  | _, _, .nil => .cons ⟨rfl, hd⟩ .nil
  | (g, w) :: fs, (k, u) :: kd, .cons h t => by
    obtain ⟨h1, h2⟩ := h
    have h1 : Sum.inr g = k := h1
    subst h1
    unfold L2.putF putK
    by_cases c : g = f
    · rw [if_pos c, if_pos (by rw [c])]
      exact .cons ⟨rfl, hd⟩ t
    · rw [if_neg c, if_neg (by intro z; cases z; exact c rfl)]
      exact .cons ⟨rfl, h2⟩ (fp_put hd t)
theorem fp_len {K : Fg} {G : Hp} : ∀ {fs : List (Str × V)} {kd : KD}, FP K G fs kd → fs.length = kd.length
  | _, _, .nil => rfl
  | _, _, .cons _ t => by rw [List.length_cons, List.length_cons, fp_len t]
section
variable {X : Cx} {B : Bs} {o e a : Expr} {es : List Expr} {pos pos' tpos apos p : Pos} {f c : Str} {Fa : FE} {i : Nat} {C : Addr}
theorem objD_at {σ : L2.St} {H : Hp} {τ : Te} {G : Hp} {kd : KD} (R : Rp B σ H τ G) (h : objD c τ i = some kd) : ∃ p D dx fs, σ[i]? = some (some (.ref p)) ∧ H p = some (.ins D dx fs) ∧ PySem.W.nsIn B.K mainGlobals c = some (some (.ref D)) ∧ FP B.K G fs kd := by
  unfold objD at h
  split at h
  · rename_i k l c' kd' e
    by_cases q : c' = c
    · rw [if_pos q] at h
      cases h
      subst q
      have z := R.sl i _ e
      cases k with
      | ow =>
        obtain ⟨p, o, e1, e2, rc, _⟩ := z
        cases o <;> try exact (show False from rc).elim
        exact ⟨p, _, _, _, e1, e2, (show _ ∧ _ from rc).1, (show _ ∧ _ from rc).2⟩
      | io =>
        obtain ⟨p, o, e1, e2, rc, _⟩ := z
        cases o <;> try exact (show False from rc).elim
        exact ⟨p, _, _, _, e1, e2, (show _ ∧ _ from rc).1, (show _ ∧ _ from rc).2⟩
      | ro =>
        obtain ⟨p, e1, z⟩ := z
        rcases z with ⟨ds', vs, hc, hd, hw⟩ | ⟨w, _⟩
        · cases hc
        · obtain ⟨D, dx, fs, a, n, b⟩ := (show ∃ _, _ from w)
          exact ⟨p, _, _, _, e1, a, n, b⟩
    · rw [if_neg q] at h
      cases h
  · cases h
theorem objD_slot {τ : Te} {kd : KD} (h : objD c τ i = some kd) : fVar i τ = .ok (.slot i) τ := by
  unfold objD at h
  split at h
  · rename_i k l c' kd' e
    unfold fVar
    rw [e]
  · cases h
/-- e.f -/
theorem x_fld (ok : OkB X B) (k : Kl B.K c C) (n : L2.NoAttr B.K C f) (ho : PE X o (tE B (fVar i))) (hb : attributeBase o f X.env (eval o X.env) = eval o X.env := by rfl) : PE X (.Attribute o f pos) (tE B (fFld c i f)) :=
  PE.wkt (pe_fld ho hb) fun σ H Q ⟨τ, G, R, h⟩ => by
    unfold fFld at h
    cases q : objD c τ i with
    | none =>
      rw [q] at h
      exact h.elim
    | some kd =>
      rw [q] at h
      dsimp only at h
      cases q2 : valD kd (.inr f) with
      | none =>
        rw [q2] at h
        exact h.elim
      | some d =>
        rw [q2] at h
        refine ⟨τ, G, R, ?_⟩
        rw [objD_slot q]
        intro v H' G' s R' rr
        obtain ⟨p, D, dx, fs, e1, e2, e3, e4⟩ := objD_at R' q
        have hv : σ[i]? = some (some v) := rr
        rw [e1] at hv
        cases hv
        have : D = C := k.eq e3
        subst this
        obtain ⟨w, e5, e6⟩ := (fp_look (f := f) e4).1 q2
        refine ⟨p, _, _, _, w, rfl, e2, ?_, ?_, e5, ?_⟩
        · rw [ok.K]
          exact k.cls
        · rw [ok.K]
          exact n
        · exact h w H' G' s R' e6
def fSetF (c : Str) (i : Nat) (f : Str) (Fv : FE) : FS := fun τ => (Fv τ).bind fun rv τ1 => (hold rv τ1).bind fun rv τ2 => match frz1 rv τ2 with
  | some (d, τ3) => match objD c τ3 i with
    | some kd => match τ3[i]? with
      | some (.ct .ow false _) => if kd.length < 1000 then .ok .nx (τ3.set i (.ct .ow false (.D (some c) (putK kd f d)))) else .stuck
      | some (.ct .io false _) => if kd.length < 1000 then .ok .nx (τ3.set i (.ct .io false (.D (some c) (putK kd f d)))) else .stuck
      | _ => .stuck
    | none => .stuck
  | none => .stuck
theorem rc_put {K : Fg} {G : Hp} {D : Addr} {dx : Addr} {fs : List (Str × V)} {kd : KD} {v : V} {d : PyData} (h : PySem.W.nsIn K mainGlobals c = some (some (.ref D))) (e : FP K G fs kd) (hd : Dp K G v d) : RC K G (.ins D dx (L2.putF f v fs)) (.D (some c) (putK kd f d)) := ⟨h, fp_put hd e⟩
/-- o.f = e -/
theorem xs_setF (ok : OkB X B) (k : Kl B.K c C) (n : L2.NoAttr B.K C f) (ho : PE X o (tE B (fVar i))) (hv : PE X e (tE B Fa)) (hs : swapsWith e (some (.Attribute o f pos')) pos.line X.env = pure false := by rfl) : PS X (.Assign [.Attribute o f pos'] e pos) (tS B (fSetF c i f Fa)) :=
  PS.wkt (ps_fld ho hv hs) fun D σ H ⟨τ, G, R, h⟩ => by
    refine ⟨τ, G, R, Po.bindS h fun r τ1 y H1 G1 _ _ R1 rr h => ?_⟩
    obtain ⟨r', τ2, G2, e1, s2, R2, rr2, nt, h⟩ := hold_okS R1 rr h
    revert h
    cases q : frz1 r' τ2 with
    | none => exact fun h => h.elim
    | some z =>
      obtain ⟨d, τ3⟩ := z
      dsimp only
      obtain ⟨G3, s3, R3, dd⟩ := frz1_ok R2 rr2 q
      cases q2 : objD c τ3 i with
      | none => exact fun h => h.elim
      | some kd =>
        dsimp only
        intro h
        have h := PS1.sub s3 h
        refine ⟨τ3, G3, R3, ?_⟩
        rw [objD_slot q2]
        intro x H' G' s4 R4 rx
        obtain ⟨p, E, dx, fs, a1, a2, a3, a4⟩ := objD_at R4 q2
        have hx : σ[i]? = some (some x) := rx
        rw [a1] at hx
        cases hx
        have : E = C := k.eq a3
        subst this
        have ll : fs.length < 1000 ∧ ∃ kk l cc, kk ≠ .ro ∧ τ3[i]? = some (.ct kk l cc) ∧ PS1 B G3 D (.ok .nx (τ3.set i (.ct kk false (.D (some c) (putK kd f d))))) := by
          rw [fp_len a4]
          revert h
          cases q3 : τ3[i]? with
          | none => exact fun h => h.elim
          | some s =>
            cases s with
            | nv _ => exact fun h => h.elim
            | sh _ => exact fun h => h.elim
            | ct kk l cc =>
              cases kk with
              | ro => exact fun h => h.elim
              | ow =>
                cases l with
                | true => exact fun h => h.elim
                | false =>
                  dsimp only
                  by_cases c9 : kd.length < 1000
                  · rw [if_pos c9]
                    exact fun h => ⟨c9, _, _, _, by decide, rfl, h⟩
                  · rw [if_neg c9]
                    exact fun h => h.elim
              | io =>
                cases l with
                | true => exact fun h => h.elim
                | false =>
                  dsimp only
                  by_cases c9 : kd.length < 1000
                  · rw [if_pos c9]
                    exact fun h => ⟨c9, _, _, _, by decide, rfl, h⟩
                  · rw [if_neg c9]
                    exact fun h => h.elim
        obtain ⟨l1, kk, l, cc, hk, e5, hn⟩ := ll
        refine ⟨p, _, dx, fs, rfl, a2, ?_, ?_, l1, ?_⟩
        · rw [ok.K]
          exact k.cls
        · rw [ok.K]
          exact n
        · have R5 := R4.wr (c' := .D (some c) (putK kd f d)) (l' := false) e5 hk a1 (H2 := upd H' p (.ins _ dx (L2.putF f y fs))) (fun b u eb nb => by rw [upd_ne (by simpa using nb)]; exact eb) upd_same (rc_put a3 a4 (Dp.sub s4 dd))
          exact hn σ _ G' s4 R5
def fAugF (c : Str) (i : Nat) (f : Str) (g : PyData → PyData → O) (Fv : FE) : FS := fun τ => match objD c τ i with
  | some kd0 => match valD kd0 (.inr f) with
    | some d => (Fv τ).bind fun r τ1 => match look τ1 r with
      | some e => match g d e with
        | .v z => match objD c τ1 i with
          | some kd => match τ1[i]? with
            | some (.ct .ow false _) => if kd.length < 1000 then .ok .nx (τ1.set i (.ct .ow false (.D (some c) (putK kd f z)))) else .stuck
            | some (.ct .io false _) => if kd.length < 1000 then .ok .nx (τ1.set i (.ct .io false (.D (some c) (putK kd f z)))) else .stuck
            | _ => .stuck
          | none => .stuck
        | _ => .stuck
      | none => .stuck
    | none => .stuck
  | none => .stuck
/-- o.f op= e -/
theorem xs_augF {op : Operator} {ti : TIp} {g : PyData → PyData → O} (ok : OkB X B) (k : Kl B.K c C) (n : L2.NoAttr B.K C f) (ho : PE X o (tE B (fVar i))) (hv : PE X e (tE B Fa)) (hop : PIp X op ti) (og : OpF ti g) : PS X (.AugAssign (.Attribute o f tpos) op e pos) (tS B (fAugF c i f g Fa)) :=
  PS.wkt (ps_fldaug (rd := ti) ho hv (fun pins s σ H x y u v Q I rx ry q => hop pins s σ H x y _ _ Q I rx ry q)) fun D σ H ⟨τ, G, R, h⟩ => by
    unfold fAugF at h
    cases q0 : objD c τ i with
    | none =>
      rw [q0] at h
      exact h.elim
    | some kd0 =>
      rw [q0] at h
      dsimp only at h
      cases q1 : valD kd0 (.inr f) with
      | none =>
        rw [q1] at h
        exact h.elim
      | some d =>
        rw [q1] at h
        dsimp only at h
        refine ⟨τ, G, R, ?_⟩
        rw [objD_slot q0]
        intro x H' G' s4 R4 rx
        have h := PS1.sub s4 h
        obtain ⟨p, E, dx, fs, a1, a2, a3, a4⟩ := objD_at R4 q0
        have hx : σ[i]? = some (some x) := rx
        rw [a1] at hx
        cases hx
        have : E = C := k.eq a3
        subst this
        obtain ⟨w, e5, e6⟩ := (fp_look (f := f) a4).1 q1
        refine ⟨p, _, dx, fs, w, rfl, a2, by rw [ok.K]; exact k.cls, by rw [ok.K]; exact n, e5, τ, G', R4, Po.bindS h fun r τ1 y H1 G1 _ s5 R1 rr h => ?_⟩
        revert h
        cases q2 : look τ1 r with
        | none => exact fun h => h.elim
        | some e =>
          dsimp only
          cases q3 : g d e with
          | v z =>
            dsimp only
            intro h
            refine og B.K H1 G1 w y d e z _ (Lk.of R1.gh (Dp.sub s5 e6)) (look_ok R1 rr q2) q3 fun v dv => ?_
            revert h
            cases q4 : objD c τ1 i with
            | none => exact fun h => h.elim
            | some kd =>
              dsimp only
              intro h
              obtain ⟨p2, E2, dx2, fs2, b1, b2, b3, b4⟩ := objD_at R1 q4
              rw [a1] at b1
              cases b1
              have : E2 = E := k.eq b3
              subst this
              have ll : fs2.length < 1000 ∧ ∃ kk l cc, kk ≠ .ro ∧ τ1[i]? = some (.ct kk l cc) ∧ PS1 B G1 D (.ok .nx (τ1.set i (.ct kk false (.D (some c) (putK kd f z))))) := by
                rw [fp_len b4]
                revert h
                cases q3 : τ1[i]? with
                | none => exact fun h => h.elim
                | some s =>
                  cases s with
                  | nv _ => exact fun h => h.elim
                  | sh _ => exact fun h => h.elim
                  | ct kk l cc =>
                    cases kk with
                    | ro => exact fun h => h.elim
                    | ow =>
                      cases l with
                      | true => exact fun h => h.elim
                      | false =>
                        dsimp only
                        by_cases c9 : kd.length < 1000
                        · rw [if_pos c9]
                          exact fun h => ⟨c9, _, _, _, by decide, rfl, h⟩
                        · rw [if_neg c9]
                          exact fun h => h.elim
                    | io =>
                      cases l with
                      | true => exact fun h => h.elim
                      | false =>
                        dsimp only
                        by_cases c9 : kd.length < 1000
                        · rw [if_pos c9]
                          exact fun h => ⟨c9, _, _, _, by decide, rfl, h⟩
                        · rw [if_neg c9]
                          exact fun h => h.elim
              obtain ⟨l1, kk, l, cc, hk, e7, hn⟩ := ll
              refine ⟨dx2, fs2, b2, l1, ?_⟩
              have R5 := R1.wr (c' := .D (some c) (putK kd f z)) (l' := false) e7 hk a1 (H2 := upd H1 p (.ins _ dx2 (L2.putF f v fs2))) (fun b u eb nb => by rw [upd_ne (by simpa using nb)]; exact eb) upd_same (rc_put b3 b4 dv)
              exact hn σ _ G1 (Sub.refl _) R5
          | l _ => exact fun h => h.elim
          | t _ => exact fun h => h.elim
          | no => exact fun h => h.elim
end
/-! ### calls of methods -/
section
variable {X : Cx} {B : Bs} {o e : Expr} {es : List Expr} {pos p apos : Pos} {A : FA} {ms : List Pm} {F : Fd} {x m c : Str} {i j k n : Nat} {C : Addr}
/-- what is between the arguments and the answer -/
theorem call_go {σ : L2.St} {Q : VK} {rs : List RV} {τ1 : Te} {xs : List V} {H1 G1 : Hp} (R1 : Rp B σ H1 τ1 G1) (ra : RA B σ H1 τ1 G1 xs rs)
    (h : PE1 B σ G1 Q (match frzM τ1 ms rs with
      | some τ2 => match slots τ2 ms rs with
        | some ps => if apart ms rs = true then (match F ps with
          | .ok (.val d) outs => match back outs 0 ms rs τ2 with
            | some τ3 => .ok (.val d) τ3
            | none => .stuck
          | .ok (.tmp c) outs => match back outs 0 ms rs τ2 with
            | some τ3 => .ok (.tmp c) τ3
            | none => .stuck
          | .exc c f outs => match back outs 0 ms rs τ2 with
            | some τ3 => .exc c f τ3
            | none => .stuck
          | _ => .stuck) else .stuck
        | none => .stuck
      | none => .stuck)) : spOf B.K B.mg ms.length F xs H1 Q (fun C d H => B.W C d σ H) := by
  cases e1 : frzM τ1 ms rs with
  | none =>
    rw [e1] at h
    exact h.elim
  | some τ2 =>
    rw [e1] at h
    dsimp only at h
    obtain ⟨G2, s2, R2, ra2⟩ := frzM_ok R1 ra e1
    have h := Po.sub s2 h
    cases e2 : slots τ2 ms rs with
    | none =>
      rw [e2] at h
      exact h.elim
    | some ps =>
      rw [e2] at h
      dsimp only at h
      by_cases ap : apart ms rs = true
      · rw [if_pos ap] at h
        refine ⟨ps, G2, call_st R2 ra2 e2 ap, ?_⟩
        revert h
        generalize F ps = res
        intro h
        cases res with
        | stuck => exact h.elim
        | exc c f outs =>
          cases e3 : back outs 0 ms rs τ2 with
          | none =>
            simp only [e3] at h
            exact h.elim
          | some τ3 =>
            simp only [e3] at h
            exact fun C d H' G' a rx => h C d H' G' a.sub (call_aft R2 ra2 e2 ap a e3) rx
        | ok r outs =>
          cases r with
          | slot i => exact h.elim
          | val d =>
            cases e3 : back outs 0 ms rs τ2 with
            | none =>
              simp only [e3] at h
              exact h.elim
            | some τ3 =>
              simp only [e3] at h
              exact fun v H' G' a rv => h v H' G' a.sub (call_aft R2 ra2 e2 ap a e3) rv
          | tmp c =>
            cases e3 : back outs 0 ms rs τ2 with
            | none =>
              simp only [e3] at h
              exact h.elim
            | some τ3 =>
              simp only [e3] at h
              refine fun v H' G' a rv => h v H' G' a.sub (call_aft R2 ra2 e2 ap a e3) ?_
              obtain ⟨p, o, rfl, e4, rc, g, hn⟩ := rv
              have R3 := call_aft R2 ra2 e2 ap a e3
              have own : ∀ i, Own τ3 i → Own τ2 i := fun i hi => by
                have ap2 := ap
                unfold apart at ap2
                rw [Bool.and_eq_true] at ap2
                obtain ⟨b1, b2, b3⟩ := back_at e3 (of_decide_eq_true ap2.1)
                obtain ⟨kd, l, cc, ei, hk⟩ := hi
                by_cases q : i ∈ lent ms rs
                · obtain ⟨k, h1, h2⟩ := lent_mem.mp q
                  obtain ⟨kd2, c2, c3, z1, z2, z3⟩ := b3 h1 h2
                  rw [ei] at z3
                  cases z3
                  exact ⟨kd, false, c2, z1, hk⟩
                · rw [b2 i q] at ei
                  exact ⟨kd, l, cc, ei, hk⟩
              refine ⟨p, o, rfl, e4, rc, g, R2.h0 hn, fun ⟨i, hi, ei⟩ => ?_, fun i l c3 ei es => ?_⟩
              · exact R2.notOwn hn ⟨i, own i hi, ei⟩
              · obtain ⟨q, e5, z⟩ := R3.sl i _ ei
                rw [es] at e5
                cases e5
                rcases z with z | ⟨_, _, z⟩
                · exact z
                · exact absurd hn (R2.dr p z)
      · rw [if_neg ap] at h
        exact h.elim

theorem pe_methT {E : L2.St → XK} {pl : Sem Bool} {sp : Sp} {ta : TE} {t : TA} (he : PE X o ta) (cl : L2.Cls X.K C) (d : Dm X.prog X.w X.K X.mg X.base k C m sp) (hr : Room j X.A) (hk : k ≤ j) (gu : X.A.guards = some []) (hx : ∀ σ, PassesAt (L2.CX X.prog X.w) X σ (E σ)) (ha : PA X (e :: es) t)
    (hst : starEach (e :: es) X.env = (false, eval e X.env) :: starEach es X.env := by rfl) (hpl : (backTo pos (starEach es X.env)).any (·.1) = false := by rfl)
    (ht : eval (.Call (.Attribute o m apos) (e :: es) [] pos) X.env = (do
      let ov ← eval o X.env
      standAt apos.atName
      let (f, first) ← holding [ov] (getMethod ov m pl)
      callWith pos f first (backTo pos (starEach (e :: es) X.env)) (backToKw pos (keywordEach [] X.env))) := by rfl) :
    PE X (.Call (.Attribute o m apos) (e :: es) [] pos) (fun σ H Q => ta σ H fun x H1 => ∃ a dx fs, x = .ref a ∧ H1 a = some (.ins C dx fs) ∧ fs.lookup m = none ∧ t σ H1 fun vs H2 => sp (x :: vs) H2 Q (E σ)) := by
  obtain ⟨f, fd, ps, F, hm, b⟩ := d.ex
  refine ⟨fun pins s σ H Q I h => ?_⟩
  refine PySem.W.methodCall_KW (pl := pl) (thn (he.run pins s σ H _ I h) fun u s1 ⟨x, H1, I1, rx, a, dx, fs, ex, ea, l, q⟩ => ?_) ht
  subst ex
  obtain rfl : u = Value.ref a := rx
  refine getmeth_ok I1 ea cl hm l ?_
  refine PySem.W.callWith_K (first := [.ref a]) (h₀ := X.base) I.ok.mod.kin hm.kp (thn (ha.run pos pins s1 σ H1 _ I1 q) fun us s2 ⟨vs, H2, I2, r, q2⟩ => ⟨I2.kIn, ?_⟩) hst hpl
  have r2 : Vals (V.ref a :: vs) (Value.ref a :: us) := .cons rfl r
  have hl : (Value.ref a :: us).length = ps.length := by
    rw [← r2.length]
    exact F.ln _ _ _ _ q2
  have bb := b s2 (.ref a :: us) I2.kIn (by rw [List.append_nil]; exact hl)
  rw [List.append_nil] at bb
  refine wpAny_call (codeAny_mono (F.go X.A X.stack s2 H2 ⟨.ref a :: us, []⟩ (.ref a :: us) (.ref a :: vs) Q (E σ) (hr.mono hk) gu I2.env0 bb r2 q2) fun res s' hq => ?_)
  cases res with
  | error err => exact hx σ pins H2 s2 err s' I2 hq
  | ok fl =>
    cases fl with
    | ret u => exact I2.after hq
    | next => exact False.elim hq
    | brk => exact False.elim hq
    | cont => exact False.elim hq
theorem pe_methT0 {E : L2.St → XK} {pl : Sem Bool} {sp : Sp} {ta : TE} (he : PE X o ta) (cl : L2.Cls X.K C) (d : Dm X.prog X.w X.K X.mg X.base k C m sp) (hr : Room j X.A) (hk : k ≤ j) (gu : X.A.guards = some []) (hx : ∀ σ, PassesAt (L2.CX X.prog X.w) X σ (E σ))
    (ht : eval (.Call (.Attribute o m apos) [] [] pos) X.env = (do
      let ov ← eval o X.env
      standAt apos.atName
      let (f, first) ← holding [ov] (getMethod ov m pl)
      callWith pos f first (backTo pos (starEach [] X.env)) (backToKw pos (keywordEach [] X.env))) := by rfl) :
    PE X (.Call (.Attribute o m apos) [] [] pos) (fun σ H Q => ta σ H fun x H1 => ∃ a dx fs, x = .ref a ∧ H1 a = some (.ins C dx fs) ∧ fs.lookup m = none ∧ sp [x] H1 Q (E σ)) := by
  obtain ⟨f, fd, ps, F, hm, b⟩ := d.ex
  refine ⟨fun pins s σ H Q I h => ?_⟩
  refine PySem.W.methodCall_KW (pl := pl) (thn (he.run pins s σ H _ I h) fun u s1 ⟨x, H1, I1, rx, a, dx, fs, ex, ea, l, q⟩ => ?_) ht
  subst ex
  obtain rfl : u = Value.ref a := rx
  refine getmeth_ok I1 ea cl hm l ?_
  refine PySem.W.callWith_K0 (first := [.ref a]) I1.kIn hm.kp ?_
  have r2 : Vals [V.ref a] [Value.ref a] := .cons rfl .nil
  have hl : [Value.ref a].length = ps.length := by
    rw [← r2.length]
    exact F.ln _ _ _ _ q
  have bb := b s1 [.ref a] I1.kIn (by rw [List.append_nil]; exact hl)
  rw [List.append_nil] at bb
  refine wpAny_call (codeAny_mono (F.go X.A X.stack s1 H1 ⟨[.ref a], []⟩ [.ref a] [.ref a] Q (E σ) (hr.mono hk) gu I1.env0 bb r2 q) fun res s' hq => ?_)
  cases res with
  | error err => exact hx σ pins H1 s1 err s' I1 hq
  | ok fl =>
    cases fl with
    | ret u => exact I1.after hq
    | next => exact False.elim hq
    | brk => exact False.elim hq
    | cont => exact False.elim hq
/-- o.m(..): the object first, then the arguments -/
def fMeth (c : Str) (i : Nat) (m : Str) (ms : List Pm) (F : Fd) (A : FA) : FE := fun τ => match objD c τ i with
  | some kd => if valD kd (.inr m) = none then fCall ms F (fCons (fVar i) A) τ else .stuck
  | none => .stuck
theorem slot_any {σ : L2.St} {H' : Hp} {τ' : Te} {G' : Hp} {x : V} {i : Nat} (h : σ[i]? = some (some x)) : RR B σ H' τ' G' x (.slot i) := h
theorem x_meth {K : Fg} {mg : Str → Option Value} (ok : OkB X B) (hK : B.K = K) (hmg : B.mg = mg) (kl : Kl K c C) (d : Dm X.prog X.w K mg X.base k C m (spOf K mg ms.length F)) (hr : Room j X.A) (hk : k ≤ j) (gu : X.A.guards = some []) (ho : PE X o (tE B (fVar i))) (ha : PA X (e :: es) (tA B A)) {pl : Sem Bool}
    (hst : starEach (e :: es) X.env = (false, eval e X.env) :: starEach es X.env := by rfl) (hpl : (backTo pos (starEach es X.env)).any (·.1) = false := by rfl)
    (ht : eval (.Call (.Attribute o m apos) (e :: es) [] pos) X.env = (do
      let ov ← eval o X.env
      standAt apos.atName
      let (f, first) ← holding [ov] (getMethod ov m pl)
      callWith pos f first (backTo pos (starEach (e :: es) X.env)) (backToKw pos (keywordEach [] X.env))) := by rfl) :
    PE X (.Call (.Attribute o m apos) (e :: es) [] pos) (tE B (fMeth c i m ms F A)) := by
  subst hK hmg
  have d' : Dm X.prog X.w X.K X.mg X.base k C m (spOf B.K B.mg ms.length F) := by
    rw [ok.K, ok.mg]
    exact d
  refine PE.wkt (pe_methT (E := fun σ C d H => B.W C d σ H) ho (by rw [ok.K]; exact kl.cls) d' hr hk gu (fun σ => passAt ok.tk σ) ha hst hpl ht) ?_
  rintro σ H Q ⟨τ, G, R, h⟩
  unfold fMeth at h
  cases q : objD c τ i with
  | none =>
    rw [q] at h
    exact h.elim
  | some kd =>
    rw [q] at h
    dsimp only at h
    by_cases q2 : valD kd (.inr m) = none
    · rw [if_pos q2] at h
      refine ⟨τ, G, R, ?_⟩
      rw [objD_slot q]
      intro v H' G' s R' rr
      obtain ⟨p, D, dx, fs, e1, e2, e3, e4⟩ := objD_at R' q
      have hv : σ[i]? = some (some v) := rr
      rw [e1] at hv
      cases hv
      have : D = C := kl.eq e3
      subst this
      refine ⟨p, dx, fs, rfl, e2, (fp_look e4).2 q2, τ, G', R', ?_⟩
      have h := Po.sub s h
      unfold fCall fCons at h
      rw [objD_slot q] at h
      have h : PE1 B σ G' Q (((A τ).bind fun rs τ3 => Res.ok (RV.slot i :: rs) τ3).bind _) := h
      have h2 : PE1 B σ G' Q ((A τ).bind fun rs τ3 => (Res.ok (RV.slot i :: rs) τ3).bind fun rs τ1 => match frzM τ1 ms rs with
        | some τ2 => match slots τ2 ms rs with
          | some ps => if apart ms rs = true then (match F ps with
            | .ok (.val d) outs => match back outs 0 ms rs τ2 with
              | some τ3 => .ok (.val d) τ3
              | none => .stuck
            | .ok (.tmp c) outs => match back outs 0 ms rs τ2 with
              | some τ3 => .ok (.tmp c) τ3
              | none => .stuck
            | .exc c f outs => match back outs 0 ms rs τ2 with
              | some τ3 => .exc c f τ3
              | none => .stuck
            | _ => .stuck) else .stuck
          | none => .stuck
        | none => .stuck) := by
        cases z : A τ with
        | ok a τ' =>
          rw [z] at h
          exact h
        | exc a b τ' =>
          rw [z] at h
          exact h
        | stuck =>
          rw [z] at h
          exact h
      refine Po.bind h2 fun rs τ1 xs H1 G1 _ _ R1 ra h => ?_
      exact call_go (xs := V.ref p :: xs) R1 (.cons ⟨slot_any e1, nt_slot⟩ ra) h
    · rw [if_neg q2] at h
      exact h.elim
theorem x_meth0 {K : Fg} {mg : Str → Option Value} (ok : OkB X B) (hK : B.K = K) (hmg : B.mg = mg) (kl : Kl K c C) (d : Dm X.prog X.w K mg X.base k C m (spOf K mg ms.length F)) (hr : Room j X.A) (hk : k ≤ j) (gu : X.A.guards = some []) (ho : PE X o (tE B (fVar i))) {pl : Sem Bool}
    (ht : eval (.Call (.Attribute o m apos) [] [] pos) X.env = (do
      let ov ← eval o X.env
      standAt apos.atName
      let (f, first) ← holding [ov] (getMethod ov m pl)
      callWith pos f first (backTo pos (starEach [] X.env)) (backToKw pos (keywordEach [] X.env))) := by rfl) :
    PE X (.Call (.Attribute o m apos) [] [] pos) (tE B (fMeth c i m ms F fNil)) := by
  subst hK hmg
  have d' : Dm X.prog X.w X.K X.mg X.base k C m (spOf B.K B.mg ms.length F) := by
    rw [ok.K, ok.mg]
    exact d
  refine PE.wkt (pe_methT0 (E := fun σ C d H => B.W C d σ H) ho (by rw [ok.K]; exact kl.cls) d' hr hk gu (fun σ => passAt ok.tk σ) ht) ?_
  rintro σ H Q ⟨τ, G, R, h⟩
  unfold fMeth at h
  cases q : objD c τ i with
  | none =>
    rw [q] at h
    exact h.elim
  | some kd =>
    rw [q] at h
    dsimp only at h
    by_cases q2 : valD kd (.inr m) = none
    · rw [if_pos q2] at h
      refine ⟨τ, G, R, ?_⟩
      rw [objD_slot q]
      intro v H' G' s R' rr
      obtain ⟨p, D, dx, fs, e1, e2, e3, e4⟩ := objD_at R' q
      have hv : σ[i]? = some (some v) := rr
      rw [e1] at hv
      cases hv
      have : D = C := kl.eq e3
      subst this
      refine ⟨p, dx, fs, rfl, e2, (fp_look e4).2 q2, ?_⟩
      have h := Po.sub s h
      unfold fCall fCons at h
      rw [objD_slot q] at h
      exact call_go (rs := [.slot i]) (xs := [V.ref p]) R' (.cons ⟨slot_any e1, nt_slot⟩ .nil) h
    · rw [if_neg q2] at h
      exact h.elim

/-! ### a new object -/
theorem pe_makeG {f : Addr} {fd : FuncData} {ps : List Str} {sp : Sp} {E : L2.St → XK} {t : TA} (M : L2.Mk X.K C f) (F : FnG X.prog X.w X.K X.mg X.base (L2.CX X.prog X.w) k f fd ps sp) (hb : Binds X.K fd ps []) (hr : Room j X.A) (hk : k + 1 ≤ j) (gu : X.A.guards = some []) (hg : Gl X x) (hm : X.mg x = some (.ref C))
    (hx : ∀ σ, PassesAt (L2.CX X.prog X.w) X σ (E σ)) (ha : PA X (e :: es) t) (hdb : (x == ("__debug__" : Str)) = false := by decide) (he : starEach (e :: es) X.env = (false, eval e X.env) :: starEach es X.env := by rfl) (hpl : (backTo pos (starEach es X.env)).any (·.1) = false := by rfl) :
    PE X (.Call (.Name x p) (e :: es) [] pos) (fun σ H Q => t σ H fun vs H1 => ∀ x dx, H1 x = none → H1 dx = none → dx ≠ x → sp (.ref x :: vs) (upd (upd H1 dx (.own x)) x (.ins C dx [])) (fun v H2 => v = .non ∧ Q (.ref x) H2) (E σ)) := by
  refine ⟨fun pins s σ H Q I h => ?_⟩
  refine wpAny_Call_Name_kw (ld_glob I hg hm ?_ hdb)
  refine PySem.W.callWith_K (h₀ := X.base) I.ok.mod.kin M.kp (thn (ha.run pos pins s σ H _ I h) fun us s1 ⟨vs, H1, I1, r, q⟩ => ⟨I1.kIn, ?_⟩) he hpl
  have hq := q (s1.heap.objs.size + 1) s1.heap.objs.size (I1.hok.fresh (Nat.le_succ _)) (I1.hok.fresh (Nat.le_refl _)) (Nat.ne_of_lt (Nat.lt_succ_self _))
  have I2 := Inv.made (C := C) I1
  have r2 : Vals (V.ref (s1.heap.objs.size + 1) :: vs) (Value.ref (s1.heap.objs.size + 1) :: us) := .cons rfl r
  have hl : (Value.ref (s1.heap.objs.size + 1) :: us).length = ps.length := by
    have e := r2.length
    rw [F.ln _ _ _ _ hq] at e
    exact e.symm
  have bb := hb _ (Value.ref (s1.heap.objs.size + 1) :: us) I2.kIn (by rw [List.append_nil]; exact hl)
  rw [List.append_nil] at bb
  refine wpAny_call (make_map (f := f) I1.kIn M.makes M.init (beq_iff_eq.mp M.fn) (codeAny_mono (F.go _ X.stack _ _ ⟨Value.ref (s1.heap.objs.size + 1) :: us, []⟩ (Value.ref (s1.heap.objs.size + 1) :: us) _ _ (E σ) ((hr.mono hk).make C us [])
    gu (I2.env0.make C us []) bb r2 hq) fun res s' hq' => ?_))
  cases res with
  | error err => exact hx σ pins _ _ err s' I2 hq'
  | ok fl =>
    cases fl with
    | ret u =>
      obtain ⟨v, H', I3, rv, ev, q3⟩ := I2.after hq'
      subst ev
      exact ⟨rv, ⟨V.ref (s1.heap.objs.size + 1), H', I3, rfl, q3⟩⟩
    | next => exact False.elim hq'
    | brk => exact False.elim hq'
    | cont => exact False.elim hq'
/-- what is told of a class that is made -/
structure Dn (P : Program) (w : World) (K : Fg) (mg : Str → Option Value) (base : Heap) (k : Nat) (C : Addr) (sp : Sp) : Prop where
  ex : ∃ (f : Addr) (fd : FuncData) (ps : List Str), FnG P w K mg base (L2.CX P w) k f fd ps sp ∧ L2.Mk K C f ∧ Binds K fd ps []
theorem dn_T {P : Program} {w : World} {K : Fg} {mg : Str → Option Value} {base : Heap} {k : Nat} {x qual : Str} {C : Addr} {st : Stmt} {f : Addr} {fd : FuncData} {N ps : List Str} {F : FS} (Fn : L2.Fun K x qual st f fd) (hm : L2.Mk K C f) (b : Binds K fd ps []) (S : FnScope N ps (defScope st)) (hn : ps.length ≤ N.length)
    (body : ∀ (cdv : Value) (A : Around) (fr : List Env) (s : Shared) (H : Hp) (E : XK) (B : Bs), Room k (A.deeper (envOfC qual (defScope st) s.heap.objs.size f cdv)) → A.guards = some [] →
      OkB (cxOf (L2.CX P w) P w K mg base N qual (defScope st) f cdv A fr s H E) B → B.K = K → B.mg = mg → PSs (cxOf (L2.CX P w) P w K mg base N qual (defScope st) f cdv A fr s H E) (defBody st) (tS B F)) :
    Dn P w K mg base (k + 1) C (spOf K mg ps.length (mkFd N.length F)) :=
  ⟨f, fd, ps, fnG_of Fn S (fun vs H Q E h => spOf_len vs H Q E h) fun cdv A fr s H vs Q E hr hg h => by
    obtain ⟨qs, G, S0, h⟩ := h
    exact ⟨_, body cdv A fr s H E (B0 K mg H G vs qs E) hr hg ⟨rfl, rfl, rfl, takes_of rfl rfl rfl rfl, passes_of rfl⟩ rfl rfl, ⟨_, G, S0.rp hn, fin_ps S0 h⟩⟩, hm, b⟩
def allSh (ms : List Pm) : Bool := ms.all fun m => match m with | .sh => true | _ => false
/-- C(..) of frozen data: its __init__ works on an object without attributes -/
def fNew (c : Str) (ms : List Pm) (F : Fd) (A : FA) : FE := fun τ => (A τ).bind fun rs τ1 => match frzM τ1 ms rs with
  | some τ2 => match slots τ2 ms rs with
    | some ps => if allSh ms = true then (match F (.ct .io false (.D (some c) []) :: ps) with
      | .ok (.val .none) (.ct .io false (.D (some c') kd) :: _) => if c' = c then .ok (.tmp (.D (some c) kd)) τ2 else .stuck
      | _ => .stuck) else .stuck
    | none => .stuck
  | none => .stuck
theorem slots_sh {τ : Te} : ∀ {ms : List Pm} {rs : List RV} {ps : Te}, allSh ms = true → slots τ ms rs = some ps → ∀ s ∈ ps, ∃ d, s = .sh d
  | [], [], ps, _, h, s, hs => by
    cases h
    cases hs
  | [], _ :: _, ps, _, h, s, hs => by cases h
  | _ :: _, [], ps, _, h, s, hs => by cases h
  | .sh :: ms, r :: rs, ps, a, h, s, hs => by
    unfold slots at h
    cases e1 : slot1 τ .sh r with
    | none =>
      rw [e1] at h
      cases h
    | some s1 =>
      cases e2 : slots τ ms rs with
      | none =>
        rw [e1, e2] at h
        cases h
      | some ss =>
        rw [e1, e2] at h
        cases h
        rcases List.mem_cons.mp hs with rfl | hs
        · cases r with
          | val d =>
            cases e1
            exact ⟨_, rfl⟩
          | tmp c => cases e1
          | slot i =>
            have e1 : (match τ[i]? with | some (.sh d) => some (Sl.sh d) | _ => none) = some s := e1
            split at e1
            · cases e1
              exact ⟨_, rfl⟩
            · cases e1
        · exact slots_sh (ms := ms) (by simpa [allSh] using a) e2 s hs
  | .io :: ms, r :: rs, ps, a, h, s, hs => by simp [allSh] at a
  | .ro :: ms, r :: rs, ps, a, h, s, hs => by simp [allSh] at a
theorem x_new {K : Fg} {mg : Str → Option Value} (ok : OkB X B) (hK : B.K = K) (hmg : B.mg = mg) (kl : Kl K c C) (hm : mg x = some (.ref C)) (d : Dn X.prog X.w K mg X.base k C (spOf K mg (ms.length + 1) F)) (hr : Room j X.A) (hk : k + 1 ≤ j) (gu : X.A.guards = some []) (hg : Gl X x) (ha : PA X (e :: es) (tA B A))
    (hdb : (x == ("__debug__" : Str)) = false := by decide) (he : starEach (e :: es) X.env = (false, eval e X.env) :: starEach es X.env := by rfl) (hpl : (backTo pos (starEach es X.env)).any (·.1) = false := by rfl) :
    PE X (.Call (.Name x p) (e :: es) [] pos) (tE B (fNew c ms F A)) := by
  subst hK hmg
  have d' : Dn X.prog X.w X.K X.mg X.base k C (spOf B.K B.mg (ms.length + 1) F) := by
    rw [ok.K, ok.mg]
    exact d
  obtain ⟨f, fd, psn, Fg, hM, hB⟩ := d'.ex
  refine PE.wkt (pe_makeG (E := fun σ C d H => B.W C d σ H) hM Fg hB hr hk gu hg (by rw [ok.mg]; exact hm) (fun σ => passAt ok.tk σ) ha hdb he hpl) ?_
  rintro σ H Q ⟨τ, G, R, h⟩
  refine ⟨τ, G, R, Po.bind h fun rs τ1 xs H1 G1 _ _ R1 ra h => ?_⟩
  intro y dx ny nd ne
  revert h
  cases e1 : frzM τ1 ms rs with
  | none => exact fun h => h.elim
  | some τ2 =>
    dsimp only
    obtain ⟨G2, s2, R2, ra2⟩ := frzM_ok R1 ra e1
    cases e2 : slots τ2 ms rs with
    | none => exact fun h => h.elim
    | some ps =>
      dsimp only
      by_cases as : allSh ms = true
      · rw [if_pos as]
        intro h
        have h := Po.sub s2 h
        -- the new object, in a slot of its own for a time
        have kp : Kp [] H1 (upd (upd H1 dx (.own y)) y (.ins C dx [])) := fun b o eb _ => by
          have n1 : b ≠ y := by
            intro z
            rw [z, ny] at eb
            cases eb
          have n2 : b ≠ dx := by
            intro z
            rw [z, nd] at eb
            cases eb
          rw [upd_ne n1, upd_ne n2]
          exact eb
        obtain ⟨R3, rt⟩ := R2.newTmp (c := .D (some c) []) ny kp upd_same (show RC B.K G2 (.ins C dx []) (.D (some c) []) from ⟨kl.at_, .nil⟩)
        have R4 := R3.push rt
        have sl2 : slots (τ2 ++ [Sl.ct .ow false (.D (some c) [])]) (.io :: ms) (.slot σ.length :: rs) = some (.ct .io false (.D (some c) []) :: ps) := by
          have z : slots (τ2 ++ [Sl.ct .ow false (.D (some c) [])]) ms rs = some ps := by
            have go : ∀ {ms : List Pm} {rs : List RV} {ps : Te}, allSh ms = true → slots τ2 ms rs = some ps → slots (τ2 ++ [Sl.ct .ow false (.D (some c) [])]) ms rs = some ps := by
              intro ms
              induction ms with
              | nil =>
                intro rs ps _ h
                cases rs with
                | nil => exact h
                | cons r rs => cases h
              | cons m ms ih =>
                intro rs ps a h
                cases rs with
                | nil => cases h
                | cons r rs =>
                  cases m with
                  | io => simp [allSh] at a
                  | ro => simp [allSh] at a
                  | sh =>
                    unfold slots at h ⊢
                    cases e1 : slot1 τ2 .sh r with
                    | none =>
                      rw [e1] at h
                      cases h
                    | some s1 =>
                      cases e2 : slots τ2 ms rs with
                      | none =>
                        rw [e1, e2] at h
                        cases h
                      | some ss =>
                        rw [e1, e2] at h
                        rw [ih (by simpa [allSh] using a) e2]
                        have : slot1 (τ2 ++ [Sl.ct .ow false (.D (some c) [])]) .sh r = some s1 := by
                          cases r with
                          | val d => exact e1
                          | tmp c => exact e1
                          | slot i =>
                            have e1 : (match τ2[i]? with | some (.sh d) => some (Sl.sh d) | _ => none) = some s1 := e1
                            show (match ((τ2 ++ [Sl.ct .ow false (.D (some c) [])] : Te))[i]? with | some (.sh d) => some (Sl.sh d) | _ => none) = some s1
                            by_cases q : i < τ2.length
                            · rw [getA q]
                              exact e1
                            · rw [List.getElem?_eq_none (by omega)] at e1
                              cases e1
                        rw [this]
                        exact h
            exact go as e2
          show (match slot1 (τ2 ++ [Sl.ct .ow false (.D (some c) [])]) .io (.slot σ.length), slots (τ2 ++ [Sl.ct .ow false (.D (some c) [])]) ms rs with | some s, some ss => some (s :: ss) | _, _ => none) = _
          rw [z]
          have : slot1 (τ2 ++ [Sl.ct .ow false (.D (some c) [])]) .io (.slot σ.length) = some (.ct .io false (.D (some c) [])) := by
            show (match ((τ2 ++ [Sl.ct .ow false (.D (some c) [])] : Te))[σ.length]? with | some (.ct .ow false c) => some (Sl.ct .io false c) | some (.ct .io false c) => some (Sl.ct .io false c) | _ => none) = _
            rw [R2.ln, getB]
          rw [this]
        have noio : ∀ {ms : List Pm} {rs : List RV}, allSh ms = true → lent ms rs = [] ∧ seen ms rs = [] := by
          intro ms
          induction ms with
          | nil =>
            intro rs _
            exact ⟨by unfold lent; rfl, by unfold seen; rfl⟩
          | cons m ms ih =>
            intro rs a
            cases rs with
            | nil => exact ⟨by cases m <;> rfl, by cases m <;> rfl⟩
            | cons r rs =>
              cases m with
              | io => simp [allSh] at a
              | ro => simp [allSh] at a
              | sh =>
                obtain ⟨i1, i2⟩ := ih (rs := rs) (by simpa [allSh] using a)
                exact ⟨i1, i2⟩
        have ap : apart (.io :: ms) (.slot σ.length :: rs) = true := by
          unfold apart
          have l : lent (.io :: ms) (.slot σ.length :: rs) = [σ.length] := by
            show σ.length :: lent ms rs = _
            rw [(noio as).1]
          have s : seen (.io :: ms) (.slot σ.length :: rs) = [] := (noio as).2
          rw [l, s]
          simp
        have ra4 : RA B (σ ++ [some (.ref y)]) (upd (upd H1 dx (.own y)) y (.ins C dx [])) (τ2 ++ [Sl.ct .ow false (.D (some c) [])]) G2 (.ref y :: xs) (.slot σ.length :: rs) := by
          refine .cons ⟨getB, nt_slot⟩ (Paired.mapP ra2 fun v r ⟨a, b⟩ => ⟨?_, b⟩)
          cases r with
          | val d => exact a
          | tmp c => exact absurd rfl (b c)
          | slot i =>
            have a : σ[i]? = some (some v) := a
            show (σ ++ [some (.ref y)])[i]? = some (some v)
            rw [getA (List.getElem?_eq_some_iff.mp a).1]
            exact a
        have st := call_st R4 ra4 sl2 ap
        refine ⟨_, G2, st, ?_⟩
        revert h
        generalize F (.ct .io false (.D (some c) []) :: ps) = res
        intro h
        cases res with
        | stuck => exact h.elim
        | exc cc ff outs => exact h.elim
        | ok r outs =>
          cases r with
          | slot i => exact h.elim
          | tmp c => exact h.elim
          | val dd =>
            cases dd with
            | none =>
              intro v H' G' a rv
              have hv : v = .non := by
                cases rv
                rfl
              subst hv
              refine ⟨rfl, ?_⟩
              cases outs with
              | nil => exact h.elim
              | cons o0 ot =>
                cases o0 with
                | nv _ => exact h.elim
                | sh _ => exact h.elim
                | ct kk ll cc =>
                  cases kk with
                  | ow => exact h.elim
                  | ro => exact h.elim
                  | io =>
                    cases ll with
                    | true => exact h.elim
                    | false =>
                      cases cc with
                      | L ds => exact h.elim
                      | D c' kd =>
                        cases c' with
                        | none => exact h.elim
                        | some c' =>
                          have h : PE1 B σ G2 Q (if c' = c then .ok (.tmp (.D (some c) kd)) τ2 else .stuck) := h
                          by_cases q : c' = c
                          · rw [if_pos q] at h
                            subst q
                            have bk : back (.ct .io false (.D (some c') kd) :: ot) 0 (.io :: ms) (.slot σ.length :: rs) (τ2 ++ [Sl.ct .ow false (.D (some c') [])]) = some (τ2 ++ [.ct .ow false (.D (some c') kd)]) := by
                              have e3 : ((τ2 ++ [Sl.ct .ow false (.D (some c') [])] : Te))[σ.length]? = some (.ct .ow false (.D (some c') [])) := by rw [R2.ln]; exact getB
                              have b2 : ∀ {ms : List Pm} {rs : List RV} {k : Nat} {τ : Te}, allSh ms = true → back (.ct .io false (.D (some c') kd) :: ot) k ms rs τ = some τ := by
                                intro ms
                                induction ms with
                                | nil => intro rs k τ _; unfold back; rfl
                                | cons m ms ih =>
                                  intro rs k τ a
                                  cases rs with
                                  | nil => cases m <;> rfl
                                  | cons r rs =>
                                    cases m with
                                    | io => simp [allSh] at a
                                    | ro => simp [allSh] at a
                                    | sh => exact ih (rs := rs) (k := k + 1) (by simpa [allSh] using a)
                              show (match ((τ2 ++ [Sl.ct .ow false (.D (some c') [])] : Te))[σ.length]?, (Sl.ct .io false (.D (some c') kd) :: ot)[0]? with
                                | some (Sl.ct kd0 false _), some (Sl.ct .io false c) => back (.ct .io false (.D (some c') kd) :: ot) 1 ms rs (((τ2 ++ [Sl.ct .ow false (.D (some c') [])] : Te)).set σ.length (Sl.ct kd0 false c))
                                | _, _ => none) = _
                              rw [e3]
                              dsimp only [List.getElem?_cons_zero]
                              rw [R2.ln, setB]
                              exact b2 as
                            have R5 := call_aft R4 ra4 sl2 ap a bk
                            obtain ⟨R6, rt6⟩ := R5.pop R2.ln
                            exact h _ _ _ a.sub R6 rt6
                          · rw [if_neg q] at h
                            exact h.elim
            | _ => exact h.elim
      · rw [if_neg as]
        exact fun h => h.elim
end
end T
end

section
set_option Elab.async false
set_option linter.all false
set_option maxRecDepth 100000
set_option maxHeartbeats 2000000
/-! T23: comprehensions of two clauses. -/
namespace T
open PySem PySem.Spec PyProof.Rows L2 Z
/-- a walk that leans on the frozen part alone -/
def RJ (B : Bs) (σ : L2.St) (H : Hp) (τ : Te) (G : Hp) (J : It) (ds : List PyData) : Prop := Walk J ds.length (fun H => Sub G H) fun i H x H' => ∃ d, ds[i]? = some d ∧ IY B.K G d H x H'
def tJ (B : Bs) (S : FI) : TI := fun σ H R => ∃ τ G, Rp B σ H τ G ∧ Po (RJ B) B σ G (fun J H' => R J H') (S τ)
theorem xj_core {B : Bs} {Fa : FE} {σ : L2.St} {H : Hp} {R : It → Hp → Prop} (h : tJ B (fItems Fa) σ H R) :
    tE B Fa σ H (fun x H1 => (∃ a, x = .ref a ∧ (∃ xs, SqL B.K H1 a xs) ∧ R (Itl B.K a) H1) ∨ (∃ a, x = .ref a ∧ (∃ xs, SqT B.K H1 a xs) ∧ R (Itt B.K a) H1) ∨ ∃ z, x = .str z ∧ R (Its z) H1) := by
  obtain ⟨τ, G, R0, h⟩ := h
  refine ⟨τ, G, R0, Po.bind h fun r τ1 x H1 G1 _ _ R1 rr h => ?_⟩
  have hold_okI : ∀ {k : RV → Te → Res (List PyData)}, Po (RJ B) B σ G1 (fun J H' => R J H') ((hold r τ1).bind k) → ∃ r' τ' G', hold r τ1 = .ok r' τ' ∧ Sub G1 G' ∧ Rp B σ H1 τ' G' ∧ RR B σ H1 τ' G' x r' ∧ NoTmp r' ∧ Po (RJ B) B σ G' (fun J H' => R J H') (k r' τ') := fun q => hold_ok R1 rr q
  obtain ⟨r2, τ2, G2, _, _, R2, rr2, nt, h⟩ := hold_okI h
  cases e1 : frz1 r2 τ2 with
  | none =>
    rw [e1] at h
    exact h.elim
  | some z =>
    obtain ⟨d, τ3⟩ := z
    rw [e1] at h
    dsimp only at h
    obtain ⟨G3, s3, R3, hd⟩ := frz1_ok R2 rr2 e1
    have h := Po.sub s3 h
    cases hd with
    | @lst a xs ds hs ha =>
      refine .inl ⟨a, rfl, ⟨xs, SqL.sub R3.gh hs⟩, h _ H1 G3 (Sub.refl _) R3 ?_⟩
      have w := walk_list (K := B.K) (a := a) (xs := xs)
      rw [ha.len] at w
      refine w.mono (fun H s => SqL.sub s hs) fun i H x H' hi s y => ?_
      obtain ⟨e, hx⟩ := y
      obtain ⟨d, e2, hd⟩ := ha.getV hx
      exact ⟨d, e2, .inl ⟨e, hd⟩⟩
    | @tup a xs ds hs ha =>
      refine .inr (.inl ⟨a, rfl, ⟨xs, SqT.sub R3.gh hs⟩, h _ H1 G3 (Sub.refl _) R3 ?_⟩)
      have w := walk_tup (K := B.K) (a := a) (xs := xs)
      rw [ha.len] at w
      refine w.mono (fun H s => SqT.sub s hs) fun i H x H' hi s y => ?_
      obtain ⟨e, hx⟩ := y
      obtain ⟨d, e2, hd⟩ := ha.getV hx
      exact ⟨d, e2, .inl ⟨e, hd⟩⟩
    | str z =>
      refine .inr (.inr ⟨z, rfl, h _ H1 G3 (Sub.refl _) R3 ?_⟩)
      have w := walk_str (z := z)
      have l : (z.cps.toList.map fun c => PyData.str ⟨#[c]⟩).length = z.cps.size := by simp
      unfold RJ
      rw [l]
      refine w.mono (fun H s => trivial) fun i H x H' hi s y => ?_
      obtain ⟨e, c, hc, rfl⟩ := y
      exact ⟨.str ⟨#[c]⟩, by simp [hc], .inl ⟨e, .str _⟩⟩
    | non => exact h.elim
    | bl _ => exact h.elim
    | int _ => exact h.elim
section
variable {X : Cx} {B : Bs} {e a b tg : Expr} {es : List Expr} {pos p : Pos} {Fa Fb Fc : FE} {A : FA}
theorem xj_any (hK : X.K = B.K) (he : PE X e (tE B Fa)) : PI X tg e (tJ B (fItems Fa)) :=
  PI.wkt (pi_any he) fun σ H R h => by
    rw [hK]
    exact xj_core h
theorem walkJ_rg {σ : L2.St} {H : Hp} {τ : Te} {G : Hp} {lo : Int} {n : Nat} : RJ B σ H τ G (Itr lo n) (rgItems lo n) := by
  have w := walk_range (lo := lo) (n := n)
  have l : (rgItems lo n).length = n := by simp [rgItems]
  unfold RJ
  rw [l]
  refine w.mono (fun H s => trivial) fun i H x H' hi s y => ?_
  obtain ⟨e, rfl⟩ := y
  exact ⟨.int (lo + (i : Nat)), by simp [rgItems, hi], .inl ⟨e, .int _⟩⟩
theorem xj_range1 (hg : Gl X "range") (hm : X.mg "range" = none) (ha : PA X [a] (tA B A)) (hs : starEach [a] X.env = [(false, eval a X.env)] := by rfl) : PI X tg (.Call (.Name "range" p) [a] [] pos) (tJ B (fRange1 A)) :=
  PI.wkt (pi_range1 hg hm ha hs) fun σ H R h => by
    obtain ⟨τ, G, R0, h⟩ := h
    refine ⟨τ, G, R0, Po.bind h fun rs τ1 xs H1 G1 _ _ R1 rr h => ?_⟩
    have z := fun ds => looks_ok (ds := ds) R1 rr
    revert h z
    generalize looks τ1 rs = o
    intro h z
    split at h
    · rename_i j
      obtain ⟨x, rfl, hx⟩ := Lks.one (z _ rfl)
      cases hx.int
      by_cases c : rgOk j = true
      · rw [if_pos c] at h
        have c' := of_decide_eq_true c
        exact ⟨j, rfl, c'.1, c'.2, h _ H1 G1 (Sub.refl _) R1 walkJ_rg⟩
      · rw [if_neg c] at h
        exact h.elim
    · exact h.elim
end
/-! ### [e for x in xs if t for y in ys if u] -/
def lc2F (vs : List Nat) (g : FG) (t : FT) (S1 : FI) (vs1 : List Nat) (g1 : FG) (t1 : FT) (e : FE) : List PyData → Te → List PyData → Res (List PyData)
  | [], τ, acc => .ok acc τ
  | d :: ds, τ, acc => match g d (wipeT τ vs) with
    | none => .stuck
    | some τ1 => match t τ1 with
      | .ok b τ2 => if b = true then (match S1 τ2 with
        | .ok ds1 τ3 => match lcF vs1 g1 t1 e ds1 τ3 acc with
          | .ok acc' τ4 => lc2F vs g t S1 vs1 g1 t1 e ds (wipeT τ4 vs1) acc'
          | _ => .stuck
        | _ => .stuck) else lc2F vs g t S1 vs1 g1 t1 e ds τ2 acc
      | _ => .stuck
def fLc2 (S : FI) (vs : List Nat) (g : FG) (t : FT) (S1 : FI) (vs1 : List Nat) (g1 : FG) (t1 : FT) (e : FE) : FE := fun τ => (S τ).bind fun ds τ1 => lcEnd vs (lc2F vs g t S1 vs1 g1 t1 e ds τ1 [])
section
variable {B : Bs} {σ : L2.St} {H : Hp} {Q : VK} {S S1 : FI} {vs vs1 is is1 : List Nat} {gt gt1 : TG} {g g1 : FG} {tt tt1 : TT} {te : TE} {wi1 : TI} {Ft Ft1 : FT} {Fe : FE}
/-- what stands where a turn of a comprehension begins -/
def LcSt (B : Bs) (σ : L2.St) (vs : List Nat) (D : Addr) (G1 : Hp) (C : Hp → Res (List PyData) → Prop) (k : Te → List PyData → Res (List PyData)) (H : Hp) : Prop :=
  ∃ τ' G' acc va, Sub G1 G' ∧ Rp B (L2.wipe σ vs) H (wipeT τ' vs) G' ∧ H D = some (.lst va) ∧ DpAll B.K G' va acc ∧ ¬ OwnAt (L2.wipe σ vs) (wipeT τ' vs) D ∧ G' D = none ∧ C G' (k τ' acc)
structure Fresh (B : Bs) (D : Addr) : Prop where
  h0 : B.H0 D = none
  gz : B.G0 D = none
  na : D ∉ B.as
  nr : ¬ B.ro D
/-- one item more -/
theorem Rp.putD {D : Addr} {τ : Te} {G : Hp} {y : V} {va : List V} (f : Fresh B D) (R8 : Rp B σ H τ G) (eD7 : H D = some (.lst va)) (nO8 : ¬ OwnAt σ τ D) (gD8 : G D = none) : Rp B σ (upd H D (.lst (va ++ [y]))) τ G := by
  refine ⟨fun a o ea => ?_, R8.g0, R8.nw, fun b o eb nb => ?_, fun a ha => ?_, fun a ha => ?_, fun j s ej => ?_, R8.ds, R8.ln⟩
  · rw [upd_ne (ne_of_none ea gD8)]
    exact R8.gh a o ea
  · rw [upd_ne (ne_of_none eb f.h0)]
    exact R8.kp b o eb nb
  · have : a ≠ D := fun z => f.na (by rw [← z]; exact ha)
    rw [upd_ne this]
    exact R8.da a ha
  · have : a ≠ D := fun z => f.nr (by rw [← z]; exact ha)
    rw [upd_ne this]
    exact R8.dr a ha
  · refine (R8.sl j s ej).move rfl (Sub.refl _) (fun p o ep hs eo => ?_) (fun _ _ _ h => h) fun p c hm n hr => ⟨?_, n⟩
    · have : p ≠ D := fun z => nO8 ⟨j, by obtain ⟨k, l, c, rfl, hk⟩ := hs; exact ⟨k, l, c, ej, hk⟩, by rw [← z]; exact ep⟩
      rw [upd_ne this]
      exact eo
    · exact hr.kp (Kp.put (o := .lst (va ++ [y])) (List.mem_singleton.mpr rfl)) fun z => f.nr (by rw [← List.mem_singleton.mp z]; exact hm)
theorem IY.sub {K : Fg} {G G' : Hp} {d : PyData} {x : V} {H H' : Hp} (s : Sub G G') (h : IY K G d H x H') : IY K G' d H x H' := by
  rcases h with ⟨e, hd⟩ | ⟨T, a, b, da, db, e1, hT, e2, e3, h1, h2⟩
  · exact .inl ⟨e, Dp.sub s hd⟩
  · exact .inr ⟨T, a, b, da, db, e1, hT, e2, e3, Dp.sub s h1, Dp.sub s h2⟩
/-- one turn -/
def turnF (vs : List Nat) (g : FG) (t : FT) (e : FE) (rest : Te → List PyData → Res (List PyData)) (d : PyData) (τ : Te) (acc : List PyData) : Res (List PyData) := match g d (wipeT τ vs) with
  | none => .stuck
  | some τ1 => match t τ1 with
    | .ok b τ2 => if b = true then (match e τ2 with
      | .ok r τ3 => match hold r τ3 with
        | .ok r2 τ4 => match frz1 r2 τ4 with
          | some (d', τ5) => if acc.length < 100000 then rest τ5 (acc ++ [d']) else .stuck
          | none => .stuck
        | _ => .stuck
      | _ => .stuck) else rest τ2 acc
    | _ => .stuck
theorem lc_turn0 {D : Addr} {G1 : Hp} {C : Hp → Res (List PyData) → Prop} (cs : ∀ G G' r, Sub G G' → C G r → C G' r) (cx : ∀ G c f τ, ¬ C G (.exc c f τ)) (ck : ∀ G, ¬ C G .stuck) (f : Fresh B D) (hv : ∀ j ∈ is, j ∈ vs) (gg : ∀ B' : Bs, B'.K = B.K → GG B' is gt g)
    (ht : ∀ (B' : Bs), B'.K = B.K → B'.mg = B.mg → B'.W = (fun _ _ _ _ => False) → ∀ σ H Q, tT B' Ft σ H Q → tt σ H Q)
    (he : ∀ (B' : Bs), B'.K = B.K → B'.mg = B.mg → B'.W = (fun _ _ _ _ => False) → ∀ σ H Q, tE B' Fe σ H Q → te σ H Q)
    {d : PyData} {rest : Te → List PyData → Res (List PyData)} {x : V} {H' : Hp} {τ' : Te} {G' : Hp} {acc : List PyData} {va : List V} (s : Sub G1 G') (R : Rp B (L2.wipe σ vs) H (wipeT τ' vs) G') (eD : H D = some (.lst va)) (da : DpAll B.K G' va acc)
    (nO : ¬ OwnAt (L2.wipe σ vs) (wipeT τ' vs) D) (gD : G' D = none) (h : C G' (turnF vs g Ft Fe rest d τ' acc)) (y : IY B.K G' d H x H') :
    gt x (L2.wipe σ vs) H' fun σ2 H2 => L2.wipe σ2 vs = L2.wipe σ vs ∧ tt σ2 H2 fun b H3 => if b = true then te σ2 H3 fun y H4 => ∃ acc, H4 D = some (.lst acc) ∧ acc.length < sizeLine ∧ LcSt B σ vs D G1 C rest (upd H4 D (.lst (acc ++ [y]))) else LcSt B σ vs D G1 C rest H3 := by
  have Rq : Rp (B.pin D (.lst va)) (L2.wipe σ vs) H (wipeT τ' vs) G' := R.pin eD nO gD
  obtain ⟨G2, s2, R2, hx⟩ := IY.ok (B := B.pin D (.lst va)) Rq (Sub.refl _) y
  have h1 := cs _ _ _ s2 h
  clear h
  unfold turnF at h1
  cases q : g d (wipeT τ' vs) with
  | none =>
    rw [q] at h1
    exact (ck _ h1).elim
  | some τ2 =>
    rw [q] at h1
    dsimp only at h1
    refine gg (B.pin D (.lst va)) rfl x d _ H' _ G2 τ2 _ R2 hx q fun σ3 R3 f3 l3 => ?_
    have we : L2.wipe σ3 vs = L2.wipe σ vs := by rw [wipe_eq f3 l3 hv, wipe_wipe]
    refine ⟨we, ?_⟩
    refine ht (B.pin D (.lst va)) rfl rfl rfl _ _ _ ⟨τ2, G2, R3, ?_⟩
    revert h1
    generalize Ft τ2 = rt
    intro h1
    cases rt with
    | exc c f τ => exact (ck _ h1).elim
    | stuck => exact (ck _ h1).elim
    | ok b τ3 =>
      intro b' H4 G4 s4 R4 eb
      have eb : b' = b := eb
      subst eb
      have h1 := cs _ _ _ s4 h1
      cases b' with
      | false =>
        obtain ⟨eD4, R5, nO5, gD5⟩ := R4.unpin f.h0 f.gz f.na
        have R6 := R5.wipe vs
        rw [we] at R6
        have nO6 : ¬ OwnAt (L2.wipe σ vs) (wipeT τ3 vs) D := ((R4.wipe vs).unpin f.h0 f.gz f.na).2.2.1 |> fun z => by rw [we] at z; exact z
        exact ⟨τ3, G4, acc, va, ((s.trans s2).trans s4), R6, eD4, DpAll.sub (s2.trans s4) da, nO6, gD5, h1⟩
      | true =>
        show te σ3 H4 _
        refine he (B.pin D (.lst va)) rfl rfl rfl _ _ _ ⟨τ3, G4, R4, ?_⟩
        simp only [if_true] at h1
        revert h1
        generalize Fe τ3 = re
        intro h1
        cases re with
        | exc c f τ => exact (ck _ h1).elim
        | stuck => exact (ck _ h1).elim
        | ok r τ4 =>
          intro y H5 G5 s5 R5 rr
          have h1 := cs _ _ _ s5 h1
          cases e6 : hold r τ4 with
          | exc c f τ =>
            simp only [e6] at h1
            exact (ck _ h1).elim
          | stuck =>
            simp only [e6] at h1
            exact (ck _ h1).elim
          | ok r2 τ5 =>
            simp only [e6] at h1
            have z : ∃ G6, Sub G5 G6 ∧ Rp (B.pin D (.lst va)) σ3 H5 τ5 G6 ∧ RR (B.pin D (.lst va)) σ3 H5 τ5 G6 y r2 := by
              obtain ⟨r', τ', G6, a1, a2, a3, a4, _, _⟩ := hold_ok (RM := RR (B.pin D (.lst va))) (Q := fun _ _ => True) (k := fun _ _ => .ok (.val .none) []) R5 rr (by rw [e6]; exact fun _ _ _ _ _ _ => trivial)
              rw [e6] at a1
              cases a1
              exact ⟨G6, a2, a3, a4⟩
            obtain ⟨G6, s6, R6, rr6⟩ := z
            cases e7 : frz1 r2 τ5 with
            | none =>
              simp only [e7] at h1
              exact (ck _ h1).elim
            | some z =>
              obtain ⟨d', τ6⟩ := z
              simp only [e7] at h1
              obtain ⟨G7, s7, R7, hd7⟩ := frz1_ok R6 rr6 e7
              by_cases c : acc.length < 100000
              · rw [if_pos c] at h1
                obtain ⟨eD7, R8, nO8, gD8⟩ := R7.unpin f.h0 f.gz f.na
                refine ⟨va, eD7, small' (by rw [da.len]; exact c), ?_⟩
                have R9 : Rp B σ3 (upd H5 D (.lst (va ++ [y]))) τ6 G7 := R8.putD f eD7 nO8 gD8
                have R10 := R9.wipe vs
                rw [we] at R10
                have nO10 : ¬ OwnAt (L2.wipe σ vs) (wipeT τ6 vs) D := ((R7.wipe vs).unpin f.h0 f.gz f.na).2.2.1 |> fun z => by rw [we] at z; exact z
                exact ⟨τ6, G7, acc ++ [d'], va ++ [y], (((((s.trans s2).trans s4).trans s5).trans s6).trans s7), R10, upd_same, (DpAll.sub (((s2.trans s4).trans s5).trans (s6.trans s7)) da).app (.cons hd7 .nil), nO10, gD8, cs _ _ _ (s6.trans s7) h1⟩
              · rw [if_neg c] at h1
                exact (ck _ h1).elim
theorem lc_turn {D : Addr} {G1 : Hp} {C : Hp → Res (List PyData) → Prop} (cs : ∀ G G' r, Sub G G' → C G r → C G' r) (cx : ∀ G c f τ, ¬ C G (.exc c f τ)) (ck : ∀ G, ¬ C G .stuck) (f : Fresh B D) (hv : ∀ j ∈ is, j ∈ vs) (gg : ∀ B' : Bs, B'.K = B.K → GG B' is gt g)
    (ht : ∀ (B' : Bs), B'.K = B.K → B'.mg = B.mg → B'.W = (fun _ _ _ _ => False) → ∀ σ H Q, tT B' Ft σ H Q → tt σ H Q)
    (he : ∀ (B' : Bs), B'.K = B.K → B'.mg = B.mg → B'.W = (fun _ _ _ _ => False) → ∀ σ H Q, tE B' Fe σ H Q → te σ H Q)
    {d : PyData} {rest : List PyData} {x : V} {H' : Hp} (st : LcSt B σ vs D G1 C (lcF vs g Ft Fe (d :: rest)) H) (y : IY B.K G1 d H x H') :
    gt x (L2.wipe σ vs) H' fun σ2 H2 => L2.wipe σ2 vs = L2.wipe σ vs ∧ tt σ2 H2 fun b H3 => if b = true then te σ2 H3 fun y H4 => ∃ acc, H4 D = some (.lst acc) ∧ acc.length < sizeLine ∧ LcSt B σ vs D G1 C (lcF vs g Ft Fe rest) (upd H4 D (.lst (acc ++ [y]))) else LcSt B σ vs D G1 C (lcF vs g Ft Fe rest) H3 := by
  obtain ⟨τ', G', acc, va, s, R, eD, da, nO, gD, h⟩ := st
  exact lc_turn0 cs cx ck f hv gg ht he s R eD da nO gD h (y.sub s)
theorem OwnAt.unwipe {τ : Te} {D : Addr} (n : ¬ OwnAt (L2.wipe σ vs) (wipeT τ vs) D) : ¬ OwnAt σ (wipeT τ vs) D := by
  rintro ⟨j, hj, ej⟩
  refine n ⟨j, hj, ?_⟩
  obtain ⟨k, l, c, e, _⟩ := hj
  rcases wipeT_at e with z | ⟨z, _⟩
  · cases z
  · rw [wipe_at z]
    exact ej
theorem lc2_of (hv : ∀ j ∈ is, j ∈ vs) (hv1 : ∀ j ∈ is1, j ∈ vs1) (gg : ∀ B' : Bs, B'.K = B.K → GG B' is gt g) (gg1 : ∀ B' : Bs, B'.K = B.K → GG B' is1 gt1 g1)
    (ht : ∀ (B' : Bs), B'.K = B.K → B'.mg = B.mg → B'.W = (fun _ _ _ _ => False) → ∀ σ H Q, tT B' Ft σ H Q → tt σ H Q)
    (hi1 : ∀ (B' : Bs), B'.K = B.K → B'.mg = B.mg → B'.W = (fun _ _ _ _ => False) → ∀ σ H R, tJ B' S1 σ H R → wi1 σ H R)
    (ht1 : ∀ (B' : Bs), B'.K = B.K → B'.mg = B.mg → B'.W = (fun _ _ _ _ => False) → ∀ σ H Q, tT B' Ft1 σ H Q → tt1 σ H Q)
    (he : ∀ (B' : Bs), B'.K = B.K → B'.mg = B.mg → B'.W = (fun _ _ _ _ => False) → ∀ σ H Q, tE B' Fe σ H Q → te σ H Q) (h : tE B (fLc2 S vs g Ft S1 vs1 g1 Ft1 Fe) σ H Q) : tLc2 (tI B S) gt tt wi1 gt1 tt1 te vs vs1 σ H Q := by
  obtain ⟨τ, G, R, h⟩ := h
  refine ⟨τ, G, R, Po.bind h fun ds τ1 J H1 G1 _ _ R1 w h => ?_⟩
  intro D nD
  have gz0 : B.G0 D = none := by
    cases q : B.G0 D with
    | none => rfl
    | some u =>
      have g1 := R1.g nD
      rw [R1.g0 D u q] at g1
      cases g1
  have fr : Fresh B D := ⟨R1.h0 nD, gz0, R1.noIo nD, fun z => R1.dr D z nD⟩
  have g1' := R1.g nD
  let C : Hp → Res (List PyData) → Prop := fun G r => PE1 B σ G Q (lcEnd vs r)
  have Cs : ∀ G G' r, Sub G G' → C G r → C G' r := fun G G' r s h => Po.sub s h
  refine ⟨fun i m H => m = ds.length - i ∧ i ≤ ds.length ∧ LcSt B σ vs D G1 C (lc2F vs g Ft S1 vs1 g1 Ft1 Fe (ds.drop i)) H, ⟨ds.length, by simp, Nat.zero_le _, τ1, G1, [], [], Sub.refl _, (R1.more (Kp.new (o := .lst []) nD)).wipe vs, upd_same, .nil, (R1.wipe vs).notOwn nD, g1', h⟩, ?_⟩
  rintro i m H ⟨rfl, hi, st⟩
  have wq : Sub G1 H ∧ Kp B.as B.H0 H := by
    obtain ⟨τ', G', acc, va, s, R, _⟩ := st
    exact ⟨s.trans R.gh, R.kp⟩
  by_cases hlt : i < ds.length
  · refine .inr ⟨w.goes i H hlt wq, LcSt B σ vs D G1 C (lc2F vs g Ft S1 vs1 g1 Ft1 Fe (ds.drop (i + 1))), fun H' p' => ⟨ds.length - (i + 1), by omega, rfl, hlt, p'⟩, fun x H' y => ?_⟩
    obtain ⟨d, hd, y⟩ := w.yields i H x H' hlt wq y
    have e : ds.drop i = d :: ds.drop (i + 1) := by
      obtain ⟨h1, h2⟩ := List.getElem?_eq_some_iff.mp hd
      rw [List.drop_eq_getElem_cons h1, h2]
    rw [e] at st
    obtain ⟨τ', G', acc, va, s, R, eD, da, nO, gD, h⟩ := st
    have Rq : Rp (B.pin D (.lst va)) (L2.wipe σ vs) H (wipeT τ' vs) G' := R.pin eD nO gD
    obtain ⟨G2, s2, R2, hx⟩ := IY.ok (B := B.pin D (.lst va)) Rq s y
    have h1 : C G' (match g d (wipeT τ' vs) with
      | none => .stuck
      | some τ1 => match Ft τ1 with
        | .ok b τ2 => if b = true then (match S1 τ2 with
          | .ok ds1 τ3 => match lcF vs1 g1 Ft1 Fe ds1 τ3 acc with
            | .ok acc' τ4 => lc2F vs g Ft S1 vs1 g1 Ft1 Fe (ds.drop (i + 1)) (wipeT τ4 vs1) acc'
            | _ => .stuck
          | _ => .stuck) else lc2F vs g Ft S1 vs1 g1 Ft1 Fe (ds.drop (i + 1)) τ2 acc
        | _ => .stuck) := h
    clear h
    have h1 := Cs _ _ _ s2 h1
    cases q : g d (wipeT τ' vs) with
    | none =>
      rw [q] at h1
      exact h1.elim
    | some τ2 =>
      rw [q] at h1
      dsimp only at h1
      refine gg (B.pin D (.lst va)) rfl x d _ H' _ G2 τ2 _ R2 hx q fun σ3 R3 f3 l3 => ?_
      have we : L2.wipe σ3 vs = L2.wipe σ vs := by rw [wipe_eq f3 l3 hv, wipe_wipe]
      refine ⟨we, ?_⟩
      refine ht (B.pin D (.lst va)) rfl rfl rfl _ _ _ ⟨τ2, G2, R3, ?_⟩
      revert h1
      generalize Ft τ2 = rt
      intro h1
      cases rt with
      | exc c f τ => exact h1.elim
      | stuck => exact h1.elim
      | ok b τ3 =>
        intro b' H4 G4 s4 R4 eb
        have eb : b' = b := eb
        subst eb
        have h1 := Cs _ _ _ s4 h1
        cases b' with
        | false =>
          obtain ⟨eD4, R5, nO5, gD5⟩ := R4.unpin fr.h0 fr.gz fr.na
          have R6 := R5.wipe vs
          rw [we] at R6
          have nO6 : ¬ OwnAt (L2.wipe σ vs) (wipeT τ3 vs) D := ((R4.wipe vs).unpin fr.h0 fr.gz fr.na).2.2.1 |> fun z => by rw [we] at z; exact z
          exact ⟨τ3, G4, acc, va, ((s.trans s2).trans s4), R6, eD4, DpAll.sub (s2.trans s4) da, nO6, gD5, h1⟩
        | true =>
          show wi1 σ3 H4 _
          refine hi1 (B.pin D (.lst va)) rfl rfl rfl _ _ _ ⟨τ3, G4, R4, ?_⟩
          simp only [if_true] at h1
          revert h1
          generalize S1 τ3 = rs
          intro h1
          cases rs with
          | exc c f τ => exact h1.elim
          | stuck => exact h1.elim
          | ok ds1 τ4 =>
            intro J1 H5 G5 s5 R5 w1
            have h1 := Cs _ _ _ s5 h1
            let C1 : Hp → Res (List PyData) → Prop := fun G r => C G (match r with
              | .ok acc' τ4 => lc2F vs g Ft S1 vs1 g1 Ft1 Fe (ds.drop (i + 1)) (wipeT τ4 vs1) acc'
              | _ => .stuck)
            have C1s : ∀ G G' r, Sub G G' → C1 G r → C1 G' r := fun G G' r s h => Po.sub s h
            obtain ⟨eD5, R6, nO6, gD6⟩ := R5.unpin fr.h0 fr.gz fr.na
            refine ⟨fun j k H => k = ds1.length - j ∧ j ≤ ds1.length ∧ LcSt B σ3 vs1 D G5 C1 (lcF vs1 g1 Ft1 Fe (ds1.drop j)) H, ⟨ds1.length, by simp, Nat.zero_le _, τ4, G5, acc, va, Sub.refl _, R6.wipe vs1, eD5, DpAll.sub ((s2.trans s4).trans s5) da, ((R5.wipe vs1).unpin fr.h0 fr.gz fr.na).2.2.1, gD6, h1⟩, ?_⟩
            rintro j k H ⟨rfl, hj, st⟩
            have wq1 : Sub G5 H := by
              obtain ⟨τ', G', acc, va, s, R, _⟩ := st
              exact s.trans R.gh
            by_cases hlt1 : j < ds1.length
            · refine .inr ⟨w1.goes j H hlt1 wq1, LcSt B σ3 vs1 D G5 C1 (lcF vs1 g1 Ft1 Fe (ds1.drop (j + 1))), fun H' p' => ⟨ds1.length - (j + 1), by omega, rfl, hlt1, p'⟩, fun x H' y => ?_⟩
              obtain ⟨d1, hd1, y⟩ := w1.yields j H x H' hlt1 wq1 y
              have e1 : ds1.drop j = d1 :: ds1.drop (j + 1) := by
                obtain ⟨h1, h2⟩ := List.getElem?_eq_some_iff.mp hd1
                rw [List.drop_eq_getElem_cons h1, h2]
              rw [e1] at st
              exact lc_turn C1s (fun G c f τ h => (show False from h)) (fun G h => (show False from h)) fr hv1 gg1 ht1 he st y
            · have e1 : j = ds1.length := by omega
              subst e1
              refine .inl ⟨w1.stops H wq1, ?_⟩
              rw [List.drop_length] at st
              obtain ⟨τ', G', acc', va', s', R', eD', da', nO', gD', h'⟩ := st
              have R7 := R'.unwipe
              have nO7 := OwnAt.unwipe nO'
              have R8 := R7.wipe vs
              rw [we] at R8
              have nO8 : ¬ OwnAt (L2.wipe σ vs) (wipeT (wipeT τ' vs1) vs) D := (((R7.pin eD' nO7 gD').wipe vs).unpin fr.h0 fr.gz fr.na).2.2.1 |> fun z => by rw [we] at z; exact z
              exact ⟨wipeT τ' vs1, G', acc', va', ((((s.trans s2).trans s4).trans s5).trans s'), R8, eD', da', nO8, gD', h'⟩
  · have e : i = ds.length := by omega
    subst e
    refine .inl ⟨w.stops H wq, ?_⟩
    rw [List.drop_length] at st
    obtain ⟨τ', G', acc, va, s, R, eD, da, nO, gD, h⟩ := st
    have R2 := R.unwipe
    refine h (.ref D) H G' (Sub.refl _) R2 ⟨D, _, rfl, eD, da, gD, fr.h0, OwnAt.unwipe nO, ?_⟩
    intro j l c e es
    obtain ⟨q, e1, z⟩ := R2.sl j _ e
    rw [es] at e1
    cases e1
    rcases z with z | ⟨_, _, z⟩
    · exact z
    · exact absurd z fr.nr
end
section
variable {X : Cx} {B : Bs}
variable {elt tg iter tg1 iter1 : Expr} {ifs ifs1 : List Expr} {scope : Scope} {own : List (Str × Nat)} {pos : Pos} {S S1 : FI} {gt gt1 : TG} {g g1 : FG} {Ft Ft1 : FT} {Fe : FE} {is is1 vs1 : List Nat}
abbrev Q0 (B B' : Bs) : Prop := B'.K = B.K ∧ B'.mg = B.mg ∧ B'.W = fun _ _ _ _ => False
theorem x_lc2 (ok : OkB X B) (hN : X.N.Nodup) (hi : PI X tg iter (tI B S)) (blk : BlkOk X.N X.env.scope scope own) (hw : ∀ i ∈ vs1, i ∈ own.map (·.2))
    (hg : ∀ (s : Shared) (H : Hp) (C : Addr) (cl : List (Str × Addr)) (fp : List Addr), PG (X.blk s H scope (compEnvC scope cl C X.env) fp) tg gt) (gg : ∀ B' : Bs, B'.K = B.K → GG B' is gt g) (hv : ∀ j ∈ is, j ∈ own.map (·.2))
    (ht : ∀ (B' : Bs) (s : Shared) (H : Hp) (C : Addr) (cl : List (Str × Addr)) (fp : List Addr), B'.K = B.K → B'.mg = B.mg → OkB (X.blk s H scope (compEnvC scope cl C X.env) fp) B' → PTs (X.blk s H scope (compEnvC scope cl C X.env) fp) ifs (tT B' Ft))
    (hi1 : ∀ (B' : Bs) (s : Shared) (H : Hp) (C : Addr) (cl : List (Str × Addr)) (fp : List Addr), B'.K = B.K → B'.mg = B.mg → OkB (X.blk s H scope (compEnvC scope cl C X.env) fp) B' → PI (X.blk s H scope (compEnvC scope cl C X.env) fp) tg1 iter1 (tJ B' S1))
    (hg1 : ∀ (s : Shared) (H : Hp) (C : Addr) (cl : List (Str × Addr)) (fp : List Addr), PG (X.blk s H scope (compEnvC scope cl C X.env) fp) tg1 gt1) (gg1 : ∀ B' : Bs, B'.K = B.K → GG B' is1 gt1 g1) (hv1 : ∀ j ∈ is1, j ∈ vs1)
    (ht1 : ∀ (B' : Bs) (s : Shared) (H : Hp) (C : Addr) (cl : List (Str × Addr)) (fp : List Addr), B'.K = B.K → B'.mg = B.mg → OkB (X.blk s H scope (compEnvC scope cl C X.env) fp) B' → PTs (X.blk s H scope (compEnvC scope cl C X.env) fp) ifs1 (tT B' Ft1))
    (he : ∀ (B' : Bs) (s : Shared) (H : Hp) (C : Addr) (cl : List (Str × Addr)) (fp : List Addr), B'.K = B.K → B'.mg = B.mg → OkB (X.blk s H scope (compEnvC scope cl C X.env) fp) B' → PE (X.blk s H scope (compEnvC scope cl C X.env) fp) elt (tE B' Fe))
    (hs : ∀ x, foldedSetIterable iter X.env x = pure x := by intro _; rfl) (hs1 : ∀ env x, foldedSetIterable iter1 env x = pure x := by intro _ _; rfl) :
    PE X (.ListComp elt [⟨tg, iter, ifs, 0⟩, ⟨tg1, iter1, ifs1, 0⟩] scope pos) (tE B (fLc2 S (own.map (·.2)) g Ft S1 vs1 g1 Ft1 Fe)) := by
  refine PE.wkt (pe_lc2 (tt := fun σ H Q => ∃ B' : Bs, Q0 B B' ∧ tT B' Ft σ H Q) (wi1 := fun σ H R => ∃ B' : Bs, Q0 B B' ∧ tJ B' S1 σ H R) (tt1 := fun σ H Q => ∃ B' : Bs, Q0 B B' ∧ tT B' Ft1 σ H Q) (te := fun σ H Q => ∃ B' : Bs, Q0 B B' ∧ tE B' Fe σ H Q)
    ok.calm hN hi blk hw hg (fun s H C cl fp => ⟨fun pins s' σ H' Q I ⟨B', ⟨h1, h2, h3⟩, q⟩ => (ht B' s H C cl fp h1 h2 (ok.blk h1 h2 h3)).run pins s' σ H' Q I q⟩)
    (fun s H C cl fp => ⟨fun pins s' σ H' R I ⟨B', ⟨h1, h2, h3⟩, q⟩ => (hi1 B' s H C cl fp h1 h2 (ok.blk h1 h2 h3)).run pins s' σ H' R I q⟩) hg1
    (fun s H C cl fp => ⟨fun pins s' σ H' Q I ⟨B', ⟨h1, h2, h3⟩, q⟩ => (ht1 B' s H C cl fp h1 h2 (ok.blk h1 h2 h3)).run pins s' σ H' Q I q⟩)
    (fun s H C cl fp => ⟨fun pins s' σ H' Q I ⟨B', ⟨h1, h2, h3⟩, q⟩ => (he B' s H C cl fp h1 h2 (ok.blk h1 h2 h3)).run pins s' σ H' Q I q⟩) hs hs1) fun σ H Q h => ?_
  exact lc2_of hv hv1 gg gg1 (fun B' h1 h2 h3 σ H Q q => ⟨B', ⟨h1, h2, h3⟩, q⟩) (fun B' h1 h2 h3 σ H Q q => ⟨B', ⟨h1, h2, h3⟩, q⟩) (fun B' h1 h2 h3 σ H Q q => ⟨B', ⟨h1, h2, h3⟩, q⟩) (fun B' h1 h2 h3 σ H Q q => ⟨B', ⟨h1, h2, h3⟩, q⟩) h
theorem xs_setLc2 (ok : OkB X B) {i : Nat} {y : Str} {py spos : Pos} (hN : X.N.Nodup) (hy : X.N[i]? = some y) (hyl : X.env.scope.names.lookup y = some .local)
    (hsw : swapsWith (.ListComp elt [⟨tg, iter, ifs, 0⟩, ⟨tg1, iter1, ifs1, 0⟩] scope pos) (some (.Name y py)) spos.line X.env = pure true) (hi : PI X tg iter (tI B S)) (blk : BlkOk X.N X.env.scope scope own) (hw : ∀ i ∈ vs1, i ∈ own.map (·.2))
    (hg : ∀ (s : Shared) (H : Hp) (C : Addr) (cl : List (Str × Addr)) (fp : List Addr), PG (X.blk s H scope (compEnvC scope cl C X.env) fp) tg gt) (gg : ∀ B' : Bs, B'.K = B.K → GG B' is gt g) (hv : ∀ j ∈ is, j ∈ own.map (·.2))
    (ht : ∀ (B' : Bs) (s : Shared) (H : Hp) (C : Addr) (cl : List (Str × Addr)) (fp : List Addr), B'.K = B.K → B'.mg = B.mg → OkB (X.blk s H scope (compEnvC scope cl C X.env) fp) B' → PTs (X.blk s H scope (compEnvC scope cl C X.env) fp) ifs (tT B' Ft))
    (hi1 : ∀ (B' : Bs) (s : Shared) (H : Hp) (C : Addr) (cl : List (Str × Addr)) (fp : List Addr), B'.K = B.K → B'.mg = B.mg → OkB (X.blk s H scope (compEnvC scope cl C X.env) fp) B' → PI (X.blk s H scope (compEnvC scope cl C X.env) fp) tg1 iter1 (tJ B' S1))
    (hg1 : ∀ (s : Shared) (H : Hp) (C : Addr) (cl : List (Str × Addr)) (fp : List Addr), PG (X.blk s H scope (compEnvC scope cl C X.env) fp) tg1 gt1) (gg1 : ∀ B' : Bs, B'.K = B.K → GG B' is1 gt1 g1) (hv1 : ∀ j ∈ is1, j ∈ vs1)
    (ht1 : ∀ (B' : Bs) (s : Shared) (H : Hp) (C : Addr) (cl : List (Str × Addr)) (fp : List Addr), B'.K = B.K → B'.mg = B.mg → OkB (X.blk s H scope (compEnvC scope cl C X.env) fp) B' → PTs (X.blk s H scope (compEnvC scope cl C X.env) fp) ifs1 (tT B' Ft1))
    (he : ∀ (B' : Bs) (s : Shared) (H : Hp) (C : Addr) (cl : List (Str × Addr)) (fp : List Addr), B'.K = B.K → B'.mg = B.mg → OkB (X.blk s H scope (compEnvC scope cl C X.env) fp) B' → PE (X.blk s H scope (compEnvC scope cl C X.env) fp) elt (tE B' Fe))
    (hs : ∀ x, foldedSetIterable iter X.env x = pure x := by intro _; rfl) (hs1 : ∀ env x, foldedSetIterable iter1 env x = pure x := by intro _ _; rfl) :
    PS X (.Assign [.Name y py] (.ListComp elt [⟨tg, iter, ifs, 0⟩, ⟨tg1, iter1, ifs1, 0⟩] scope pos) spos) (tS B (fSet i (fLc2 S (own.map (·.2)) g Ft S1 vs1 g1 Ft1 Fe))) := by
  refine PS.wkt (ps_setLc2 (tt := fun σ H Q => ∃ B' : Bs, Q0 B B' ∧ tT B' Ft σ H Q) (wi1 := fun σ H R => ∃ B' : Bs, Q0 B B' ∧ tJ B' S1 σ H R) (tt1 := fun σ H Q => ∃ B' : Bs, Q0 B B' ∧ tT B' Ft1 σ H Q) (te := fun σ H Q => ∃ B' : Bs, Q0 B B' ∧ tE B' Fe σ H Q)
    ok.calm hN hy hyl hsw hi blk hw hg (fun s H C cl fp => ⟨fun pins s' σ H' Q I ⟨B', ⟨h1, h2, h3⟩, q⟩ => (ht B' s H C cl fp h1 h2 (ok.blk h1 h2 h3)).run pins s' σ H' Q I q⟩)
    (fun s H C cl fp => ⟨fun pins s' σ H' R I ⟨B', ⟨h1, h2, h3⟩, q⟩ => (hi1 B' s H C cl fp h1 h2 (ok.blk h1 h2 h3)).run pins s' σ H' R I q⟩) hg1
    (fun s H C cl fp => ⟨fun pins s' σ H' Q I ⟨B', ⟨h1, h2, h3⟩, q⟩ => (ht1 B' s H C cl fp h1 h2 (ok.blk h1 h2 h3)).run pins s' σ H' Q I q⟩)
    (fun s H C cl fp => ⟨fun pins s' σ H' Q I ⟨B', ⟨h1, h2, h3⟩, q⟩ => (he B' s H C cl fp h1 h2 (ok.blk h1 h2 h3)).run pins s' σ H' Q I q⟩) hs hs1) fun D σ H h => ?_
  obtain ⟨τ, G, R, h⟩ := h
  refine lc2_of (B := B) hv hv1 gg gg1 (fun B' h1 h2 h3 σ H Q q => ⟨B', ⟨h1, h2, h3⟩, q⟩) (fun B' h1 h2 h3 σ H Q q => ⟨B', ⟨h1, h2, h3⟩, q⟩) (fun B' h1 h2 h3 σ H Q q => ⟨B', ⟨h1, h2, h3⟩, q⟩) (fun B' h1 h2 h3 σ H Q q => ⟨B', ⟨h1, h2, h3⟩, q⟩) ?_
  exact ⟨τ, G, R, Po.bindS h fun r τ1 x H1 G1 _ _ R1 rr h => stoS_ok R1 rr h⟩
end
/-! ### [e for x in xs if t], xs an own list that stays -/
def lcFO (i n : Nat) (vs : List Nat) (g : FG) (t : FT) (e : FE) : Nat → Te → List PyData → Res (List PyData)
  | 0, τ, acc => match (wipeT τ vs)[i]? with
    | some (.ct kd _ (.L ds)) => if kd ≠ .ro ∧ ds.length = n then .ok acc τ else .stuck
    | _ => .stuck
  | k + 1, τ, acc => match (wipeT τ vs)[i]? with
    | some (.ct kd _ (.L ds)) => if kd ≠ .ro ∧ ds.length = n then (match ds[n - (k + 1)]? with
      | some d => turnF vs g t e (lcFO i n vs g t e k) d τ acc
      | none => .stuck) else .stuck
    | _ => .stuck
def fLcO (i : Nat) (vs : List Nat) (g : FG) (t : FT) (e : FE) : FE := fun τ => match τ[i]? with
  | some (.ct kd _ (.L ds)) => if kd ≠ .ro ∧ i ∉ vs then lcEnd vs (lcFO i ds.length vs g t e ds.length τ []) else .stuck
  | _ => .stuck
section
variable {B : Bs} {σ : L2.St} {H : Hp} {Q : VK} {vs is : List Nat} {gt : TG} {g : FG} {tt : TT} {te : TE} {Ft : FT} {Fe : FE}
theorem lcFO_slot {i n k : Nat} {τ : Te} {acc : List PyData} {r : Res (List PyData)} (e : lcFO i n vs g Ft Fe k τ acc = r) (ns : r ≠ .stuck) : ∃ kd l ds, (wipeT τ vs)[i]? = some (.ct kd l (.L ds)) ∧ kd ≠ .ro ∧ ds.length = n := by
  cases q : (wipeT τ vs)[i]? with
  | none =>
    refine absurd ?_ ns
    rw [← e]
    cases k <;> · unfold lcFO; rw [q]
  | some s =>
    cases s with
    | nv o =>
      refine absurd ?_ ns
      rw [← e]
      cases k <;> · unfold lcFO; rw [q]
    | sh o =>
      refine absurd ?_ ns
      rw [← e]
      cases k <;> · unfold lcFO; rw [q]
    | ct kd l c =>
      cases c with
      | D c kv =>
        refine absurd ?_ ns
        rw [← e]
        cases k <;> · unfold lcFO; rw [q]
      | L ds =>
        by_cases c : kd ≠ .ro ∧ ds.length = n
        · exact ⟨kd, l, ds, rfl, c.1, c.2⟩
        · refine absurd ?_ ns
          rw [← e]
          cases k <;> · unfold lcFO; rw [q]; dsimp only; rw [if_neg c]
theorem lcO_of {i : Nat} (hv : ∀ j ∈ is, j ∈ vs) (gg : ∀ B' : Bs, B'.K = B.K → GG B' is gt g)
    (ht : ∀ (B' : Bs), B'.K = B.K → B'.mg = B.mg → B'.W = (fun _ _ _ _ => False) → ∀ σ H Q, tT B' Ft σ H Q → tt σ H Q)
    (he : ∀ (B' : Bs), B'.K = B.K → B'.mg = B.mg → B'.W = (fun _ _ _ _ => False) → ∀ σ H Q, tE B' Fe σ H Q → te σ H Q) (h : tE B (fLcO i vs g Ft Fe) σ H Q) : tLc (iAny B.K (tE B (fVar i))) gt tt te vs σ H Q := by
  obtain ⟨τ, G, R, h⟩ := h
  unfold fLcO at h
  split at h
  · rename_i kd l ds e
    by_cases c : kd ≠ .ro ∧ i ∉ vs
    · rw [if_pos c] at h
      refine ⟨τ, G, R, ?_⟩
      unfold fVar
      rw [e]
      intro x H1 G1 s1 R1 rx
      have rx : σ[i]? = some (some x) := rx
      have h := Po.sub s1 h
      obtain ⟨p, o, ep, eo, rc⟩ : ∃ p o, σ[i]? = some (some (.ref p)) ∧ H1 p = some o ∧ RC B.K G1 o (.L ds) := by
        have z := R1.sl i _ e
        cases kd with
        | ow => exact let ⟨p, o, a, b, c, _⟩ := z; ⟨p, o, a, b, c⟩
        | io => exact let ⟨p, o, a, b, c, _⟩ := z; ⟨p, o, a, b, c⟩
        | ro => exact absurd rfl c.1
      rw [rx] at ep
      cases ep
      cases o <;> try exact (show False from rc).elim
      rename_i xs
      have rc : DpAll B.K G1 xs ds := rc
      refine .inl ⟨p, rfl, ⟨xs, .inl (.inl eo)⟩, ?_⟩
      intro D nD
      have gz0 : B.G0 D = none := by
        cases q : B.G0 D with
        | none => rfl
        | some u =>
          have g1 := R1.g nD
          rw [R1.g0 D u q] at g1
          cases g1
      have fr : Fresh B D := ⟨R1.h0 nD, gz0, R1.noIo nD, fun z => R1.dr D z nD⟩
      have g1' := R1.g nD
      let C : Hp → Res (List PyData) → Prop := fun G r => PE1 B σ G Q (lcEnd vs r)
      have Cs : ∀ G G' r, Sub G G' → C G r → C G' r := fun G G' r s h => Po.sub s h
      have ck : ∀ G, ¬ C G .stuck := fun G h => (show False from h)
      refine ⟨fun j m H => m = ds.length - j ∧ j ≤ ds.length ∧ LcSt B σ vs D G1 C (lcFO i ds.length vs g Ft Fe (ds.length - j)) H, ⟨ds.length, by simp, Nat.zero_le _, τ, G1, [], [], Sub.refl _, (R1.more (Kp.new (o := .lst []) nD)).wipe vs, upd_same, .nil, (R1.wipe vs).notOwn nD, g1', h⟩, ?_⟩
      rintro j m H ⟨rfl, hj, st⟩
      obtain ⟨τ', G', acc, va, s, R, eD, da, nO, gD, h⟩ := st
      obtain ⟨kd2, l2, ds2, e2, nro, len2⟩ := lcFO_slot (r := lcFO i ds.length vs g Ft Fe (ds.length - j) τ' acc) rfl fun z => ck G' (by rw [← z]; exact h)
      obtain ⟨o, eo2, rc2⟩ : ∃ o, H p = some o ∧ RC B.K G' o (.L ds2) := by
        have z := R.sl i _ e2
        have ew : (L2.wipe σ vs)[i]? = some (some (.ref p)) := by
          rw [wipe_at c.2]
          exact rx
        cases kd2 with
        | ow =>
          obtain ⟨p', o, a, b, c, _⟩ := z
          rw [ew] at a
          cases a
          exact ⟨o, b, c⟩
        | io =>
          obtain ⟨p', o, a, b, c, _⟩ := z
          rw [ew] at a
          cases a
          exact ⟨o, b, c⟩
        | ro => exact absurd rfl nro
      cases o <;> try exact (show False from rc2).elim
      rename_i xs2
      have rc2 : DpAll B.K G' xs2 ds2 := rc2
      have q2 : SqL B.K H p xs2 := .inl (.inl eo2)
      have lx : xs2.length = ds.length := by rw [rc2.len, len2]
      by_cases hlt : j < ds.length
      · have hlt2 : j < xs2.length := by rw [lx]; exact hlt
        refine .inr ⟨(walk_list (K := B.K) (a := p) (xs := xs2)).goes j H hlt2 q2, LcSt B σ vs D G1 C (lcFO i ds.length vs g Ft Fe (ds.length - (j + 1))), fun H' p' => ⟨ds.length - (j + 1), by omega, rfl, hlt, p'⟩, fun x H' y => ?_⟩
        obtain ⟨eH, ex⟩ := (walk_list (K := B.K) (a := p) (xs := xs2)).yields j H x H' hlt2 q2 y
        obtain ⟨d, ed, hd⟩ := rc2.getV ex
        have ek : ds.length - j = (ds.length - (j + 1)) + 1 := by omega
        rw [ek] at h
        have h1 : C G' (match (wipeT τ' vs)[i]? with
          | some (.ct kd _ (.L ds3)) => if kd ≠ .ro ∧ ds3.length = ds.length then (match ds3[ds.length - ((ds.length - (j + 1)) + 1)]? with
            | some d => turnF vs g Ft Fe (lcFO i ds.length vs g Ft Fe (ds.length - (j + 1))) d τ' acc
            | none => .stuck) else .stuck
          | _ => .stuck) := h
        rw [e2] at h1
        dsimp only at h1
        rw [if_pos ⟨nro, len2⟩, show ds.length - ((ds.length - (j + 1)) + 1) = j by omega, ed] at h1
        exact lc_turn0 Cs (fun G c f τ h => (show False from h)) ck fr hv gg ht he s R eD da nO gD h1 (.inl ⟨eH, hd⟩)
      · have ej : j = ds.length := by omega
        subst ej
        refine .inl ⟨?_, ?_⟩
        · have z := (walk_list (K := B.K) (a := p) (xs := xs2)).stops H q2
          rw [lx] at z
          exact z
        · rw [show ds.length - ds.length = 0 by omega] at h
          have h1 : C G' (match (wipeT τ' vs)[i]? with
            | some (.ct kd _ (.L ds3)) => if kd ≠ .ro ∧ ds3.length = ds.length then .ok acc τ' else .stuck
            | _ => .stuck) := h
          rw [e2] at h1
          dsimp only at h1
          rw [if_pos ⟨nro, len2⟩] at h1
          have R2 := R.unwipe
          refine h1 (.ref D) H G' (Sub.refl _) R2 ⟨D, _, rfl, eD, da, gD, fr.h0, OwnAt.unwipe nO, ?_⟩
          intro j l c e es
          obtain ⟨q, e1, z⟩ := R2.sl j _ e
          rw [es] at e1
          cases e1
          rcases z with z | ⟨_, _, z⟩
          · exact z
          · exact absurd z fr.nr
    · rw [if_neg c] at h
      exact h.elim
  · exact h.elim
end
section
variable {X : Cx} {B : Bs}
variable {elt tg iter : Expr} {ifs : List Expr} {scope : Scope} {own : List (Str × Nat)} {pos : Pos} {gt : TG} {g : FG} {Ft : FT} {Fe : FE} {is : List Nat}
theorem x_lcO {i0 : Nat} (ok : OkB X B) (hN : X.N.Nodup) (hi : PE X iter (tE B (fVar i0))) (blk : BlkOk X.N X.env.scope scope own)
    (hg : ∀ (s : Shared) (H : Hp) (C : Addr) (cl : List (Str × Addr)) (fp : List Addr), PG (X.blk s H scope (compEnvC scope cl C X.env) fp) tg gt) (gg : ∀ B' : Bs, B'.K = B.K → GG B' is gt g) (hv : ∀ j ∈ is, j ∈ own.map (·.2))
    (ht : ∀ (B' : Bs) (s : Shared) (H : Hp) (C : Addr) (cl : List (Str × Addr)) (fp : List Addr), B'.K = B.K → B'.mg = B.mg → OkB (X.blk s H scope (compEnvC scope cl C X.env) fp) B' → PTs (X.blk s H scope (compEnvC scope cl C X.env) fp) ifs (tT B' Ft))
    (he : ∀ (B' : Bs) (s : Shared) (H : Hp) (C : Addr) (cl : List (Str × Addr)) (fp : List Addr), B'.K = B.K → B'.mg = B.mg → OkB (X.blk s H scope (compEnvC scope cl C X.env) fp) B' → PE (X.blk s H scope (compEnvC scope cl C X.env) fp) elt (tE B' Fe))
    (hs : ∀ x, foldedSetIterable iter X.env x = pure x := by intro _; rfl) : PE X (.ListComp elt [⟨tg, iter, ifs, 0⟩] scope pos) (tE B (fLcO i0 (own.map (·.2)) g Ft Fe)) := by
  refine PE.wkt (pe_lc (wi := iAny X.K (tE B (fVar i0))) (tt := fun σ H Q => ∃ B' : Bs, Q0 B B' ∧ tT B' Ft σ H Q) (te := fun σ H Q => ∃ B' : Bs, Q0 B B' ∧ tE B' Fe σ H Q)
    ok.calm hN (pi_any hi) blk hg (fun s H C cl fp => ⟨fun pins s' σ H' Q I ⟨B', ⟨h1, h2, h3⟩, q⟩ => (ht B' s H C cl fp h1 h2 (ok.blk h1 h2 h3)).run pins s' σ H' Q I q⟩)
    (fun s H C cl fp => ⟨fun pins s' σ H' Q I ⟨B', ⟨h1, h2, h3⟩, q⟩ => (he B' s H C cl fp h1 h2 (ok.blk h1 h2 h3)).run pins s' σ H' Q I q⟩) hs) fun σ H Q h => ?_
  rw [ok.K]
  exact lcO_of hv gg (fun B' h1 h2 h3 σ H Q q => ⟨B', ⟨h1, h2, h3⟩, q⟩) (fun B' h1 h2 h3 σ H Q q => ⟨B', ⟨h1, h2, h3⟩, q⟩) h
theorem xs_setLcO (ok : OkB X B) {i i0 : Nat} {y : Str} {py spos : Pos} (hN : X.N.Nodup) (hy : X.N[i]? = some y) (hyl : X.env.scope.names.lookup y = some .local)
    (hsw : swapsWith (.ListComp elt [⟨tg, iter, ifs, 0⟩] scope pos) (some (.Name y py)) spos.line X.env = pure true) (hi : PE X iter (tE B (fVar i0))) (blk : BlkOk X.N X.env.scope scope own)
    (hg : ∀ (s : Shared) (H : Hp) (C : Addr) (cl : List (Str × Addr)) (fp : List Addr), PG (X.blk s H scope (compEnvC scope cl C X.env) fp) tg gt) (gg : ∀ B' : Bs, B'.K = B.K → GG B' is gt g) (hv : ∀ j ∈ is, j ∈ own.map (·.2))
    (ht : ∀ (B' : Bs) (s : Shared) (H : Hp) (C : Addr) (cl : List (Str × Addr)) (fp : List Addr), B'.K = B.K → B'.mg = B.mg → OkB (X.blk s H scope (compEnvC scope cl C X.env) fp) B' → PTs (X.blk s H scope (compEnvC scope cl C X.env) fp) ifs (tT B' Ft))
    (he : ∀ (B' : Bs) (s : Shared) (H : Hp) (C : Addr) (cl : List (Str × Addr)) (fp : List Addr), B'.K = B.K → B'.mg = B.mg → OkB (X.blk s H scope (compEnvC scope cl C X.env) fp) B' → PE (X.blk s H scope (compEnvC scope cl C X.env) fp) elt (tE B' Fe))
    (hs : ∀ x, foldedSetIterable iter X.env x = pure x := by intro _; rfl) : PS X (.Assign [.Name y py] (.ListComp elt [⟨tg, iter, ifs, 0⟩] scope pos) spos) (tS B (fSet i (fLcO i0 (own.map (·.2)) g Ft Fe))) := by
  refine PS.wkt (ps_setLc (wi := iAny X.K (tE B (fVar i0))) (tt := fun σ H Q => ∃ B' : Bs, Q0 B B' ∧ tT B' Ft σ H Q) (te := fun σ H Q => ∃ B' : Bs, Q0 B B' ∧ tE B' Fe σ H Q)
    ok.calm hN hy hyl hsw (pi_any hi) blk hg (fun s H C cl fp => ⟨fun pins s' σ H' Q I ⟨B', ⟨h1, h2, h3⟩, q⟩ => (ht B' s H C cl fp h1 h2 (ok.blk h1 h2 h3)).run pins s' σ H' Q I q⟩)
    (fun s H C cl fp => ⟨fun pins s' σ H' Q I ⟨B', ⟨h1, h2, h3⟩, q⟩ => (he B' s H C cl fp h1 h2 (ok.blk h1 h2 h3)).run pins s' σ H' Q I q⟩) hs) fun D σ H h => ?_
  obtain ⟨τ, G, R, h⟩ := h
  rw [ok.K]
  refine lcO_of (B := B) hv gg (fun B' h1 h2 h3 σ H Q q => ⟨B', ⟨h1, h2, h3⟩, q⟩) (fun B' h1 h2 h3 σ H Q q => ⟨B', ⟨h1, h2, h3⟩, q⟩) ?_
  exact ⟨τ, G, R, Po.bindS h fun r τ1 x H1 G1 _ _ R1 rr h => stoS_ok R1 rr h⟩
end
/-! ### an own list that is frozen ahead -/
def fFrz (i : Nat) (F : FE) : FE := fun τ => match frz1 (.slot i) τ with
  | some (_, τ') => F τ'
  | none => .stuck
def fFrzS (i : Nat) (F : FS) : FS := fun τ => match frz1 (.slot i) τ with
  | some (_, τ') => F τ'
  | none => .stuck
section
variable {X : Cx} {B : Bs} {e : Expr} {st : Stmt} {F : FE} {Fs : FS} {i : Nat}
theorem frz_slot {σ : L2.St} {H : Hp} {τ τ' : Te} {G : Hp} {d : PyData} (R : Rp B σ H τ G) (e : frz1 (.slot i) τ = some (d, τ')) : ∃ G', Sub G G' ∧ Rp B σ H τ' G' := by
  have : ∃ x, σ[i]? = some (some x) := by
    unfold frz1 at e
    dsimp only at e
    split at e
    · rename_i d q
      obtain ⟨v, e1, _⟩ := R.sl i _ q
      exact ⟨v, e1⟩
    · rename_i q
      obtain ⟨p, o, e1, _⟩ := R.sl i _ q
      exact ⟨_, e1⟩
    · cases e
  obtain ⟨x, ex⟩ := this
  obtain ⟨G', s, R', _⟩ := frz1_ok (x := x) R (r := .slot i) ex e
  exact ⟨G', s, R'⟩
theorem x_frz (h : PE X e (tE B F)) : PE X e (tE B (fFrz i F)) := PE.wkt h fun σ H Q ⟨τ, G, R, q⟩ => by
  unfold fFrz at q
  cases c : frz1 (.slot i) τ with
  | none =>
    rw [c] at q
    exact q.elim
  | some z =>
    obtain ⟨d, τ'⟩ := z
    rw [c] at q
    obtain ⟨G', s, R'⟩ := frz_slot R c
    exact ⟨τ', G', R', Po.sub s q⟩
theorem xs_frz (h : PS X st (tS B Fs)) : PS X st (tS B (fFrzS i Fs)) := PS.wkt h fun D σ H ⟨τ, G, R, q⟩ => by
  unfold fFrzS at q
  cases c : frz1 (.slot i) τ with
  | none =>
    rw [c] at q
    exact q.elim
  | some z =>
    obtain ⟨d, τ'⟩ := z
    rw [c] at q
    obtain ⟨G', s, R'⟩ := frz_slot R c
    exact ⟨τ', G', R', PS1.sub s q⟩
theorem fset_frz {j : Nat} : fSet j (fFrz i F) = fFrzS i (fSet j F) := by
  funext τ
  unfold fSet fFrz fFrzS
  cases frz1 (.slot i) τ with
  | none => rfl
  | some z => rfl
theorem xs_frzSet {j : Nat} (h : PS X st (tS B (fSet j F))) : PS X st (tS B (fSet j (fFrz i F))) := by
  rw [fset_frz]
  exact xs_frz h
end
end T
end

section
set_option Elab.async false
set_option linter.all false
set_option maxRecDepth 100000
set_option maxHeartbeats 2000000
/-! U1: plain functions of data (P), and that a function by value does as one of them says. -/
namespace U
open PySem PySem.Spec PyProof.Rows L2 Z T
inductive P (α : Type) where
  | ok (a : α)
  | ex (c : Str) (f : Option (List (Str × PyData))) (o : List Ct)
  | no
def P.bind {α β : Type} (m : P α) (k : α → P β) : P β := match m with
  | .ok a => k a
  | .ex c f o => .ex c f o
  | .no => .no
def P.nox {α : Type} (m : P α) : P α := match m with
  | .ok a => .ok a
  | _ => .no
def P.mapx {α : Type} (g : List Ct → List Ct) (m : P α) : P α := match m with
  | .ok a => .ok a
  | .ex c f o => .ex c f (g o)
  | .no => .no
theorem P.bind_ok {α β : Type} {a : α} {k : α → P β} : (P.ok a).bind k = k a := rfl
theorem P.bind_ex {α β : Type} {c f o} {k : α → P β} : (P.ex c f o).bind k = .ex c f o := rfl
theorem P.bind_no {α β : Type} {k : α → P β} : (P.no : P α).bind k = .no := rfl
theorem P.nox_ok {α : Type} {a : α} : (P.ok a).nox = .ok a := rfl
theorem P.mapx_ok {α : Type} {a : α} {g} : (P.ok a).mapx g = .ok a := rfl
theorem P.mapx_ex {α : Type} {c f o g} : (P.ex c f o : P α).mapx g = .ex c f (g o) := rfl
theorem P.bind_assoc {α β γ : Type} {m : P α} {k : α → P β} {n : β → P γ} : (m.bind k).bind n = m.bind fun a => (k a).bind n := by cases m <;> rfl
theorem P.bind_okR {α : Type} {m : P α} : m.bind P.ok = m := by cases m <;> rfl
abbrev Cs := List (Option Sl)
def unlk : Sl → Bool
  | .nv (some _) => false
  | .ct .ro _ _ => false
  | .ct _ l _ => !l
  | _ => true
def Fit : Te → Cs → Prop
  | [], [] => True
  | t :: τ, some s :: cs => t = s ∧ Fit τ cs
  | t :: τ, none :: cs => unlk t = true ∧ Fit τ cs
  | _, _ => False
theorem Fit.at_ : ∀ {τ : Te} {cs : Cs} {i : Nat} {s : Sl}, Fit τ cs → cs[i]? = some (some s) → τ[i]? = some s
  | [], [], _, _, _, e => by simp at e
  | [], some _ :: _, _, _, h, _ => h.elim
  | [], none :: _, _, _, h, _ => h.elim
  | _ :: _, [], _, _, h, _ => h.elim
  | t :: τ, some u :: cs, 0, s, h, e => by
    cases e
    rw [h.1]
    rfl
  | t :: τ, none :: cs, 0, s, h, e => by cases e
  | t :: τ, some u :: cs, i + 1, s, h, e => by
    simpa using Fit.at_ (i := i) h.2 (by simpa using e)
  | t :: τ, none :: cs, i + 1, s, h, e => by
    simpa using Fit.at_ (i := i) h.2 (by simpa using e)
theorem Fit.jk : ∀ {τ : Te} {cs : Cs} {i : Nat}, Fit τ cs → cs[i]? = some none → ∃ t, τ[i]? = some t ∧ unlk t = true
  | [], [], _, _, e => by simp at e
  | [], some _ :: _, _, h, _ => h.elim
  | [], none :: _, _, h, _ => h.elim
  | _ :: _, [], _, h, _ => h.elim
  | t :: τ, some u :: cs, 0, h, e => by cases e
  | t :: τ, none :: cs, 0, h, e => ⟨t, rfl, h.1⟩
  | t :: τ, some u :: cs, i + 1, h, e => by
    obtain ⟨x, a, b⟩ := Fit.jk (i := i) h.2 (by simpa using e)
    exact ⟨x, by simpa using a, b⟩
  | t :: τ, none :: cs, i + 1, h, e => by
    obtain ⟨x, a, b⟩ := Fit.jk (i := i) h.2 (by simpa using e)
    exact ⟨x, by simpa using a, b⟩
theorem Fit.set : ∀ {τ : Te} {cs : Cs} {i : Nat} {s : Sl}, Fit τ cs → Fit (τ.set i s) (cs.set i (some s))
  | [], [], _, _, h => h
  | [], some _ :: _, _, _, h => h.elim
  | [], none :: _, _, _, h => h.elim
  | _ :: _, [], _, _, h => h.elim
  | t :: τ, some u :: cs, 0, s, h => ⟨rfl, h.2⟩
  | t :: τ, none :: cs, 0, s, h => ⟨rfl, h.2⟩
  | t :: τ, some u :: cs, i + 1, s, h => ⟨h.1, Fit.set (i := i) h.2⟩
  | t :: τ, none :: cs, i + 1, s, h => ⟨h.1, Fit.set (i := i) h.2⟩
theorem Fit.setN : ∀ {τ : Te} {cs : Cs} {i : Nat} {s : Sl}, unlk s = true → Fit τ cs → Fit (τ.set i s) (cs.set i none)
  | [], [], _, _, _, h => h
  | [], some _ :: _, _, _, _, h => h.elim
  | [], none :: _, _, _, _, h => h.elim
  | _ :: _, [], _, _, _, h => h.elim
  | t :: τ, some u :: cs, 0, s, k, h => ⟨k, h.2⟩
  | t :: τ, none :: cs, 0, s, k, h => ⟨k, h.2⟩
  | t :: τ, some u :: cs, i + 1, s, k, h => ⟨h.1, Fit.setN (i := i) k h.2⟩
  | t :: τ, none :: cs, i + 1, s, k, h => ⟨h.1, Fit.setN (i := i) k h.2⟩
theorem Fit.len : ∀ {τ : Te} {cs : Cs}, Fit τ cs → τ.length = cs.length
  | [], [], _ => rfl
  | [], some _ :: _, h => h.elim
  | [], none :: _, h => h.elim
  | _ :: _, [], h => h.elim
  | t :: τ, some u :: cs, h => by simp [Fit.len h.2]
  | t :: τ, none :: cs, h => by simp [Fit.len h.2]
/-- less is known -/
inductive Wk : Cs → Cs → Prop where
  | nil : Wk [] []
  | sm {c : Option Sl} {cs ds : Cs} (h : Wk cs ds) : Wk (c :: cs) (c :: ds)
  | jk {s : Sl} {cs ds : Cs} (e : unlk s = true) (h : Wk cs ds) : Wk (some s :: cs) (none :: ds)
theorem Wk.refl : ∀ cs : Cs, Wk cs cs
  | [] => .nil
  | _ :: cs => .sm (Wk.refl cs)
theorem Fit.wk : ∀ {τ : Te} {cs ds : Cs}, Fit τ cs → Wk cs ds → Fit τ ds
  | [], [], _, _, w => by
    cases w
    trivial
  | [], some _ :: _, _, h, _ => h.elim
  | [], none :: _, _, h, _ => h.elim
  | _ :: _, [], _, h, _ => h.elim
  | t :: τ, some u :: cs, _, h, w => by
    cases w with
    | sm w => exact ⟨h.1, Fit.wk h.2 w⟩
    | jk e w =>
      refine ⟨?_, Fit.wk h.2 w⟩
      rw [h.1]
      exact e
  | t :: τ, none :: cs, _, h, w => by
    cases w with
    | sm w => exact ⟨h.1, Fit.wk h.2 w⟩
/-! ### one step -/
section
variable {α β γ δ : Type}
def Sm (r : Res β) (m : P α) (v : α → β) (t : α → Cs) (es : List Ct → Cs) : Prop := match m with
  | .ok a => ∃ τ', r = .ok (v a) τ' ∧ Fit τ' (t a)
  | .ex c f o => ∃ τ', r = .exc c f τ' ∧ Fit τ' (es o)
  | .no => True
def SG (F : Te → Res β) (cs : Cs) (m : P α) (v : α → β) (t : α → Cs) (es : List Ct → Cs) : Prop := ∀ τ, Fit τ cs → Sm (F τ) m v t es
variable {r : Res β} {k : β → Te → Res δ} {m m' : P α} {n : α → P γ} {v : α → β} {t : α → Cs} {es : List Ct → Cs} {w : γ → δ} {u : γ → Cs} {F : Te → Res β} {cs ds : Cs}
theorem Sm.bind (h : Sm r m v t es) (q : ∀ a τ', Fit τ' (t a) → Sm (k (v a) τ') (n a) w u es) : Sm (r.bind k) (m.bind n) w u es := by
  cases m with
  | ok a =>
    obtain ⟨τ', e, f⟩ := h
    rw [e]
    exact q a τ' f
  | ex c f o =>
    obtain ⟨τ', e, f⟩ := h
    rw [e]
    exact ⟨τ', rfl, f⟩
  | no => trivial
theorem Sm.ok {b : β} {τ : Te} {a : α} (e : v a = b) (f : Fit τ (t a)) : Sm (.ok b τ) (.ok a) v t es := ⟨τ, by rw [e], f⟩
theorem SG.conv {v' : α → β} {t' : α → Cs} (h : SG F cs m' v' t' es) (e1 : m' = m) (e2 : v' = v) (e3 : t' = t) : SG F cs m v t es := by
  subst e1 e2 e3
  exact h
theorem SG.pre (h : SG F ds m v t es) (w : Wk cs ds) : SG F cs m v t es := fun τ f => h τ (f.wk w)
theorem SG.ct {t' : α → Cs} (h : SG F cs m v t es) (e : ∀ a, t a = t' a) : SG F cs m v t' es := by
  have : t = t' := funext e
  subst this
  exact h
/-- the result told otherwise -/
theorem SG.wk {v' : γ → β} {t' : γ → Cs} (f : α → γ) (h : SG F cs m v t es) (hv : ∀ a, v' (f a) = v a) (ht : ∀ a, Wk (t a) (t' (f a))) : SG F cs (m.bind fun a => .ok (f a)) v' t' es := fun τ z => by
  have q := h τ z
  cases m with
  | ok a =>
    obtain ⟨τ', e, i⟩ := q
    exact ⟨τ', by rw [e, hv], i.wk (ht a)⟩
  | ex c f o => exact q
  | no => trivial
end
/-! ### what stands in slots -/
def lookC (cs : Cs) : RV → Option PyData
  | .val d => some d
  | .tmp (.L ds) => some (.list ds)
  | .tmp _ => none
  | .slot i => match cs[i]? with
    | some (some (.sh d)) => some d
    | some (some (.ct _ _ (.L ds))) => some (.list ds)
    | _ => none
theorem lookC_ok {τ : Te} {cs : Cs} {r : RV} {d : PyData} (h : Fit τ cs) (e : lookC cs r = some d) : look τ r = some d := by
  cases r with
  | val x => exact e
  | tmp c => cases c <;> exact e
  | slot i =>
    unfold lookC at e
    dsimp only at e
    split at e
    · rename_i x q
      cases e
      unfold look
      dsimp only
      rw [h.at_ q]
    · rename_i x q
      cases e
      unfold look
      dsimp only
      rw [h.at_ q]
    · cases e
def holdC : RV → Option RV
  | .tmp (.L ds) => some (.val (.list ds))
  | .tmp _ => none
  | r => some r
theorem holdC_ok {τ : Te} {r r' : RV} (e : holdC r = some r') : hold r τ = .ok r' τ := by
  cases r with
  | val d =>
    cases e
    rfl
  | slot i =>
    cases e
    rfl
  | tmp c =>
    cases c <;> first | (cases e; rfl) | cases e
def frzC (cs : Cs) : RV → Option (PyData × Cs)
  | .val d => some (d, cs)
  | .tmp _ => none
  | .slot i => match cs[i]? with
    | some (some (.sh d)) => some (d, cs)
    | some (some (.ct .ow false (.L ds))) => some (.list ds, cs.set i (some (.sh (.list ds))))
    | _ => none
theorem frzC_ok {τ : Te} {cs cs' : Cs} {r : RV} {d : PyData} (h : Fit τ cs) (e : frzC cs r = some (d, cs')) : ∃ τ', frz1 r τ = some (d, τ') ∧ Fit τ' cs' := by
  cases r with
  | val x =>
    cases e
    exact ⟨τ, rfl, h⟩
  | tmp c => cases e
  | slot i =>
    unfold frzC at e
    dsimp only at e
    split at e
    · rename_i x q
      cases e
      refine ⟨τ, ?_, h⟩
      unfold frz1
      dsimp only
      rw [h.at_ q]
    · rename_i x q
      cases e
      refine ⟨τ.set i (.sh (.list x)), ?_, h.set⟩
      unfold frz1
      dsimp only
      rw [h.at_ q]
    · cases e
def frzsC (cs : Cs) : List RV → Option (List PyData × Cs)
  | [] => some ([], cs)
  | r :: rs => match frzC cs r with
    | some (d, cs1) => match frzsC cs1 rs with
      | some (ds, cs2) => some (d :: ds, cs2)
      | none => none
    | none => none
theorem frzsC_ok : ∀ {rs : List RV} {τ : Te} {cs cs' : Cs} {ds : List PyData}, Fit τ cs → frzsC cs rs = some (ds, cs') → ∃ τ', frzs τ rs = some (ds, τ') ∧ Fit τ' cs'
  | [], τ, cs, cs', ds, h, e => by
    cases e
    exact ⟨τ, rfl, h⟩
  | r :: rs, τ, cs, cs', ds, h, e => by
    unfold frzsC at e
    split at e
    · rename_i d c1 q
      obtain ⟨τ1, e1, f1⟩ := frzC_ok h q
      split at e
      · rename_i es c2 q2
        cases e
        obtain ⟨τ2, e2, f2⟩ := frzsC_ok f1 q2
        refine ⟨τ2, ?_, f2⟩
        unfold frzs
        rw [e1]
        dsimp only
        rw [e2]
      · cases e
    · cases e
def looksC (cs : Cs) : List RV → Option (List PyData)
  | [] => some []
  | r :: rs => match lookC cs r, looksC cs rs with
    | some d, some ds => some (d :: ds)
    | _, _ => none
theorem looksC_ok : ∀ {rs : List RV} {τ : Te} {cs : Cs} {ds : List PyData}, Fit τ cs → looksC cs rs = some ds → looks τ rs = some ds
  | [], τ, cs, ds, h, e => by
    cases e
    rfl
  | r :: rs, τ, cs, ds, h, e => by
    unfold looksC at e
    split at e
    · rename_i d es q1 q2
      cases e
      unfold looks
      rw [lookC_ok h q1, looksC_ok h q2]
    · cases e
def freeC (cs : Cs) (i : Nat) : Bool := match cs[i]? with
  | some none => true
  | some (some s) => !isLk (some s)
  | none => true
theorem unlk_lk {t : Sl} (h : unlk t = true) : isLk (some t) = false := by
  cases t with
  | nv x => rfl
  | sh d => rfl
  | ct k l c =>
    cases k with
    | ro => cases h
    | ow =>
      unfold unlk at h
      unfold isLk
      simpa using h
    | io =>
      unfold unlk at h
      unfold isLk
      simpa using h
theorem freeC_ok {τ : Te} {cs : Cs} {i : Nat} (h : Fit τ cs) (e : freeC cs i = true) : isLk τ[i]? = false := by
  unfold freeC at e
  split at e
  · rename_i q
    obtain ⟨t, a, b⟩ := h.jk q
    rw [a]
    exact unlk_lk b
  · rename_i s q
    rw [h.at_ q]
    simpa using e
  · rename_i q
    have l := h.len
    have : τ[i]? = none := by
      rw [List.getElem?_eq_none_iff] at q ⊢
      omega
    rw [this]
    rfl
def stoC (i : Nat) (r : RV) (cs : Cs) : Option Cs :=
  if freeC cs i = true then match r with
  | .val d => some (cs.set i (some (.sh d)))
  | .tmp c => some (cs.set i (some (.ct .ow false c)))
  | .slot j => match cs[j]? with
    | some (some (.sh d)) => some (cs.set i (some (.sh d)))
    | some (some (.ct .ow false (.L ds))) => some ((cs.set j (some (.sh (.list ds)))).set i (some (.sh (.list ds))))
    | _ => none
  else none
theorem stoC_ok {τ : Te} {cs cs' : Cs} {i : Nat} {r : RV} (h : Fit τ cs) (e : stoC i r cs = some cs') : ∃ τ', sto i r τ = some τ' ∧ Fit τ' cs' := by
  unfold stoC at e
  split at e
  · rename_i q
    have lk := freeC_ok h q
    unfold sto
    rw [lk]
    cases r with
    | val d =>
      cases e
      exact ⟨_, rfl, h.set⟩
    | tmp c =>
      cases e
      exact ⟨_, rfl, h.set⟩
    | slot j =>
      dsimp only at e ⊢
      split at e
      · rename_i d q2
        cases e
        rw [h.at_ q2]
        exact ⟨_, rfl, h.set⟩
      · rename_i ds q2
        cases e
        rw [h.at_ q2]
        exact ⟨_, rfl, h.set.set⟩
      · cases e
  · cases e
def movC (cs : Cs) : RV → Option (RV × Cs)
  | .val d => some (.val d, cs)
  | .tmp c => some (.tmp c, cs)
  | .slot i => match cs[i]? with
    | some (some (.sh d)) => some (.val d, cs)
    | some (some (.ct .ow false c)) => some (.tmp c, cs.set i none)
    | _ => none
theorem movC_ok {τ : Te} {cs cs' : Cs} {r r' : RV} (h : Fit τ cs) (e : movC cs r = some (r', cs')) : ∃ τ', movS τ r = .ok (.rt r') τ' ∧ Fit τ' cs' := by
  cases r with
  | val d =>
    cases e
    exact ⟨τ, rfl, h⟩
  | tmp c =>
    cases e
    exact ⟨τ, rfl, h⟩
  | slot i =>
    unfold movC at e
    dsimp only at e
    split at e
    · rename_i d q
      cases e
      refine ⟨τ, ?_, h⟩
      unfold movS
      dsimp only
      rw [h.at_ q]
    · rename_i c q
      cases e
      refine ⟨τ.set i .no, ?_, h.setN rfl⟩
      unfold movS
      dsimp only
      rw [h.at_ q]
    · cases e
def ownC (cs : Cs) (i : Nat) : Option (Kd × List PyData) := match cs[i]? with
  | some (some (.ct .ow false (.L ds))) => some (.ow, ds)
  | some (some (.ct .io false (.L ds))) => some (.io, ds)
  | _ => none
theorem ownC_ok {τ : Te} {cs : Cs} {i : Nat} {x : Kd × List PyData} (h : Fit τ cs) (e : ownC cs i = some x) : ownL τ i = some x := by
  unfold ownC at e
  split at e
  · rename_i q
    cases e
    unfold ownL
    rw [h.at_ q]
  · rename_i q
    cases e
    unfold ownL
    rw [h.at_ q]
  · cases e
end U
end

section
set_option Elab.async false
set_option linter.all false
set_option maxRecDepth 100000
set_option maxHeartbeats 2000000
/-! U2: expressions. -/
namespace U
open PySem PySem.Spec PyProof.Rows L2 Z T
def O.p : O → P PyData
  | .v d => .ok d
  | .t ds => .ok (.tuple ds)
  | _ => .no
def O.pl : O → P (List PyData)
  | .l ds => .ok ds
  | _ => .no
def optP {α : Type} : Option α → P α
  | some a => .ok a
  | none => .no
def asB : PyData → P Bool
  | .bool b => .ok b
  | _ => .no
def asI : PyData → P Int
  | .int b => .ok b
  | _ => .no
def asS : PyData → P Str
  | .str b => .ok b
  | _ => .no
def asL : PyData → P (List PyData)
  | .list b => .ok b
  | _ => .no
def Fin {ρ : Type} (fin : O → P ρ) (vf : ρ → RV) : Prop := ∀ (o : O) (τ : Te) (cs : Cs) (es : List Ct → Cs), Fit τ cs → Sm (o.res τ) (fin o) vf (fun _ => cs) es
theorem finV : Fin O.p RV.val := fun o τ cs es h => by
  cases o with
  | v d => exact ⟨τ, rfl, h⟩
  | t ds => exact ⟨τ, rfl, h⟩
  | l ds => trivial
  | no => trivial
theorem finL : Fin O.pl (fun ds => RV.tmp (.L ds)) := fun o τ cs es h => by
  cases o with
  | l ds => exact ⟨τ, rfl, h⟩
  | t ds => trivial
  | v ds => trivial
  | no => trivial
section
variable {α β γ δ ρ : Type} {cs : Cs} {es : List Ct → Cs} {i : Nat} {d : PyData}
/-- a result at the end with what else has come -/
theorem Sm.pk {r : Res β} {m : P α} {v : α → β} {t : α → Cs} (h : Sm r m v t es) {f : α → γ} {v' : γ → β} {t' : γ → Cs} (hv : ∀ a, v' (f a) = v a) (ht : ∀ a, t' (f a) = t a) : Sm r (m.bind fun a => .ok (f a)) v' t' es := by
  cases m with
  | ok a =>
    obtain ⟨τ', e, i⟩ := h
    exact ⟨τ', by rw [e, hv], by rw [ht]; exact i⟩
  | ex c f o => exact h
  | no => trivial
theorem a_sh (h : cs[i]? = some (some (.sh d))) : SG (fVar i) cs (.ok ()) (fun _ => RV.val d) (fun _ => cs) es := fun τ f => by
  unfold fVar
  rw [f.at_ h]
  exact ⟨τ, rfl, f⟩
theorem a_sl {k : Kd} {l : Bool} {c : Ct} (h : cs[i]? = some (some (.ct k l c))) : SG (fVar i) cs (.ok ()) (fun _ => RV.slot i) (fun _ => cs) es := fun τ f => by
  unfold fVar
  rw [f.at_ h]
  exact ⟨τ, rfl, f⟩
theorem a_c : SG (fC d) cs (.ok ()) (fun _ => RV.val d) (fun _ => cs) es := fun τ f => ⟨τ, rfl, f⟩
variable {Fa Fb Fc : FE} {A : FA} {ma : P α} {va wa : α → RV} {ta : α → Cs} {mb : α → P β} {vb : α → β → RV} {tb : α → β → Cs} {fin : O → P ρ} {vf : ρ → RV} {v : γ → RV} {t : γ → Cs}
theorem e_opE (hf : Fin fin vf) (pk : α → β → ρ → γ) {g : PyData → PyData → O} {da db : α → β → PyData} (ha : SG Fa cs ma va ta es) (hh : ∀ a, holdC (va a) = some (wa a)) (hb : ∀ a, SG Fb (ta a) (mb a) (vb a) (tb a) es)
    (la : ∀ a b, lookC (tb a b) (wa a) = some (da a b)) (lb : ∀ a b, lookC (tb a b) (vb a b) = some (db a b)) (hv : ∀ a b r, v (pk a b r) = vf r) (ht : ∀ a b r, t (pk a b r) = tb a b) :
    SG (fOp g Fa Fb) cs (ma.bind fun a => (mb a).bind fun b => (fin (g (da a b) (db a b))).bind fun r => .ok (pk a b r)) v t es := fun τ f =>
  (ha τ f).bind fun a τ1 f1 => by
    rw [holdC_ok (hh a)]
    exact (hb a τ1 f1).bind fun b τ2 f2 => by
      rw [lookC_ok f2 (la a b), lookC_ok f2 (lb a b)]
      exact (hf _ τ2 _ es f2).pk (hv a b) (ht a b)
theorem e_op (hf : Fin fin vf) {g : PyData → PyData → O} {mb : P β} {vb : β → RV} {da : α → PyData} {db : β → PyData} (ha : SG Fa cs ma va (fun _ => cs) es) (hh : ∀ a, holdC (va a) = some (wa a)) (hb : SG Fb cs mb vb (fun _ => cs) es)
    (la : ∀ a, lookC cs (wa a) = some (da a)) (lb : ∀ b, lookC cs (vb b) = some (db b)) :
    SG (fOp g Fa Fb) cs (ma.bind fun a => mb.bind fun b => fin (g (da a) (db b))) vf (fun _ => cs) es := fun τ f =>
  (ha τ f).bind fun a τ1 f1 => by
    rw [holdC_ok (hh a)]
    exact (hb τ1 f1).bind fun b τ2 f2 => by
      rw [lookC_ok f2 (la a), lookC_ok f2 (lb b)]
      exact hf _ τ2 _ es f2
theorem e_unE (hf : Fin fin vf) (pk : α → ρ → γ) {g : PyData → O} {da : α → PyData} (ha : SG Fa cs ma va ta es) (la : ∀ a, lookC (ta a) (va a) = some (da a)) (hv : ∀ a r, v (pk a r) = vf r) (ht : ∀ a r, t (pk a r) = ta a) :
    SG (fUn g Fa) cs (ma.bind fun a => (fin (g (da a))).bind fun r => .ok (pk a r)) v t es := fun τ f =>
  (ha τ f).bind fun a τ1 f1 => by
    rw [lookC_ok f1 (la a)]
    exact (hf _ τ1 _ es f1).pk (hv a) (ht a)
theorem e_un (hf : Fin fin vf) {g : PyData → O} {da : α → PyData} (ha : SG Fa cs ma va (fun _ => cs) es) (la : ∀ a, lookC cs (va a) = some (da a)) :
    SG (fUn g Fa) cs (ma.bind fun a => fin (g (da a))) vf (fun _ => cs) es := fun τ f =>
  (ha τ f).bind fun a τ1 f1 => by
    rw [lookC_ok f1 (la a)]
    exact hf _ τ1 _ es f1
/-! arguments -/
theorem aa_nil : SG fNil cs (.ok ()) (fun _ => []) (fun _ => cs) es := fun τ f => ⟨τ, rfl, f⟩
theorem aa_cons {vb : α → β → List RV} (ha : SG Fa cs ma va ta es) (hh : ∀ a, holdC (va a) = some (wa a)) (hb : ∀ a, SG A (ta a) (mb a) (vb a) (tb a) es) :
    SG (fCons Fa A) cs (ma.bind fun a => (mb a).bind fun b => .ok (a, b)) (fun x => wa x.1 :: vb x.1 x.2) (fun x => tb x.1 x.2) es := fun τ f =>
  (ha τ f).bind fun a τ1 f1 => by
    rw [holdC_ok (hh a)]
    exact (hb a τ1 f1).bind fun b τ2 f2 => ⟨τ2, rfl, f2⟩
theorem aa_consP {mb : P β} {vb : β → List RV} (ha : SG Fa cs ma va (fun _ => cs) es) (hh : ∀ a, holdC (va a) = some (wa a)) (hb : SG A cs mb vb (fun _ => cs) es) :
    SG (fCons Fa A) cs (ma.bind fun a => mb.bind fun b => .ok (a, b)) (fun x => wa x.1 :: vb x.2) (fun _ => cs) es := fun τ f =>
  (ha τ f).bind fun a τ1 f1 => by
    rw [holdC_ok (hh a)]
    exact (hb τ1 f1).bind fun b τ2 f2 => ⟨τ2, rfl, f2⟩
variable {mA : P α} {vA : α → List RV} {tA : α → Cs} {ds : α → List PyData} {t2 : α → Cs}
theorem e_cbE (hf : Fin fin vf) (pk : α → ρ → γ) {g : List PyData → O} (hA : SG A cs mA vA tA es) (hl : ∀ a, looksC (tA a) (vA a) = some (ds a)) (hv : ∀ a r, v (pk a r) = vf r) (ht : ∀ a r, t (pk a r) = tA a) :
    SG (fCB g A) cs (mA.bind fun a => (fin (g (ds a))).bind fun r => .ok (pk a r)) v t es := fun τ f =>
  (hA τ f).bind fun a τ1 f1 => by
    rw [looksC_ok f1 (hl a)]
    exact (hf _ τ1 _ es f1).pk (hv a) (ht a)
theorem e_cb (hf : Fin fin vf) {g : List PyData → O} (hA : SG A cs mA vA (fun _ => cs) es) (hl : ∀ a, looksC cs (vA a) = some (ds a)) :
    SG (fCB g A) cs (mA.bind fun a => fin (g (ds a))) vf (fun _ => cs) es := fun τ f =>
  (hA τ f).bind fun a τ1 f1 => by
    rw [looksC_ok f1 (hl a)]
    exact hf _ τ1 _ es f1
theorem e_dispE (hf : Fin fin vf) (pk : α → ρ → γ) {g : List PyData → O} (hA : SG A cs mA vA tA es) (hl : ∀ a, frzsC (tA a) (vA a) = some (ds a, t2 a)) (hv : ∀ a r, v (pk a r) = vf r) (ht : ∀ a r, t (pk a r) = t2 a) :
    SG (fDisp g A) cs (mA.bind fun a => (fin (g (ds a))).bind fun r => .ok (pk a r)) v t es := fun τ f =>
  (hA τ f).bind fun a τ1 f1 => by
    obtain ⟨τ2, e, f2⟩ := frzsC_ok f1 (hl a)
    rw [e]
    exact (hf _ τ2 _ es f2).pk (hv a) (ht a)
theorem e_disp (hf : Fin fin vf) {g : List PyData → O} (hA : SG A cs mA vA (fun _ => cs) es) (hl : ∀ a, frzsC cs (vA a) = some (ds a, cs)) :
    SG (fDisp g A) cs (mA.bind fun a => fin (g (ds a))) vf (fun _ => cs) es := fun τ f =>
  (hA τ f).bind fun a τ1 f1 => by
    obtain ⟨τ2, e, f2⟩ := frzsC_ok f1 (hl a)
    rw [e]
    exact hf _ τ2 _ es f2
theorem e_sm (hf : Fin fin vf) {g : Str → List PyData → O} {do_ : α → PyData} {ds : β → List PyData} {mb : P β} {vb : β → List RV} (ha : SG Fa cs ma va (fun _ => cs) es) (la : ∀ a, lookC cs (va a) = some (do_ a)) (hA : SG A cs mb vb (fun _ => cs) es) (hl : ∀ b, looksC cs (vb b) = some (ds b)) :
    SG (fSM g Fa A) cs (ma.bind fun a => (asS (do_ a)).bind fun z => mb.bind fun b => fin (g z (ds b))) vf (fun _ => cs) es := fun τ f =>
  (ha τ f).bind fun a τ1 f1 => by
    rw [lookC_ok f1 (la a)]
    cases q : do_ a with
    | str z =>
      exact (hA τ1 f1).bind fun b τ2 f2 => by
        rw [looksC_ok f2 (hl b)]
        exact hf _ τ2 _ es f2
    | _ => trivial
theorem e_smE (hf : Fin fin vf) {v : γ → RV} {t : γ → Cs} (pk : α → Str → β → ρ → γ) {g : Str → List PyData → O} {do_ : α → PyData} {ds : β → List PyData} {mb : P β} {vb : β → List RV} {tb : β → Cs} (ha : SG Fa cs ma va (fun _ => cs) es) (la : ∀ a, lookC cs (va a) = some (do_ a)) (hA : SG A cs mb vb tb es) (hl : ∀ b, looksC (tb b) (vb b) = some (ds b)) (hv : ∀ a z b r, v (pk a z b r) = vf r) (ht : ∀ a z b r, t (pk a z b r) = tb b) :
    SG (fSM g Fa A) cs (ma.bind fun a => (asS (do_ a)).bind fun z => mb.bind fun b => (fin (g z (ds b))).bind fun r => .ok (pk a z b r)) v t es := fun τ f =>
  (ha τ f).bind fun a τ1 f1 => by
    rw [lookC_ok f1 (la a)]
    cases q : do_ a with
    | str z =>
      exact (hA τ1 f1).bind fun b τ2 f2 => by
        rw [looksC_ok f2 (hl b)]
        exact (hf _ τ2 _ es f2).pk (hv a z b) (ht a z b)
    | _ => trivial
/-! parts of a slice -/
theorem o_none : SG fNoP cs (.ok ()) (fun _ => none) (fun _ => cs) es := fun τ f => ⟨τ, rfl, f⟩
theorem o_some {da : α → PyData} (ha : SG Fa cs ma va (fun _ => cs) es) (la : ∀ a, lookC cs (va a) = some (da a)) : SG (fPart Fa) cs (ma.bind fun a => asI (da a)) some (fun _ => cs) es := fun τ f =>
  (ha τ f).bind fun a τ1 f1 => by
    rw [lookC_ok f1 (la a)]
    cases da a with
    | int z => exact ⟨τ1, rfl, f1⟩
    | _ => trivial
theorem o_someE (pk : α → Int → γ) {v : γ → Option Int} {da : α → PyData} (ha : SG Fa cs ma va ta es) (la : ∀ a, lookC (ta a) (va a) = some (da a)) (hv : ∀ a r, v (pk a r) = some r) (ht : ∀ a r, t (pk a r) = ta a) : SG (fPart Fa) cs (ma.bind fun a => (asI (da a)).bind fun r => .ok (pk a r)) v t es := fun τ f =>
  (ha τ f).bind fun a τ1 f1 => by
    rw [lookC_ok f1 (la a)]
    cases da a with
    | int z => exact ⟨τ1, by rw [hv], by rw [ht]; exact f1⟩
    | _ => trivial
theorem e_sl {β' : Type} (hf : Fin fin vf) {Fl Fh : Te → Res (Option Int)} {ml : P β} {mh : P β'} {vl : β → Option Int} {vh : β' → Option Int} {da : α → PyData} (ha : SG Fa cs ma va (fun _ => cs) es) (hh : ∀ a, holdC (va a) = some (wa a)) (hl : SG Fl cs ml vl (fun _ => cs) es) (hu : SG Fh cs mh vh (fun _ => cs) es) (la : ∀ a, lookC cs (wa a) = some (da a)) :
    SG (fSl Fa Fl Fh) cs (ma.bind fun a => ml.bind fun b => mh.bind fun c => fin (pySl (da a) (vl b) (vh c))) vf (fun _ => cs) es := fun τ f =>
  (ha τ f).bind fun a τ1 f1 => by
    rw [holdC_ok (hh a)]
    exact (hl τ1 f1).bind fun b τ2 f2 => (hu τ2 f2).bind fun c τ3 f3 => by
      rw [lookC_ok f3 (la a)]
      exact hf _ τ3 _ es f3
theorem e_slE {β' : Type} (hf : Fin fin vf) (pk : α → β → β' → ρ → γ) {Fl Fh : Te → Res (Option Int)} {ml : α → P β} {mh : α → β → P β'} {vl : α → β → Option Int} {tl : α → β → Cs} {vh : α → β → β' → Option Int} {th : α → β → β' → Cs} {da : α → β → β' → PyData} (ha : SG Fa cs ma va ta es) (hh : ∀ a, holdC (va a) = some (wa a)) (hl : ∀ a, SG Fl (ta a) (ml a) (vl a) (tl a) es) (hu : ∀ a b, SG Fh (tl a b) (mh a b) (vh a b) (th a b) es) (la : ∀ a b c, lookC (th a b c) (wa a) = some (da a b c)) (hv : ∀ a b c r, v (pk a b c r) = vf r) (ht : ∀ a b c r, t (pk a b c r) = th a b c) :
    SG (fSl Fa Fl Fh) cs (ma.bind fun a => (ml a).bind fun b => (mh a b).bind fun c => (fin (pySl (da a b c) (vl a b) (vh a b c))).bind fun r => .ok (pk a b c r)) v t es := fun τ f =>
  (ha τ f).bind fun a τ1 f1 => by
    rw [holdC_ok (hh a)]
    exact (hl a τ1 f1).bind fun b τ2 f2 => (hu a b τ2 f2).bind fun c τ3 f3 => by
      rw [lookC_ok f3 (la a b c)]
      exact (hf _ τ3 _ es f3).pk (hv a b c) (ht a b c)
/-! writes to lists -/
def appP (ds : List PyData) (d : PyData) : P (List PyData) := if ds.length < 100000 then .ok (ds ++ [d]) else .no
def extP (ds es : List PyData) : P (List PyData) := if ds.length + es.length ≤ 100000 then .ok (ds ++ es) else .no
def popP (ds : List PyData) : P (PyData × List PyData) := match ds[ds.length - 1]? with
  | some d => if flat d = true then .ok (d, ds.dropLast) else .no
  | none => .no
def setP (ds : List PyData) (k : Int) (d : PyData) : P (List PyData) := match ixN ds.length k with
  | some n => .ok (ds.set n d)
  | none => .no
/-- a change of a list: what is told, what it is then -/
structure Mu {ρ : Type} (g : List PyData → List PyData → Option (List PyData × PyData)) (as : List PyData) (ds : List PyData) (m : P ρ) (vd : ρ → PyData) (vl : ρ → List PyData) : Prop where
  go : match m with
    | .ok r => g ds as = some (vl r, vd r) ∧ flat (vd r) = true
    | .ex _ _ _ => False
    | .no => True
theorem mu_app {ds : List PyData} {d : PyData} : Mu gApp [d] ds (appP ds d) (fun _ => .none) (fun r => r) := ⟨by
  unfold appP
  by_cases h : ds.length < 100000
  · rw [if_pos h]
    exact ⟨if_pos h, rfl⟩
  · rw [if_neg h]
    trivial⟩
theorem mu_ext {ds es : List PyData} : Mu gExt [.list es] ds (extP ds es) (fun _ => .none) (fun r => r) := ⟨by
  unfold extP
  by_cases h : ds.length + es.length ≤ 100000
  · rw [if_pos h]
    exact ⟨if_pos h, rfl⟩
  · rw [if_neg h]
    trivial⟩
theorem mu_extD {ds : List PyData} {d : PyData} : Mu gExt [d] ds ((asL d).bind fun es => extP ds es) (fun _ => .none) (fun r => r) := by
  cases d with
  | list es => exact mu_ext
  | _ => exact ⟨trivial⟩
theorem mu_rev {ds : List PyData} : Mu gRev [] ds (.ok ds.reverse : P (List PyData)) (fun _ => .none) (fun r => r) := ⟨⟨rfl, rfl⟩⟩
theorem mu_pop {ds : List PyData} : Mu gPop [] ds (popP ds) (fun r => r.1) (fun r => r.2) := ⟨by
  have e : ∀ o, ds[ds.length - 1]? = o → popP ds = match o with | some d => if flat d = true then .ok (d, ds.dropLast) else .no | none => .no := fun o h => by
    subst h
    rfl
  have e2 : ∀ o, ds[ds.length - 1]? = o → gPop ds [] = match o with | some d => some (ds.dropLast, d) | none => none := fun o h => by
    subst h
    rfl
  cases q : ds[ds.length - 1]? with
  | none =>
    rw [e _ q]
    trivial
  | some d =>
    rw [e _ q]
    dsimp only
    by_cases h : flat d = true
    · rw [if_pos h]
      exact ⟨e2 _ q, h⟩
    · rw [if_neg h]
      trivial⟩
theorem e_mutE {k0 : α → Kd} {dsl : α → List PyData} {g : List PyData → List PyData → Option (List PyData × PyData)} {mm : α → P ρ} {vd : α → ρ → PyData} {vl : α → ρ → List PyData} {kd0 : Kd × List PyData} (pk : α → ρ → γ) (h0 : ownC cs i = some kd0) (hA : SG A cs mA vA tA es) (hl : ∀ a, frzsC (tA a) (vA a) = some (ds a, t2 a)) (h1 : ∀ a, ownC (t2 a) i = some (k0 a, dsl a)) (hm : ∀ a, Mu g (ds a) (dsl a) (mm a) (vd a) (vl a))
    (hv : ∀ a r, v (pk a r) = .val (vd a r)) (ht : ∀ a r, t (pk a r) = (t2 a).set i (some (.ct (k0 a) false (.L (vl a r))))) :
    SG (fMut i g A) cs (mA.bind fun a => (mm a).bind fun r => .ok (pk a r)) v t es := fun τ f => by
  unfold fMut
  rw [ownC_ok f h0]
  refine (hA τ f).bind fun a τ1 f1 => ?_
  obtain ⟨τ2, e, f2⟩ := frzsC_ok f1 (hl a)
  rw [e]
  dsimp only
  rw [ownC_ok f2 (h1 a)]
  dsimp only
  have q := (hm a).go
  cases e : mm a with
  | ok r =>
    rw [e] at q
    obtain ⟨q1, q2⟩ := q
    rw [q1]
    dsimp only
    rw [if_pos q2]
    exact ⟨_, by rw [hv], by rw [ht]; exact f2.set⟩
  | ex c f o =>
    rw [e] at q
    exact q.elim
  | no => trivial
/-! truth -/
theorem t_testE (pk : α → Bool → γ) {v : γ → Bool} {da : α → PyData} (ha : SG Fa cs ma (fun a => .val (da a)) ta es) (hv : ∀ a r, v (pk a r) = r) (ht : ∀ a r, t (pk a r) = ta a) : SG (fTest Fa) cs (ma.bind fun a => (asB (da a)).bind fun r => .ok (pk a r)) v t es := fun τ f =>
  (ha τ f).bind fun a τ1 f1 => by
    cases da a with
    | bool z => exact ⟨τ1, by rw [hv], by rw [ht]; exact f1⟩
    | _ => trivial
theorem t_test {da : α → PyData} (ha : SG Fa cs ma (fun a => .val (da a)) (fun _ => cs) es) : SG (fTest Fa) cs (ma.bind fun a => asB (da a)) (fun b => b) (fun _ => cs) es := fun τ f =>
  (ha τ f).bind fun a τ1 f1 => by
    cases da a with
    | bool z => exact ⟨τ1, rfl, f1⟩
    | _ => trivial
theorem t_truE (pk : α → Bool → γ) {v : γ → Bool} {da : α → PyData} (ha : SG Fa cs ma va ta es) (la : ∀ a, lookC (ta a) (va a) = some (da a)) (hv : ∀ a r, v (pk a r) = r) (ht : ∀ a r, t (pk a r) = ta a) : SG (fTru Fa) cs (ma.bind fun a => (optP (pyTruth (da a))).bind fun r => .ok (pk a r)) v t es := fun τ f =>
  (ha τ f).bind fun a τ1 f1 => by
    rw [lookC_ok f1 (la a)]
    show Sm (match pyTruth (da a) with | some b => Res.ok b τ1 | none => .stuck) _ _ _ _
    cases pyTruth (da a) with
    | some b => exact ⟨τ1, by rw [hv], by rw [ht]; exact f1⟩
    | none => trivial
theorem t_tru {da : α → PyData} (ha : SG Fa cs ma va (fun _ => cs) es) (la : ∀ a, lookC cs (va a) = some (da a)) : SG (fTru Fa) cs (ma.bind fun a => optP (pyTruth (da a))) (fun b => b) (fun _ => cs) es := fun τ f =>
  (ha τ f).bind fun a τ1 f1 => by
    rw [lookC_ok f1 (la a)]
    show Sm (match pyTruth (da a) with | some b => Res.ok b τ1 | none => .stuck) _ _ _ _
    cases pyTruth (da a) with
    | some b => exact ⟨τ1, rfl, f1⟩
    | none => trivial
variable {Ta Tb : FT} {xa : α → Bool} {xb : α → β → Bool}
theorem t_notE (pk : α → γ) {v : γ → Bool} (ha : SG Ta cs ma xa ta es) (hv : ∀ a, v (pk a) = !xa a) (ht : ∀ a, t (pk a) = ta a) : SG (fNotT Ta) cs (ma.bind fun a => .ok (pk a)) v t es := fun τ f =>
  (ha τ f).bind fun a τ1 f1 => ⟨τ1, by rw [hv], by rw [ht]; exact f1⟩
theorem t_not {m : P Bool} (ha : SG Ta cs m (fun b => b) (fun _ => cs) es) : SG (fNotT Ta) cs (m.bind fun a => .ok (!a)) (fun b => b) (fun _ => cs) es := fun τ f =>
  (ha τ f).bind fun a τ1 f1 => ⟨τ1, rfl, f1⟩
theorem t_andE {v : γ → Bool} (pk1 : α → γ) (pk2 : α → β → γ) (ha : SG Ta cs ma xa ta es) (hb : ∀ a, SG Tb (ta a) (mb a) (xb a) (tb a) es) (hv1 : ∀ a, v (pk1 a) = false) (ht1 : ∀ a, Wk (ta a) (t (pk1 a))) (hv2 : ∀ a b, v (pk2 a b) = xb a b) (ht2 : ∀ a b, Wk (tb a b) (t (pk2 a b))) :
    SG (fAndT Ta Tb) cs (ma.bind fun a => if xa a = true then (mb a).bind fun b => .ok (pk2 a b) else .ok (pk1 a)) v t es := fun τ f =>
  (ha τ f).bind fun a τ1 f1 => by
    by_cases c : xa a = true
    · rw [if_pos c, if_pos c]
      exact (SG.wk (pk2 a) (hb a) (hv2 a) (ht2 a)) τ1 f1
    · rw [if_neg c, if_neg c]
      exact ⟨τ1, by rw [hv1], f1.wk (ht1 a)⟩
theorem t_and {m n : P Bool} (ha : SG Ta cs m (fun b => b) (fun _ => cs) es) (hb : SG Tb cs n (fun b => b) (fun _ => cs) es) : SG (fAndT Ta Tb) cs (m.bind fun a => if a = true then n else .ok false) (fun b => b) (fun _ => cs) es := fun τ f =>
  (ha τ f).bind fun a τ1 f1 => by
    by_cases c : a = true
    · rw [if_pos c, if_pos c]
      exact hb τ1 f1
    · rw [if_neg c, if_neg c]
      exact ⟨τ1, rfl, f1⟩
theorem t_orE {v : γ → Bool} (pk1 : α → γ) (pk2 : α → β → γ) (ha : SG Ta cs ma xa ta es) (hb : ∀ a, SG Tb (ta a) (mb a) (xb a) (tb a) es) (hv1 : ∀ a, v (pk1 a) = true) (ht1 : ∀ a, Wk (ta a) (t (pk1 a))) (hv2 : ∀ a b, v (pk2 a b) = xb a b) (ht2 : ∀ a b, Wk (tb a b) (t (pk2 a b))) :
    SG (fOrT Ta Tb) cs (ma.bind fun a => if xa a = true then .ok (pk1 a) else (mb a).bind fun b => .ok (pk2 a b)) v t es := fun τ f =>
  (ha τ f).bind fun a τ1 f1 => by
    by_cases c : xa a = true
    · rw [if_pos c, if_pos c]
      exact ⟨τ1, by rw [hv1], f1.wk (ht1 a)⟩
    · rw [if_neg c, if_neg c]
      exact (SG.wk (pk2 a) (hb a) (hv2 a) (ht2 a)) τ1 f1
theorem t_or {m n : P Bool} (ha : SG Ta cs m (fun b => b) (fun _ => cs) es) (hb : SG Tb cs n (fun b => b) (fun _ => cs) es) : SG (fOrT Ta Tb) cs (m.bind fun a => if a = true then .ok true else n) (fun b => b) (fun _ => cs) es := fun τ f =>
  (ha τ f).bind fun a τ1 f1 => by
    by_cases c : a = true
    · rw [if_pos c, if_pos c]
      exact ⟨τ1, rfl, f1⟩
    · rw [if_neg c, if_neg c]
      exact hb τ1 f1
theorem t_yes : SG fYes cs (.ok true) (fun b => b) (fun _ => cs) es := fun τ f => ⟨τ, rfl, f⟩
/-! values and, or, not, if -/
theorem e_and {da : α → PyData} {db : β → PyData} {mb : P β} (ha : SG Fa cs ma (fun a => .val (da a)) (fun _ => cs) es) (hb : SG Fb cs mb (fun b => .val (db b)) (fun _ => cs) es) : SG (fAndV Fa Fb) cs (ma.bind fun a => (asB (da a)).bind fun c => if c = true then mb.bind fun b => .ok (db b) else .ok (.bool false)) RV.val (fun _ => cs) es := fun τ f =>
  (ha τ f).bind fun a τ1 f1 => by
    cases da a with
    | bool z =>
      show Sm (if z = true then Fb τ1 else .ok (.val (.bool false)) τ1) (if z = true then mb.bind fun b => .ok (db b) else .ok (.bool false)) _ _ _
      by_cases c : z = true
      · rw [if_pos c, if_pos c]
        exact (SG.wk db hb (fun _ => rfl) (fun _ => Wk.refl _)) τ1 f1
      · rw [if_neg c, if_neg c]
        exact ⟨τ1, rfl, f1⟩
    | _ => trivial
theorem e_or {da : α → PyData} {db : β → PyData} {mb : P β} (ha : SG Fa cs ma (fun a => .val (da a)) (fun _ => cs) es) (hb : SG Fb cs mb (fun b => .val (db b)) (fun _ => cs) es) : SG (fOrV Fa Fb) cs (ma.bind fun a => (asB (da a)).bind fun c => if c = true then .ok (.bool true) else mb.bind fun b => .ok (db b)) RV.val (fun _ => cs) es := fun τ f =>
  (ha τ f).bind fun a τ1 f1 => by
    cases da a with
    | bool z =>
      show Sm (if z = true then .ok (.val (.bool true)) τ1 else Fb τ1) (if z = true then .ok (.bool true) else mb.bind fun b => .ok (db b)) _ _ _
      by_cases c : z = true
      · rw [if_pos c, if_pos c]
        exact ⟨τ1, rfl, f1⟩
      · rw [if_neg c, if_neg c]
        exact (SG.wk db hb (fun _ => rfl) (fun _ => Wk.refl _)) τ1 f1
    | _ => trivial
theorem e_not {da : α → PyData} (ha : SG Fa cs ma (fun a => .val (da a)) (fun _ => cs) es) : SG (fNotV Fa) cs (ma.bind fun a => (asB (da a)).bind fun c => .ok (.bool !c)) RV.val (fun _ => cs) es := fun τ f =>
  (ha τ f).bind fun a τ1 f1 => by
    cases da a with
    | bool z => exact ⟨τ1, rfl, f1⟩
    | _ => trivial
/-- both branches told alike -/
theorem e_if {m1 m2 : α → P γ} (hT : SG Ta cs ma xa ta es) (ha : ∀ a, SG Fa (ta a) (m1 a) v t es) (hb : ∀ a, SG Fb (ta a) (m2 a) v t es) : SG (fIf Ta Fa Fb) cs (ma.bind fun a => if xa a = true then m1 a else m2 a) v t es := fun τ f =>
  (hT τ f).bind fun a τ1 f1 => by
    by_cases c : xa a = true
    · rw [if_pos c, if_pos c]
      exact ha a τ1 f1
    · rw [if_neg c, if_neg c]
      exact hb a τ1 f1
theorem e_isi {ty : Ty} {da : α → PyData} (ha : SG Fa cs ma va (fun _ => cs) es) (la : ∀ a, lookC cs (va a) = some (da a)) : SG (fIsi ty Fa) cs (ma.bind fun a => (optP (isTy ty (da a))).bind fun b => .ok (PyData.bool b)) RV.val (fun _ => cs) es := fun τ f =>
  (ha τ f).bind fun a τ1 f1 => by
    rw [lookC_ok f1 (la a)]
    show Sm (match isTy ty (da a) with | some b => Res.ok (RV.val (.bool b)) τ1 | none => .stuck) _ _ _ _
    cases isTy ty (da a) with
    | some b => exact ⟨τ1, rfl, f1⟩
    | none => trivial
end
end U
end

section
set_option Elab.async false
set_option linter.all false
set_option maxRecDepth 100000
set_option maxHeartbeats 2000000
/-! U3: what is walked, targets, statements, loops. -/
namespace U
open PySem PySem.Spec PyProof.Rows L2 Z T
section
variable {α β γ δ ρ : Type} {cs : Cs} {es : List Ct → Cs} {i : Nat} {d : PyData} {Fa Fb Fc : FE} {A : FA} {ma : P α} {va wa : α → RV} {ta : α → Cs} {mA : P α} {vA : α → List RV} {tA t2 : α → Cs} {ds : α → List PyData}
/-! ### what is walked -/
theorem i_anyE (pk : α → List PyData → γ) {v : γ → List PyData} {t : γ → Cs} {da : α → PyData} (ha : SG Fa cs ma va ta es) (hh : ∀ a, holdC (va a) = some (wa a)) (hf : ∀ a, frzC (ta a) (wa a) = some (da a, t2 a)) (hv : ∀ a r, v (pk a r) = r) (ht : ∀ a r, t (pk a r) = t2 a) :
    SG (fItems Fa) cs (ma.bind fun a => (optP (itemsOf (da a))).bind fun r => .ok (pk a r)) v t es := fun τ f =>
  (ha τ f).bind fun a τ1 f1 => by
    rw [holdC_ok (hh a)]
    obtain ⟨τ2, e, f2⟩ := frzC_ok f1 (hf a)
    show Sm (match frz1 (wa a) τ1 with
      | some (d, τ3) => match itemsOf d with
        | some ds => Res.ok ds τ3
        | none => .stuck
      | none => .stuck) _ _ _ _
    rw [e]
    dsimp only
    cases itemsOf (da a) with
    | some r => exact ⟨τ2, by rw [hv], by rw [ht]; exact f2⟩
    | none => trivial
theorem i_any {cs' : Cs} {da : α → PyData} (ha : SG Fa cs ma va (fun _ => cs) es) (hh : ∀ a, holdC (va a) = some (wa a)) (hf : ∀ a, frzC cs (wa a) = some (da a, cs')) :
    SG (fItems Fa) cs (ma.bind fun a => optP (itemsOf (da a))) (fun r => r) (fun _ => cs') es := fun τ f =>
  (ha τ f).bind fun a τ1 f1 => by
    rw [holdC_ok (hh a)]
    obtain ⟨τ2, e, f2⟩ := frzC_ok f1 (hf a)
    show Sm (match frz1 (wa a) τ1 with
      | some (d, τ3) => match itemsOf d with
        | some ds => Res.ok ds τ3
        | none => .stuck
      | none => .stuck) _ _ _ _
    rw [e]
    dsimp only
    cases itemsOf (da a) with
    | some r => exact ⟨τ2, rfl, f2⟩
    | none => trivial
def rg1P (d : PyData) : P (List PyData) := (asI d).bind fun j => if rgOk j = true then .ok (rgItems 0 j.toNat) else .no
def rg2P (d e : PyData) : P (List PyData) := (asI d).bind fun i => (asI e).bind fun j => if rgOk i = true ∧ rgOk j = true then .ok (rgItems i (j - i).toNat) else .no
def rg3P (d e c : PyData) : P (List PyData) := (asI d).bind fun i => (asI e).bind fun j => (asI c).bind fun c => if rgOk i = true ∧ rgOk j = true ∧ c = -1 then .ok (dnItems i (i - j).toNat) else .no
/-- a reading of arguments that changes nothing -/
def LI (k : Te → List RV → Res (List PyData)) (ds : List PyData) (m : P (List PyData)) : Prop := ∀ (τ : Te) (rs : List RV), looks τ rs = some ds → match m with
  | .ok r => k τ rs = .ok r τ
  | .ex _ _ _ => False
  | .no => True
theorem li_rg1 {x : PyData} : LI (fun τ1 rs => match looks τ1 rs with | some [.int j] => if rgOk j = true then .ok (rgItems 0 j.toNat) τ1 else .stuck | _ => .stuck) [x] (rg1P x) := fun τ rs h => by
  cases x with
  | int j =>
    show match (if rgOk j = true then P.ok (rgItems 0 j.toNat) else .no) with | .ok r => _ | .ex _ _ _ => False | .no => True
    by_cases c : rgOk j = true
    · rw [if_pos c]
      dsimp only
      rw [h]
      dsimp only
      rw [if_pos c]
    · rw [if_neg c]
      trivial
  | _ => trivial
theorem li_rg2 {x y : PyData} : LI (fun τ1 rs => match looks τ1 rs with | some [.int i, .int j] => if rgOk i = true ∧ rgOk j = true then .ok (rgItems i (j - i).toNat) τ1 else .stuck | _ => .stuck) [x, y] (rg2P x y) := fun τ rs h => by
  cases x with
  | int i =>
    cases y with
    | int j =>
      show match (if rgOk i = true ∧ rgOk j = true then P.ok (rgItems i (j - i).toNat) else .no) with | .ok r => _ | .ex _ _ _ => False | .no => True
      by_cases c : rgOk i = true ∧ rgOk j = true
      · rw [if_pos c]
        dsimp only
        rw [h]
        dsimp only
        rw [if_pos c]
      · rw [if_neg c]
        trivial
    | _ => trivial
  | _ => trivial
theorem li_rg3 {x y z : PyData} : LI (fun τ1 rs => match looks τ1 rs with | some [.int i, .int j, .int c] => if rgOk i = true ∧ rgOk j = true ∧ c = -1 then .ok (dnItems i (i - j).toNat) τ1 else .stuck | _ => .stuck) [x, y, z] (rg3P x y z) := fun τ rs h => by
  cases x with
  | int i =>
    cases y with
    | int j =>
      cases z with
      | int k =>
        show match (if rgOk i = true ∧ rgOk j = true ∧ k = -1 then P.ok (dnItems i (i - j).toNat) else .no) with | .ok r => _ | .ex _ _ _ => False | .no => True
        by_cases c : rgOk i = true ∧ rgOk j = true ∧ k = -1
        · rw [if_pos c]
          dsimp only
          rw [h]
          dsimp only
          rw [if_pos c]
        · rw [if_neg c]
          trivial
      | _ => trivial
    | _ => trivial
  | _ => trivial
theorem i_argE {k : Te → List RV → Res (List PyData)} {mi : α → P (List PyData)} (pk : α → List PyData → γ) {v : γ → List PyData} {t : γ → Cs} (hA : SG A cs mA vA tA es) (hl : ∀ a, looksC (tA a) (vA a) = some (ds a)) (hk : ∀ a, LI k (ds a) (mi a)) (hv : ∀ a r, v (pk a r) = r) (ht : ∀ a r, t (pk a r) = tA a) :
    SG (fun τ => (A τ).bind fun rs τ1 => k τ1 rs) cs (mA.bind fun a => (mi a).bind fun r => .ok (pk a r)) v t es := fun τ f =>
  (hA τ f).bind fun a τ1 f1 => by
    have q := hk a τ1 _ (looksC_ok f1 (hl a))
    cases e : mi a with
    | ok r =>
      rw [e] at q
      exact ⟨τ1, by rw [q, hv], by rw [ht]; exact f1⟩
    | ex c f o =>
      rw [e] at q
      exact q.elim
    | no => trivial
theorem i_arg {k : Te → List RV → Res (List PyData)} {mi : α → P (List PyData)} (hA : SG A cs mA vA (fun _ => cs) es) (hl : ∀ a, looksC cs (vA a) = some (ds a)) (hk : ∀ a, LI k (ds a) (mi a)) :
    SG (fun τ => (A τ).bind fun rs τ1 => k τ1 rs) cs (mA.bind fun a => mi a) (fun r => r) (fun _ => cs) es := fun τ f =>
  (hA τ f).bind fun a τ1 f1 => by
    have q := hk a τ1 _ (looksC_ok f1 (hl a))
    cases e : mi a with
    | ok r =>
      rw [e] at q
      exact ⟨τ1, q, f1⟩
    | ex c f o =>
      rw [e] at q
      exact q.elim
    | no => trivial
theorem i_rg1E {x_ : α → PyData} (pk : α → List PyData → γ) {v : γ → List PyData} {t : γ → Cs} (hA : SG A cs mA vA tA es) (hl : ∀ a, looksC (tA a) (vA a) = some [x_ a]) (hv : ∀ a r, v (pk a r) = r) (ht : ∀ a r, t (pk a r) = tA a) :
    SG (fRange1 A) cs (mA.bind fun a => (rg1P (x_ a)).bind fun r => .ok (pk a r)) v t es := i_argE pk hA hl (fun _ => li_rg1) hv ht
theorem i_rg1 {x_ : α → PyData} (hA : SG A cs mA vA (fun _ => cs) es) (hl : ∀ a, looksC cs (vA a) = some [x_ a]) :
    SG (fRange1 A) cs (mA.bind fun a => rg1P (x_ a)) (fun r => r) (fun _ => cs) es := i_arg hA hl fun _ => li_rg1
theorem i_rg2E {x_ : α → PyData} {y_ : α → PyData} (pk : α → List PyData → γ) {v : γ → List PyData} {t : γ → Cs} (hA : SG A cs mA vA tA es) (hl : ∀ a, looksC (tA a) (vA a) = some [x_ a, y_ a]) (hv : ∀ a r, v (pk a r) = r) (ht : ∀ a r, t (pk a r) = tA a) :
    SG (fRange2 A) cs (mA.bind fun a => (rg2P (x_ a) (y_ a)).bind fun r => .ok (pk a r)) v t es := i_argE pk hA hl (fun _ => li_rg2) hv ht
theorem i_rg2 {x_ : α → PyData} {y_ : α → PyData} (hA : SG A cs mA vA (fun _ => cs) es) (hl : ∀ a, looksC cs (vA a) = some [x_ a, y_ a]) :
    SG (fRange2 A) cs (mA.bind fun a => rg2P (x_ a) (y_ a)) (fun r => r) (fun _ => cs) es := i_arg hA hl fun _ => li_rg2
theorem i_rg3E {x_ : α → PyData} {y_ : α → PyData} {z_ : α → PyData} (pk : α → List PyData → γ) {v : γ → List PyData} {t : γ → Cs} (hA : SG A cs mA vA tA es) (hl : ∀ a, looksC (tA a) (vA a) = some [x_ a, y_ a, z_ a]) (hv : ∀ a r, v (pk a r) = r) (ht : ∀ a r, t (pk a r) = tA a) :
    SG (fRange3 A) cs (mA.bind fun a => (rg3P (x_ a) (y_ a) (z_ a)).bind fun r => .ok (pk a r)) v t es := i_argE pk hA hl (fun _ => li_rg3) hv ht
theorem i_rg3 {x_ : α → PyData} {y_ : α → PyData} {z_ : α → PyData} (hA : SG A cs mA vA (fun _ => cs) es) (hl : ∀ a, looksC cs (vA a) = some [x_ a, y_ a, z_ a]) :
    SG (fRange3 A) cs (mA.bind fun a => rg3P (x_ a) (y_ a) (z_ a)) (fun r => r) (fun _ => cs) es := i_arg hA hl fun _ => li_rg3
theorem i_list {cs' : Cs} {k : List PyData → List PyData} {da : α → PyData} (hA : SG A cs mA vA (fun _ => cs) es) (hl : ∀ a, frzsC cs (vA a) = some ([da a], cs')) :
    SG (fListArg A k) cs (mA.bind fun a => (asL (da a)).bind fun ds => .ok (k ds)) (fun r => r) (fun _ => cs') es := fun τ f =>
  (hA τ f).bind fun a τ1 f1 => by
    obtain ⟨τ2, e, f2⟩ := frzsC_ok f1 (hl a)
    show Sm (match frzs τ1 (vA a) with
      | some ([.list ds], τ2) => Res.ok (k ds) τ2
      | _ => .stuck) _ _ _ _
    rw [e]
    cases da a with
    | list r => exact ⟨τ2, rfl, f2⟩
    | _ => trivial
theorem i_rev {cs' : Cs} {da : α → PyData} (ha : SG Fa cs ma va (fun _ => cs) es) (hh : ∀ a, holdC (va a) = some (wa a)) (hf : ∀ a, frzC cs (wa a) = some (da a, cs')) :
    SG (fRev Fa) cs (ma.bind fun a => (asL (da a)).bind fun ds => .ok ds.reverse) (fun r => r) (fun _ => cs') es := fun τ f =>
  (ha τ f).bind fun a τ1 f1 => by
    rw [holdC_ok (hh a)]
    obtain ⟨τ2, e, f2⟩ := frzC_ok f1 (hf a)
    show Sm (match frz1 (wa a) τ1 with
      | some (.list ds, τ3) => Res.ok ds.reverse τ3
      | _ => .stuck) _ _ _ _
    rw [e]
    cases da a with
    | list r => exact ⟨τ2, rfl, f2⟩
    | _ => trivial
/-! ### targets -/
def GSm (g : FG) (cs : Cs) (d : PyData) (m : P α) (t : α → Cs) : Prop := ∀ τ, Fit τ cs → match m with
  | .ok a => ∃ τ', g d τ = some τ' ∧ Fit τ' (t a)
  | .ex _ _ _ => False
  | .no => True
def unN (n : Nat) : PyData → P (List PyData)
  | .tuple ds => if ds.length = n then .ok ds else .no
  | _ => .no
theorem g_n {k : Nat} (h : freeC cs k = true) : GSm (gN k) cs d (.ok ()) (fun _ => cs.set k (some (.sh d))) := fun τ f => by
  obtain ⟨τ', e, f'⟩ := stoC_ok (i := k) (r := .val d) f (by unfold stoC; rw [if_pos h])
  exact ⟨τ', e, f'⟩
/-- names one after another, by places of a list -/
def setAll : List Nat → Nat → List PyData → Cs → Cs
  | [], _, _, cs => cs
  | n :: ns, k, ds, cs => setAll ns (k + 1) ds (cs.set n (some (.sh (ds.getD k .none))))
def coN : List Nat → List PyData → Te → Option Te
  | [] => gNi
  | n :: ns => gCo (gN n) (coN ns)
theorem freeC_set {cs : Cs} {n k : Nat} {d : PyData} (h : freeC cs k = true) : freeC (cs.set n (some (.sh d))) k = true := by
  unfold freeC at h ⊢
  by_cases c : k = n
  · subst c
    by_cases l : k < cs.length
    · rw [List.getElem?_set_self l]
      rfl
    · rw [List.getElem?_eq_none (by rw [List.length_set]; omega)]
  · rw [List.getElem?_set_ne (fun z => c z.symm)]
    exact h
theorem coN_ok : ∀ {ns : List Nat} {k : Nat} {ds : List PyData} {cs : Cs} {τ : Te}, Fit τ cs → (∀ n ∈ ns, freeC cs n = true) → ds.length = k + ns.length → ∃ τ', coN ns (ds.drop k) τ = some τ' ∧ Fit τ' (setAll ns k ds cs)
  | [], k, ds, cs, τ, f, _, e => by
    rw [List.drop_eq_nil_of_le (by simp at e; omega)]
    exact ⟨τ, rfl, f⟩
  | n :: ns, k, ds, cs, τ, f, h, e => by
    have l : k < ds.length := by simp at e; omega
    have eg : ds.getD k .none = ds[k] := by rw [List.getD_eq_getElem?_getD, List.getElem?_eq_getElem l]; rfl
    obtain ⟨τ1, e1, f1⟩ := g_n (d := ds.getD k .none) (h n (List.mem_cons_self ..)) τ f
    obtain ⟨τ2, e2, f2⟩ := coN_ok (ns := ns) (k := k + 1) (ds := ds) f1 (fun k hk => freeC_set (h k (List.mem_cons_of_mem _ hk))) (by simp at e; omega)
    refine ⟨τ2, ?_, f2⟩
    rw [List.drop_eq_getElem_cons l, ← eg]
    show (match gN n _ τ with | some τ1 => coN ns _ τ1 | none => none) = _
    rw [e1]
    exact e2
theorem g_tu {n : Nat} {ns : List Nat} {Fs : List PyData → Te → Option Te} (hn : ns.length = n) (hF : Fs = coN ns) (h' : ns.all (fun k => freeC cs k) = true) : GSm (gTu n Fs) cs d (unN n d) (fun r => setAll ns 0 r cs) := fun τ f => by
  have h : ∀ k ∈ ns, freeC cs k = true := fun k hk => List.all_eq_true.mp h' k hk
  subst hF
  cases d with
  | tuple ds =>
    unfold unN
    dsimp only
    by_cases c : ds.length = n
    · rw [if_pos c]
      obtain ⟨τ', e, f'⟩ := coN_ok (k := 0) f h (by rw [c, hn]; omega)
      refine ⟨τ', ?_, f'⟩
      unfold gTu
      dsimp only
      rw [if_pos c]
      simpa using e
    · rw [if_neg c]
      trivial
  | _ => trivial
/-! ### comprehensions -/
def wipeC (cs : Cs) : List Nat → Cs
  | [] => cs
  | v :: vs => (wipeC cs vs).set v none
theorem wipe_ok {cs : Cs} {τ : Te} (f : Fit τ cs) : ∀ vs : List Nat, Fit (wipeT τ vs) (wipeC cs vs)
  | [] => f
  | v :: vs => Fit.setN rfl (wipe_ok f vs)
def pLc (f : PyData → P (Option PyData)) : List PyData → List PyData → P (List PyData)
  | [], acc => .ok acc
  | d :: ds, acc => match f d with
    | .ok (some x) => if acc.length < 100000 then pLc f ds (acc ++ [x]) else .no
    | .ok none => pLc f ds acc
    | _ => .no
def endC (cs : Cs) (r : RV) : Option (PyData × Cs) := (holdC r).bind (frzC cs)
theorem endC_ok {cs cs' : Cs} {r : RV} {d : PyData} {τ : Te} (f : Fit τ cs) (e : endC cs r = some (d, cs')) : ∃ r', hold r τ = .ok r' τ ∧ ∃ τ', frz1 r' τ = some (d, τ') ∧ Fit τ' cs' := by
  unfold endC at e
  cases q : holdC r with
  | none =>
    rw [q] at e
    cases e
  | some r' =>
    rw [q] at e
    exact ⟨r', holdC_ok q, frzC_ok f e⟩
theorem e_lc {S : FI} {vs : List Nat} {g : FG} {t : FT} {e : FE} {mi : P γ} {vi : γ → List PyData} {c1 : γ → Cs} {cw : γ → Cs} {mg : γ → PyData → P α} {tg : γ → PyData → α → Cs} {mt : γ → PyData → α → P Bool} {me : γ → PyData → α → P β} {ve : γ → PyData → α → β → RV} {te : γ → PyData → α → β → Cs} {dv : γ → PyData → α → β → PyData} {t3 : γ → PyData → α → β → Cs} {es1 es2 : List Ct → Cs}
    (hS : SG S cs mi vi c1 es) (hw : ∀ x, wipeC (c1 x) vs = cw x) (hg : ∀ x d, GSm g (cw x) d (mg x d) (tg x d)) (ht : ∀ x d a, SG t (tg x d a) (mt x d a) (fun b => b) (fun _ => tg x d a) es1) (he : ∀ x d a, SG e (tg x d a) (me x d a) (ve x d a) (te x d a) es2)
    (hd : ∀ x d a b, endC (te x d a b) (ve x d a b) = some (dv x d a b, t3 x d a b)) (hk : ∀ x d a b, wipeC (t3 x d a b) vs = cw x) (hk2 : ∀ x d a, wipeC (tg x d a) vs = cw x) :
    SG (fLc S vs g t e) cs (mi.bind fun x => (pLc (fun d => (mg x d).bind fun a => (mt x d a).bind fun b => if b = true then (me x d a).bind fun y => .ok (some (dv x d a y)) else .ok none) (vi x) []).bind fun r => .ok (x, r)) (fun r => .tmp (.L r.2)) (fun r => cw r.1) es := fun τ f =>
  (hS τ f).bind fun x τ1 f1 => by
    have go : ∀ (ds : List PyData) (τ : Te) (acc : List PyData), Fit (wipeT τ vs) (cw x) → match pLc (fun d => (mg x d).bind fun a => (mt x d a).bind fun b => if b = true then (me x d a).bind fun y => .ok (some (dv x d a y)) else .ok none) ds acc with
        | .ok r => ∃ τ', lcF vs g t e ds τ acc = .ok r τ' ∧ Fit (wipeT τ' vs) (cw x)
        | .ex _ _ _ => False
        | .no => True := by
      intro ds
      induction ds with
      | nil => exact fun τ acc f => ⟨τ, rfl, f⟩
      | cons d ds ih =>
        intro τ acc f
        have q1 := hg x d _ f
        unfold pLc lcF
        cases e1 : mg x d with
        | no => trivial
        | ex c f o =>
          rw [e1] at q1
          exact q1.elim
        | ok a =>
          rw [e1] at q1
          obtain ⟨τ2, e2, f2⟩ := q1
          rw [e2]
          dsimp only [P.bind]
          have q2 := ht x d a τ2 f2
          cases e3 : mt x d a with
          | no => trivial
          | ex c f o => trivial
          | ok b =>
            rw [e3] at q2
            obtain ⟨τ3, e4, f3⟩ := q2
            rw [e4]
            dsimp only
            by_cases c : b = true
            · rw [if_pos c, if_pos c]
              have q3 := he x d a τ3 f3
              cases e5 : me x d a with
              | no => trivial
              | ex c f o => trivial
              | ok y =>
                rw [e5] at q3
                obtain ⟨τ4, e6, f4⟩ := q3
                rw [e6]
                obtain ⟨r', e7, τ5, e8, f5⟩ := endC_ok f4 (hd x d a y)
                dsimp only
                rw [e7]
                dsimp only
                rw [e8]
                dsimp only
                by_cases l : acc.length < 100000
                · rw [if_pos l, if_pos l]
                  exact ih τ5 _ (by rw [← hk x d a y]; exact wipe_ok f5 vs)
                · rw [if_neg l, if_neg l]
                  trivial
            · rw [if_neg c, if_neg c]
              exact ih τ3 _ (by rw [← hk2 x d a]; exact wipe_ok f3 vs)
    have z := go (vi x) τ1 [] (by rw [← hw x]; exact wipe_ok f1 vs)
    show Sm (lcEnd vs (lcF vs g t e (vi x) τ1 [])) _ _ _ _
    cases e : pLc (fun d => (mg x d).bind fun a => (mt x d a).bind fun b => if b = true then (me x d a).bind fun y => .ok (some (dv x d a y)) else .ok none) (vi x) [] with
    | ok r =>
      rw [e] at z
      obtain ⟨τ', e2, f2⟩ := z
      rw [e2]
      exact ⟨_, rfl, f2⟩
    | ex c f o =>
      rw [e] at z
      exact z.elim
    | no => trivial
/-- a comprehension whose parts change slots, a state s -/
def pLcS {σ : Type} (f : σ → PyData → P (Option PyData × σ)) : List PyData → List PyData → σ → P (List PyData × σ)
  | [], acc, s => .ok (acc, s)
  | d :: ds, acc, s => match f s d with
    | .ok (some x, s') => if acc.length < 100000 then pLcS f ds (acc ++ [x]) s' else .no
    | .ok (none, s') => pLcS f ds acc s'
    | _ => .no
theorem e_lcS {σ : Type} {S : FI} {vs : List Nat} {g : FG} {t : FT} {e : FE} {mi : P γ} {vi : γ → List PyData} {c1 : γ → Cs} {cw : σ → Cs} (s0 : γ → σ) {mg : σ → PyData → P α} {tg : σ → PyData → α → Cs} {mt : σ → PyData → α → P (Bool × σ)} {tt : σ → PyData → α → σ → Cs} {me : σ → PyData → α → σ → P (PyData × σ)} {te : σ → PyData → α → σ → (PyData × σ) → Cs} {es1 es2 : List Ct → Cs}
    (hS : SG S cs mi vi c1 es) (hw : ∀ x, wipeC (c1 x) vs = cw (s0 x)) (hg : ∀ s d, GSm g (cw s) d (mg s d) (tg s d)) (ht : ∀ s d a, SG t (tg s d a) (mt s d a) (fun b => b.1) (fun b => tt s d a b.2) es1) (he : ∀ s d a s1, SG e (tt s d a s1) (me s d a s1) (fun y => .val y.1) (te s d a s1) es2)
    (hk : ∀ s d a s1 y, wipeC (te s d a s1 y) vs = cw y.2) (hk2 : ∀ s d a s1, wipeC (tt s d a s1) vs = cw s1) :
    SG (fLc S vs g t e) cs (mi.bind fun x => pLcS (fun s d => (mg s d).bind fun a => (mt s d a).bind fun b => if b.1 = true then (me s d a b.2).bind fun y => .ok (some y.1, y.2) else .ok (none, b.2)) (vi x) [] (s0 x)) (fun r => .tmp (.L r.1)) (fun r => cw r.2) es := fun τ f =>
  (hS τ f).bind fun x τ1 f1 => by
    have go : ∀ (ds : List PyData) (τ : Te) (acc : List PyData) (s : σ), Fit (wipeT τ vs) (cw s) → match pLcS (fun s d => (mg s d).bind fun a => (mt s d a).bind fun b => if b.1 = true then (me s d a b.2).bind fun y => .ok (some y.1, y.2) else .ok (none, b.2)) ds acc s with
        | .ok r => ∃ τ', lcF vs g t e ds τ acc = .ok r.1 τ' ∧ Fit (wipeT τ' vs) (cw r.2)
        | .ex _ _ _ => False
        | .no => True := by
      intro ds
      induction ds with
      | nil => exact fun τ acc s f => ⟨τ, rfl, f⟩
      | cons d ds ih =>
        intro τ acc s f
        have q1 := hg s d _ f
        unfold pLcS lcF
        cases e1 : mg s d with
        | no => trivial
        | ex c f o =>
          rw [e1] at q1
          exact q1.elim
        | ok a =>
          rw [e1] at q1
          obtain ⟨τ2, e2, f2⟩ := q1
          rw [e2]
          dsimp only [P.bind]
          have q2 := ht s d a τ2 f2
          cases e3 : mt s d a with
          | no => trivial
          | ex c f o => trivial
          | ok b =>
            rw [e3] at q2
            obtain ⟨τ3, e4, f3⟩ := q2
            rw [e4]
            dsimp only
            by_cases c : b.1 = true
            · rw [if_pos c, if_pos c]
              have q3 := he s d a b.2 τ3 f3
              cases e5 : me s d a b.2 with
              | no => trivial
              | ex c f o => trivial
              | ok y =>
                rw [e5] at q3
                obtain ⟨τ4, e6, f4⟩ := q3
                rw [e6]
                dsimp only [hold, frz1]
                by_cases l : acc.length < 100000
                · rw [if_pos l, if_pos l]
                  exact ih τ4 _ _ (by rw [← hk s d a b.2 y]; exact wipe_ok f4 vs)
                · rw [if_neg l, if_neg l]
                  trivial
            · rw [if_neg c, if_neg c]
              exact ih τ3 _ _ (by rw [← hk2 s d a b.2]; exact wipe_ok f3 vs)
    have z := go (vi x) τ1 [] (s0 x) (by rw [← hw x]; exact wipe_ok f1 vs)
    show Sm (lcEnd vs (lcF vs g t e (vi x) τ1 [])) _ _ _ _
    cases e : pLcS (fun s d => (mg s d).bind fun a => (mt s d a).bind fun b => if b.1 = true then (me s d a b.2).bind fun y => .ok (some y.1, y.2) else .ok (none, b.2)) (vi x) [] (s0 x) with
    | ok r =>
      rw [e] at z
      obtain ⟨τ', e2, f2⟩ := z
      rw [e2]
      exact ⟨_, rfl, f2⟩
    | ex c f o =>
      rw [e] at z
      exact z.elim
    | no => trivial
end
end U
end

section
set_option Elab.async false
set_option linter.all false
set_option maxRecDepth 100000
set_option maxHeartbeats 2000000
/-! U4: statements, loops, calls, defs. -/
namespace U
open PySem PySem.Spec PyProof.Rows L2 Z T
inductive SO (α ρ : Type) where
  | nx (a : α)
  | rt (r : ρ)
def soV {α ρ : Type} (vr : ρ → RV) : SO α ρ → SR
  | .nx _ => .nx
  | .rt r => .rt (vr r)
def soT {α ρ : Type} (tn : α → Cs) (tr : ρ → Cs) : SO α ρ → Cs
  | .nx a => tn a
  | .rt r => tr r
def soB {α ρ γ : Type} (n : α → P γ) (inj : ρ → γ) : SO α ρ → P γ
  | .nx a => n a
  | .rt r => .ok (inj r)
theorem soB_nx {α ρ γ : Type} {n : α → P γ} {inj : ρ → γ} {a : α} : soB n inj (.nx a) = n a := rfl
theorem soB_rt {α ρ γ : Type} {n : α → P γ} {inj : ρ → γ} {r : ρ} : soB n inj (.rt r) = .ok (inj r) := rfl
section
variable {α β γ δ ρ : Type} {cs : Cs} {es : List Ct → Cs} {i : Nat} {d : PyData} {Fa Fb Fc : FE} {F K : FS} {A : FA} {ma : P α} {va wa : α → RV} {ta t t2 : α → Cs} {mA : P α} {vA : α → List RV} {tA : α → Cs} {ds : α → List PyData}
theorem s_set (h : SG Fa cs ma va ta es) (hs : ∀ a, stoC i (va a) (ta a) = some (t a)) : SG (fSet i Fa) cs ma (fun _ => SR.nx) t es := fun τ f => by
  have q := h τ f
  cases e : ma with
  | ok a =>
    rw [e] at q
    obtain ⟨τ1, e1, f1⟩ := q
    obtain ⟨τ2, e2, f2⟩ := stoC_ok f1 (hs a)
    refine ⟨τ2, ?_, f2⟩
    unfold fSet
    rw [e1]
    show stoS i (va a) τ1 = _
    unfold stoS
    rw [e2]
  | ex c g o =>
    rw [e] at q
    obtain ⟨τ1, e1, f1⟩ := q
    refine ⟨τ1, ?_, f1⟩
    unfold fSet
    rw [e1]
  | no => trivial
theorem s_ret {r : α → RV} (h : SG Fa cs ma va ta es) (hs : ∀ a, movC (ta a) (va a) = some (r a, t a)) : SG (fRet Fa) cs ma (fun a => SR.rt (r a)) t es := fun τ f => by
  have q := h τ f
  cases e : ma with
  | ok a =>
    rw [e] at q
    obtain ⟨τ1, e1, f1⟩ := q
    obtain ⟨τ2, e2, f2⟩ := movC_ok f1 (hs a)
    refine ⟨τ2, ?_, f2⟩
    unfold fRet
    rw [e1]
    exact e2
  | ex c g o =>
    rw [e] at q
    obtain ⟨τ1, e1, f1⟩ := q
    refine ⟨τ1, ?_, f1⟩
    unfold fRet
    rw [e1]
  | no => trivial
theorem s_retN : SG fRetN cs (.ok ()) (fun _ => SR.rt (.val .none)) (fun _ => cs) es := fun τ f => ⟨τ, rfl, f⟩
theorem s_skip : SG fSkip cs (.ok ()) (fun _ => SR.nx) (fun _ => cs) es := fun τ f => ⟨τ, rfl, f⟩
theorem s_drop (h : SG Fa cs ma va ta es) : SG (fDrop Fa) cs ma (fun _ => SR.nx) ta es := fun τ f => by
  have q := h τ f
  cases e : ma with
  | ok a =>
    rw [e] at q
    obtain ⟨τ1, e1, f1⟩ := q
    refine ⟨τ1, ?_, f1⟩
    unfold fDrop
    rw [e1]
  | ex c g o =>
    rw [e] at q
    obtain ⟨τ1, e1, f1⟩ := q
    refine ⟨τ1, ?_, f1⟩
    unfold fDrop
    rw [e1]
  | no => trivial
def O.pv : O → P PyData
  | .v d => .ok d
  | _ => .no
theorem s_aug {g : PyData → PyData → O} {da : α → PyData} (h0 : cs[i]? = some (some (.sh d))) (h : SG Fa cs ma va (fun _ => cs) es) (hl : ∀ a, lookC cs (va a) = some (da a)) : SG (fAug i g Fa) cs (ma.bind fun a => O.pv (g d (da a))) (fun _ => SR.nx) (fun z => cs.set i (some (.sh z))) es := fun τ f => by
  unfold fAug
  rw [f.at_ h0]
  refine (h τ f).bind fun a τ1 f1 => ?_
  rw [lookC_ok f1 (hl a)]
  dsimp only
  cases g d (da a) with
  | v z =>
    refine ⟨τ1.set i (.sh z), ?_, f1.set⟩
    show stoS i (.val z) τ1 = _
    unfold stoS sto
    rw [f1.at_ h0]
    rfl
  | _ => trivial
theorem s_augE {g : PyData → PyData → O} {da : α → PyData} {v : γ → Cs} (pk : α → PyData → γ) (h0 : cs[i]? = some (some (.sh d))) (h : SG Fa cs ma va ta es) (hl : ∀ a, lookC (ta a) (va a) = some (da a)) (h1 : ∀ a, freeC (ta a) i = true) (ht : ∀ a z, v (pk a z) = (ta a).set i (some (.sh z))) : SG (fAug i g Fa) cs (ma.bind fun a => (O.pv (g d (da a))).bind fun z => .ok (pk a z)) (fun _ => SR.nx) v es := fun τ f => by
  unfold fAug
  rw [f.at_ h0]
  refine (h τ f).bind fun a τ1 f1 => ?_
  rw [lookC_ok f1 (hl a)]
  dsimp only
  cases g d (da a) with
  | v z =>
    refine ⟨τ1.set i (.sh z), ?_, by rw [ht]; exact f1.set⟩
    show stoS i (.val z) τ1 = _
    unfold stoS sto
    rw [freeC_ok f1 (h1 a)]
    rfl
  | _ => trivial
theorem s_asg {g : FG} {da : α → PyData} {mg : α → P β} {tg : α → β → Cs} (h : SG Fa cs ma va ta es) (hh : ∀ a, holdC (va a) = some (wa a)) (hf : ∀ a, frzC (ta a) (wa a) = some (da a, t2 a)) (hg : ∀ a, GSm g (t2 a) (da a) (mg a) (tg a)) : SG (fAsg Fa g) cs (ma.bind fun a => (mg a).bind fun b => .ok (a, b)) (fun _ => SR.nx) (fun x => tg x.1 x.2) es := fun τ f =>
  (h τ f).bind fun a τ1 f1 => by
    rw [holdC_ok (hh a)]
    obtain ⟨τ2, e, f2⟩ := frzC_ok f1 (hf a)
    show Sm (match frz1 (wa a) τ1 with
      | some (d, τ3) => match g d τ3 with
        | some τ4 => Res.ok SR.nx τ4
        | none => .stuck
      | none => .stuck) _ _ _ _
    rw [e]
    dsimp only
    have q := hg a τ2 f2
    cases e3 : mg a with
    | ok b =>
      rw [e3] at q
      obtain ⟨τ3, e4, f3⟩ := q
      rw [e4]
      exact ⟨τ3, rfl, f3⟩
    | ex c f o =>
      rw [e3] at q
      exact q.elim
    | no => trivial
theorem s_setIx {j : Nat} {wb : α → β → RV} {mb : α → P β} {tb : α → β → Cs} {da : α → PyData} {di : α → β → PyData} {t3 : α → Cs} {x0 : α → Kd × List PyData} {kd : α → β → Kd} {dl : α → β → List PyData} (hv : SG Fa cs ma va ta es) (hh : ∀ a, holdC (va a) = some (wa a)) (hf : ∀ a, frzC (ta a) (wa a) = some (da a, t3 a)) (h0 : ∀ a, ownC (t3 a) j = some (x0 a))
    (hi : ∀ a, SG Fb (t3 a) (mb a) (wb a) (tb a) es) (hl : ∀ a b, lookC (tb a b) (wb a b) = some (di a b)) (h1 : ∀ a b, ownC (tb a b) j = some (kd a b, dl a b)) :
    SG (fSetIx j Fa Fb) cs (ma.bind fun a => (mb a).bind fun b => (asI (di a b)).bind fun k => (setP (dl a b) k (da a)).bind fun r => .ok ((a, b), r)) (fun _ => SR.nx) (fun x => (tb x.1.1 x.1.2).set j (some (.ct (kd x.1.1 x.1.2) false (.L x.2)))) es := fun τ f =>
  (hv τ f).bind fun a τ1 f1 => by
    rw [holdC_ok (hh a)]
    obtain ⟨τ3, e, f3⟩ := frzC_ok f1 (hf a)
    show Sm (match frz1 (wa a) τ1 with
      | some (d, τ3) => match ownL τ3 j with
        | some _ => (Fb τ3).bind fun ri τ4 => match look τ4 ri with
          | some (.int k) => match ownL τ4 j with
            | some (kd, ds) => match ixN ds.length k with
              | some n => Res.ok SR.nx (τ4.set j (.ct kd false (.L (ds.set n d))))
              | none => .stuck
            | none => .stuck
          | _ => .stuck
        | none => .stuck
      | none => .stuck) _ _ _ _
    rw [e]
    dsimp only
    rw [ownC_ok f3 (h0 a)]
    dsimp only
    refine (hi a τ3 f3).bind fun b τ4 f4 => ?_
    rw [lookC_ok f4 (hl a b)]
    cases di a b with
    | int k =>
      dsimp only
      rw [ownC_ok f4 (h1 a b)]
      dsimp only
      show Sm _ ((setP (dl a b) k (da a)).bind _) _ _ _
      unfold setP
      cases ixN (dl a b).length k with
      | some n => exact ⟨_, rfl, f4.set⟩
      | none => trivial
    | _ => trivial
/-! one after another -/
variable {m : P α} {n : α → P γ} {w : γ → SR} {u : γ → Cs}
theorem s_seq (h : SG F cs m (fun _ => SR.nx) t es) (hk : ∀ a, SG K (t a) (n a) w u es) : SG (fSeq F K) cs (m.bind n) w u es := fun τ f => by
  have q := h τ f
  unfold fSeq
  cases m with
  | ok a =>
    obtain ⟨τ1, e1, f1⟩ := q
    rw [e1]
    exact hk a τ1 f1
  | ex c g o =>
    obtain ⟨τ1, e1, f1⟩ := q
    rw [e1]
    exact ⟨τ1, rfl, f1⟩
  | no => trivial
theorem s_seqM {m : P (SO α ρ)} {vr : ρ → RV} {tr : ρ → Cs} (inj : ρ → γ) (h : SG F cs m (soV vr) (soT t tr) es) (hk : ∀ a, SG K (t a) (n a) w u es) (hw : ∀ r, w (inj r) = .rt (vr r)) (hu : ∀ r, Wk (tr r) (u (inj r))) : SG (fSeq F K) cs (m.bind (soB n inj)) w u es := fun τ f => by
  have q := h τ f
  unfold fSeq
  cases m with
  | ok a =>
    obtain ⟨τ1, e1, f1⟩ := q
    rw [e1]
    cases a with
    | nx a => exact hk a τ1 f1
    | rt r => exact ⟨τ1, by rw [hw]; rfl, f1.wk (hu r)⟩
  | ex c g o =>
    obtain ⟨τ1, e1, f1⟩ := q
    rw [e1]
    exact ⟨τ1, rfl, f1⟩
  | no => trivial
theorem s_if {T : FT} {xa : α → Bool} {n2 : α → P γ} (hT : SG T cs m xa ta es) (ha : ∀ a, SG F (ta a) (n a) w u es) (hb : ∀ a, SG K (ta a) (n2 a) w u es) : SG (fIfS T F K) cs (m.bind fun a => if xa a = true then n a else n2 a) w u es := fun τ f =>
  (hT τ f).bind fun a τ1 f1 => by
    by_cases c : xa a = true
    · rw [if_pos c, if_pos c]
      exact ha a τ1 f1
    · rw [if_neg c, if_neg c]
      exact hb a τ1 f1
/-! loops -/
def pFold (f : α → PyData → P α) : List PyData → α → P α
  | [], a => .ok a
  | d :: ds, a => (f a d).bind fun a' => pFold f ds a'
def pLoop (f : α → PyData → P (SO α ρ)) : List PyData → α → P (SO α ρ)
  | [], a => .ok (.nx a)
  | d :: ds, a => (f a d).bind fun x => match x with
    | .nx a' => pLoop f ds a'
    | .rt r => .ok (.rt r)
def pWhile (c : α → P (Bool × α)) (f : α → P α) : Nat → α → P α
  | 0, _ => .no
  | k + 1, a => (c a).bind fun x => if x.1 = true then (f x.2).bind fun a' => pWhile c f k a' else .ok x.2
def pWhileR (c : α → P (Bool × α)) (f : α → P (SO α ρ)) : Nat → α → P (SO α ρ)
  | 0, _ => .no
  | k + 1, a => (c a).bind fun x => if x.1 = true then (f x.2).bind fun y => match y with
    | .nx a' => pWhileR c f k a'
    | .rt r => .ok (.rt r) else .ok (.nx x.2)
theorem s_for {S : FI} {g : FG} {b : FS} {mi : P γ} {vi : γ → List PyData} {ti : γ → Cs} {mg : α → PyData → P β} {tg : α → PyData → β → Cs} {mb : α → PyData → β → P α} (a0 : γ → α) (h : α → Cs) (hS : SG S cs mi vi ti es) (hw : ∀ x, Wk (ti x) (h (a0 x))) (hg : ∀ a d, GSm g (h a) d (mg a d) (tg a d)) (hb : ∀ a d y, SG b (tg a d y) (mb a d y) (fun _ => SR.nx) h es) :
    SG (fFor S g b) cs (mi.bind fun x => pFold (fun a d => (mg a d).bind fun y => mb a d y) (vi x) (a0 x)) (fun _ => SR.nx) h es := fun τ f =>
  (hS τ f).bind fun x τ1 f1 => by
    have go : ∀ (ds : List PyData) (a : α) (τ : Te), Fit τ (h a) → Sm (loopF g b ds τ) (pFold (fun a d => (mg a d).bind fun y => mb a d y) ds a) (fun _ => SR.nx) h es := by
      intro ds
      induction ds with
      | nil => exact fun a τ f => ⟨τ, rfl, f⟩
      | cons d ds ih =>
        intro a τ f
        have q1 := hg a d τ f
        unfold pFold loopF
        cases e1 : mg a d with
        | no => trivial
        | ex c f o =>
          rw [e1] at q1
          exact q1.elim
        | ok y =>
          rw [e1] at q1
          obtain ⟨τ2, e2, f2⟩ := q1
          rw [e2]
          dsimp only [P.bind]
          have q2 := hb a d y τ2 f2
          cases e3 : mb a d y with
          | no => trivial
          | ex c f o =>
            rw [e3] at q2
            obtain ⟨τ3, e4, f3⟩ := q2
            rw [e4]
            exact ⟨τ3, rfl, f3⟩
          | ok a' =>
            rw [e3] at q2
            obtain ⟨τ3, e4, f3⟩ := q2
            rw [e4]
            exact ih a' τ3 f3
    exact go (vi x) (a0 x) τ1 (f1.wk (hw x))
theorem s_forR {S : FI} {g : FG} {b : FS} {mi : P γ} {vi : γ → List PyData} {ti : γ → Cs} {mg : α → PyData → P β} {tg : α → PyData → β → Cs} {mb : α → PyData → β → P (SO α ρ)} {vr : ρ → RV} {tr : ρ → Cs} (a0 : γ → α) (h : α → Cs) (hS : SG S cs mi vi ti es) (hw : ∀ x, Wk (ti x) (h (a0 x))) (hg : ∀ a d, GSm g (h a) d (mg a d) (tg a d)) (hb : ∀ a d y, SG b (tg a d y) (mb a d y) (soV vr) (soT h tr) es) :
    SG (fFor S g b) cs (mi.bind fun x => pLoop (fun a d => (mg a d).bind fun y => mb a d y) (vi x) (a0 x)) (soV vr) (soT h tr) es := fun τ f =>
  (hS τ f).bind fun x τ1 f1 => by
    have go : ∀ (ds : List PyData) (a : α) (τ : Te), Fit τ (h a) → Sm (loopF g b ds τ) (pLoop (fun a d => (mg a d).bind fun y => mb a d y) ds a) (soV vr) (soT h tr) es := by
      intro ds
      induction ds with
      | nil => exact fun a τ f => ⟨τ, rfl, f⟩
      | cons d ds ih =>
        intro a τ f
        have q1 := hg a d τ f
        unfold pLoop loopF
        cases e1 : mg a d with
        | no => trivial
        | ex c f o =>
          rw [e1] at q1
          exact q1.elim
        | ok y =>
          rw [e1] at q1
          obtain ⟨τ2, e2, f2⟩ := q1
          rw [e2]
          dsimp only [P.bind]
          have q2 := hb a d y τ2 f2
          cases e3 : mb a d y with
          | no => trivial
          | ex c f o =>
            rw [e3] at q2
            obtain ⟨τ3, e4, f3⟩ := q2
            rw [e4]
            exact ⟨τ3, rfl, f3⟩
          | ok a' =>
            rw [e3] at q2
            obtain ⟨τ3, e4, f3⟩ := q2
            rw [e4]
            cases a' with
            | nx a' => exact ih a' τ3 f3
            | rt r => exact ⟨τ3, rfl, f3⟩
    exact go (vi x) (a0 x) τ1 (f1.wk (hw x))
theorem s_while {c : FT} {b : FS} {mc : α → P (Bool × α)} {mb : α → P α} (a0 : α) (h : α → Cs) (hw : Wk cs (h a0)) (hc : ∀ a, SG c (h a) (mc a) (fun x => x.1) (fun x => h x.2) es) (hb : ∀ a, SG b (h a) (mb a) (fun _ => SR.nx) h es) :
    SG (fWhile c b) cs (pWhile mc mb turns a0) (fun _ => SR.nx) h es := fun τ f => by
  have go : ∀ (k : Nat) (a : α) (τ : Te), Fit τ (h a) → Sm (whileF c b k τ) (pWhile mc mb k a) (fun _ => SR.nx) h es := by
    intro k
    induction k with
    | zero => exact fun a τ f => trivial
    | succ k ih =>
      intro a τ f
      unfold pWhile whileF
      refine (hc a τ f).bind fun x τ1 f1 => ?_
      by_cases q : x.1 = true
      · rw [if_pos q, if_pos q]
        have q2 := hb x.2 τ1 f1
        cases e3 : mb x.2 with
        | no => trivial
        | ex c f o =>
          rw [e3] at q2
          obtain ⟨τ3, e4, f3⟩ := q2
          rw [e4]
          exact ⟨τ3, rfl, f3⟩
        | ok a' =>
          rw [e3] at q2
          obtain ⟨τ3, e4, f3⟩ := q2
          rw [e4]
          exact ih a' τ3 f3
      · rw [if_neg q, if_neg q]
        exact ⟨τ1, rfl, f1⟩
  exact go turns a0 τ (f.wk hw)
theorem s_whileR {c : FT} {b : FS} {mc : α → P (Bool × α)} {mb : α → P (SO α ρ)} {vr : ρ → RV} {tr : ρ → Cs} (a0 : α) (h : α → Cs) (hw : Wk cs (h a0)) (hc : ∀ a, SG c (h a) (mc a) (fun x => x.1) (fun x => h x.2) es) (hb : ∀ a, SG b (h a) (mb a) (soV vr) (soT h tr) es) :
    SG (fWhile c b) cs (pWhileR mc mb turns a0) (soV vr) (soT h tr) es := fun τ f => by
  have go : ∀ (k : Nat) (a : α) (τ : Te), Fit τ (h a) → Sm (whileF c b k τ) (pWhileR mc mb k a) (soV vr) (soT h tr) es := by
    intro k
    induction k with
    | zero => exact fun a τ f => trivial
    | succ k ih =>
      intro a τ f
      unfold pWhileR whileF
      refine (hc a τ f).bind fun x τ1 f1 => ?_
      by_cases q : x.1 = true
      · rw [if_pos q, if_pos q]
        have q2 := hb x.2 τ1 f1
        cases e3 : mb x.2 with
        | no => trivial
        | ex c f o =>
          rw [e3] at q2
          obtain ⟨τ3, e4, f3⟩ := q2
          rw [e4]
          exact ⟨τ3, rfl, f3⟩
        | ok a' =>
          rw [e3] at q2
          obtain ⟨τ3, e4, f3⟩ := q2
          rw [e4]
          cases a' with
          | nx a' => exact ih a' τ3 f3
          | rt r => exact ⟨τ3, rfl, f3⟩
      · rw [if_neg q, if_neg q]
        exact ⟨τ1, rfl, f1⟩
  exact go turns a0 τ (f.wk hw)
/-! raise, try -/
theorem s_raise {x : Str} {z : List PyData → Option (List (Str × PyData))} {fs : α → List (Str × PyData)} {v : γ → SR} {t' : γ → Cs} (o : α → List Ct) (hA : SG A cs mA vA tA es) (hl : ∀ a, frzsC (tA a) (vA a) = some (ds a, t2 a)) (hz : ∀ a, z (ds a) = some (fs a)) (hw : ∀ a, Wk (t2 a) (es (o a))) :
    SG (fRaise x z A) cs (mA.bind fun a => P.ex x (some (fs a)) (o a)) v t' es := fun τ f =>
  (hA τ f).bind fun a τ1 f1 => by
    obtain ⟨τ2, e, f2⟩ := frzsC_ok f1 (hl a)
    show Sm (match frzs τ1 (vA a) with
      | some (ds, τ2) => match z ds with
        | some fs => .exc x (some fs) τ2
        | none => .stuck
      | none => .stuck) _ _ _ _
    rw [e]
    dsimp only
    rw [hz]
    exact ⟨τ2, rfl, f2.wk (hw a)⟩
theorem s_raise0 {x : Str} {v : γ → SR} {t' : γ → Cs} (o : List Ct) (hw : Wk cs (es o)) : SG (fRaise0 x) cs (P.ex x none o) v t' es := fun τ f => ⟨τ, rfl, f.wk hw⟩
def tryP (m : P α) (tab : List (Str × Bool)) (h : Str → Option (List (Str × PyData)) → List Ct → P α) (g : List Ct → List Ct) : P α := match m with
  | .ex c f o => match tab.lookup c with
    | some true => (h c f o).nox
    | some false => .ex c f (g o)
    | none => .no
  | m => m
def noSl : SR → Bool
  | .rt (.slot _) => false
  | _ => true
theorem s_try0 {b suite : FS} {tab : List (Str × Bool)} {mb : P γ} {ms : Str → Option (List (Str × PyData)) → List Ct → P γ} {es1 es3 : List Ct → Cs} (g : List Ct → List Ct) (hb : SG b cs mb w u es1) (hs : ∀ c f o, SG suite (es1 o) (ms c f o) w u es3) (hv : ∀ a, noSl (w a) = true) (hw : ∀ o, Wk (es1 o) (es (g o))) :
    SG (fTry0 b tab suite) cs (tryP mb tab ms g) w u es := fun τ f => by
  have q := hb τ f
  unfold fTry0
  cases e : mb with
  | ok a =>
    rw [e] at q
    obtain ⟨τ1, e1, f1⟩ := q
    rw [e1]
    exact ⟨τ1, rfl, f1⟩
  | no => trivial
  | ex c fl o =>
    rw [e] at q
    obtain ⟨τ1, e1, f1⟩ := q
    rw [e1]
    dsimp only
    unfold tryP
    dsimp only
    cases tab.lookup c with
    | none => trivial
    | some x =>
      cases x with
      | false => exact ⟨τ1, rfl, f1.wk (hw o)⟩
      | true =>
        have q2 := hs c fl o τ1 f1
        dsimp only
        cases e2 : ms c fl o with
        | ok a =>
          rw [e2] at q2
          obtain ⟨τ2, e3, f2⟩ := q2
          rw [e3]
          refine ⟨τ2, ?_, f2⟩
          have z := hv a
          generalize w a = q at z ⊢
          cases q with
          | rt r =>
            cases r with
            | slot i => cases z
            | val d => rfl
            | tmp c => rfl
          | _ => rfl
        | ex c f o => trivial
        | no => trivial
def noExC : Cs → Bool
  | [] => true
  | some (.nv (some _)) :: _ => false
  | _ :: cs => noExC cs
theorem noExC_ok : ∀ {τ : Te} {cs : Cs}, Fit τ cs → noExC cs = true → noEx τ = true
  | [], [], _, _ => rfl
  | [], some _ :: _, h, _ => h.elim
  | [], none :: _, h, _ => h.elim
  | _ :: _, [], h, _ => h.elim
  | t :: τ, some u :: cs, h, e => by
    rw [h.1]
    cases u with
    | nv x =>
      cases x with
      | none => exact noExC_ok (τ := τ) (cs := cs) h.2 e
      | some y => cases e
    | sh d => exact noExC_ok (τ := τ) (cs := cs) h.2 e
    | ct k l c => exact noExC_ok (τ := τ) (cs := cs) h.2 e
  | t :: τ, none :: cs, h, e => by
    have z := h.1
    cases t with
    | nv x =>
      cases x with
      | none => exact noExC_ok (τ := τ) (cs := cs) h.2 e
      | some y => cases z
    | sh d => exact noExC_ok (τ := τ) (cs := cs) h.2 e
    | ct k l c => exact noExC_ok (τ := τ) (cs := cs) h.2 e
theorem s_try {b suite : FS} {tab : List (Str × Bool)} {mb : P γ} {ms : Str → Option (List (Str × PyData)) → List Ct → P γ} {es1 es3 : List Ct → Cs} {us : γ → Cs} (g : List Ct → List Ct) (hb : SG b cs mb w u es1) (hn : ∀ o, noExC (es1 o) = true) (hf : ∀ o, freeC (es1 o) i = true) (hs : ∀ c f o, SG suite ((es1 o).set i (some (.nv (some (.e ⟨c, f⟩))))) (ms c f o) w us es3)
    (hn2 : ∀ a, noExC ((us a).set i none) = true) (hw2 : ∀ a, Wk ((us a).set i none) (u a)) (hv : ∀ a, noSl (w a) = true) (hw : ∀ o, Wk (es1 o) (es (g o))) :
    SG (fTry b tab i suite) cs (tryP mb tab ms g) w u es := fun τ f => by
  have q := hb τ f
  unfold fTry
  cases e : mb with
  | ok a =>
    rw [e] at q
    obtain ⟨τ1, e1, f1⟩ := q
    rw [e1]
    exact ⟨τ1, rfl, f1⟩
  | no => trivial
  | ex c fl o =>
    rw [e] at q
    obtain ⟨τ1, e1, f1⟩ := q
    rw [e1]
    dsimp only
    unfold tryP
    dsimp only
    cases tab.lookup c with
    | none => trivial
    | some x =>
      cases x with
      | false => exact ⟨τ1, rfl, f1.wk (hw o)⟩
      | true =>
        dsimp only
        rw [if_pos ⟨noExC_ok f1 (hn o), freeC_ok f1 (hf o)⟩]
        have q2 := hs c fl o _ f1.set
        cases e2 : ms c fl o with
        | ok a =>
          rw [e2] at q2
          obtain ⟨τ2, e3, f2⟩ := q2
          rw [e3]
          have f3 : Fit (τ2.set i .no) ((us a).set i none) := f2.setN rfl
          refine ⟨τ2.set i .no, ?_, f3.wk (hw2 a)⟩
          have z := hv a
          have z2 := noExC_ok f3 (hn2 a)
          generalize w a = q at z ⊢
          cases q with
          | rt r =>
            cases r with
            | slot i => cases z
            | val d => exact if_pos z2
            | tmp c => exact if_pos z2
          | _ => exact if_pos z2
        | ex c f o => trivial
        | no => trivial
end
end U
end

section
set_option Elab.async false
set_option linter.all false
set_option maxRecDepth 100000
set_option maxHeartbeats 2000000
/-! U5: calls and defs, dicts, handled errors. -/
namespace U
open PySem PySem.Spec PyProof.Rows L2 Z T
section
variable {α β γ δ ρ : Type} {cs : Cs} {es : List Ct → Cs} {i : Nat} {d : PyData} {Fa Fb Fc : FE} {F K : FS} {A : FA} {ma : P α} {va wa : α → RV} {ta t t2 : α → Cs} {mA : P α} {vA : α → List RV} {tA : α → Cs} {ds : α → List PyData}
def frzMC (cs : Cs) : List Pm → List RV → Option Cs
  | .sh :: ms, r :: rs => match frzC cs r with
    | some (_, c1) => frzMC c1 ms rs
    | none => none
  | _ :: ms, _ :: rs => frzMC cs ms rs
  | _, _ => some cs
theorem frzMC_ok : ∀ {ms : List Pm} {rs : List RV} {τ : Te} {cs cs' : Cs}, Fit τ cs → frzMC cs ms rs = some cs' → ∃ τ', frzM τ ms rs = some τ' ∧ Fit τ' cs'
  | [], rs, τ, cs, cs', f, e => by
    unfold frzMC at e
    cases e
    exact ⟨τ, by unfold frzM; rfl, f⟩
  | .io :: ms, [], τ, cs, cs', f, e => by
    cases e
    exact ⟨τ, rfl, f⟩
  | .sh :: ms, [], τ, cs, cs', f, e => by
    cases e
    exact ⟨τ, rfl, f⟩
  | .ro :: ms, [], τ, cs, cs', f, e => by
    cases e
    exact ⟨τ, rfl, f⟩
  | .io :: ms, r :: rs, τ, cs, cs', f, e => by
    obtain ⟨τ', e1, f1⟩ := frzMC_ok (ms := ms) (rs := rs) f (show frzMC cs ms rs = some cs' from e)
    exact ⟨τ', e1, f1⟩
  | .ro :: ms, r :: rs, τ, cs, cs', f, e => by
    obtain ⟨τ', e1, f1⟩ := frzMC_ok (ms := ms) (rs := rs) f (show frzMC cs ms rs = some cs' from e)
    exact ⟨τ', e1, f1⟩
  | .sh :: ms, r :: rs, τ, cs, cs', f, e => by
    have e : (match frzC cs r with | some (_, c1) => frzMC c1 ms rs | none => none) = some cs' := e
    cases q : frzC cs r with
    | none =>
      rw [q] at e
      cases e
    | some x =>
      obtain ⟨d, c1⟩ := x
      rw [q] at e
      obtain ⟨τ1, e1, f1⟩ := frzC_ok f q
      obtain ⟨τ', e2, f2⟩ := frzMC_ok (ms := ms) (rs := rs) f1 (show frzMC c1 ms rs = some cs' from e)
      refine ⟨τ', ?_, f2⟩
      show (match frz1 r τ with | some (_, τ1) => frzM τ1 ms rs | none => none) = _
      rw [e1]
      exact e2
def slot1C (cs : Cs) : Pm → RV → Option Sl
  | .sh, .val d => some (.sh d)
  | .sh, .slot i => match cs[i]? with
    | some (some (.sh d)) => some (.sh d)
    | _ => none
  | .io, .slot i => match cs[i]? with
    | some (some (.ct .ow false c)) => some (.ct .io false c)
    | some (some (.ct .io false c)) => some (.ct .io false c)
    | _ => none
  | .ro, .val (.list ds) => some (.ct .ro false (.L ds))
  | .ro, .slot i => match cs[i]? with
    | some (some (.sh (.list ds))) => some (.ct .ro false (.L ds))
    | some (some (.ct _ _ c)) => some (.ct .ro false c)
    | _ => none
  | _, _ => none
theorem slot1C_ok {τ : Te} {cs : Cs} {m : Pm} {r : RV} {s : Sl} (f : Fit τ cs) (e : slot1C cs m r = some s) : slot1 τ m r = some s := by
  unfold slot1C at e
  split at e
  · exact e
  · split at e
    · rename_i q
      unfold slot1
      dsimp only
      rw [f.at_ q]
      exact e
    · cases e
  · split at e
    · rename_i q
      unfold slot1
      dsimp only
      rw [f.at_ q]
      exact e
    · rename_i q
      unfold slot1
      dsimp only
      rw [f.at_ q]
      exact e
    · cases e
  · exact e
  · split at e
    · rename_i q
      unfold slot1
      dsimp only
      rw [f.at_ q]
      exact e
    · rename_i q
      unfold slot1
      dsimp only
      rw [f.at_ q]
      exact e
    · cases e
  · cases e
def slotsC (cs : Cs) : List Pm → List RV → Option Te
  | [], [] => some []
  | m :: ms, r :: rs => match slot1C cs m r, slotsC cs ms rs with
    | some s, some ss => some (s :: ss)
    | _, _ => none
  | _, _ => none
theorem slotsC_ok : ∀ {ms : List Pm} {rs : List RV} {τ ps : Te} {cs : Cs}, Fit τ cs → slotsC cs ms rs = some ps → slots τ ms rs = some ps
  | [], [], τ, ps, cs, f, e => e
  | [], _ :: _, τ, ps, cs, f, e => by cases e
  | _ :: _, [], τ, ps, cs, f, e => by cases e
  | m :: ms, r :: rs, τ, ps, cs, f, e => by
    unfold slotsC at e
    split at e
    · rename_i s ss q1 q2
      unfold slots
      rw [slot1C_ok f q1, slotsC_ok f q2]
      exact e
    · cases e
def backC (outs : Te) : Nat → List Pm → List RV → Cs → Option Cs
  | k, .io :: ms, .slot i :: rs, cs => match cs[i]?, outs[k]? with
    | some (some (.ct kd false _)), some (.ct .io false c) => backC outs (k + 1) ms rs (cs.set i (some (.ct kd false c)))
    | _, _ => none
  | k, _ :: ms, _ :: rs, cs => backC outs (k + 1) ms rs cs
  | _, _, _, cs => some cs
theorem backC_ok {outs : Te} : ∀ {ms : List Pm} {rs : List RV} {k : Nat} {τ : Te} {cs cs' : Cs}, Fit τ cs → backC outs k ms rs cs = some cs' → ∃ τ', back outs k ms rs τ = some τ' ∧ Fit τ' cs'
  | [], rs, k, τ, cs, cs', f, e => by
    unfold backC at e
    cases e
    exact ⟨τ, by unfold back; rfl, f⟩
  | .io :: ms, [], k, τ, cs, cs', f, e => by
    cases e
    exact ⟨τ, rfl, f⟩
  | .sh :: ms, [], k, τ, cs, cs', f, e => by
    cases e
    exact ⟨τ, rfl, f⟩
  | .ro :: ms, [], k, τ, cs, cs', f, e => by
    cases e
    exact ⟨τ, rfl, f⟩
  | .sh :: ms, r :: rs, k, τ, cs, cs', f, e => by
    obtain ⟨τ', e1, f1⟩ := backC_ok (ms := ms) (rs := rs) (k := k + 1) f (show backC outs (k + 1) ms rs cs = some cs' from e)
    exact ⟨τ', e1, f1⟩
  | .ro :: ms, r :: rs, k, τ, cs, cs', f, e => by
    obtain ⟨τ', e1, f1⟩ := backC_ok (ms := ms) (rs := rs) (k := k + 1) f (show backC outs (k + 1) ms rs cs = some cs' from e)
    exact ⟨τ', e1, f1⟩
  | .io :: ms, .val d :: rs, k, τ, cs, cs', f, e => by
    obtain ⟨τ', e1, f1⟩ := backC_ok (ms := ms) (rs := rs) (k := k + 1) f (show backC outs (k + 1) ms rs cs = some cs' from e)
    exact ⟨τ', e1, f1⟩
  | .io :: ms, .tmp d :: rs, k, τ, cs, cs', f, e => by
    obtain ⟨τ', e1, f1⟩ := backC_ok (ms := ms) (rs := rs) (k := k + 1) f (show backC outs (k + 1) ms rs cs = some cs' from e)
    exact ⟨τ', e1, f1⟩
  | .io :: ms, .slot i :: rs, k, τ, cs, cs', f, e => by
    have e : (match cs[i]?, outs[k]? with
      | some (some (.ct kd false _)), some (.ct .io false c) => backC outs (k + 1) ms rs (cs.set i (some (.ct kd false c)))
      | _, _ => none) = some cs' := e
    split at e
    · rename_i kd c0 c q1 q2
      obtain ⟨τ', e1, f1⟩ := backC_ok (ms := ms) (rs := rs) (k := k + 1) (f.set (i := i) (s := .ct kd false c)) e
      refine ⟨τ', ?_, f1⟩
      show (match τ[i]?, outs[k]? with
        | some (.ct kd false _), some (.ct .io false c) => back outs (k + 1) ms rs (τ.set i (.ct kd false c))
        | _, _ => none) = _
      rw [f.at_ q1, q2]
      exact e1
    · cases e
/-- what a def by value does -/
def FnS (F : Fd) (ps : Te) (m : P ρ) (v : ρ → RV) (ou : ρ → Te) (eo : List Ct → Te) : Prop := match m with
  | .ok r => F ps = .ok (v r) (ou r)
  | .ex c f o => F ps = .exc c f (eo o)
  | .no => True
def noSlV : RV → Bool
  | .slot _ => false
  | _ => true
theorem e_call {ms : List Pm} {G : Fd} {ps : α → Te} {mF : α → P ρ} {vF : ρ → RV} {ou : α → ρ → Te} {eo : α → List Ct → Te} {t3 : α → ρ → Cs} {t4 : α → List Ct → Cs} {v : γ → RV} {tt : γ → Cs} (pk : α → ρ → γ) (ex : α → List Ct → List Ct) (hA : SG A cs mA vA tA es) (h1 : ∀ a, frzMC (tA a) ms (vA a) = some (t2 a)) (h2 : ∀ a, slotsC (t2 a) ms (vA a) = some (ps a)) (h3 : ∀ a, apart ms (vA a) = true)
    (hF : ∀ a, FnS G (ps a) (mF a) vF (ou a) (eo a)) (hs : ∀ r, noSlV (vF r) = true) (h4 : ∀ a r, backC (ou a r) 0 ms (vA a) (t2 a) = some (t3 a r)) (h5 : ∀ a o, backC (eo a o) 0 ms (vA a) (t2 a) = some (t4 a o)) (h6 : ∀ a o, Wk (t4 a o) (es (ex a o))) (hv : ∀ a r, v (pk a r) = vF r) (ht : ∀ a r, Wk (t3 a r) (tt (pk a r))) :
    SG (fCall ms G A) cs (mA.bind fun a => ((mF a).mapx (ex a)).bind fun r => .ok (pk a r)) v tt es := fun τ f =>
  (hA τ f).bind fun a τ1 f1 => by
    obtain ⟨τ2, e2, f2⟩ := frzMC_ok f1 (h1 a)
    rw [e2]
    dsimp only
    rw [slotsC_ok f2 (h2 a)]
    dsimp only
    rw [if_pos (h3 a)]
    have q := hF a
    cases e : mF a with
    | ok r =>
      rw [e] at q
      have q : G (ps a) = .ok (vF r) (ou a r) := q
      rw [q]
      obtain ⟨τ3, e3, f3⟩ := backC_ok f2 (h4 a r)
      have z := hs r
      have hv' := hv a r
      generalize vF r = x at z hv' ⊢
      cases x with
      | slot i => cases z
      | val d =>
        dsimp only
        rw [e3]
        exact ⟨τ3, by rw [hv'], f3.wk (ht a r)⟩
      | tmp d =>
        dsimp only
        rw [e3]
        exact ⟨τ3, by rw [hv'], f3.wk (ht a r)⟩
    | ex c g o =>
      rw [e] at q
      have q : G (ps a) = .exc c g (eo a o) := q
      rw [q]
      obtain ⟨τ3, e3, f3⟩ := backC_ok f2 (h5 a o)
      dsimp only
      rw [e3]
      exact ⟨τ3, rfl, f3.wk (h6 a o)⟩
    | no => trivial
/-- of a def that raises nothing -/
theorem e_callN {ms : List Pm} {G : Fd} {ps : α → Te} {mF : α → P ρ} {vF : ρ → RV} {ou : α → ρ → Te} {eo : α → List Ct → Te} {t3 : α → ρ → Cs} {v : γ → RV} {tt : γ → Cs} (pk : α → ρ → γ) (hA : SG A cs mA vA tA es) (h1 : ∀ a, frzMC (tA a) ms (vA a) = some (t2 a)) (h2 : ∀ a, slotsC (t2 a) ms (vA a) = some (ps a)) (h3 : ∀ a, apart ms (vA a) = true)
    (hF : ∀ a, FnS G (ps a) (mF a) vF (ou a) (eo a)) (hs : ∀ r, noSlV (vF r) = true) (h4 : ∀ a r, backC (ou a r) 0 ms (vA a) (t2 a) = some (t3 a r)) (hv : ∀ a r, v (pk a r) = vF r) (ht : ∀ a r, Wk (t3 a r) (tt (pk a r))) :
    SG (fCall ms G A) cs (mA.bind fun a => ((mF a).nox).bind fun r => .ok (pk a r)) v tt es := fun τ f =>
  (hA τ f).bind fun a τ1 f1 => by
    obtain ⟨τ2, e2, f2⟩ := frzMC_ok f1 (h1 a)
    rw [e2]
    dsimp only
    rw [slotsC_ok f2 (h2 a)]
    dsimp only
    rw [if_pos (h3 a)]
    have q := hF a
    cases e : mF a with
    | ok r =>
      rw [e] at q
      have q : G (ps a) = .ok (vF r) (ou a r) := q
      rw [q]
      obtain ⟨τ3, e3, f3⟩ := backC_ok f2 (h4 a r)
      have z := hs r
      have hv' := hv a r
      generalize vF r = x at z hv' ⊢
      cases x with
      | slot i => cases z
      | val d =>
        dsimp only
        rw [e3]
        exact ⟨τ3, by rw [hv'], f3.wk (ht a r)⟩
      | tmp d =>
        dsimp only
        rw [e3]
        exact ⟨τ3, by rw [hv'], f3.wk (ht a r)⟩
    | ex c g o => trivial
    | no => trivial
/-! ### a def -/
def outC : Te → Cs → Option Te
  | [], _ => some []
  | p :: ps, c :: cs => match isIo (some p), c, outC ps cs with
    | true, some (.ct .io false x), some r => some (.ct .io false x :: r)
    | false, _, some r => some (p :: r)
    | _, _, _ => none
  | _ :: _, [] => none
theorem kept_cons {p t : Sl} {ps τ : Te} : kept (p :: ps) (t :: τ) = ((!isIo (some p) || ioOk (some t)) && kept ps τ) := by
  unfold kept
  rw [List.length_cons, List.range_succ_eq_map, List.all_cons, List.all_map]
  rfl
theorem outC_ok : ∀ {ps τ : Te} {cs : Cs} {o : Te}, Fit τ cs → outC ps cs = some o → kept ps τ = true ∧ outsOf ps τ = o
  | [], τ, cs, o, f, e => by
    cases e
    refine ⟨rfl, ?_⟩
    unfold outsOf
    rfl
  | p :: ps, [], [], o, f, e => by cases e
  | p :: ps, _ :: _, [], o, f, e => f.elim
  | p :: ps, [], some _ :: _, o, f, e => f.elim
  | p :: ps, [], none :: _, o, f, e => f.elim
  | p :: ps, t :: τ, c :: cs, o, f, e => by
    have f' : Fit τ cs := by
      cases c with
      | none => exact f.2
      | some s => exact f.2
    unfold outC at e
    cases q : outC ps cs with
    | none =>
      rw [q] at e
      split at e
      · rename_i h
        cases h
      · rename_i h
        cases h
      · cases e
    | some r =>
      obtain ⟨k1, k2⟩ := outC_ok f' q
      rw [q] at e
      cases h : isIo (some p) with
      | false =>
        rw [h] at e
        have e : p :: r = o := by
          cases c with
          | none => exact Option.some.inj e
          | some s => exact Option.some.inj e
        refine ⟨by rw [kept_cons, h, k1]; rfl, ?_⟩
        unfold outsOf
        rw [if_neg (by rw [h]; decide), k2]
        exact e
      | true =>
        rw [h] at e
        split at e
        · rename_i x r' q1 q2 q3
          cases q3
          cases e
          have ft := f.1
          subst ft
          refine ⟨by rw [kept_cons, k1]; simp [ioOk], ?_⟩
          unfold outsOf
          rw [if_pos h, k2]
        · exact absurd ‹true = false› (by decide)
        · cases e
def rvS : SR → Option RV
  | .rt (.val d) => some (.val d)
  | .rt (.tmp d) => some (.tmp d)
  | .nx => some (.val .none)
  | _ => none
theorem fit0 : ∀ (ps : Te) (k : Nat), Fit (ps ++ List.replicate k .no) (ps.map some ++ List.replicate k none)
  | [], 0 => trivial
  | [], k + 1 => ⟨rfl, fit0 [] k⟩
  | p :: ps, k => ⟨rfl, fit0 ps k⟩
theorem fn_of {N : Nat} {ps : Te} {m : P γ} {w : γ → SR} {u : γ → Cs} {v : γ → RV} {ou : γ → Te} {eo : List Ct → Te} (h : SG F (ps.map some ++ List.replicate (N - ps.length) none) m w u es) (hr : ∀ a, rvS (w a) = some (v a)) (ho : ∀ a, outC ps (u a) = some (ou a)) (he : ∀ o, outC ps (es o) = some (eo o)) : FnS (mkFd N F) ps m v ou eo := by
  have q := h _ (fit0 ps _)
  cases m with
  | no => trivial
  | ok a =>
    obtain ⟨τ, e, f⟩ := q
    obtain ⟨k1, k2⟩ := outC_ok f (ho a)
    show fin1 ps (F _) = _
    rw [e]
    have z := hr a
    generalize w a = x at z ⊢
    cases x with
    | nx =>
      have z : some (RV.val PyData.none) = some (v a) := z
      rw [← Option.some.inj z]
      show (if kept ps τ = true then Res.ok (RV.val PyData.none) (outsOf ps τ) else .stuck) = _
      rw [if_pos k1, k2]
    | bk => cases z
    | ct => cases z
    | rt r =>
      cases r with
      | slot i => cases z
      | val d =>
        have z : some (RV.val d) = some (v a) := z
        rw [← Option.some.inj z]
        show (if kept ps τ = true then Res.ok (RV.val d) (outsOf ps τ) else .stuck) = _
        rw [if_pos k1, k2]
      | tmp d =>
        have z : some (RV.tmp d) = some (v a) := z
        rw [← Option.some.inj z]
        show (if kept ps τ = true then Res.ok (RV.tmp d) (outsOf ps τ) else .stuck) = _
        rw [if_pos k1, k2]
  | ex c g o =>
    obtain ⟨τ, e, f⟩ := q
    obtain ⟨k1, k2⟩ := outC_ok f (he o)
    show fin1 ps (F _) = _
    rw [e]
    show (if kept ps τ = true then Res.exc c g (outsOf ps τ) else .stuck) = _
    rw [if_pos k1, k2]
/-! ### handled errors -/
theorem e_exf {x : Exn} {f : Str} {l : List Str} (h : cs[i]? = some (some (.nv (some (.e x))))) : SG (fExF i f l) cs (if l.contains x.c = true then optP (x.f.bind fun fs => fs.lookup f) else .no) RV.val (fun _ => cs) es := fun τ f' => by
  unfold fExF
  rw [f'.at_ h]
  dsimp only
  by_cases c : l.contains x.c = true
  · rw [if_pos c, if_pos c]
    cases x.f.bind fun fs => fs.lookup f with
    | some d => exact ⟨τ, rfl, f'⟩
    | none => trivial
  · rw [if_neg c, if_neg c]
    trivial
theorem e_exi {x : Exn} {tab : List (Str × Bool)} (h : cs[i]? = some (some (.nv (some (.e x))))) : SG (fExI i tab) cs ((optP (tab.lookup x.c)).bind fun b => .ok (PyData.bool b)) RV.val (fun _ => cs) es := fun τ f' => by
  unfold fExI
  rw [f'.at_ h]
  dsimp only
  cases tab.lookup x.c with
  | some d => exact ⟨τ, rfl, f'⟩
  | none => trivial
/-! ### dicts -/
def slotDC (cs : Cs) (i : Nat) : Option KD := match cs[i]? with
  | some (some (.ct _ _ (.D none kd))) => some kd
  | some (some (.nv (some (.d kd)))) => some kd
  | _ => none
theorem slotDC_ok {τ : Te} {kd : KD} (f : Fit τ cs) (e : slotDC cs i = some kd) : slotD τ i = some kd := by
  unfold slotDC at e
  split at e
  · rename_i q
    unfold slotD
    rw [f.at_ q]
    exact e
  · rename_i q
    unfold slotD
    rw [f.at_ q]
    exact e
  · cases e
theorem keyAt_ok {τ : Te} {r : RV} (f : Fit τ cs) (e : lookC cs r = some d) : keyAt τ r = keyOf d := by
  unfold keyAt
  rw [lookC_ok f e]
  rfl
theorem e_dict0 : SG fDict0 cs (.ok ()) (fun _ => RV.tmp (.D none [])) (fun _ => cs) es := fun τ f => ⟨τ, rfl, f⟩
theorem e_dget {kd : KD} {da : α → PyData} (h : slotDC cs i = some kd) (ha : SG Fa cs ma va (fun _ => cs) es) (hl : ∀ a, lookC cs (va a) = some (da a)) :
    SG (fDGet i Fa) cs (ma.bind fun a => (optP (keyOf (da a))).bind fun k => optP (valD kd k)) RV.val (fun _ => cs) es := fun τ f => by
  unfold fDGet
  rw [slotDC_ok f h]
  refine (ha τ f).bind fun a τ1 f1 => ?_
  rw [slotDC_ok f1 h, keyAt_ok f1 (hl a)]
  cases keyOf (da a) with
  | none => trivial
  | some k =>
    dsimp only
    show Sm (match valD kd k with | some d => Res.ok (RV.val d) τ1 | none => .stuck) (optP (valD kd k)) _ _ _
    cases valD kd k with
    | none => trivial
    | some d => exact ⟨τ1, rfl, f1⟩
theorem e_din {kd : KD} {neg : Bool} {da : α → PyData} (ha : SG Fa cs ma va (fun _ => cs) es) (hl : ∀ a, lookC cs (va a) = some (da a)) (h : slotDC cs i = some kd) :
    SG (fDIn neg Fa i) cs (ma.bind fun a => (optP (keyOf (da a))).bind fun k => .ok (PyData.bool ((valD kd k).isSome != neg))) RV.val (fun _ => cs) es := fun τ f =>
  (ha τ f).bind fun a τ1 f1 => by
    rw [slotDC_ok f1 h, keyAt_ok f1 (hl a)]
    cases keyOf (da a) with
    | none => trivial
    | some k => exact ⟨τ1, rfl, f1⟩
theorem e_dget2 {kd : KD} {da : α → PyData} {mb : P β} {vb : β → RV} {db : β → PyData} (h : slotDC cs i = some kd) (ha : SG Fa cs ma va (fun _ => cs) es) (hl : ∀ a, lookC cs (va a) = some (da a)) (hb : SG Fb cs mb vb (fun _ => cs) es) (hf : ∀ b, frzC cs (vb b) = some (db b, cs)) :
    SG (fDGet2 i Fa Fb) cs (ma.bind fun a => (optP (keyOf (da a))).bind fun k => mb.bind fun b => .ok ((valD kd k).getD (db b))) RV.val (fun _ => cs) es := fun τ f => by
  unfold fDGet2
  rw [slotDC_ok f h]
  refine (ha τ f).bind fun a τ1 f1 => ?_
  rw [keyAt_ok f1 (hl a)]
  cases keyOf (da a) with
  | none => trivial
  | some k =>
    dsimp only
    show Sm ((Fb τ1).bind _) (mb.bind _) _ _ _
    refine (hb τ1 f1).bind fun b τ2 f2 => ?_
    obtain ⟨τ3, e3, f3⟩ := frzC_ok f2 (hf b)
    rw [slotDC_ok f2 h, e3]
    exact ⟨τ3, rfl, f3⟩
def putP (kd : KD) (k : Key) (d : PyData) : P KD := if kd.length < 100000 then .ok (putD kd k d) else .no
def dSl (cs : Cs) (i : Nat) : Option (Kd × Bool × KD) := match cs[i]? with
  | some (some (.ct .ow l (.D none kd))) => some (.ow, l, kd)
  | some (some (.ct .io l (.D none kd))) => some (.io, l, kd)
  | _ => none
theorem s_setD {mb : α → P β} {wb : α → β → RV} {tb : α → β → Cs} {da : α → PyData} {di : α → β → PyData} {t3 : α → Cs} {x0 : α → KD} {kk : α → β → Kd} {ll : α → β → Bool} {kd : α → β → KD} (hv : SG Fa cs ma va ta es) (hh : ∀ a, holdC (va a) = some (wa a)) (hf : ∀ a, frzC (ta a) (wa a) = some (da a, t3 a)) (h0 : ∀ a, slotDC (t3 a) i = some (x0 a))
    (hi : ∀ a, SG Fb (t3 a) (mb a) (wb a) (tb a) es) (hl : ∀ a b, lookC (tb a b) (wb a b) = some (di a b)) (h1 : ∀ a b, dSl (tb a b) i = some (kk a b, ll a b, kd a b)) :
    SG (fSetD i Fa Fb) cs (ma.bind fun a => (mb a).bind fun b => (optP (keyOf (di a b))).bind fun k => (putP (kd a b) k (da a)).bind fun r => .ok ((a, b), r)) (fun _ => SR.nx) (fun x => (tb x.1.1 x.1.2).set i (some (.ct (kk x.1.1 x.1.2) (ll x.1.1 x.1.2) (.D none x.2)))) es := fun τ f =>
  (hv τ f).bind fun a τ1 f1 => by
    rw [holdC_ok (hh a)]
    obtain ⟨τ3, e, f3⟩ := frzC_ok f1 (hf a)
    show Sm (match frz1 (wa a) τ1 with
      | some (d, τ3) => match slotD τ3 i with
        | some _ => (Fb τ3).bind fun ri τ4 => match keyAt τ4 ri with
          | some k => match τ4[i]? with
            | some (.ct .ow l (.D none kd)) => if kd.length < 100000 then Res.ok SR.nx (τ4.set i (.ct .ow l (.D none (putD kd k d)))) else .stuck
            | some (.ct .io l (.D none kd)) => if kd.length < 100000 then Res.ok SR.nx (τ4.set i (.ct .io l (.D none (putD kd k d)))) else .stuck
            | _ => .stuck
          | none => .stuck
        | none => .stuck
      | none => .stuck) _ _ _ _
    rw [e]
    dsimp only
    rw [slotDC_ok f3 (h0 a)]
    dsimp only
    refine (hi a τ3 f3).bind fun b τ4 f4 => ?_
    rw [keyAt_ok f4 (hl a b)]
    cases keyOf (di a b) with
    | none => trivial
    | some k =>
      dsimp only
      show Sm _ ((putP (kd a b) k (da a)).bind _) _ _ _
      unfold putP
      have q := h1 a b
      unfold dSl at q
      split at q
      · rename_i q1
        simp only [Option.some.injEq, Prod.mk.injEq] at q
        obtain ⟨q2, q3, q4⟩ := q
        rw [f4.at_ q1]
        dsimp only
        rw [q4]
        by_cases c : (kd a b).length < 100000
        · rw [if_pos c, if_pos c]
          exact ⟨_, rfl, by dsimp only; rw [← q2, ← q3]; exact f4.set⟩
        · rw [if_neg c, if_neg c]
          trivial
      · rename_i q1
        simp only [Option.some.injEq, Prod.mk.injEq] at q
        obtain ⟨q2, q3, q4⟩ := q
        rw [f4.at_ q1]
        dsimp only
        rw [q4]
        by_cases c : (kd a b).length < 100000
        · rw [if_pos c, if_pos c]
          exact ⟨_, rfl, by dsimp only; rw [← q2, ← q3]; exact f4.set⟩
        · rw [if_neg c, if_neg c]
          trivial
      · cases q
theorem e_items {kk : Kd} {l : Bool} {kd : KD} (h : cs[i]? = some (some (.ct kk l (.D none kd)))) (hk : kk ≠ .ro) : SG (fListItems i) cs (.ok (itemsD kd)) (fun r => RV.tmp (.L r)) (fun _ => cs) es := fun τ f => by
  unfold fListItems
  rw [f.at_ h]
  cases kk with
  | ow => exact ⟨τ, rfl, f⟩
  | io => exact ⟨τ, rfl, f⟩
  | ro => exact absurd rfl hk
theorem e_revL {da : α → PyData} (ha : SG Fa cs ma va (fun _ => cs) es) (hl : ∀ a, lookC cs (va a) = some (da a)) : SG (fRevL Fa) cs (ma.bind fun a => (asL (da a)).bind fun r => .ok r.reverse) (fun r => RV.tmp (.L r)) (fun _ => cs) es := fun τ f =>
  (ha τ f).bind fun a τ1 f1 => by
    rw [lookC_ok f1 (hl a)]
    cases da a with
    | list r => exact ⟨τ1, rfl, f1⟩
    | _ => trivial
end
end U
end

section
set_option Elab.async false
set_option linter.all false
set_option maxRecDepth 100000
set_option maxHeartbeats 2000000
/-! U6: what the generator leans on. -/
namespace U
open PySem PySem.Spec PyProof.Rows L2 Z T
def ctL : Ct → List PyData
  | .L ds => ds
  | _ => []
def SO.mapN {α β ρ : Type} (f : α → β) : SO α ρ → SO β ρ
  | .nx a => .nx (f a)
  | .rt r => .rt r
theorem ite_soB {α ρ γ : Type} {c : Prop} [Decidable c] {x : P (SO α ρ)} {a : α} {n : α → P γ} {inj : ρ → γ} : (if c then x else .ok (.nx a)).bind (soB n inj) = if c then x.bind (soB n inj) else n a := by
  split
  · rfl
  · rfl
end U
end

section
set_option Elab.async false
set_option linter.all false
set_option maxRecDepth 100000
set_option maxHeartbeats 2000000
/-! U7: comprehensions of two clauses. -/
namespace U
open PySem PySem.Spec PyProof.Rows L2 Z T
section
variable {α α1 β γ γ1 : Type} {cs : Cs} {es : List Ct → Cs}
theorem lcF_ok {cw : Cs} {vs : List Nat} {g : FG} {t : FT} {e : FE} {mg : PyData → P α} {tg : PyData → α → Cs} {mt : PyData → α → P Bool} {me : PyData → α → P β} {ve : PyData → α → β → RV} {te : PyData → α → β → Cs} {dv : PyData → α → β → PyData} {t3 : PyData → α → β → Cs} {es1 es2 : List Ct → Cs}
    (hg : ∀ d, GSm g cw d (mg d) (tg d)) (ht : ∀ d a, SG t (tg d a) (mt d a) (fun b => b) (fun _ => tg d a) es1) (he : ∀ d a, SG e (tg d a) (me d a) (ve d a) (te d a) es2)
    (hd : ∀ d a b, endC (te d a b) (ve d a b) = some (dv d a b, t3 d a b)) (hk : ∀ d a b, wipeC (t3 d a b) vs = cw) (hk2 : ∀ d a, wipeC (tg d a) vs = cw) :
    ∀ (ds : List PyData) (τ : Te) (acc : List PyData), Fit (wipeT τ vs) cw → match pLc (fun d => (mg d).bind fun a => (mt d a).bind fun b => if b = true then (me d a).bind fun y => .ok (some (dv d a y)) else .ok none) ds acc with
        | .ok r => ∃ τ', lcF vs g t e ds τ acc = .ok r τ' ∧ Fit (wipeT τ' vs) cw
        | .ex _ _ _ => False
        | .no => True := by
  intro ds
  induction ds with
  | nil => exact fun τ acc f => ⟨τ, rfl, f⟩
  | cons d ds ih =>
    intro τ acc f
    have q1 := hg d _ f
    unfold pLc lcF
    cases e1 : mg d with
    | no => trivial
    | ex c f o =>
      rw [e1] at q1
      exact q1.elim
    | ok a =>
      rw [e1] at q1
      obtain ⟨τ2, e2, f2⟩ := q1
      rw [e2]
      dsimp only [P.bind]
      have q2 := ht d a τ2 f2
      cases e3 : mt d a with
      | no => trivial
      | ex c f o => trivial
      | ok b =>
        rw [e3] at q2
        obtain ⟨τ3, e4, f3⟩ := q2
        rw [e4]
        dsimp only
        by_cases c : b = true
        · rw [if_pos c, if_pos c]
          have q3 := he d a τ3 f3
          cases e5 : me d a with
          | no => trivial
          | ex c f o => trivial
          | ok y =>
            rw [e5] at q3
            obtain ⟨τ4, e6, f4⟩ := q3
            rw [e6]
            obtain ⟨r', e7, τ5, e8, f5⟩ := endC_ok f4 (hd d a y)
            dsimp only
            rw [e7]
            dsimp only
            rw [e8]
            dsimp only
            by_cases l : acc.length < 100000
            · rw [if_pos l, if_pos l]
              exact ih τ5 _ (by rw [← hk d a y]; exact wipe_ok f5 vs)
            · rw [if_neg l, if_neg l]
              trivial
        · rw [if_neg c, if_neg c]
          exact ih τ3 _ (by rw [← hk2 d a]; exact wipe_ok f3 vs)
def pLc2 (f : PyData → P (Option (List PyData × (PyData → P (Option PyData))))) : List PyData → List PyData → P (List PyData)
  | [], acc => .ok acc
  | d :: ds, acc => match f d with
    | .ok (some z) => match pLc z.2 z.1 acc with
      | .ok acc' => pLc2 f ds acc'
      | _ => .no
    | .ok none => pLc2 f ds acc
    | _ => .no
theorem e_lc2 {S S1 : FI} {vs vs1 : List Nat} {g g1 : FG} {t t1 : FT} {e : FE} {mi : P γ} {vi : γ → List PyData} {c1 : γ → Cs} {cw : γ → Cs} {mg : γ → PyData → P α} {tg : γ → PyData → α → Cs} {mt : γ → PyData → α → P Bool}
    {mi1 : γ → PyData → α → P γ1} {vi1 : γ → PyData → α → γ1 → List PyData} {cw1 : γ → PyData → α → Cs} {mg1 : γ → PyData → α → PyData → P α1} {tg1 : γ → PyData → α → PyData → α1 → Cs} {mt1 : γ → PyData → α → PyData → α1 → P Bool}
    {me : γ → PyData → α → PyData → α1 → P β} {ve : γ → PyData → α → PyData → α1 → β → RV} {te : γ → PyData → α → PyData → α1 → β → Cs} {dv : γ → PyData → α → PyData → α1 → β → PyData} {t3 : γ → PyData → α → PyData → α1 → β → Cs} {es0 es1 es2 es3 : List Ct → Cs}
    (hS : SG S cs mi vi c1 es) (hw : ∀ x, wipeC (c1 x) vs = cw x) (hg : ∀ x d, GSm g (cw x) d (mg x d) (tg x d)) (ht : ∀ x d a, SG t (tg x d a) (mt x d a) (fun b => b) (fun _ => tg x d a) es1)
    (hS1 : ∀ x d a, SG S1 (tg x d a) (mi1 x d a) (vi1 x d a) (fun _ => tg x d a) es0) (hw1 : ∀ x d a, wipeC (tg x d a) vs1 = cw1 x d a)
    (hg1 : ∀ x d a d1, GSm g1 (cw1 x d a) d1 (mg1 x d a d1) (tg1 x d a d1)) (ht1 : ∀ x d a d1 a1, SG t1 (tg1 x d a d1 a1) (mt1 x d a d1 a1) (fun b => b) (fun _ => tg1 x d a d1 a1) es3)
    (he : ∀ x d a d1 a1, SG e (tg1 x d a d1 a1) (me x d a d1 a1) (ve x d a d1 a1) (te x d a d1 a1) es2)
    (hd : ∀ x d a d1 a1 b, endC (te x d a d1 a1 b) (ve x d a d1 a1 b) = some (dv x d a d1 a1 b, t3 x d a d1 a1 b)) (hk : ∀ x d a d1 a1 b, wipeC (t3 x d a d1 a1 b) vs1 = cw1 x d a) (hk1 : ∀ x d a d1 a1, wipeC (tg1 x d a d1 a1) vs1 = cw1 x d a)
    (hk2 : ∀ x d a, wipeC (tg x d a) vs = cw x) (hk3 : ∀ x d a, wipeC (cw1 x d a) vs = cw x) :
    SG (fLc2 S vs g t S1 vs1 g1 t1 e) cs (mi.bind fun x => (pLc2 (fun d => (mg x d).bind fun a => (mt x d a).bind fun b => if b = true then (mi1 x d a).bind fun z => .ok (some (vi1 x d a z, fun d1 => (mg1 x d a d1).bind fun a1 => (mt1 x d a d1 a1).bind fun b1 => if b1 = true then (me x d a d1 a1).bind fun y => .ok (some (dv x d a d1 a1 y)) else .ok none)) else .ok none) (vi x) []).bind fun r => .ok (x, r)) (fun r => .tmp (.L r.2)) (fun r => cw r.1) es := fun τ f =>
  (hS τ f).bind fun x τ1 f1 => by
    have go : ∀ (ds : List PyData) (τ : Te) (acc : List PyData), Fit (wipeT τ vs) (cw x) → match pLc2 (fun d => (mg x d).bind fun a => (mt x d a).bind fun b => if b = true then (mi1 x d a).bind fun z => .ok (some (vi1 x d a z, fun d1 => (mg1 x d a d1).bind fun a1 => (mt1 x d a d1 a1).bind fun b1 => if b1 = true then (me x d a d1 a1).bind fun y => .ok (some (dv x d a d1 a1 y)) else .ok none)) else .ok none) ds acc with
        | .ok r => ∃ τ', lc2F vs g t S1 vs1 g1 t1 e ds τ acc = .ok r τ' ∧ Fit (wipeT τ' vs) (cw x)
        | .ex _ _ _ => False
        | .no => True := by
      intro ds
      induction ds with
      | nil => exact fun τ acc f => ⟨τ, rfl, f⟩
      | cons d ds ih =>
        intro τ acc f
        have q1 := hg x d _ f
        unfold pLc2 lc2F
        cases e1 : mg x d with
        | no => trivial
        | ex c f o =>
          rw [e1] at q1
          exact q1.elim
        | ok a =>
          rw [e1] at q1
          obtain ⟨τ2, e2, f2⟩ := q1
          rw [e2, P.bind_ok]
          dsimp only
          have q2 := ht x d a τ2 f2
          cases e3 : mt x d a with
          | no => exact True.intro
          | ex c f o => exact True.intro
          | ok b =>
            rw [e3] at q2
            obtain ⟨τ3, e4, f3⟩ := q2
            rw [e4, P.bind_ok]
            dsimp only
            by_cases c : b = true
            · rw [if_pos c, if_pos c]
              have q3 := hS1 x d a τ3 f3
              cases e5 : mi1 x d a with
              | no => exact True.intro
              | ex c f o => exact True.intro
              | ok z =>
                rw [e5] at q3
                obtain ⟨τ4, e6, f4⟩ := q3
                rw [e6, P.bind_ok]
                dsimp only
                have q4 := lcF_ok (hg1 x d a) (ht1 x d a) (he x d a) (hd x d a) (hk x d a) (hk1 x d a) (vi1 x d a z) τ4 acc (by rw [← hw1 x d a]; exact wipe_ok f4 vs1)
                revert q4
                generalize pLc _ (vi1 x d a z) acc = pr
                intro q4
                cases pr with
                | no => trivial
                | ex c f o => exact q4.elim
                | ok acc' =>
                  obtain ⟨τ5, e7, f5⟩ := q4
                  rw [e7]
                  dsimp only
                  exact ih _ _ (by rw [← hk3 x d a]; exact wipe_ok f5 vs)
            · rw [if_neg c, if_neg c]
              exact ih τ3 _ (by rw [← hk2 x d a]; exact wipe_ok f3 vs)
    have z := go (vi x) τ1 [] (by rw [← hw x]; exact wipe_ok f1 vs)
    show Sm (lcEnd vs (lc2F vs g t S1 vs1 g1 t1 e (vi x) τ1 [])) _ _ _ _
    revert z
    generalize pLc2 _ (vi x) [] = pr
    intro z
    cases pr with
    | ok r =>
      obtain ⟨τ', e2, f2⟩ := z
      rw [e2]
      exact ⟨_, rfl, f2⟩
    | ex c f o => exact z.elim
    | no => trivial
theorem e_lcO {i : Nat} {kd : Kd} {lk : Bool} {ds0 : List PyData} {cw : Cs} {vs : List Nat} {g : FG} {t : FT} {e : FE} {mg : PyData → P α} {tg : PyData → α → Cs} {mt : PyData → α → P Bool} {me : PyData → α → P β} {ve : PyData → α → β → RV} {te : PyData → α → β → Cs} {dv : PyData → α → β → PyData} {t3 : PyData → α → β → Cs} {es1 es2 : List Ct → Cs}
    (h0 : cs[i]? = some (some (.ct kd lk (.L ds0)))) (hkd : kd ≠ .ro) (hvs : i ∉ vs) (hw : wipeC cs vs = cw) (hcw : cw[i]? = some (some (.ct kd lk (.L ds0))))
    (hg : ∀ d, GSm g cw d (mg d) (tg d)) (ht : ∀ d a, SG t (tg d a) (mt d a) (fun b => b) (fun _ => tg d a) es1) (he : ∀ d a, SG e (tg d a) (me d a) (ve d a) (te d a) es2)
    (hd : ∀ d a b, endC (te d a b) (ve d a b) = some (dv d a b, t3 d a b)) (hk : ∀ d a b, wipeC (t3 d a b) vs = cw) (hk2 : ∀ d a, wipeC (tg d a) vs = cw) :
    SG (fLcO i vs g t e) cs (pLc (fun d => (mg d).bind fun a => (mt d a).bind fun b => if b = true then (me d a).bind fun y => .ok (some (dv d a y)) else .ok none) ds0 []) (fun r => .tmp (.L r)) (fun _ => cw) es := fun τ f => by
  have go : ∀ (k : Nat) (τ : Te) (acc : List PyData), k ≤ ds0.length → Fit (wipeT τ vs) cw → match pLc (fun d => (mg d).bind fun a => (mt d a).bind fun b => if b = true then (me d a).bind fun y => .ok (some (dv d a y)) else .ok none) (ds0.drop (ds0.length - k)) acc with
        | .ok r => ∃ τ', lcFO i ds0.length vs g t e k τ acc = .ok r τ' ∧ Fit (wipeT τ' vs) cw
        | .ex _ _ _ => False
        | .no => True := by
    intro k
    induction k with
    | zero =>
      intro τ acc _ f
      rw [Nat.sub_zero, List.drop_length]
      refine ⟨τ, ?_, f⟩
      unfold lcFO
      rw [f.at_ hcw]
      dsimp only
      rw [if_pos ⟨hkd, rfl⟩]
    | succ k ih =>
      intro τ acc hk1 f
      have hlt : ds0.length - (k + 1) < ds0.length := by omega
      have e0 : ds0.drop (ds0.length - (k + 1)) = ds0[ds0.length - (k + 1)] :: ds0.drop (ds0.length - k) := by
        rw [List.drop_eq_getElem_cons hlt, show ds0.length - (k + 1) + 1 = ds0.length - k by omega]
      rw [e0]
      unfold pLc lcFO
      rw [f.at_ hcw]
      dsimp only
      rw [if_pos ⟨hkd, rfl⟩, List.getElem?_eq_getElem hlt]
      dsimp only
      generalize ds0[ds0.length - (k + 1)] = d
      have ih := fun τ acc => ih τ acc (by omega)
      unfold turnF
      have q1 := hg d _ f
      cases e1 : mg d with
      | no => trivial
      | ex c f o =>
        rw [e1] at q1
        exact q1.elim
      | ok a =>
        rw [e1] at q1
        obtain ⟨τ2, e2, f2⟩ := q1
        rw [e2]
        dsimp only [P.bind]
        have q2 := ht d a τ2 f2
        cases e3 : mt d a with
        | no => trivial
        | ex c f o => trivial
        | ok b =>
          rw [e3] at q2
          obtain ⟨τ3, e4, f3⟩ := q2
          rw [e4]
          dsimp only
          by_cases c : b = true
          · rw [if_pos c, if_pos c]
            have q3 := he d a τ3 f3
            cases e5 : me d a with
            | no => trivial
            | ex c f o => trivial
            | ok y =>
              rw [e5] at q3
              obtain ⟨τ4, e6, f4⟩ := q3
              rw [e6]
              obtain ⟨r', e7, τ5, e8, f5⟩ := endC_ok f4 (hd d a y)
              dsimp only
              rw [e7]
              dsimp only
              rw [e8]
              dsimp only
              by_cases l : acc.length < 100000
              · rw [if_pos l, if_pos l]
                exact ih τ5 _ (by rw [← hk d a y]; exact wipe_ok f5 vs)
              · rw [if_neg l, if_neg l]
                trivial
          · rw [if_neg c, if_neg c]
            exact ih τ3 _ (by rw [← hk2 d a]; exact wipe_ok f3 vs)
  have z := go ds0.length τ [] (Nat.le_refl _) (by rw [← hw]; exact wipe_ok f vs)
  rw [Nat.sub_self, List.drop_zero] at z
  unfold fLcO
  rw [f.at_ h0]
  dsimp only
  rw [if_pos ⟨hkd, hvs⟩]
  cases e : pLc (fun d => (mg d).bind fun a => (mt d a).bind fun b => if b = true then (me d a).bind fun y => .ok (some (dv d a y)) else .ok none) ds0 [] with
  | ok r =>
    rw [e] at z
    obtain ⟨τ', e2, f2⟩ := z
    rw [e2]
    exact ⟨_, rfl, f2⟩
  | ex c f o =>
    rw [e] at z
    exact z.elim
  | no => trivial
theorem e_frz {δ : Type} {i : Nat} {F : FE} {m : P δ} {v : δ → RV} {t : δ → Cs} {d : PyData} {cs' : Cs} (hf : frzC cs (.slot i) = some (d, cs')) (h : SG F cs' m v t es) : SG (fFrz i F) cs m v t es := fun τ f => by
  obtain ⟨τ', e, f'⟩ := frzC_ok f hf
  unfold fFrz
  rw [e]
  exact h τ' f'
theorem s_frz {δ : Type} {i : Nat} {F : FS} {m : P δ} {v : δ → SR} {t : δ → Cs} {d : PyData} {cs' : Cs} (hf : frzC cs (.slot i) = some (d, cs')) (h : SG F cs' m v t es) : SG (fFrzS i F) cs m v t es := fun τ f => by
  obtain ⟨τ', e, f'⟩ := frzC_ok f hf
  unfold fFrzS
  rw [e]
  exact h τ' f'
end
theorem mapN_nx {α β ρ : Type} {f : α → β} {a : α} : (SO.nx a : SO α ρ).mapN f = .nx (f a) := rfl
theorem mapN_rt {α β ρ : Type} {f : α → β} {r : ρ} : (SO.rt r : SO α ρ).mapN f = .rt r := rfl
theorem ite_mapN {α β ρ : Type} {c : Prop} [Decidable c] {x y : P (SO α ρ)} {f : α → β} : (if c then x else y).bind (fun z => .ok (z.mapN f)) = if c then x.bind (fun z => .ok (z.mapN f)) else y.bind (fun z => .ok (z.mapN f)) := by
  split
  · rfl
  · rfl
end U
end

section
set_option Elab.async false
set_option linter.all false
set_option maxRecDepth 100000
set_option maxHeartbeats 4000000
/-! TV: reckoning a function by value, statement by statement. -/
namespace T
open PySem PySem.Spec PyProof.Rows L2 Z
section
variable {F K : FS} {τ τ' : Te} {r : Res SR} {G : FE} {i : Nat} {T : FT} {b : Bool}
theorem seq_nx (h : F τ = .ok .nx τ') : fSeq F K τ = K τ' := by
  unfold fSeq
  rw [h]
theorem seq_rt {v : RV} (h : F τ = .ok (.rt v) τ') : fSeq F K τ = .ok (.rt v) τ' := by
  unfold fSeq
  rw [h]
theorem seq_exc {c f} (h : F τ = .exc c f τ') : fSeq F K τ = .exc c f τ' := by
  unfold fSeq
  rw [h]
theorem if_t {F' : FS} (h : T τ = .ok true τ') : fIfS T F F' τ = F τ' := by
  unfold fIfS
  rw [h]
  rfl
theorem if_f {F' : FS} (h : T τ = .ok false τ') : fIfS T F F' τ = F' τ' := by
  unfold fIfS
  rw [h]
  rfl
theorem for_of {S : FI} {g : FG} {fb : FS} {ds : List PyData} (h : S τ = .ok ds τ') : fFor S g fb τ = loopF g fb ds τ' := by
  unfold fFor
  rw [h]
theorem loop_nil {g : FG} {fb : FS} : loopF g fb [] τ = .ok .nx τ := rfl
theorem loop_cons {g : FG} {fb : FS} {d : PyData} {ds : List PyData} {τ1 τ2 : Te} (h1 : g d τ = some τ1) (h2 : fb τ1 = .ok .nx τ2) : loopF g fb (d :: ds) τ = loopF g fb ds τ2 := by
  show (match g d τ with | none => Res.stuck | some τ1 => match fb τ1 with | .ok .nx τ2 => loopF g fb ds τ2 | .ok .ct τ2 => loopF g fb ds τ2 | .ok .bk τ2 => .ok .nx τ2 | r => r) = _
  rw [h1]
  dsimp only
  rw [h2]
/-- a loop that goes to its end: what holds between the turns -/
theorem loop_inv {g : FG} {fb : FS} (I : Nat → Te → Prop) : ∀ (ds : List PyData) (k : Nat) (τ : Te), I k τ → (∀ (j : Nat) (d : PyData) (τ : Te), ds[j]? = some d → I (k + j) τ → ∃ τ1 τ2, g d τ = some τ1 ∧ fb τ1 = .ok .nx τ2 ∧ I (k + j + 1) τ2) →
    ∃ τ', loopF g fb ds τ = .ok .nx τ' ∧ I (k + ds.length) τ'
  | [], k, τ, h, _ => ⟨τ, rfl, h⟩
  | d :: ds, k, τ, h, step => by
    obtain ⟨τ1, τ2, h1, h2, h3⟩ := step 0 d τ rfl h
    obtain ⟨τ', e, h4⟩ := loop_inv I ds (k + 1) τ2 h3 fun j d' τ3 hj hI => by
      obtain ⟨a, b, c1, c2, c3⟩ := step (j + 1) d' τ3 (by simpa using hj) (by rw [show k + (j + 1) = k + 1 + j by omega]; exact hI)
      exact ⟨a, b, c1, c2, by rw [show k + 1 + j + 1 = k + (j + 1) + 1 by omega]; exact c3⟩
    refine ⟨τ', ?_, by rw [show k + (d :: ds).length = k + 1 + ds.length by simp only [List.length_cons]; omega]; exact h4⟩
    rw [loop_cons h1 h2]
    exact e
end
theorem fd_of {N : Nat} {F : FS} {ps τ : Te} {d : PyData} (h : F (ps ++ List.replicate (N - ps.length) .no) = .ok (.rt (.val d)) τ) (k : kept ps τ = true) : mkFd N F ps = .ok (.val d) (outsOf ps τ) := by
  unfold mkFd
  rw [h]
  show (if kept ps τ = true then _ else _) = _
  rw [if_pos k]
theorem fd_ofT {N : Nat} {F : FS} {ps τ : Te} {c : Ct} (h : F (ps ++ List.replicate (N - ps.length) .no) = .ok (.rt (.tmp c)) τ) (k : kept ps τ = true) : mkFd N F ps = .ok (.tmp c) (outsOf ps τ) := by
  unfold mkFd
  rw [h]
  show (if kept ps τ = true then _ else _) = _
  rw [if_pos k]
theorem ixN_nat {n k : Nat} (h : k < n) : ixN n (k : Int) = some k := by
  unfold ixN
  rw [if_pos (Int.natCast_nonneg k), if_pos (Int.ofNat_lt.mpr h), Int.toNat_natCast]
theorem atI_natD {α : Type} {l : List α} {k : Nat} {x : α} (h : l[k]? = some x) : atI l (k : Int) = some x := by
  unfold atI
  rw [ixN_nat (List.getElem?_eq_some_iff.mp h).1]
  exact h
end T
end

section
set_option Elab.async false
set_option linter.all false
set_option maxRecDepth 100000
set_option maxHeartbeats 4000000
/-! TW: equations of the operations (their bounds are never reckoned by the kernel: where a name stands in a bound, that would count to it). -/
namespace T
open PySem PySem.Spec PyProof.Rows L2 Z
section
variable {i j : Int} {ds : List PyData} {d : PyData} {n : Nat} {τ : Te}
theorem pyI_if {C : Int → Int → Prop} [hC : ∀ i j, Decidable (C i j)] {f : Int → Int → Int} (h : C i j) : pyI (fun i j => if C i j then some (f i j) else none) (.int i) (.int j) = .v (.int (f i j)) := by
  unfold pyI
  dsimp only
  rw [if_pos h]
theorem e_add : pyAdd (.int i) (.int j) = .v (.int (i + j)) := rfl
theorem e_sub : pySub (.int i) (.int j) = .v (.int (i - j)) := rfl
theorem e_mul (h : CMul i j) : pyMulI (.int i) (.int j) = .v (.int (i * j)) := pyI_if (C := CMul) h
theorem e_mod (h : 0 < j) : pyMod (.int i) (.int j) = .v (.int (i % j)) := pyI_if (C := fun _ j => 0 < j) h
theorem e_div (h : CDiv i j) : pyDiv (.int i) (.int j) = .v (.int (i / j)) := pyI_if (C := CDiv) h
theorem e_pow (h : CPow i j) : pyPow (.int i) (.int j) = .v (.int (i ^ j.toNat)) := pyI_if (C := CPow) (f := fun i j => i ^ j.toNat) h
theorem e_lt : pyLt (.int i) (.int j) = .v (.bool (decide (i < j))) := rfl
theorem e_le : pyLe (.int i) (.int j) = .v (.bool (decide (i ≤ j))) := rfl
theorem e_gt : pyGt (.int i) (.int j) = .v (.bool (decide (j < i))) := rfl
theorem e_ge : pyGe (.int i) (.int j) = .v (.bool (decide (j ≤ i))) := rfl
theorem e_int : pyInt [.int i] = .v (.int i) := rfl
theorem e_lenL : pyLen [.list ds] = .v (.int ds.length) := rfl
theorem e_lenT : pyLen [.tuple ds] = .v (.int ds.length) := rfl
theorem e_ixL (h : atI ds i = some d) : pyIx (.list ds) (.int i) = .v d := by
  show (match atI ds i with | some d => O.v d | none => O.no) = _
  rw [h]
theorem e_ixT (h : atI ds i = some d) : pyIx (.tuple ds) (.int i) = .v d := by
  show (match atI ds i with | some d => O.v d | none => O.no) = _
  rw [h]
theorem r_v : (O.v d).res τ = .ok (.val d) τ := rfl
theorem cmulR (h1 : -(2 ^ 64) < j) (h2 : j < 2 ^ 64) : CMul i j := .inr ⟨h1, h2⟩
theorem rgOk_of (h1 : -(2 ^ 62) ≤ i) (h2 : i < 2 ^ 62) : rgOk i = true := decide_eq_true ⟨h1, h2⟩
/-! expressions that change nothing: Ev F τ d -/
abbrev Ev (F : FE) (τ : Te) (d : PyData) : Prop := F τ = .ok (.val d) τ
abbrev EvS (F : FE) (τ : Te) (r : RV) : Prop := F τ = .ok r τ
variable {Fa Fb : FE} {A : FA} {a b : PyData} {ra rb : RV} {k : Nat} {as : List PyData} {rs : List RV}
theorem v_sh (h : τ[k]? = some (.sh d)) : Ev (fVar k) τ d := by
  unfold Ev fVar
  rw [h]
theorem v_ct {kd : Kd} {l : Bool} {c : Ct} (h : τ[k]? = some (.ct kd l c)) : EvS (fVar k) τ (.slot k) := by
  unfold EvS fVar
  rw [h]
theorem v_c : Ev (fC d) τ d := rfl
theorem hold_nt (h : NoTmp ra) : hold ra τ = .ok ra τ := by
  cases ra with
  | val d => rfl
  | slot i => rfl
  | tmp c => exact absurd rfl (h c)
theorem v_op2 {g : PyData → PyData → O} (na : NoTmp ra) (ha : EvS Fa τ ra) (hb : EvS Fb τ rb) (la : look τ ra = some a) (lb : look τ rb = some b) (hg : g a b = .v d) : Ev (fOp g Fa Fb) τ d := by
  unfold Ev fOp
  rw [ha]
  show (hold ra τ).bind _ = _
  rw [hold_nt na]
  show (Fb τ).bind _ = _
  rw [hb]
  show (match look τ ra, look τ rb with | some d, some e => (g d e).res τ | _, _ => .stuck) = _
  rw [la, lb]
  show (g a b).res τ = _
  rw [hg]
/-- both data -/
theorem v_op {g : PyData → PyData → O} (ha : Ev Fa τ a) (hb : Ev Fb τ b) (hg : g a b = .v d) : Ev (fOp g Fa Fb) τ d := v_op2 nt_val ha hb rfl rfl hg
/-- the first a slot's list -/
theorem v_opS {g : PyData → PyData → O} {kd : Kd} {l : Bool} (hk : τ[k]? = some (.ct kd l (.L ds))) (hb : Ev Fb τ b) (hg : g (.list ds) b = .v d) : Ev (fOp g (fVar k) Fb) τ d :=
  v_op2 nt_slot (v_ct hk) hb (by show (match τ[k]? with | some (.sh d) => some d | some (.ct _ _ (.L ds)) => some (PyData.list ds) | _ => none) = _; rw [hk]) rfl hg
theorem v_cb1 {g : List PyData → O} (ha : EvS Fa τ ra) (na : NoTmp ra) (la : look τ ra = some a) (hg : g [a] = .v d) : Ev (fCB g (fCons Fa fNil)) τ d := by
  unfold Ev fCB fCons fNil
  rw [ha]
  show ((hold ra τ).bind _).bind _ = _
  rw [hold_nt na]
  show (match looks τ [ra] with | some ds => (g ds).res τ | none => .stuck) = _
  have e : looks τ [ra] = some [a] := by
    show (match look τ ra, looks τ [] with | some d, some ds => some (d :: ds) | _, _ => none) = _
    rw [la]
    rfl
  rw [e]
  show (g [a]).res τ = _
  rw [hg]
theorem v_cb {g : List PyData → O} (ha : Ev Fa τ a) (hg : g [a] = .v d) : Ev (fCB g (fCons Fa fNil)) τ d := v_cb1 ha nt_val rfl hg
theorem v_cbS {g : List PyData → O} {kd : Kd} {l : Bool} (hk : τ[k]? = some (.ct kd l (.L ds))) (hg : g [.list ds] = .v d) : Ev (fCB g (fCons (fVar k) fNil)) τ d :=
  v_cb1 (v_ct hk) nt_slot (by show (match τ[k]? with | some (.sh d) => some d | some (.ct _ _ (.L ds)) => some (PyData.list ds) | _ => none) = _; rw [hk]) hg
theorem v_test {c : Bool} (h : Ev Fa τ (.bool c)) : fTest Fa τ = .ok c τ := by
  unfold fTest
  rw [h]
theorem v_set (h : Ev Fa τ d) (lk : isLk τ[k]? = false) : fSet k Fa τ = .ok .nx (τ.set k (.sh d)) := by
  unfold fSet
  rw [h]
  show stoS k (.val d) τ = _
  unfold stoS sto
  rw [lk]
  rfl
theorem v_ret (h : Ev Fa τ d) : fRet Fa τ = .ok (.rt (.val d)) τ := by
  unfold fRet
  rw [h]
  rfl
theorem v_app {kd : Kd} (hk : τ[k]? = some (.ct kd false (.L ds))) (hn : kd ≠ .ro) (h : Ev Fa τ d) (hl : ds.length < 100000) : fDrop (fMut k gApp (fCons Fa fNil)) τ = .ok .nx (τ.set k (.ct kd false (.L (ds ++ [d])))) := by
  have e : ownL τ k = some (kd, ds) := by
    unfold ownL
    rw [hk]
    cases kd with
    | ow => rfl
    | io => rfl
    | ro => exact absurd rfl hn
  unfold fDrop fMut
  rw [e]
  dsimp only
  unfold fCons fNil
  rw [h]
  show (match frzs τ [RV.val d] with
    | some (as, τ2) => match ownL τ2 k with
      | some (k', ds) => match gApp ds as with
        | some (ds', d) => if flat d = true then Res.ok (RV.val d) (τ2.set k (.ct k' false (.L ds'))) else .stuck
        | none => .stuck
      | none => .stuck
    | none => .stuck : Res RV).bind _ = _
  have e2 : frzs τ [RV.val d] = some ([d], τ) := rfl
  rw [e2]
  dsimp only
  rw [e]
  dsimp only
  have e3 : gApp ds [d] = some (ds ++ [d], .none) := by
    show (if ds.length < 100000 then some (ds ++ [d], PyData.none) else none) = _
    rw [if_pos hl]
  rw [e3]
  rfl
theorem v_setIx {j : Nat} {kd : Kd} {m : Nat} (h : Ev Fa τ d) (hi : Ev Fb τ (.int i)) (hk : τ[j]? = some (.ct kd false (.L ds))) (hn : kd ≠ .ro) (ix : ixN ds.length i = some m) : fSetIx j Fa Fb τ = .ok .nx (τ.set j (.ct kd false (.L (ds.set m d)))) := by
  have e : ownL τ j = some (kd, ds) := by
    unfold ownL
    rw [hk]
    cases kd with
    | ow => rfl
    | io => rfl
    | ro => exact absurd rfl hn
  unfold fSetIx
  rw [h]
  show (match frz1 (.val d) τ with
  | some (d, τ3) => match ownL τ3 j with
    | some _ => (Fb τ3).bind fun ri τ4 => match look τ4 ri with
      | some (.int k) => match ownL τ4 j with
        | some (kd, ds) => match ixN ds.length k with
          | some n => Res.ok SR.nx (τ4.set j (.ct kd false (.L (ds.set n d))))
          | none => .stuck
        | none => .stuck
      | _ => .stuck
    | none => .stuck
  | none => .stuck) = _
  have e2 : frz1 (.val d) τ = some (d, τ) := rfl
  rw [e2]
  dsimp only
  rw [e]
  dsimp only
  rw [hi]
  show (match look τ (.val (.int i)) with
      | some (.int k) => match ownL τ j with
        | some (kd, ds) => match ixN ds.length k with
          | some n => Res.ok SR.nx (τ.set j (.ct kd false (.L (ds.set n d))))
          | none => .stuck
        | none => .stuck
      | _ => .stuck) = _
  have e3 : look τ (.val (.int i)) = some (.int i) := rfl
  rw [e3]
  dsimp only
  rw [e]
  dsimp only
  rw [ix]
theorem w_setIx {j : Nat} {kd : Kd} {m : Nat} {τ' : Te} (hk : τ[j]? = some (.ct kd false (.L ds))) (hn : kd ≠ .ro) (h : Ev Fa τ d) (hi : Ev Fb τ (.int i)) (ix : ixN ds.length i = some m) (e : τ.set j (.ct kd false (.L (ds.set m d))) = τ') : fSetIx j Fa Fb τ = .ok .nx τ' := by
  rw [← e]
  exact v_setIx h hi hk hn ix
theorem w_app {kd : Kd} {τ' : Te} (hk : τ[k]? = some (.ct kd false (.L ds))) (hn : kd ≠ .ro) (h : Ev Fa τ d) (hl : ds.length < 100000) (e : τ.set k (.ct kd false (.L (ds ++ [d]))) = τ') : fDrop (fMut k gApp (fCons Fa fNil)) τ = .ok .nx τ' := by
  rw [← e]
  exact v_app hk hn h hl
theorem w_set {τ' : Te} (h : Ev Fa τ d) (lk : isLk τ[k]? = false) (e : τ.set k (.sh d) = τ') : fSet k Fa τ = .ok .nx τ' := by
  rw [← e]
  exact v_set h lk
theorem v_call2 {F : Fd} (ha : Ev Fa τ a) (hb : Ev Fb τ b) (hF : F [.sh a, .sh b] = .ok (.val d) [.sh a, .sh b]) : Ev (fCall [.sh, .sh] F (fCons Fa (fCons Fb fNil))) τ d := by
  have hA : fCons Fa (fCons Fb fNil) τ = .ok [.val a, .val b] τ := by
    unfold fCons
    rw [ha]
    show ((Fb τ).bind _).bind _ = _
    rw [hb]
    rfl
  unfold Ev fCall
  rw [hA]
  show (if apart [Pm.sh, Pm.sh] [RV.val a, RV.val b] = true then (match F [Sl.sh a, Sl.sh b] with
      | Res.ok (RV.val d) outs => match back outs 0 [Pm.sh, Pm.sh] [RV.val a, RV.val b] τ with
        | some τ3 => Res.ok (RV.val d) τ3
        | none => Res.stuck
      | Res.ok (RV.tmp c) outs => match back outs 0 [Pm.sh, Pm.sh] [RV.val a, RV.val b] τ with
        | some τ3 => Res.ok (RV.tmp c) τ3
        | none => Res.stuck
      | Res.exc c f outs => match back outs 0 [Pm.sh, Pm.sh] [RV.val a, RV.val b] τ with
        | some τ3 => Res.exc c f τ3
        | none => Res.stuck
      | _ => Res.stuck) else Res.stuck) = _
  rw [hF]
  rfl
theorem gN_ok (lk : isLk τ[k]? = false) : gN k d τ = some (τ.set k (.sh d)) := by
  unfold gN sto
  rw [lk]
  rfl
theorem rg_at {lo : Int} {j : Nat} (h : (rgItems lo n)[j]? = some d) : d = .int (lo + j) ∧ j < n := by
  unfold rgItems at h
  rw [List.getElem?_map] at h
  cases q : (List.range n)[j]? with
  | none =>
    rw [q] at h
    cases h
  | some m =>
    rw [q] at h
    obtain ⟨h1, h2⟩ := List.getElem?_eq_some_iff.mp q
    rw [List.getElem_range] at h2
    rw [List.length_range] at h1
    subst h2
    cases h
    exact ⟨rfl, h1⟩
theorem rg_len {lo : Int} : (rgItems lo n).length = n := by simp [rgItems]
theorem v_range1 (h : Ev Fa τ (.int i)) (h1 : -(2 ^ 62) ≤ i) (h2 : i < 2 ^ 62) : fRange1 (fCons Fa fNil) τ = .ok (rgItems 0 i.toNat) τ := by
  have hA : fCons Fa fNil τ = .ok [.val (.int i)] τ := by
    unfold fCons
    rw [h]
    rfl
  unfold fRange1
  rw [hA]
  show (if rgOk i = true then Res.ok (rgItems 0 i.toNat) τ else .stuck) = _
  rw [if_pos (rgOk_of h1 h2)]
theorem v_range2 (h : Ev Fa τ (.int i)) (h' : Ev Fb τ (.int j)) (h1 : -(2 ^ 62) ≤ i) (h2 : i < 2 ^ 62) (h3 : -(2 ^ 62) ≤ j) (h4 : j < 2 ^ 62) : fRange2 (fCons Fa (fCons Fb fNil)) τ = .ok (rgItems i (j - i).toNat) τ := by
  have hA : fCons Fa (fCons Fb fNil) τ = .ok [.val (.int i), .val (.int j)] τ := by
    unfold fCons
    rw [h]
    show ((Fb τ).bind _).bind _ = _
    rw [h']
    rfl
  unfold fRange2
  rw [hA]
  show (if rgOk i = true ∧ rgOk j = true then Res.ok (rgItems i (j - i).toNat) τ else .stuck) = _
  rw [if_pos ⟨rgOk_of h1 h2, rgOk_of h3 h4⟩]
end
end T
end

section
set_option Elab.async false
set_option linter.all false
set_option maxRecDepth 100000
set_option maxHeartbeats 2000000
/-! V1: reasoning about plain functions of data; the drawing of digits. -/
namespace U
open PySem PySem.Spec PyProof.Rows L2 Z T
/-! ### steps -/
section
variable {i j : Int} {a b : Bool} {d e : PyData} {ds es : List PyData} {s t : Str} {n k : Nat} {α β γ ρ : Type}
theorem po_v : O.p (.v d) = .ok d := rfl
theorem po_t : O.p (.t ds) = .ok (.tuple ds) := rfl
theorem po_l : O.pl (.l ds) = .ok ds := rfl
theorem asB_b : asB (.bool b) = .ok b := rfl
theorem asI_i : asI (.int i) = .ok i := rfl
theorem asS_s : asS (.str s) = .ok s := rfl
theorem asL_l : asL (.list ds) = .ok ds := rfl
theorem optP_s {x : α} : optP (some x) = .ok x := rfl
theorem y_add : O.p (pyAdd (.int i) (.int j)) = .ok (.int (i + j)) := rfl
theorem y_sub : O.p (pySub (.int i) (.int j)) = .ok (.int (i - j)) := rfl
theorem y_mulR (h1 : -(2 ^ 64) < j) (h2 : j < 2 ^ 64) : O.p (pyMulI (.int i) (.int j)) = .ok (.int (i * j)) := by rw [e_mul (cmulR h1 h2)]; rfl
theorem y_mulL (h1 : -(2 ^ 64) < i) (h2 : i < 2 ^ 64) : O.p (pyMulI (.int i) (.int j)) = .ok (.int (i * j)) := by rw [e_mul (.inl ⟨h1, h2⟩)]; rfl
theorem y_mod (h : 0 < j) : O.p (pyMod (.int i) (.int j)) = .ok (.int (i % j)) := by rw [e_mod h]; rfl
theorem y_div (h : 0 < j) (h2 : j < 1073741824) : O.p (pyDiv (.int i) (.int j)) = .ok (.int (i / j)) := by rw [e_div ⟨h, h2⟩]; rfl
theorem y_pow (h1 : 0 ≤ j) (h2 : j ≤ 1000000) (h3 : i.natAbs < 2 ^ 64) : O.p (pyPow (.int i) (.int j)) = .ok (.int (i ^ j.toNat)) := by rw [e_pow ⟨h1, h2, h3⟩]; rfl
theorem y_neg : O.p (pyNeg (.int i)) = .ok (.int (-i)) := rfl
theorem y_lt : O.p (pyLt (.int i) (.int j)) = .ok (.bool (decide (i < j))) := rfl
theorem y_le : O.p (pyLe (.int i) (.int j)) = .ok (.bool (decide (i ≤ j))) := rfl
theorem y_gt : O.p (pyGt (.int i) (.int j)) = .ok (.bool (decide (j < i))) := rfl
theorem y_ge : O.p (pyGe (.int i) (.int j)) = .ok (.bool (decide (j ≤ i))) := rfl
theorem y_intI : O.p (pyInt [.int i]) = .ok (.int i) := rfl
theorem y_lenL : O.p (pyLen [.list ds]) = .ok (.int ds.length) := rfl
theorem y_lenT : O.p (pyLen [.tuple ds]) = .ok (.int ds.length) := rfl
theorem y_ixL {k : Nat} (h : ds[k]? = some d) : O.p (pyIx (.list ds) (.int k)) = .ok d := by rw [e_ixL (atI_natD h)]; rfl
theorem y_ixT {k : Nat} (h : ds[k]? = some d) : O.p (pyIx (.tuple ds) (.int k)) = .ok d := by rw [e_ixT (atI_natD h)]; rfl
theorem y_tup (h : ds.length ≤ 100000) : O.p (gTupD ds) = .ok (.tuple ds) := by unfold gTupD; rw [if_pos h]; rfl
theorem y_lst (h : ds.length ≤ 100000) : O.pl (gLstD ds) = .ok ds := by unfold gLstD; rw [if_pos h]; rfl
theorem y_tupleL : O.p (pyTuple [.list ds]) = .ok (.tuple ds) := rfl
theorem y_app (h : ds.length < 100000) : appP ds d = .ok (ds ++ [d]) := by unfold appP; rw [if_pos h]
theorem y_set {k : Nat} (h : k < ds.length) : setP ds k d = .ok (ds.set k d) := by unfold setP; rw [ixN_nat h]
theorem it_l : optP (itemsOf (.list ds)) = .ok ds := rfl
theorem it_t : optP (itemsOf (.tuple ds)) = .ok ds := rfl
theorem y_rg1 (h1 : -(2 ^ 62) ≤ i) (h2 : i < 2 ^ 62) : rg1P (.int i) = .ok (rgItems 0 i.toNat) := by
  show (if rgOk i = true then P.ok (rgItems 0 i.toNat) else .no) = _
  rw [if_pos (rgOk_of h1 h2)]
theorem y_rg2 (h1 : -(2 ^ 62) ≤ i) (h2 : i < 2 ^ 62) (h3 : -(2 ^ 62) ≤ j) (h4 : j < 2 ^ 62) : rg2P (.int i) (.int j) = .ok (rgItems i (j - i).toNat) := by
  show (if rgOk i = true ∧ rgOk j = true then P.ok (rgItems i (j - i).toNat) else .no) = _
  rw [if_pos ⟨rgOk_of h1 h2, rgOk_of h3 h4⟩]
theorem y_un {n : Nat} (h : ds.length = n) : unN n (.tuple ds) = .ok ds := by
  show (if ds.length = n then P.ok ds else .no) = _
  rw [if_pos h]
theorem y_un2 : unN 2 (.tuple [d, e]) = .ok [d, e] := rfl
/-! ### loops -/
/-- a fold over told items -/
theorem fold_map {δ : Type} {f : α → PyData → P α} {enc : β → α} {en : δ → PyData} {g : β → δ → β} : ∀ {xs : List δ} {b : β}, (∀ b, ∀ x ∈ xs, f (enc b) (en x) = .ok (enc (g b x))) → pFold f (xs.map en) (enc b) = .ok (enc (xs.foldl g b))
  | [], b, _ => rfl
  | x :: xs, b, h => by
    show (f (enc b) (en x)).bind _ = _
    rw [h b x List.mem_cons_self]
    exact fold_map fun b y hy => h b y (List.mem_cons_of_mem _ hy)
/-- a comprehension over told items -/
theorem lc_fm {δ : Type} {f : PyData → P (Option PyData)} {en : δ → PyData} {g : δ → Option PyData} : ∀ {xs : List δ} {acc : List PyData}, acc.length + xs.length ≤ 100000 → (∀ x ∈ xs, f (en x) = .ok (g x)) → pLc f (xs.map en) acc = .ok (acc ++ xs.filterMap g)
  | [], acc, _, _ => by simp [pLc]
  | x :: xs, acc, l, h => by
    have e := h x List.mem_cons_self
    rw [List.length_cons] at l
    show (match f (en x) with
      | .ok (some y) => if acc.length < 100000 then pLc f (xs.map en) (acc ++ [y]) else .no
      | .ok none => pLc f (xs.map en) acc
      | _ => .no) = _
    rw [e]
    cases q : g x with
    | none =>
      dsimp only
      rw [lc_fm (by omega) fun y hy => h y (List.mem_cons_of_mem _ hy)]
      simp [q]
    | some y =>
      dsimp only
      rw [if_pos (by omega), lc_fm (by simp only [List.length_append, List.length_cons, List.length_nil]; omega) fun y hy => h y (List.mem_cons_of_mem _ hy)]
      simp [q]
theorem lc_map {δ : Type} {f : PyData → P (Option PyData)} {en : δ → PyData} {g : δ → PyData} {xs : List δ} {acc : List PyData} (l : acc.length + xs.length ≤ 100000) (h : ∀ x ∈ xs, f (en x) = .ok (some (g x))) : pLc f (xs.map en) acc = .ok (acc ++ xs.map g) := by
  rw [lc_fm (g := fun x => some (g x)) l h]
  simp
theorem lc2_fm {δ : Type} {f : PyData → P (Option (List PyData × (PyData → P (Option PyData))))} {en : δ → PyData} {h : δ → List PyData} {B : Nat} : ∀ {xs : List δ} {acc : List PyData}, acc.length + B * xs.length ≤ 100000 →
    (∀ x ∈ xs, ∀ acc : List PyData, acc.length + B ≤ 100000 → ∃ o, f (en x) = .ok o ∧ (match o with | none => h x = [] | some z => pLc z.2 z.1 acc = .ok (acc ++ h x))) → (∀ x ∈ xs, (h x).length ≤ B) → pLc2 f (xs.map en) acc = .ok (acc ++ xs.flatMap h)
  | [], acc, _, _, _ => by simp [pLc2]
  | x :: xs, acc, l, hx, hb => by
    rw [List.length_cons, Nat.mul_succ] at l
    obtain ⟨o, e, q⟩ := hx x List.mem_cons_self acc (by omega)
    show (match f (en x) with
      | .ok (some z) => match pLc z.2 z.1 acc with
        | .ok acc' => pLc2 f (xs.map en) acc'
        | _ => .no
      | .ok none => pLc2 f (xs.map en) acc
      | _ => .no) = _
    rw [e]
    cases o with
    | none =>
      dsimp only at q ⊢
      rw [lc2_fm (B := B) (h := h) (by omega) (fun y hy => hx y (List.mem_cons_of_mem _ hy)) fun y hy => hb y (List.mem_cons_of_mem _ hy)]
      simp [q]
    | some z =>
      dsimp only at q ⊢
      rw [q]
      dsimp only
      have hb1 := hb x List.mem_cons_self
      rw [lc2_fm (B := B) (h := h) (by simp only [List.length_append]; omega) (fun y hy => hx y (List.mem_cons_of_mem _ hy)) fun y hy => hb y (List.mem_cons_of_mem _ hy)]
      simp
/-! ### what comes -/
def Gt (m : P β) (R : β → Prop) : Prop := ∃ b, m = .ok b ∧ R b
theorem Gt.ok {R : β → Prop} {b : β} (h : R b) : Gt (.ok b) R := ⟨b, rfl, h⟩
theorem Gt.bind {m : P α} {k : α → P β} {R : β → Prop} {I : α → Prop} (h : Gt m I) (n : ∀ a, I a → Gt (k a) R) : Gt (m.bind k) R := by
  obtain ⟨a, e, i⟩ := h
  rw [e]
  exact n a i
theorem Gt.nox {m : P α} {I : α → Prop} (h : Gt m I) : Gt m.nox I := by
  obtain ⟨a, e, i⟩ := h
  rw [e]
  exact ⟨a, rfl, i⟩
theorem Gt.mono {m : P α} {I J : α → Prop} (h : Gt m I) (i : ∀ a, I a → J a) : Gt m J := by
  obtain ⟨a, e, q⟩ := h
  exact ⟨a, e, i a q⟩
theorem Gt.and {m : P α} {I J : α → Prop} (h : Gt m I) (q : Gt m J) : Gt m fun a => I a ∧ J a := by
  obtain ⟨a, e, i⟩ := h
  obtain ⟨b, e2, j⟩ := q
  rw [e] at e2
  cases e2
  exact ⟨a, e, i, j⟩
theorem Gt.ite {c : Prop} [Decidable c] {x y : P α} {I : α → Prop} (h1 : c → Gt x I) (h2 : ¬ c → Gt y I) : Gt (if c then x else y) I := by
  split
  · exact h1 ‹_›
  · exact h2 ‹_›
theorem Gt.fold {f : α → PyData → P α} {I : α → Prop} {Q : PyData → Prop} {ds : List PyData} {a : α} (h : I a) (q : ∀ d ∈ ds, Q d) (step : ∀ a d, I a → Q d → Gt (f a d) I) : Gt (pFold f ds a) I := by
  induction ds generalizing a with
  | nil => exact ⟨a, rfl, h⟩
  | cons d ds ih => exact Gt.bind (step a d h (q d List.mem_cons_self)) fun a' h' => ih h' fun d hd => q d (List.mem_cons_of_mem _ hd)
/-- by the turn -/
theorem Gt.foldN {f : α → PyData → P α} (I : Nat → α → Prop) {Q : PyData → Prop} {ds : List PyData} {k N : Nat} {a : α} (hN : k + ds.length ≤ N) (h : I k a) (q : ∀ d ∈ ds, Q d) (step : ∀ k a d, k < N → I k a → Q d → Gt (f a d) (I (k + 1))) : Gt (pFold f ds a) (I (k + ds.length)) := by
  induction ds generalizing a k with
  | nil => exact ⟨a, rfl, h⟩
  | cons d ds ih =>
    rw [List.length_cons] at hN ⊢
    refine Gt.bind (step k a d (by omega) h (q d List.mem_cons_self)) fun a' h' => ?_
    have := ih (k := k + 1) (by omega) h' fun d hd => q d (List.mem_cons_of_mem _ hd)
    rw [show k + (ds.length + 1) = k + 1 + ds.length by omega]
    exact this
theorem Gt.loop {f : α → PyData → P (SO α ρ)} {I : α → Prop} {Q : PyData → Prop} {ds : List PyData} {a : α} (h : I a) (q : ∀ d ∈ ds, Q d) (step : ∀ a d, I a → Q d → Gt (f a d) (fun x => ∃ a', x = .nx a' ∧ I a')) : Gt (pLoop f ds a) (fun x => ∃ a', x = .nx a' ∧ I a') := by
  induction ds generalizing a with
  | nil => exact ⟨_, rfl, a, rfl, h⟩
  | cons d ds ih =>
    refine Gt.bind (step a d h (q d List.mem_cons_self)) fun x ⟨a', e, h'⟩ => ?_
    subst e
    exact ih h' fun d hd => q d (List.mem_cons_of_mem _ hd)
theorem Gt.lcS {σ : Type} {f : σ → PyData → P (Option PyData × σ)} (I : σ → Prop) (J : PyData → Prop) {Q : PyData → Prop} {ds : List PyData} {acc : List PyData} {s : σ} (h : I s) (ha : ∀ x ∈ acc, J x) (l : acc.length + ds.length ≤ 100000) (q : ∀ d ∈ ds, Q d) (step : ∀ s d, I s → Q d → Gt (f s d) (fun r => I r.2 ∧ ∀ x, r.1 = some x → J x)) :
    Gt (pLcS f ds acc s) (fun r => I r.2 ∧ (∀ x ∈ r.1, J x) ∧ r.1.length ≤ acc.length + ds.length) := by
  induction ds generalizing acc s with
  | nil => exact ⟨_, rfl, h, ha, by simp⟩
  | cons d ds ih =>
    rw [List.length_cons] at l
    obtain ⟨⟨o, s1⟩, e1, h1, hj⟩ := step s d h (q d List.mem_cons_self)
    have q' := fun d hd => q d (List.mem_cons_of_mem _ hd)
    cases o with
    | none =>
      obtain ⟨r, e2, h2, h3, h4⟩ := ih (acc := acc) h1 ha (by omega) q'
      refine ⟨r, ?_, h2, h3, by rw [List.length_cons]; omega⟩
      unfold pLcS
      rw [e1]
      exact e2
    | some x =>
      obtain ⟨r, e2, h2, h3, h4⟩ := ih (acc := acc ++ [x]) h1 (fun y hy => by
        rcases List.mem_append.mp hy with hy | hy
        · exact ha y hy
        · rw [List.mem_singleton.mp hy]; exact hj x rfl) (by simp only [List.length_append, List.length_cons, List.length_nil]; omega) q'
      refine ⟨r, ?_, h2, h3, by simp only [List.length_append, List.length_cons, List.length_nil] at h4 ⊢; omega⟩
      unfold pLcS
      rw [e1]
      dsimp only
      rw [if_pos (by omega)]
      exact e2
/-! ### items of a range -/
theorem rg_mem {lo : Int} {n : Nat} {d : PyData} (h : d ∈ rgItems lo n) : ∃ k : Nat, k < n ∧ d = .int (lo + k) := by
  unfold rgItems at h
  obtain ⟨k, hk, e⟩ := List.mem_map.mp h
  exact ⟨k, List.mem_range.mp hk, e.symm⟩
end
/-! ### drawing -/
def c_cell (v_script : PyData) (v_k : PyData) : P (PyData) :=
  (O.p (pyLen [v_script])).bind fun x1 =>
  (O.p (pyLt v_k x1)).bind fun x2 =>
  (asB x2).bind fun c3 =>
  if c3 = true then
  (O.p (pyIx v_script v_k)).bind fun x4 =>
  P.ok x4
  else
  P.ok (PyData.int 0)
def c_digits (v_script : PyData) (v_first : PyData) (v_last : PyData) : P (List PyData) :=
  (O.pl (gLstD [])).bind fun x23 =>
  (rg2P v_first v_last).bind fun i24 =>
  (pFold (fun (y357 : List PyData) d358 => ((c_cell v_script d358).nox).bind fun r359 =>
  (O.p (pyLt r359 (PyData.int 0))).bind fun x360 =>
  (asB x360).bind fun c361 =>
  (if c361 = true then (O.p (pyMulI (PyData.int 2) r359)).bind fun x364 =>
  (O.p (pySub (PyData.int 1) x364)).bind fun x365 =>
  P.ok x365 else P.ok r359).bind fun y366 =>
  (O.p (pyPow (PyData.int 10) (PyData.int 18))).bind fun x367 =>
  (O.p (pyGe y366 x367)).bind fun x368 =>
  (asB x368).bind fun c369 =>
  (if c369 = true then (rg1P (PyData.int 60)).bind fun i447 =>
  (pFold (fun (y470 : List PyData × PyData) d471 => (O.p (pyGt y470.2 (PyData.int 0))).bind fun x472 =>
  (asB x472).bind fun c473 =>
  (if c473 = true then (O.p (pyInt [y470.2])).bind fun x478 =>
  (O.p (pyMod x478 (PyData.int 1000))).bind fun x479 =>
  (appP y470.1 x479).bind fun l480 =>
  (O.p (pyDiv y470.2 (PyData.int 1000))).bind fun x481 =>
  P.ok (l480, x481) else P.ok (y470.1, y470.2)).bind fun y482 =>
  P.ok (y482.1, y482.2)) i447 (y357, y366)).bind fun y483 =>
  P.ok (y483.1, y483.2) else (O.p (pyMulI y366 (PyData.int 48271))).bind fun x484 =>
  (O.p (pyMulI d358 (PyData.int 69621))).bind fun x485 =>
  (O.p (pyAdd x484 x485)).bind fun x486 =>
  (O.p (pyAdd x486 (PyData.int 11))).bind fun x487 =>
  (O.p (pyInt [x487])).bind fun x488 =>
  (O.p (pyMod x488 (PyData.int 2147483647))).bind fun x489 =>
  (rg1P (PyData.int 12)).bind fun i490 =>
  (pFold (fun (y511 : List PyData × PyData) d512 => (O.p (pyMulI y511.2 (PyData.int 16807))).bind fun x513 =>
  (O.p (pyMulI (PyData.int 7) d512)).bind fun x514 =>
  (O.p (pyAdd x513 x514)).bind fun x515 =>
  (O.p (pyAdd x515 (PyData.int 1))).bind fun x516 =>
  (O.p (pyInt [x516])).bind fun x517 =>
  (O.p (pyMod x517 (PyData.int 2147483647))).bind fun x518 =>
  (O.p (pyDiv x518 (PyData.int 997))).bind fun x519 =>
  (O.p (pyInt [x519])).bind fun x520 =>
  (O.p (pyMod x520 (PyData.int 1000))).bind fun x521 =>
  (appP y511.1 x521).bind fun l522 =>
  P.ok (l522, x518)) i490 (y357, x489)).bind fun y523 =>
  P.ok (y523.1, y366)).bind fun y524 =>
  P.ok y524.1) i24 x23).bind fun y525 =>
  P.ok y525
def c_draw (v_box : List PyData) (v_many : PyData) : P (PyData × List PyData) :=
  (O.p (pyIx (PyData.list v_box) (PyData.int 1))).bind fun x1971 =>
  (O.p (pyAdd x1971 (PyData.int 1))).bind fun x1972 =>
  (asI (PyData.int 1)).bind fun k1973 =>
  (setP v_box k1973 x1972).bind fun l1974 =>
  (O.p (pyIx (PyData.list l1974) (PyData.int 0))).bind fun x1975 =>
  (O.p (pyLen [x1975])).bind fun x1976 =>
  (O.p (pyLt x1971 x1976)).bind fun x1977 =>
  (asB x1977).bind fun c1978 =>
  if c1978 = true then
  (O.p (pyIx (PyData.list l1974) (PyData.int 0))).bind fun x1979 =>
  (O.p (pyIx x1979 x1971)).bind fun x1980 =>
  (O.p (pyInt [x1980])).bind fun x1981 =>
  (O.p (pyMod x1981 v_many)).bind fun x1982 =>
  P.ok (x1982, l1974)
  else
  (O.p (pyMulI x1971 (PyData.int 7))).bind fun x1983 =>
  (O.p (pyAdd x1983 (PyData.int 3))).bind fun x1984 =>
  (O.p (pyInt [x1984])).bind fun x1985 =>
  (O.p (pyMod x1985 v_many)).bind fun x1986 =>
  P.ok (x1986, l1974)
theorem cell_ok {ns : List Int} {k : Nat} : Gt (c_cell (.list (ns.map .int)) (.int k)) fun x => ∃ c : Int, x = .int c := by
  unfold c_cell
  rw [y_lenL, P.bind_ok, y_lt, P.bind_ok, asB_b, P.bind_ok]
  by_cases h : ((k : Int) < ((ns.map PyData.int).length : Nat))
  · rw [decide_eq_true h, if_pos rfl]
    have h2 : k < ns.length := by simpa using h
    rw [y_ixL (d := .int ns[k]) (by simp [h2]), P.bind_ok]
    exact .ok ⟨_, rfl⟩
  · rw [decide_eq_false h]
    exact .ok ⟨0, rfl⟩
abbrev Ds (ds : List PyData) : Prop := ∃ l : List Int, ds = l.map .int
theorem Ds.app {ds : List PyData} {i : Int} (h : Ds ds) : Ds (ds ++ [.int i]) := by
  obtain ⟨l, rfl⟩ := h
  exact ⟨l ++ [i], by simp⟩
theorem digits_ok {ns : List Int} {b : Nat} (hb : b ≤ 1000) : Gt (c_digits (.list (ns.map .int)) (.int 0) (.int b)) Ds := by
  unfold c_digits
  rw [y_lst (by decide), P.bind_ok, y_rg2 (by omega) (by omega) (by omega) (by omega), P.bind_ok]
  refine Gt.bind (Gt.foldN (fun k y => Ds y ∧ y.length ≤ 60 * k) (N := 1000) (k := 0) (Q := fun d => ∃ k : Nat, d = .int k) (by rw [rg_len]; omega) ⟨⟨[], rfl⟩, by simp⟩ (fun d hd => ?_) ?_) fun y hy => .ok hy.1
  · obtain ⟨k, _, e⟩ := rg_mem hd
    exact ⟨k, by rw [e]; congr 1; omega⟩
  · rintro k y _ hk ⟨hy, hl⟩ ⟨m, rfl⟩
    refine Gt.bind cell_ok.nox ?_
    rintro _ ⟨c, rfl⟩
    rw [y_lt, P.bind_ok, asB_b, P.bind_ok]
    refine Gt.bind (I := fun y => ∃ c : Int, y = .int c) (Gt.ite (fun _ => ?_) fun _ => .ok ⟨_, rfl⟩) ?_
    · rw [y_mulL (by omega) (by omega), P.bind_ok, y_sub, P.bind_ok]
      exact .ok ⟨_, rfl⟩
    · rintro _ ⟨c, rfl⟩
      rw [y_pow (by omega) (by omega) (by decide), P.bind_ok, y_ge, P.bind_ok, asB_b, P.bind_ok]
      refine Gt.bind (I := fun y => Ds y.1 ∧ y.1.length ≤ 60 * (k + 1)) (Gt.ite (fun _ => ?_) fun _ => ?_) fun y hy => .ok hy
      · rw [y_rg1 (by omega) (by omega), P.bind_ok]
        refine Gt.bind (Gt.foldN (fun j y => Ds y.1 ∧ y.1.length ≤ 60 * k + j ∧ ∃ c : Int, y.2 = .int c) (N := 60) (k := 0) (Q := fun _ => True) (by rw [rg_len]; decide) ⟨hy, hl, c, rfl⟩ (fun _ _ => trivial) ?_) fun y hy => .ok ⟨hy.1, ?_⟩
        · rintro j ⟨y1, y2⟩ d hj ⟨h1, h2, c, h3⟩ _
          subst h3
          dsimp only at h1 h2 ⊢
          rw [y_gt, P.bind_ok, asB_b, P.bind_ok]
          refine Gt.bind (I := fun y => Ds y.1 ∧ y.1.length ≤ 60 * k + (j + 1) ∧ ∃ c : Int, y.2 = .int c) (Gt.ite (fun _ => ?_) fun _ => .ok ⟨h1, by dsimp only; omega, _, rfl⟩) fun y hy => .ok hy
          rw [y_intI, P.bind_ok, y_mod (by omega), P.bind_ok, y_app (by omega), P.bind_ok, y_div (by omega) (by omega), P.bind_ok]
          exact .ok ⟨h1.app, by simp only [List.length_append, List.length_cons, List.length_nil]; omega, _, rfl⟩
        · have := hy.2.1
          rw [rg_len] at this
          exact Nat.le_trans this (by show 60 * k + (0 + 60) ≤ _; omega)
      · rw [y_mulR (by omega) (by omega), P.bind_ok, y_mulR (by omega) (by omega), P.bind_ok, y_add, P.bind_ok, y_add, P.bind_ok, y_intI, P.bind_ok, y_mod (by omega), P.bind_ok, y_rg1 (by omega) (by omega), P.bind_ok]
        refine Gt.bind (Gt.foldN (fun j y => Ds y.1 ∧ y.1.length ≤ 60 * k + j ∧ ∃ c : Int, y.2 = .int c) (N := 12) (k := 0) (Q := fun d => ∃ j : Int, d = .int j) (by rw [rg_len]; decide) ⟨hy, hl, _, rfl⟩ (fun d hd => ?_) ?_) fun y hy => .ok ⟨hy.1, ?_⟩
        · obtain ⟨j, _, e⟩ := rg_mem hd
          exact ⟨_, e⟩
        · rintro j ⟨y1, y2⟩ _ hj ⟨h1, h2, c, h3⟩ ⟨z, rfl⟩
          subst h3
          dsimp only at h1 h2 ⊢
          rw [y_mulR (by omega) (by omega), P.bind_ok, y_mulL (by omega) (by omega), P.bind_ok, y_add, P.bind_ok, y_add, P.bind_ok, y_intI, P.bind_ok, y_mod (by omega), P.bind_ok, y_div (by omega) (by omega), P.bind_ok, y_intI, P.bind_ok, y_mod (by omega), P.bind_ok, y_app (by omega), P.bind_ok]
          exact .ok ⟨h1.app, by simp only [List.length_append, List.length_cons, List.length_nil]; omega, _, rfl⟩
        · have := hy.2.1
          rw [rg_len] at this
          exact Nat.le_trans this (by show 60 * k + (0 + 12) ≤ _; omega)
/-- a box to draw from -/
def Box (b : List PyData) : Prop := ∃ (l : List Int) (n : Nat), b = [.list (l.map .int), .int n]
theorem box_of {ds : List PyData} (h : Ds ds) : Box [.list ds, .int 0] := by
  obtain ⟨l, rfl⟩ := h
  exact ⟨l, 0, rfl⟩
theorem draw_ok {b : List PyData} {m : Int} (h : Box b) (hm : 0 < m) : Gt (c_draw b (.int m)) fun r => Box r.2 ∧ ∃ v : Int, r.1 = .int v ∧ 0 ≤ v ∧ v < m := by
  obtain ⟨l, n, rfl⟩ := h
  have bx : Box [.list (l.map .int), .int ((n : Int) + 1)] := ⟨l, n + 1, by simp⟩
  have hv : ∀ i : Int, ∃ v : Int, PyData.int (i % m) = .int v ∧ 0 ≤ v ∧ v < m := fun i => ⟨_, rfl, Int.emod_nonneg _ (by omega), Int.emod_lt_of_pos _ hm⟩
  unfold c_draw
  rw [show (PyData.int 1) = .int ((1 : Nat) : Int) from rfl, y_ixL (d := .int n) rfl, P.bind_ok, y_add, P.bind_ok, asI_i, P.bind_ok, y_set (by simp), P.bind_ok]
  rw [show (PyData.int 0) = .int ((0 : Nat) : Int) from rfl, y_ixL (d := .list (l.map .int)) rfl, P.bind_ok, y_lenL, P.bind_ok, y_lt, P.bind_ok, asB_b, P.bind_ok]
  by_cases hn : (n : Int) < ((l.map PyData.int).length : Nat)
  · have h2 : n < l.length := by simpa using hn
    rw [decide_eq_true hn, if_pos rfl, P.bind_ok, y_ixL (d := .int l[n]) (by simp [h2]), P.bind_ok, y_intI, P.bind_ok, y_mod hm, P.bind_ok]
    exact .ok ⟨bx, hv _⟩
  · rw [decide_eq_false hn, if_neg (by decide), y_mulR (by omega) (by omega), P.bind_ok, y_add, P.bind_ok, y_intI, P.bind_ok, y_mod hm, P.bind_ok]
    exact .ok ⟨bx, hv _⟩
end U
end

section
set_option Elab.async false
set_option linter.all false
set_option maxRecDepth 100000
set_option maxHeartbeats 4000000
namespace K24
open PySem PySem.Spec PyProof.Rows L2 Z T
def top (i : Nat) : Stmt := PySem.Challenge.pw_recstore_k24_conflicts_met.main.body.getD i (.Pass ⟨0, 0, 0, 0⟩)
structure Tx (K : PySem.W.Frag) (mg : Str → Option Value) : Prop where
  b_any : mg "any" = none
  b_bool : mg "bool" = none
  b_int : mg "int" = none
  b_isinstance : mg "isinstance" = none
  b_len : mg "len" = none
  b_range : mg "range" = none
  b_tuple : mg "tuple" = none
section
variable {P : Program} {w : World} {K : PySem.W.Frag} {mg : Str → Option Value} {base : Heap}
abbrev s__law_cell : Stmt := top 4
theorem sc__law_cell : FnScope ["script", "k"] ["script", "k"] (defScope s__law_cell) := ⟨rfl, rfl, rfl, by decide +kernel, rfl, by decide +kernel, by decide +kernel⟩

def F__law_cell : FS :=
  (fSeq (fIfS (fTest (fOp pyLt (fVar 1) (fCB pyLen (fCons (fVar 0) fNil))))
        (fRet (fOp pyIx (fVar 0) (fVar 1)))
        fSkip)
      (fRet (fC (.int 0))))
abbrev fd__law_cell : Fd := mkFd 2 F__law_cell
theorem d__law_cell {f : Addr} {fd : FuncData} (Fn : L2.Fun K "_law_cell" "_law_cell" s__law_cell f fd) (hm : mg "_law_cell" = some (.ref f)) (bd : Binds K fd ["script", "k"] []) (T : Tx K mg)  :
    Df P w K mg base 1 "_law_cell" (spOf K mg 2 fd__law_cell) :=
  df_T (ps := ["script", "k"]) Fn hm bd sc__law_cell (by decide) fun cdv A fr s H E B hr gu ok hK hmg =>
    (xss_cons (xs_if (xt_lt (xv 1) (x_len ok (by rfl) T.b_len (xa_cons (xv 0) xa_nil)))
        (xss_one (xs_ret (x_idx ok (xv 0) (xv 1))))
        xss_nil)
      (xss_one (xs_ret xc_int)))

abbrev s__law_digits : Stmt := top 5
theorem sc__law_digits : FnScope ["script", "first", "last", "digits", "k", "cell", "turn", "seed"] ["script", "first", "last"] (defScope s__law_digits) := ⟨rfl, rfl, rfl, by decide +kernel, rfl, by decide +kernel, by decide +kernel⟩

def F__law_digits : FS :=
  (fSeq (fSet 3 (fDisp gLstD fNil))
      (fSeq (fFor (fRange2 (fCons (fVar 1) (fCons (fVar 2) fNil))) (gN 4)
        (fSeq (fSet 5 (fCall [.sh, .sh] fd__law_cell (fCons (fVar 0) (fCons (fVar 4) fNil))))
        (fSeq (fIfS (fTest (fOp pyLt (fVar 5) (fC (.int 0))))
          (fSet 5 (fOp pySub (fC (.int 1)) (fOp pyMulI (fC (.int 2)) (fVar 5))))
          fSkip)
        (fIfS (fTest (fOp pyGe (fVar 5) (fOp pyPow (fC (.int 10)) (fC (.int 18)))))
          (fFor (fRange1 (fCons (fC (.int 60)) fNil)) (gN 6)
            (fIfS (fTest (fOp pyGt (fVar 5) (fC (.int 0))))
              (fSeq (fDrop (fMut 3 gApp (fCons (fOp pyMod (fCB pyInt (fCons (fVar 5) fNil)) (fC (.int 1000))) fNil)))
              (fSet 5 (fOp pyDiv (fVar 5) (fC (.int 1000)))))
              fSkip))
          (fSeq (fSet 7 (fOp pyMod (fCB pyInt (fCons (fOp pyAdd (fOp pyAdd (fOp pyMulI (fVar 5) (fC (.int 48271))) (fOp pyMulI (fVar 4) (fC (.int 69621)))) (fC (.int 11))) fNil)) (fC (.int 2147483647))))
          (fFor (fRange1 (fCons (fC (.int 12)) fNil)) (gN 6)
            (fSeq (fSet 7 (fOp pyMod (fCB pyInt (fCons (fOp pyAdd (fOp pyAdd (fOp pyMulI (fVar 7) (fC (.int 16807))) (fOp pyMulI (fC (.int 7)) (fVar 6))) (fC (.int 1))) fNil)) (fC (.int 2147483647))))
            (fDrop (fMut 3 gApp (fCons (fOp pyMod (fCB pyInt (fCons (fOp pyDiv (fVar 7) (fC (.int 997))) fNil)) (fC (.int 1000))) fNil))))))))))
      (fRet (fVar 3))))
abbrev fd__law_digits : Fd := mkFd 8 F__law_digits
theorem d__law_digits {f : Addr} {fd : FuncData} (Fn : L2.Fun K "_law_digits" "_law_digits" s__law_digits f fd) (hm : mg "_law_digits" = some (.ref f)) (bd : Binds K fd ["script", "first", "last"] []) (T : Tx K mg) (c__law_cell : Df P w K mg base 1 "_law_cell" (spOf K mg 2 fd__law_cell)) :
    Df P w K mg base 2 "_law_digits" (spOf K mg 3 fd__law_digits) :=
  df_T (ps := ["script", "first", "last"]) Fn hm bd sc__law_digits (by decide) fun cdv A fr s H E B hr gu ok hK hmg =>
    (xss_cons (xs_set (i := 3) sc__law_digits.nd rfl (Or.inl rfl) (x_lst xa_nil))
      (xss_cons (xs_for ok.po ok.calm (xi_range2 (by rfl) T.b_range (xa_cons (xv 1) (xa_cons (xv 2) xa_nil))) (pg_name (i := 4) sc__law_digits.nd rfl (Or.inl rfl)) gg_name
        (xss_cons (xs_set (i := 5) sc__law_digits.nd rfl (Or.inl rfl) (x_call (ms := [.sh, .sh]) ok hK hmg c__law_cell hr (by decide) gu (by rfl) (xa_cons (xv 0) (xa_cons (xv 4) xa_nil))))
        (xss_cons (xs_if (xt_lt (xv 5) xc_int)
          (xss_one (xs_set (i := 5) sc__law_digits.nd rfl (Or.inl rfl) (x_sub xc_int (x_mul xc_int (xv 5)))))
          xss_nil)
        (xss_one (xs_if (xt_ge (xv 5) (x_pow xc_int xc_int))
          (xss_one (xs_for ok.po ok.calm (xi_range1 (by rfl) T.b_range (xa_cons xc_int xa_nil)) (pg_name (i := 6) sc__law_digits.nd rfl (Or.inl rfl)) gg_name
            (xss_one (xs_if (xt_gt (xv 5) xc_int)
              (xss_cons (xs_expr (x_mut ok.K PySem.F.slot_list_append PySem.F.type_list_append mt_appendK m_app (xv 3) (xa_cons (x_mod (x_int (by rfl) T.b_int (xa_cons (xv 5) xa_nil)) xc_int) xa_nil)))
              (xss_one (xs_set (i := 5) sc__law_digits.nd rfl (Or.inl rfl) (x_div (xv 5) xc_int))))
              xss_nil))))
          (xss_cons (xs_set (i := 7) sc__law_digits.nd rfl (Or.inl rfl) (x_mod (x_int (by rfl) T.b_int (xa_cons (x_add ok (x_add ok (x_mul (xv 5) xc_int) (x_mul (xv 4) xc_int)) xc_int) xa_nil)) xc_int))
          (xss_one (xs_for ok.po ok.calm (xi_range1 (by rfl) T.b_range (xa_cons xc_int xa_nil)) (pg_name (i := 6) sc__law_digits.nd rfl (Or.inl rfl)) gg_name
            (xss_cons (xs_set (i := 7) sc__law_digits.nd rfl (Or.inl rfl) (x_mod (x_int (by rfl) T.b_int (xa_cons (x_add ok (x_add ok (x_mul (xv 7) xc_int) (x_mul xc_int (xv 6))) xc_int) xa_nil)) xc_int))
            (xss_one (xs_expr (x_mut ok.K PySem.F.slot_list_append PySem.F.type_list_append mt_appendK m_app (xv 3) (xa_cons (x_mod (x_int (by rfl) T.b_int (xa_cons (x_div (xv 7) xc_int) xa_nil)) xc_int) xa_nil)))))))))))))
      (xss_one (xs_ret (xv 3)))))

abbrev s__law_draw : Stmt := top 6
theorem sc__law_draw : FnScope ["box", "many", "at"] ["box", "many"] (defScope s__law_draw) := ⟨rfl, rfl, rfl, by decide +kernel, rfl, by decide +kernel, by decide +kernel⟩

def F__law_draw : FS :=
  (fSeq (fSet 2 (fOp pyIx (fVar 0) (fC (.int 1))))
      (fSeq (fSetIx 0 (fOp pyAdd (fVar 2) (fC (.int 1))) (fC (.int 1)))
      (fSeq (fIfS (fTest (fOp pyLt (fVar 2) (fCB pyLen (fCons (fOp pyIx (fVar 0) (fC (.int 0))) fNil))))
        (fRet (fOp pyMod (fCB pyInt (fCons (fOp pyIx (fOp pyIx (fVar 0) (fC (.int 0))) (fVar 2)) fNil)) (fVar 1)))
        fSkip)
      (fRet (fOp pyMod (fCB pyInt (fCons (fOp pyAdd (fOp pyMulI (fVar 2) (fC (.int 7))) (fC (.int 3))) fNil)) (fVar 1))))))
abbrev fd__law_draw : Fd := mkFd 3 F__law_draw
theorem d__law_draw {f : Addr} {fd : FuncData} (Fn : L2.Fun K "_law_draw" "_law_draw" s__law_draw f fd) (hm : mg "_law_draw" = some (.ref f)) (bd : Binds K fd ["box", "many"] []) (T : Tx K mg)  :
    Df P w K mg base 1 "_law_draw" (spOf K mg 2 fd__law_draw) :=
  df_T (ps := ["box", "many"]) Fn hm bd sc__law_draw (by decide) fun cdv A fr s H E B hr gu ok hK hmg =>
    (xss_cons (xs_set (i := 2) sc__law_draw.nd rfl (Or.inl rfl) (x_idx ok (xv 0) xc_int))
      (xss_cons (xs_setIx (xv 0) (x_add ok (xv 2) xc_int) xc_int (pg_sub (xv 0) xc_int set_listK))
      (xss_cons (xs_if (xt_lt (xv 2) (x_len ok (by rfl) T.b_len (xa_cons (x_idx ok (xv 0) xc_int) xa_nil)))
        (xss_one (xs_ret (x_mod (x_int (by rfl) T.b_int (xa_cons (x_idx ok (x_idx ok (xv 0) xc_int) (xv 2)) xa_nil)) (xv 1))))
        xss_nil)
      (xss_one (xs_ret (x_mod (x_int (by rfl) T.b_int (xa_cons (x_add ok (x_mul (xv 2) xc_int) xc_int) xa_nil)) (xv 1)))))))

abbrev s__law_words : Stmt := top 7
theorem sc__law_words : FnScope ["box", "words", "k", "row", "word"] ["box"] (defScope s__law_words) := ⟨rfl, rfl, rfl, by decide +kernel, rfl, by decide +kernel, by decide +kernel⟩

def F__law_words : FS :=
  (fSeq (fSet 1 (fDisp gLstD fNil))
      (fSeq (fFor (fRange1 (fCons (fCall [.io, .sh] fd__law_draw (fCons (fVar 0) (fCons (fC (.int 5)) fNil))) fNil)) (gN 2)
        (fSeq (fSet 3 (fDisp gTupD (fCons (fOp pyIx (fDisp gLstD (fCons (fC (.str (PySem.Str.ofString ""))) (fCons (fC (.str (PySem.Str.ofString "l"))) (fCons (fC (.str (PySem.Str.ofString "j"))) fNil)))) (fCall [.io, .sh] fd__law_draw (fCons (fVar 0) (fCons (fC (.int 3)) fNil)))) (fCons (fOp pyMulI (fC (.int 4)) (fCall [.io, .sh] fd__law_draw (fCons (fVar 0) (fCons (fC (.int 4)) fNil)))) (fCons (fC (.int 4)) (fCons (fOp pyEq (fCall [.io, .sh] fd__law_draw (fCons (fVar 0) (fCons (fC (.int 2)) fNil))) (fC (.int 0))) fNil))))))
        (fIfS (fTest (fOp pyNotIn (fSl (fVar 3) fNoP (fPart (fC (.int 2)))) (fLcO 1 [4] (gN 4) fYes (fSl (fVar 4) fNoP (fPart (fC (.int 2)))))))
          (fDrop (fMut 1 gApp (fCons (fVar 3) fNil)))
          fSkip)))
      (fRet (fCB pyTuple (fCons (fVar 1) fNil)))))
abbrev fd__law_words : Fd := mkFd 5 F__law_words
theorem d__law_words {f : Addr} {fd : FuncData} (Fn : L2.Fun K "_law_words" "_law_words" s__law_words f fd) (hm : mg "_law_words" = some (.ref f)) (bd : Binds K fd ["box"] []) (T : Tx K mg) (c__law_draw : Df P w K mg base 1 "_law_draw" (spOf K mg 2 fd__law_draw)) :
    Df P w K mg base 2 "_law_words" (spOf K mg 1 fd__law_words) :=
  df_T (ps := ["box"]) Fn hm bd sc__law_words (by decide) fun cdv A fr s H E B hr gu ok hK hmg =>
    (xss_cons (xs_set (i := 1) sc__law_words.nd rfl (Or.inl rfl) (x_lst xa_nil))
      (xss_cons (xs_for ok.po ok.calm (xi_range1 (by rfl) T.b_range (xa_cons (x_call (ms := [.io, .sh]) ok hK hmg c__law_draw hr (by decide) gu (by rfl) (xa_cons (xv 0) (xa_cons xc_int xa_nil))) xa_nil)) (pg_name (i := 2) sc__law_words.nd rfl (Or.inl rfl)) gg_name
        (xss_cons (xs_set (i := 3) sc__law_words.nd rfl (Or.inl rfl) (x_tup (xa_cons (x_idx ok (x_lst (xa_cons xc_str (xa_cons xc_str (xa_cons xc_str xa_nil)))) (x_call (ms := [.io, .sh]) ok hK hmg c__law_draw hr (by decide) gu (by rfl) (xa_cons (xv 0) (xa_cons xc_int xa_nil)))) (xa_cons (x_mul xc_int (x_call (ms := [.io, .sh]) ok hK hmg c__law_draw hr (by decide) gu (by rfl) (xa_cons (xv 0) (xa_cons xc_int xa_nil)))) (xa_cons xc_int (xa_cons (x_eq ok (hu64 hr) (x_call (ms := [.io, .sh]) ok hK hmg c__law_draw hr (by decide) gu (by rfl) (xa_cons (xv 0) (xa_cons xc_int xa_nil))) xc_int) xa_nil))))))
        (xss_one (xs_if (xt_notin ok (hu65 hr) (x_slice ok.K (xv 3) xo_none (xo_some xc_int)) (x_lcO ok sc__law_words.nd (xv 1) (blkOk_by (N := ["box", "words", "k", "row", "word"]) (sc := defScope s__law_words) (own := [("word", 4)]) (by decide +kernel)) (fun _ _ _ _ _ => (pg_name (i := 4) sc__law_words.nd rfl (Or.inl rfl))) (fun _ hk => gg_name) (by decide) (fun _ _ _ _ _ _ h1a h1b ok1 => xts_nil) (fun _ _ _ _ _ _ h1a h1b ok1 => (x_slice ok1.K (xv 4) xo_none (xo_some xc_int)))))
          (xss_one (xs_expr (x_mut ok.K PySem.F.slot_list_append PySem.F.type_list_append mt_appendK m_app (xv 1) (xa_cons (xv 3) xa_nil))))
          xss_nil))))
      (xss_one (xs_ret (x_tuple ok (by rfl) T.b_tuple (xa_cons (xv 1) xa_nil))))))

abbrev s__clash : Stmt := top 2
theorem sc__clash : FnScope ["word", "other"] ["word", "other"] (defScope s__clash) := ⟨rfl, rfl, rfl, by decide +kernel, rfl, by decide +kernel, by decide +kernel⟩

def F__clash : FS :=
  (fRet (fAndV (fOp pyEq (fSl (fVar 0) fNoP (fPart (fUn pyNeg (fC (.int 1))))) (fSl (fVar 1) fNoP (fPart (fUn pyNeg (fC (.int 1)))))) (fOrV (fOp pyIx (fVar 0) (fUn pyNeg (fC (.int 1)))) (fOp pyIx (fVar 1) (fUn pyNeg (fC (.int 1)))))))
abbrev fd__clash : Fd := mkFd 2 F__clash
theorem d__clash {f : Addr} {fd : FuncData} (Fn : L2.Fun K "_clash" "_clash" s__clash f fd) (hm : mg "_clash" = some (.ref f)) (bd : Binds K fd ["word", "other"] []) (T : Tx K mg)  :
    Df P w K mg base 1 "_clash" (spOf K mg 2 fd__clash) :=
  df_T (ps := ["word", "other"]) Fn hm bd sc__clash (by decide) fun cdv A fr s H E B hr gu ok hK hmg =>
    (xss_one (xs_ret (x_and (x_eq ok (hu64 hr) (x_slice ok.K (xv 0) xo_none (xo_some (x_neg xc_int))) (x_slice ok.K (xv 1) xo_none (xo_some (x_neg xc_int)))) (x_one (x_or (x_idx ok (xv 0) (x_neg xc_int)) (x_one (x_idx ok (xv 1) (x_neg xc_int))))))))

abbrev s_conflicts : Stmt := top 1
theorem sc_conflicts : FnScope ["number", "words", "held", "others", "owner", "taken", "word", "other"] ["number", "words", "held"] (defScope s_conflicts) := ⟨rfl, rfl, rfl, by decide +kernel, rfl, by decide +kernel, by decide +kernel⟩

def F_conflicts : FS :=
  (fSeq (fSet 3 (fLc2 (fItems (fVar 2)) [4, 5, 6] (gTu 2 (gCo (gN 4) (gCo (gN 5) gNi))) (fTest (fOp pyEq (fVar 4) (fVar 0))) (fItems (fVar 5)) [6] (gN 6) fYes (fVar 6)))
      (fRet (fCB pyAny (fCons (fFrz 3 (fLc2 (fItems (fVar 1)) [6, 7] (gN 6) fYes (fItems (fVar 3)) [7] (gN 7) fYes (fCall [.sh, .sh] fd__clash (fCons (fVar 6) (fCons (fVar 7) fNil))))) fNil))))
abbrev fd_conflicts : Fd := mkFd 8 F_conflicts
theorem d_conflicts {f : Addr} {fd : FuncData} (Fn : L2.Fun K "conflicts" "conflicts" s_conflicts f fd) (hm : mg "conflicts" = some (.ref f)) (bd : Binds K fd ["number", "words", "held"] []) (T : Tx K mg) (c__clash : Df P w K mg base 1 "_clash" (spOf K mg 2 fd__clash)) :
    Df P w K mg base 2 "conflicts" (spOf K mg 3 fd_conflicts) :=
  df_T (ps := ["number", "words", "held"]) Fn hm bd sc_conflicts (by decide) fun cdv A fr s H E B hr gu ok hK hmg =>
    (xss_cons (xs_set (i := 3) sc_conflicts.nd rfl (Or.inr rfl) (x_lc2 ok sc_conflicts.nd (xi_any ok.K (xv 2)) (blkOk_by (N := ["number", "words", "held", "others", "owner", "taken", "word", "other"]) (sc := defScope s_conflicts) (own := [("owner", 4), ("taken", 5), ("word", 6)]) (by decide +kernel)) (by decide) (fun _ _ _ _ _ => (pg_tup (by rfl) (pgs_cons (pg_name (i := 4) sc_conflicts.nd rfl (Or.inl rfl)) (pgs_cons (pg_name (i := 5) sc_conflicts.nd rfl (Or.inl rfl)) pgs_nil)))) (fun _ hk => (gg_tup (ok.K.trans hk.symm) (ggs_cons gg_name (ggs_cons gg_name ggs_nil)))) (by decide) (fun _ _ _ _ _ _ h1a h1b ok1 => (xts_one (xt_eq ok1 (hu64 hr) (xv 4) (xv 0)))) (fun _ _ _ _ _ _ h1a h1b ok1 => (xj_any ok1.K (xv 5))) (fun _ _ _ _ _ => (pg_name (i := 6) sc_conflicts.nd rfl (Or.inl rfl))) (fun _ hk => gg_name) (by decide) (fun _ _ _ _ _ _ h1a h1b ok1 => xts_nil) (fun _ _ _ _ _ _ h1a h1b ok1 => (xv 6))))
      (xss_one (xs_ret (x_any ok (by rfl) T.b_any (xa_cons (x_frz (x_lc2 ok sc_conflicts.nd (xi_any ok.K (xv 1)) (blkOk_by (N := ["number", "words", "held", "others", "owner", "taken", "word", "other"]) (sc := defScope s_conflicts) (own := [("word", 6), ("other", 7)]) (by decide +kernel)) (by decide) (fun _ _ _ _ _ => (pg_name (i := 6) sc_conflicts.nd rfl (Or.inl rfl))) (fun _ hk => gg_name) (by decide) (fun _ _ _ _ _ _ h2a h2b ok2 => xts_nil) (fun _ _ _ _ _ _ h2a h2b ok2 => (xj_any ok2.K (xv 3))) (fun _ _ _ _ _ => (pg_name (i := 7) sc_conflicts.nd rfl (Or.inl rfl))) (fun _ hk => gg_name) (by decide) (fun _ _ _ _ _ _ h2a h2b ok2 => xts_nil) (fun _ _ _ _ _ _ h2a h2b ok2 => (x_call (ms := [.sh, .sh]) ok2 (h2a.trans hK) (h2b.trans hmg) c__clash hr (by decide) gu (by rfl) (xa_cons (xv 6) (xa_cons (xv 7) xa_nil)))))) xa_nil)))))

abbrev s_law : Stmt := top 8
theorem sc_law : FnScope ["script", "box", "turn", "number", "words", "held", "due", "other", "rows", "row", "word", "told", "k"] ["script"] (defScope s_law) := ⟨rfl, rfl, rfl, by decide +kernel, rfl, by decide +kernel, by decide +kernel⟩

def F_law : FS :=
  (fSeq (fSet 1 (fDisp gLstD (fCons (fCall [.sh, .sh, .sh] fd__law_digits (fCons (fVar 0) (fCons (fC (.int 0)) (fCons (fC (.int 40)) fNil)))) (fCons (fC (.int 0)) fNil))))
      (fSeq (fFor (fRange1 (fCons (fC (.int 8)) fNil)) (gN 2)
        (fSeq (fSet 3 (fOp pyAdd (fC (.int 1)) (fCall [.io, .sh] fd__law_draw (fCons (fVar 1) (fCons (fC (.int 3)) fNil)))))
        (fSeq (fSet 4 (fCall [.io] fd__law_words (fCons (fVar 1) fNil)))
        (fSeq (fSet 5 (fLc (fRange1 (fCons (fCall [.io, .sh] fd__law_draw (fCons (fVar 1) (fCons (fC (.int 5)) fNil))) fNil)) [12] (gN 12) fYes (fDisp gTupD (fCons (fOp pyAdd (fC (.int 1)) (fCall [.io, .sh] fd__law_draw (fCons (fVar 1) (fCons (fC (.int 3)) fNil)))) (fCons (fCall [.io] fd__law_words (fCons (fVar 1) fNil)) fNil)))))
        (fSeq (fSet 6 (fC (.bool false)))
        (fSeq (fFor (fItems (fVar 5)) (gTu 2 (gCo (gN 7) (gCo (gN 8) gNi)))
          (fFor (fItems (fVar 8)) (gN 9)
            (fFor (fItems (fVar 4)) (gN 10)
              (fSet 6 (fOrV (fVar 6) (fAndV (fOp pyEq (fVar 7) (fVar 3)) (fAndV (fOp pyEq (fSl (fVar 9) fNoP (fPart (fC (.int 2)))) (fSl (fVar 10) fNoP (fPart (fC (.int 2))))) (fOrV (fOp pyIx (fVar 9) (fC (.int 3))) (fOp pyIx (fVar 10) (fC (.int 3)))))))))))
        (fSeq (fSet 11 (fCall [.sh, .sh, .sh] fd_conflicts (fCons (fVar 3) (fCons (fVar 4) (fCons (fVar 5) fNil)))))
        (fIfS (fOrT (fNotT (fTru (fIsi .bool (fVar 11)))) (fTest (fOp pyNe (fVar 11) (fVar 6))))
          (fRet (fC (.bool false)))
          fSkip))))))))
      (fRet (fC (.bool true)))))
abbrev fd_law : Fd := mkFd 13 F_law
theorem fnl_law {f : Addr} {fd : FuncData} (Fn : L2.Fun K "law" "law" s_law f fd) (bd : Binds K fd ["script"] []) (T : Tx K mg) (c__law_digits : Df P w K mg base 2 "_law_digits" (spOf K mg 3 fd__law_digits)) (c__law_draw : Df P w K mg base 1 "_law_draw" (spOf K mg 2 fd__law_draw)) (c__law_words : Df P w K mg base 2 "_law_words" (spOf K mg 1 fd__law_words)) (c_conflicts : Df P w K mg base 2 "conflicts" (spOf K mg 3 fd_conflicts)) :
    FnG P w K mg base (L2.CX P w) 3 f fd ["script"] (spOf K mg 1 fd_law) :=
  fn_T (N := ["script", "box", "turn", "number", "words", "held", "due", "other", "rows", "row", "word", "told", "k"]) (ps := ["script"]) Fn sc_law (by decide) fun cdv A fr s H E B hr gu ok hK hmg =>
    (xss_cons (xs_set (i := 1) sc_law.nd rfl (Or.inr rfl) (x_lst (xa_cons (x_call (ms := [.sh, .sh, .sh]) ok hK hmg c__law_digits hr (by decide) gu (by rfl) (xa_cons (xv 0) (xa_cons xc_int (xa_cons xc_int xa_nil)))) (xa_cons xc_int xa_nil))))
      (xss_cons (xs_for ok.po ok.calm (xi_range1 (by rfl) T.b_range (xa_cons xc_int xa_nil)) (pg_name (i := 2) sc_law.nd rfl (Or.inl rfl)) gg_name
        (xss_cons (xs_set (i := 3) sc_law.nd rfl (Or.inl rfl) (x_add ok xc_int (x_call (ms := [.io, .sh]) ok hK hmg c__law_draw hr (by decide) gu (by rfl) (xa_cons (xv 1) (xa_cons xc_int xa_nil)))))
        (xss_cons (xs_set (i := 4) sc_law.nd rfl (Or.inl rfl) (x_call (ms := [.io]) ok hK hmg c__law_words hr (by decide) gu (by rfl) (xa_cons (xv 1) xa_nil)))
        (xss_cons (xs_setLc ok (i := 5) sc_law.nd rfl rfl (sw_true rfl rfl rfl (by decide +kernel)) (xi_range1 (by rfl) T.b_range (xa_cons (x_call (ms := [.io, .sh]) ok hK hmg c__law_draw hr (by decide) gu (by rfl) (xa_cons (xv 1) (xa_cons xc_int xa_nil))) xa_nil)) (blkOk_by (N := ["script", "box", "turn", "number", "words", "held", "due", "other", "rows", "row", "word", "told", "k"]) (sc := defScope s_law) (own := [("k", 12)]) (by decide +kernel)) (fun _ _ _ _ _ => (pg_name (i := 12) sc_law.nd rfl (Or.inl rfl))) (fun _ hk => gg_name) (by decide) (fun _ _ _ _ _ _ h1a h1b ok1 => xts_nil) (fun _ _ _ _ _ _ h1a h1b ok1 => (x_tup (xa_cons (x_add ok1 xc_int (x_call (ms := [.io, .sh]) ok1 (h1a.trans hK) (h1b.trans hmg) c__law_draw hr (by decide) gu (by rfl) (xa_cons (xv 1) (xa_cons xc_int xa_nil)))) (xa_cons (x_call (ms := [.io]) ok1 (h1a.trans hK) (h1b.trans hmg) c__law_words hr (by decide) gu (by rfl) (xa_cons (xv 1) xa_nil)) xa_nil)))))
        (xss_cons (xs_set (i := 6) sc_law.nd rfl (Or.inl rfl) xc_bl)
        (xss_cons (xs_for ok.po ok.calm (xi_any ok.K (xv 5)) (pg_tup (by rfl) (pgs_cons (pg_name (i := 7) sc_law.nd rfl (Or.inl rfl)) (pgs_cons (pg_name (i := 8) sc_law.nd rfl (Or.inl rfl)) pgs_nil))) (gg_tup ok.K (ggs_cons gg_name (ggs_cons gg_name ggs_nil)))
          (xss_one (xs_for ok.po ok.calm (xi_any ok.K (xv 8)) (pg_name (i := 9) sc_law.nd rfl (Or.inl rfl)) gg_name
            (xss_one (xs_for ok.po ok.calm (xi_any ok.K (xv 4)) (pg_name (i := 10) sc_law.nd rfl (Or.inl rfl)) gg_name
              (xss_one (xs_set (i := 6) sc_law.nd rfl (Or.inl rfl) (x_or (xv 6) (x_one (x_and (x_eq ok (hu64 hr) (xv 7) (xv 3)) (x_and (x_eq ok (hu64 hr) (x_slice ok.K (xv 9) xo_none (xo_some xc_int)) (x_slice ok.K (xv 10) xo_none (xo_some xc_int))) (x_one (x_or (x_idx ok (xv 9) xc_int) (x_one (x_idx ok (xv 10) xc_int)))))))))))))))
        (xss_cons (xs_set (i := 11) sc_law.nd rfl (Or.inl rfl) (x_call (ms := [.sh, .sh, .sh]) ok hK hmg c_conflicts hr (by decide) gu (by rfl) (xa_cons (xv 3) (xa_cons (xv 4) (xa_cons (xv 5) xa_nil)))))
        (xss_one (xs_if (PW.pt (xw_or (xt_not (xt_tru ok.K (x_isi ok .bool (xv 11) T.b_isinstance (pe_bltn (v := .ty "bool") (by rfl) T.b_bool (by decide +kernel) rfl)) (by intro _; rfl))) (xw_or1 (xt_ne ok (hu64 hr) (xv 11) (xv 6)))))
          (xss_one (xs_ret xc_bl))
          xss_nil)))))))))
      (xss_one (xs_ret xc_bl))))
end
end K24
end

section
set_option Elab.async false
set_option linter.all false
set_option maxRecDepth 100000
set_option maxHeartbeats 4000000
namespace K24
open PySem PySem.Spec PyProof.Rows L2 Z T U
abbrev rv__law_cell (x : PyData) : RV := RV.val x
abbrev rc__law_cell  (x : PyData) : Cs := [none, none]
abbrev ec__law_cell  (o : List Ct) : Cs := [none, none]
def p__law_cell (v_script : PyData) (v_k : PyData) : P (PyData) :=
  (O.p (pyLen [v_script])).bind fun x1 =>
  (O.p (pyLt v_k x1)).bind fun x2 =>
  (asB x2).bind fun c3 =>
  if c3 = true then
  (O.p (pyIx v_script v_k)).bind fun x4 =>
  P.ok x4
  else
  P.ok (PyData.int 0)
def r__law_cell (v_script : PyData) (v_k : PyData) : P (PyData) :=
  ((((P.ok ()).bind fun (x5 : Unit) => (((P.ok ()).bind fun (x6 : Unit) => (P.ok ()).bind fun (q7 : Unit) => P.ok (x6, q7)).bind fun (a8 : Unit × Unit) => O.p (pyLen [v_script])).bind fun (x9 : PyData) => O.p (pyLt v_k x9)).bind fun (x10 : PyData) => asB x10).bind fun (x11 : Bool) => if x11 = true then (((P.ok ()).bind fun (x15 : Unit) => (P.ok ()).bind fun (x16 : Unit) => O.p (pyIx v_script v_k)).bind fun (x17 : PyData) => P.ok x17).bind fun (r : PyData) => P.ok (SO.rt r) else (P.ok ()).bind fun (x19 : Unit) => P.ok (SO.nx ())).bind (soB (fun (x21 : Unit) => (P.ok ()).bind fun (x22 : Unit) => P.ok (PyData.int 0)) (fun r => r))
theorem eq__law_cell (v_script : PyData) (v_k : PyData) : r__law_cell v_script v_k = p__law_cell v_script v_k := by unfold r__law_cell p__law_cell; simp only [P.bind_assoc, P.bind_ok, P.bind_okR, soB_nx, soB_rt, ite_soB, mapN_nx, mapN_rt, ite_mapN, if_true]
theorem z__law_cell  (v_script : PyData) (v_k : PyData) : FnS fd__law_cell [(.sh v_script), (.sh v_k)] (p__law_cell v_script v_k) (fun x => rv__law_cell x) (fun (x : PyData) => [(.sh v_script), (.sh v_k)]) (fun (o : List Ct) => [(.sh v_script), (.sh v_k)]) := by
  rw [← eq__law_cell]
  refine U.fn_of (w := (fun x => SR.rt (rv__law_cell x))) (u := (rc__law_cell)) (es := ec__law_cell) ?_ (fun _ => rfl) (fun _ => rfl) (fun _ => rfl)
  unfold r__law_cell
  exact (s_seqM (vr := fun x => rv__law_cell x) (tr := (rc__law_cell)) (fun r => r) (s_if (t_test  (e_op finV (a_sh rfl) (fun _ => rfl) (e_cb finV (aa_consP (a_sh rfl) (fun _ => rfl) aa_nil) (fun _ => rfl)) (fun _ => rfl) (fun _ => rfl))) (fun (x11 : Bool) => (SG.wk (v' := (soV (fun x => rv__law_cell x))) (t' := (soT (fun (y18 : Unit) => [some (.sh v_script), some (.sh v_k)]) (rc__law_cell))) (fun r => SO.rt r) (SG.wk (v' := fun x => SR.rt (rv__law_cell x)) (t' := (rc__law_cell)) (fun (x17 : PyData) => x17) (s_ret (e_op finV (a_sh rfl) (fun _ => rfl) (a_sh rfl) (fun _ => rfl) (fun _ => rfl)) (fun _ => rfl)) (fun _ => rfl) (fun _ => (.jk rfl (.jk rfl .nil)))) (fun _ => rfl) (fun _ => Wk.refl _)))
   (fun (x11 : Bool) => (SG.wk (v' := (soV (fun x => rv__law_cell x))) (t' := (soT (fun (y20 : Unit) => [some (.sh v_script), some (.sh v_k)]) (rc__law_cell))) (fun (x19 : Unit) => SO.nx ()) s_skip (fun _ => rfl) (fun _ => (.sm (.sm .nil))))))
  (fun (x21 : Unit) => (SG.wk (v' := fun x => SR.rt (rv__law_cell x)) (t' := (rc__law_cell)) (fun (x22 : Unit) => (PyData.int 0)) (s_ret a_c (fun _ => rfl)) (fun _ => rfl) (fun _ => (.jk rfl (.jk rfl .nil))))) (fun _ => rfl) (fun _ => Wk.refl _))

abbrev rv__law_digits (x : List PyData) : RV := RV.tmp (.L x)
abbrev rc__law_digits  (x : List PyData) : Cs := [none, none, none, none, none, none, none, none]
abbrev ec__law_digits  (o : List Ct) : Cs := [none, none, none, none, none, none, none, none]
def p__law_digits (v_script : PyData) (v_first : PyData) (v_last : PyData) : P (List PyData) :=
  (O.pl (gLstD [])).bind fun x23 =>
  (rg2P v_first v_last).bind fun i24 =>
  (pFold (fun (y357 : List PyData) d358 => ((p__law_cell v_script d358).nox).bind fun r359 =>
  (O.p (pyLt r359 (PyData.int 0))).bind fun x360 =>
  (asB x360).bind fun c361 =>
  (if c361 = true then (O.p (pyMulI (PyData.int 2) r359)).bind fun x364 =>
  (O.p (pySub (PyData.int 1) x364)).bind fun x365 =>
  P.ok x365 else P.ok r359).bind fun y366 =>
  (O.p (pyPow (PyData.int 10) (PyData.int 18))).bind fun x367 =>
  (O.p (pyGe y366 x367)).bind fun x368 =>
  (asB x368).bind fun c369 =>
  (if c369 = true then (rg1P (PyData.int 60)).bind fun i447 =>
  (pFold (fun (y470 : List PyData × PyData) d471 => (O.p (pyGt y470.2 (PyData.int 0))).bind fun x472 =>
  (asB x472).bind fun c473 =>
  (if c473 = true then (O.p (pyInt [y470.2])).bind fun x478 =>
  (O.p (pyMod x478 (PyData.int 1000))).bind fun x479 =>
  (appP y470.1 x479).bind fun l480 =>
  (O.p (pyDiv y470.2 (PyData.int 1000))).bind fun x481 =>
  P.ok (l480, x481) else P.ok (y470.1, y470.2)).bind fun y482 =>
  P.ok (y482.1, y482.2)) i447 (y357, y366)).bind fun y483 =>
  P.ok (y483.1, y483.2) else (O.p (pyMulI y366 (PyData.int 48271))).bind fun x484 =>
  (O.p (pyMulI d358 (PyData.int 69621))).bind fun x485 =>
  (O.p (pyAdd x484 x485)).bind fun x486 =>
  (O.p (pyAdd x486 (PyData.int 11))).bind fun x487 =>
  (O.p (pyInt [x487])).bind fun x488 =>
  (O.p (pyMod x488 (PyData.int 2147483647))).bind fun x489 =>
  (rg1P (PyData.int 12)).bind fun i490 =>
  (pFold (fun (y511 : List PyData × PyData) d512 => (O.p (pyMulI y511.2 (PyData.int 16807))).bind fun x513 =>
  (O.p (pyMulI (PyData.int 7) d512)).bind fun x514 =>
  (O.p (pyAdd x513 x514)).bind fun x515 =>
  (O.p (pyAdd x515 (PyData.int 1))).bind fun x516 =>
  (O.p (pyInt [x516])).bind fun x517 =>
  (O.p (pyMod x517 (PyData.int 2147483647))).bind fun x518 =>
  (O.p (pyDiv x518 (PyData.int 997))).bind fun x519 =>
  (O.p (pyInt [x519])).bind fun x520 =>
  (O.p (pyMod x520 (PyData.int 1000))).bind fun x521 =>
  (appP y511.1 x521).bind fun l522 =>
  P.ok (l522, x518)) i490 (y357, x489)).bind fun y523 =>
  P.ok (y523.1, y366)).bind fun y524 =>
  P.ok y524.1) i24 x23).bind fun y525 =>
  P.ok y525
def r__law_digits (v_script : PyData) (v_first : PyData) (v_last : PyData) : P (List PyData) :=
  ((P.ok ()).bind fun (a526 : Unit) => O.pl (gLstD [])).bind fun (x527 : List PyData) => ((((P.ok ()).bind fun (x528 : Unit) => ((P.ok ()).bind fun (x529 : Unit) => (P.ok ()).bind fun (q530 : Unit) => P.ok (x529, q530)).bind fun (q531 : Unit × Unit) => P.ok (x528, q531)).bind fun (a532 : Unit × (Unit × Unit)) => rg2P v_first v_last).bind fun (x533 : List PyData) => pFold (fun (y1488 : List PyData) (d1489 : PyData) => (P.ok ()).bind fun (z1490 : Unit) => (((P.ok ()).bind fun (x1491 : Unit) => ((P.ok ()).bind fun (x1492 : Unit) => (P.ok ()).bind fun (q1493 : Unit) => P.ok (x1492, q1493)).bind fun (q1494 : Unit × Unit) => P.ok (x1491, q1494)).bind fun (a1495 : Unit × (Unit × Unit)) => ((p__law_cell v_script d1489).nox).bind fun (r1496 : PyData) => P.ok r1496).bind fun (x1498 : PyData) => ((((P.ok ()).bind fun (x1499 : Unit) => (P.ok ()).bind fun (x1500 : Unit) => O.p (pyLt x1498 (PyData.int 0))).bind fun (x1501 : PyData) => asB x1501).bind fun (x1502 : Bool) => if x1502 = true then ((P.ok ()).bind fun (x1508 : Unit) => ((P.ok ()).bind fun (x1509 : Unit) => (P.ok ()).bind fun (x1510 : Unit) => O.p (pyMulI (PyData.int 2) x1498)).bind fun (x1511 : PyData) => O.p (pySub (PyData.int 1) x1511)).bind fun (x1512 : PyData) => P.ok x1512 else (P.ok ()).bind fun (x1514 : Unit) => P.ok x1498).bind fun (x1516 : PyData) => ((((P.ok ()).bind fun (x1517 : Unit) => ((P.ok ()).bind fun (x1518 : Unit) => (P.ok ()).bind fun (x1519 : Unit) => O.p (pyPow (PyData.int 10) (PyData.int 18))).bind fun (x1520 : PyData) => O.p (pyGe x1516 x1520)).bind fun (x1521 : PyData) => asB x1521).bind fun (x1522 : Bool) => if x1522 = true then ((((P.ok ()).bind fun (x1744 : Unit) => (P.ok ()).bind fun (q1745 : Unit) => P.ok (x1744, q1745)).bind fun (a1746 : Unit × Unit) => rg1P (PyData.int 60)).bind fun (x1747 : List PyData) => pFold (fun (y1820 : List PyData × PyData) (d1821 : PyData) => (P.ok ()).bind fun (z1822 : Unit) => ((((P.ok ()).bind fun (x1823 : Unit) => (P.ok ()).bind fun (x1824 : Unit) => O.p (pyGt y1820.2 (PyData.int 0))).bind fun (x1825 : PyData) => asB x1825).bind fun (x1826 : Bool) => if x1826 = true then ((((((P.ok ()).bind fun (x1841 : Unit) => (P.ok ()).bind fun (q1842 : Unit) => P.ok (x1841, q1842)).bind fun (a1843 : Unit × Unit) => O.p (pyInt [y1820.2])).bind fun (x1844 : PyData) => (P.ok ()).bind fun (x1845 : Unit) => O.p (pyMod x1844 (PyData.int 1000))).bind fun (x1846 : PyData) => (P.ok ()).bind fun (q1847 : Unit) => P.ok (x1846, q1847)).bind fun (a1848 : PyData × Unit) => (appP y1820.1 a1848.1).bind fun (r1849 : List PyData) => P.ok r1849).bind fun (x1851 : List PyData) => ((P.ok ()).bind fun (x1852 : Unit) => (P.ok ()).bind fun (x1853 : Unit) => O.p (pyDiv y1820.2 (PyData.int 1000))).bind fun (x1854 : PyData) => P.ok (x1851, x1854) else (P.ok ()).bind fun (x1856 : Unit) => P.ok (y1820.1, y1820.2)).bind fun (x1858 : List PyData × PyData) => P.ok (x1858.1, x1858.2)) x1747 (y1488, x1516)).bind fun (x1860 : List PyData × PyData) => P.ok (x1860.1, x1860.2) else (((((((P.ok ()).bind fun (x1862 : Unit) => (P.ok ()).bind fun (x1863 : Unit) => O.p (pyMulI x1516 (PyData.int 48271))).bind fun (x1864 : PyData) => ((P.ok ()).bind fun (x1865 : Unit) => (P.ok ()).bind fun (x1866 : Unit) => O.p (pyMulI d1489 (PyData.int 69621))).bind fun (x1867 : PyData) => O.p (pyAdd x1864 x1867)).bind fun (x1868 : PyData) => (P.ok ()).bind fun (x1869 : Unit) => O.p (pyAdd x1868 (PyData.int 11))).bind fun (x1870 : PyData) => (P.ok ()).bind fun (q1871 : Unit) => P.ok (x1870, q1871)).bind fun (a1872 : PyData × Unit) => O.p (pyInt [a1872.1])).bind fun (x1873 : PyData) => (P.ok ()).bind fun (x1874 : Unit) => O.p (pyMod x1873 (PyData.int 2147483647))).bind fun (x1875 : PyData) => ((((P.ok ()).bind fun (x1876 : Unit) => (P.ok ()).bind fun (q1877 : Unit) => P.ok (x1876, q1877)).bind fun (a1878 : Unit × Unit) => rg1P (PyData.int 12)).bind fun (x1879 : List PyData) => pFold (fun (y1934 : List PyData × PyData) (d1935 : PyData) => (P.ok ()).bind fun (z1936 : Unit) => (((((((P.ok ()).bind fun (x1937 : Unit) => (P.ok ()).bind fun (x1938 : Unit) => O.p (pyMulI y1934.2 (PyData.int 16807))).bind fun (x1939 : PyData) => ((P.ok ()).bind fun (x1940 : Unit) => (P.ok ()).bind fun (x1941 : Unit) => O.p (pyMulI (PyData.int 7) d1935)).bind fun (x1942 : PyData) => O.p (pyAdd x1939 x1942)).bind fun (x1943 : PyData) => (P.ok ()).bind fun (x1944 : Unit) => O.p (pyAdd x1943 (PyData.int 1))).bind fun (x1945 : PyData) => (P.ok ()).bind fun (q1946 : Unit) => P.ok (x1945, q1946)).bind fun (a1947 : PyData × Unit) => O.p (pyInt [a1947.1])).bind fun (x1948 : PyData) => (P.ok ()).bind fun (x1949 : Unit) => O.p (pyMod x1948 (PyData.int 2147483647))).bind fun (x1950 : PyData) => (((((((P.ok ()).bind fun (x1951 : Unit) => (P.ok ()).bind fun (x1952 : Unit) => O.p (pyDiv x1950 (PyData.int 997))).bind fun (x1953 : PyData) => (P.ok ()).bind fun (q1954 : Unit) => P.ok (x1953, q1954)).bind fun (a1955 : PyData × Unit) => O.p (pyInt [a1955.1])).bind fun (x1956 : PyData) => (P.ok ()).bind fun (x1957 : Unit) => O.p (pyMod x1956 (PyData.int 1000))).bind fun (x1958 : PyData) => (P.ok ()).bind fun (q1959 : Unit) => P.ok (x1958, q1959)).bind fun (a1960 : PyData × Unit) => (appP y1934.1 a1960.1).bind fun (r1961 : List PyData) => P.ok r1961).bind fun (x1963 : List PyData) => P.ok (x1963, x1950)) x1879 (y1488, x1875)).bind fun (x1965 : List PyData × PyData) => P.ok (x1965.1, x1516)).bind fun (x1967 : List PyData × PyData) => P.ok x1967.1) x533 x527).bind fun (x1969 : List PyData) => (P.ok ()).bind fun (x1970 : Unit) => P.ok x1969
theorem eq__law_digits (v_script : PyData) (v_first : PyData) (v_last : PyData) : r__law_digits v_script v_first v_last = p__law_digits v_script v_first v_last := by unfold r__law_digits p__law_digits; simp only [P.bind_assoc, P.bind_ok, P.bind_okR, soB_nx, soB_rt, ite_soB, mapN_nx, mapN_rt, ite_mapN, if_true]
theorem z__law_digits  (v_script : PyData) (v_first : PyData) (v_last : PyData) : FnS fd__law_digits [(.sh v_script), (.sh v_first), (.sh v_last)] (p__law_digits v_script v_first v_last) (fun x => rv__law_digits x) (fun (x : List PyData) => [(.sh v_script), (.sh v_first), (.sh v_last)]) (fun (o : List Ct) => [(.sh v_script), (.sh v_first), (.sh v_last)]) := by
  rw [← eq__law_digits]
  refine U.fn_of (w := (fun x => SR.rt (rv__law_digits x))) (u := (rc__law_digits)) (es := ec__law_digits) ?_ (fun _ => rfl) (fun _ => rfl) (fun _ => rfl)
  unfold r__law_digits
  exact (s_seq (SG.ct (t' := fun (x527 : List PyData) => [some (.sh v_script), some (.sh v_first), some (.sh v_last), some (.ct .ow false (.L x527)), none, none, none, none]) (s_set (e_disp finL aa_nil (fun _ => rfl)) (fun _ => rfl)) (fun _ => rfl))
  (fun (x527 : List PyData) => (s_seq (s_for (tg := fun (y1488 : List PyData) (d1489 : PyData) (z1490 : Unit) => [some (.sh v_script), some (.sh v_first), some (.sh v_last), some (.ct .ow false (.L y1488)), some (.sh d1489), none, none, none]) (fun (x533 : List PyData) => x527) (fun (y1488 : List PyData) => [some (.sh v_script), some (.sh v_first), some (.sh v_last), some (.ct .ow false (.L y1488)), none, none, none, none]) (i_rg2  (aa_consP (a_sh rfl) (fun _ => rfl) (aa_consP (a_sh rfl) (fun _ => rfl) aa_nil)) (fun _ => rfl)) (fun _ => (.sm (.sm (.sm (.sm (.sm (.sm (.sm (.sm .nil))))))))) (fun _ _ => (g_n rfl)) (fun (y1488 : List PyData) (d1489 : PyData) (z1490 : Unit) => (s_seq (SG.ct (t' := fun (x1498 : PyData) => [some (.sh v_script), some (.sh v_first), some (.sh v_last), some (.ct .ow false (.L y1488)), some (.sh d1489), some (.sh x1498), none, none]) (s_set (e_callN (fun (a1495 : Unit × (Unit × Unit)) (r1496 : PyData) => r1496) (v := (fun (x1497 : PyData) => RV.val x1497)) (tt := (fun (x1497 : PyData) => [some (.sh v_script), some (.sh v_first), some (.sh v_last), some (.ct .ow false (.L y1488)), some (.sh d1489), none, none, none])) (aa_consP (a_sh rfl) (fun _ => rfl) (aa_consP (a_sh rfl) (fun _ => rfl) aa_nil)) (fun _ => rfl) (fun _ => rfl) (fun _ => rfl) (fun (a1495 : Unit × (Unit × Unit)) => z__law_cell v_script d1489) (fun _ => rfl) (fun _ _ => rfl) (fun _ _ => rfl) (fun _ _ => Wk.refl _)) (fun _ => rfl)) (fun _ => rfl))
  (fun (x1498 : PyData) => (s_seq (s_if (t_test  (e_op finV (a_sh rfl) (fun _ => rfl) a_c (fun _ => rfl) (fun _ => rfl))) (fun (x1502 : Bool) => (SG.wk (v' := (fun _ => SR.nx)) (t' := (fun (y1513 : PyData) => [some (.sh v_script), some (.sh v_first), some (.sh v_last), some (.ct .ow false (.L y1488)), some (.sh d1489), some (.sh y1513), none, none])) (fun (x1512 : PyData) => x1512) (s_set (e_op finV a_c (fun _ => rfl) (e_op finV a_c (fun _ => rfl) (a_sh rfl) (fun _ => rfl) (fun _ => rfl)) (fun _ => rfl) (fun _ => rfl)) (fun _ => rfl)) (fun _ => rfl) (fun _ => (.sm (.sm (.sm (.sm (.sm (.sm (.sm (.sm .nil)))))))))))
   (fun (x1502 : Bool) => (SG.wk (v' := (fun _ => SR.nx)) (t' := (fun (y1515 : PyData) => [some (.sh v_script), some (.sh v_first), some (.sh v_last), some (.ct .ow false (.L y1488)), some (.sh d1489), some (.sh y1515), none, none])) (fun (x1514 : Unit) => x1498) s_skip (fun _ => rfl) (fun _ => (.sm (.sm (.sm (.sm (.sm (.sm (.sm (.sm .nil))))))))))))
  (fun (x1516 : PyData) => (SG.wk (v' := (fun _ => SR.nx)) (t' := (fun (y1968 : List PyData) => [some (.sh v_script), some (.sh v_first), some (.sh v_last), some (.ct .ow false (.L y1968)), none, none, none, none])) (fun (x1967 : List PyData × PyData) => x1967.1) (s_if (t_test  (e_op finV (a_sh rfl) (fun _ => rfl) (e_op finV a_c (fun _ => rfl) a_c (fun _ => rfl) (fun _ => rfl)) (fun _ => rfl) (fun _ => rfl))) (fun (x1522 : Bool) => (SG.wk (v' := (fun _ => SR.nx)) (t' := (fun (y1861 : List PyData × PyData) => [some (.sh v_script), some (.sh v_first), some (.sh v_last), some (.ct .ow false (.L y1861.1)), some (.sh d1489), some (.sh y1861.2), none, none])) (fun (x1860 : List PyData × PyData) => (x1860.1, x1860.2)) (s_for (tg := fun (y1820 : List PyData × PyData) (d1821 : PyData) (z1822 : Unit) => [some (.sh v_script), some (.sh v_first), some (.sh v_last), some (.ct .ow false (.L y1820.1)), some (.sh d1489), some (.sh y1820.2), some (.sh d1821), none]) (fun (x1747 : List PyData) => (y1488, x1516)) (fun (y1820 : List PyData × PyData) => [some (.sh v_script), some (.sh v_first), some (.sh v_last), some (.ct .ow false (.L y1820.1)), some (.sh d1489), some (.sh y1820.2), none, none]) (i_rg1  (aa_consP a_c (fun _ => rfl) aa_nil) (fun _ => rfl)) (fun _ => (.sm (.sm (.sm (.sm (.sm (.sm (.sm (.sm .nil))))))))) (fun _ _ => (g_n rfl)) (fun (y1820 : List PyData × PyData) (d1821 : PyData) (z1822 : Unit) => (SG.wk (v' := (fun _ => SR.nx)) (t' := (fun (y1859 : List PyData × PyData) => [some (.sh v_script), some (.sh v_first), some (.sh v_last), some (.ct .ow false (.L y1859.1)), some (.sh d1489), some (.sh y1859.2), none, none])) (fun (x1858 : List PyData × PyData) => (x1858.1, x1858.2)) (s_if (t_test  (e_op finV (a_sh rfl) (fun _ => rfl) a_c (fun _ => rfl) (fun _ => rfl))) (fun (x1826 : Bool) => (s_seq (SG.ct (t' := fun (x1851 : List PyData) => [some (.sh v_script), some (.sh v_first), some (.sh v_last), some (.ct .ow false (.L x1851)), some (.sh d1489), some (.sh y1820.2), some (.sh d1821), none]) (s_drop (e_mutE (fun (a1848 : PyData × Unit) (r1849 : List PyData) => r1849) (v := (fun (x1850 : List PyData) => RV.val PyData.none)) (t := (fun (x1850 : List PyData) => [some (.sh v_script), some (.sh v_first), some (.sh v_last), some (.ct .ow false (.L x1850)), some (.sh d1489), some (.sh y1820.2), some (.sh d1821), none])) rfl (aa_consP (e_op finV (e_cb finV (aa_consP (a_sh rfl) (fun _ => rfl) aa_nil) (fun _ => rfl)) (fun _ => rfl) a_c (fun _ => rfl) (fun _ => rfl)) (fun _ => rfl) aa_nil) (fun _ => rfl) (fun _ => rfl) (fun _ => mu_app) (fun _ _ => rfl) (fun _ _ => rfl))) (fun _ => rfl))
  (fun (x1851 : List PyData) => (SG.wk (v' := (fun _ => SR.nx)) (t' := (fun (y1855 : List PyData × PyData) => [some (.sh v_script), some (.sh v_first), some (.sh v_last), some (.ct .ow false (.L y1855.1)), some (.sh d1489), some (.sh y1855.2), some (.sh d1821), none])) (fun (x1854 : PyData) => (x1851, x1854)) (s_set (e_op finV (a_sh rfl) (fun _ => rfl) a_c (fun _ => rfl) (fun _ => rfl)) (fun _ => rfl)) (fun _ => rfl) (fun _ => (.sm (.sm (.sm (.sm (.sm (.sm (.sm (.sm .nil)))))))))))))
   (fun (x1826 : Bool) => (SG.wk (v' := (fun _ => SR.nx)) (t' := (fun (y1857 : List PyData × PyData) => [some (.sh v_script), some (.sh v_first), some (.sh v_last), some (.ct .ow false (.L y1857.1)), some (.sh d1489), some (.sh y1857.2), some (.sh d1821), none])) (fun (x1856 : Unit) => (y1820.1, y1820.2)) s_skip (fun _ => rfl) (fun _ => (.sm (.sm (.sm (.sm (.sm (.sm (.sm (.sm .nil)))))))))))) (fun _ => rfl) (fun _ => (.sm (.sm (.sm (.sm (.sm (.sm (.jk rfl (.sm .nil)))))))))))) (fun _ => rfl) (fun _ => (.sm (.sm (.sm (.sm (.sm (.sm (.sm (.sm .nil)))))))))))
   (fun (x1522 : Bool) => (s_seq (SG.ct (t' := fun (x1875 : PyData) => [some (.sh v_script), some (.sh v_first), some (.sh v_last), some (.ct .ow false (.L y1488)), some (.sh d1489), some (.sh x1516), none, some (.sh x1875)]) (s_set (e_op finV (e_cb finV (aa_consP (e_op finV (e_op finV (e_op finV (a_sh rfl) (fun _ => rfl) a_c (fun _ => rfl) (fun _ => rfl)) (fun _ => rfl) (e_op finV (a_sh rfl) (fun _ => rfl) a_c (fun _ => rfl) (fun _ => rfl)) (fun _ => rfl) (fun _ => rfl)) (fun _ => rfl) a_c (fun _ => rfl) (fun _ => rfl)) (fun _ => rfl) aa_nil) (fun _ => rfl)) (fun _ => rfl) a_c (fun _ => rfl) (fun _ => rfl)) (fun _ => rfl)) (fun _ => rfl))
  (fun (x1875 : PyData) => (SG.wk (v' := (fun _ => SR.nx)) (t' := (fun (y1966 : List PyData × PyData) => [some (.sh v_script), some (.sh v_first), some (.sh v_last), some (.ct .ow false (.L y1966.1)), some (.sh d1489), some (.sh y1966.2), none, none])) (fun (x1965 : List PyData × PyData) => (x1965.1, x1516)) (s_for (tg := fun (y1934 : List PyData × PyData) (d1935 : PyData) (z1936 : Unit) => [some (.sh v_script), some (.sh v_first), some (.sh v_last), some (.ct .ow false (.L y1934.1)), some (.sh d1489), some (.sh x1516), some (.sh d1935), some (.sh y1934.2)]) (fun (x1879 : List PyData) => (y1488, x1875)) (fun (y1934 : List PyData × PyData) => [some (.sh v_script), some (.sh v_first), some (.sh v_last), some (.ct .ow false (.L y1934.1)), some (.sh d1489), some (.sh x1516), none, some (.sh y1934.2)]) (i_rg1  (aa_consP a_c (fun _ => rfl) aa_nil) (fun _ => rfl)) (fun _ => (.sm (.sm (.sm (.sm (.sm (.sm (.sm (.sm .nil))))))))) (fun _ _ => (g_n rfl)) (fun (y1934 : List PyData × PyData) (d1935 : PyData) (z1936 : Unit) => (s_seq (SG.ct (t' := fun (x1950 : PyData) => [some (.sh v_script), some (.sh v_first), some (.sh v_last), some (.ct .ow false (.L y1934.1)), some (.sh d1489), some (.sh x1516), some (.sh d1935), some (.sh x1950)]) (s_set (e_op finV (e_cb finV (aa_consP (e_op finV (e_op finV (e_op finV (a_sh rfl) (fun _ => rfl) a_c (fun _ => rfl) (fun _ => rfl)) (fun _ => rfl) (e_op finV a_c (fun _ => rfl) (a_sh rfl) (fun _ => rfl) (fun _ => rfl)) (fun _ => rfl) (fun _ => rfl)) (fun _ => rfl) a_c (fun _ => rfl) (fun _ => rfl)) (fun _ => rfl) aa_nil) (fun _ => rfl)) (fun _ => rfl) a_c (fun _ => rfl) (fun _ => rfl)) (fun _ => rfl)) (fun _ => rfl))
  (fun (x1950 : PyData) => (SG.wk (v' := (fun _ => SR.nx)) (t' := (fun (y1964 : List PyData × PyData) => [some (.sh v_script), some (.sh v_first), some (.sh v_last), some (.ct .ow false (.L y1964.1)), some (.sh d1489), some (.sh x1516), none, some (.sh y1964.2)])) (fun (x1963 : List PyData) => (x1963, x1950)) (s_drop (e_mutE (fun (a1960 : PyData × Unit) (r1961 : List PyData) => r1961) (v := (fun (x1962 : List PyData) => RV.val PyData.none)) (t := (fun (x1962 : List PyData) => [some (.sh v_script), some (.sh v_first), some (.sh v_last), some (.ct .ow false (.L x1962)), some (.sh d1489), some (.sh x1516), some (.sh d1935), some (.sh x1950)])) rfl (aa_consP (e_op finV (e_cb finV (aa_consP (e_op finV (a_sh rfl) (fun _ => rfl) a_c (fun _ => rfl) (fun _ => rfl)) (fun _ => rfl) aa_nil) (fun _ => rfl)) (fun _ => rfl) a_c (fun _ => rfl) (fun _ => rfl)) (fun _ => rfl) aa_nil) (fun _ => rfl) (fun _ => rfl) (fun _ => mu_app) (fun _ _ => rfl) (fun _ _ => rfl))) (fun _ => rfl) (fun _ => (.sm (.sm (.sm (.sm (.sm (.sm (.jk rfl (.sm .nil)))))))))))))) (fun _ => rfl) (fun _ => (.sm (.sm (.sm (.sm (.sm (.sm (.sm (.jk rfl .nil)))))))))))))) (fun _ => rfl) (fun _ => (.sm (.sm (.sm (.sm (.jk rfl (.jk rfl (.sm (.sm .nil))))))))))))))))
  (fun (x1969 : List PyData) => (SG.wk (v' := fun x => SR.rt (rv__law_digits x)) (t' := (rc__law_digits)) (fun (x1970 : Unit) => x1969) (s_ret (a_sl rfl) (fun _ => rfl)) (fun _ => rfl) (fun _ => (.jk rfl (.jk rfl (.jk rfl (.sm (.sm (.sm (.sm (.sm .nil))))))))))))))

abbrev rv__law_draw (x : PyData × List PyData) : RV := RV.val x.1
abbrev rc__law_draw  (x : PyData × List PyData) : Cs := [some (.ct .io false (.L x.2)), none, none]
abbrev ec__law_draw  (o : List Ct) : Cs := [some (.ct .io false (.L (ctL (o.getD 0 (.L []))))), none, none]
def p__law_draw (v_box : List PyData) (v_many : PyData) : P (PyData × List PyData) :=
  (O.p (pyIx (PyData.list v_box) (PyData.int 1))).bind fun x1971 =>
  (O.p (pyAdd x1971 (PyData.int 1))).bind fun x1972 =>
  (asI (PyData.int 1)).bind fun k1973 =>
  (setP v_box k1973 x1972).bind fun l1974 =>
  (O.p (pyIx (PyData.list l1974) (PyData.int 0))).bind fun x1975 =>
  (O.p (pyLen [x1975])).bind fun x1976 =>
  (O.p (pyLt x1971 x1976)).bind fun x1977 =>
  (asB x1977).bind fun c1978 =>
  if c1978 = true then
  (O.p (pyIx (PyData.list l1974) (PyData.int 0))).bind fun x1979 =>
  (O.p (pyIx x1979 x1971)).bind fun x1980 =>
  (O.p (pyInt [x1980])).bind fun x1981 =>
  (O.p (pyMod x1981 v_many)).bind fun x1982 =>
  P.ok (x1982, l1974)
  else
  (O.p (pyMulI x1971 (PyData.int 7))).bind fun x1983 =>
  (O.p (pyAdd x1983 (PyData.int 3))).bind fun x1984 =>
  (O.p (pyInt [x1984])).bind fun x1985 =>
  (O.p (pyMod x1985 v_many)).bind fun x1986 =>
  P.ok (x1986, l1974)
def r__law_draw (v_box : List PyData) (v_many : PyData) : P (PyData × List PyData) :=
  ((P.ok ()).bind fun (x1987 : Unit) => (P.ok ()).bind fun (x1988 : Unit) => O.p (pyIx (PyData.list v_box) (PyData.int 1))).bind fun (x1989 : PyData) => (((P.ok ()).bind fun (x1990 : Unit) => (P.ok ()).bind fun (x1991 : Unit) => O.p (pyAdd x1989 (PyData.int 1))).bind fun (x1992 : PyData) => (P.ok ()).bind fun (x1993 : Unit) => (asI (PyData.int 1)).bind fun k1994 => (setP v_box k1994 x1992).bind fun (l1995 : List PyData) => P.ok ((x1992, x1993), l1995)).bind fun (x1996 : ((PyData) × (Unit)) × List PyData) => ((((P.ok ()).bind fun (x1997 : Unit) => ((((P.ok ()).bind fun (x1998 : Unit) => (P.ok ()).bind fun (x1999 : Unit) => O.p (pyIx (PyData.list x1996.2) (PyData.int 0))).bind fun (x2000 : PyData) => (P.ok ()).bind fun (q2001 : Unit) => P.ok (x2000, q2001)).bind fun (a2002 : PyData × Unit) => O.p (pyLen [a2002.1])).bind fun (x2003 : PyData) => O.p (pyLt x1989 x2003)).bind fun (x2004 : PyData) => asB x2004).bind fun (x2005 : Bool) => if x2005 = true then (((((((P.ok ()).bind fun (x2016 : Unit) => (P.ok ()).bind fun (x2017 : Unit) => O.p (pyIx (PyData.list x1996.2) (PyData.int 0))).bind fun (x2018 : PyData) => (P.ok ()).bind fun (x2019 : Unit) => O.p (pyIx x2018 x1989)).bind fun (x2020 : PyData) => (P.ok ()).bind fun (q2021 : Unit) => P.ok (x2020, q2021)).bind fun (a2022 : PyData × Unit) => O.p (pyInt [a2022.1])).bind fun (x2023 : PyData) => (P.ok ()).bind fun (x2024 : Unit) => O.p (pyMod x2023 v_many)).bind fun (x2025 : PyData) => P.ok (x2025, x1996.2)).bind fun (r : PyData × List PyData) => P.ok (SO.rt r) else (P.ok ()).bind fun (x2027 : Unit) => P.ok (SO.nx ())).bind (soB (fun (x2029 : Unit) => ((((((P.ok ()).bind fun (x2030 : Unit) => (P.ok ()).bind fun (x2031 : Unit) => O.p (pyMulI x1989 (PyData.int 7))).bind fun (x2032 : PyData) => (P.ok ()).bind fun (x2033 : Unit) => O.p (pyAdd x2032 (PyData.int 3))).bind fun (x2034 : PyData) => (P.ok ()).bind fun (q2035 : Unit) => P.ok (x2034, q2035)).bind fun (a2036 : PyData × Unit) => O.p (pyInt [a2036.1])).bind fun (x2037 : PyData) => (P.ok ()).bind fun (x2038 : Unit) => O.p (pyMod x2037 v_many)).bind fun (x2039 : PyData) => P.ok (x2039, x1996.2)) (fun r => r))
theorem eq__law_draw (v_box : List PyData) (v_many : PyData) : r__law_draw v_box v_many = p__law_draw v_box v_many := by unfold r__law_draw p__law_draw; simp only [P.bind_assoc, P.bind_ok, P.bind_okR, soB_nx, soB_rt, ite_soB, mapN_nx, mapN_rt, ite_mapN, if_true]
theorem z__law_draw  (v_box : List PyData) (v_many : PyData) : FnS fd__law_draw [(.ct .io false (.L v_box)), (.sh v_many)] (p__law_draw v_box v_many) (fun x => rv__law_draw x) (fun (x : PyData × List PyData) => [(.ct .io false (.L x.2)), (.sh v_many)]) (fun (o : List Ct) => [(.ct .io false (.L (ctL (o.getD 0 (.L []))))), (.sh v_many)]) := by
  rw [← eq__law_draw]
  refine U.fn_of (w := (fun x => SR.rt (rv__law_draw x))) (u := (rc__law_draw)) (es := ec__law_draw) ?_ (fun _ => rfl) (fun _ => rfl) (fun _ => rfl)
  unfold r__law_draw
  exact (s_seq (SG.ct (t' := fun (x1989 : PyData) => [some (.ct .io false (.L v_box)), some (.sh v_many), some (.sh x1989)]) (s_set (e_op finV (a_sl rfl) (fun _ => rfl) a_c (fun _ => rfl) (fun _ => rfl)) (fun _ => rfl)) (fun _ => rfl))
  (fun (x1989 : PyData) => (s_seq (SG.ct (t' := fun (x1996 : ((PyData) × (Unit)) × List PyData) => [some (.ct .io false (.L x1996.2)), some (.sh v_many), some (.sh x1989)]) (s_setIx (e_op finV (a_sh rfl) (fun _ => rfl) a_c (fun _ => rfl) (fun _ => rfl)) (fun _ => rfl) (fun _ => rfl) (fun _ => rfl) (fun (x1992 : PyData) => a_c) (fun _ _ => rfl) (fun _ _ => rfl)) (fun _ => rfl))
  (fun (x1996 : ((PyData) × (Unit)) × List PyData) => (s_seqM (vr := fun x => rv__law_draw x) (tr := (rc__law_draw)) (fun r => r) (s_if (t_test  (e_op finV (a_sh rfl) (fun _ => rfl) (e_cb finV (aa_consP (e_op finV (a_sl rfl) (fun _ => rfl) a_c (fun _ => rfl) (fun _ => rfl)) (fun _ => rfl) aa_nil) (fun _ => rfl)) (fun _ => rfl) (fun _ => rfl))) (fun (x2005 : Bool) => (SG.wk (v' := (soV (fun x => rv__law_draw x))) (t' := (soT (fun (y2026 : Unit) => [some (.ct .io false (.L x1996.2)), some (.sh v_many), some (.sh x1989)]) (rc__law_draw))) (fun r => SO.rt r) (SG.wk (v' := fun x => SR.rt (rv__law_draw x)) (t' := (rc__law_draw)) (fun (x2025 : PyData) => (x2025, x1996.2)) (s_ret (e_op finV (e_cb finV (aa_consP (e_op finV (e_op finV (a_sl rfl) (fun _ => rfl) a_c (fun _ => rfl) (fun _ => rfl)) (fun _ => rfl) (a_sh rfl) (fun _ => rfl) (fun _ => rfl)) (fun _ => rfl) aa_nil) (fun _ => rfl)) (fun _ => rfl) (a_sh rfl) (fun _ => rfl) (fun _ => rfl)) (fun _ => rfl)) (fun _ => rfl) (fun _ => (.sm (.jk rfl (.jk rfl .nil))))) (fun _ => rfl) (fun _ => Wk.refl _)))
   (fun (x2005 : Bool) => (SG.wk (v' := (soV (fun x => rv__law_draw x))) (t' := (soT (fun (y2028 : Unit) => [some (.ct .io false (.L x1996.2)), some (.sh v_many), some (.sh x1989)]) (rc__law_draw))) (fun (x2027 : Unit) => SO.nx ()) s_skip (fun _ => rfl) (fun _ => (.sm (.sm (.sm .nil)))))))
  (fun (x2029 : Unit) => (SG.wk (v' := fun x => SR.rt (rv__law_draw x)) (t' := (rc__law_draw)) (fun (x2039 : PyData) => (x2039, x1996.2)) (s_ret (e_op finV (e_cb finV (aa_consP (e_op finV (e_op finV (a_sh rfl) (fun _ => rfl) a_c (fun _ => rfl) (fun _ => rfl)) (fun _ => rfl) a_c (fun _ => rfl) (fun _ => rfl)) (fun _ => rfl) aa_nil) (fun _ => rfl)) (fun _ => rfl) (a_sh rfl) (fun _ => rfl) (fun _ => rfl)) (fun _ => rfl)) (fun _ => rfl) (fun _ => (.sm (.jk rfl (.jk rfl .nil)))))) (fun _ => rfl) (fun _ => Wk.refl _))))))

abbrev rv__law_words (x : PyData × List PyData) : RV := RV.val x.1
abbrev rc__law_words  (x : PyData × List PyData) : Cs := [some (.ct .io false (.L x.2)), none, none, none, none]
abbrev ec__law_words  (o : List Ct) : Cs := [some (.ct .io false (.L (ctL (o.getD 0 (.L []))))), none, none, none, none]
def p__law_words (v_box : List PyData) : P (PyData × List PyData) :=
  (O.pl (gLstD [])).bind fun x2040 =>
  ((p__law_draw v_box (PyData.int 5)).nox).bind fun r2041 =>
  (rg1P r2041.1).bind fun i2042 =>
  (pFold (fun (y2085 : List PyData × List PyData) d2086 => (O.pl (gLstD [(PyData.str (PySem.Str.ofString "")), (PyData.str (PySem.Str.ofString "l")), (PyData.str (PySem.Str.ofString "j"))])).bind fun x2087 =>
  ((p__law_draw y2085.1 (PyData.int 3)).nox).bind fun r2088 =>
  (O.p (pyIx (PyData.list x2087) r2088.1)).bind fun x2089 =>
  ((p__law_draw r2088.2 (PyData.int 4)).nox).bind fun r2090 =>
  (O.p (pyMulI (PyData.int 4) r2090.1)).bind fun x2091 =>
  ((p__law_draw r2090.2 (PyData.int 2)).nox).bind fun r2092 =>
  (O.p (pyEq r2092.1 (PyData.int 0))).bind fun x2093 =>
  (O.p (gTupD [x2089, x2091, (PyData.int 4), x2093])).bind fun x2094 =>
  (asI (PyData.int 2)).bind fun x2095 =>
  (O.p (pySl x2094 none (some x2095))).bind fun x2096 =>
  (pLc (fun d2099 => (asI (PyData.int 2)).bind fun x2100 =>
  (O.p (pySl d2099 none (some x2100))).bind fun x2101 =>
  P.ok (some x2101)) y2085.2 []).bind fun l2102 =>
  (O.p (pyNotIn x2096 (PyData.list l2102))).bind fun x2103 =>
  (asB x2103).bind fun c2104 =>
  (if c2104 = true then (appP y2085.2 x2094).bind fun l2106 =>
  P.ok l2106 else P.ok y2085.2).bind fun y2107 =>
  P.ok (r2092.2, y2107)) i2042 (r2041.2, x2040)).bind fun y2108 =>
  (O.p (pyTuple [(PyData.list y2108.2)])).bind fun x2109 =>
  P.ok (x2109, y2108.1)
def r__law_words (v_box : List PyData) : P (PyData × List PyData) :=
  ((P.ok ()).bind fun (a2110 : Unit) => O.pl (gLstD [])).bind fun (x2111 : List PyData) => ((((((P.ok ()).bind fun (x2112 : Unit) => ((P.ok ()).bind fun (x2113 : Unit) => (P.ok ()).bind fun (q2114 : Unit) => P.ok (x2113, q2114)).bind fun (q2115 : Unit × Unit) => P.ok (x2112, q2115)).bind fun (a2116 : Unit × (Unit × Unit)) => ((p__law_draw v_box (PyData.int 5)).nox).bind fun (r2117 : PyData × List PyData) => P.ok (r2117.1, r2117.2)).bind fun (x2119 : PyData × List PyData) => (P.ok ()).bind fun (q2120 : Unit) => P.ok (x2119, q2120)).bind fun (a2121 : (PyData × List PyData) × Unit) => (rg1P a2121.1.1).bind fun (r2122 : List PyData) => P.ok (r2122, a2121.1.2)).bind fun (x2124 : List PyData × List PyData) => pFold (fun (y2293 : List PyData × List PyData) (d2294 : PyData) => (P.ok ()).bind fun (z2295 : Unit) => ((((((P.ok ()).bind fun (x2296 : Unit) => ((P.ok ()).bind fun (x2297 : Unit) => ((P.ok ()).bind fun (x2298 : Unit) => (P.ok ()).bind fun (q2299 : Unit) => P.ok (x2298, q2299)).bind fun (q2300 : Unit × Unit) => P.ok (x2297, q2300)).bind fun (q2301 : Unit × (Unit × Unit)) => P.ok (x2296, q2301)).bind fun (a2302 : Unit × (Unit × (Unit × Unit))) => O.pl (gLstD [(PyData.str (PySem.Str.ofString "")), (PyData.str (PySem.Str.ofString "l")), (PyData.str (PySem.Str.ofString "j"))])).bind fun (x2303 : List PyData) => (((P.ok ()).bind fun (x2304 : Unit) => ((P.ok ()).bind fun (x2305 : Unit) => (P.ok ()).bind fun (q2306 : Unit) => P.ok (x2305, q2306)).bind fun (q2307 : Unit × Unit) => P.ok (x2304, q2307)).bind fun (a2308 : Unit × (Unit × Unit)) => ((p__law_draw y2293.1 (PyData.int 3)).nox).bind fun (r2309 : PyData × List PyData) => P.ok (r2309.1, r2309.2)).bind fun (x2311 : PyData × List PyData) => (O.p (pyIx (PyData.list x2303) x2311.1)).bind fun (r2312 : PyData) => P.ok (r2312, x2311.2)).bind fun (x2314 : PyData × List PyData) => (((P.ok ()).bind fun (x2315 : Unit) => (((P.ok ()).bind fun (x2316 : Unit) => ((P.ok ()).bind fun (x2317 : Unit) => (P.ok ()).bind fun (q2318 : Unit) => P.ok (x2317, q2318)).bind fun (q2319 : Unit × Unit) => P.ok (x2316, q2319)).bind fun (a2320 : Unit × (Unit × Unit)) => ((p__law_draw x2314.2 (PyData.int 4)).nox).bind fun (r2321 : PyData × List PyData) => P.ok (r2321.1, r2321.2)).bind fun (x2323 : PyData × List PyData) => (O.p (pyMulI (PyData.int 4) x2323.1)).bind fun (r2324 : PyData) => P.ok (r2324, x2323.2)).bind fun (x2326 : PyData × List PyData) => ((P.ok ()).bind fun (x2327 : Unit) => (((((P.ok ()).bind fun (x2328 : Unit) => ((P.ok ()).bind fun (x2329 : Unit) => (P.ok ()).bind fun (q2330 : Unit) => P.ok (x2329, q2330)).bind fun (q2331 : Unit × Unit) => P.ok (x2328, q2331)).bind fun (a2332 : Unit × (Unit × Unit)) => ((p__law_draw x2326.2 (PyData.int 2)).nox).bind fun (r2333 : PyData × List PyData) => P.ok (r2333.1, r2333.2)).bind fun (x2335 : PyData × List PyData) => (P.ok ()).bind fun (x2336 : Unit) => (O.p (pyEq x2335.1 (PyData.int 0))).bind fun (r2337 : PyData) => P.ok (r2337, x2335.2)).bind fun (x2339 : PyData × List PyData) => (P.ok ()).bind fun (q2340 : Unit) => P.ok (x2339, q2340)).bind fun (q2341 : (PyData × List PyData) × Unit) => P.ok (x2327, q2341)).bind fun (q2342 : Unit × ((PyData × List PyData) × Unit)) => P.ok (x2326, q2342)).bind fun (q2343 : (PyData × List PyData) × (Unit × ((PyData × List PyData) × Unit))) => P.ok (x2314, q2343)).bind fun (a2344 : (PyData × List PyData) × ((PyData × List PyData) × (Unit × ((PyData × List PyData) × Unit)))) => (O.p (gTupD [a2344.1.1, a2344.2.1.1, (PyData.int 4), a2344.2.2.2.1.1])).bind fun (r2345 : PyData) => P.ok (r2345, a2344.2.2.2.1.2)).bind fun (x2347 : PyData × List PyData) => (((((P.ok ()).bind fun (x2348 : Unit) => (P.ok ()).bind fun (x2349 : Unit) => ((P.ok ()).bind fun (x2350 : Unit) => asI (PyData.int 2)).bind fun (x2351 : Int) => O.p (pySl x2347.1 none (some x2351))).bind fun (x2352 : PyData) => (pLc (fun (d2353 : PyData) => (P.ok ()).bind fun (y2354 : Unit) => (P.ok true).bind fun (x2355 : Bool) => if x2355 = true then ((P.ok ()).bind fun (x2356 : Unit) => (P.ok ()).bind fun (x2357 : Unit) => ((P.ok ()).bind fun (x2358 : Unit) => asI (PyData.int 2)).bind fun (x2359 : Int) => O.p (pySl d2353 none (some x2359))).bind fun (x2360 : PyData) => P.ok (some x2360) else P.ok none) y2293.2 []).bind fun (x2361 : List PyData) => O.p (pyNotIn x2352 (PyData.list x2361))).bind fun (x2362 : PyData) => asB x2362).bind fun (x2363 : Bool) => if x2363 = true then (((P.ok ()).bind fun (x2370 : Unit) => (P.ok ()).bind fun (q2371 : Unit) => P.ok (x2370, q2371)).bind fun (a2372 : Unit × Unit) => (appP y2293.2 x2347.1).bind fun (r2373 : List PyData) => P.ok r2373).bind fun (x2375 : List PyData) => P.ok x2375 else (P.ok ()).bind fun (x2377 : Unit) => P.ok y2293.2).bind fun (x2379 : List PyData) => P.ok (x2347.2, x2379)) x2124.1 (x2124.2, x2111)).bind fun (x2381 : List PyData × List PyData) => (((P.ok ()).bind fun (x2382 : Unit) => (P.ok ()).bind fun (q2383 : Unit) => P.ok (x2382, q2383)).bind fun (a2384 : Unit × Unit) => O.p (pyTuple [(PyData.list x2381.2)])).bind fun (x2385 : PyData) => P.ok (x2385, x2381.1)
theorem eq__law_words (v_box : List PyData) : r__law_words v_box = p__law_words v_box := by unfold r__law_words p__law_words; simp only [P.bind_assoc, P.bind_ok, P.bind_okR, soB_nx, soB_rt, ite_soB, mapN_nx, mapN_rt, ite_mapN, if_true]
theorem z__law_words  (v_box : List PyData) : FnS fd__law_words [(.ct .io false (.L v_box))] (p__law_words v_box) (fun x => rv__law_words x) (fun (x : PyData × List PyData) => [(.ct .io false (.L x.2))]) (fun (o : List Ct) => [(.ct .io false (.L (ctL (o.getD 0 (.L [])))))]) := by
  rw [← eq__law_words]
  refine U.fn_of (w := (fun x => SR.rt (rv__law_words x))) (u := (rc__law_words)) (es := ec__law_words) ?_ (fun _ => rfl) (fun _ => rfl) (fun _ => rfl)
  unfold r__law_words
  exact (s_seq (SG.ct (t' := fun (x2111 : List PyData) => [some (.ct .io false (.L v_box)), some (.ct .ow false (.L x2111)), none, none, none]) (s_set (e_disp finL aa_nil (fun _ => rfl)) (fun _ => rfl)) (fun _ => rfl))
  (fun (x2111 : List PyData) => (s_seq (s_for (tg := fun (y2293 : List PyData × List PyData) (d2294 : PyData) (z2295 : Unit) => [some (.ct .io false (.L y2293.1)), some (.ct .ow false (.L y2293.2)), some (.sh d2294), none, none]) (fun (x2124 : List PyData × List PyData) => (x2124.2, x2111)) (fun (y2293 : List PyData × List PyData) => [some (.ct .io false (.L y2293.1)), some (.ct .ow false (.L y2293.2)), none, none, none]) (i_rg1E  (fun (a2121 : (PyData × List PyData) × Unit) (r2122 : List PyData) => (r2122, a2121.1.2)) (v := (fun (x2123 : List PyData × List PyData) => x2123.1)) (t := (fun (x2123 : List PyData × List PyData) => [some (.ct .io false (.L x2123.2)), some (.ct .ow false (.L x2111)), none, none, none])) (aa_cons (e_callN (fun (a2116 : Unit × (Unit × Unit)) (r2117 : PyData × List PyData) => (r2117.1, r2117.2)) (v := (fun (x2118 : PyData × List PyData) => RV.val x2118.1)) (tt := (fun (x2118 : PyData × List PyData) => [some (.ct .io false (.L x2118.2)), some (.ct .ow false (.L x2111)), none, none, none])) (aa_consP (a_sl rfl) (fun _ => rfl) (aa_consP a_c (fun _ => rfl) aa_nil)) (fun _ => rfl) (fun _ => rfl) (fun _ => rfl) (fun (a2116 : Unit × (Unit × Unit)) => z__law_draw v_box (PyData.int 5)) (fun _ => rfl) (fun _ _ => rfl) (fun _ _ => rfl) (fun _ _ => Wk.refl _)) (fun _ => rfl) (fun (x2119 : PyData × List PyData) => aa_nil)) (fun _ => rfl) (fun _ _ => rfl) (fun _ _ => rfl)) (fun _ => (.sm (.sm (.sm (.sm (.sm .nil)))))) (fun _ _ => (g_n rfl)) (fun (y2293 : List PyData × List PyData) (d2294 : PyData) (z2295 : Unit) => (s_seq (SG.ct (t' := fun (x2347 : PyData × List PyData) => [some (.ct .io false (.L x2347.2)), some (.ct .ow false (.L y2293.2)), some (.sh d2294), some (.sh x2347.1), none]) (s_set (e_dispE finV (fun (a2344 : (PyData × List PyData) × ((PyData × List PyData) × (Unit × ((PyData × List PyData) × Unit)))) (r2345 : PyData) => (r2345, a2344.2.2.2.1.2)) (v := (fun (x2346 : PyData × List PyData) => RV.val x2346.1)) (t := (fun (x2346 : PyData × List PyData) => [some (.ct .io false (.L x2346.2)), some (.ct .ow false (.L y2293.2)), some (.sh d2294), none, none])) (aa_cons (e_opE finV (fun (x2303 : List PyData) (x2311 : PyData × List PyData) (r2312 : PyData) => (r2312, x2311.2)) (v := (fun (x2313 : PyData × List PyData) => RV.val x2313.1)) (t := (fun (x2313 : PyData × List PyData) => [some (.ct .io false (.L x2313.2)), some (.ct .ow false (.L y2293.2)), some (.sh d2294), none, none])) (e_disp finL (aa_consP a_c (fun _ => rfl) (aa_consP a_c (fun _ => rfl) (aa_consP a_c (fun _ => rfl) aa_nil))) (fun _ => rfl)) (fun _ => rfl) (fun (x2303 : List PyData) => (e_callN (fun (a2308 : Unit × (Unit × Unit)) (r2309 : PyData × List PyData) => (r2309.1, r2309.2)) (v := (fun (x2310 : PyData × List PyData) => RV.val x2310.1)) (tt := (fun (x2310 : PyData × List PyData) => [some (.ct .io false (.L x2310.2)), some (.ct .ow false (.L y2293.2)), some (.sh d2294), none, none])) (aa_consP (a_sl rfl) (fun _ => rfl) (aa_consP a_c (fun _ => rfl) aa_nil)) (fun _ => rfl) (fun _ => rfl) (fun _ => rfl) (fun (a2308 : Unit × (Unit × Unit)) => z__law_draw y2293.1 (PyData.int 3)) (fun _ => rfl) (fun _ _ => rfl) (fun _ _ => rfl) (fun _ _ => Wk.refl _))) (fun _ _ => rfl) (fun _ _ => rfl) (fun _ _ _ => rfl) (fun _ _ _ => rfl)) (fun _ => rfl) (fun (x2314 : PyData × List PyData) => (aa_cons (e_opE finV (fun (x2315 : Unit) (x2323 : PyData × List PyData) (r2324 : PyData) => (r2324, x2323.2)) (v := (fun (x2325 : PyData × List PyData) => RV.val x2325.1)) (t := (fun (x2325 : PyData × List PyData) => [some (.ct .io false (.L x2325.2)), some (.ct .ow false (.L y2293.2)), some (.sh d2294), none, none])) a_c (fun _ => rfl) (fun (x2315 : Unit) => (e_callN (fun (a2320 : Unit × (Unit × Unit)) (r2321 : PyData × List PyData) => (r2321.1, r2321.2)) (v := (fun (x2322 : PyData × List PyData) => RV.val x2322.1)) (tt := (fun (x2322 : PyData × List PyData) => [some (.ct .io false (.L x2322.2)), some (.ct .ow false (.L y2293.2)), some (.sh d2294), none, none])) (aa_consP (a_sl rfl) (fun _ => rfl) (aa_consP a_c (fun _ => rfl) aa_nil)) (fun _ => rfl) (fun _ => rfl) (fun _ => rfl) (fun (a2320 : Unit × (Unit × Unit)) => z__law_draw x2314.2 (PyData.int 4)) (fun _ => rfl) (fun _ _ => rfl) (fun _ _ => rfl) (fun _ _ => Wk.refl _))) (fun _ _ => rfl) (fun _ _ => rfl) (fun _ _ _ => rfl) (fun _ _ _ => rfl)) (fun _ => rfl) (fun (x2326 : PyData × List PyData) => (aa_cons a_c (fun _ => rfl) (fun (x2327 : Unit) => (aa_cons (e_opE finV (fun (x2335 : PyData × List PyData) (x2336 : Unit) (r2337 : PyData) => (r2337, x2335.2)) (v := (fun (x2338 : PyData × List PyData) => RV.val x2338.1)) (t := (fun (x2338 : PyData × List PyData) => [some (.ct .io false (.L x2338.2)), some (.ct .ow false (.L y2293.2)), some (.sh d2294), none, none])) (e_callN (fun (a2332 : Unit × (Unit × Unit)) (r2333 : PyData × List PyData) => (r2333.1, r2333.2)) (v := (fun (x2334 : PyData × List PyData) => RV.val x2334.1)) (tt := (fun (x2334 : PyData × List PyData) => [some (.ct .io false (.L x2334.2)), some (.ct .ow false (.L y2293.2)), some (.sh d2294), none, none])) (aa_consP (a_sl rfl) (fun _ => rfl) (aa_consP a_c (fun _ => rfl) aa_nil)) (fun _ => rfl) (fun _ => rfl) (fun _ => rfl) (fun (a2332 : Unit × (Unit × Unit)) => z__law_draw x2326.2 (PyData.int 2)) (fun _ => rfl) (fun _ _ => rfl) (fun _ _ => rfl) (fun _ _ => Wk.refl _)) (fun _ => rfl) (fun (x2335 : PyData × List PyData) => a_c) (fun _ _ => rfl) (fun _ _ => rfl) (fun _ _ _ => rfl) (fun _ _ _ => rfl)) (fun _ => rfl) (fun (x2339 : PyData × List PyData) => aa_nil)))))))) (fun _ => rfl) (fun _ _ => rfl) (fun _ _ => rfl)) (fun _ => rfl)) (fun _ => rfl))
  (fun (x2347 : PyData × List PyData) => (SG.wk (v' := (fun _ => SR.nx)) (t' := (fun (y2380 : List PyData × List PyData) => [some (.ct .io false (.L y2380.1)), some (.ct .ow false (.L y2380.2)), none, none, none])) (fun (x2379 : List PyData) => (x2347.2, x2379)) (s_if (t_test  (e_op finV (e_sl finV (a_sh rfl) (fun _ => rfl) o_none (o_some  a_c (fun _ => rfl)) (fun _ => rfl)) (fun _ => rfl) (e_lcO (es1 := fun _ => []) (es2 := fun _ => []) (tg := fun (d2353 : PyData) (y2354 : Unit) => [some (.ct .io false (.L x2347.2)), some (.ct .ow false (.L y2293.2)), some (.sh d2294), some (.sh x2347.1), some (.sh d2353)]) rfl (by decide) (by decide) rfl rfl (fun d2353 => (g_n rfl)) (fun d2353 y2354 => t_yes) (fun d2353 y2354 => (e_sl finV (a_sh rfl) (fun _ => rfl) o_none (o_some  a_c (fun _ => rfl)) (fun _ => rfl))) (fun _ _ _ => rfl) (fun _ _ _ => rfl) (fun _ _ => rfl)) (fun _ => rfl) (fun _ => rfl))) (fun (x2363 : Bool) => (SG.wk (v' := (fun _ => SR.nx)) (t' := (fun (y2376 : List PyData) => [some (.ct .io false (.L x2347.2)), some (.ct .ow false (.L y2376)), some (.sh d2294), some (.sh x2347.1), none])) (fun (x2375 : List PyData) => x2375) (s_drop (e_mutE (fun (a2372 : Unit × Unit) (r2373 : List PyData) => r2373) (v := (fun (x2374 : List PyData) => RV.val PyData.none)) (t := (fun (x2374 : List PyData) => [some (.ct .io false (.L x2347.2)), some (.ct .ow false (.L x2374)), some (.sh d2294), some (.sh x2347.1), none])) rfl (aa_consP (a_sh rfl) (fun _ => rfl) aa_nil) (fun _ => rfl) (fun _ => rfl) (fun _ => mu_app) (fun _ _ => rfl) (fun _ _ => rfl))) (fun _ => rfl) (fun _ => (.sm (.sm (.sm (.sm (.sm .nil))))))))
   (fun (x2363 : Bool) => (SG.wk (v' := (fun _ => SR.nx)) (t' := (fun (y2378 : List PyData) => [some (.ct .io false (.L x2347.2)), some (.ct .ow false (.L y2378)), some (.sh d2294), some (.sh x2347.1), none])) (fun (x2377 : Unit) => y2293.2) s_skip (fun _ => rfl) (fun _ => (.sm (.sm (.sm (.sm (.sm .nil))))))))) (fun _ => rfl) (fun _ => (.sm (.sm (.jk rfl (.jk rfl (.sm .nil)))))))))))
  (fun (x2381 : List PyData × List PyData) => (SG.wk (v' := fun x => SR.rt (rv__law_words x)) (t' := (rc__law_words)) (fun (x2385 : PyData) => (x2385, x2381.1)) (s_ret (e_cb finV (aa_consP (a_sl rfl) (fun _ => rfl) aa_nil) (fun _ => rfl)) (fun _ => rfl)) (fun _ => rfl) (fun _ => (.sm (.jk rfl (.sm (.sm (.sm .nil)))))))))))

abbrev rv__clash (x : PyData) : RV := RV.val x
abbrev rc__clash  (x : PyData) : Cs := [none, none]
abbrev ec__clash  (o : List Ct) : Cs := [none, none]
def p__clash (v_word : PyData) (v_other : PyData) : P (PyData) :=
  (O.p (pyNeg (PyData.int 1))).bind fun x2386 =>
  (asI x2386).bind fun x2387 =>
  (O.p (pySl v_word none (some x2387))).bind fun x2388 =>
  (O.p (pyNeg (PyData.int 1))).bind fun x2389 =>
  (asI x2389).bind fun x2390 =>
  (O.p (pySl v_other none (some x2390))).bind fun x2391 =>
  (O.p (pyEq x2388 x2391)).bind fun x2392 =>
  (asB x2392).bind fun c2393 =>
  (if c2393 = true then (O.p (pyNeg (PyData.int 1))).bind fun x2394 =>
  (O.p (pyIx v_word x2394)).bind fun x2395 =>
  (asB x2395).bind fun c2396 =>
  (if c2396 = true then P.ok (.bool true) else (O.p (pyNeg (PyData.int 1))).bind fun x2397 =>
  (O.p (pyIx v_other x2397)).bind fun x2398 =>
  P.ok x2398).bind fun x2399 =>
  P.ok x2399 else P.ok (.bool false)).bind fun x2400 =>
  P.ok x2400
def r__clash (v_word : PyData) (v_other : PyData) : P (PyData) :=
  ((((P.ok ()).bind fun (x2401 : Unit) => (P.ok ()).bind fun (x2402 : Unit) => (((P.ok ()).bind fun (x2403 : Unit) => O.p (pyNeg (PyData.int 1))).bind fun (x2404 : PyData) => asI x2404).bind fun (x2405 : Int) => O.p (pySl v_word none (some x2405))).bind fun (x2406 : PyData) => ((P.ok ()).bind fun (x2407 : Unit) => (P.ok ()).bind fun (x2408 : Unit) => (((P.ok ()).bind fun (x2409 : Unit) => O.p (pyNeg (PyData.int 1))).bind fun (x2410 : PyData) => asI x2410).bind fun (x2411 : Int) => O.p (pySl v_other none (some x2411))).bind fun (x2412 : PyData) => O.p (pyEq x2406 x2412)).bind fun (x2422 : PyData) => (asB x2422).bind fun c2424 => if c2424 = true then (((P.ok ()).bind fun (x2413 : Unit) => ((P.ok ()).bind fun (x2414 : Unit) => O.p (pyNeg (PyData.int 1))).bind fun (x2415 : PyData) => O.p (pyIx v_word x2415)).bind fun (x2419 : PyData) => (asB x2419).bind fun c2421 => if c2421 = true then P.ok (PyData.bool true) else ((P.ok ()).bind fun (x2416 : Unit) => ((P.ok ()).bind fun (x2417 : Unit) => O.p (pyNeg (PyData.int 1))).bind fun (x2418 : PyData) => O.p (pyIx v_other x2418)).bind fun (x2420 : PyData) => P.ok x2420).bind fun (x2423 : PyData) => P.ok x2423 else P.ok (PyData.bool false)).bind fun (x2425 : PyData) => P.ok x2425
theorem eq__clash (v_word : PyData) (v_other : PyData) : r__clash v_word v_other = p__clash v_word v_other := by unfold r__clash p__clash; simp only [P.bind_assoc, P.bind_ok, P.bind_okR, soB_nx, soB_rt, ite_soB, mapN_nx, mapN_rt, ite_mapN, if_true]
theorem z__clash  (v_word : PyData) (v_other : PyData) : FnS fd__clash [(.sh v_word), (.sh v_other)] (p__clash v_word v_other) (fun x => rv__clash x) (fun (x : PyData) => [(.sh v_word), (.sh v_other)]) (fun (o : List Ct) => [(.sh v_word), (.sh v_other)]) := by
  rw [← eq__clash]
  refine U.fn_of (w := (fun x => SR.rt (rv__clash x))) (u := (rc__clash)) (es := ec__clash) ?_ (fun _ => rfl) (fun _ => rfl) (fun _ => rfl)
  unfold r__clash
  exact (SG.wk (v' := fun x => SR.rt (rv__clash x)) (t' := (rc__clash)) (fun (x2425 : PyData) => x2425) (s_ret (e_and (e_op finV (e_sl finV (a_sh rfl) (fun _ => rfl) o_none (o_some  (e_un finV a_c (fun _ => rfl)) (fun _ => rfl)) (fun _ => rfl)) (fun _ => rfl) (e_sl finV (a_sh rfl) (fun _ => rfl) o_none (o_some  (e_un finV a_c (fun _ => rfl)) (fun _ => rfl)) (fun _ => rfl)) (fun _ => rfl) (fun _ => rfl)) (e_or (e_op finV (a_sh rfl) (fun _ => rfl) (e_un finV a_c (fun _ => rfl)) (fun _ => rfl) (fun _ => rfl)) (e_op finV (a_sh rfl) (fun _ => rfl) (e_un finV a_c (fun _ => rfl)) (fun _ => rfl) (fun _ => rfl)))) (fun _ => rfl)) (fun _ => rfl) (fun _ => (.jk rfl (.jk rfl .nil))))

abbrev rv_conflicts (x : PyData) : RV := RV.val x
abbrev rc_conflicts  (x : PyData) : Cs := [none, none, none, none, none, none, none, none]
abbrev ec_conflicts  (o : List Ct) : Cs := [none, none, none, none, none, none, none, none]
def p_conflicts (v_number : PyData) (v_words : PyData) (v_held : PyData) : P (PyData) :=
  (optP (itemsOf v_held)).bind fun i2426 =>
  (pLc2 (fun d2427 => (unN 2 d2427).bind fun t2429 =>
  (O.p (pyEq (t2429.getD 0 PyData.none) v_number)).bind fun x2430 =>
  (asB x2430).bind fun c2431 =>
  if c2431 = true then (optP (itemsOf (t2429.getD 1 PyData.none))).bind fun i2432 =>
  P.ok (some (i2432, fun d2428 => P.ok (some d2428))) else P.ok none) i2426 []).bind fun l2433 =>
  (optP (itemsOf v_words)).bind fun i2434 =>
  (pLc2 (fun d2435 => (optP (itemsOf (PyData.list l2433))).bind fun i2437 =>
  P.ok (some (i2437, fun d2436 => ((p__clash d2435 d2436).nox).bind fun r2438 =>
  P.ok (some r2438)))) i2434 []).bind fun l2439 =>
  (O.p (pyAny [(PyData.list l2439)])).bind fun x2440 =>
  P.ok x2440
def r_conflicts (v_number : PyData) (v_words : PyData) (v_held : PyData) : P (PyData) :=
  (((P.ok ()).bind fun (x2441 : Unit) => optP (itemsOf v_held)).bind fun (x2442 : List PyData) => (pLc2 (fun (d2443 : PyData) => (unN 2 d2443).bind fun (y2444 : List PyData) => (((P.ok ()).bind fun (x2445 : Unit) => (P.ok ()).bind fun (x2446 : Unit) => O.p (pyEq (y2444.getD 0 PyData.none) v_number)).bind fun (x2447 : PyData) => asB x2447).bind fun (x2448 : Bool) => if x2448 = true then ((P.ok ()).bind fun (x2449 : Unit) => optP (itemsOf (y2444.getD 1 PyData.none))).bind fun (x2450 : List PyData) => P.ok (some (x2450, (fun (d2451 : PyData) => (P.ok ()).bind fun (y2452 : Unit) => (P.ok true).bind fun (x2453 : Bool) => if x2453 = true then (P.ok ()).bind fun (x2454 : Unit) => P.ok (some d2451) else P.ok none))) else P.ok none) x2442 []).bind fun (l2455 : List PyData) => P.ok (x2442, l2455)).bind fun (x2456 : (List PyData) × List PyData) => (((((P.ok ()).bind fun (x2457 : Unit) => optP (itemsOf v_words)).bind fun (x2458 : List PyData) => (pLc2 (fun (d2459 : PyData) => (P.ok ()).bind fun (y2460 : Unit) => (P.ok true).bind fun (x2461 : Bool) => if x2461 = true then ((P.ok ()).bind fun (x2462 : Unit) => optP (itemsOf (PyData.list x2456.2))).bind fun (x2463 : List PyData) => P.ok (some (x2463, (fun (d2464 : PyData) => (P.ok ()).bind fun (y2465 : Unit) => (P.ok true).bind fun (x2466 : Bool) => if x2466 = true then (((P.ok ()).bind fun (x2467 : Unit) => ((P.ok ()).bind fun (x2468 : Unit) => (P.ok ()).bind fun (q2469 : Unit) => P.ok (x2468, q2469)).bind fun (q2470 : Unit × Unit) => P.ok (x2467, q2470)).bind fun (a2471 : Unit × (Unit × Unit)) => ((p__clash d2459 d2464).nox).bind fun (r2472 : PyData) => P.ok r2472).bind fun (x2474 : PyData) => P.ok (some x2474) else P.ok none))) else P.ok none) x2458 []).bind fun (l2475 : List PyData) => P.ok (x2458, l2475)).bind fun (x2476 : (List PyData) × List PyData) => (P.ok ()).bind fun (q2477 : Unit) => P.ok (x2476, q2477)).bind fun (a2478 : ((List PyData) × List PyData) × Unit) => (O.p (pyAny [(PyData.list a2478.1.2)])).bind fun (r2479 : PyData) => P.ok r2479).bind fun (x2481 : PyData) => P.ok x2481
theorem eq_conflicts (v_number : PyData) (v_words : PyData) (v_held : PyData) : r_conflicts v_number v_words v_held = p_conflicts v_number v_words v_held := by unfold r_conflicts p_conflicts; simp only [P.bind_assoc, P.bind_ok, P.bind_okR, soB_nx, soB_rt, ite_soB, mapN_nx, mapN_rt, ite_mapN, if_true]
theorem z_conflicts  (v_number : PyData) (v_words : PyData) (v_held : PyData) : FnS fd_conflicts [(.sh v_number), (.sh v_words), (.sh v_held)] (p_conflicts v_number v_words v_held) (fun x => rv_conflicts x) (fun (x : PyData) => [(.sh v_number), (.sh v_words), (.sh v_held)]) (fun (o : List Ct) => [(.sh v_number), (.sh v_words), (.sh v_held)]) := by
  rw [← eq_conflicts]
  refine U.fn_of (w := (fun x => SR.rt (rv_conflicts x))) (u := (rc_conflicts)) (es := ec_conflicts) ?_ (fun _ => rfl) (fun _ => rfl) (fun _ => rfl)
  unfold r_conflicts
  exact (s_seq (SG.ct (t' := fun (x2456 : (List PyData) × List PyData) => [some (.sh v_number), some (.sh v_words), some (.sh v_held), some (.ct .ow false (.L x2456.2)), none, none, none, none]) (s_set (e_lc2 (es0 := fun _ => []) (es1 := fun _ => []) (es2 := fun _ => []) (es3 := fun _ => []) (tg := fun (x2442 : List PyData) (d2443 : PyData) (y2444 : List PyData) => [some (.sh v_number), some (.sh v_words), some (.sh v_held), none, some (.sh (y2444.getD 0 PyData.none)), some (.sh (y2444.getD 1 PyData.none)), none, none]) (cw1 := fun (x2442 : List PyData) (d2443 : PyData) (y2444 : List PyData) => [some (.sh v_number), some (.sh v_words), some (.sh v_held), none, some (.sh (y2444.getD 0 PyData.none)), some (.sh (y2444.getD 1 PyData.none)), none, none]) (tg1 := fun (x2442 : List PyData) (d2443 : PyData) (y2444 : List PyData) (d2451 : PyData) (y2452 : Unit) => [some (.sh v_number), some (.sh v_words), some (.sh v_held), none, some (.sh (y2444.getD 0 PyData.none)), some (.sh (y2444.getD 1 PyData.none)), some (.sh d2451), none]) (i_any (a_sh rfl) (fun _ => rfl) (fun _ => rfl)) (fun _ => rfl) (fun x2442 d2443 => (g_tu (n := 2) (ns := [4, 5]) rfl rfl rfl)) (fun x2442 d2443 y2444 => (t_test  (e_op finV (a_sh rfl) (fun _ => rfl) (a_sh rfl) (fun _ => rfl) (fun _ => rfl)))) (fun x2442 d2443 y2444 => (i_any (a_sh rfl) (fun _ => rfl) (fun _ => rfl))) (fun _ _ _ => rfl) (fun x2442 d2443 y2444 d2451 => (g_n rfl)) (fun x2442 d2443 y2444 d2451 y2452 => t_yes) (fun x2442 d2443 y2444 d2451 y2452 => (a_sh rfl)) (fun _ _ _ _ _ _ => rfl) (fun _ _ _ _ _ _ => rfl) (fun _ _ _ _ _ => rfl) (fun _ _ _ => rfl) (fun _ _ _ => rfl)) (fun _ => rfl)) (fun _ => rfl))
  (fun (x2456 : (List PyData) × List PyData) => (SG.wk (v' := fun x => SR.rt (rv_conflicts x)) (t' := (rc_conflicts)) (fun (x2481 : PyData) => x2481) (s_ret (e_cbE finV (fun (a2478 : ((List PyData) × List PyData) × Unit) (r2479 : PyData) => r2479) (v := (fun (x2480 : PyData) => RV.val x2480)) (t := (fun (x2480 : PyData) => [some (.sh v_number), some (.sh v_words), some (.sh v_held), some (.sh (PyData.list x2456.2)), none, none, none, none])) (aa_cons (e_frz rfl (e_lc2 (es0 := fun _ => []) (es1 := fun _ => []) (es2 := fun _ => []) (es3 := fun _ => []) (tg := fun (x2458 : List PyData) (d2459 : PyData) (y2460 : Unit) => [some (.sh v_number), some (.sh v_words), some (.sh v_held), some (.sh (PyData.list x2456.2)), none, none, some (.sh d2459), none]) (cw1 := fun (x2458 : List PyData) (d2459 : PyData) (y2460 : Unit) => [some (.sh v_number), some (.sh v_words), some (.sh v_held), some (.sh (PyData.list x2456.2)), none, none, some (.sh d2459), none]) (tg1 := fun (x2458 : List PyData) (d2459 : PyData) (y2460 : Unit) (d2464 : PyData) (y2465 : Unit) => [some (.sh v_number), some (.sh v_words), some (.sh v_held), some (.sh (PyData.list x2456.2)), none, none, some (.sh d2459), some (.sh d2464)]) (i_any (a_sh rfl) (fun _ => rfl) (fun _ => rfl)) (fun _ => rfl) (fun x2458 d2459 => (g_n rfl)) (fun x2458 d2459 y2460 => t_yes) (fun x2458 d2459 y2460 => (i_any (a_sh rfl) (fun _ => rfl) (fun _ => rfl))) (fun _ _ _ => rfl) (fun x2458 d2459 y2460 d2464 => (g_n rfl)) (fun x2458 d2459 y2460 d2464 y2465 => t_yes) (fun x2458 d2459 y2460 d2464 y2465 => (e_callN (fun (a2471 : Unit × (Unit × Unit)) (r2472 : PyData) => r2472) (v := (fun (x2473 : PyData) => RV.val x2473)) (tt := (fun (x2473 : PyData) => [some (.sh v_number), some (.sh v_words), some (.sh v_held), some (.sh (PyData.list x2456.2)), none, none, some (.sh d2459), some (.sh d2464)])) (aa_consP (a_sh rfl) (fun _ => rfl) (aa_consP (a_sh rfl) (fun _ => rfl) aa_nil)) (fun _ => rfl) (fun _ => rfl) (fun _ => rfl) (fun (a2471 : Unit × (Unit × Unit)) => z__clash d2459 d2464) (fun _ => rfl) (fun _ _ => rfl) (fun _ _ => rfl) (fun _ _ => Wk.refl _))) (fun _ _ _ _ _ _ => rfl) (fun _ _ _ _ _ _ => rfl) (fun _ _ _ _ _ => rfl) (fun _ _ _ => rfl) (fun _ _ _ => rfl))) (fun _ => rfl) (fun (x2476 : (List PyData) × List PyData) => aa_nil)) (fun _ => rfl) (fun _ _ => rfl) (fun _ _ => rfl)) (fun _ => rfl)) (fun _ => rfl) (fun _ => (.jk rfl (.jk rfl (.jk rfl (.jk rfl (.sm (.sm (.sm (.sm .nil))))))))))))

abbrev rv_law (x : PyData) : RV := RV.val x
abbrev rc_law  (x : PyData) : Cs := [none, none, none, none, none, none, none, none, none, none, none, none, none]
abbrev ec_law  (o : List Ct) : Cs := [none, none, none, none, none, none, none, none, none, none, none, none, none]
def p_law (v_script : PyData) : P (PyData) :=
  ((p__law_digits v_script (PyData.int 0) (PyData.int 40)).nox).bind fun r2482 =>
  (O.pl (gLstD [(PyData.list r2482), (PyData.int 0)])).bind fun x2483 =>
  (rg1P (PyData.int 8)).bind fun i2484 =>
  (pLoop (fun (y3507 : List PyData) d3508 => ((p__law_draw y3507 (PyData.int 3)).nox).bind fun r3509 =>
  (O.p (pyAdd (PyData.int 1) r3509.1)).bind fun x3510 =>
  ((p__law_words r3509.2).nox).bind fun r3511 =>
  ((p__law_draw r3511.2 (PyData.int 5)).nox).bind fun r3512 =>
  (rg1P r3512.1).bind fun i3513 =>
  (pLcS (fun (s3518 : List PyData) d3519 => ((p__law_draw s3518 (PyData.int 3)).nox).bind fun r3520 =>
  (O.p (pyAdd (PyData.int 1) r3520.1)).bind fun x3521 =>
  ((p__law_words r3520.2).nox).bind fun r3522 =>
  (O.p (gTupD [x3521, r3522.1])).bind fun x3523 =>
  P.ok (some x3523, r3522.2)) i3513 [] r3512.2).bind fun l3524 =>
  (optP (itemsOf (PyData.list l3524.1))).bind fun i3525 =>
  (pFold (fun (y3848 : PyData) d3849 => (unN 2 d3849).bind fun t3850 =>
  (optP (itemsOf (t3850.getD 1 PyData.none))).bind fun i3851 =>
  (pFold (fun (y3956 : PyData) d3957 => (optP (itemsOf r3511.1)).bind fun i3958 =>
  (pFold (fun (y3991 : PyData) d3992 => (asB y3991).bind fun c3993 =>
  (if c3993 = true then P.ok (.bool true) else (O.p (pyEq (t3850.getD 0 PyData.none) x3510)).bind fun x3994 =>
  (asB x3994).bind fun c3995 =>
  (if c3995 = true then (asI (PyData.int 2)).bind fun x3996 =>
  (O.p (pySl d3957 none (some x3996))).bind fun x3997 =>
  (asI (PyData.int 2)).bind fun x3998 =>
  (O.p (pySl d3992 none (some x3998))).bind fun x3999 =>
  (O.p (pyEq x3997 x3999)).bind fun x4000 =>
  (asB x4000).bind fun c4001 =>
  (if c4001 = true then (O.p (pyIx d3957 (PyData.int 3))).bind fun x4002 =>
  (asB x4002).bind fun c4003 =>
  (if c4003 = true then P.ok (.bool true) else (O.p (pyIx d3992 (PyData.int 3))).bind fun x4004 =>
  P.ok x4004).bind fun x4005 =>
  P.ok x4005 else P.ok (.bool false)).bind fun x4006 =>
  P.ok x4006 else P.ok (.bool false)).bind fun x4007 =>
  P.ok x4007).bind fun x4008 =>
  P.ok x4008) i3958 y3956).bind fun y4009 =>
  P.ok y4009) i3851 y3848).bind fun y4010 =>
  P.ok y4010) i3525 (PyData.bool false)).bind fun y4011 =>
  ((p_conflicts x3510 r3511.1 (PyData.list l3524.1)).nox).bind fun r4012 =>
  (optP (isTy .bool r4012)).bind fun b4013 =>
  (optP (pyTruth (PyData.bool b4013))).bind fun c4014 =>
  (if (!c4014) = true then P.ok true else (O.p (pyNe r4012 y4011)).bind fun x4017 =>
  (asB x4017).bind fun c4018 =>
  P.ok c4018).bind fun c4019 =>
  if c4019 = true then
  P.ok (SO.rt (PyData.bool false))
  else
  P.ok (SO.nx l3524.2)) i2484 x2483).bind (soB (fun (y4020 : List PyData) => P.ok (PyData.bool true)) (fun r => r))
def r_law (v_script : PyData) : P (PyData) :=
  (((((P.ok ()).bind fun (x4021 : Unit) => ((P.ok ()).bind fun (x4022 : Unit) => ((P.ok ()).bind fun (x4023 : Unit) => (P.ok ()).bind fun (q4024 : Unit) => P.ok (x4023, q4024)).bind fun (q4025 : Unit × Unit) => P.ok (x4022, q4025)).bind fun (q4026 : Unit × (Unit × Unit)) => P.ok (x4021, q4026)).bind fun (a4027 : Unit × (Unit × (Unit × Unit))) => ((p__law_digits v_script (PyData.int 0) (PyData.int 40)).nox).bind fun (r4028 : List PyData) => P.ok r4028).bind fun (x4030 : List PyData) => ((P.ok ()).bind fun (x4031 : Unit) => (P.ok ()).bind fun (q4032 : Unit) => P.ok (x4031, q4032)).bind fun (q4033 : Unit × Unit) => P.ok (x4030, q4033)).bind fun (a4034 : (List PyData) × (Unit × Unit)) => O.pl (gLstD [(PyData.list a4034.1), (PyData.int 0)])).bind fun (x4035 : List PyData) => ((((P.ok ()).bind fun (x4036 : Unit) => (P.ok ()).bind fun (q4037 : Unit) => P.ok (x4036, q4037)).bind fun (a4038 : Unit × Unit) => rg1P (PyData.int 8)).bind fun (x4039 : List PyData) => pLoop (fun (y6016 : List PyData) (d6017 : PyData) => (P.ok ()).bind fun (z6018 : Unit) => ((P.ok ()).bind fun (x6019 : Unit) => (((P.ok ()).bind fun (x6020 : Unit) => ((P.ok ()).bind fun (x6021 : Unit) => (P.ok ()).bind fun (q6022 : Unit) => P.ok (x6021, q6022)).bind fun (q6023 : Unit × Unit) => P.ok (x6020, q6023)).bind fun (a6024 : Unit × (Unit × Unit)) => ((p__law_draw y6016 (PyData.int 3)).nox).bind fun (r6025 : PyData × List PyData) => P.ok (r6025.1, r6025.2)).bind fun (x6027 : PyData × List PyData) => (O.p (pyAdd (PyData.int 1) x6027.1)).bind fun (r6028 : PyData) => P.ok (r6028, x6027.2)).bind fun (x6030 : PyData × List PyData) => (((P.ok ()).bind fun (x6031 : Unit) => (P.ok ()).bind fun (q6032 : Unit) => P.ok (x6031, q6032)).bind fun (a6033 : Unit × Unit) => ((p__law_words x6030.2).nox).bind fun (r6034 : PyData × List PyData) => P.ok (r6034.1, r6034.2)).bind fun (x6036 : PyData × List PyData) => ((((((P.ok ()).bind fun (x6037 : Unit) => ((P.ok ()).bind fun (x6038 : Unit) => (P.ok ()).bind fun (q6039 : Unit) => P.ok (x6038, q6039)).bind fun (q6040 : Unit × Unit) => P.ok (x6037, q6040)).bind fun (a6041 : Unit × (Unit × Unit)) => ((p__law_draw x6036.2 (PyData.int 5)).nox).bind fun (r6042 : PyData × List PyData) => P.ok (r6042.1, r6042.2)).bind fun (x6044 : PyData × List PyData) => (P.ok ()).bind fun (q6045 : Unit) => P.ok (x6044, q6045)).bind fun (a6046 : (PyData × List PyData) × Unit) => (rg1P a6046.1.1).bind fun (r6047 : List PyData) => P.ok (r6047, a6046.1.2)).bind fun (x6049 : List PyData × List PyData) => pLcS (fun (s6077 : List PyData) (d6050 : PyData) => (P.ok ()).bind fun (y6051 : Unit) => ((P.ok true).bind fun (x6078 : Bool) => P.ok (x6078, s6077)).bind fun (z6104 : Bool × (List PyData)) => if z6104.1 = true then (((((P.ok ()).bind fun (x6080 : Unit) => (((P.ok ()).bind fun (x6081 : Unit) => ((P.ok ()).bind fun (x6082 : Unit) => (P.ok ()).bind fun (q6083 : Unit) => P.ok (x6082, q6083)).bind fun (q6084 : Unit × Unit) => P.ok (x6081, q6084)).bind fun (a6085 : Unit × (Unit × Unit)) => ((p__law_draw z6104.2 (PyData.int 3)).nox).bind fun (r6086 : PyData × List PyData) => P.ok (r6086.1, r6086.2)).bind fun (x6088 : PyData × List PyData) => (O.p (pyAdd (PyData.int 1) x6088.1)).bind fun (r6089 : PyData) => P.ok (r6089, x6088.2)).bind fun (x6091 : PyData × List PyData) => ((((P.ok ()).bind fun (x6092 : Unit) => (P.ok ()).bind fun (q6093 : Unit) => P.ok (x6092, q6093)).bind fun (a6094 : Unit × Unit) => ((p__law_words x6091.2).nox).bind fun (r6095 : PyData × List PyData) => P.ok (r6095.1, r6095.2)).bind fun (x6097 : PyData × List PyData) => (P.ok ()).bind fun (q6098 : Unit) => P.ok (x6097, q6098)).bind fun (q6099 : (PyData × List PyData) × Unit) => P.ok (x6091, q6099)).bind fun (a6100 : (PyData × List PyData) × ((PyData × List PyData) × Unit)) => (O.p (gTupD [a6100.1.1, a6100.2.1.1])).bind fun (r6101 : PyData) => P.ok (r6101, a6100.2.1.2)).bind fun (x6103 : PyData × List PyData) => P.ok (x6103.1, x6103.2)).bind fun (z6105 : PyData × (List PyData)) => P.ok (some z6105.1, z6105.2) else P.ok (none, z6104.2)) x6049.1 [] x6049.2).bind fun (x6106 : List PyData × (List PyData)) => (P.ok ()).bind fun (x6107 : Unit) => (((P.ok ()).bind fun (x6108 : Unit) => optP (itemsOf (PyData.list x6106.1))).bind fun (x6109 : List PyData) => pFold (fun (y6688 : PyData) (d6689 : PyData) => (unN 2 d6689).bind fun (z6690 : List PyData) => (((P.ok ()).bind fun (x6691 : Unit) => optP (itemsOf (z6690.getD 1 PyData.none))).bind fun (x6692 : List PyData) => pFold (fun (y6881 : PyData) (d6882 : PyData) => (P.ok ()).bind fun (z6883 : Unit) => (((P.ok ()).bind fun (x6884 : Unit) => optP (itemsOf x6036.1)).bind fun (x6885 : List PyData) => pFold (fun (y6944 : PyData) (d6945 : PyData) => (P.ok ()).bind fun (z6946 : Unit) => ((P.ok ()).bind fun (x6972 : Unit) => (asB y6944).bind fun c6974 => if c6974 = true then P.ok (PyData.bool true) else (((P.ok ()).bind fun (x6947 : Unit) => (P.ok ()).bind fun (x6948 : Unit) => O.p (pyEq (z6690.getD 0 PyData.none) x6030.1)).bind fun (x6969 : PyData) => (asB x6969).bind fun c6971 => if c6971 = true then ((((P.ok ()).bind fun (x6949 : Unit) => (P.ok ()).bind fun (x6950 : Unit) => ((P.ok ()).bind fun (x6951 : Unit) => asI (PyData.int 2)).bind fun (x6952 : Int) => O.p (pySl d6882 none (some x6952))).bind fun (x6953 : PyData) => ((P.ok ()).bind fun (x6954 : Unit) => (P.ok ()).bind fun (x6955 : Unit) => ((P.ok ()).bind fun (x6956 : Unit) => asI (PyData.int 2)).bind fun (x6957 : Int) => O.p (pySl d6945 none (some x6957))).bind fun (x6958 : PyData) => O.p (pyEq x6953 x6958)).bind fun (x6966 : PyData) => (asB x6966).bind fun c6968 => if c6968 = true then (((P.ok ()).bind fun (x6959 : Unit) => (P.ok ()).bind fun (x6960 : Unit) => O.p (pyIx d6882 (PyData.int 3))).bind fun (x6963 : PyData) => (asB x6963).bind fun c6965 => if c6965 = true then P.ok (PyData.bool true) else ((P.ok ()).bind fun (x6961 : Unit) => (P.ok ()).bind fun (x6962 : Unit) => O.p (pyIx d6945 (PyData.int 3))).bind fun (x6964 : PyData) => P.ok x6964).bind fun (x6967 : PyData) => P.ok x6967 else P.ok (PyData.bool false)).bind fun (x6970 : PyData) => P.ok x6970 else P.ok (PyData.bool false)).bind fun (x6973 : PyData) => P.ok x6973).bind fun (x6975 : PyData) => P.ok x6975) x6885 y6881).bind fun (x6977 : PyData) => P.ok x6977) x6692 y6688).bind fun (x6979 : PyData) => P.ok x6979) x6109 (PyData.bool false)).bind fun (x6981 : PyData) => (((P.ok ()).bind fun (x6982 : Unit) => ((P.ok ()).bind fun (x6983 : Unit) => ((P.ok ()).bind fun (x6984 : Unit) => (P.ok ()).bind fun (q6985 : Unit) => P.ok (x6984, q6985)).bind fun (q6986 : Unit × Unit) => P.ok (x6983, q6986)).bind fun (q6987 : Unit × (Unit × Unit)) => P.ok (x6982, q6987)).bind fun (a6988 : Unit × (Unit × (Unit × Unit))) => ((p_conflicts x6030.1 x6036.1 (PyData.list x6106.1)).nox).bind fun (r6989 : PyData) => P.ok r6989).bind fun (x6991 : PyData) => ((((((P.ok ()).bind fun (x6992 : Unit) => (optP (isTy .bool x6991)).bind fun b => P.ok (PyData.bool b)).bind fun (x6993 : PyData) => optP (pyTruth x6993)).bind fun (x6994 : Bool) => P.ok (!x6994)).bind fun (x6995 : Bool) => if x6995 = true then P.ok true else ((P.ok ()).bind fun (x6996 : Unit) => (P.ok ()).bind fun (x6997 : Unit) => O.p (pyNe x6991 x6981)).bind fun (x6998 : PyData) => asB x6998).bind fun (x7000 : Bool) => if x7000 = true then ((P.ok ()).bind fun (x7002 : Unit) => P.ok (PyData.bool false)).bind fun (r : PyData) => P.ok (SO.rt r) else (P.ok ()).bind fun (x7004 : Unit) => P.ok (SO.nx ())).bind fun a => P.ok (SO.mapN (fun (x7006 : Unit) => x6106.2) a)) x4039 x4035).bind (soB (fun (x7008 : List PyData) => (P.ok ()).bind fun (x7009 : Unit) => P.ok (PyData.bool true)) (fun r => r))
theorem eq_law (v_script : PyData) : r_law v_script = p_law v_script := by unfold r_law p_law; simp only [P.bind_assoc, P.bind_ok, P.bind_okR, soB_nx, soB_rt, ite_soB, mapN_nx, mapN_rt, ite_mapN, if_true]
theorem z_law  (v_script : PyData) : FnS fd_law [(.sh v_script)] (p_law v_script) (fun x => rv_law x) (fun (x : PyData) => [(.sh v_script)]) (fun (o : List Ct) => [(.sh v_script)]) := by
  rw [← eq_law]
  refine U.fn_of (w := (fun x => SR.rt (rv_law x))) (u := (rc_law)) (es := ec_law) ?_ (fun _ => rfl) (fun _ => rfl) (fun _ => rfl)
  unfold r_law
  exact (s_seq (SG.ct (t' := fun (x4035 : List PyData) => [some (.sh v_script), some (.ct .ow false (.L x4035)), none, none, none, none, none, none, none, none, none, none, none]) (s_set (e_disp finL (aa_consP (e_callN (fun (a4027 : Unit × (Unit × (Unit × Unit))) (r4028 : List PyData) => r4028) (v := (fun (x4029 : List PyData) => RV.tmp (.L x4029))) (tt := (fun (x4029 : List PyData) => [some (.sh v_script), none, none, none, none, none, none, none, none, none, none, none, none])) (aa_consP (a_sh rfl) (fun _ => rfl) (aa_consP a_c (fun _ => rfl) (aa_consP a_c (fun _ => rfl) aa_nil))) (fun _ => rfl) (fun _ => rfl) (fun _ => rfl) (fun (a4027 : Unit × (Unit × (Unit × Unit))) => z__law_digits v_script (PyData.int 0) (PyData.int 40)) (fun _ => rfl) (fun _ _ => rfl) (fun _ _ => rfl) (fun _ _ => Wk.refl _)) (fun _ => rfl) (aa_consP a_c (fun _ => rfl) aa_nil)) (fun _ => rfl)) (fun _ => rfl)) (fun _ => rfl))
  (fun (x4035 : List PyData) => (s_seqM (vr := fun x => rv_law x) (tr := (rc_law)) (fun r => r) (s_forR (vr := fun x => rv_law x) (tr := (rc_law)) (tg := fun (y6016 : List PyData) (d6017 : PyData) (z6018 : Unit) => [some (.sh v_script), some (.ct .ow false (.L y6016)), some (.sh d6017), none, none, none, none, none, none, none, none, none, none]) (fun (x4039 : List PyData) => x4035) (fun (y6016 : List PyData) => [some (.sh v_script), some (.ct .ow false (.L y6016)), none, none, none, none, none, none, none, none, none, none, none]) (i_rg1  (aa_consP a_c (fun _ => rfl) aa_nil) (fun _ => rfl)) (fun _ => (.sm (.sm (.sm (.sm (.sm (.sm (.sm (.sm (.sm (.sm (.sm (.sm (.sm .nil)))))))))))))) (fun _ _ => (g_n rfl)) (fun (y6016 : List PyData) (d6017 : PyData) (z6018 : Unit) => (s_seq (SG.ct (t' := fun (x6030 : PyData × List PyData) => [some (.sh v_script), some (.ct .ow false (.L x6030.2)), some (.sh d6017), some (.sh x6030.1), none, none, none, none, none, none, none, none, none]) (s_set (e_opE finV (fun (x6019 : Unit) (x6027 : PyData × List PyData) (r6028 : PyData) => (r6028, x6027.2)) (v := (fun (x6029 : PyData × List PyData) => RV.val x6029.1)) (t := (fun (x6029 : PyData × List PyData) => [some (.sh v_script), some (.ct .ow false (.L x6029.2)), some (.sh d6017), none, none, none, none, none, none, none, none, none, none])) a_c (fun _ => rfl) (fun (x6019 : Unit) => (e_callN (fun (a6024 : Unit × (Unit × Unit)) (r6025 : PyData × List PyData) => (r6025.1, r6025.2)) (v := (fun (x6026 : PyData × List PyData) => RV.val x6026.1)) (tt := (fun (x6026 : PyData × List PyData) => [some (.sh v_script), some (.ct .ow false (.L x6026.2)), some (.sh d6017), none, none, none, none, none, none, none, none, none, none])) (aa_consP (a_sl rfl) (fun _ => rfl) (aa_consP a_c (fun _ => rfl) aa_nil)) (fun _ => rfl) (fun _ => rfl) (fun _ => rfl) (fun (a6024 : Unit × (Unit × Unit)) => z__law_draw y6016 (PyData.int 3)) (fun _ => rfl) (fun _ _ => rfl) (fun _ _ => rfl) (fun _ _ => Wk.refl _))) (fun _ _ => rfl) (fun _ _ => rfl) (fun _ _ _ => rfl) (fun _ _ _ => rfl)) (fun _ => rfl)) (fun _ => rfl))
  (fun (x6030 : PyData × List PyData) => (s_seq (SG.ct (t' := fun (x6036 : PyData × List PyData) => [some (.sh v_script), some (.ct .ow false (.L x6036.2)), some (.sh d6017), some (.sh x6030.1), some (.sh x6036.1), none, none, none, none, none, none, none, none]) (s_set (e_callN (fun (a6033 : Unit × Unit) (r6034 : PyData × List PyData) => (r6034.1, r6034.2)) (v := (fun (x6035 : PyData × List PyData) => RV.val x6035.1)) (tt := (fun (x6035 : PyData × List PyData) => [some (.sh v_script), some (.ct .ow false (.L x6035.2)), some (.sh d6017), some (.sh x6030.1), none, none, none, none, none, none, none, none, none])) (aa_consP (a_sl rfl) (fun _ => rfl) aa_nil) (fun _ => rfl) (fun _ => rfl) (fun _ => rfl) (fun (a6033 : Unit × Unit) => z__law_words x6030.2) (fun _ => rfl) (fun _ _ => rfl) (fun _ _ => rfl) (fun _ _ => Wk.refl _)) (fun _ => rfl)) (fun _ => rfl))
  (fun (x6036 : PyData × List PyData) => (s_seq (SG.ct (t' := fun (x6106 : List PyData × (List PyData)) => [some (.sh v_script), some (.ct .ow false (.L x6106.2)), some (.sh d6017), some (.sh x6030.1), some (.sh x6036.1), some (.ct .ow false (.L x6106.1)), none, none, none, none, none, none, none]) (s_set (e_lcS (es1 := fun _ => []) (es2 := fun _ => []) (c1 := fun (x6049 : List PyData × List PyData) => [some (.sh v_script), some (.ct .ow false (.L x6049.2)), some (.sh d6017), some (.sh x6030.1), some (.sh x6036.1), none, none, none, none, none, none, none, none]) (tt := fun (s6077 : List PyData) (d6050 : PyData) (y6051 : Unit) (s6079 : List PyData) => [some (.sh v_script), some (.ct .ow false (.L s6079)), some (.sh d6017), some (.sh x6030.1), some (.sh x6036.1), none, none, none, none, none, none, none, some (.sh d6050)]) (cw := (fun (s6077 : List PyData) => [some (.sh v_script), some (.ct .ow false (.L s6077)), some (.sh d6017), some (.sh x6030.1), some (.sh x6036.1), none, none, none, none, none, none, none, none])) (fun (x6049 : List PyData × List PyData) => x6049.2) (i_rg1E  (fun (a6046 : (PyData × List PyData) × Unit) (r6047 : List PyData) => (r6047, a6046.1.2)) (v := (fun (x6048 : List PyData × List PyData) => x6048.1)) (t := (fun (x6048 : List PyData × List PyData) => [some (.sh v_script), some (.ct .ow false (.L x6048.2)), some (.sh d6017), some (.sh x6030.1), some (.sh x6036.1), none, none, none, none, none, none, none, none])) (aa_cons (e_callN (fun (a6041 : Unit × (Unit × Unit)) (r6042 : PyData × List PyData) => (r6042.1, r6042.2)) (v := (fun (x6043 : PyData × List PyData) => RV.val x6043.1)) (tt := (fun (x6043 : PyData × List PyData) => [some (.sh v_script), some (.ct .ow false (.L x6043.2)), some (.sh d6017), some (.sh x6030.1), some (.sh x6036.1), none, none, none, none, none, none, none, none])) (aa_consP (a_sl rfl) (fun _ => rfl) (aa_consP a_c (fun _ => rfl) aa_nil)) (fun _ => rfl) (fun _ => rfl) (fun _ => rfl) (fun (a6041 : Unit × (Unit × Unit)) => z__law_draw x6036.2 (PyData.int 5)) (fun _ => rfl) (fun _ _ => rfl) (fun _ _ => rfl) (fun _ _ => Wk.refl _)) (fun _ => rfl) (fun (x6044 : PyData × List PyData) => aa_nil)) (fun _ => rfl) (fun _ _ => rfl) (fun _ _ => rfl)) (fun _ => rfl) (fun (s6077 : List PyData) d6050 => (g_n rfl)) (fun (s6077 : List PyData) d6050 y6051 => (SG.wk (v' := fun (z : Bool × (List PyData)) => z.1) (t' := fun (z : Bool × (List PyData)) => [some (.sh v_script), some (.ct .ow false (.L z.2)), some (.sh d6017), some (.sh x6030.1), some (.sh x6036.1), none, none, none, none, none, none, none, some (.sh d6050)]) (fun (x6078 : Bool) => (x6078, s6077)) t_yes (fun _ => rfl) (fun _ => Wk.refl _))) (fun (s6077 : List PyData) d6050 y6051 (s6079 : List PyData) => (SG.wk (v' := fun (z : PyData × (List PyData)) => RV.val z.1) (t' := fun (z : PyData × (List PyData)) => [some (.sh v_script), some (.ct .ow false (.L z.2)), some (.sh d6017), some (.sh x6030.1), some (.sh x6036.1), none, none, none, none, none, none, none, some (.sh d6050)]) (fun (x6103 : PyData × List PyData) => (x6103.1, x6103.2)) (e_dispE finV (fun (a6100 : (PyData × List PyData) × ((PyData × List PyData) × Unit)) (r6101 : PyData) => (r6101, a6100.2.1.2)) (v := (fun (x6102 : PyData × List PyData) => RV.val x6102.1)) (t := (fun (x6102 : PyData × List PyData) => [some (.sh v_script), some (.ct .ow false (.L x6102.2)), some (.sh d6017), some (.sh x6030.1), some (.sh x6036.1), none, none, none, none, none, none, none, some (.sh d6050)])) (aa_cons (e_opE finV (fun (x6080 : Unit) (x6088 : PyData × List PyData) (r6089 : PyData) => (r6089, x6088.2)) (v := (fun (x6090 : PyData × List PyData) => RV.val x6090.1)) (t := (fun (x6090 : PyData × List PyData) => [some (.sh v_script), some (.ct .ow false (.L x6090.2)), some (.sh d6017), some (.sh x6030.1), some (.sh x6036.1), none, none, none, none, none, none, none, some (.sh d6050)])) a_c (fun _ => rfl) (fun (x6080 : Unit) => (e_callN (fun (a6085 : Unit × (Unit × Unit)) (r6086 : PyData × List PyData) => (r6086.1, r6086.2)) (v := (fun (x6087 : PyData × List PyData) => RV.val x6087.1)) (tt := (fun (x6087 : PyData × List PyData) => [some (.sh v_script), some (.ct .ow false (.L x6087.2)), some (.sh d6017), some (.sh x6030.1), some (.sh x6036.1), none, none, none, none, none, none, none, some (.sh d6050)])) (aa_consP (a_sl rfl) (fun _ => rfl) (aa_consP a_c (fun _ => rfl) aa_nil)) (fun _ => rfl) (fun _ => rfl) (fun _ => rfl) (fun (a6085 : Unit × (Unit × Unit)) => z__law_draw s6079 (PyData.int 3)) (fun _ => rfl) (fun _ _ => rfl) (fun _ _ => rfl) (fun _ _ => Wk.refl _))) (fun _ _ => rfl) (fun _ _ => rfl) (fun _ _ _ => rfl) (fun _ _ _ => rfl)) (fun _ => rfl) (fun (x6091 : PyData × List PyData) => (aa_cons (e_callN (fun (a6094 : Unit × Unit) (r6095 : PyData × List PyData) => (r6095.1, r6095.2)) (v := (fun (x6096 : PyData × List PyData) => RV.val x6096.1)) (tt := (fun (x6096 : PyData × List PyData) => [some (.sh v_script), some (.ct .ow false (.L x6096.2)), some (.sh d6017), some (.sh x6030.1), some (.sh x6036.1), none, none, none, none, none, none, none, some (.sh d6050)])) (aa_consP (a_sl rfl) (fun _ => rfl) aa_nil) (fun _ => rfl) (fun _ => rfl) (fun _ => rfl) (fun (a6094 : Unit × Unit) => z__law_words x6091.2) (fun _ => rfl) (fun _ _ => rfl) (fun _ _ => rfl) (fun _ _ => Wk.refl _)) (fun _ => rfl) (fun (x6097 : PyData × List PyData) => aa_nil)))) (fun _ => rfl) (fun _ _ => rfl) (fun _ _ => rfl)) (fun _ => rfl) (fun _ => Wk.refl _))) (fun _ _ _ _ _ => rfl) (fun _ _ _ _ => rfl)) (fun _ => rfl)) (fun _ => rfl))
  (fun (x6106 : List PyData × (List PyData)) => (s_seq (SG.ct (t' := fun (x6107 : Unit) => [some (.sh v_script), some (.ct .ow false (.L x6106.2)), some (.sh d6017), some (.sh x6030.1), some (.sh x6036.1), some (.ct .ow false (.L x6106.1)), some (.sh (PyData.bool false)), none, none, none, none, none, none]) (s_set a_c (fun _ => rfl)) (fun _ => rfl))
  (fun (x6107 : Unit) => (s_seq (s_for (tg := fun (y6688 : PyData) (d6689 : PyData) (z6690 : List PyData) => [some (.sh v_script), some (.ct .ow false (.L x6106.2)), some (.sh d6017), some (.sh x6030.1), some (.sh x6036.1), some (.sh (PyData.list x6106.1)), some (.sh y6688), some (.sh (z6690.getD 0 PyData.none)), some (.sh (z6690.getD 1 PyData.none)), none, none, none, none]) (fun (x6109 : List PyData) => (PyData.bool false)) (fun (y6688 : PyData) => [some (.sh v_script), some (.ct .ow false (.L x6106.2)), some (.sh d6017), some (.sh x6030.1), some (.sh x6036.1), some (.sh (PyData.list x6106.1)), some (.sh y6688), none, none, none, none, none, none]) (i_any (a_sl rfl) (fun _ => rfl) (fun _ => rfl)) (fun _ => (.sm (.sm (.sm (.sm (.sm (.sm (.sm (.sm (.sm (.sm (.sm (.sm (.sm .nil)))))))))))))) (fun _ _ => (g_tu (n := 2) (ns := [7, 8]) rfl rfl rfl)) (fun (y6688 : PyData) (d6689 : PyData) (z6690 : List PyData) => (SG.wk (v' := (fun _ => SR.nx)) (t' := (fun (y6980 : PyData) => [some (.sh v_script), some (.ct .ow false (.L x6106.2)), some (.sh d6017), some (.sh x6030.1), some (.sh x6036.1), some (.sh (PyData.list x6106.1)), some (.sh y6980), none, none, none, none, none, none])) (fun (x6979 : PyData) => x6979) (s_for (tg := fun (y6881 : PyData) (d6882 : PyData) (z6883 : Unit) => [some (.sh v_script), some (.ct .ow false (.L x6106.2)), some (.sh d6017), some (.sh x6030.1), some (.sh x6036.1), some (.sh (PyData.list x6106.1)), some (.sh y6881), some (.sh (z6690.getD 0 PyData.none)), some (.sh (z6690.getD 1 PyData.none)), some (.sh d6882), none, none, none]) (fun (x6692 : List PyData) => y6688) (fun (y6881 : PyData) => [some (.sh v_script), some (.ct .ow false (.L x6106.2)), some (.sh d6017), some (.sh x6030.1), some (.sh x6036.1), some (.sh (PyData.list x6106.1)), some (.sh y6881), some (.sh (z6690.getD 0 PyData.none)), some (.sh (z6690.getD 1 PyData.none)), none, none, none, none]) (i_any (a_sh rfl) (fun _ => rfl) (fun _ => rfl)) (fun _ => (.sm (.sm (.sm (.sm (.sm (.sm (.sm (.sm (.sm (.sm (.sm (.sm (.sm .nil)))))))))))))) (fun _ _ => (g_n rfl)) (fun (y6881 : PyData) (d6882 : PyData) (z6883 : Unit) => (SG.wk (v' := (fun _ => SR.nx)) (t' := (fun (y6978 : PyData) => [some (.sh v_script), some (.ct .ow false (.L x6106.2)), some (.sh d6017), some (.sh x6030.1), some (.sh x6036.1), some (.sh (PyData.list x6106.1)), some (.sh y6978), some (.sh (z6690.getD 0 PyData.none)), some (.sh (z6690.getD 1 PyData.none)), none, none, none, none])) (fun (x6977 : PyData) => x6977) (s_for (tg := fun (y6944 : PyData) (d6945 : PyData) (z6946 : Unit) => [some (.sh v_script), some (.ct .ow false (.L x6106.2)), some (.sh d6017), some (.sh x6030.1), some (.sh x6036.1), some (.sh (PyData.list x6106.1)), some (.sh y6944), some (.sh (z6690.getD 0 PyData.none)), some (.sh (z6690.getD 1 PyData.none)), some (.sh d6882), some (.sh d6945), none, none]) (fun (x6885 : List PyData) => y6881) (fun (y6944 : PyData) => [some (.sh v_script), some (.ct .ow false (.L x6106.2)), some (.sh d6017), some (.sh x6030.1), some (.sh x6036.1), some (.sh (PyData.list x6106.1)), some (.sh y6944), some (.sh (z6690.getD 0 PyData.none)), some (.sh (z6690.getD 1 PyData.none)), some (.sh d6882), none, none, none]) (i_any (a_sh rfl) (fun _ => rfl) (fun _ => rfl)) (fun _ => (.sm (.sm (.sm (.sm (.sm (.sm (.sm (.sm (.sm (.sm (.sm (.sm (.sm .nil)))))))))))))) (fun _ _ => (g_n rfl)) (fun (y6944 : PyData) (d6945 : PyData) (z6946 : Unit) => (SG.wk (v' := (fun _ => SR.nx)) (t' := (fun (y6976 : PyData) => [some (.sh v_script), some (.ct .ow false (.L x6106.2)), some (.sh d6017), some (.sh x6030.1), some (.sh x6036.1), some (.sh (PyData.list x6106.1)), some (.sh y6976), some (.sh (z6690.getD 0 PyData.none)), some (.sh (z6690.getD 1 PyData.none)), some (.sh d6882), none, none, none])) (fun (x6975 : PyData) => x6975) (s_set (e_or (a_sh rfl) (e_and (e_op finV (a_sh rfl) (fun _ => rfl) (a_sh rfl) (fun _ => rfl) (fun _ => rfl)) (e_and (e_op finV (e_sl finV (a_sh rfl) (fun _ => rfl) o_none (o_some  a_c (fun _ => rfl)) (fun _ => rfl)) (fun _ => rfl) (e_sl finV (a_sh rfl) (fun _ => rfl) o_none (o_some  a_c (fun _ => rfl)) (fun _ => rfl)) (fun _ => rfl) (fun _ => rfl)) (e_or (e_op finV (a_sh rfl) (fun _ => rfl) a_c (fun _ => rfl) (fun _ => rfl)) (e_op finV (a_sh rfl) (fun _ => rfl) a_c (fun _ => rfl) (fun _ => rfl)))))) (fun _ => rfl)) (fun _ => rfl) (fun _ => (.sm (.sm (.sm (.sm (.sm (.sm (.sm (.sm (.sm (.sm (.jk rfl (.sm (.sm .nil))))))))))))))))) (fun _ => rfl) (fun _ => (.sm (.sm (.sm (.sm (.sm (.sm (.sm (.sm (.sm (.jk rfl (.sm (.sm (.sm .nil))))))))))))))))) (fun _ => rfl) (fun _ => (.sm (.sm (.sm (.sm (.sm (.sm (.sm (.jk rfl (.jk rfl (.sm (.sm (.sm (.sm .nil)))))))))))))))))
  (fun (x6981 : PyData) => (s_seq (SG.ct (t' := fun (x6991 : PyData) => [some (.sh v_script), some (.ct .ow false (.L x6106.2)), some (.sh d6017), some (.sh x6030.1), some (.sh x6036.1), some (.sh (PyData.list x6106.1)), some (.sh x6981), none, none, none, none, some (.sh x6991), none]) (s_set (e_callN (fun (a6988 : Unit × (Unit × (Unit × Unit))) (r6989 : PyData) => r6989) (v := (fun (x6990 : PyData) => RV.val x6990)) (tt := (fun (x6990 : PyData) => [some (.sh v_script), some (.ct .ow false (.L x6106.2)), some (.sh d6017), some (.sh x6030.1), some (.sh x6036.1), some (.sh (PyData.list x6106.1)), some (.sh x6981), none, none, none, none, none, none])) (aa_consP (a_sh rfl) (fun _ => rfl) (aa_consP (a_sh rfl) (fun _ => rfl) (aa_consP (a_sh rfl) (fun _ => rfl) aa_nil))) (fun _ => rfl) (fun _ => rfl) (fun _ => rfl) (fun (a6988 : Unit × (Unit × (Unit × Unit))) => z_conflicts x6030.1 x6036.1 (PyData.list x6106.1)) (fun _ => rfl) (fun _ _ => rfl) (fun _ _ => rfl) (fun _ _ => Wk.refl _)) (fun _ => rfl)) (fun _ => rfl))
  (fun (x6991 : PyData) => (SG.wk (v' := (soV (fun x => rv_law x))) (t' := (soT (fun (y7007 : List PyData) => [some (.sh v_script), some (.ct .ow false (.L y7007)), none, none, none, none, none, none, none, none, none, none, none]) (rc_law))) (SO.mapN (fun (x7006 : Unit) => x6106.2)) (s_if (t_or (t_not (t_tru  (e_isi (a_sh rfl) (fun _ => rfl)) (fun _ => rfl))) (t_test  (e_op finV (a_sh rfl) (fun _ => rfl) (a_sh rfl) (fun _ => rfl) (fun _ => rfl)))) (fun (x7000 : Bool) => (SG.wk (v' := (soV (fun x => rv_law x))) (t' := (soT (fun (y7003 : Unit) => [some (.sh v_script), some (.ct .ow false (.L x6106.2)), some (.sh d6017), some (.sh x6030.1), some (.sh x6036.1), some (.sh (PyData.list x6106.1)), some (.sh x6981), none, none, none, none, some (.sh x6991), none]) (rc_law))) (fun r => SO.rt r) (SG.wk (v' := fun x => SR.rt (rv_law x)) (t' := (rc_law)) (fun (x7002 : Unit) => (PyData.bool false)) (s_ret a_c (fun _ => rfl)) (fun _ => rfl) (fun _ => (.jk rfl (.jk rfl (.jk rfl (.jk rfl (.jk rfl (.jk rfl (.jk rfl (.sm (.sm (.sm (.sm (.jk rfl (.sm .nil))))))))))))))) (fun _ => rfl) (fun _ => Wk.refl _)))
   (fun (x7000 : Bool) => (SG.wk (v' := (soV (fun x => rv_law x))) (t' := (soT (fun (y7005 : Unit) => [some (.sh v_script), some (.ct .ow false (.L x6106.2)), some (.sh d6017), some (.sh x6030.1), some (.sh x6036.1), some (.sh (PyData.list x6106.1)), some (.sh x6981), none, none, none, none, some (.sh x6991), none]) (rc_law))) (fun (x7004 : Unit) => SO.nx ()) s_skip (fun _ => rfl) (fun _ => (.sm (.sm (.sm (.sm (.sm (.sm (.sm (.sm (.sm (.sm (.sm (.sm (.sm .nil))))))))))))))))) (fun x => by cases x <;> rfl) (fun x => match x with | .nx _ => (.sm (.sm (.jk rfl (.jk rfl (.jk rfl (.jk rfl (.jk rfl (.sm (.sm (.sm (.sm (.jk rfl (.sm .nil))))))))))))) | .rt _ => Wk.refl _))))))))))))))))
  (fun (x7008 : List PyData) => (SG.wk (v' := fun x => SR.rt (rv_law x)) (t' := (rc_law)) (fun (x7009 : Unit) => (PyData.bool true)) (s_ret a_c (fun _ => rfl)) (fun _ => rfl) (fun _ => (.jk rfl (.jk rfl (.sm (.sm (.sm (.sm (.sm (.sm (.sm (.sm (.sm (.sm (.sm .nil)))))))))))))))) (fun _ => rfl) (fun _ => Wk.refl _))))
end K24
end

section
set_option Elab.async false
set_option linter.all false
set_option maxRecDepth 100000
set_option maxHeartbeats 4000000
namespace K24
open PySem PySem.Spec PyProof.Rows L2 Z T U
theorem cell_eq : p__law_cell = c_cell := rfl
theorem digits_eq : p__law_digits = c_digits := rfl
theorem draw_eq : p__law_draw = c_draw := rfl
structure Wd where
  s : Str
  k : Int
  e : Bool
  ok : PyData.strOk s = true
def enc (w : Wd) : PyData := .tuple [.str w.s, .int w.k, .int 4, .bool w.e]
def cl (w o : Wd) : Bool := (w.s == o.s && w.k == o.k) && (w.e || o.e)
theorem sl3 (w : Wd) : O.p (pySl (enc w) none (some (-1))) = .ok (.tuple [.str w.s, .int w.k, .int 4]) := rfl
theorem sl2 (w : Wd) : O.p (pySl (enc w) none (some 2)) = .ok (.tuple [.str w.s, .int w.k]) := rfl
theorem ix3 (w : Wd) : O.p (pyIx (enc w) (.int 3)) = .ok (.bool w.e) := rfl
theorem ixm (w : Wd) : O.p (pyIx (enc w) (.int (-1))) = .ok (.bool w.e) := rfl
theorem eq3 (w o : Wd) : O.p (pyEq (.tuple [.str w.s, .int w.k, .int 4]) (.tuple [.str o.s, .int o.k, .int 4])) = .ok (.bool (w.s == o.s && w.k == o.k)) := by
  unfold pyEq
  rw [if_pos ⟨by simp [SeqAt.shaped, PyData.canLay0, PyData.canLayAll0, w.ok, PyData.depth, PyData.depthAll], by simp [SeqAt.shaped, PyData.canLay0, PyData.canLayAll0, o.ok, PyData.depth, PyData.depthAll]⟩, po_v]
  simp [PyData.eqv, PyData.eqvAll]
theorem eq2 (w o : Wd) : O.p (pyEq (.tuple [.str w.s, .int w.k]) (.tuple [.str o.s, .int o.k])) = .ok (.bool (w.s == o.s && w.k == o.k)) := by
  unfold pyEq
  rw [if_pos ⟨by simp [SeqAt.shaped, PyData.canLay0, PyData.canLayAll0, w.ok, PyData.depth, PyData.depthAll], by simp [SeqAt.shaped, PyData.canLay0, PyData.canLayAll0, o.ok, PyData.depth, PyData.depthAll]⟩, po_v]
  simp [PyData.eqv, PyData.eqvAll]
theorem eqI (i j : Int) : O.p (pyEq (.int i) (.int j)) = .ok (.bool (i == j)) := by
  unfold pyEq
  rw [if_pos ⟨by simp [SeqAt.shaped, PyData.canLay0, PyData.depth], by simp [SeqAt.shaped, PyData.canLay0, PyData.depth]⟩, po_v]
  simp [PyData.eqv]
theorem neB (a : Bool) : O.p (pyNe (.bool a) (.bool a)) = .ok (.bool false) := by
  unfold pyNe
  rw [if_pos ⟨by simp [SeqAt.shaped, PyData.canLay0, PyData.depth], by simp [SeqAt.shaped, PyData.canLay0, PyData.depth]⟩, po_v]
  simp [PyData.eqv]
theorem clash_ok (w o : Wd) : p__clash (enc w) (enc o) = .ok (.bool (cl w o)) := by
  unfold p__clash
  simp only [y_neg, asI_i, sl3, eq3, asB_b, ixm, P.bind_ok]
  unfold cl
  cases h : (w.s == o.s && w.k == o.k)
  · rfl
  · cases h2 : w.e
    · cases h3 : o.e <;> rfl
    · rfl
def encH (x : Int × List Wd) : PyData := .tuple [.int x.1, .tuple (x.2.map enc)]
def oth (n : Int) (held : List (Int × List Wd)) : List Wd := held.flatMap fun x => if (x.1 == n) = true then x.2 else []
theorem bls : ∀ bs : List Bool, blsD (bs.map .bool) = some bs
  | [] => rfl
  | b :: bs => by
    show (blsD (bs.map .bool)).map (b :: ·) = _
    rw [bls bs]
    rfl
theorem flat_map_map {α β γ : Type} (f : β → γ) (g : α → List β) : ∀ xs : List α, xs.flatMap (fun x => (g x).map f) = (xs.flatMap g).map f
  | [] => rfl
  | x :: xs => by simp [List.flatMap_cons, flat_map_map f g xs]
theorem oth_len {n : Int} : ∀ {held : List (Int × List Wd)}, (∀ x ∈ held, x.2.length ≤ 4) → (oth n held).length ≤ 4 * held.length
  | [], _ => by simp [oth]
  | x :: held, h => by
    have h1 := h x List.mem_cons_self
    have h2 := oth_len (n := n) (held := held) fun y hy => h y (List.mem_cons_of_mem _ hy)
    unfold oth at h2 ⊢
    rw [List.flatMap_cons, List.length_append, List.length_cons]
    split
    · omega
    · rw [List.length_nil]; omega
theorem conflicts_ok (n : Int) (ws : List Wd) (held : List (Int × List Wd)) (hw : ws.length ≤ 4) (hh : held.length ≤ 4) (hl : ∀ x ∈ held, x.2.length ≤ 4) :
    p_conflicts (.int n) (.tuple (ws.map enc)) (.list (held.map encH)) = .ok (.bool (ws.any fun w => (oth n held).any fun o => cl w o)) := by
  unfold p_conflicts
  rw [it_l, P.bind_ok]
  rw [lc2_fm (B := 4) (h := fun x => (if (x.1 == n) = true then x.2 else []).map enc) (by simp only [List.length_nil]; omega) (fun x hx acc ha => ?_) fun x hx => ?_]
  · rw [flat_map_map, P.bind_ok, it_t, P.bind_ok, List.nil_append]
    have ol := oth_len (n := n) hl
    rw [lc2_fm (B := 16) (h := fun w => ((oth n held).map (cl w)).map .bool) (by simp only [List.length_nil]; omega) (fun w _ acc ha => ?_) fun w _ => ?_]
    · rw [flat_map_map, List.nil_append, P.bind_ok]
      have e : pyAny [.list ((ws.flatMap fun w => (oth n held).map (cl w)).map .bool)] = .v (.bool ((ws.flatMap fun w => (oth n held).map (cl w)).any id)) := by
        show (match blsD ((ws.flatMap fun w => (oth n held).map (cl w)).map .bool) with | some bs => O.v (.bool (bs.any id)) | none => .no) = _
        rw [bls]
      rw [e, po_v, P.bind_ok]
      congr 2
      simp [List.any_flatMap, List.any_map, Function.comp_def]
    · rw [it_l, P.bind_ok]
      refine ⟨_, rfl, ?_⟩
      dsimp only
      show pLc _ ((oth n held).map enc) acc = _
      rw [lc_map (g := fun o => .bool (cl w o)) (by omega) fun o _ => ?_]
      · simp
      · rw [clash_ok, P.nox_ok, P.bind_ok]
    · simp only [List.length_map]; omega
  · unfold encH
    rw [y_un2, P.bind_ok]
    show ∃ o, ((O.p (pyEq (.int x.1) (.int n))).bind fun x2430 => _) = _ ∧ _
    rw [eqI, P.bind_ok, asB_b, P.bind_ok]
    have hb := hl x hx
    cases hc : (x.1 == n)
    · exact ⟨none, rfl, rfl⟩
    · rw [if_pos rfl]
      show ∃ o, ((optP (itemsOf (.tuple (x.2.map enc)))).bind fun i => _) = _ ∧ _
      rw [it_t, P.bind_ok]
      refine ⟨_, rfl, ?_⟩
      dsimp only
      rw [lc_map (g := enc) (by omega) fun o _ => rfl, if_pos rfl]
  · have hb := hl x hx
    rw [List.length_map]
    split
    · exact hb
    · exact Nat.zero_le _

/-! the law -/
theorem foldl_or {α : Type} (f : α → Bool) : ∀ (xs : List α) (b : Bool), xs.foldl (fun b x => b || f x) b = (b || xs.any f)
  | [], b => by simp
  | x :: xs, b => by rw [List.foldl_cons, foldl_or f xs, List.any_cons, Bool.or_assoc]
/-- the first two items in the other order -/
def cl' (o w : Wd) : Bool := (o.s == w.s && o.k == w.k) && (o.e || w.e)
theorem cl_comm (w o : Wd) : cl' o w = cl w o := by
  unfold cl cl'
  rw [Bool.beq_comm, Bool.beq_comm (a := o.k), Bool.or_comm]
def WsOk (d : PyData) : Prop := ∃ ws : List Wd, d = .tuple (ws.map enc) ∧ ws.length ≤ 4
theorem names_ok (v : Int) (h0 : 0 ≤ v) (h3 : v < 3) : ∃ s : Str, O.p (pyIx (.list [(PyData.str (PySem.Str.ofString "")), (PyData.str (PySem.Str.ofString "l")), (PyData.str (PySem.Str.ofString "j"))]) (.int v)) = .ok (.str s) ∧ PyData.strOk s = true := by
  have : v = 0 ∨ v = 1 ∨ v = 2 := by omega
  rcases this with rfl | rfl | rfl
  · exact ⟨_, rfl, by decide +kernel⟩
  · exact ⟨_, rfl, by decide +kernel⟩
  · exact ⟨_, rfl, by decide +kernel⟩
theorem words_ok {b : List PyData} (h : Box b) : Gt (p__law_words b) fun r => Box r.2 ∧ WsOk r.1 := by
  unfold p__law_words
  rw [draw_eq, y_lst (by decide), P.bind_ok]
  refine Gt.bind (draw_ok h (by decide)).nox ?_
  rintro ⟨_, b⟩ ⟨hb, v, e, hv0, hv⟩
  dsimp only at hb e ⊢
  subst e
  rw [y_rg1 (by omega) (by omega), P.bind_ok]
  refine Gt.bind (Gt.foldN (fun k y => Box y.1 ∧ ∃ ws : List Wd, y.2 = ws.map enc ∧ ws.length ≤ k) (k := 0) (N := 4) (Q := fun _ => True) (by rw [rg_len]; omega) ⟨hb, [], rfl, by simp⟩ (fun _ _ => trivial) ?_) ?_
  · rintro k ⟨b, y⟩ d hk ⟨hb, ws, e, hl⟩ _
    dsimp only at hb e ⊢
    subst e
    rw [y_lst (by decide), P.bind_ok]
    refine Gt.bind (draw_ok hb (by decide)).nox ?_
    rintro ⟨_, b⟩ ⟨hb, v, e, hv0, hv⟩
    dsimp only at hb e ⊢
    subst e
    obtain ⟨s, es, hs⟩ := names_ok v hv0 hv
    rw [es, P.bind_ok]
    refine Gt.bind (draw_ok hb (by decide)).nox ?_
    rintro ⟨_, b⟩ ⟨hb, v2, e, _, _⟩
    dsimp only at hb e ⊢
    subst e
    rw [y_mulL (by omega) (by omega), P.bind_ok]
    refine Gt.bind (draw_ok hb (by decide)).nox ?_
    rintro ⟨_, b⟩ ⟨hb, v3, e, _, _⟩
    dsimp only at hb e ⊢
    subst e
    rw [eqI, P.bind_ok, y_tup (by simp), P.bind_ok, asI_i, P.bind_ok]
    show Gt ((O.p (pySl (enc ⟨s, 4 * v2, v3 == 0, hs⟩) none (some 2))).bind fun x => _) _
    rw [sl2, P.bind_ok, lc_map (g := fun w : Wd => .tuple [.str w.s, .int w.k]) (by simp only [List.length_nil]; omega) fun w _ => ?_, P.bind_ok]
    · have en : ∃ c, pyNotIn (.tuple [.str s, .int (4 * v2)]) (.list ([] ++ ws.map fun w : Wd => PyData.tuple [.str w.s, .int w.k])) = .v (.bool c) := by
        have sh : SeqAt.shaped (.list (ws.map fun w : Wd => PyData.tuple [.str w.s, .int w.k])) = true := by
          have : ∀ ws : List Wd, PyData.canLayAll0 (ws.map fun w : Wd => PyData.tuple [.str w.s, .int w.k]) = true ∧ PyData.depthAll (ws.map fun w : Wd => PyData.tuple [.str w.s, .int w.k]) ≤ 1 := by
            intro ws
            induction ws with
            | nil => simp [PyData.canLayAll0, PyData.depthAll]
            | cons w ws ih =>
              simp [PyData.canLay0, PyData.canLayAll0, PyData.depth, PyData.depthAll, w.ok, ih.1]
              exact Nat.max_le.mpr ⟨Nat.le_refl _, ih.2⟩
          have := this ws
          unfold SeqAt.shaped
          rw [Bool.and_eq_true]
          refine ⟨?_, decide_eq_true ?_⟩
          · unfold PyData.canLay0
            exact this.1
          · unfold PyData.depth
            omega
        have sh1 : SeqAt.shaped (.tuple [.str s, .int (4 * v2)]) = true := by simp [SeqAt.shaped, PyData.canLay0, PyData.canLayAll0, hs, PyData.depth, PyData.depthAll]
        unfold pyNotIn pyIn
        rw [List.nil_append]
        dsimp only
        rw [if_pos ⟨sh1, sh⟩]
        exact ⟨_, rfl⟩
      obtain ⟨c, en⟩ := en
      rw [en, po_v, P.bind_ok, asB_b, P.bind_ok]
      refine Gt.bind (I := fun y => ∃ ws : List Wd, y = ws.map enc ∧ ws.length ≤ k + 1) (Gt.ite (fun _ => ?_) fun _ => .ok ⟨ws, rfl, by omega⟩) fun y hy => .ok ⟨hb, hy⟩
      rw [y_app (by rw [List.length_map]; omega), P.bind_ok]
      exact .ok ⟨ws ++ [⟨s, 4 * v2, v3 == 0, hs⟩], by rw [List.map_append]; rfl, by rw [List.length_append]; show _ + 1 ≤ _; omega⟩
    · rw [P.bind_ok, sl2, P.bind_ok]
  · rintro ⟨b, y⟩ ⟨hb, ws, e, hl⟩
    dsimp only at hb e ⊢
    subst e
    rw [y_tupleL, P.bind_ok]
    refine .ok ⟨hb, ws, rfl, ?_⟩
    rw [rg_len] at hl
    omega
theorem all_map {J : PyData → Prop} {α : Type} {en : α → PyData} {R : α → Prop} (hJ : ∀ x, J x → ∃ a, x = en a ∧ R a) : ∀ {xs : List PyData}, (∀ x ∈ xs, J x) → ∃ as : List α, xs = as.map en ∧ ∀ a ∈ as, R a
  | [], _ => ⟨[], rfl, by simp⟩
  | x :: xs, h => by
    obtain ⟨a, rfl, r⟩ := hJ x (h x List.mem_cons_self)
    obtain ⟨as, rfl, q⟩ := all_map hJ fun y hy => h y (List.mem_cons_of_mem _ hy)
    refine ⟨a :: as, rfl, fun b hb => ?_⟩
    rcases List.mem_cons.mp hb with rfl | hb
    · exact r
    · exact q b hb
theorem due_any (n : Int) (ws : List Wd) (held : List (Int × List Wd)) : (held.any fun x => x.2.any fun row => ws.any fun w => (x.1 == n) && cl' row w) = (ws.any fun w => (oth n held).any fun o => cl w o) := by
  rw [Bool.eq_iff_iff]
  simp only [List.any_eq_true, Bool.and_eq_true, oth, List.mem_flatMap, cl_comm]
  constructor
  · rintro ⟨x, hx, row, hr, w, hw, h1, h2⟩
    exact ⟨w, hw, row, ⟨x, hx, by rw [if_pos h1]; exact hr⟩, h2⟩
  · rintro ⟨w, hw, o, ⟨x, hx, ho⟩, h2⟩
    by_cases h1 : (x.1 == n) = true
    · rw [if_pos h1] at ho
      exact ⟨x, hx, o, ho, w, hw, h1, h2⟩
    · rw [if_neg h1] at ho
      exact absurd ho List.not_mem_nil
theorem law_ok (ns : List Int) : p_law (.list (ns.map .int)) = .ok (.bool true) := by
  have key : Gt (p_law (.list (ns.map .int))) fun x => x = .bool true := by
    unfold p_law
    rw [digits_eq, draw_eq]
    refine Gt.bind (digits_ok (b := 40) (by decide)).nox fun ds hds => ?_
    rw [y_lst (by simp), P.bind_ok, y_rg1 (by omega) (by omega), P.bind_ok]
    refine Gt.bind (Gt.loop (I := Box) (Q := fun _ => True) (box_of hds) (fun _ _ => trivial) ?_) ?_
    · intro b d hb _
      refine Gt.bind (draw_ok hb (by decide)).nox ?_
      rintro ⟨_, b⟩ ⟨hb, v, e, _, _⟩
      dsimp only at hb e ⊢
      subst e
      rw [y_add, P.bind_ok]
      refine Gt.bind (words_ok hb).nox ?_
      rintro ⟨_, b⟩ ⟨hb, ws, e, hws⟩
      dsimp only at hb e ⊢
      subst e
      refine Gt.bind (draw_ok hb (by decide)).nox ?_
      rintro ⟨_, b⟩ ⟨hb, v5, e, h50, h5⟩
      dsimp only at hb e ⊢
      subst e
      rw [y_rg1 (by omega) (by omega), P.bind_ok]
      refine Gt.bind (Gt.lcS (I := Box) (J := fun x => ∃ h : Int × List Wd, x = encH h ∧ h.2.length ≤ 4) (Q := fun _ => True) hb (by simp) (by rw [rg_len, List.length_nil]; omega) (fun _ _ => trivial) ?_) ?_
      · intro b d hb _
        refine Gt.bind (draw_ok hb (by decide)).nox ?_
        rintro ⟨_, b⟩ ⟨hb, v, e, _, _⟩
        dsimp only at hb e ⊢
        subst e
        rw [y_add, P.bind_ok]
        refine Gt.bind (words_ok hb).nox ?_
        rintro ⟨_, b⟩ ⟨hb, ws, e, hws⟩
        dsimp only at hb e ⊢
        subst e
        rw [y_tup (by simp), P.bind_ok]
        exact .ok ⟨hb, fun x hx => by cases hx; exact ⟨(1 + v, ws), rfl, hws⟩⟩
      · rintro ⟨r, b⟩ ⟨hb, hr, hl⟩
        dsimp only at hb hr hl ⊢
        rw [rg_len, List.length_nil] at hl
        obtain ⟨held, rfl, hh⟩ := all_map (fun x h => h) hr
        rw [List.length_map] at hl
        rw [it_l, P.bind_ok, fold_map (enc := PyData.bool) (g := fun b (x : Int × List Wd) => b || x.2.any fun row => ws.any fun w => (x.1 == 1 + v) && cl' row w) (fun c x _ => ?_)]
        · rw [foldl_or, Bool.false_or, due_any, P.bind_ok]
          rw [conflicts_ok _ _ _ hws (by omega) hh, P.nox_ok, P.bind_ok]
          generalize (ws.any fun w => (oth (1 + v) held).any fun o => cl w o) = c
          refine ⟨SO.nx b, ?_, b, rfl, hb⟩
          show ((if (!true) = true then P.ok true else (O.p (pyNe (.bool c) (.bool c))).bind fun x => (asB x).bind fun c => P.ok c).bind fun c => if c = true then P.ok (SO.rt (PyData.bool false)) else P.ok (SO.nx b)) = _
          rw [neB]
          rfl
        · unfold encH
          rw [y_un2, P.bind_ok]
          show (((optP (itemsOf (.tuple (x.2.map enc)))).bind fun i => _).bind fun y => _) = _
          rw [it_t, P.bind_ok, P.bind_ok, fold_map (enc := PyData.bool) (g := fun b row => b || ws.any fun w => (x.1 == 1 + v) && cl' row w) (fun c row _ => ?_)]
          · rw [foldl_or, P.bind_ok]
          · rw [it_t, P.bind_ok, fold_map (enc := PyData.bool) (g := fun b w => b || ((x.1 == 1 + v) && cl' row w)) (fun c w _ => ?_)]
            · rw [foldl_or, P.bind_ok]
            · show ((asB (.bool c)).bind fun c => (if c = true then P.ok (PyData.bool true) else (O.p (pyEq (.int x.1) (.int (1 + v)))).bind fun x3 => _).bind fun x4 => _) = _
              simp only [asB_b, P.bind_ok, eqI, asI_i, sl2, eq2, ix3]
              unfold cl'
              cases c
              · cases h1 : (x.1 == 1 + v)
                · rfl
                · cases h2 : (row.s == w.s && row.k == w.k)
                  · rfl
                  · cases h3 : row.e
                    · cases h4 : w.e <;> rfl
                    · rfl
              · rfl
    · rintro _ ⟨b, rfl, hb⟩
      exact .ok rfl
  obtain ⟨x, e, rfl⟩ := key
  exact e
theorem law_true : ∀ ns : List Int, ns.length ≤ 63 → ∃ τ, fd_law [.sh (.list (ns.map .int))] = .ok (.val (.bool true)) τ := fun ns _ => by
  have z := z_law (.list (ns.map .int))
  rw [law_ok ns] at z
  exact ⟨_, z⟩
end K24
end

section
set_option Elab.async false
set_option linter.all false
set_option maxRecDepth 100000
set_option maxHeartbeats 4000000
namespace K24
open PySem PySem.Spec PyProof.Rows L2 Z T
theorem all_mk {l : PySem.W.OpenLaw} {w : World} {K : PySem.W.Frag} {h : Heap} {mg : Str → Option Value} {fa : Addr} (X : K.In h) (G : h.Ns mainGlobals mg) (hfa : mg "law" = some (.ref fa))
    {f0 f1 f2 f3 f4 f5 f6 : Addr}
    {od0 an0 od1 an1 od2 an2 od3 an3 od4 an4 od5 an5 od6 an6 : Option Addr} {sl0 sl1 sl2 sl3 sl4 sl5 sl6 : Array (Option Value)} {oc0 kV0 dc0 pm0 cd0 ct0 oc1 kV1 dc1 pm1 cd1 ct1 oc2 kV2 dc2 pm2 cd2 ct2 oc3 kV3 dc3 pm3 cd3 ct3 oc4 kV4 dc4 pm4 cd4 ct4 oc5 kV5 dc5 pm5 cd5 ct5 oc6 kV6 dc6 pm6 cd6 ct6 : Value}
    (a0 : PySem.W.nsIn K mainGlobals "_law_cell" = some (some (.ref f0)))
    (l0 : K.lookup f0 = some ⟨oc0, od0, .func (PySem.W.fnOf "_law_cell" "_law_cell" (defArgs s__law_cell) (defBody s__law_cell) (defScope s__law_cell) .none kV0 dc0 pm0 an0 cd0 ct0), sl0⟩)
    (c0 : PySem.W.codeIn K cd0 "_law_cell" = true)
    (k0 : PySem.W.keepIn K (.ref f0) = true)
    (a1 : PySem.W.nsIn K mainGlobals "_law_digits" = some (some (.ref f1)))
    (l1 : K.lookup f1 = some ⟨oc1, od1, .func (PySem.W.fnOf "_law_digits" "_law_digits" (defArgs s__law_digits) (defBody s__law_digits) (defScope s__law_digits) .none kV1 dc1 pm1 an1 cd1 ct1), sl1⟩)
    (c1 : PySem.W.codeIn K cd1 "_law_digits" = true)
    (k1 : PySem.W.keepIn K (.ref f1) = true)
    (a2 : PySem.W.nsIn K mainGlobals "_law_draw" = some (some (.ref f2)))
    (l2 : K.lookup f2 = some ⟨oc2, od2, .func (PySem.W.fnOf "_law_draw" "_law_draw" (defArgs s__law_draw) (defBody s__law_draw) (defScope s__law_draw) .none kV2 dc2 pm2 an2 cd2 ct2), sl2⟩)
    (c2 : PySem.W.codeIn K cd2 "_law_draw" = true)
    (k2 : PySem.W.keepIn K (.ref f2) = true)
    (a3 : PySem.W.nsIn K mainGlobals "_law_words" = some (some (.ref f3)))
    (l3 : K.lookup f3 = some ⟨oc3, od3, .func (PySem.W.fnOf "_law_words" "_law_words" (defArgs s__law_words) (defBody s__law_words) (defScope s__law_words) .none kV3 dc3 pm3 an3 cd3 ct3), sl3⟩)
    (c3 : PySem.W.codeIn K cd3 "_law_words" = true)
    (k3 : PySem.W.keepIn K (.ref f3) = true)
    (a4 : PySem.W.nsIn K mainGlobals "_clash" = some (some (.ref f4)))
    (l4 : K.lookup f4 = some ⟨oc4, od4, .func (PySem.W.fnOf "_clash" "_clash" (defArgs s__clash) (defBody s__clash) (defScope s__clash) .none kV4 dc4 pm4 an4 cd4 ct4), sl4⟩)
    (c4 : PySem.W.codeIn K cd4 "_clash" = true)
    (k4 : PySem.W.keepIn K (.ref f4) = true)
    (a5 : PySem.W.nsIn K mainGlobals "conflicts" = some (some (.ref f5)))
    (l5 : K.lookup f5 = some ⟨oc5, od5, .func (PySem.W.fnOf "conflicts" "conflicts" (defArgs s_conflicts) (defBody s_conflicts) (defScope s_conflicts) .none kV5 dc5 pm5 an5 cd5 ct5), sl5⟩)
    (c5 : PySem.W.codeIn K cd5 "conflicts" = true)
    (k5 : PySem.W.keepIn K (.ref f5) = true)
    (a6 : PySem.W.nsIn K mainGlobals "law" = some (some (.ref f6)))
    (l6 : K.lookup f6 = some ⟨oc6, od6, .func (PySem.W.fnOf "law" "law" (defArgs s_law) (defBody s_law) (defScope s_law) .none kV6 dc6 pm6 an6 cd6 ct6), sl6⟩)
    (c6 : PySem.W.codeIn K cd6 "law" = true)
    (k6 : PySem.W.keepIn K (.ref f6) = true)
    (z_any : PySem.W.nsIn K mainGlobals "any" = some none)
    (z_bool : PySem.W.nsIn K mainGlobals "bool" = some none)
    (z_int : PySem.W.nsIn K mainGlobals "int" = some none)
    (z_isinstance : PySem.W.nsIn K mainGlobals "isinstance" = some none)
    (z_len : PySem.W.nsIn K mainGlobals "len" = some none)
    (z_range : PySem.W.nsIn K mainGlobals "range" = some none)
    (z_tuple : PySem.W.nsIn K mainGlobals "tuple" = some none) :
    ∃ fd : FuncData, (∀ (s : Shared) (v : Value), BindsTo s fd ⟨[v], []⟩ [("script", v)]) ∧ ∀ base : Heap, K.In base → base.Ns mainGlobals mg → FnG l.prog w K mg base (L2.CX l.prog w) 3 fa fd ["script"] (spL K fd_law) := by
  have e := hfa.symm.trans (PySem.W.mg_of X G a6)
  cases e
  have F0 := fun_mk (st := s__law_cell) l0 c0 k0
  have b0 := F0.binds (ps := ["script", "k"]) fun _ _ _ _ _ _ us hl => match us, hl with | [_, _], _ => rfl
  have m0 := PySem.W.mg_of X G a0
  have F1 := fun_mk (st := s__law_digits) l1 c1 k1
  have b1 := F1.binds (ps := ["script", "first", "last"]) fun _ _ _ _ _ _ us hl => match us, hl with | [_, _, _], _ => rfl
  have m1 := PySem.W.mg_of X G a1
  have F2 := fun_mk (st := s__law_draw) l2 c2 k2
  have b2 := F2.binds (ps := ["box", "many"]) fun _ _ _ _ _ _ us hl => match us, hl with | [_, _], _ => rfl
  have m2 := PySem.W.mg_of X G a2
  have F3 := fun_mk (st := s__law_words) l3 c3 k3
  have b3 := F3.binds (ps := ["box"]) fun _ _ _ _ _ _ us hl => match us, hl with | [_], _ => rfl
  have m3 := PySem.W.mg_of X G a3
  have F4 := fun_mk (st := s__clash) l4 c4 k4
  have b4 := F4.binds (ps := ["word", "other"]) fun _ _ _ _ _ _ us hl => match us, hl with | [_, _], _ => rfl
  have m4 := PySem.W.mg_of X G a4
  have F5 := fun_mk (st := s_conflicts) l5 c5 k5
  have b5 := F5.binds (ps := ["number", "words", "held"]) fun _ _ _ _ _ _ us hl => match us, hl with | [_, _, _], _ => rfl
  have m5 := PySem.W.mg_of X G a5
  have F6 := fun_mk (st := s_law) l6 c6 k6
  have b6 := F6.binds (ps := ["script"]) fun _ _ _ _ _ _ us hl => match us, hl with | [_], _ => rfl
  have m6 := PySem.W.mg_of X G a6
  have T : Tx K mg := { b_any := PySem.W.mg_none_of X G z_any, b_bool := PySem.W.mg_none_of X G z_bool, b_int := PySem.W.mg_none_of X G z_int, b_isinstance := PySem.W.mg_none_of X G z_isinstance, b_len := PySem.W.mg_none_of X G z_len, b_range := PySem.W.mg_none_of X G z_range, b_tuple := PySem.W.mg_none_of X G z_tuple }
  refine ⟨PySem.W.fnOf "law" "law" (defArgs s_law) (defBody s_law) (defScope s_law) .none kV6 dc6 pm6 an6 cd6 ct6, fun s v => .of_eq rfl, fun base _ _ => ?_⟩
  have c__law_cell := d__law_cell (P := l.prog) (w := w) (base := base) F0 m0 b0 T 
  have c__law_digits := d__law_digits (P := l.prog) (w := w) (base := base) F1 m1 b1 T c__law_cell
  have c__law_draw := d__law_draw (P := l.prog) (w := w) (base := base) F2 m2 b2 T 
  have c__law_words := d__law_words (P := l.prog) (w := w) (base := base) F3 m3 b3 T c__law_draw
  have c__clash := d__clash (P := l.prog) (w := w) (base := base) F4 m4 b4 T 
  have c_conflicts := d_conflicts (P := l.prog) (w := w) (base := base) F5 m5 b5 T c__clash
  exact fnG_law (fnl_law (P := l.prog) (w := w) (base := base) F6 b6 T c__law_digits c__law_draw c__law_words c_conflicts)
end K24
open PySem PySem.W PyProof.Rows
set_option maxRecDepth 100000 in
set_option maxHeartbeats 0 in
theorem PySem.Challenge.cw_recstore_k24_conflicts_met_holds : PySem.Challenge.rw_recstore_k24_conflicts_met.Holds := by
  w_on; o_law; k_head; (case hw => w_witness2)
  k_fill
  refine Z.walk_ofG (l := PySem.Challenge.rw_recstore_k24_conflicts_met) (n := 63) (k := 3) (x := "script") (CX := fun w => L2.CX PySem.Challenge.rw_recstore_k24_conflicts_met.prog w) (sp := fun w => T.spL _ K24.fd_law) rfl (by decide) rfl ⟨rfl, by decide, by decide⟩ (fun w h Y => PySem.W.kIn_of Y) ?F (fun w H a ns hl _ hS => (K24.law_true ns hl).elim fun τ e => ⟨a, ns, τ, rfl, hS, e, fun _ => rfl⟩) T.no_raise
  case F =>
    intro w mg fa h KX G hmg
    refine' K24.all_mk KX G hmg ?a0 ?l0 ?c0 ?k0 ?a1 ?l1 ?c1 ?k1 ?a2 ?l2 ?c2 ?k2 ?a3 ?l3 ?c3 ?k3 ?a4 ?l4 ?c4 ?k4 ?a5 ?l5 ?c5 ?k5 ?a6 ?l6 ?c6 ?k6 ?z_any ?z_bool ?z_int ?z_isinstance ?z_len ?z_range ?z_tuple
    (case a0 => k_is)
    (case l0 => k_is)
    (case c0 => k_is)
    (case k0 => k_is)
    (case a1 => k_is)
    (case l1 => k_is)
    (case c1 => k_is)
    (case k1 => k_is)
    (case a2 => k_is)
    (case l2 => k_is)
    (case c2 => k_is)
    (case k2 => k_is)
    (case a3 => k_is)
    (case l3 => k_is)
    (case c3 => k_is)
    (case k3 => k_is)
    (case a4 => k_is)
    (case l4 => k_is)
    (case c4 => k_is)
    (case k4 => k_is)
    (case a5 => k_is)
    (case l5 => k_is)
    (case c5 => k_is)
    (case k5 => k_is)
    (case a6 => k_is)
    (case l6 => k_is)
    (case c6 => k_is)
    (case k6 => k_is)
    (case z_any => k_is)
    (case z_bool => k_is)
    (case z_int => k_is)
    (case z_isinstance => k_is)
    (case z_len => k_is)
    (case z_range => k_is)
    (case z_tuple => k_is)
end
