import PyProof.Rows.All
import Wide.All
import OpenK.AllK
import Wide.FinOn
import HandS.ForMost
import HandS.ForExc
import HandS.Conv
import HandS.Style
import HandS.Flow
import HandS.Rev
import HandS.Walk
import HandS.ExcIs
import HandS.Small
import HandS.RaiseMore
import HandS.Codes
import PyProof.ReprRoads
import PyProof.ReprBulk
import PyProof.FitsInt
import PySem.Builtin.Int.W1All
import HandS.IsInst
import PySem.Challenge.RW_recstore_k01_slots_apart
section
set_option Elab.async false
set_option linter.all false
set_option maxRecDepth 100000
set_option maxHeartbeats 2000000
namespace Z
open PySem PySem.Spec PyProof.Rows L2
/-! ### defs whose promise also wants that no repr is under way -/
structure FnG (P : Program) (w : World) (K : PySem.W.Frag) (mg : Str → Option Value) (base : Heap) (CX : CXT) (k : Nat) (f : Addr) (fd : FuncData) (ps : List Str) (sp : Sp) : Prop where
  ln : ∀ vs H Q E, sp vs H Q E → vs.length = ps.length
  go : ∀ (A : Around) (fr : List Env) (s : Shared) (H : Hp) (as : Args) (us : List Value) (vs : List V) (Q : VK) (E : XK),
    Room k A → A.guards = some [] → Env0 P w K mg base A fr s H → BindsTo s fd as (ps.zip us) → Vals vs us → sp vs H Q E →
      codeAny (model P w) A (.call (.ref f) as) (CR CX fr P w H s Q E) s
section
variable {P : Program} {w : World} {K : PySem.W.Frag} {mg : Str → Option Value} {base : Heap} {CX : CXT} {k : Nat}
theorem FnG.of {f : Addr} {fd : FuncData} {ps : List Str} {sp : Sp} (F : FnOk P w K mg base CX k f fd ps sp) : FnG P w K mg base CX k f fd ps sp :=
  ⟨F.len, fun A fr s H as us vs Q E r _ e b v q => F.run A fr s H as us vs Q E r e b v q⟩
/-- the promise by the body -/
theorem fnG_of {x qual : Str} {st : Stmt} {f : Addr} {fd : FuncData} {N ps : List Str} {sp : Sp} (F : L2.Fun K x qual st f fd) (S : FnScope N ps (defScope st))
    (ln : ∀ vs H Q E, sp vs H Q E → vs.length = ps.length)
    (body : ∀ (cdv : Value) (A : Around) (fr : List Env) (s : Shared) (H : Hp) (vs : List V) (Q : VK) (E : XK),
      Room k (A.deeper (envOfC qual (defScope st) s.heap.objs.size f cdv)) → A.guards = some [] → sp vs H Q E →
        ∃ t, PSs (cxOf CX P w K mg base N qual (defScope st) f cdv A fr s H E) (defBody st) t ∧ t { nx := fun _ H' => Q .non H', rt := Q } (start N vs) H) :
    FnG P w K mg base CX (k + 1) f fd ps sp := by
  obtain ⟨oc, od, kV, doc, pm, an, cdv, ct, osl, rfl, lk, hcd⟩ := F.ex
  constructor
  · exact ln
  · intro A fr s H as us vs Q E hr hg e0 hb r hsp
    have hlen := ln _ _ _ _ hsp
    have old : ∀ b o, base.get? b = some o → s.heap.get? b = some o := fun b o e => (e0.bs b o e).1
    have KX : K.In s.heap := e0.mod.kin.keeps old
    have noLim : s.heap.NoLimit := e0.mod.nolimit.keeps old
    have kinds : ∀ y ∈ ps.zip us, (defScope st).names.lookup y.1 = some .local ∨
        ((defScope st).names.lookup y.1 = some .cell ∧ ((cellsFrom (s.heap.objs.size + 1) (defScope st).names []).lookup y.1).isSome = true) := by
      intro y hy
      rcases S.par y.1 (List.of_mem_zip (b := y.2) hy).1 with loc | cel
      · exact Or.inl loc
      · exact Or.inr ⟨cel, PySem.W.cellsFrom_some _ _ _ (Or.inl cel)⟩
    refine codeAny_call_function (hr.depth) (KX _ _ lk) rfl S.co S.gen rfl
      (PySem.W.codeRec_of KX hcd) (hb _ _ _ _ ?_)
    refine wpAny_newFunctionEnv_cells (S.kind) kinds
      (fun env he s1 x => ?_)
    subst he
    refine ⟨noLim.keeps x.toInCall.keep, ?_⟩
    refine codeAny_func ?_
    obtain ⟨t, ht, hq⟩ := body cdv A fr s H vs Q E (hr.deeper _) hg hsp
    have I : Inv (cxOf CX P w K mg base N qual (defScope st) f cdv A fr s H E) [] (start N vs) H s1 := inv_start S hr.hd e0 hlen r x
    refine wpAny_mono (ht.run [] s1 (start N vs) H _ I hq) ?_ ?_
    · intro fl s' hs
      cases fl with
      | next =>
        obtain ⟨σ', H', J, q⟩ := hs
        exact ⟨V.non, H', J.os, J.bare, J.base, J.hok, rfl, q⟩
      | ret u =>
        obtain ⟨v, σ', H', J, rv, q⟩ := hs
        exact ⟨v, H', J.os, J.bare, J.base, J.hok, rv, q⟩
      | brk =>
        obtain ⟨σ', H', J, q⟩ := hs
        exact (show False from q).elim
      | cont =>
        obtain ⟨σ', H', J, q⟩ := hs
        exact (show False from q).elim
    · intro e s' hs
      exact hs
end
section
variable {X : Cx} {CX : CXT} {k : Nat} {f : Addr} {fd : FuncData} {ps : List Str} {sp : Sp} {E : XK} {x : Str} {p pos : Pos} {e : Expr} {es : List Expr} {t : TA}
theorem pe_callG (F : FnG X.prog X.w X.K X.mg X.base CX k f fd ps sp) (hr : Room k X.A) (gu : X.A.guards = some []) (hg : Gl X x) (hm : X.mg x = some (.ref f)) (hk : PySem.W.keepIn X.K (.ref f) = true)
    (hb : Binds X.K fd ps []) (hx : Passes CX X E) (ha : PA X (e :: es) t) (hdb : (x == ("__debug__" : Str)) = false := by decide)
    (he : starEach (e :: es) X.env = (false, eval e X.env) :: starEach es X.env := by rfl) (hpl : (backTo pos (starEach es X.env)).any (·.1) = false := by rfl) :
    PE X (.Call (.Name x p) (e :: es) [] pos) (tCall sp [] E t) := by
  constructor
  intro pins s σ H Q I h
  apply wpAny_Call_Name_kw (ld_glob I hg hm ?_ hdb)
  refine PySem.W.callWith_K (h₀ := X.base) I.ok.mod.kin hk (thn (ha.run pos pins s σ H _ I h) ?_) he hpl
  intro us s1 got
  obtain ⟨vs, H1, I1, r, q⟩ := got
  rw [List.append_nil] at q
  refine ⟨I1.kIn, ?_⟩
  have hl : us.length = ps.length := by
    rw [← r.length]
    exact F.ln _ _ _ _ q
  have b := hb s1 us I1.kIn (by rw [List.append_nil]; exact hl)
  rw [List.append_nil] at b
  refine wpAny_call (codeAny_mono (F.go X.A X.stack s1 H1 ⟨us, []⟩ us vs Q E hr gu I1.env0 b r q) ?_)
  intro res s' hq
  cases res with
  | error err => exact hx pins σ H1 s1 err s' I1 hq
  | ok fl =>
    cases fl with
    | ret u => exact I1.after hq
    | next => exact hq.elim
    | brk => exact hq.elim
    | cont => exact hq.elim
end
/-! ### repr of data -/
def rRepr (K : PySem.W.Frag) : List V → Hp → VK → Prop := fun xs H Q => ∃ x d, xs = [x] ∧ Dp K H x d ∧ d.showable = true ∧ d.hasDict = false ∧ d.depth ≤ 60 ∧ d.shown.length ≤ sizeLine ∧ Q (.str d.shown) H
theorem call_repr {X : Cx} (gu : X.A.guards = some []) (hu : X.A.units + 64 < cLine) : CallR X (.builtin "repr") (rRepr X.K) := by
  intro pins s σ H xs us Q I r h
  obtain ⟨x, d, rfl, hd, hs, hn, hdp, hz, q⟩ := h
  obtain ⟨u, rfl, rx⟩ : ∃ u, us = [u] ∧ RelV x u := by
    cases r with
    | cons a b => cases b; exact ⟨_, rfl, a⟩
  cases hd with
  | non =>
    obtain rfl : u = Value.none := rx
    exact PySem.P.repr_of_none ⟨.str _, H, I.tok _, ⟨_, rfl⟩, by rw [PyData.shown_none] at q; exact q⟩
  | bl b =>
    obtain rfl : u = Value.bool b := rx
    exact PySem.P.repr_of_bool ⟨.str _, H, I.tok _, ⟨_, rfl⟩, by rw [PyData.shown_bool] at q; exact q⟩
  | int i =>
    obtain ⟨t, rfl⟩ := rx
    have hi : i.natAbs.log2 < 1920 := by
      have z : decide (i.natAbs.log2 < 1920) = true := by
        simpa only [PyData.showable] using hs
      exact of_decide_eq_true z
    exact PySem.P.repr_of_int hi ⟨.str _, H, I.tok _, ⟨_, rfl⟩, by rw [PyData.shown_int] at q; exact q⟩
  | str z =>
    obtain ⟨t, rfl⟩ := rx
    rw [PyData.shown_str] at q hz
    exact PySem.P.repr_of_str ⟨.str _, H, I.tok _, ⟨_, rfl⟩, q⟩ hz
  | lst sq al =>
    obtain rfl : u = Value.ref _ := rx
    obtain ⟨as, rr⟩ := Dp.reads I _ _ _ (Dp.lst sq al) rfl
    exact repr_of_reads' rr hs (PyData.noDict_hsm hn) gu (by omega) (fun _ _ e => e) (fun h' u tk hk => ⟨.str _, H, I.kept (t' := tk) hk, ⟨_, rfl⟩, q⟩) hz
  | tup sq al =>
    obtain rfl : u = Value.ref _ := rx
    obtain ⟨as, rr⟩ := Dp.reads I _ _ _ (Dp.tup sq al) rfl
    exact repr_of_reads' rr hs (PyData.noDict_hsm hn) gu (by omega) (fun _ _ e => e) (fun h' u tk hk => ⟨.str _, H, I.kept (t' := tk) hk, ⟨_, rfl⟩, q⟩) hz
/-! ### an own exception without arguments -/
theorem pmk_own0 {X : Cx} {C : Addr} {bmB : List Value} {B newId initId : String} {x : Str} {p pos : Pos} (F : ExcBaseFacts B newId initId bmB) (q : PySem.W.excIn X.K C bmB newId = true)
    (gC : X.mg x = some (.ref C)) (kC : PySem.W.keepIn X.K (.ref C) = true) (r : Raises X (.ref C)) (hg : Gl X x) (hdb : (x == ("__debug__" : Str)) = false := by decide) :
    PMk X (.Call (.Name x p) [] [] pos) (fun _ H Q => Q (.ref C) none H) := by
  intro pins s σ H Q I h
  apply wpAny_Call_Name_kw (ld_glob I hg gC ?_ hdb)
  refine PySem.W.callWith_K0 I.kIn kC ?_
  show wpAny _ _ (call (.ref C) []) _ _ _
  obtain ⟨bm, N, nm, qn, bs, hdct, sn, sub, ab, col, dd, k0, k1, k2, k3, k5, mN, hC, hN, hni, T⟩ := exc_obj I.kIn q
  refine wpAny_call_exc_subT F T hC hN hni (fun h' e hm => ?_) (Nat.zero_le _)
  exact mk_of I hm r h (I.hok.gone hm.new)
end Z
end

section
set_option Elab.async false
set_option linter.all false
set_option maxRecDepth 100000
set_option maxHeartbeats 2000000
namespace Z
open PySem PySem.Spec PyProof.Rows L2
/-! ### the end of a law whose promise wants that no repr is under way -/
theorem law_goes {P : Program} {w : World} {K : PySem.W.Frag} {mg mb : Str → Option Value} {CX : CXT} {k : Nat} {fa a : Addr} {fd : FuncData} {x : Str} {sp : Sp} {t : Shared} {vs : List Value} {ns : List Int}
    (KX : K.In t.heap) (g1 : t.heap.Ns mainGlobals mg) (g2 : t.heap.Ns builtinsNs mb) (g3 : ∀ x : Str, x ≠ "__name__" → mb x = bootBuiltins x) (lim : t.heap.NoLimit) (gn : t.gens = #[])
    (at_a : t.heap.get? a = some { cls := .type "list", data := .seq vs.toArray }) (its : IntsAre vs ns) (short : ns.length ≤ sizeLine) (room : Room k callerA)
    (F : ∀ base : Heap, K.In base → base.Ns mainGlobals mg → FnG P w K mg base CX k fa fd [x] sp) (bd : ∀ (s : Shared) (u : Value), BindsTo s fd ⟨[u], []⟩ [(x, u)])
    (want : ∀ H : Hp, Only H → SqL K H a (ns.map V.int) → sp [.ref a] H (fun v _ => v = .bl true) fun _ _ _ => False)
    (calm : ∀ H e s', CX [] H t (fun _ _ _ => False) e s' → False) :
    codeAny (model P w) callerA (.call (.ref fa) ⟨[.ref a], []⟩) (fun r s' => r = .ok (.ret (.bool true)) ∧ OldK t.heap s'.heap ∧ s'.os = t.os ∧ AllBare s'.gens) t := by
  have rel := vals_ints its
  have same_len := its.length
  obtain ⟨H, hH, hS⟩ : ∃ H : Hp, (∀ b u, H b = some u → b = a ∧ K.lookup a = none ∧ u = .frz { cls := .type "list", data := .seq vs.toArray } (.lst (ns.map V.int))) ∧ SqL K H a (ns.map V.int) := by
    cases look : K.lookup a with
    | none =>
      refine ⟨fun b => if b = a then some (.frz { cls := .type "list", data := .seq vs.toArray } (.lst (ns.map V.int))) else none, ?_, ?_⟩
      · intro b u e
        by_cases hb : b = a
        · have e' := (if_pos hb).symm.trans e
          exact ⟨hb, rfl, (Option.some.inj e').symm⟩
        · have e' := (if_neg hb).symm.trans e
          cases e'
      · exact Or.inl (Or.inr ⟨_, if_pos rfl⟩)
    | some o =>
      have e := KX a o look
      rw [at_a] at e
      cases e
      refine ⟨fun _ => none, fun b u e => ?_, ?_⟩
      · have e' : (none : Option HO) = some u := e
        cases e'
      · exact Or.inr ⟨_, vs.toArray, _, look, rfl, rfl, rfl, by rw [List.size_toArray, same_len]; exact short, by simpa using rel⟩
  have only : Only H := fun b => by
    cases e : H b with
    | none => exact Or.inl rfl
    | some u =>
      obtain ⟨_, _, hu⟩ := hH b u e
      exact Or.inr ⟨_, _, by rw [hu]⟩
  have held : HOk P w H t.heap := fun b u e => by
    obtain ⟨hb, _, hu⟩ := hH b u e
    subst hb hu
    exact ⟨at_a, by rw [List.length_map]; exact short, vs, _, rel, at_a⟩
  have keep : ∀ {b : Addr} {o : Obj}, t.heap.get? b = some o → H b = none → (hidT t.heap H).get? b = some o := fun e n => hidT_get e n
  have ofK : K.In (hidT t.heap H) := fun b o e => keep (KX b o e) (by
    cases q : H b with
    | none => rfl
    | some u =>
      obtain ⟨hb, no, _⟩ := hH b u q
      rw [hb, no] at e
      cases e)
  have ofNs : ∀ {b : Addr} {m : Str → Option Value}, t.heap.Ns b m → (hidT t.heap H).Ns b m := by
    intro b m hb
    obtain ⟨o, es, ep, e, d, r⟩ := hb
    refine ⟨o, es, ep, keep e ?_, d, r⟩
    cases q : H b with
    | none => rfl
    | some u =>
      obtain ⟨hb, _, _⟩ := hH b u q
      rw [hb, at_a] at e
      cases e
      cases d
  have M : Mod K mg (hidT t.heap H) := by
    obtain ⟨mc, c1, c2⟩ := lim
    exact ⟨ofK, ofNs g1, ⟨mb, ofNs g2, g3⟩, mc, ofNs c1, c2⟩
  have e0 : Env0 P w K mg (hidT t.heap H) callerA [] t H := by
    refine ⟨rfl, M, fun b o e => of_hidT e, Nat.le_of_eq (hidT_size _ _), trivial, ?_, held, AllBare.of_eq gn⟩
    intro b hb
    exact absurd (show b ∈ ([] : List Addr) from hb) List.not_mem_nil
  refine codeAny_mono ((F _ ofK (ofNs g1)).go callerA [] t H ⟨[.ref a], []⟩ [.ref a] [.ref a] _ _ room rfl e0 (bd t (.ref a)) (.cons rfl .nil) (want H only hS)) ?_
  intro r s' h
  cases r with
  | error e => exact (calm H e s' h).elim
  | ok fl =>
    cases fl with
    | next => exact (show False from h).elim
    | brk => exact (show False from h).elim
    | cont => exact (show False from h).elim
    | ret u =>
      obtain ⟨v, H', os, bare, un, held', rv, q⟩ := h
      have q' : v = V.bl true := q
      subst q'
      obtain rfl : u = Value.bool true := rv
      refine ⟨rfl, OldK.of_keep ?_, os, bare⟩
      intro b o e
      cases q : H b with
      | none => exact un.keep b o e q (show b ∉ ([] : List Addr) from List.not_mem_nil) List.not_mem_nil
      | some u =>
        obtain ⟨_, _, hu⟩ := hH b u q
        rw [hu] at q
        have z2 := un.frzs b _ _ q
        have e1 := (held b _ q).1
        have e2 := (held' b _ z2).1
        rw [e] at e1
        cases e1
        exact e2
theorem walk_ofG {l : PySem.W.OpenLaw} {n k : Nat} {q : Program} {loose : List Str} {XP : (Str → Option Value) → Heap → Prop} {YP : World → Heap → Prop} {d : DefRec} {K : Params → PySem.W.Frag} {CX : World → CXT} {sp : World → Sp} {x : Str}
    (hn : l.most = some n) (hn2 : n ≤ sizeLine) (hdf : d.params.defaults = []) (hr : Room k callerA)
    (hY : ∀ (w : World) (h : Heap), YP w h → (K w.params).In h)
    (F : ∀ (w : World) (mg : Str → Option Value) (fa : Addr) (h : Heap), (K w.params).In h → h.Ns mainGlobals mg → mg d.name = some (.ref fa) →
      ∃ fd : FuncData, (∀ (s : Shared) (u : Value), BindsTo s fd ⟨[u], []⟩ [(x, u)]) ∧
        ∀ base : Heap, (K w.params).In base → base.Ns mainGlobals mg → FnG l.prog w (K w.params) mg base (CX w) k fa fd [x] (sp w))
    (hsp : ∀ (w : World) (H : Hp) (a : Addr) (ns : List Int), ns.length ≤ n → Only H → SqL (K w.params) H a (ns.map V.int) → sp w [.ref a] H (fun v _ => v = .bl true) fun _ _ _ => False)
    (hCX : ∀ (w : World) (H : Hp) (s : Shared) (e : Value) (s' : Shared), CX w [] H s (fun _ _ _ => False) e s' → False) :
    PySem.W.WalkO q loose XP YP l.row.toRowW d [] (fun f vs => PySem.call f vs) := by
  apply Att.attach_call hn hdf
  intro w s₀ t mg mb fa o pm cd doc a vs ns G Y _ _ _ hmg hobj hints hlen hg
  obtain ⟨fd, hb, hF⟩ := F w mg fa _ (hY w _ Y) G.T.g hmg
  exact law_goes (hY w _ Y) G.T.g G.T.b G.T.builtins G.T.nolimit hg hobj hints (Nat.le_trans hlen hn2) hr hF hb
    (fun H hO hS => hsp w H a ns hlen hO hS) (fun H e s' => hCX w H t e s')
end Z
end

section
set_option Elab.async false
set_option linter.all false
set_option maxRecDepth 100000
set_option maxHeartbeats 2000000
namespace Z
open PySem PySem.Spec PyProof.Rows L2
theorem hu64 {k : Nat} {A : Around} (hr : Room k A) : A.units + 64 < cLine := by
  have h := hr.un
  omega
/-- a def of the module by its name -/
structure Df (P : Program) (w : World) (K : PySem.W.Frag) (mg : Str → Option Value) (base : Heap) (k : Nat) (x : Str) (sp : Sp) : Prop where
  ex : ∃ (f : Addr) (fd : FuncData) (ps : List Str), FnG P w K mg base (L2.CX P w) k f fd ps sp ∧ mg x = some (.ref f) ∧ PySem.W.keepIn K (.ref f) = true ∧ Binds K fd ps []
section
variable {P : Program} {w : World} {K : PySem.W.Frag} {mg : Str → Option Value} {base : Heap} {k : Nat}
theorem df_of {x : Str} {st : Stmt} {f : Addr} {fd : FuncData} {N ps : List Str} {sp : Sp} (F : L2.Fun K x x st f fd) (hm : mg x = some (.ref f)) (b : Binds K fd ps []) (S : FnScope N ps (defScope st))
    (ln : ∀ vs H Q E, sp vs H Q E → vs.length = ps.length)
    (body : ∀ (cdv : Value) (A : Around) (fr : List Env) (s : Shared) (H : Hp) (vs : List V) (Q : VK) (E : XK),
      Room k (A.deeper (envOfC x (defScope st) s.heap.objs.size f cdv)) → A.guards = some [] → sp vs H Q E →
        ∃ t, PSs (cxOf (L2.CX P w) P w K mg base N x (defScope st) f cdv A fr s H E) (defBody st) t ∧ t { nx := fun _ H' => Q .non H', rt := Q } (start N vs) H) :
    Df P w K mg base (k + 1) x sp := ⟨f, fd, ps, fnG_of F S ln body, hm, F.kp, b⟩
/-- for a def that lets nothing out -/
theorem df_0 {x : Str} {st : Stmt} {f : Addr} {fd : FuncData} {N ps : List Str} {sp : Sp} (F : L2.Fun K x x st f fd) (hm : mg x = some (.ref f)) (b : Binds K fd ps []) (S : FnScope N ps (defScope st))
    (ln : ∀ vs H Q E, sp vs H Q E → vs.length = ps.length)
    (body : ∀ (cdv : Value) (A : Around) (fr : List Env) (s : Shared) (H : Hp) (vs : List V) (Q : VK) (E : XK),
      Room k (A.deeper (envOfC x (defScope st) s.heap.objs.size f cdv)) → A.guards = some [] → sp vs H Q E →
        ∃ t, PSs (cxOf (L2.CX P w) P w K mg base N x (defScope st) f cdv A fr s H E).nox (defBody st) t ∧ t { nx := fun _ H' => Q .non H', rt := Q } (start N vs) H) :
    Df P w K mg base (k + 1) x sp := df_of F hm b S ln fun cdv A fr s H vs Q E hr hg h => by
  obtain ⟨t, ht, q⟩ := body cdv A fr s H vs Q E hr hg h
  exact ⟨t, ht.nox, q⟩
end
section
variable {X : Cx} {j k : Nat} {sp : Sp} {E : XK} {x : Str} {p pos : Pos} {e : Expr} {es : List Expr} {t : TA}
def tF (sp : Sp) (t : TA) : TE := fun σ H Q => t σ H fun vs H1 => sp vs H1 Q (fun _ _ _ => False)
theorem pe_f (c : Df X.prog X.w X.K X.mg X.base k x sp) (hr : Room j X.A) (hk : k ≤ j) (gu : X.A.guards = some []) (hg : Gl X x) (ha : PA X (e :: es) t)
    (hdb : (x == ("__debug__" : Str)) = false := by decide) (he : starEach (e :: es) X.env = (false, eval e X.env) :: starEach es X.env := by rfl) (hpl : (backTo pos (starEach es X.env)).any (·.1) = false := by rfl) :
    PE X (.Call (.Name x p) (e :: es) [] pos) (tF sp t) := by
  obtain ⟨f, fd, ps, F, hm, kp, b⟩ := c.ex
  constructor
  intro pins s σ H Q I h
  refine (pe_callG (E := fun _ _ _ => False) F (hr.mono hk) gu hg hm kp b passL ha hdb he hpl).run pins s σ H Q I ?_
  have e1 : (fun (vs : List V) (H1 : Hp) => sp (vs ++ []) H1 Q fun _ _ _ => False) = fun vs H1 => sp vs H1 Q fun _ _ _ => False := by
    funext vs H1
    rw [List.append_nil]
  show t σ H fun vs H1 => sp (vs ++ []) H1 Q fun _ _ _ => False
  rw [e1]
  exact h
/-- a call in a try -/
def tFS (sp : Sp) (E : L2.St → XK) (t : TA) : TE := fun σ H Q => t σ H fun vs H1 => sp vs H1 Q (E σ)
theorem pe_fS {E : L2.St → XK} (c : Df X.prog X.w X.K X.mg X.base k x sp) (hr : Room j X.A) (hk : k ≤ j) (gu : X.A.guards = some []) (hg : Gl X x) (hx : ∀ σ, PassesAt (L2.CX X.prog X.w) X σ (E σ)) (ha : PA X (e :: es) t)
    (hdb : (x == ("__debug__" : Str)) = false := by decide) (he : starEach (e :: es) X.env = (false, eval e X.env) :: starEach es X.env := by rfl) (hpl : (backTo pos (starEach es X.env)).any (·.1) = false := by rfl) :
    PE X (.Call (.Name x p) (e :: es) [] pos) (tFS sp E t) := by
  obtain ⟨f, fd, ps, F, hm, kp, b⟩ := c.ex
  constructor
  intro pins s σ H Q I h
  apply wpAny_Call_Name_kw (ld_glob I hg hm ?_ hdb)
  refine PySem.W.callWith_K (h₀ := X.base) I.ok.mod.kin kp (thn (ha.run pos pins s σ H _ I h) ?_) he hpl
  intro us s1 got
  obtain ⟨vs, H1, I1, r, q⟩ := got
  refine ⟨I1.kIn, ?_⟩
  have hl : us.length = ps.length := by
    rw [← r.length]
    exact F.ln _ _ _ _ q
  have bb := b s1 us I1.kIn (by rw [List.append_nil]; exact hl)
  rw [List.append_nil] at bb
  refine wpAny_call (codeAny_mono (F.go X.A X.stack s1 H1 ⟨us, []⟩ us vs Q (E σ) (hr.mono hk) gu I1.env0 bb r q) ?_)
  intro res s' hq
  cases res with
  | error err => exact hx σ pins H1 s1 err s' I1 hq
  | ok fl =>
    cases fl with
    | ret u => exact I1.after hq
    | next => exact hq.elim
    | brk => exact hq.elim
    | cont => exact hq.elim
end
/-! ### what stays as it was -/
def Kp (as : List Addr) (H H' : Hp) : Prop := ∀ b o, H b = some o → b ∉ as → H' b = some o
theorem Kp.refl {as : List Addr} (H : Hp) : Kp as H H := fun _ _ e _ => e
theorem Kp.trans {as : List Addr} {H H1 H2 : Hp} (a : Kp as H H1) (b : Kp as H1 H2) : Kp as H H2 := fun c o e n => b c o (a c o e n) n
theorem Kp.more {as bs : List Addr} {H H1 : Hp} (a : Kp as H H1) (h : ∀ x ∈ as, x ∈ bs) : Kp bs H H1 := fun c o e n => a c o e fun z => n (h c z)
theorem Kp.of0 {bs : List Addr} {H H1 : Hp} (a : Kp [] H H1) : Kp bs H H1 := a.more fun _ z => by cases z
theorem Kp.new {as : List Addr} {H : Hp} {p : Addr} {o : HO} (h : H p = none) : Kp as H (upd H p o) := fun b x e _ => by
  rw [upd_ne (ne_of_none e h)]
  exact e
theorem Kp.put {as : List Addr} {H : Hp} {p : Addr} {o : HO} (h : p ∈ as) : Kp as H (upd H p o) := fun b x e n => by
  rw [upd_ne (fun z => n (by rw [z]; exact h))]
  exact e
/-- an object that was new may change -/
theorem Kp.own {as : List Addr} {H H1 : Hp} {p : Addr} {o : HO} (k : Kp as H H1) (h : H p = none) : Kp as H (upd H1 p o) := fun b x e n => by
  rw [upd_ne (ne_of_none e h)]
  exact k b x e n
theorem Kp.ownK {as : List Addr} {H H1 H2 : Hp} {p : Addr} (k : Kp as H H1) (h : H p = none) (k2 : Kp (p :: as) H1 H2) : Kp as H H2 := fun b x e n => by
  refine k2 b x (k b x e n) fun z => ?_
  rcases List.mem_cons.mp z with z | z
  · exact ne_of_none e h z
  · exact n z
theorem Kp.at {H H1 : Hp} {b : Addr} {o : HO} (k : Kp [] H H1) (e : H b = some o) : H1 b = some o := k b o e List.not_mem_nil
theorem Kp.seq {K : PySem.W.Frag} {as : List Addr} {H H' : Hp} {a : Addr} {xs : List V} (k : Kp as H H') (n : a ∉ as) (h : SqL K H a xs) : SqL K H' a xs := by
  rcases h with (h | ⟨o, h⟩) | h
  · exact .inl (.inl (k _ _ h n))
  · exact .inl (.inr ⟨o, k _ _ h n⟩)
  · exact .inr h
theorem Kp.seqT {K : PySem.W.Frag} {as : List Addr} {H H' : Hp} {a : Addr} {xs : List V} (k : Kp as H H') (n : a ∉ as) (h : SqT K H a xs) : SqT K H' a xs := by
  rcases h with (h | ⟨o, h⟩) | h
  · exact .inl (.inl (k _ _ h n))
  · exact .inl (.inr ⟨o, k _ _ h n⟩)
  · exact .inr h
/-- what is free behind was free before -/
theorem Kp.free {as : List Addr} {H H' : Hp} {p : Addr} (k : Kp as H H') (e : H' p = none) (n : p ∉ as) : H p = none := by
  cases q : H p with
  | none => rfl
  | some o =>
    rw [k p o q n] at e
    cases e
theorem small {n : Nat} (h : n ≤ 100000) : n ≤ sizeLine := Nat.le_trans h (by decide)
theorem small' {n : Nat} (h : n < 100000) : n < sizeLine := Nat.lt_of_lt_of_le h (by decide)
end Z
end

section
set_option Elab.async false
set_option linter.all false
set_option maxRecDepth 100000
set_option maxHeartbeats 2000000
namespace Z
open PySem PySem.Spec PyProof.Rows L2
/-! ### data that repr can tell -/
structure Okd (d : PyData) : Prop where
  sh : d.showable = true
  nd : d.hasDict = false
  dp : d.depth ≤ 60
  sz : d.shown.length ≤ sizeLine
theorem int_show {z : Int} (h : z.natAbs < 10 ^ 12) : (PyData.int z).showable = true ∧ (PyData.int z).leavesShort 13 = true := by
  have e : z.natAbs.log2 < 1920 := by
    by_cases h0 : z.natAbs = 0
    · rw [h0]
      decide
    · rw [Nat.log2_lt h0]
      exact Nat.lt_of_lt_of_le h (Nat.le_trans (show 10 ^ 12 ≤ 2 ^ 40 by decide) (Nat.pow_le_pow_right (by decide) (by decide)))
  refine ⟨by simp only [PyData.showable, decide_eq_true_eq]; exact e, ?_⟩
  simp only [PyData.leavesShort, decide_eq_true_eq, PyData.shown_int]
  have z2 := int_text_length_le10 (show 0 < 12 by decide) h
  rw [PySem.ofString_length]
  exact z2
theorem ints_show : ∀ {l : List Int}, (∀ z ∈ l, z.natAbs < 10 ^ 12) → PyData.showableAll (l.map .int) = true ∧ PyData.leavesShortAll 13 (l.map .int) = true ∧ PyData.hasDictAll (l.map .int) = false ∧ PyData.depthAll (l.map .int) = 0 ∧ PyData.bulkAll (l.map .int) = l.length
  | [], _ => ⟨rfl, rfl, rfl, rfl, rfl⟩
  | z :: r, h => by
    obtain ⟨h1, h2, h3, h4, h5⟩ := ints_show (l := r) fun x hx => h x (List.mem_cons_of_mem _ hx)
    obtain ⟨g1, g2⟩ := int_show (h z List.mem_cons_self)
    refine ⟨?_, ?_, ?_, ?_, ?_⟩
    · simp only [List.map_cons, PyData.showableAll, g1, h1, Bool.and_self]
    · simp only [List.map_cons, PyData.leavesShortAll, g2, h2, Bool.and_self]
    · simp only [List.map_cons, PyData.hasDictAll, PyData.hasDict, h3, Bool.or_self]
    · simp only [List.map_cons, PyData.depthAll, PyData.depth, h4, Nat.max_self]
    · simp only [List.map_cons, PyData.bulkAll, PyData.bulk, h5, List.length_cons]
      omega
theorem Okd.int {z : Int} (h : z.natAbs < 10 ^ 12) : Okd (.int z) := by
  obtain ⟨h1, h2⟩ := int_show h
  exact ⟨h1, by simp only [PyData.hasDict], by simp only [PyData.depth]; omega, PyData.shown_fits_bulk (by decide) (by decide) h2 (by simp only [PyData.bulk]; decide)⟩
theorem Okd.tup {l : List Int} (h : ∀ z ∈ l, z.natAbs < 10 ^ 12) (hl : l.length ≤ 1000) : Okd (.tuple (l.map .int)) := by
  obtain ⟨h1, h2, h3, h4, h5⟩ := ints_show h
  refine ⟨by simp only [PyData.showable, h1], by simp only [PyData.hasDict, h3], by simp only [PyData.depth, h4]; omega, PyData.shown_fits_bulk (B := 13) (by decide) (by decide) ?_ ?_⟩
  · simp only [PyData.leavesShort, h2]
  · simp only [PyData.bulk, h5]
    exact Nat.le_trans hl (by decide)
theorem Okd.lst {l : List Int} (h : ∀ z ∈ l, z.natAbs < 10 ^ 12) (hl : l.length ≤ 1000) : Okd (.list (l.map .int)) := by
  obtain ⟨h1, h2, h3, h4, h5⟩ := ints_show h
  refine ⟨by simp only [PyData.showable, h1], by simp only [PyData.hasDict, h3], by simp only [PyData.depth, h4]; omega, PyData.shown_fits_bulk (B := 13) (by decide) (by decide) ?_ ?_⟩
  · simp only [PyData.leavesShort, h2]
  · simp only [PyData.bulk, h5]
    exact Nat.le_trans hl (by decide)
theorem dp_ints {K : PySem.W.Frag} {H : Hp} : ∀ l : List Int, DpAll K H (l.map V.int) (l.map .int)
  | [] => .nil
  | z :: r => .cons (.int z) (dp_ints r)
theorem canLay_ints : ∀ l : List Int, PyData.canLayAll0 (l.map .int) = true
  | [] => rfl
  | z :: r => by simp only [List.map_cons, PyData.canLayAll0, PyData.canLay0, canLay_ints r, Bool.and_self]
theorem depth_ints : ∀ l : List Int, PyData.depthAll (l.map .int) = 0
  | [] => rfl
  | z :: r => by simp only [List.map_cons, PyData.depthAll, PyData.depth, depth_ints r, Nat.max_self]
theorem shaped_ints (l : List Int) : SeqAt.shaped (.list (l.map .int)) = true := by
  simp only [SeqAt.shaped, PyData.canLay0, PyData.depth, canLay_ints, depth_ints, Bool.true_and, decide_eq_true_eq]
  omega
/-- an item of a list, the written part told by name (within a try, a comprehension) -/
theorem ix_listK {X : Cx} (K : PySem.W.Frag) (h : X.K = K) : IxR X (rIxL K) := by
  subst h
  exact ix_list
/-! ### isinstance of a caught error, whatever it is -/
theorem call_isE0 {X : Cx} {a : Addr} {oe : Obj} {cls : Value} {d : Option Addr} {pn : List (Addr × Obj)} (hz : Zc cls d oe) (hf : ∃ vs, oe.data = .fields vs) :
    CallR (X.suite a ((a, oe) :: pn)) (.builtin "isinstance") (fun xs H Q => ∃ D : Addr, cls = .ref D ∧ d = none ∧ ExcC X.K D ∧ rIsE X.K D a xs H Q) := by
  intro pins s σ H xs us Q I r h
  obtain ⟨D, rfl, rfl, C, q⟩ := h
  exact call_isE C hz hf pins s σ H xs us Q I r q
end Z
end

section
set_option Elab.async false
set_option linter.all false
set_option maxRecDepth 100000
set_option maxHeartbeats 2000000
namespace Z
open PySem PySem.Spec PyProof.Rows L2
/-! ### rules whose readings name no changed heap: it is told by what it keeps -/
/-- a new object: its address, the heap behind -/
def Nw (H : Hp) (o : HO) (Q : VK) : Prop := ∀ p H2, H p = none → Kp [] H H2 → H2 p = some o → Q (.ref p) H2
theorem Nw.of {H : Hp} {o : HO} {Q : VK} (h : Nw H o Q) : ∀ p, H p = none → Q (.ref p) (upd H p o) := fun p np => h p _ np (Kp.new np) upd_same
/-- the object at a becomes o -/
def Ch (H : Hp) (a : Addr) (o : HO) (R : Hp → Prop) : Prop := ∀ H2, Kp [a] H H2 → H2 a = some o → R H2
theorem Ch.of {H : Hp} {a : Addr} {o : HO} {R : Hp → Prop} (h : Ch H a o R) : R (upd H a o) := h _ (Kp.put (by simp)) upd_same
section
variable {X : Cx} {e : Expr} {es : List Expr} {ta : TA} {te : TE} {pos : Pos} (K : PySem.W.Frag)
theorem PE.wk {t t' : TE} (h : PE X e t) (i : ∀ σ H Q, t' σ H Q → t σ H Q) : PE X e t' := ⟨fun pins s σ H Q I q => h.run pins s σ H Q I (i σ H Q q)⟩
theorem OpR.wk {f : Value → Value → Sem Value} {r r' : R2} (h : OpR X f r) (i : ∀ x y H Q, r' x y H Q → r x y H Q) : OpR X f r' := fun pins s σ H x y v u Q I rx ry q => h pins s σ H x y v u Q I rx ry (i x y H Q q)
theorem CallR.wk {f : Value} {r r' : List V → Hp → VK → Prop} (h : CallR X f r) (i : ∀ xs H Q, r' xs H Q → r xs H Q) : CallR X f r' := fun pins s σ H xs us Q I r1 q => h pins s σ H xs us Q I r1 (i xs H Q q)
theorem MtM.wk {id : String} {r r' : V → List V → Hp → VK → Prop} (h : MtM X id r) (i : ∀ x xs H Q, r' x xs H Q → r x xs H Q) : MtM X id r' := fun pins s σ H x xs v us Q I r1 r2 q => h pins s σ H x xs v us Q I r1 r2 (i x xs H Q q)
def tLstK (t : TA) : TE := fun σ H Q => t σ H fun xs H1 => xs.length ≤ 100000 ∧ Nw H1 (.lst xs) Q
def tTupK (t : TA) : TE := fun σ H Q => t σ H fun xs H1 => xs.length ≤ 100000 ∧ Nw H1 (.tup xs) Q
/-- what an argument list's reading hands on may be weakened -/
theorem PA.lift {t : TA} (h : PA X es t) {G G' : List V → Hp → Prop} (i : ∀ xs H, G' xs H → G xs H) (pins : List (Addr × Obj)) (s : Shared) (σ : L2.St) (H : Hp) (I : Inv X pins σ H s) (q : t σ H G') :
    wpAny (model X.prog X.w) X.A (spliced (backTo pos (starEach es X.env))) (AP X pins σ G) X.xe s := wpAny_mono (h.run pos pins s σ H G' I q) (fun us s' ⟨vs, H', J, r, g⟩ => ⟨vs, H', J, r, i vs H' g⟩) fun _ _ z => z
theorem pe_lstK {q : Pos} (ha : PA X es ta) : PE X (.List es q) (tLstK ta) := by
  have w : PA X es (fun σ H G => ∃ G' : List V → Hp → Prop, ta σ H G' ∧ ∀ xs H1, G' xs H1 → G xs H1) :=
    ⟨fun pos pins s σ H G I ⟨G', q, i⟩ => PA.lift (pos := pos) ha i pins s σ H I q⟩
  refine PE.wk (pe_lst w) fun σ H Q q => ?_
  exact ⟨_, q, fun xs H1 ⟨h1, h2⟩ => ⟨small h1, h2.of⟩⟩
theorem pe_tupK {k : Nat} {q : Pos} (ha : PA X es ta) : PE X (.Tuple es k q) (tTupK ta) := by
  have w : PA X es (fun σ H G => ∃ G' : List V → Hp → Prop, ta σ H G' ∧ ∀ xs H1, G' xs H1 → G xs H1) :=
    ⟨fun pos pins s σ H G I ⟨G', q, i⟩ => PA.lift (pos := pos) ha i pins s σ H I q⟩
  refine PE.wk (pe_tup w) fun σ H Q q => ?_
  exact ⟨_, q, fun xs H1 ⟨h1, h2⟩ => ⟨small h1, h2.of⟩⟩
def rSlK (K : PySem.W.Frag) : V → Option Int → Option Int → Hp → VK → Prop := fun x lo hi H Q => ∃ a xs, x = .ref a ∧ SqL K H a xs ∧ Nw H (.lst (cutV xs lo hi)) Q
theorem sl_listK (hK : X.K = K) : L2.SlR X (rSlK K) := by
  subst hK
  intro pins s σ H x v vl vu lo hi sl Q I rx hs pl pu q
  obtain ⟨a, xs, ex, hx, n⟩ := q
  exact sl_list pins s σ H x v vl vu lo hi sl Q I rx hs pl pu ⟨a, xs, ex, hx, n.of⟩
def rCatK : R2 := fun x y H Q => ∃ l b xs zs, x = .ref l ∧ y = .ref b ∧ H l = some (.lst xs) ∧ H b = some (.lst zs) ∧ xs.length + zs.length ≤ 100000 ∧ Nw H (.lst (xs ++ zs)) Q
theorem op_catK : OpR X (binaryOp .Add) rCatK := OpR.wk op_cat fun x y H Q ⟨l, b, xs, zs, e1, e2, h1, h2, hl, n⟩ => ⟨l, b, xs, zs, e1, e2, h1, h2, small hl, n.of⟩
def rRepK : R2 := fun x y H Q => ∃ l k xs, x = .ref l ∧ y = .int k ∧ H l = some (.lst xs) ∧ -(2 ^ 63) ≤ k ∧ k < 2 ^ 63 ∧ xs.length * k.toNat ≤ 100000 ∧ Nw H (.lst (List.replicate k.toNat xs).flatten) Q
theorem op_repK : OpR X (binaryOp .Mult) rRepK := OpR.wk op_rep fun x y H Q ⟨l, k, xs, e1, e2, h1, h2, h3, hl, n⟩ => ⟨l, k, xs, e1, e2, h1, h2, h3, small hl, n.of⟩
def rListK (K : PySem.W.Frag) : List V → Hp → VK → Prop := fun xs H Q => ∃ p ys, xs = [.ref p] ∧ (SqL K H p ys ∨ SqT K H p ys) ∧ Nw H (.lst ys) Q
theorem call_list_ofK (hK : X.K = K) : CallR X (.type "list") (rListK K) := by
  subst hK
  exact CallR.wk call_list_of fun xs H Q ⟨p, ys, e, h, n⟩ => ⟨p, ys, e, h, n.of⟩
def rLenK (K : PySem.W.Frag) : List V → Hp → VK → Prop := fun xs H Q => ∃ p ys, xs = [.ref p] ∧ (SqL K H p ys ∨ SqT K H p ys) ∧ Q (.int ys.length) H
theorem call_len_seqK (hK : X.K = K) : CallR X (.builtin "len") (rLenK K) := by
  subst hK
  exact call_len_seq
def tRevK (K : PySem.W.Frag) (te : TE) : TE := fun σ H Q => te σ H fun x H1 => ∃ a xs, x = .ref a ∧ SqL K H1 a xs ∧ Nw H1 (.lst xs.reverse) Q
/-- what an expression's reading hands on may be weakened -/
theorem PE.soft {t : TE} (h : PE X e t) : PE X e (fun σ H G => ∃ G' : VK, t σ H G' ∧ ∀ x H1, G' x H1 → G x H1) :=
  ⟨fun pins s σ H G I ⟨G', q, i⟩ => wpAny_mono (h.run pins s σ H G' I q) (fun u s' ⟨v, H', J, r, g⟩ => ⟨v, H', J, r, i v H' g⟩) fun _ _ z => z⟩
theorem pe_revLK {k : Nat} {p1 p2 p3 q : Pos} (hK : X.K = K) (he : PE X e te) : PE X (.Subscript e (.Slice none none (some (.UnaryOp .USub (.Constant (.int 1) k p1) p2)) p3) q) (tRevK K te) := by
  subst hK
  refine PE.wk (pe_revL (PE.soft he)) fun σ H Q q => ?_
  exact ⟨_, q, fun x H1 ⟨a, xs, ex, hx, n⟩ => ⟨a, xs, ex, hx, n.of⟩⟩
def rAppK : V → List V → Hp → VK → Prop := fun x vs H Q => ∃ l xs y, x = .ref l ∧ vs = [y] ∧ H l = some (.lst xs) ∧ xs.length < 100000 ∧ Ch H l (.lst (xs ++ [y])) (Q .non)
theorem mt_appendK : MtM X "list.append" rAppK := MtM.wk mt_append fun x xs H Q ⟨l, ys, y, e1, e2, h, hl, c⟩ => ⟨l, ys, y, e1, e2, h, small' hl, c.of⟩
theorem ix_tupK (hK : X.K = K) : IxR X (rIxT K) := by
  subst hK
  exact ix_tup
def rSetK : TSet := fun o i v H Q => ∃ p xs k j, o = .ref p ∧ i = .int k ∧ H p = some (.lst xs) ∧ ixN xs.length k = some j ∧ Ch H p (.lst (xs.set j v)) Q
theorem set_listK : PSet X rSetK := fun pins s σ H o i v ov iv u Q I r1 r2 r3 ⟨p, xs, k, j, e1, e2, h, hj, c⟩ => set_list pins s σ H o i v ov iv u Q I r1 r2 r3 ⟨p, xs, k, j, e1, e2, h, hj, c.of⟩
theorem op_eqDK (hK : X.K = K) (hu : X.A.units + 64 < cLine) : OpR X (compareOp .Eq) (rEqD K) := by
  subst hK
  exact op_eqD hu
theorem op_neDK (hK : X.K = K) (hu : X.A.units + 64 < cLine) : OpR X (compareOp .NotEq) (rNeD K) := by
  subst hK
  exact op_neD hu
theorem pi_listK {tg : Expr} (hK : X.K = K) (h : PE X e te) : PI X tg e (iList K te) := by
  subst hK
  exact pi_list h
theorem pi_tupK {tg : Expr} (hK : X.K = K) (h : PE X e te) : PI X tg e (iTup K te) := by
  subst hK
  exact pi_tup h
end
/-! ### a def's promise without a name -/
theorem fnG_0 {P : Program} {w : World} {K : PySem.W.Frag} {mg : Str → Option Value} {base : Heap} {k : Nat} {x : Str} {st : Stmt} {f : Addr} {fd : FuncData} {N ps : List Str} {sp : Sp} (F : L2.Fun K x x st f fd) (S : FnScope N ps (defScope st))
    (ln : ∀ vs H Q E, sp vs H Q E → vs.length = ps.length)
    (body : ∀ (cdv : Value) (A : Around) (fr : List Env) (s : Shared) (H : Hp) (vs : List V) (Q : VK) (E : XK),
      Room k (A.deeper (envOfC x (defScope st) s.heap.objs.size f cdv)) → A.guards = some [] → sp vs H Q E →
        ∃ t, PSs (cxOf (L2.CX P w) P w K mg base N x (defScope st) f cdv A fr s H E).nox (defBody st) t ∧ t { nx := fun _ H' => Q .non H', rt := Q } (start N vs) H) :
    FnG P w K mg base (L2.CX P w) (k + 1) f fd ps sp := fnG_of F S ln fun cdv A fr s H vs Q E hr hg h => by
  obtain ⟨t, ht, q⟩ := body cdv A fr s H vs Q E hr hg h
  exact ⟨t, ht.nox, q⟩
end Z
end

section
namespace MZ
/-- the bits of a number, the lowest first -/
def bits (N : Int) : Nat → List Int
  | 0 => []
  | w + 1 => (N % 2) :: bits (N / 2) w
def val : List Int → Int
  | [] => 0
  | b :: r => b + 2 * val r
def num : List Int → Int
  | [] => 0
  | b :: r => b + 256 * num r
def bytes (N : Int) : Nat → List Int
  | 0 => []
  | s + 1 => (N % 256) :: bytes (N / 256) s
/-- all are bytes -/
def B8 (l : List Int) : Prop := ∀ b ∈ l, 0 ≤ b ∧ b < 256

theorem pow_pos (w : Nat) : (0 : Int) < 2 ^ w := Int.pow_pos (by decide)
theorem pow_s (w : Nat) : (2 : Int) ^ (w + 1) = 2 ^ w * 2 := Int.pow_succ _ _
theorem pow_add (a b : Nat) : (2 : Int) ^ (a + b) = 2 ^ a * 2 ^ b := Int.pow_add _ _ _
theorem pow_le {a b : Nat} (h : a ≤ b) : (2 : Int) ^ a ≤ 2 ^ b := by
  obtain ⟨c, rfl⟩ := Nat.exists_eq_add_of_le h
  rw [pow_add]
  have h1 := pow_pos a
  have h2 := pow_pos c
  have h3 : 2 ^ a * 1 ≤ (2 : Int) ^ a * 2 ^ c := Int.mul_le_mul_of_nonneg_left (by omega) (by omega)
  omega
theorem bits_len (w : Nat) : ∀ N : Int, (bits N w).length = w := by
  induction w with
  | zero => intro N; rfl
  | succ w ih => intro N; show (bits (N / 2) w).length + 1 = _; rw [ih]
theorem bytes_len (s : Nat) : ∀ N : Int, (bytes N s).length = s := by
  induction s with
  | zero => intro N; rfl
  | succ s ih => intro N; show (bytes (N / 256) s).length + 1 = _; rw [ih]
theorem div_div (N : Int) (a b : Nat) : N / 2 ^ a / 2 ^ b = N / 2 ^ (a + b) := by
  rw [pow_add, Int.ediv_ediv_of_nonneg (Int.le_of_lt (pow_pos a))]
theorem bits_add (a b : Nat) : ∀ N : Int, bits N (a + b) = bits N a ++ bits (N / 2 ^ a) b := by
  induction a with
  | zero => intro N; rw [Nat.zero_add]; show _ = bits (N / 1) b; rw [Int.ediv_one]
  | succ a ih =>
    intro N
    rw [Nat.add_right_comm]
    show (N % 2) :: bits (N / 2) (a + b) = (N % 2) :: (bits (N / 2) a ++ bits (N / 2 ^ (a + 1)) b)
    rw [ih, Nat.add_comm a 1, ← div_div N 1 a]
    rfl
theorem bits_emod (w : Nat) : ∀ N : Int, bits (N % 2 ^ w) w = bits N w := by
  induction w with
  | zero => intro N; rfl
  | succ w ih =>
    intro N
    show (N % 2 ^ (w + 1)) % 2 :: bits (N % 2 ^ (w + 1) / 2) w = (N % 2) :: bits (N / 2) w
    have hp := pow_pos w
    have e1 : N % 2 ^ (w + 1) % 2 = N % 2 := Int.emod_emod_of_dvd N ⟨2 ^ w, by rw [pow_s, Int.mul_comm]⟩
    have e2 : N % 2 ^ (w + 1) / 2 = N / 2 % 2 ^ w := by
      have k : N % 2 ^ (w + 1) = 2 * (N / 2 % 2 ^ w) + N % 2 := by
        rw [pow_s, Int.mul_comm (2 ^ w) 2]
        have h1 : N = 2 * (N / 2) + N % 2 := (Int.mul_ediv_add_emod N 2).symm
        have h2 : N / 2 = 2 ^ w * (N / 2 / 2 ^ w) + N / 2 % 2 ^ w := (Int.mul_ediv_add_emod _ _).symm
        have h3 := Int.emod_nonneg (N / 2) (Int.ne_of_gt hp)
        have h4 := Int.emod_lt_of_pos (N / 2) hp
        have h5 := Int.emod_nonneg N (show (2 : Int) ≠ 0 by decide)
        have h6 := Int.emod_lt_of_pos N (show (0 : Int) < 2 by decide)
        generalize hq : N / 2 / 2 ^ w = q at h2
        generalize hr : N / 2 % 2 ^ w = r at h2 h3 h4 ⊢
        have e : N = 2 * r + N % 2 + 2 * 2 ^ w * q := by
          have : 2 * 2 ^ w * q = 2 * (2 ^ w * q) := Int.mul_assoc _ _ _
          rw [this]; omega
        have e' : N % (2 * 2 ^ w) = (2 * r + N % 2) % (2 * 2 ^ w) := by
          conv => lhs; rw [e]
          rw [Int.add_mul_emod_self_left]
        rw [e', Int.emod_eq_of_lt (by omega) (by omega)]
      omega
    rw [e1, e2, ih]
theorem val_bits (w : Nat) : ∀ N : Int, val (bits N w) = N % 2 ^ w := by
  induction w with
  | zero => intro N; show (0 : Int) = N % 1; omega
  | succ w ih =>
    intro N
    show N % 2 + 2 * val (bits (N / 2) w) = _
    rw [ih]
    have hp := pow_pos w
    rw [pow_s, Int.mul_comm (2 ^ w) 2]
    have h1 : N = 2 * (N / 2) + N % 2 := (Int.mul_ediv_add_emod N 2).symm
    have h2 : N / 2 = 2 ^ w * (N / 2 / 2 ^ w) + N / 2 % 2 ^ w := (Int.mul_ediv_add_emod _ _).symm
    have h3 := Int.emod_nonneg (N / 2) (Int.ne_of_gt hp)
    have h4 := Int.emod_lt_of_pos (N / 2) hp
    have h5 := Int.emod_nonneg N (show (2 : Int) ≠ 0 by decide)
    have h6 := Int.emod_lt_of_pos N (show (0 : Int) < 2 by decide)
    generalize hq : N / 2 / 2 ^ w = q at h2
    generalize hr : N / 2 % 2 ^ w = r at h2 h3 h4 ⊢
    have e : N = 2 * r + N % 2 + 2 * 2 ^ w * q := by
      have : 2 * 2 ^ w * q = 2 * (2 ^ w * q) := Int.mul_assoc _ _ _
      rw [this]; omega
    have e' : N % (2 * 2 ^ w) = (2 * r + N % 2) % (2 * 2 ^ w) := by
      conv => lhs; rw [e]
      rw [Int.add_mul_emod_self_left]
    rw [e', Int.emod_eq_of_lt (show 0 ≤ 2 * r + N % 2 by omega) (show 2 * r + N % 2 < 2 * 2 ^ w by omega)]
    omega
theorem bits_congr {w : Nat} {N M : Int} (h : N % 2 ^ w = M % 2 ^ w) : bits N w = bits M w := by
  rw [← bits_emod w N, h, bits_emod]
theorem bits_take {W f : Nat} (N : Int) (h : f ≤ W) : (bits N W).take f = bits N f := by
  obtain ⟨r, rfl⟩ := Nat.exists_eq_add_of_le h
  rw [bits_add, List.take_left' (bits_len f N)]
theorem bits_drop {W f : Nat} (N : Int) (h : f ≤ W) : (bits N W).drop f = bits (N / 2 ^ f) (W - f) := by
  obtain ⟨r, rfl⟩ := Nat.exists_eq_add_of_le h
  rw [bits_add, List.drop_left' (bits_len f N), Nat.add_sub_cancel_left]
theorem bits_cut {W f w : Nat} (N : Int) (h : f + w ≤ W) : ((bits N W).drop f).take w = bits (N / 2 ^ f) w := by
  rw [bits_drop N (by omega), bits_take _ (by omega)]
/-- a word with the slot's bits put in -/
def putN (N : Int) (f w : Nat) (v : Int) : Int := N % 2 ^ f + 2 ^ f * (v % 2 ^ w + 2 ^ w * (N / 2 ^ (f + w)))
theorem putN_bits {W f w : Nat} (N v : Int) (h : f + w ≤ W) : bits (putN N f w v) W = bits N f ++ bits v w ++ bits (N / 2 ^ (f + w)) (W - (f + w)) := by
  obtain ⟨r, rfl⟩ := Nat.exists_eq_add_of_le h
  have hf := pow_pos f
  have hw := pow_pos w
  have a0 := Int.emod_nonneg N (Int.ne_of_gt hf)
  have a1 := Int.emod_lt_of_pos N hf
  have b0 := Int.emod_nonneg v (Int.ne_of_gt hw)
  have b1 := Int.emod_lt_of_pos v hw
  have e1 : bits (putN N f w v) f = bits N f := bits_congr (by
    unfold putN
    rw [Int.add_mul_emod_self_left, Int.emod_emod_of_dvd _ (Int.dvd_refl _)])
  have e2 : putN N f w v / 2 ^ f = v % 2 ^ w + 2 ^ w * (N / 2 ^ (f + w)) := by
    unfold putN
    rw [Int.add_mul_ediv_left _ _ (Int.ne_of_gt hf), Int.ediv_eq_zero_of_lt a0 a1, Int.zero_add]
  have e3 : bits (v % 2 ^ w + 2 ^ w * (N / 2 ^ (f + w))) w = bits v w := bits_congr (by
    rw [Int.add_mul_emod_self_left, Int.emod_emod_of_dvd _ (Int.dvd_refl _)])
  have e4 : (v % 2 ^ w + 2 ^ w * (N / 2 ^ (f + w))) / 2 ^ w = N / 2 ^ (f + w) := by
    rw [Int.add_mul_ediv_left _ _ (Int.ne_of_gt hw), Int.ediv_eq_zero_of_lt b0 b1, Int.zero_add]
  rw [Nat.add_sub_cancel_left, Nat.add_assoc, bits_add, e1, e2, bits_add, e3, e4, List.append_assoc]
theorem num_bytes (s : Nat) : ∀ N : Int, num (bytes N s) = N % 256 ^ s := by
  induction s with
  | zero => intro N; show (0 : Int) = N % 1; omega
  | succ s ih =>
    intro N
    show N % 256 + 256 * num (bytes (N / 256) s) = _
    rw [ih]
    have hp : (0 : Int) < 256 ^ s := Int.pow_pos (by decide)
    rw [show (256 : Int) ^ (s + 1) = 256 * 256 ^ s by rw [Int.pow_succ, Int.mul_comm]]
    have h2 : N / 256 = 256 ^ s * (N / 256 / 256 ^ s) + N / 256 % 256 ^ s := (Int.mul_ediv_add_emod _ _).symm
    have h3 := Int.emod_nonneg (N / 256) (Int.ne_of_gt hp)
    have h4 := Int.emod_lt_of_pos (N / 256) hp
    generalize hq : N / 256 / 256 ^ s = q at h2
    generalize hr : N / 256 % 256 ^ s = r at h2 h3 h4 ⊢
    have e : N = 256 * r + N % 256 + 256 * 256 ^ s * q := by
      have : 256 * 256 ^ s * q = 256 * (256 ^ s * q) := Int.mul_assoc _ _ _
      rw [this]; omega
    have e' : N % (256 * 256 ^ s) = (256 * r + N % 256) % (256 * 256 ^ s) := by
      conv => lhs; rw [e]
      rw [Int.add_mul_emod_self_left]
    rw [e', Int.emod_eq_of_lt (show 0 ≤ 256 * r + N % 256 by omega) (show 256 * r + N % 256 < 256 * 256 ^ s by omega)]
    omega
theorem bytes_num : ∀ l : List Int, B8 l → bytes (num l) l.length = l
  | [], _ => rfl
  | b :: r, h => by
    have hb := h b List.mem_cons_self
    have ih := bytes_num r fun x hx => h x (List.mem_cons_of_mem _ hx)
    show (b + 256 * num r) % 256 :: bytes ((b + 256 * num r) / 256) r.length = b :: r
    rw [show (b + 256 * num r) % 256 = b by omega, show (b + 256 * num r) / 256 = num r by omega, ih]
theorem num_range : ∀ l : List Int, B8 l → 0 ≤ num l ∧ num l < 256 ^ l.length
  | [], _ => ⟨by show (0 : Int) ≤ 0; omega, by show (0 : Int) < 1; omega⟩
  | b :: r, h => by
    have hb := h b List.mem_cons_self
    have ih := num_range r fun x hx => h x (List.mem_cons_of_mem _ hx)
    show 0 ≤ b + 256 * num r ∧ b + 256 * num r < 256 ^ (r.length + 1)
    rw [Int.pow_succ]
    constructor <;> omega
theorem bits_num : ∀ l : List Int, B8 l → l.flatMap (fun b => bits b 8) = bits (num l) (8 * l.length)
  | [], _ => rfl
  | b :: r, h => by
    have hb := h b List.mem_cons_self
    have ih := bits_num r fun x hx => h x (List.mem_cons_of_mem _ hx)
    rw [List.flatMap_cons, ih, List.length_cons, show 8 * (r.length + 1) = 8 + 8 * r.length by omega, bits_add]
    have e1 : bits (num (b :: r)) 8 = bits b 8 := bits_congr (by
      show (b + 256 * num r) % 2 ^ 8 = b % 2 ^ 8
      omega)
    have e2 : num (b :: r) / 2 ^ 8 = num r := by
      show (b + 256 * num r) / 2 ^ 8 = num r
      omega
    rw [e1, e2]
theorem bytes_emod256 (s : Nat) : ∀ (N : Int) (i : Nat), i < s → (bytes N s)[i]? = some (N / 256 ^ i % 256) := by
  induction s with
  | zero => intro N i h; omega
  | succ s ih =>
    intro N i h
    cases i with
    | zero => show some (N % 256) = some (N / 1 % 256); rw [Int.ediv_one]
    | succ i =>
      show (bytes (N / 256) s)[i]? = _
      rw [ih _ i (by omega), Int.ediv_ediv_of_nonneg (by decide), Int.pow_succ, Int.mul_comm (256 ^ i)]
theorem bytes_B8 (s : Nat) : ∀ N : Int, B8 (bytes N s) := by
  induction s with
  | zero => intro N b h; cases h
  | succ s ih =>
    intro N b h
    rcases List.mem_cons.mp h with e | e
    · subst e; omega
    · exact ih _ b e
/-- the sign: the highest bit of a slot -/
theorem top_bit {w : Nat} (M : Int) : M / 2 ^ w % 2 = 1 ↔ 2 ^ w ≤ M % 2 ^ (w + 1) := by
  have hp := pow_pos w
  have h1 : M = 2 ^ w * (M / 2 ^ w) + M % 2 ^ w := (Int.mul_ediv_add_emod _ _).symm
  have h3 := Int.emod_nonneg M (Int.ne_of_gt hp)
  have h4 := Int.emod_lt_of_pos M hp
  generalize hq : M / 2 ^ w = q at h1 ⊢
  generalize hr : M % 2 ^ w = r at h1 h3 h4
  have e : M = (2 ^ w * (q % 2) + r) + (2 ^ w * 2) * (q / 2) := by
    have h5 : q = 2 * (q / 2) + q % 2 := (Int.mul_ediv_add_emod _ _).symm
    have h6 : 2 ^ w * 2 * (q / 2) = 2 ^ w * (2 * (q / 2)) := Int.mul_assoc _ _ _
    have h7 : 2 ^ w * q = 2 ^ w * (2 * (q / 2)) + 2 ^ w * (q % 2) := by
      rw [← Int.mul_add, ← h5]
    omega
  have h8 : q % 2 = 0 ∨ q % 2 = 1 := by omega
  have e2 : M % 2 ^ (w + 1) = 2 ^ w * (q % 2) + r := by
    rw [pow_s]
    conv => lhs; rw [e]
    rw [Int.add_mul_emod_self_left]
    rcases h8 with z | z <;> rw [z] <;> exact Int.emod_eq_of_lt (by omega) (by omega)
  rw [e2]
  rcases h8 with z | z <;> rw [z] <;> omega
theorem bits_last (w : Nat) : ∀ M : Int, (bits M (w + 1))[w]? = some (M / 2 ^ w % 2) := by
  induction w with
  | zero => intro M; show some (M % 2) = some (M / 1 % 2); rw [Int.ediv_one]
  | succ w ih =>
    intro M
    show (bits (M / 2) (w + 1))[w]? = _
    rw [ih, Nat.add_comm w 1, ← div_div M 1 w]
    rfl
theorem val_append : ∀ (l m : List Int), val (l ++ m) = val l + 2 ^ l.length * val m
  | [], m => by show val m = 0 + 1 * val m; omega
  | b :: r, m => by
    show b + 2 * val (r ++ m) = b + 2 * val r + 2 ^ (r.length + 1) * val m
    rw [val_append r m, Int.mul_add, pow_s]
    have : 2 ^ r.length * 2 * val m = 2 * (2 ^ r.length * val m) := by
      rw [Int.mul_comm (2 ^ r.length) 2, Int.mul_assoc]
    omega
theorem val_rep0 (n : Nat) : val (List.replicate n 0) = 0 := by
  induction n with
  | zero => rfl
  | succ n ih => show (0 : Int) + 2 * val (List.replicate n 0) = 0; rw [ih]; rfl
theorem val_rep1 (n : Nat) : val (List.replicate n 1) = 2 ^ n - 1 := by
  induction n with
  | zero => rfl
  | succ n ih =>
    show (1 : Int) + 2 * val (List.replicate n 1) = 2 ^ (n + 1) - 1
    rw [ih, pow_s]; omega
/-- law_number over a list with its last bit known -/
def lawNum (l : List Int) (sg : Bool) : Int := if sg = true ∧ l.getLastD 0 = 1 then val l - 2 ^ l.length else val l
end MZ
end

section
namespace MZ
open PySem
theorem nat_slot (n w f : Nat) : n &&& ((2 ^ w - 1) * 2 ^ f) = (n / 2 ^ f % 2 ^ w) * 2 ^ f := by
  apply Nat.eq_of_testBit_eq
  intro i
  rw [Nat.testBit_and, Nat.testBit_mul_two_pow, Nat.testBit_mul_two_pow, Nat.testBit_two_pow_sub_one, Nat.testBit_mod_two_pow, Nat.testBit_div_two_pow]
  by_cases h : f ≤ i
  · have e : i - f + f = i := by omega
    rw [e]
    simp only [h, decide_true, Bool.true_and]
    by_cases h2 : i - f < w <;> simp [h2]
  · simp [h]
theorem and_def (x y : Int) : Builtin.bitAnd x y = match decide (0 ≤ x), decide (0 ≤ y) with
  | true, true => ((x.toNat &&& y.toNat : Nat) : Int)
  | true, false => x - ((x.toNat &&& (Builtin.bitNot y).toNat : Nat) : Int)
  | false, true => y - ((y.toNat &&& (Builtin.bitNot x).toNat : Nat) : Int)
  | false, false => Builtin.bitNot (((Builtin.bitNot x).toNat ||| (Builtin.bitNot y).toNat : Nat) : Int) := rfl
theorem castpow (w : Nat) : ((2 ^ w : Nat) : Int) = 2 ^ w := by
  induction w with
  | zero => rfl
  | succ w ih => rw [Nat.pow_succ, Int.natCast_mul, ih, pow_s]; rfl
theorem mask_cast (w f : Nat) : ((2 : Int) ^ w - 1) * 2 ^ f = (((2 ^ w - 1) * 2 ^ f : Nat) : Int) := by
  have h := Nat.two_pow_pos w
  rw [Int.natCast_mul, castpow, ← castpow w]
  congr 1
  omega
theorem and_slot (x : Int) (w f : Nat) : Builtin.bitAnd x ((2 ^ w - 1) * 2 ^ f) = x / 2 ^ f % 2 ^ w * 2 ^ f := by
  have hw := pow_pos w
  have hf := pow_pos f
  have hm : (0 : Int) ≤ (2 ^ w - 1) * 2 ^ f := Int.mul_nonneg (by omega) (by omega)
  rw [and_def, decide_eq_true hm]
  by_cases hx : 0 ≤ x
  · rw [decide_eq_true hx]
    show ((x.toNat &&& ((2 ^ w - 1) * 2 ^ f : Int).toNat : Nat) : Int) = _
    obtain ⟨n, rfl⟩ := Int.eq_ofNat_of_zero_le hx
    rw [mask_cast, Int.toNat_natCast, Int.toNat_natCast, nat_slot, Int.natCast_mul, Int.natCast_emod, Int.natCast_ediv, castpow, castpow]
  · rw [decide_eq_false hx]
    show ((2 ^ w - 1) * 2 ^ f : Int) - ((((2 ^ w - 1) * 2 ^ f : Int).toNat &&& (-x - 1).toNat : Nat) : Int) = _
    obtain ⟨n, hn⟩ := Int.eq_ofNat_of_zero_le (show 0 ≤ -x - 1 by omega)
    have ex : x = -(n : Int) - 1 := by omega
    subst ex
    rw [hn, mask_cast, Int.toNat_natCast, Int.toNat_natCast, Nat.and_comm, nat_slot, ← mask_cast, Int.natCast_mul, Int.natCast_emod, Int.natCast_ediv, castpow, castpow, ← Int.sub_mul]
    congr 1
    have h1 : (n : Int) = 2 ^ f * (n / 2 ^ f) + n % 2 ^ f := (Int.mul_ediv_add_emod _ _).symm
    have h2 := Int.emod_nonneg (n : Int) (Int.ne_of_gt hf)
    have h3 := Int.emod_lt_of_pos (n : Int) hf
    generalize (n : Int) / 2 ^ f = q at h1 ⊢
    generalize (n : Int) % 2 ^ f = r at h1 h2 h3
    have e1 : (-(n : Int) - 1) / 2 ^ f = -q - 1 := by
      have k : -(n : Int) - 1 = (2 ^ f - 1 - r) + 2 ^ f * (-q - 1) := by
        rw [Int.mul_sub, Int.mul_neg, Int.mul_one]; omega
      rw [k, Int.add_mul_ediv_left _ _ (Int.ne_of_gt hf), Int.ediv_eq_zero_of_lt (by omega) (by omega), Int.zero_add]
    rw [e1]
    have h4 : q = 2 ^ w * (q / 2 ^ w) + q % 2 ^ w := (Int.mul_ediv_add_emod _ _).symm
    have h5 := Int.emod_nonneg q (Int.ne_of_gt hw)
    have h6 := Int.emod_lt_of_pos q hw
    generalize q / 2 ^ w = c at h4
    generalize q % 2 ^ w = d at h4 h5 h6 ⊢
    have k : -q - 1 = (2 ^ w - 1 - d) + 2 ^ w * (-c - 1) := by
      rw [Int.mul_sub, Int.mul_neg, Int.mul_one]; omega
    rw [k, Int.add_mul_emod_self_left, Int.emod_eq_of_lt (by omega) (by omega)]
theorem and_ones (x : Int) (w : Nat) : Builtin.bitAnd x (2 ^ w - 1) = x % 2 ^ w := by
  have h := and_slot x w 0
  rw [show (2 : Int) ^ 0 = 1 from rfl, Int.mul_one, Int.mul_one, Int.ediv_one] at h
  exact h
theorem and_255 (x : Int) : Builtin.bitAnd x 255 = x % 256 := and_ones x 8
/-- what the program writes back into the word -/
theorem put_eq (N v : Int) (f w : Nat) : N - Builtin.bitAnd N ((2 ^ w - 1) * 2 ^ f) + Builtin.bitAnd (v * 2 ^ f) ((2 ^ w - 1) * 2 ^ f) = putN N f w v := by
  have hf := pow_pos f
  have hw := pow_pos w
  rw [and_slot, and_slot, Int.mul_ediv_cancel _ (Int.ne_of_gt hf)]
  unfold putN
  rw [← div_div]
  have h1 : N = 2 ^ f * (N / 2 ^ f) + N % 2 ^ f := (Int.mul_ediv_add_emod _ _).symm
  have h2 : N / 2 ^ f = 2 ^ w * (N / 2 ^ f / 2 ^ w) + N / 2 ^ f % 2 ^ w := (Int.mul_ediv_add_emod _ _).symm
  generalize hq : N / 2 ^ f = q at h1 h2 ⊢
  generalize N % 2 ^ f = r at h1 ⊢
  generalize q / 2 ^ w = c at h2 ⊢
  generalize q % 2 ^ w = d at h2 ⊢
  rw [h1, h2, Int.mul_add, Int.mul_add, Int.mul_comm (2 ^ f) d, Int.mul_comm (2 ^ f) (v % 2 ^ w)]
  omega
end MZ
end

section
set_option Elab.async false
set_option linter.all false
set_option maxRecDepth 100000
set_option maxHeartbeats 2000000
namespace K1
open PySem PySem.Spec PyProof.Rows L2 Z RT
def top (i : Nat) : Stmt := PySem.Challenge.pw_recstore_k01_slots_apart.main.body.getD i (.Pass ⟨0, 0, 0, 0⟩)
/-- what the text's top leaves: the built-in names, the error's class -/
structure Tx (K : PySem.W.Frag) (mg : Str → Option Value) (cR cO : Addr) : Prop where
  b_list : mg "list" = none
  b_range : mg "range" = none
  b_reversed : mg "reversed" = none
  b_len : mg "len" = none
  b_int : mg "int" = none
  b_repr : mg "repr" = none
  b_isinstance : mg "isinstance" = none
  b_ValueError : mg "ValueError" = none
  g_RecordError : mg "RecordError" = some (.ref cR)
  g_OutOfRange : mg "OutOfRange" = some (.ref cO)
  k_OutOfRange : PySem.W.keepIn K (.ref cO) = true
  x_OutOfRange : PySem.W.excIn K cO [.type "ValueError", .type "Exception", .type "BaseException", .type "object"] "ValueError.__new__" = true
  s_OutOfRange : PySem.W.subIn K (.ref cO) (.type "BaseException") = some true
  t_OutOfRange : PySem.W.typeIn K (.ref cO) = some (.type "type")
theorem p256 {l : Nat} (h : l ≤ 4) : (256 : Int) ^ l ≤ 256 ^ 4 := by
  have c : l = 0 ∨ l = 1 ∨ l = 2 ∨ l = 3 ∨ l = 4 := by omega
  rcases c with rfl | rfl | rfl | rfl | rfl <;> decide
theorem ixn {n j : Nat} (hj : j < n) : ixN n (j : Int) = some j := by
  unfold ixN
  rw [if_pos (Int.natCast_nonneg j), if_pos (Int.ofNat_lt.mpr hj), Int.toNat_natCast]
/-! ### the mathematics of the program's defs -/
def plc (off size : Nat) (big : Bool) : List Nat := if big then (List.range' off size).reverse else List.range' off size
def lo (w : Nat) (sg : Bool) : Int := if sg then -(2 ^ (w - 1)) else 0
def hi (w : Nat) (sg : Bool) : Int := if sg then 2 ^ (w - 1) - 1 else 2 ^ w - 1
def rowsOf (data : List Int) (off size : Nat) (big : Bool) : List Int := if big then ((data.drop off).take size).reverse else (data.drop off).take size
section
variable {P : Program} {w : World} {K : PySem.W.Frag} {mg : Str → Option Value} {base : Heap} {cR cO : Addr}
/-! ### _ones -/
abbrev s__ones : Stmt := top 7
theorem sc__ones : FnScope ["width"] ["width"] (defScope s__ones) := ⟨rfl, rfl, rfl, by decide +kernel, rfl, by decide +kernel, by decide +kernel⟩

def sp_ones : Sp := fun vs H Q _ => ∃ w : Nat, vs = [.int w] ∧ w ≤ 64 ∧ Q (.int (2 ^ w - 1)) H
theorem d_ones {f : Addr} {fd : FuncData} (F : L2.Fun K "_ones" "_ones" s__ones f fd) (hm : mg "_ones" = some (.ref f)) (bd : Binds K fd ["width"] []) : Df P w K mg base 1 "_ones" sp_ones := by
  refine df_0 F hm bd sc__ones (fun vs H Q E h => ?_) (fun cdv A fr s H vs Q E hr gu h => ?_)
  · obtain ⟨w, rfl, _⟩ := h
    rfl
  · obtain ⟨w, rfl, hw, q⟩ := h
    refine ⟨_, (pss_one (ps_ret (pe_op op_sub (pe_op op_shl pe_int (pv 0)) pe_int))), ?_⟩
    refine ⟨_, rfl, _, _, rfl, rfl, ⟨by omega, by omega, by decide⟩, _, _, rfl, rfl, ?_⟩
    show Q (.int (1 * 2 ^ (w : Int).toNat - 1)) H
    rw [Int.toNat_natCast, Int.one_mul]
    exact q
/-! ### bounds -/
abbrev s_bounds : Stmt := top 6
theorem sc_bounds : FnScope ["width", "signed", "half"] ["width", "signed"] (defScope s_bounds) := ⟨rfl, rfl, rfl, by decide +kernel, rfl, by decide +kernel, by decide +kernel⟩

def sp_bounds : Sp := fun vs H Q _ => ∃ (w : Nat) (sg : Bool), vs = [.int w, .bl sg] ∧ 1 ≤ w ∧ w ≤ 64 ∧ ∀ p, H p = none → Q (.ref p) (upd H p (.tup [.int (lo w sg), .int (hi w sg)]))
theorem d_bounds {f : Addr} {fd : FuncData} (F : L2.Fun K "bounds" "bounds" s_bounds f fd) (hm : mg "bounds" = some (.ref f)) (bd : Binds K fd ["width", "signed"] []) (c__ones : Df P w K mg base 1 "_ones" sp_ones) : Df P w K mg base 2 "bounds" sp_bounds := by
  refine df_0 F hm bd sc_bounds (fun vs H Q E h => ?_) (fun cdv A fr s H vs Q E hr gu h => ?_)
  · obtain ⟨w, sg, rfl, _⟩ := h
    rfl
  · obtain ⟨w, sg, rfl, hw, hw2, q⟩ := h
    refine ⟨_, (pss_cons (ps_if (pt_val (pv 1))
        (pss_cons (ps_set (i := 2) sc_bounds.nd rfl (Or.inl rfl) (pe_op op_shl pe_int (pe_op op_sub (pv 0) pe_int)))
        (pss_one (ps_ret (pe_tup (pa_cons (pe_un un_neg (pv 2)) (pa_cons (pe_op op_sub (pv 2) pe_int) pa_nil))))))
        pss_nil)
      (pss_one (ps_ret (pe_tup (pa_cons pe_int (pa_cons (pe_f c__ones hr (by decide) gu (by rfl) (pa_cons (pv 0) pa_nil)) pa_nil)))))), ?_⟩
    refine ⟨_, rfl, _, rfl, ?_⟩
    cases sg with
    | true =>
      refine iteT ?_
      refine ⟨_, rfl, _, _, rfl, rfl, _, _, rfl, rfl, ⟨by omega, by omega, by decide⟩, ?_⟩
      have e : ((w : Int) - 1).toNat = w - 1 := by omega
      refine ⟨_, rfl, _, rfl, _, rfl, _, _, rfl, rfl, small (by show 2 ≤ 100000; decide), fun p np => ?_⟩
      have g := q p np
      show Q (.ref p) (upd H p (.tup [.int (-(1 * 2 ^ ((w : Int) - 1).toNat)), .int (1 * 2 ^ ((w : Int) - 1).toNat - 1)]))
      rw [e, Int.one_mul]
      exact g
    | false =>
      refine iteF ?_
      refine ⟨_, rfl, w, rfl, hw2, small (by show 2 ≤ 100000; decide), fun p np => ?_⟩
      exact q p np
/-! ### _places -/
abbrev s__places : Stmt := top 8
theorem sc__places : FnScope ["offset", "size", "big", "places"] ["offset", "size", "big"] (defScope s__places) := ⟨rfl, rfl, rfl, by decide +kernel, rfl, by decide +kernel, by decide +kernel⟩

def sp_places : Sp := fun vs H Q _ => ∃ (off size : Nat) (big : Bool), vs = [.int off, .int size, .bl big] ∧ off + size ≤ 10000 ∧ ∀ H' p, Kp [] H H' → H p = none → H' p = some (.lst ((plc off size big).map fun n => V.int (n : Nat))) → Q (.ref p) H'
theorem rg_plc (off size : Nat) : rgV off (off + size : Nat) = (List.range' off size).map fun n => V.int (n : Nat) := by
  unfold rgV
  have e : (((off + size : Nat) : Int) - (off : Nat)).toNat = size := by omega
  rw [e, List.range'_eq_map_range, List.map_map]
  rfl
theorem d_places {f : Addr} {fd : FuncData} (F : L2.Fun K "_places" "_places" s__places f fd) (hm : mg "_places" = some (.ref f)) (bd : Binds K fd ["offset", "size", "big"] []) (T : Tx K mg cR cO) : Df P w K mg base 1 "_places" sp_places := by
  refine df_0 F hm bd sc__places (fun vs H Q E h => ?_) (fun cdv A fr s H vs Q E hr gu h => ?_)
  · obtain ⟨off, size, big, rfl, _⟩ := h
    rfl
  · obtain ⟨off, size, big, rfl, hs, q⟩ := h
    refine ⟨_, (pss_cons (ps_set (i := 3) sc__places.nd rfl (Or.inl rfl) (pe_listRg rfl (by rfl) T.b_list (prg_2 (by rfl) T.b_range (pv 0) (pe_op op_add (pv 0) (pv 1)))))
      (pss_one (ps_ret (pe_ifExp (pt_val (pv 2)) (pe_revL (pv 3)) (pv 3))))), ?_⟩
    refine ⟨_, rfl, _, rfl, _, rfl, _, _, rfl, rfl, _, _, rfl, rfl, RgOk.of_le (by omega) (by omega) (by omega) (by omega), fun p np => ?_⟩
    have e : rgV (off : Nat) ((off : Nat) + (size : Nat)) = (List.range' off size).map fun n => V.int (n : Nat) := rg_plc off size
    rw [e]
    refine ⟨_, rfl, _, rfl, ?_⟩
    cases big with
    | true =>
      refine iteT ?_
      refine ⟨_, rfl, p, _, rfl, SqL.of upd_same, fun r nr => ?_⟩
      have npr : p ≠ r := fun z => by
        rw [← z, upd_same] at nr
        cases nr
      have nr0 : H r = none := by
        rw [upd_ne npr.symm] at nr
        exact nr
      refine q _ r ((Kp.new np).trans (Kp.new nr)) nr0 ?_
      rw [upd_same, ← List.map_reverse]
      rfl
    | false =>
      refine iteF ?_
      exact ⟨_, rfl, q _ p (Kp.new np) np upd_same⟩
/-! ### _read_number -/
abbrev s__read_number : Stmt := top 9
theorem sc__read_number : FnScope ["data", "offset", "size", "big", "number", "place"] ["data", "offset", "size", "big"] (defScope s__read_number) := ⟨rfl, rfl, rfl, by decide +kernel, rfl, by decide +kernel, by decide +kernel⟩

def sp_read_number (K : PySem.W.Frag) : Sp := fun vs H Q _ => ∃ (a : Addr) (data : List Int) (off size : Nat) (big : Bool), vs = [.ref a, .int off, .int size, .bl big] ∧ SqL K H a (data.map V.int) ∧ MZ.B8 data ∧ off + size ≤ data.length ∧ data.length ≤ 10000 ∧ size ≤ 4 ∧
  ∀ H', Kp [] H H' → Q (.int (MZ.num (rowsOf data off size big))) H'
theorem plc_len (off size : Nat) (big : Bool) : (plc off size big).length = size := by
  unfold plc
  cases big <;> simp
theorem rows_len {data : List Int} {off size : Nat} (big : Bool) (h : off + size ≤ data.length) : (rowsOf data off size big).length = size := by
  unfold rowsOf
  cases big <;> simp <;> omega
/-- the i-th place, and what is read there -/
theorem plc_at {off size i : Nat} (big : Bool) (hi : i < size) : (plc off size big)[i]? = some (if big then off + size - 1 - i else off + i) := by
  unfold plc
  cases big with
  | true =>
    show ((List.range' off size).reverse)[i]? = some (off + size - 1 - i)
    rw [List.getElem?_reverse (by simpa using hi), List.length_range', List.getElem?_range' (by omega)]
    congr 1
    omega
  | false =>
    show (List.range' off size)[i]? = some (off + i)
    rw [List.getElem?_range' hi]
    congr 1
    omega
theorem rows_at {data : List Int} {off size i : Nat} (big : Bool) (h : off + size ≤ data.length) (hi : i < size) : (rowsOf data off size big)[i]? = data[if big then off + size - 1 - i else off + i]? := by
  unfold rowsOf
  cases big with
  | true =>
    show ((data.drop off).take size).reverse[i]? = data[off + size - 1 - i]?
    rw [List.getElem?_reverse (by simp; omega), List.getElem?_take_of_lt (by simp; omega), List.getElem?_drop]
    congr 1
    simp
    omega
  | false =>
    show ((data.drop off).take size)[i]? = data[off + i]?
    rw [List.getElem?_take_of_lt hi, List.getElem?_drop]
theorem num_step {l : List Int} {i : Nat} {z : Int} (h : l[i]? = some z) : MZ.num (l.drop i) = MZ.num (l.drop (i + 1)) * 256 + z := by
  obtain ⟨hi, e⟩ := List.getElem?_eq_some_iff.mp h
  rw [List.drop_eq_getElem_cons hi, e]
  show z + 256 * MZ.num (l.drop (i + 1)) = _
  omega
theorem B8.rows {data : List Int} {off size : Nat} {big : Bool} (h : MZ.B8 data) : MZ.B8 (rowsOf data off size big) := fun b hb => by
  refine h b ?_
  unfold rowsOf at hb
  cases big with
  | true => exact List.mem_of_mem_drop (List.mem_of_mem_take (List.mem_reverse.mp hb))
  | false => exact List.mem_of_mem_drop (List.mem_of_mem_take hb)
theorem B8.drop {l : List Int} (n : Nat) (h : MZ.B8 l) : MZ.B8 (l.drop n) := fun b hb => h b (List.mem_of_mem_drop hb)
theorem d_read_number {f : Addr} {fd : FuncData} (F : L2.Fun K "_read_number" "_read_number" s__read_number f fd) (hm : mg "_read_number" = some (.ref f)) (bd : Binds K fd ["data", "offset", "size", "big"] []) (T : Tx K mg cR cO) (c__places : Df P w K mg base 1 "_places" sp_places) : Df P w K mg base 2 "_read_number" (sp_read_number K) := by
  refine df_0 F hm bd sc__read_number (fun vs H Q E h => ?_) (fun cdv A fr s H vs Q E hr gu h => ?_)
  · obtain ⟨a, data, off, size, big, rfl, _⟩ := h
    rfl
  · obtain ⟨a, data, off, size, big, rfl, hS, hB, hl, hd, hz, q⟩ := h
    refine ⟨_, (pss_cons (ps_set (i := 4) sc__read_number.nd rfl (Or.inl rfl) pe_int)
      (pss_cons (ps_for PassesOwn.never rfl (pi_revA (by rfl) T.b_reversed (pe_f c__places hr (by decide) gu (by rfl) (pa_cons (pv 1) (pa_cons (pv 2) (pa_cons (pv 3) pa_nil))))) (pg_name (i := 5) sc__read_number.nd rfl (Or.inl rfl))
        (pss_one (ps_set (i := 4) sc__read_number.nd rfl (Or.inl rfl) (pe_op op_add (pe_op op_mul (pv 4) pe_int) (pe_ix ix_list (pv 0) (pv 5) (fun _ _ => rfl))))))
      (pss_one (ps_ret (pv 4))))), ?_⟩
    refine ⟨_, rfl, _, rfl, _, rfl, off, size, big, rfl, by omega, fun H1 p k1 np e1 => ?_⟩
    refine ⟨p, _, rfl, Or.inl ⟨SqL.of e1, for_Itv (K := K) (a := p) (xs := (plc off size big).map fun n => V.int (n : Nat))
      (fun i σ H2 => ∃ v, σ = [some (.ref a), some (.int off), some (.int size), some (.bl big), some (.int (MZ.num ((rowsOf data off size big).drop (size - i)))), v] ∧ H2 = H1) ⟨none, ?_, rfl⟩ ?_ ?_ ?_⟩⟩
    · have z : (rowsOf data off size big).drop (size - 0) = [] := by
        rw [List.drop_eq_nil_iff, rows_len big hl]
        omega
      rw [z]
      rfl
    · rintro i σ H2 ⟨v, rfl, rfl⟩
      exact SqL.of e1
    · rintro i x σ H2 hi hx ⟨v, rfl, rfl⟩
      rw [List.length_map, plc_len] at hi hx
      rw [List.getElem?_map, plc_at big (by omega)] at hx
      obtain rfl := (Option.some.inj hx).symm
      have hr2 := rows_at (data := data) big hl (i := size - 1 - i) (by omega)
      obtain ⟨z, hz1⟩ : ∃ z, (rowsOf data off size big)[size - 1 - i]? = some z := ⟨_, List.getElem?_eq_getElem (by rw [rows_len big hl]; omega)⟩
      rw [hz1] at hr2
      have st := num_step hz1
      have e2 : size - 1 - i + 1 = size - i := by omega
      rw [e2] at st
      have rg := MZ.num_range _ (B8.drop (size - i) (B8.rows (off := off) (size := size) (big := big) hB))
      have lg : ((rowsOf data off size big).drop (size - i)).length ≤ 4 := by
        rw [List.length_drop, rows_len big hl]
        omega
      have up := p256 lg
      refine ⟨_, rfl, _, _, rfl, rfl, Or.inl ⟨by omega, by omega⟩, _, rfl, _, rfl, a, data.map V.int, _, V.int z, rfl, rfl, k1.seq List.not_mem_nil hS, ?_, _, _, rfl, rfl, some (V.int ((if big = true then off + size - 1 - (size - 1 - i) else off + (size - 1 - i) : Nat))), ?_, rfl⟩
      · refine atI_nat ?_
        rw [List.getElem?_map, ← hr2]
        rfl
      · rw [show size - (i + 1) = size - 1 - i by omega, st]
        rfl
    · rintro σ H2 ⟨v, rfl, rfl⟩
      rw [List.length_map, plc_len, Nat.sub_self]
      exact ⟨_, rfl, q _ k1⟩
/-! ### _write_number -/
abbrev s__write_number : Stmt := top 10
theorem sc__write_number : FnScope ["data", "offset", "size", "big", "number", "rest", "place"] ["data", "offset", "size", "big", "number"] (defScope s__write_number) := ⟨rfl, rfl, rfl, by decide +kernel, rfl, by decide +kernel, by decide +kernel⟩

/-- the bytes of a word written one by one -/
def wrf (data : List Int) (off size : Nat) (big : Bool) (N : Int) : Nat → List Int
  | 0 => data
  | i + 1 => (wrf data off size big N i).set (if big then off + size - 1 - i else off + i) (N / 256 ^ i % 256)
def ordr (big : Bool) (l : List Int) : List Int := if big then l.reverse else l
def wr (data : List Int) (off size : Nat) (big : Bool) (N : Int) : List Int := data.take off ++ ordr big (MZ.bytes N size) ++ data.drop (off + size)
theorem wrf_len (data : List Int) (off size : Nat) (big : Bool) (N : Int) : ∀ i, (wrf data off size big N i).length = data.length
  | 0 => rfl
  | i + 1 => by
    show ((wrf data off size big N i).set _ _).length = _
    rw [List.length_set, wrf_len data off size big N i]
theorem ordr_len (big : Bool) (l : List Int) : (ordr big l).length = l.length := by
  unfold ordr
  cases big <;> simp
theorem wr_len {data : List Int} {off size : Nat} (big : Bool) (N : Int) (h : off + size ≤ data.length) : (wr data off size big N).length = data.length := by
  unfold wr
  rw [List.length_append, List.length_append, ordr_len, MZ.bytes_len, List.length_take, List.length_drop]
  omega
theorem wrf_at (data : List Int) (off size : Nat) (big : Bool) (N : Int) (h : off + size ≤ data.length) : ∀ i, i ≤ size → ∀ k, (wrf data off size big N i)[k]? =
    if off ≤ k ∧ k < off + size ∧ (if big then off + size - 1 - k else k - off) < i then some (N / 256 ^ (if big then off + size - 1 - k else k - off) % 256) else data[k]? := by
  intro i
  induction i with
  | zero =>
    intro _ k
    rw [if_neg (by omega)]
    rfl
  | succ i ih =>
    intro hi k
    show ((wrf data off size big N i).set (if big then off + size - 1 - i else off + i) (N / 256 ^ i % 256))[k]? = _
    rw [List.getElem?_set, wrf_len]
    cases big with
    | true =>
      have ih := ih (by omega) k
      simp only [if_true] at ih ⊢
      by_cases e : off + size - 1 - i = k
      · rw [if_pos e, if_pos (by omega), if_pos (by omega)]
        have e2 : off + size - 1 - k = i := by omega
        rw [e2]
      · rw [if_neg e, ih]
        by_cases c : off ≤ k ∧ k < off + size ∧ off + size - 1 - k < i
        · rw [if_pos c, if_pos (by omega)]
        · rw [if_neg c, if_neg (by omega)]
    | false =>
      have ih := ih (by omega) k
      simp only [Bool.false_eq_true, if_false] at ih ⊢
      by_cases e : off + i = k
      · rw [if_pos e, if_pos (by omega), if_pos (by omega)]
        have e2 : k - off = i := by omega
        rw [e2]
      · rw [if_neg e, ih]
        by_cases c : off ≤ k ∧ k < off + size ∧ k - off < i
        · rw [if_pos c, if_pos (by omega)]
        · rw [if_neg c, if_neg (by omega)]
theorem ordr_at {big : Bool} {l : List Int} {j : Nat} (h : j < l.length) : (ordr big l)[j]? = l[if big then l.length - 1 - j else j]? := by
  unfold ordr
  cases big with
  | true =>
    show l.reverse[j]? = l[l.length - 1 - j]?
    rw [List.getElem?_reverse h]
  | false => rfl
theorem wrf_all {data : List Int} {off size : Nat} (big : Bool) (N : Int) (h : off + size ≤ data.length) : wrf data off size big N size = wr data off size big N := by
  apply List.ext_getElem?
  intro k
  rw [wrf_at data off size big N h size (Nat.le_refl _) k]
  unfold wr
  have l1 : (data.take off).length = off := by
    rw [List.length_take]
    omega
  have l2 : (ordr big (MZ.bytes N size)).length = size := by rw [ordr_len, MZ.bytes_len]
  by_cases c1 : k < off
  · rw [if_neg (by omega), List.append_assoc, List.getElem?_append_left (by omega), List.getElem?_take_of_lt c1]
  · by_cases c2 : k < off + size
    · have c3 : (if big then off + size - 1 - k else k - off) < size := by
        cases big <;> simp <;> omega
      rw [if_pos ⟨by omega, c2, c3⟩, List.getElem?_append_left (by rw [List.length_append]; omega), List.getElem?_append_right (by omega), l1, ordr_at (by rw [MZ.bytes_len]; omega), MZ.bytes_len]
      have e : (if big = true then size - 1 - (k - off) else k - off) = (if big then off + size - 1 - k else k - off) := by
        cases big <;> simp
        omega
      rw [e, MZ.bytes_emod256 size N _ c3]
    · rw [if_neg (by omega), List.getElem?_append_right (by rw [List.length_append]; omega), List.length_append, l1, l2, List.getElem?_drop]
      congr 1
      omega
def sp_write_number : Sp := fun vs H Q _ => ∃ (a : Addr) (data : List Int) (off size : Nat) (big : Bool) (N : Int), vs = [.ref a, .int off, .int size, .bl big, .int N] ∧ H a = some (.lst (data.map V.int)) ∧ off + size ≤ data.length ∧ data.length ≤ 10000 ∧ size ≤ 4 ∧
  ∀ H', Kp [a] H H' → H' a = some (.lst ((wr data off size big N).map V.int)) → Q .non H'
theorem d_write_number {f : Addr} {fd : FuncData} (F : L2.Fun K "_write_number" "_write_number" s__write_number f fd) (hm : mg "_write_number" = some (.ref f)) (bd : Binds K fd ["data", "offset", "size", "big", "number"] []) (c__places : Df P w K mg base 1 "_places" sp_places) : Df P w K mg base 2 "_write_number" sp_write_number := by
  refine df_0 F hm bd sc__write_number (fun vs H Q E h => ?_) (fun cdv A fr s H vs Q E hr gu h => ?_)
  · obtain ⟨a, data, off, size, big, N, rfl, _⟩ := h
    rfl
  · obtain ⟨a, data, off, size, big, N, rfl, hS, hl, hd, hz, q⟩ := h
    refine ⟨_, (pss_cons (ps_set (i := 5) sc__write_number.nd rfl (Or.inl rfl) (pv 4))
      (pss_one (ps_for PassesOwn.never rfl (pi_list (pe_f c__places hr (by decide) gu (by rfl) (pa_cons (pv 1) (pa_cons (pv 2) (pa_cons (pv 3) pa_nil))))) (pg_name (i := 6) sc__write_number.nd rfl (Or.inl rfl))
        (pss_cons (ps_asg (pe_op op_and (pv 5) pe_int) (pg_sub (pv 0) (pv 6) set_list))
        (pss_one (ps_set (i := 5) sc__write_number.nd rfl (Or.inl rfl) (pe_op op_shr (pv 5) pe_int))))))), ?_⟩
    refine ⟨_, rfl, _, rfl, _, rfl, _, rfl, off, size, big, rfl, by omega, fun H1 p k1 np e1 => ?_⟩
    have nap : a ≠ p := ne_of_none hS np
    refine ⟨p, rfl, ⟨_, SqL.of e1⟩, for_list (K := K) (a := p) (xs := (plc off size big).map fun n => V.int (n : Nat))
      (fun i σ H2 => ∃ v, σ = [some (.ref a), some (.int off), some (.int size), some (.bl big), some (.int N), some (.int (N / 256 ^ i)), v] ∧ Kp [a] H1 H2 ∧ H2 a = some (.lst ((wrf data off size big N i).map V.int)))
      ⟨none, by rw [show N / 256 ^ 0 = N from Int.ediv_one N]; rfl, Kp.refl _, k1.at hS⟩ ?_ ?_ ?_⟩
    · rintro i σ H2 _ ⟨v, rfl, k2, e2⟩
      exact k2.seq (by simpa using nap.symm) (SqL.of e1)
    · rintro i x σ H2 hx ⟨v, rfl, k2, e2⟩
      have hi : i < size := by
        have z := (List.getElem?_eq_some_iff.mp hx).1
        rw [List.length_map, plc_len] at z
        exact z
      rw [List.getElem?_map, plc_at big hi] at hx
      obtain rfl := (Option.some.inj hx).symm
      have hk : (if big then off + size - 1 - i else off + i) < ((wrf data off size big N i).map V.int).length := by
        rw [List.length_map, wrf_len]
        cases big <;> simp <;> omega
      refine ⟨_, rfl, _, _, rfl, rfl, _, rfl, _, rfl, a, _, _, _, rfl, rfl, e2, ixn hk, ?_⟩
      refine ⟨_, rfl, _, _, rfl, rfl, (show (0 : Int) ≤ 8 by decide), ?_⟩
      refine ⟨some (V.int ((if big = true then off + size - 1 - i else off + i : Nat))), ?_, k2.trans (Kp.put (by simp)), ?_⟩
      · have e : N / 256 ^ i / 2 ^ (8 : Int).toNat = N / 256 ^ (i + 1) := by
          rw [Int.pow_succ, ← Int.ediv_ediv_of_nonneg (Int.le_of_lt (Int.pow_pos (by decide)))]
          rfl
        rw [← e]
        rfl
      · rw [upd_same]
        show some (HO.lst (((wrf data off size big N i).map V.int).set (if big = true then off + size - 1 - i else off + i) (V.int (Builtin.bitAnd (N / 256 ^ i) 255)))) = some (HO.lst (((wrf data off size big N i).set (if big = true then off + size - 1 - i else off + i) (N / 256 ^ i % 256)).map V.int))
        rw [MZ.and_255, List.map_set]
    · rintro σ H2 ⟨v, rfl, k2, e2⟩
      rw [List.length_map, plc_len, wrf_all big N hl] at e2
      exact q _ ((k1.of0).trans k2) e2
/-! ### read_slot -/
abbrev s_read_slot : Stmt := top 4
theorem sc_read_slot : FnScope ["data", "offset", "size", "big", "first", "width", "signed", "number", "value", "greatest"] ["data", "offset", "size", "big", "first", "width", "signed"] (defScope s_read_slot) := ⟨rfl, rfl, rfl, by decide +kernel, rfl, by decide +kernel, by decide +kernel⟩

def slotV (N : Int) (f w : Nat) (sg : Bool) : Int := if N / 2 ^ f % 2 ^ w ≤ hi w sg then N / 2 ^ f % 2 ^ w else N / 2 ^ f % 2 ^ w - 2 ^ w
def sp_read_slot (K : PySem.W.Frag) : Sp := fun vs H Q _ => ∃ (a : Addr) (data : List Int) (off size : Nat) (big : Bool) (f w : Nat) (sg : Bool), vs = [.ref a, .int off, .int size, .bl big, .int f, .int w, .bl sg] ∧ SqL K H a (data.map V.int) ∧ MZ.B8 data ∧
  off + size ≤ data.length ∧ data.length ≤ 10000 ∧ size ≤ 4 ∧ 1 ≤ w ∧ f + w ≤ 8 * size ∧ ∀ H', Kp [] H H' → Q (.int (slotV (MZ.num (rowsOf data off size big)) f w sg)) H'
theorem d_read_slot {f : Addr} {fd : FuncData} (F : L2.Fun K "read_slot" "read_slot" s_read_slot f fd) (hm : mg "read_slot" = some (.ref f)) (bd : Binds K fd ["data", "offset", "size", "big", "first", "width", "signed"] []) (c__ones : Df P w K mg base 1 "_ones" sp_ones) (c_bounds : Df P w K mg base 2 "bounds" sp_bounds) (c__read_number : Df P w K mg base 2 "_read_number" (sp_read_number K)) : Df P w K mg base 3 "read_slot" (sp_read_slot K) := by
  refine df_0 F hm bd sc_read_slot (fun vs H Q E h => ?_) (fun cdv A fr s H vs Q E hr gu h => ?_)
  · obtain ⟨a, data, off, size, big, f, w, sg, rfl, _⟩ := h
    rfl
  · obtain ⟨a, data, off, size, big, f, w, sg, rfl, hS, hB, hl, hd, hz, hw, hfw, q⟩ := h
    refine ⟨_, (pss_cons (ps_set (i := 7) sc_read_slot.nd rfl (Or.inl rfl) (pe_f c__read_number hr (by decide) gu (by rfl) (pa_cons (pv 0) (pa_cons (pv 1) (pa_cons (pv 2) (pa_cons (pv 3) pa_nil))))))
      (pss_cons (ps_set (i := 8) sc_read_slot.nd rfl (Or.inl rfl) (pe_op op_and (pe_op op_shr (pv 7) (pv 4)) (pe_f c__ones hr (by decide) gu (by rfl) (pa_cons (pv 5) pa_nil))))
      (pss_cons (ps_set (i := 9) sc_read_slot.nd rfl (Or.inl rfl) (pe_ix ix_tup (pe_f c_bounds hr (by decide) gu (by rfl) (pa_cons (pv 5) (pa_cons (pv 6) pa_nil))) pe_int (fun _ _ => rfl)))
      (pss_one (ps_ret (pe_ifExp (pt_cmpR op_le (pv 8) (pv 9) (nomark _)) (pv 8) (pe_op op_sub (pv 8) (pe_op op_shl pe_int (pv 5))))))))), ?_⟩
    refine ⟨_, rfl, _, rfl, _, rfl, _, rfl, a, data, off, size, big, rfl, hS, hB, hl, hd, hz, fun H1 k1 => ?_⟩
    refine ⟨_, rfl, _, rfl, _, _, rfl, rfl, (by omega), _, rfl, w, rfl, by omega, _, _, rfl, rfl, ?_⟩
    refine ⟨_, rfl, _, rfl, w, sg, rfl, hw, by omega, fun p np => ⟨p, _, 1, _, rfl, rfl, SqT.of upd_same, atI_nat (j := 1) rfl, ?_⟩⟩
    have e : Builtin.bitAnd (MZ.num (rowsOf data off size big) / 2 ^ (f : Int).toNat) (2 ^ w - 1) = MZ.num (rowsOf data off size big) / 2 ^ f % 2 ^ w := by
      rw [Int.toNat_natCast, MZ.and_ones]
    refine ⟨_, rfl, _, rfl, _, _, rfl, rfl, _, rfl, ?_⟩
    have q' := q (upd H1 p (.tup [.int (lo w sg), .int (hi w sg)])) (k1.trans (Kp.new np))
    unfold slotV at q'
    refine ite2 (fun c => ?_) (fun c => ?_)
    · have c' : Builtin.bitAnd (MZ.num (rowsOf data off size big) / 2 ^ (f : Int).toNat) (2 ^ w - 1) ≤ hi w sg := of_decide_eq_true c
      rw [e] at c'
      rw [if_pos c'] at q'
      refine ⟨_, rfl, ?_⟩
      show Q (.int (Builtin.bitAnd (MZ.num (rowsOf data off size big) / 2 ^ (f : Int).toNat) (2 ^ w - 1))) _
      rw [e]
      exact q'
    · have c' : ¬ Builtin.bitAnd (MZ.num (rowsOf data off size big) / 2 ^ (f : Int).toNat) (2 ^ w - 1) ≤ hi w sg := fun z => c (decide_eq_true z)
      rw [e] at c'
      rw [if_neg c'] at q'
      refine ⟨_, rfl, _, rfl, _, _, rfl, rfl, ⟨by omega, by omega, by decide⟩, _, _, rfl, rfl, ?_⟩
      show Q (.int (Builtin.bitAnd (MZ.num (rowsOf data off size big) / 2 ^ (f : Int).toNat) (2 ^ w - 1) - 1 * 2 ^ (w : Int).toNat)) _
      rw [e, Int.toNat_natCast w, Int.one_mul]
      exact q'
/-! ### write_slot -/
abbrev s_write_slot : Stmt := top 5
theorem sc_write_slot : FnScope ["data", "offset", "size", "big", "first", "width", "signed", "value", "least", "greatest", "slot", "number", "others"] ["data", "offset", "size", "big", "first", "width", "signed", "value"] (defScope s_write_slot) := ⟨rfl, rfl, rfl, by decide +kernel, rfl, by decide +kernel, by decide +kernel⟩

def sp_write_slot (cO : Addr) : Sp := fun vs H Q E => ∃ (a : Addr) (data : List Int) (off size : Nat) (big : Bool) (f w : Nat) (sg : Bool) (v : Int), vs = [.ref a, .int off, .int size, .bl big, .int f, .int w, .bl sg, .int v] ∧ H a = some (.lst (data.map V.int)) ∧ MZ.B8 data ∧
  off + size ≤ data.length ∧ data.length ≤ 10000 ∧ size ≤ 4 ∧ 1 ≤ w ∧ f + w ≤ 8 * size ∧
  (∀ H', Kp [] H H' → (v < lo w sg ∨ hi w sg < v) → E (.ref cO) none H') ∧
  ∀ H', Kp [a] H H' → lo w sg ≤ v → v ≤ hi w sg → H' a = some (.lst ((wr data off size big (MZ.putN (MZ.num (rowsOf data off size big)) f w v)).map V.int)) → Q .non H'
theorem lo_ge {w : Nat} (sg : Bool) (h : w ≤ 32) : -(2 ^ 32) ≤ lo w sg := by
  have e := MZ.pow_le (show w - 1 ≤ 32 by omega)
  unfold lo
  cases sg
  · show -(2 ^ 32) ≤ (0 : Int)
    decide
  · show (-(2 ^ 32) : Int) ≤ -(2 ^ (w - 1))
    omega
theorem hi_le {w : Nat} (sg : Bool) (h : w ≤ 32) : hi w sg ≤ 2 ^ 32 := by
  have e := MZ.pow_le (show w - 1 ≤ 32 by omega)
  have e2 := MZ.pow_le h
  unfold hi
  cases sg
  · show (2 : Int) ^ w - 1 ≤ 2 ^ 32
    omega
  · show (2 : Int) ^ (w - 1) - 1 ≤ 2 ^ 32
    omega
theorem r_OutOfRange {X : Cx} (T : Tx X.K X.mg cR cO) : Raises X (.ref cO) := raises_own T.s_OutOfRange T.t_OutOfRange
theorem d_write_slot {f : Addr} {fd : FuncData} (F : L2.Fun K "write_slot" "write_slot" s_write_slot f fd) (hm : mg "write_slot" = some (.ref f)) (bd : Binds K fd ["data", "offset", "size", "big", "first", "width", "signed", "value"] []) (T : Tx K mg cR cO) (c__ones : Df P w K mg base 1 "_ones" sp_ones) (c_bounds : Df P w K mg base 2 "bounds" sp_bounds) (c__read_number : Df P w K mg base 2 "_read_number" (sp_read_number K))
    (c__write_number : Df P w K mg base 2 "_write_number" sp_write_number) : Df P w K mg base 3 "write_slot" (sp_write_slot cO) := by
  refine df_of F hm bd sc_write_slot (fun vs H Q E h => ?_) (fun cdv A fr s H vs Q E hr gu h => ?_)
  · obtain ⟨a, data, off, size, big, f, w, sg, v, rfl, _⟩ := h
    rfl
  · obtain ⟨a, data, off, size, big, f, w, sg, v, rfl, hS, hB, hl, hd, hz, hw, hfw, bad, good⟩ := h
    refine ⟨_, (pss_cons (ps_asg (pe_f c_bounds hr (by decide) gu (by rfl) (pa_cons (pv 5) (pa_cons (pv 6) pa_nil))) (pg_tup (by rfl) (pgs_cons (pg_name (i := 8) sc_write_slot.nd rfl (Or.inl rfl)) (pgs_cons (pg_name (i := 9) sc_write_slot.nd rfl (Or.inl rfl)) pgs_nil))))
      (pss_cons (ps_if (PW.pt (pw_or (pt_cmpR op_lt (pv 7) (pv 8) (nomark _)) (pw_or1 (pt_cmpR op_gt (pv 7) (pv 9) (nomark _)))))
        (pss_one (ps_raise rfl (takes_of rfl rfl rfl rfl) (pmk_own0 PySem.F.excBase_ValueError T.x_OutOfRange T.g_OutOfRange T.k_OutOfRange (r_OutOfRange T) (by rfl))))
        pss_nil)
      (pss_cons (ps_set (i := 10) sc_write_slot.nd rfl (Or.inl rfl) (pe_op op_shl (pe_f c__ones hr (by decide) gu (by rfl) (pa_cons (pv 5) pa_nil)) (pv 4)))
      (pss_cons (ps_set (i := 11) sc_write_slot.nd rfl (Or.inl rfl) (pe_f c__read_number hr (by decide) gu (by rfl) (pa_cons (pv 0) (pa_cons (pv 1) (pa_cons (pv 2) (pa_cons (pv 3) pa_nil))))))
      (pss_cons (ps_set (i := 12) sc_write_slot.nd rfl (Or.inl rfl) (pe_op op_sub (pv 11) (pe_op op_and (pv 11) (pv 10))))
      (pss_one (ps_expr (pe_f c__write_number hr (by decide) gu (by rfl) (pa_cons (pv 0) (pa_cons (pv 1) (pa_cons (pv 2) (pa_cons (pv 3) (pa_cons (pe_op op_add (pv 12) (pe_op op_and (pe_op op_shl (pv 7) (pv 4)) (pv 10))) pa_nil))))))))))))), ?_⟩
    refine ⟨_, rfl, _, rfl, w, sg, rfl, hw, by omega, fun p np => ?_⟩
    have nap : a ≠ p := ne_of_none hS np
    have k1 : Kp [] H (upd H p (.tup [.int (lo w sg), .int (hi w sg)])) := Kp.new np
    refine ⟨p, _, rfl, SqT.of upd_same, rfl, _, _, rfl, _, _, rfl, rfl, ?_⟩
    refine ⟨_, rfl, _, rfl, _, _, rfl, rfl, _, rfl, ?_⟩
    refine ite2 (fun c => ?_) (fun c => ?_)
    · refine iteT ?_
      exact bad _ k1 (Or.inl (of_decide_eq_true c))
    · have c1 : ¬ v < lo w sg := fun z => c (decide_eq_true z)
      refine ⟨_, rfl, _, rfl, _, _, rfl, rfl, _, rfl, ?_⟩
      refine ite2 (fun c => ?_) (fun c => ?_)
      · exact bad _ k1 (Or.inr (of_decide_eq_true c))
      · have c2 : ¬ hi w sg < v := fun z => c (decide_eq_true z)
        have g1 := lo_ge sg (show w ≤ 32 by omega)
        have g2 := hi_le sg (show w ≤ 32 by omega)
        have pw := MZ.pow_le (show w ≤ 32 by omega)
        have pp := MZ.pow_pos w
        refine ⟨_, rfl, w, rfl, by omega, _, rfl, _, _, rfl, rfl, ⟨by omega, by omega, by omega⟩, ?_⟩
        refine ⟨_, rfl, _, rfl, _, rfl, _, rfl, a, data, off, size, big, rfl, k1.seq List.not_mem_nil (SqL.of hS), hB, hl, hd, hz, fun H2 k2 => ?_⟩
        have k12 := k1.trans k2
        refine ⟨_, rfl, _, rfl, _, rfl, _, _, rfl, rfl, _, _, rfl, rfl, ?_⟩
        refine ⟨_, rfl, _, rfl, _, rfl, _, rfl, _, rfl, _, rfl, _, rfl, _, _, rfl, rfl, ⟨by omega, by omega, by omega⟩, _, rfl, _, _, rfl, rfl, _, _, rfl, rfl, ?_⟩
        refine ⟨a, data, off, size, big, MZ.putN (MZ.num (rowsOf data off size big)) f w v, ?_, k12.at hS, hl, hd, hz, fun H3 k3 e3 => ?_⟩
        · have e := MZ.put_eq (MZ.num (rowsOf data off size big)) v f w
          show [V.ref a, .int off, .int size, .bl big, .int (MZ.num (rowsOf data off size big) - Builtin.bitAnd (MZ.num (rowsOf data off size big)) ((2 ^ w - 1) * 2 ^ (f : Int).toNat) + Builtin.bitAnd (v * 2 ^ (f : Int).toNat) ((2 ^ w - 1) * 2 ^ (f : Int).toNat))] = _
          rw [Int.toNat_natCast, e]
        · exact good H3 (k12.of0.trans k3) (by omega) (by omega) e3
end
end K1
end

section
set_option Elab.async false
set_option linter.all false
set_option maxRecDepth 100000
set_option maxHeartbeats 2000000
namespace K1
open PySem PySem.Spec PyProof.Rows L2 Z RT
/-! ### the law's own defs -/
section
variable {P : Program} {w : World} {K : PySem.W.Frag} {mg : Str → Option Value} {base : Heap} {cR cO : Addr}
abbrev s__law_cell : Stmt := top 13
theorem sc__law_cell : FnScope ["script", "k"] ["script", "k"] (defScope s__law_cell) := ⟨rfl, rfl, rfl, by decide +kernel, rfl, by decide +kernel, by decide +kernel⟩

def sp_cell (K : PySem.W.Frag) : Sp := fun vs H Q _ => ∃ (a : Addr) (ns : List Int) (k : Nat), vs = [.ref a, .int k] ∧ SqL K H a (ns.map V.int) ∧ ∀ z : Int, Q (.int z) H
theorem d_cell {f : Addr} {fd : FuncData} (F : L2.Fun K "_law_cell" "_law_cell" s__law_cell f fd) (hm : mg "_law_cell" = some (.ref f)) (bd : Binds K fd ["script", "k"] []) (T : Tx K mg cR cO) : Df P w K mg base 1 "_law_cell" (sp_cell K) := by
  refine df_0 F hm bd sc__law_cell (fun vs H Q E h => ?_) (fun cdv A fr s H vs Q E hr gu h => ?_)
  · obtain ⟨a, ns, k, rfl, _⟩ := h
    rfl
  · obtain ⟨a, ns, k, rfl, hS, q⟩ := h
    refine ⟨_, (pss_cons (ps_if (pt_cmpR op_lt (pv 1) (pe_callB call_len_seq (by rfl) T.b_len PySem.boot_len (pa_cons (pv 0) pa_nil)) (nomark _))
        (pss_one (ps_ret (pe_ix ix_list (pv 0) (pv 1) (fun _ _ => rfl))))
        pss_nil)
      (pss_one (ps_ret pe_int))), ?_⟩
    refine ⟨_, rfl, _, rfl, a, _, rfl, Or.inl hS, _, _, rfl, rfl, _, rfl, ?_⟩
    refine ite2 (fun c => ?_) (fun c => ?_)
    · have c1 : (k : Int) < ((ns.map V.int).length : Int) := of_decide_eq_true c
      rw [List.length_map] at c1
      have hk : k < ns.length := by omega
      refine ⟨_, rfl, _, rfl, a, _, _, V.int ns[k], rfl, rfl, hS, atI_nat ?_, q _⟩
      rw [List.getElem?_map, List.getElem?_eq_getElem hk]
      rfl
    · exact q _
abbrev s__law_digits : Stmt := top 16
theorem sc__law_digits : FnScope ["script", "first", "last", "digits", "k", "cell", "turn", "seed"] ["script", "first", "last"] (defScope s__law_digits) := ⟨rfl, rfl, rfl, by decide +kernel, rfl, by decide +kernel, by decide +kernel⟩

def sp_digits (K : PySem.W.Frag) : Sp := fun vs H Q _ => ∃ (a : Addr) (ns : List Int) (f l : Nat), vs = [.ref a, .int f, .int l] ∧ SqL K H a (ns.map V.int) ∧ l ≤ f + 64 ∧ l ≤ 1000 ∧ f ≤ 1000 ∧
  ∀ H' p (ds : List Int), Kp [] H H' → H p = none → H' p = some (.lst (ds.map V.int)) → ds.length ≤ 60 * 64 → Q (.ref p) H'
theorem app_len (ds : List Int) (z : Int) : (ds.map V.int ++ [V.int z]) = (ds ++ [z]).map V.int := by simp
theorem d_digits {f : Addr} {fd : FuncData} (F : L2.Fun K "_law_digits" "_law_digits" s__law_digits f fd) (hm : mg "_law_digits" = some (.ref f)) (bd : Binds K fd ["script", "first", "last"] []) (T : Tx K mg cR cO) (c__law_cell : Df P w K mg base 1 "_law_cell" (sp_cell K)) : Df P w K mg base 2 "_law_digits" (sp_digits K) := by
  refine df_0 F hm bd sc__law_digits (fun vs H Q E h => ?_) (fun cdv A fr s H vs Q E hr gu h => ?_)
  · obtain ⟨a, ns, f, l, rfl, _⟩ := h
    rfl
  · obtain ⟨a, ns, f, l, rfl, hS, hl, hl2, hf, q⟩ := h
    refine ⟨_, (pss_cons (ps_set (i := 3) sc__law_digits.nd rfl (Or.inl rfl) (pe_lst pa_nil))
      (pss_cons (ps_for PassesOwn.never rfl (pi_range2 (by rfl) T.b_range (pa_cons (pv 1) (pa_cons (pv 2) pa_nil))) (pg_name (i := 4) sc__law_digits.nd rfl (Or.inl rfl))
        (pss_cons (ps_set (i := 5) sc__law_digits.nd rfl (Or.inl rfl) (pe_f c__law_cell hr (by decide) gu (by rfl) (pa_cons (pv 0) (pa_cons (pv 4) pa_nil))))
        (pss_cons (ps_if (pt_cmpR op_lt (pv 5) pe_int (nomark _))
          (pss_one (ps_set (i := 5) sc__law_digits.nd rfl (Or.inl rfl) (pe_op op_sub pe_int (pe_op op_mul pe_int (pv 5)))))
          pss_nil)
        (pss_one (ps_if (pt_cmpR op_ge (pv 5) (pe_op op_pow pe_int pe_int) (nomark _))
          (pss_one (ps_for PassesOwn.never rfl (pi_range1 (by rfl) T.b_range (pa_cons pe_int pa_nil)) (pg_name (i := 6) sc__law_digits.nd rfl (Or.inl rfl))
            (pss_one (ps_if (pt_cmpR op_gt (pv 5) pe_int (nomark _))
              (pss_cons (ps_expr (pe_bm PySem.F.plainAttrs_list PySem.F.slot_list_append PySem.F.type_list_append mt_append (pv 3) (pa_cons (pe_op op_mod (pe_callTy call_int1 (by rfl) T.b_int (by decide +kernel) (pa_cons (pv 5) pa_nil)) pe_int) pa_nil)))
              (pss_one (ps_set (i := 5) sc__law_digits.nd rfl (Or.inl rfl) (pe_op op_fdiv (pv 5) pe_int))))
              pss_nil))))
          (pss_cons (ps_set (i := 7) sc__law_digits.nd rfl (Or.inl rfl) (pe_op op_mod (pe_callTy call_int1 (by rfl) T.b_int (by decide +kernel) (pa_cons (pe_op op_add (pe_op op_add (pe_op op_mul (pv 5) pe_int) (pe_op op_mul (pv 4) pe_int)) pe_int) pa_nil)) pe_int))
          (pss_one (ps_for PassesOwn.never rfl (pi_range1 (by rfl) T.b_range (pa_cons pe_int pa_nil)) (pg_name (i := 6) sc__law_digits.nd rfl (Or.inl rfl))
            (pss_cons (ps_set (i := 7) sc__law_digits.nd rfl (Or.inl rfl) (pe_op op_mod (pe_callTy call_int1 (by rfl) T.b_int (by decide +kernel) (pa_cons (pe_op op_add (pe_op op_add (pe_op op_mul (pv 7) pe_int) (pe_op op_mul pe_int (pv 6))) pe_int) pa_nil)) pe_int))
            (pss_one (ps_expr (pe_bm PySem.F.plainAttrs_list PySem.F.slot_list_append PySem.F.type_list_append mt_append (pv 3) (pa_cons (pe_op op_mod (pe_callTy call_int1 (by rfl) T.b_int (by decide +kernel) (pa_cons (pe_op op_fdiv (pv 7) pe_int) pa_nil)) pe_int) pa_nil)))))))))))))
      (pss_one (ps_ret (pv 3))))), ?_⟩
    refine ⟨small (by show 0 ≤ 100000; decide), fun p np => ?_⟩
    have nap : ∀ {H2 : Hp}, Kp [p] H H2 → SqL K H2 a (ns.map V.int) := fun k => (Kp.ownK (Kp.refl H) np k).seq List.not_mem_nil hS
    refine ⟨_, rfl, _, rfl, _, _, rfl, ⟨by omega, by omega, by omega, by omega⟩, for_range (lo := (f : Int)) (n := ((l : Int) - f).toNat)
      (fun i σ H2 => ∃ (v4 v5 v6 v7 : Option V) (ds : List Int), σ = [some (.ref a), some (.int f), some (.int l), some (.ref p), v4, v5, v6, v7] ∧ Kp [p] H H2 ∧ H2 p = some (.lst (ds.map V.int)) ∧ ds.length ≤ 60 * i)
      ⟨none, none, none, none, [], rfl, Kp.new np, upd_same, Nat.zero_le _⟩ ?_ ?_⟩
    · rintro i σ H2 hi ⟨v4, v5, v6, v7, ds, rfl, k2, e2, hd⟩
      have hi64 : i < 64 := by omega
      refine ⟨_, rfl, _, rfl, a, ns, f + i, ?_, nap k2, fun z => ?_⟩
      · show [V.ref a, V.int ((f : Int) + (i : Nat))] = _
        rw [show ((f + i : Nat) : Int) = (f : Int) + (i : Nat) by omega]
      -- if cell < 0
      refine ⟨_, rfl, _, _, rfl, rfl, _, rfl, ?_⟩
      refine ite2 (fun c => ?_) (fun c => ?_)
      refine ⟨_, rfl, _, _, rfl, rfl, Or.inl ⟨by decide, by decide⟩, _, _, rfl, rfl, ?_⟩
      all_goals
        -- if cell >= 10 ** 18
        refine ⟨_, rfl, _, _, rfl, rfl, ⟨by decide, by decide, by decide⟩, _, _, rfl, rfl, _, rfl, ?_⟩
        refine ite2 (fun c => ?_) (fun c => ?_)
        · refine ⟨_, rfl, by decide, by decide, for_range (lo := 0) (n := 60)
            (fun j σ H3 => ∃ (v4 v6 v7 : Option V) (c5 : Int) (es : List Int), σ = [some (.ref a), some (.int f), some (.int l), some (.ref p), v4, some (.int c5), v6, v7] ∧ Kp [p] H H3 ∧ H3 p = some (.lst (es.map V.int)) ∧ es.length ≤ 60 * i + j)
            ⟨_, _, _, _, ds, rfl, k2, e2, hd⟩ ?_ ?_⟩
          · rintro j σ H3 hj ⟨v4, v6, v7, c5, es, rfl, k3, e3, he⟩
            refine ⟨_, rfl, _, _, rfl, rfl, _, rfl, ?_⟩
            refine ite2 (fun c => ?_) (fun c => ?_)
            · refine ⟨.ref p, rfl, Or.inl ⟨rfl, _, SqL.of e3⟩, _, rfl, Or.inl ⟨_, rfl, _, _, rfl, rfl, (by show (0 : Int) < _; decide), p, _, _, rfl, rfl, e3, small' (by rw [List.length_map]; omega), ?_⟩⟩
              refine ⟨_, rfl, _, _, rfl, rfl, ⟨by decide, by decide⟩, ?_⟩
              refine ⟨_, _, _, _, es ++ [c5 % 1000], rfl, k3.trans (Kp.put (by simp)), ?_, by rw [List.length_append]; show es.length + 1 ≤ _; omega⟩
              rw [upd_same, ← app_len]
            · exact ⟨_, _, _, _, es, rfl, k3, e3, by omega⟩
          · rintro σ H3 ⟨v4, v6, v7, c5, es, rfl, k3, e3, he⟩
            exact ⟨_, _, _, _, es, rfl, k3, e3, by omega⟩
        · refine ⟨_, rfl, _, _, rfl, rfl, Or.inr ⟨by decide, by decide⟩, _, rfl, _, _, rfl, rfl, Or.inr ⟨by decide, by decide⟩, _, _, rfl, rfl, _, _, rfl, rfl, Or.inl ⟨_, rfl, _, _, rfl, rfl, (by show (0 : Int) < _; decide), ?_⟩⟩
          refine ⟨_, rfl, by decide, by decide, for_range (lo := 0) (n := 12)
            (fun j σ H3 => ∃ (v4 v5 v6 : Option V) (c7 : Int) (es : List Int), σ = [some (.ref a), some (.int f), some (.int l), some (.ref p), v4, v5, v6, some (.int c7)] ∧ Kp [p] H H3 ∧ H3 p = some (.lst (es.map V.int)) ∧ es.length ≤ 60 * i + j)
            ⟨_, _, _, _, ds, rfl, k2, e2, hd⟩ ?_ ?_⟩
          · rintro j σ H3 hj ⟨v4, v5, v6, c7, es, rfl, k3, e3, he⟩
            refine ⟨_, rfl, _, _, rfl, rfl, Or.inr ⟨by decide, by decide⟩, _, rfl, _, _, rfl, rfl, Or.inl ⟨by decide, by decide⟩, _, _, rfl, rfl, _, _, rfl, rfl, Or.inl ⟨_, rfl, _, _, rfl, rfl, (by show (0 : Int) < _; decide), ?_⟩⟩
            refine ⟨.ref p, rfl, Or.inl ⟨rfl, _, SqL.of e3⟩, _, rfl, _, _, rfl, rfl, ⟨by decide, by decide⟩, Or.inl ⟨_, rfl, _, _, rfl, rfl, (by show (0 : Int) < _; decide), p, _, _, rfl, rfl, e3, small' (by rw [List.length_map]; omega), ?_⟩⟩
            refine ⟨_, _, _, _, es ++ [_], rfl, k3.trans (Kp.put (by simp)), by rw [upd_same, ← app_len], by rw [List.length_append]; show es.length + 1 ≤ _; omega⟩
          · rintro σ H3 ⟨v4, v5, v6, c7, es, rfl, k3, e3, he⟩
            exact ⟨_, _, _, _, es, rfl, k3, e3, by omega⟩
    · rintro σ H2 ⟨v4, v5, v6, v7, ds, rfl, k2, e2, hd⟩
      refine ⟨_, rfl, q H2 p ds (Kp.ownK (Kp.refl H) np k2) np e2 ?_⟩
      omega
/-! ### _law_draw -/
abbrev s__law_draw : Stmt := top 17
theorem sc__law_draw : FnScope ["box", "many", "at"] ["box", "many"] (defScope s__law_draw) := ⟨rfl, rfl, rfl, by decide +kernel, rfl, by decide +kernel, by decide +kernel⟩

/-- the box of drawn numbers: what is left of them is told by n -/
structure Box (H : Hp) (b D : Addr) (ds : List Int) (n : Nat) : Prop where
  hb : H b = some (.lst [.ref D, .int n])
  hD : H D = some (.lst (ds.map V.int))
theorem Box.ne {H : Hp} {b D : Addr} {ds : List Int} {n : Nat} (B : Box H b D ds n) : D ≠ b := by
  refine ne_of B.hD B.hb fun z => ?_
  injection z with z
  cases ds with
  | nil => cases z
  | cons x r =>
    injection z with z1 z2
    cases z1
theorem Box.kp {H H' : Hp} {as : List Addr} {b D : Addr} {ds : List Int} {n : Nat} (B : Box H b D ds n) (k : Kp as H H') (h1 : b ∉ as) (h2 : D ∉ as) : Box H' b D ds n := ⟨k _ _ B.hb h1, k _ _ B.hD h2⟩
def sp_draw : Sp := fun vs H Q _ => ∃ (b D : Addr) (ds : List Int) (n : Nat) (m : Int), vs = [.ref b, .int m] ∧ Box H b D ds n ∧ n ≤ 100000 ∧ 1 ≤ m ∧
  ∀ (r : Int) (H' : Hp), 0 ≤ r → r < m → Kp [b] H H' → Box H' b D ds (n + 1) → Q (.int r) H'
theorem d_draw {f : Addr} {fd : FuncData} (F : L2.Fun K "_law_draw" "_law_draw" s__law_draw f fd) (hm : mg "_law_draw" = some (.ref f)) (bd : Binds K fd ["box", "many"] []) (T : Tx K mg cR cO) : Df P w K mg base 1 "_law_draw" sp_draw := by
  refine df_0 F hm bd sc__law_draw (fun vs H Q E h => ?_) (fun cdv A fr s H vs Q E hr gu h => ?_)
  · obtain ⟨b, D, ds, n, m, rfl, _⟩ := h
    rfl
  · obtain ⟨b, D, ds, n, m, rfl, B, hn, h1, q⟩ := h
    refine ⟨_, (pss_cons (ps_set (i := 2) sc__law_draw.nd rfl (Or.inl rfl) (pe_ix ix_list (pv 0) pe_int (fun _ _ => rfl)))
      (pss_cons (ps_asg (pe_op op_add (pv 2) pe_int) (pg_sub (pv 0) pe_int set_list))
      (pss_cons (ps_if (pt_cmpR op_lt (pv 2) (pe_callB call_len_seq (by rfl) T.b_len PySem.boot_len (pa_cons (pe_ix ix_list (pv 0) pe_int (fun _ _ => rfl)) pa_nil)) (nomark _))
        (pss_one (ps_ret (pe_op op_mod (pe_callTy call_int1 (by rfl) T.b_int (by decide +kernel) (pa_cons (pe_ix ix_list (pe_ix ix_list (pv 0) pe_int (fun _ _ => rfl)) (pv 2) (fun _ _ => rfl)) pa_nil)) (pv 1))))
        pss_nil)
      (pss_one (ps_ret (pe_op op_mod (pe_callTy call_int1 (by rfl) T.b_int (by decide +kernel) (pa_cons (pe_op op_add (pe_op op_mul (pv 2) pe_int) pe_int) pa_nil)) (pv 1))))))), ?_⟩
    refine ⟨_, rfl, b, _, 0 + 1, _, rfl, rfl, SqL.of B.hb, atI_nat (j := 1) rfl, ?_⟩
    refine ⟨_, rfl, _, _, rfl, rfl, _, rfl, b, _, 0 + 1, 1, rfl, rfl, B.hb, rfl, ?_⟩
    have ub : (upd H b (.lst ([V.ref D, .int n].set 1 (.int ((n : Int) + 1))))) b = some (.lst [.ref D, .int ((n + 1 : Nat) : Int)]) := upd_same
    have uD : (upd H b (.lst ([V.ref D, .int n].set 1 (.int ((n : Int) + 1))))) D = some (.lst (ds.map V.int)) := by
      rw [upd_ne B.ne]
      exact B.hD
    have kk : Kp [b] H (upd H b (.lst ([V.ref D, .int n].set 1 (.int ((n : Int) + 1))))) := Kp.put (by simp)
    refine ⟨_, rfl, _, rfl, b, _, 0, _, rfl, rfl, SqL.of ub, atI_nat (j := 0) rfl, D, _, rfl, Or.inl (SqL.of uD), _, _, rfl, rfl, _, rfl, ?_⟩
    refine ite2 (fun c => ?_) (fun c => ?_)
    · have c1 : (n : Int) < ((ds.map V.int).length : Int) := of_decide_eq_true c
      rw [List.length_map] at c1
      have hk : n < ds.length := by omega
      refine ⟨_, rfl, b, _, 0, _, rfl, rfl, SqL.of ub, atI_nat (j := 0) rfl, _, rfl, D, _, _, V.int ds[n], rfl, rfl, SqL.of uD, atI_nat ?_, Or.inl ⟨_, rfl, _, rfl, _, _, rfl, rfl, (by show (0 : Int) < m; omega), ?_⟩⟩
      · rw [List.getElem?_map, List.getElem?_eq_getElem hk]
        rfl
      · exact q _ _ (Int.emod_nonneg _ (by omega)) (Int.emod_lt_of_pos _ (by omega)) kk ⟨ub, uD⟩
    · refine ⟨_, rfl, _, _, rfl, rfl, Or.inr ⟨by decide, by decide⟩, _, _, rfl, rfl, Or.inl ⟨_, rfl, _, rfl, _, _, rfl, rfl, (by show (0 : Int) < m; omega), ?_⟩⟩
      exact q _ _ (Int.emod_nonneg _ (by omega)) (Int.emod_lt_of_pos _ (by omega)) kk ⟨ub, uD⟩
end
end K1
end

section
set_option Elab.async false
set_option linter.all false
set_option maxRecDepth 100000
set_option maxHeartbeats 4000000
namespace K1
open PySem PySem.Spec PyProof.Rows L2 Z RT
theorem _root_.Z.Kp.b2 {b L : Addr} {H H' : Hp} (k : Kp [b] H H') : Kp [b, L] H H' := k.more (by simp)
theorem _root_.Z.Kp.l2 {b L : Addr} {H H' : Hp} (k : Kp [L] H H') : Kp [b, L] H H' := k.more (by simp)
theorem pick3 {x y z : V} {r : Int} (h0 : 0 ≤ r) (h1 : r < 3) : ∃ v, atI [x, y, z] r = some v ∧ (v = x ∨ v = y ∨ v = z) := by
  have c : r = 0 ∨ r = 1 ∨ r = 2 := by omega
  rcases c with rfl | rfl | rfl
  · exact ⟨x, rfl, .inl rfl⟩
  · exact ⟨y, rfl, .inr (.inl rfl)⟩
  · exact ⟨z, rfl, .inr (.inr rfl)⟩
section
variable {P : Program} {w : World} {K : PySem.W.Frag} {mg : Str → Option Value} {base : Heap} {cR cO : Addr}
/-! ### _law_list_is -/
abbrev s__law_list_is : Stmt := top 14
theorem sc__law_list_is : FnScope ["actual", "due"] ["actual", "due"] (defScope s__law_list_is) := ⟨rfl, rfl, rfl, by decide +kernel, rfl, by decide +kernel, by decide +kernel⟩

def sp_list_is (K : PySem.W.Frag) : Sp := fun vs H Q _ => ∃ (a b : Addr) (l : List Int), vs = [.ref a, .ref b] ∧ H a = some (.lst (l.map V.int)) ∧ H b = some (.lst (l.map V.int)) ∧ (∀ z ∈ l, z.natAbs < 10 ^ 12) ∧ l.length ≤ 1000 ∧ ∀ H', Kp [] H H' → Q (.bl true) H'
theorem d_list_is {f : Addr} {fd : FuncData} (F : L2.Fun K "_law_list_is" "_law_list_is" s__law_list_is f fd) (hm : mg "_law_list_is" = some (.ref f)) (bd : Binds K fd ["actual", "due"] []) (T : Tx K mg cR cO) : Df P w K mg base 1 "_law_list_is" (sp_list_is K) := by
  refine df_0 F hm bd sc__law_list_is (fun vs H Q E h => ?_) (fun cdv A fr s H vs Q E hr gu h => ?_)
  · obtain ⟨a, b, l, rfl, _⟩ := h
    rfl
  · obtain ⟨a, b, l, rfl, ea, eb, hz, hl, q⟩ := h
    have ok := Okd.lst hz hl
    refine ⟨_, (pss_one (ps_ret (pe_and (pe_callB call_isi (by rfl) T.b_isinstance (by decide +kernel) (pa_cons (pv 0) (pa_cons (pe_bltn (v := .ty "list") (by rfl) T.b_list (by decide +kernel) rfl) pa_nil))) (pe_one (pe_cmpR op_eq (pe_callB (call_repr gu (hu64 hr)) (by rfl) T.b_repr (by decide +kernel) (pa_cons (pv 0) pa_nil)) (pe_callB (call_repr gu (hu64 hr)) (by rfl) T.b_repr (by decide +kernel) (pa_cons (pe_callTy (call_list_ofK K rfl) (by rfl) T.b_list (by decide +kernel) (pa_cons (pv 1) pa_nil)) pa_nil)) (nomark _)))))), ?_⟩
    refine ⟨_, rfl, _, _, .type "list", .type "list", true, rfl, .ty "list", .base (.lst ea), if_pos (beq_self_eq_true _), true, rfl, iteT ?_⟩
    refine ⟨_, rfl, _, .list (l.map .int), rfl, .lst (SqL.of ea) (dp_ints l), ok.sh, ok.nd, ok.dp, ok.sz, ?_⟩
    refine ⟨_, rfl, b, _, rfl, Or.inl (SqL.of eb), fun p H1 np k ep => ?_⟩
    refine ⟨_, .list (l.map .int), rfl, .lst (SqL.of ep) (dp_ints l), ok.sh, ok.nd, ok.dp, ok.sz, rfl, ?_⟩
    show Q (.bl (decide (V.str (PyData.list (l.map .int)).shown = V.str (PyData.list (l.map .int)).shown))) H1
    rw [decide_eq_true rfl]
    exact q H1 k
/-! ### slots of words -/
structure Sl where
  off : Nat
  size : Nat
  big : Bool
  f : Nat
  w : Nat
  sg : Bool
def Sl.vs (s : Sl) : List V := [.int s.off, .int s.size, .bl s.big, .int s.f, .int s.w, .bl s.sg]
/-- it lies in a word -/
structure Sl.Ok (s : Sl) : Prop where
  size : 1 ≤ s.size ∧ s.size ≤ 4
  off : s.off + s.size ≤ 16
  w : 1 ≤ s.w
  fw : s.f + s.w ≤ 8 * s.size
/-- two slots without a common bit, one ahead of the other -/
def Apart (s t : Sl) : Prop := s.off + s.size ≤ t.off ∨ (s.off = t.off ∧ s.size = t.size ∧ s.big = t.big ∧ s.f + s.w ≤ t.f)
structure Wf (ss : List Sl) : Prop where
  ok : ∀ s ∈ ss, s.Ok
  ap : ss.Pairwise Apart
structure SlAt (H : Hp) (sp : Addr) (ps : List Addr) (ss : List Sl) : Prop where
  lst : H sp = some (.lst (ps.map V.ref))
  len : ps.length = ss.length
  at_ : ∀ (i : Nat) (p : Addr) (s : Sl), ps[i]? = some p → ss[i]? = some s → H p = some (.tup s.vs)
theorem SlAt.kp {H H' : Hp} {as : List Addr} {sp : Addr} {ps : List Addr} {ss : List Sl} (S : SlAt H sp ps ss) (k : Kp as H H') (hl : ∀ a ∈ as, ∃ xs, H a = some (.lst xs)) (hs : sp ∉ as) : SlAt H' sp ps ss :=
  ⟨k _ _ S.lst hs, S.len, fun i p s h1 h2 => by
    have e := S.at_ i p s h1 h2
    refine k _ _ e fun z => ?_
    obtain ⟨xs, ex⟩ := hl p z
    rw [e] at ex
    cases ex⟩
theorem SlAt.k1 {H H' : Hp} {a : Addr} {xs : List V} {sp : Addr} {ps : List Addr} {ss : List Sl} (S : SlAt H sp ps ss) (k : Kp [a] H H') (e : H a = some (.lst xs)) (hs : sp ∉ [a]) : SlAt H' sp ps ss :=
  S.kp k (fun c z => by
    cases List.mem_singleton.mp z
    exact ⟨xs, e⟩) hs
theorem SlAt.k0 {H H' : Hp} {sp : Addr} {ps : List Addr} {ss : List Sl} (S : SlAt H sp ps ss) (k : Kp [] H H') : SlAt H' sp ps ss := S.kp k (fun c z => by cases z) List.not_mem_nil
/-- one slot more -/
theorem SlAt.app {H H' : Hp} {sp p : Addr} {ps : List Addr} {ss : List Sl} {s : Sl} (S : SlAt H sp ps ss) (k : Kp [sp] H H') (e : H' sp = some (.lst (ps.map V.ref ++ [.ref p]))) (ep : H p = some (.tup s.vs)) : SlAt H' sp (ps ++ [p]) (ss ++ [s]) := by
  have keep : ∀ {q : Addr} {t : Sl}, H q = some (.tup t.vs) → H' q = some (.tup t.vs) := fun {q t} eq => k _ _ eq fun z => by
    rw [List.mem_singleton.mp z, S.lst] at eq
    cases eq
  refine ⟨by rw [e, List.map_append]; rfl, by rw [List.length_append, List.length_append, S.len]; rfl, fun i q t h1 h2 => ?_⟩
  by_cases c : i < ps.length
  · rw [List.getElem?_append_left c] at h1
    rw [List.getElem?_append_left (by rw [← S.len]; exact c)] at h2
    exact keep (S.at_ i q t h1 h2)
  · rw [List.getElem?_append_right (by omega)] at h1
    rw [List.getElem?_append_right (by rw [← S.len]; omega)] at h2
    have i0 : i - ps.length = 0 := by
      have z := (List.getElem?_eq_some_iff.mp h1).1
      rw [List.length_singleton] at z
      omega
    rw [i0] at h1
    rw [← S.len, i0] at h2
    obtain rfl := Option.some.inj h1
    obtain rfl := Option.some.inj h2
    exact keep ep
abbrev s__law_slots : Stmt := top 18
theorem sc__law_slots : FnScope ["box", "found", "at", "word", "size", "big", "first", "k", "width"] ["box"] (defScope s__law_slots) := ⟨rfl, rfl, rfl, by decide +kernel, rfl, by decide +kernel, by decide +kernel⟩

def sp_slots : Sp := fun vs H Q _ => ∃ (b D : Addr) (ds : List Int) (n : Nat), vs = [.ref b] ∧ Box H b D ds n ∧ n ≤ 1000 ∧
  ∀ (H' : Hp) (sp : Addr) (ps : List Addr) (ss : List Sl) (m : Nat), H sp = none → SlAt H' sp ps ss → Wf ss → ss.length ≤ 12 → Box H' b D ds m → m ≤ 2000 → Q (.ref sp) H'
/-- the slots so far, the word at 'at' being filled up to bit f -/
structure Fill (ss : List Sl) (at_ size : Nat) (big : Bool) (f : Nat) : Prop where
  wf : Wf ss
  be : ∀ s ∈ ss, s.off + s.size ≤ at_ ∨ (s.off = at_ ∧ s.size = size ∧ s.big = big ∧ s.f + s.w ≤ f)
theorem d_slots {f : Addr} {fd : FuncData} (F : L2.Fun K "_law_slots" "_law_slots" s__law_slots f fd) (hm : mg "_law_slots" = some (.ref f)) (bd : Binds K fd ["box"] []) (T : Tx K mg cR cO) (c__law_draw : Df P w K mg base 1 "_law_draw" sp_draw) : Df P w K mg base 2 "_law_slots" sp_slots := by
  refine df_0 F hm bd sc__law_slots (fun vs H Q E h => ?_) (fun cdv A fr s H vs Q E hr gu h => ?_)
  · obtain ⟨b, D, ds, n, rfl, _⟩ := h
    rfl
  · obtain ⟨b, D, ds, n, rfl, B, hn, q⟩ := h
    refine ⟨_, (pss_cons (ps_set (i := 1) sc__law_slots.nd rfl (Or.inl rfl) (pe_lstK pa_nil))
      (pss_cons (ps_set (i := 2) sc__law_slots.nd rfl (Or.inl rfl) pe_int)
      (pss_cons (ps_for PassesOwn.never rfl (pi_range1 (by rfl) T.b_range (pa_cons pe_int pa_nil)) (pg_name (i := 3) sc__law_slots.nd rfl (Or.inl rfl))
        (pss_cons (ps_set (i := 4) sc__law_slots.nd rfl (Or.inl rfl) (pe_ix (ix_listK K rfl) (pe_lstK (pa_cons pe_int (pa_cons pe_int (pa_cons pe_int pa_nil)))) (pe_f c__law_draw hr (by decide) gu (by rfl) (pa_cons (pv 0) (pa_cons pe_int pa_nil))) (fun _ _ => rfl)))
        (pss_cons (ps_set (i := 5) sc__law_slots.nd rfl (Or.inl rfl) (pe_cmpR op_eq (pe_f c__law_draw hr (by decide) gu (by rfl) (pa_cons (pv 0) (pa_cons pe_int pa_nil))) pe_int (nomark _)))
        (pss_cons (ps_set (i := 6) sc__law_slots.nd rfl (Or.inl rfl) (pe_f c__law_draw hr (by decide) gu (by rfl) (pa_cons (pv 0) (pa_cons pe_int pa_nil))))
        (pss_cons (ps_for PassesOwn.never rfl (pi_range1 (by rfl) T.b_range (pa_cons (pe_op op_add pe_int (pe_f c__law_draw hr (by decide) gu (by rfl) (pa_cons (pv 0) (pa_cons pe_int pa_nil)))) pa_nil)) (pg_name (i := 7) sc__law_slots.nd rfl (Or.inl rfl))
          (pss_cons (ps_set (i := 8) sc__law_slots.nd rfl (Or.inl rfl) (pe_op op_add pe_int (pe_f c__law_draw hr (by decide) gu (by rfl) (pa_cons (pv 0) (pa_cons (pe_op op_mul pe_int (pv 4)) pa_nil)))))
          (pss_one (ps_if (pt_cmpR op_le (pe_op op_add (pv 6) (pv 8)) (pe_op op_mul pe_int (pv 4)) (nomark _))
            (pss_cons (ps_expr (pe_bm PySem.F.plainAttrs_list PySem.F.slot_list_append PySem.F.type_list_append mt_appendK (pv 1) (pa_cons (pe_tupK (pa_cons (pv 2) (pa_cons (pv 4) (pa_cons (pv 5) (pa_cons (pv 6) (pa_cons (pv 8) (pa_cons (pe_cmpR op_eq (pe_f c__law_draw hr (by decide) gu (by rfl) (pa_cons (pv 0) (pa_cons pe_int pa_nil))) pe_int (nomark _)) pa_nil))))))) pa_nil)))
            (pss_one (ps_set (i := 6) sc__law_slots.nd rfl (Or.inl rfl) (pe_op op_add (pe_op op_add (pv 6) (pv 8)) (pe_f c__law_draw hr (by decide) gu (by rfl) (pa_cons (pv 0) (pa_cons pe_int pa_nil)))))))
            pss_nil))))
        (pss_one (ps_set (i := 2) sc__law_slots.nd rfl (Or.inl rfl) (pe_op op_add (pv 2) (pv 4)))))))))
      (pss_one (ps_ret (pv 1)))))), ?_⟩
    refine ⟨by show 0 ≤ 100000; decide, fun L H1 nL k eL => ?_⟩
    have bL : b ≠ L := ne_of_none B.hb nL
    have DL : D ≠ L := ne_of_none B.hD nL
    have nLb : L ∉ [b] := by simpa using bL.symm
    have nbL : b ∉ [L] := by simpa using bL
    have nDL : D ∉ [L] := by simpa using DL
    have B := B.kp k List.not_mem_nil List.not_mem_nil
    refine ⟨_, rfl, by decide, by decide, for_range (lo := 0) (n := 4)
      (fun i σ H => ∃ (v3 v4 v5 v6 v7 v8 : Option V) (at_ m : Nat) (ps : List Addr) (ss : List Sl), σ = [some (.ref b), some (.ref L), some (.int at_), v3, v4, v5, v6, v7, v8] ∧ Box H b D ds m ∧ m ≤ 1000 + 100 * i ∧
        SlAt H L ps ss ∧ Wf ss ∧ (∀ s ∈ ss, s.off + s.size ≤ at_) ∧ at_ ≤ 4 * i ∧ ss.length ≤ 3 * i)
      ⟨none, none, none, none, none, none, 0, n, [], [], rfl, B, by omega, ⟨eL, rfl, fun i p s h => by simp at h⟩, ⟨(fun _ z => nomatch z), .nil⟩, (fun _ z => nomatch z), Nat.zero_le _, Nat.zero_le _⟩ ?_ ?_⟩
    · rintro i σ H hti ⟨v3, v4, v5, v6, v7, v8, at_, m, ps, ss, rfl, B, hm, S, W, hat, hat4, hss⟩
      -- size
      refine ⟨by show 3 ≤ 100000; decide, fun t H2 nt k et => ?_⟩
      have nt : t ∉ [b] := fun z => ne_of_none B.hb nt (List.mem_singleton.mp z).symm
      have S := S.k0 k
      have B := B.kp k List.not_mem_nil List.not_mem_nil
      refine ⟨_, rfl, b, D, ds, m, 3, rfl, B, by omega, by decide, fun r H3 r0 r1 k B' => ?_⟩
      have S := S.k1 k B.hb nLb
      have et := k _ _ et nt
      have B := B'
      obtain ⟨v, ev, hv⟩ := pick3 (x := V.int 1) (y := .int 2) (z := .int 4) r0 r1
      obtain ⟨size, rfl, hs⟩ : ∃ s : Nat, v = V.int s ∧ (s = 1 ∨ s = 2 ∨ s = 4) := by
        rcases hv with rfl | rfl | rfl
        · exact ⟨1, rfl, .inl rfl⟩
        · exact ⟨2, rfl, .inr (.inl rfl)⟩
        · exact ⟨4, rfl, .inr (.inr rfl)⟩
      refine ⟨t, _, _, _, rfl, rfl, SqL.of et, ev, ?_⟩
      clear ev hv et nt r0 r1
      -- big
      refine ⟨_, rfl, b, D, ds, m + 1, 2, rfl, B, by omega, by decide, fun g1 H4 r0 r1 k B' => ⟨rfl, ?_⟩⟩
      have S := S.k1 k B.hb nLb
      have B := B'
      obtain ⟨big, hbig⟩ : ∃ c : Bool, decide (V.int g1 = V.int 0) = c := ⟨_, rfl⟩
      show gName 5 (V.bl (decide (V.int g1 = V.int 0))) _ _ _
      rw [hbig]
      clear hbig r0 r1
      -- first
      refine ⟨_, rfl, b, D, ds, m + 2, 4, rfl, B, by omega, by decide, fun r H5 r0 r1 k B' => ?_⟩
      have S := S.k1 k B.hb nLb
      have B := B'
      obtain ⟨f0, rfl⟩ : ∃ f : Nat, r = (f : Int) := ⟨r.toNat, by omega⟩
      -- how many
      refine ⟨_, rfl, b, D, ds, m + 3, 3, rfl, B, by omega, by decide, fun r H6 q0 q1 k B' => ?_⟩
      have S := S.k1 k B.hb nLb
      have B := B'
      refine ⟨_, _, rfl, rfl, 1 + r, rfl, by omega, by omega, for_range (lo := 0) (n := (1 + r).toNat)
        (fun j σ H => ∃ (v7 v8 : Option V) (f m2 : Nat) (ps : List Addr) (ss : List Sl), σ = [some (.ref b), some (.ref L), some (.int at_), some (.int (0 + (i : Nat))), some (.int size), some (.bl big), some (.int f), v7, v8] ∧ Box H b D ds m2 ∧ m2 ≤ m + 4 + 10 * j ∧
          SlAt H L ps ss ∧ Fill ss at_ size big f ∧ ss.length ≤ 3 * i + j)
        ⟨_, _, f0, m + 4, ps, ss, rfl, B, by omega, S, ⟨W, fun s hs => .inl (hat s hs)⟩, by omega⟩ ?_ ?_⟩
      · rintro j σ H hj ⟨v7, v8, f, m2, ps, ss, rfl, B, hm2, S, Fi, hss⟩
        -- width
        refine ⟨_, rfl, _, rfl, _, _, rfl, rfl, Or.inl ⟨by decide, by decide⟩, b, D, ds, m2, 8 * (size : Int), rfl, B, by omega, by omega, fun r2 H7 r0 r1 k B' => ?_⟩
        have S := S.k1 k B.hb nLb
        have B := B'
        refine ⟨_, _, rfl, rfl, ?_⟩
        obtain ⟨w, hw⟩ : ∃ w : Nat, 1 + r2 = (w : Int) := ⟨(1 + r2).toNat, by omega⟩
        show gName 8 (V.int (1 + r2)) _ _ _
        rw [hw]
        have hw1 : 1 ≤ w := by omega
        clear hw r0 r1
        refine ⟨_, rfl, _, rfl, _, _, rfl, rfl, _, rfl, _, _, rfl, rfl, Or.inl ⟨by decide, by decide⟩, _, _, rfl, rfl, _, rfl, ?_⟩
        refine ite2 (fun c => ?_) (fun c => ?_)
        · have c1 : (f : Int) + (w : Int) ≤ 8 * (size : Int) := of_decide_eq_true c
          refine ⟨.ref L, rfl, Or.inl ⟨rfl, _, SqL.of S.lst⟩, ?_⟩
          refine ⟨_, rfl, _, rfl, _, rfl, _, rfl, _, rfl, _, rfl, b, D, ds, m2 + 1, 2, rfl, B, by omega, by decide, fun g2 H8 r0 r1 k B' => ⟨rfl, by show 6 ≤ 100000; decide, fun p H9 np k9 ep => ?_⟩⟩
          have S := S.k1 k B.hb nLb
          have S := S.k0 k9
          have B := B'.kp k9 List.not_mem_nil List.not_mem_nil
          obtain ⟨sg, hsg⟩ : ∃ c : Bool, decide (V.int g2 = V.int 0) = c := ⟨_, rfl⟩
          have ep : H9 p = some (.tup (Sl.vs ⟨at_, size, big, f, w, sg⟩)) := by
            rw [ep, ← hsg]
            rfl
          refine ⟨L, _, _, rfl, rfl, S.lst, by rw [List.length_map, S.len]; omega, fun HA k eL => ?_⟩
          have S := S.app k eL ep
          have B := B.kp k nbL nDL
          have Wn : Wf (ss ++ [⟨at_, size, big, f, w, sg⟩]) := by
            refine ⟨fun s hs => ?_, List.pairwise_append.mpr ⟨Fi.wf.ap, List.pairwise_singleton _ _, fun s hs t ht => ?_⟩⟩
            · rcases List.mem_append.mp hs with hs | hs
              · exact Fi.wf.ok s hs
              · rw [List.mem_singleton.mp hs]
                exact ⟨⟨by show 1 ≤ size; omega, by show size ≤ 4; omega⟩, by show at_ + size ≤ 16; omega, hw1, by show f + w ≤ 8 * size; omega⟩
            · rw [List.mem_singleton.mp ht]
              exact Fi.be s hs
          refine ⟨_, rfl, _, rfl, _, _, rfl, rfl, _, rfl, b, D, ds, m2 + 2, 3, rfl, B, by omega, by decide, fun r3 HB q0 q1 k B' => ?_⟩
          have S := S.k1 k B.hb nLb
          refine ⟨_, _, rfl, rfl, ?_⟩
          obtain ⟨f2, hf2⟩ : ∃ x : Nat, (f : Int) + (w : Int) + r3 = (x : Int) := ⟨((f : Int) + (w : Int) + r3).toNat, by omega⟩
          show gName 6 (V.int ((f : Int) + (w : Int) + r3)) _ _ _
          rw [hf2]
          refine ⟨_, _, f2, m2 + 3, _, ss ++ [⟨at_, size, big, f, w, sg⟩], rfl, B', by omega, S, ⟨Wn, fun s hs => ?_⟩, by rw [List.length_append]; show _ + 1 ≤ _; omega⟩
          rcases List.mem_append.mp hs with hs | hs
          · rcases Fi.be s hs with z | ⟨z1, z2, z3, z4⟩
            · exact .inl z
            · exact .inr ⟨z1, z2, z3, by omega⟩
          · rw [List.mem_singleton.mp hs]
            exact .inr ⟨rfl, rfl, rfl, by show f + w ≤ _; omega⟩
        · exact ⟨_, _, f, m2 + 1, ps, ss, rfl, B, by omega, S, Fi, by omega⟩
      · rintro σ H ⟨v7, v8, f, m2, ps, ss, rfl, B, hm2, S, Fi, hss⟩
        refine ⟨_, rfl, _, rfl, _, _, rfl, rfl, ?_⟩
        have e2 : (at_ : Int) + (size : Int) = ((at_ + size : Nat) : Int) := by omega
        show gName 2 (V.int ((at_ : Int) + (size : Int))) _ _ _
        rw [e2]
        refine ⟨_, _, _, _, _, _, at_ + size, m2, ps, ss, rfl, B, by omega, S, Fi.wf, fun s hs => ?_, by omega, by omega⟩
        rcases Fi.be s hs with z | ⟨z1, z2, z3, z4⟩
        · omega
        · omega
    · rintro σ H2 ⟨v3, v4, v5, v6, v7, v8, at_, m, ps, ss, rfl, B, hm, S, W, hat, hat4, hss⟩
      exact ⟨_, rfl, q H2 L ps ss m nL S W hss B (by omega)⟩
end
end K1
end

section
set_option Elab.async false
set_option linter.all false
set_option maxRecDepth 100000
set_option maxHeartbeats 4000000
namespace K1
open PySem PySem.Spec PyProof.Rows L2 Z RT
/-! ### the mathematics: what a write leaves -/
theorem bits_at (w : Nat) : ∀ (N : Int) (i : Nat), i < w → (MZ.bits N w)[i]? = some (N / 2 ^ i % 2) := by
  induction w with
  | zero => intro N i h; omega
  | succ w ih =>
    intro N i h
    cases i with
    | zero =>
      show some (N % 2) = some (N / 1 % 2)
      rw [Int.ediv_one]
    | succ i =>
      show (MZ.bits (N / 2) w)[i]? = _
      rw [ih _ i (by omega), Nat.add_comm i 1, ← MZ.div_div N 1 i]
      rfl
theorem putN_bit {N v : Int} {f w i : Nat} (h : i < f ∨ f + w ≤ i) : MZ.putN N f w v / 2 ^ i % 2 = N / 2 ^ i % 2 := by
  have h1 := bits_at (f + w + (i + 1)) (MZ.putN N f w v) i (by omega)
  have h2 := bits_at (f + w + (i + 1)) N i (by omega)
  rw [MZ.putN_bits N v (show f + w ≤ f + w + (i + 1) by omega), Nat.add_sub_cancel_left] at h1
  rw [MZ.bits_add (f + w), MZ.bits_add f] at h2
  have l1 : (MZ.bits N f ++ MZ.bits v w).length = f + w := by rw [List.length_append, MZ.bits_len, MZ.bits_len]
  have l2 : (MZ.bits N f ++ MZ.bits (N / 2 ^ f) w).length = f + w := by rw [List.length_append, MZ.bits_len, MZ.bits_len]
  rcases h with h | h
  · rw [List.append_assoc, List.getElem?_append_left (by rw [MZ.bits_len]; exact h)] at h1 h2
    exact Option.some.inj (h1.symm.trans h2)
  · rw [List.getElem?_append_right (by omega), l1] at h1
    rw [List.getElem?_append_right (by omega), l2] at h2
    exact Option.some.inj (h1.symm.trans h2)
/-- numbers with the same bits there are read alike -/
theorem slot_same {N M : Int} {f w : Nat} (h : ∀ i, f ≤ i → i < f + w → N / 2 ^ i % 2 = M / 2 ^ i % 2) : N / 2 ^ f % 2 ^ w = M / 2 ^ f % 2 ^ w := by
  rw [← MZ.val_bits w, ← MZ.val_bits w]
  congr 1
  apply List.ext_getElem?
  intro k
  by_cases c : k < w
  · rw [bits_at w _ k c, bits_at w _ k c, MZ.div_div, MZ.div_div, h (f + k) (by omega) (by omega)]
  · rw [List.getElem?_eq_none (by rw [MZ.bits_len]; omega), List.getElem?_eq_none (by rw [MZ.bits_len]; omega)]
theorem putN_slot (N v : Int) (f w : Nat) : MZ.putN N f w v / 2 ^ f % 2 ^ w = v % 2 ^ w := by
  have hf := MZ.pow_pos f
  have a0 := Int.emod_nonneg N (Int.ne_of_gt hf)
  have a1 := Int.emod_lt_of_pos N hf
  unfold MZ.putN
  rw [Int.add_mul_ediv_left _ _ (Int.ne_of_gt hf), Int.ediv_eq_zero_of_lt a0 a1, Int.zero_add, Int.add_mul_emod_self_left, Int.emod_emod_of_dvd _ (Int.dvd_refl _)]
theorem slotV_put {X v : Int} {f w : Nat} {sg : Bool} (hw : 1 ≤ w) (e : X / 2 ^ f % 2 ^ w = v % 2 ^ w) (h0 : lo w sg ≤ v) (h1 : v ≤ hi w sg) : slotV X f w sg = v := by
  obtain ⟨u, rfl⟩ := Nat.exists_eq_add_of_le hw
  rw [Nat.add_comm 1 u] at *
  have p := MZ.pow_pos u
  have p2 := MZ.pow_pos (u + 1)
  have s2 := MZ.pow_s u
  unfold slotV
  rw [e]
  unfold lo at h0
  unfold hi at h1 ⊢
  cases sg with
  | false =>
    have h0 : 0 ≤ v := h0
    have h1 : v ≤ 2 ^ (u + 1) - 1 := h1
    show (if v % 2 ^ (u + 1) ≤ 2 ^ (u + 1) - 1 then _ else _) = v
    rw [Int.emod_eq_of_lt h0 (by omega), if_pos (by omega)]
  | true =>
    have h0 : -(2 ^ u) ≤ v := h0
    have h1 : v ≤ 2 ^ u - 1 := h1
    show (if v % 2 ^ (u + 1) ≤ 2 ^ u - 1 then _ else _) = v
    by_cases c : 0 ≤ v
    · rw [Int.emod_eq_of_lt c (by omega), if_pos (by omega)]
    · have m : v % 2 ^ (u + 1) = v + 2 ^ (u + 1) := by
        rw [← Int.add_emod_right v (2 ^ (u + 1)), Int.emod_eq_of_lt (by omega) (by omega)]
      rw [m, if_neg (by omega)]
      omega
def rd (data : List Int) (s : Sl) : Int := slotV (MZ.num (rowsOf data s.off s.size s.big)) s.f s.w s.sg
def put (data : List Int) (s : Sl) (v : Int) : List Int := wr data s.off s.size s.big (MZ.putN (MZ.num (rowsOf data s.off s.size s.big)) s.f s.w v)
theorem ordr_ordr (big : Bool) (l : List Int) : ordr big (ordr big l) = l := by
  unfold ordr
  cases big
  · rfl
  · exact List.reverse_reverse l
theorem rows_wr {data : List Int} {off size : Nat} {big : Bool} {N : Int} (h : off + size ≤ data.length) : rowsOf (wr data off size big N) off size big = MZ.bytes N size := by
  have l1 : (data.take off).length = off := by
    rw [List.length_take]
    omega
  have e : ((wr data off size big N).drop off).take size = ordr big (MZ.bytes N size) := by
    unfold wr
    rw [List.append_assoc, List.drop_left' l1, List.take_left' (by rw [ordr_len, MZ.bytes_len])]
  have z := ordr_ordr big (MZ.bytes N size)
  unfold rowsOf
  rw [e]
  exact z
theorem p256_2 (s : Nat) : (256 : Int) ^ s = 2 ^ (8 * s) := by
  rw [Int.pow_mul]
  rfl
/-- the bit of a number below a power -/
theorem mod_bit {N : Int} {W i : Nat} (h : i < W) : N % 2 ^ W / 2 ^ i % 2 = N / 2 ^ i % 2 := by
  have h1 := bits_at W (N % 2 ^ W) i h
  rw [MZ.bits_emod, bits_at W N i h] at h1
  exact (Option.some.inj h1).symm
theorem wr_at {data : List Int} {off size : Nat} {big : Bool} {N : Int} (h : off + size ≤ data.length) {k : Nat} (hk : k < off ∨ off + size ≤ k) : (wr data off size big N)[k]? = data[k]? := by
  rw [← wrf_all big N h, wrf_at data off size big N h size (Nat.le_refl _) k, if_neg (by omega)]
theorem rows_apart {data : List Int} {off size off2 size2 : Nat} {big big2 : Bool} {N : Int} (h : off + size ≤ data.length) (ap : off + size ≤ off2 ∨ off2 + size2 ≤ off) : rowsOf (wr data off size big N) off2 size2 big2 = rowsOf data off2 size2 big2 := by
  have e : ((wr data off size big N).drop off2).take size2 = (data.drop off2).take size2 := by
    apply List.ext_getElem?
    intro k
    by_cases c : k < size2
    · rw [List.getElem?_take_of_lt c, List.getElem?_take_of_lt c, List.getElem?_drop, List.getElem?_drop, wr_at h (by omega)]
    · rw [List.getElem?_eq_none (by rw [List.length_take]; omega), List.getElem?_eq_none (by rw [List.length_take]; omega)]
  unfold rowsOf
  rw [e]
theorem rd_put {data : List Int} {s : Sl} {v : Int} (ok : s.Ok) (hd : data.length = 16) (h0 : lo s.w s.sg ≤ v) (h1 : v ≤ hi s.w s.sg) : rd (put data s v) s = v := by
  have o := ok.off
  have fw := ok.fw
  refine slotV_put ok.w ?_ h0 h1
  unfold put
  rw [rows_wr (by omega), MZ.num_bytes, p256_2, ← putN_slot (MZ.num (rowsOf data s.off s.size s.big)) v s.f s.w]
  exact slot_same fun i _ _ => mod_bit (by omega)
theorem rd_other {data : List Int} {s t : Sl} {v : Int} (ok : s.Ok) (ok2 : t.Ok) (hd : data.length = 16) (ap : Apart s t ∨ Apart t s) : rd (put data s v) t = rd data t := by
  have o := ok.off
  have fw := ok.fw
  have fw2 := ok2.fw
  have same : (s.off = t.off ∧ s.size = t.size ∧ s.big = t.big ∧ (s.f + s.w ≤ t.f ∨ t.f + t.w ≤ s.f)) → rd (put data s v) t = rd data t := by
    rintro ⟨e1, e2, e3, h⟩
    unfold rd put slotV
    have e : MZ.num (rowsOf (wr data s.off s.size s.big (MZ.putN (MZ.num (rowsOf data s.off s.size s.big)) s.f s.w v)) t.off t.size t.big) / 2 ^ t.f % 2 ^ t.w = MZ.num (rowsOf data t.off t.size t.big) / 2 ^ t.f % 2 ^ t.w := by
      rw [← e1, ← e2, ← e3, rows_wr (by omega), MZ.num_bytes, p256_2]
      refine slot_same fun i h1 h2 => ?_
      rw [mod_bit (by omega), putN_bit (by omega)]
    rw [e]
  have apart : (s.off + s.size ≤ t.off ∨ t.off + t.size ≤ s.off) → rd (put data s v) t = rd data t := fun h => by
    unfold rd put
    rw [rows_apart (by omega) h]
  rcases ap with (h | ⟨e1, e2, e3, h⟩) | (h | ⟨e1, e2, e3, h⟩)
  · exact apart (.inl h)
  · exact same ⟨e1, e2, e3, .inl h⟩
  · exact apart (.inr h)
  · exact same ⟨e1.symm, e2.symm, e3.symm, .inr h⟩
/-! ### the free bits -/
def pos (s : Sl) (j : Nat) : Int := ((s.off : Int) + (if s.big then (s.size : Int) - 1 - ((s.f : Int) + (j : Int)) / 8 else ((s.f : Int) + (j : Int)) / 8)) * 8 + ((s.f : Int) + (j : Int)) % 8
def tkn (ss : List Sl) : List Int := ss.flatMap fun s => (List.range s.w).map (pos s)
def fB (x : Int) (at_ : Nat) (tk : List Int) : Nat → List Int
  | 0 => []
  | m + 1 => fB x at_ tk m ++ (if (8 * (at_ : Int) + (m : Int)) ∈ tk then [] else [x / 2 ^ m % 2])
def fA (data tk : List Int) : Nat → List Int
  | 0 => []
  | i + 1 => fA data tk i ++ fB (data.getD i 0) i tk 8
theorem fB_len (x : Int) (at_ : Nat) (tk : List Int) : ∀ m, (fB x at_ tk m).length ≤ m
  | 0 => Nat.le_refl _
  | m + 1 => by
    show (fB x at_ tk m ++ _).length ≤ _
    have h := fB_len x at_ tk m
    rw [List.length_append]
    split
    · show _ + 0 ≤ _
      omega
    · show _ + 1 ≤ _
      omega
theorem fA_len (data tk : List Int) : ∀ i, (fA data tk i).length ≤ 8 * i
  | 0 => Nat.le_refl _
  | i + 1 => by
    show (fA data tk i ++ _).length ≤ _
    have h := fA_len data tk i
    have h2 := fB_len (data.getD i 0) i tk 8
    rw [List.length_append]
    omega
theorem fB_same {x y : Int} {at_ : Nat} {tk : List Int} : ∀ m, (∀ (j : Nat), j < m → ¬ (8 * (at_ : Int) + (j : Int)) ∈ tk → x / 2 ^ j % 2 = y / 2 ^ j % 2) → fB x at_ tk m = fB y at_ tk m
  | 0, _ => rfl
  | m + 1, h => by
    show fB x at_ tk m ++ _ = fB y at_ tk m ++ _
    rw [fB_same m fun j hj => h j (by omega)]
    by_cases c : (8 * (at_ : Int) + (m : Int)) ∈ tk
    · rw [if_pos c, if_pos c]
    · rw [if_neg c, if_neg c, h m (by omega) c]
theorem fA_same {d e tk : List Int} : ∀ i, (∀ (k : Nat), k < i → ∀ (j : Nat), j < 8 → ¬ (8 * (k : Int) + (j : Int)) ∈ tk → d.getD k 0 / 2 ^ j % 2 = e.getD k 0 / 2 ^ j % 2) → fA d tk i = fA e tk i
  | 0, _ => rfl
  | i + 1, h => by
    show fA d tk i ++ _ = fA e tk i ++ _
    rw [fA_same i fun k hk => h k (by omega), fB_same 8 fun j hj => h i (by omega) j hj]
theorem byte_bit {X : Int} {i j : Nat} (hj : j < 8) : X / 256 ^ i % 256 / 2 ^ j % 2 = X / 2 ^ (8 * i + j) % 2 := by
  rw [p256_2, show (256 : Int) = 2 ^ 8 from rfl, mod_bit hj, MZ.div_div]
theorem pos_at (s : Sl) {i j k n : Nat} (hj : j < 8) (hi : i < s.size) (hn : s.f + n = 8 * i + j) (h0 : s.off ≤ k) (h1 : k < s.off + s.size) (hik : i = (if s.big then s.off + s.size - 1 - k else k - s.off)) : pos s n = 8 * (k : Int) + (j : Int) := by
  obtain ⟨off, size, big, f, w, sg⟩ := s
  have e3 : (f : Int) + (n : Int) = 8 * (i : Int) + (j : Int) := by
    have hn : f + n = 8 * i + j := hn
    omega
  have h0 : off ≤ k := h0
  have h1 : k < off + size := h1
  have hi : i < size := hi
  unfold pos
  show ((off : Int) + (if big then (size : Int) - 1 - ((f : Int) + (n : Int)) / 8 else ((f : Int) + (n : Int)) / 8)) * 8 + ((f : Int) + (n : Int)) % 8 = _
  rw [e3]
  clear e3 hn
  cases big
  · have hik : i = k - off := hik
    show ((off : Int) + (8 * (i : Int) + (j : Int)) / 8) * 8 + (8 * (i : Int) + (j : Int)) % 8 = _
    omega
  · have hik : i = off + size - 1 - k := hik
    show ((off : Int) + ((size : Int) - 1 - (8 * (i : Int) + (j : Int)) / 8)) * 8 + (8 * (i : Int) + (j : Int)) % 8 = _
    omega
theorem free_put {data : List Int} {s : Sl} {v : Int} {tk : List Int} (ok : s.Ok) (hd : data.length = 16) (hB : MZ.B8 data) (hin : ∀ j, j < s.w → pos s j ∈ tk) : fA (put data s v) tk 16 = fA data tk 16 := by
  have o := ok.off
  have fw := ok.fw
  refine fA_same 16 fun k hk j hj hn => ?_
  have hl : s.off + s.size ≤ data.length := by omega
  by_cases c : k < s.off ∨ s.off + s.size ≤ k
  · unfold put
    rw [List.getD_eq_getElem?_getD, List.getD_eq_getElem?_getD, wr_at hl c]
  · -- within the word
    have c1 : s.off ≤ k ∧ k < s.off + s.size := by omega
    obtain ⟨i, hi, hik⟩ : ∃ i, i < s.size ∧ i = (if s.big then s.off + s.size - 1 - k else k - s.off) := ⟨_, by cases s.big <;> simp <;> omega, rfl⟩
    have e1 : (put data s v).getD k 0 = MZ.putN (MZ.num (rowsOf data s.off s.size s.big)) s.f s.w v / 256 ^ i % 256 := by
      unfold put
      rw [List.getD_eq_getElem?_getD, ← wrf_all s.big _ hl, wrf_at data s.off s.size s.big _ hl s.size (Nat.le_refl _) k, if_pos ⟨c1.1, c1.2, by rw [← hik]; exact hi⟩, ← hik]
      rfl
    have e2 : data.getD k 0 = MZ.num (rowsOf data s.off s.size s.big) / 256 ^ i % 256 := by
      have r1 := rows_at (data := data) s.big hl hi
      have r2 := MZ.bytes_num _ (B8.rows (off := s.off) (size := s.size) (big := s.big) hB)
      rw [rows_len s.big hl] at r2
      have r3 := MZ.bytes_emod256 s.size (MZ.num (rowsOf data s.off s.size s.big)) i hi
      rw [r2, r1] at r3
      have e : (if s.big = true then s.off + s.size - 1 - i else s.off + i) = k := by
        rw [hik]
        cases s.big <;> simp <;> omega
      rw [e] at r3
      rw [List.getD_eq_getElem?_getD, r3]
      rfl
    rw [e1, e2, byte_bit hj, byte_bit hj]
    refine putN_bit ?_
    by_cases h1 : 8 * i + j < s.f
    · exact .inl h1
    · by_cases h2 : s.f + s.w ≤ 8 * i + j
      · exact .inr h2
      · refine (hn ?_).elim
        have z := hin (8 * i + j - s.f) (by omega)
        rw [pos_at s hj hi (show s.f + (8 * i + j - s.f) = 8 * i + j by omega) c1.1 c1.2 hik] at z
        exact z
theorem tkn_in {ss : List Sl} {s : Sl} (h : s ∈ ss) {j : Nat} (hj : j < s.w) : pos s j ∈ tkn ss :=
  List.mem_flatMap.mpr ⟨s, h, List.mem_map.mpr ⟨j, List.mem_range.mpr hj, rfl⟩⟩
theorem put_B8 {data : List Int} {s : Sl} {v : Int} (h : MZ.B8 data) : MZ.B8 (put data s v) := by
  intro x hx
  unfold put wr at hx
  rcases List.mem_append.mp hx with hx | hx
  · rcases List.mem_append.mp hx with hx | hx
    · exact h x (List.mem_of_mem_take hx)
    · refine MZ.bytes_B8 s.size (MZ.putN (MZ.num (rowsOf data s.off s.size s.big)) s.f s.w v) x ?_
      unfold ordr at hx
      cases hb : s.big with
      | true =>
        rw [hb] at hx
        exact List.mem_reverse.mp hx
      | false =>
        rw [hb] at hx
        exact hx
  · exact h x (List.mem_of_mem_drop hx)
theorem tkn_len : ∀ (ss : List Sl), (∀ s ∈ ss, s.Ok) → (tkn ss).length ≤ 32 * ss.length
  | [], _ => Nat.le_refl _
  | s :: r, h => by
    have ih := tkn_len r fun x hx => h x (List.mem_cons_of_mem _ hx)
    have ok := h s List.mem_cons_self
    have fw := ok.fw
    have sz := ok.size.2
    show (((List.range s.w).map (pos s)) ++ tkn r).length ≤ _
    rw [List.length_append, List.length_map, List.length_range, List.length_cons]
    omega
theorem inV_ints (z : Int) (l : List Int) : inV (V.int z) (l.map V.int) = decide (z ∈ l) := by
  unfold inV
  induction l with
  | nil => rfl
  | cons x r ih =>
    show (eqV (V.int x) (V.int z) || (r.map V.int).any fun y => eqV y (V.int z)) = _
    rw [ih]
    show ((x == z) || decide (z ∈ r)) = decide (z ∈ x :: r)
    by_cases e : x = z
    · subst e
      simp
    · have e2 : ¬ z = x := fun q => e q.symm
      simp [e, e2]
theorem flat_ints (l : List Int) : (l.map V.int).all flatV = true := by
  rw [List.all_map]
  exact List.all_eq_true.mpr fun _ _ => rfl
end K1
end

section
set_option Elab.async false
set_option linter.all false
set_option maxRecDepth 100000
set_option maxHeartbeats 4000000
namespace K1
open PySem PySem.Spec PyProof.Rows L2 Z RT
section
variable {P : Program} {w : World} {K : PySem.W.Frag} {mg : Str → Option Value} {base : Heap} {cR cO : Addr}
/-! ### _law_free_bits -/
abbrev s__law_free_bits : Stmt := top 19
theorem sc__law_free_bits : FnScope ["data", "slots", "taken", "offset", "size", "big", "first", "width", "signed", "bit", "byte", "found", "at"] ["data", "slots"] (defScope s__law_free_bits) := ⟨rfl, rfl, rfl, by decide +kernel, rfl, by decide +kernel, by decide +kernel⟩

def sp_free (K : PySem.W.Frag) : Sp := fun vs H Q _ => ∃ (a sp : Addr) (data : List Int) (ps : List Addr) (ss : List Sl), vs = [.ref a, .ref sp] ∧ SqL K H a (data.map V.int) ∧ data.length = 16 ∧ SlAt H sp ps ss ∧ Wf ss ∧ ss.length ≤ 12 ∧
  ∀ H' p, Kp [] H H' → H p = none → H' p = some (.lst ((fA data (tkn ss) 16).map V.int)) → Q (.ref p) H'
theorem d_free {f : Addr} {fd : FuncData} (F : L2.Fun K "_law_free_bits" "_law_free_bits" s__law_free_bits f fd) (hm : mg "_law_free_bits" = some (.ref f)) (bd : Binds K fd ["data", "slots"] []) (T : Tx K mg cR cO) : Df P w K mg base 1 "_law_free_bits" (sp_free K) := by
  refine df_0 F hm bd sc__law_free_bits (fun vs H Q E h => ?_) (fun cdv A fr s H vs Q E hr gu h => ?_)
  · obtain ⟨a, sp, data, ps, ss, rfl, _⟩ := h
    rfl
  · obtain ⟨a, sp, data, ps, ss, rfl, hS, hd, S, W, hss, q⟩ := h
    refine ⟨_, (pss_cons (ps_set (i := 2) sc__law_free_bits.nd rfl (Or.inl rfl) (pe_lstK pa_nil))
      (pss_cons (ps_for PassesOwn.never rfl (pi_listK K rfl (pv 1)) (pg_tup (by rfl) (pgs_cons (pg_name (i := 3) sc__law_free_bits.nd rfl (Or.inl rfl)) (pgs_cons (pg_name (i := 4) sc__law_free_bits.nd rfl (Or.inl rfl)) (pgs_cons (pg_name (i := 5) sc__law_free_bits.nd rfl (Or.inl rfl)) (pgs_cons (pg_name (i := 6) sc__law_free_bits.nd rfl (Or.inl rfl)) (pgs_cons (pg_name (i := 7) sc__law_free_bits.nd rfl (Or.inl rfl)) (pgs_cons (pg_name (i := 8) sc__law_free_bits.nd rfl (Or.inl rfl)) pgs_nil)))))))
        (pss_one (ps_for PassesOwn.never rfl (pi_range2 (by rfl) T.b_range (pa_cons (pv 6) (pa_cons (pe_op op_add (pv 6) (pv 7)) pa_nil))) (pg_name (i := 9) sc__law_free_bits.nd rfl (Or.inl rfl))
          (pss_cons (ps_set (i := 10) sc__law_free_bits.nd rfl (Or.inl rfl) (pe_op op_fdiv (pv 9) pe_int))
          (pss_cons (ps_if (pt_val (pv 5))
            (pss_one (ps_set (i := 10) sc__law_free_bits.nd rfl (Or.inl rfl) (pe_op op_sub (pe_op op_sub (pv 4) pe_int) (pv 10))))
            pss_nil)
          (pss_one (ps_expr (pe_bm PySem.F.plainAttrs_list PySem.F.slot_list_append PySem.F.type_list_append mt_appendK (pv 2) (pa_cons (pe_op op_add (pe_op op_mul (pe_op op_add (pv 3) (pv 10)) pe_int) (pe_op op_mod (pe_callTy call_int1 (by rfl) T.b_int (by decide +kernel) (pa_cons (pv 9) pa_nil)) pe_int)) pa_nil)))))))))
      (pss_cons (ps_set (i := 11) sc__law_free_bits.nd rfl (Or.inl rfl) (pe_lstK pa_nil))
      (pss_cons (ps_for PassesOwn.never rfl (pi_range1 (by rfl) T.b_range (pa_cons (pe_callB (call_len_seqK K rfl) (by rfl) T.b_len PySem.boot_len (pa_cons (pv 0) pa_nil)) pa_nil)) (pg_name (i := 12) sc__law_free_bits.nd rfl (Or.inl rfl))
        (pss_cons (ps_set (i := 10) sc__law_free_bits.nd rfl (Or.inl rfl) (pe_ix (ix_listK K rfl) (pv 0) (pv 12) (fun _ _ => rfl)))
        (pss_one (ps_for PassesOwn.never rfl (pi_range1 (by rfl) T.b_range (pa_cons pe_int pa_nil)) (pg_name (i := 9) sc__law_free_bits.nd rfl (Or.inl rfl))
          (pss_cons (ps_if (pt_cmpR op_notIn_seq (pe_op op_add (pe_op op_mul pe_int (pv 12)) (pv 9)) (pv 2) (by rfl))
            (pss_one (ps_expr (pe_bm PySem.F.plainAttrs_list PySem.F.slot_list_append PySem.F.type_list_append mt_appendK (pv 11) (pa_cons (pe_op op_mod (pe_callTy call_int1 (by rfl) T.b_int (by decide +kernel) (pa_cons (pv 10) pa_nil)) pe_int) pa_nil))))
            pss_nil)
          (pss_one (ps_set (i := 10) sc__law_free_bits.nd rfl (Or.inl rfl) (pe_op op_fdiv (pv 10) pe_int))))))))
      (pss_one (ps_ret (pv 11))))))), ?_⟩
    refine ⟨by show 0 ≤ 100000; decide, fun tk H1 ntk k1 etk => ?_⟩
    have tl := tkn_len ss W.ok
    refine ⟨_, rfl, sp, rfl, ⟨_, SqL.of (k1.at S.lst)⟩, for_list (K := K) (a := sp) (xs := ps.map V.ref)
      (fun i σ H2 => ∃ (v3 v4 v5 v6 v7 v8 v9 v10 : Option V), σ = [some (.ref a), some (.ref sp), some (.ref tk), v3, v4, v5, v6, v7, v8, v9, v10, none, none] ∧ Kp [tk] H1 H2 ∧ H2 tk = some (.lst ((tkn (ss.take i)).map V.int)))
      ⟨_, _, _, _, _, _, _, _, rfl, Kp.refl _, etk⟩ ?_ ?_ ?_⟩
    · rintro i σ H2 _ ⟨v3, v4, v5, v6, v7, v8, v9, v10, rfl, k2, e2⟩
      exact SqL.of ((Kp.ownK k1 ntk k2).at S.lst)
    · rintro i y σ H2 hy ⟨v3, v4, v5, v6, v7, v8, v9, v10, rfl, k2, e2⟩
      have hi : i < ps.length := by
        have z := (List.getElem?_eq_some_iff.mp hy).1
        rw [List.length_map] at z
        exact z
      have hi2 : i < ss.length := by
        rw [← S.len]
        exact hi
      rw [List.getElem?_map, List.getElem?_eq_getElem hi] at hy
      obtain rfl := (Option.some.inj hy).symm
      obtain ⟨s, hs⟩ : ∃ s, ss[i] = s := ⟨_, rfl⟩
      have hsg : ss[i]? = some s := by rw [List.getElem?_eq_getElem hi2, hs]
      have ok := W.ok s (List.mem_of_getElem? hsg)
      have eS := S.at_ i ps[i] s (List.getElem?_eq_getElem hi) hsg
      have eS2 := (Kp.ownK k1 ntk k2).at eS
      have fw := ok.fw
      have sz := ok.size
      have tk2 : ss.take (i + 1) = ss.take i ++ [s] := by
        rw [List.take_add_one, hsg]
        rfl
      have tl2 := tkn_len (ss.take (i + 1)) fun x hx => W.ok x (List.mem_of_mem_take hx)
      have e3 : tkn (ss.take (i + 1)) = tkn (ss.take i) ++ (List.range s.w).map (pos s) := by
        rw [tk2]
        unfold tkn
        rw [List.flatMap_append]
        simp
      have tl3 : (tkn (ss.take i)).length + s.w ≤ 1000 := by
        have z : (tkn (ss.take (i + 1))).length = (tkn (ss.take i)).length + s.w := by
          rw [e3, List.length_append, List.length_map, List.length_range]
        have z2 : (ss.take (i + 1)).length ≤ 12 := by
          rw [List.length_take]
          omega
        omega
      refine ⟨ps[i], s.vs, rfl, SqT.of eS2, rfl, _, _, rfl, _, _, rfl, _, _, rfl, _, _, rfl, _, _, rfl, _, _, rfl, rfl, ?_⟩
      refine ⟨_, rfl, _, rfl, _, rfl, _, _, rfl, rfl, _, _, rfl, ⟨by omega, by omega, by omega, by omega⟩, for_range (lo := (s.f : Int)) (n := ((s.f : Int) + s.w - s.f).toNat)
        (fun j σ H3 => ∃ (v9 v10 : Option V), σ = [some (.ref a), some (.ref sp), some (.ref tk), some (.int s.off), some (.int s.size), some (.bl s.big), some (.int s.f), some (.int s.w), some (.bl s.sg), v9, v10, none, none] ∧ Kp [tk] H1 H3 ∧
          H3 tk = some (.lst ((tkn (ss.take i) ++ (List.range j).map (pos s)).map V.int)))
        ⟨_, _, rfl, k2, by rw [e2]; show _ = some (HO.lst (((_ ++ []) : List Int).map V.int)); rw [List.append_nil]⟩ ?_ ?_⟩
      · rintro j σ H3 hj ⟨v9, v10, rfl, k3, e3⟩
        have hj2 : j < s.w := by omega
        have len : ((tkn (ss.take i) ++ (List.range j).map (pos s)).map V.int).length < 100000 := by
          rw [List.length_map, List.length_append, List.length_map, List.length_range]
          omega
        have fin : ∀ z : Int, z = pos s j → ∀ H4, Kp [tk] H3 H4 → H4 tk = some (.lst ((tkn (ss.take i) ++ (List.range j).map (pos s)).map V.int ++ [V.int z])) → H4 tk = some (.lst ((tkn (ss.take i) ++ (List.range (j + 1)).map (pos s)).map V.int)) := by
          intro z hz H4 _ e4
          rw [e4, List.range_succ, hz]
          simp only [List.map_append, List.append_assoc]
          rfl
        refine ⟨_, rfl, _, _, rfl, rfl, ⟨by decide, by decide⟩, ?_⟩
        refine ⟨_, rfl, _, rfl, ?_⟩
        cases hb : s.big with
        | true =>
          refine iteT ?_
          refine ⟨_, rfl, _, _, rfl, rfl, _, rfl, _, _, rfl, rfl, ?_⟩
          refine ⟨.ref tk, rfl, Or.inl ⟨rfl, _, SqL.of e3⟩, _, rfl, _, rfl, _, _, rfl, rfl, _, _, rfl, rfl, Or.inr ⟨by decide, by decide⟩, _, rfl, Or.inl ⟨_, rfl, _, _, rfl, rfl, (by show (0 : Int) < _; decide), _, _, rfl, rfl, tk, _, _, rfl, rfl, e3, len, fun H4 k4 e4 => ?_⟩⟩
          refine ⟨_, _, rfl, k3.trans k4, fin _ ?_ H4 k4 e4⟩
          unfold pos
          rw [hb]
          rfl
        | false =>
          refine iteF ?_
          refine ⟨.ref tk, rfl, Or.inl ⟨rfl, _, SqL.of e3⟩, _, rfl, _, rfl, _, _, rfl, rfl, _, _, rfl, rfl, Or.inr ⟨by decide, by decide⟩, _, rfl, Or.inl ⟨_, rfl, _, _, rfl, rfl, (by show (0 : Int) < _; decide), _, _, rfl, rfl, tk, _, _, rfl, rfl, e3, len, fun H4 k4 e4 => ?_⟩⟩
          refine ⟨_, _, rfl, k3.trans k4, fin _ ?_ H4 k4 e4⟩
          unfold pos
          rw [hb]
          rfl
      · rintro σ H3 ⟨v9, v10, rfl, k3, e4⟩
        refine ⟨_, _, _, _, _, _, _, _, rfl, k3, ?_⟩
        rw [e4, e3, show ((s.f : Int) + s.w - s.f).toNat = s.w by omega]
    · rintro σ H2 ⟨v3, v4, v5, v6, v7, v8, v9, v10, rfl, k2, e2⟩
      rw [List.length_map, S.len, List.take_length] at e2
      have k02 := Kp.ownK k1 ntk k2
      clear k1 k2 etk
      refine ⟨by show 0 ≤ 100000; decide, fun fd H3 nfd k3 efd => ?_⟩
      have ntk2 : tk ≠ fd := ne_of_none e2 nfd
      have e2 := k3.at e2
      have k03 := k02.trans k3
      have nfd0 := k02.free nfd List.not_mem_nil
      have ntf : tk ∉ [fd] := by simpa using ntk2
      refine ⟨_, rfl, a, _, rfl, Or.inl (k03.seq List.not_mem_nil hS), ((data.map V.int).length : Int), rfl, by rw [List.length_map]; omega, by rw [List.length_map]; omega, for_range (lo := 0) (n := ((data.map V.int).length : Int).toNat)
        (fun i σ H4 => ∃ (v3 v4 v5 v6 v7 v8 v9 v10 v12 : Option V), σ = [some (.ref a), some (.ref sp), some (.ref tk), v3, v4, v5, v6, v7, v8, v9, v10, some (.ref fd), v12] ∧ Kp [fd] H3 H4 ∧ H4 fd = some (.lst ((fA data (tkn ss) i).map V.int)))
        ⟨_, _, _, _, _, _, _, _, _, rfl, Kp.refl _, efd⟩ ?_ ?_⟩
      · rintro i σ H4 hi ⟨v3, v4, v5, v6, v7, v8, v9, v10, v12, rfl, k4, e4⟩
        rw [List.length_map, hd] at hi
        have hi : i < 16 := hi
        have sqa : ∀ {H5 : Hp}, Kp [fd] H3 H5 → SqL K H5 a (data.map V.int) := fun k => (Kp.ownK k03 nfd0 k).seq List.not_mem_nil hS
        have gd : data[i]? = some (data.getD i 0) := by
          rw [List.getD_eq_getElem?_getD, List.getElem?_eq_getElem (by omega)]
          rfl
        have fl := fA_len data (tkn ss) i
        refine ⟨_, rfl, _, rfl, a, _, _, V.int (data.getD i 0), rfl, rfl, sqa k4, ?_, ?_⟩
        · show atI _ (0 + (i : Int)) = _
          rw [Int.zero_add]
          refine atI_nat ?_
          rw [List.getElem?_map, gd]
          rfl
        refine ⟨_, rfl, by decide, by decide, for_range (lo := 0) (n := 8)
          (fun m σ H5 => ∃ (v3 v4 v5 v6 v7 v8 v9 : Option V), σ = [some (.ref a), some (.ref sp), some (.ref tk), v3, v4, v5, v6, v7, v8, v9, some (.int (data.getD i 0 / 2 ^ m)), some (.ref fd), some (.int (0 + (i : Nat)))] ∧ Kp [fd] H3 H5 ∧
            H5 fd = some (.lst ((fA data (tkn ss) i ++ fB (data.getD i 0) i (tkn ss) m).map V.int)))
          ⟨_, _, _, _, _, _, _, by rw [show data.getD i 0 / 2 ^ 0 = data.getD i 0 from Int.ediv_one _]; rfl, k4, by rw [e4]; show _ = some (HO.lst (((_ ++ []) : List Int).map V.int)); rw [List.append_nil]⟩ ?_ ?_⟩
        · rintro m σ H5 hm8 ⟨v3, v4, v5, v6, v7, v8, v9, rfl, k5, e5⟩
          have et := k5 _ _ e2 ntf
          have fl2 := fB_len (data.getD i 0) i (tkn ss) m
          have c0 : 8 * (0 + (i : Int)) + (0 + (m : Int)) = 8 * (i : Int) + (m : Int) := by omega
          refine ⟨_, rfl, _, _, rfl, rfl, Or.inl ⟨by decide, by decide⟩, _, rfl, _, _, rfl, rfl, _, rfl, tk, _, rfl, Or.inl (SqL.of et), rfl, flat_ints _, _, rfl, ?_⟩
          have iv : inV (V.int (8 * (0 + (i : Int)) + (0 + (m : Int)))) ((tkn ss).map V.int) = decide ((8 * (i : Int) + (m : Int)) ∈ tkn ss) := by rw [inV_ints, c0]
          have dv : data.getD i 0 / 2 ^ m / 2 = data.getD i 0 / 2 ^ (m + 1) := by
            rw [← MZ.div_div]
            rfl
          show if (!inV (V.int (8 * (0 + (i : Int)) + (0 + (m : Int)))) ((tkn ss).map V.int)) = true then _ else _
          rw [iv]
          by_cases c : (8 * (i : Int) + (m : Int)) ∈ tkn ss
          · rw [decide_eq_true c]
            refine iteF ?_
            refine ⟨_, rfl, _, _, rfl, rfl, ⟨by decide, by decide⟩, ?_⟩
            show gName 10 (V.int (data.getD i 0 / 2 ^ m / 2)) _ _ _
            rw [dv]
            refine ⟨_, _, _, _, _, _, _, rfl, k5, ?_⟩
            show _ = some (HO.lst ((fA data (tkn ss) i ++ (fB (data.getD i 0) i (tkn ss) m ++ _)).map V.int))
            rw [if_pos c, List.append_nil]
            exact e5
          · rw [decide_eq_false c]
            refine iteT ?_
            refine ⟨.ref fd, rfl, Or.inl ⟨rfl, _, SqL.of e5⟩, _, rfl, Or.inl ⟨_, rfl, _, _, rfl, rfl, (by show (0 : Int) < _; decide), fd, _, _, rfl, rfl, e5, by rw [List.length_map, List.length_append]; omega, fun H6 k6 e6 => ?_⟩⟩
            refine ⟨_, rfl, _, _, rfl, rfl, ⟨by decide, by decide⟩, ?_⟩
            show gName 10 (V.int (data.getD i 0 / 2 ^ m / 2)) _ _ _
            rw [dv]
            refine ⟨_, _, _, _, _, _, _, rfl, k5.trans k6, ?_⟩
            show _ = some (HO.lst ((fA data (tkn ss) i ++ (fB (data.getD i 0) i (tkn ss) m ++ _)).map V.int))
            rw [if_neg c, e6, app_len, List.append_assoc]
        · rintro σ H5 ⟨v3, v4, v5, v6, v7, v8, v9, rfl, k5, e5⟩
          exact ⟨_, _, _, _, _, _, _, _, _, rfl, k5, e5⟩
      · rintro σ H4 ⟨v3, v4, v5, v6, v7, v8, v9, v10, v12, rfl, k4, e4⟩
        rw [List.length_map, hd] at e4
        exact ⟨_, rfl, q H4 fd (Kp.ownK k03 nfd0 k4) nfd0 e4⟩
end
end K1
end

section
set_option Elab.async false
set_option linter.all false
set_option maxRecDepth 100000
set_option maxHeartbeats 8000000
namespace K1
open PySem PySem.Spec PyProof.Rows L2 Z RT
section
variable {P : Program} {w : World} {K : PySem.W.Frag} {mg : Str → Option Value} {base : Heap} {cR cO : Addr}
theorem fresh2 {H : Hp} {b L p : Addr} {o u : HO} (h1 : H b = some o) (h2 : H L = some u) (n : H p = none) : p ∉ [b, L] := by
  intro z
  rcases List.mem_cons.mp z with z | z
  · exact ne_of_none h1 n z.symm
  · exact ne_of_none h2 n (List.mem_singleton.mp z).symm
theorem ne_same {l : List Int} {H : Hp} {K : PySem.W.Frag} {a b : Addr} {Q : V → Hp → Prop} (h1 : H a = some (.lst (l.map V.int))) (h2 : H b = some (.lst (l.map V.int))) (q : Q (.bl false) H) : rNeD K (.ref a) (.ref b) H Q := by
  refine ⟨.list (l.map .int), .list (l.map .int), .lst (SqL.of h1) (dp_ints l), .lst (SqL.of h2) (dp_ints l), shaped_ints l, shaped_ints l, ?_⟩
  rw [SeqAt.eqv_refl _ (SeqAt.canLay_of_shaped (shaped_ints l))]
  exact q
theorem lo_hi {w : Nat} (sg : Bool) : lo w sg ≤ hi w sg := by
  have a := MZ.pow_pos (w - 1)
  have b := MZ.pow_pos w
  unfold lo hi
  cases sg
  · show (0 : Int) ≤ 2 ^ w - 1
    omega
  · show -(2 ^ (w - 1)) ≤ (2 : Int) ^ (w - 1) - 1
    omega
theorem rd_rg {data : List Int} {s : Sl} (ok : s.Ok) : (rd data s).natAbs < 10 ^ 12 := by
  have fw := ok.fw
  have sz := ok.size
  have p := MZ.pow_pos s.w
  have q := MZ.pow_le (show s.w ≤ 32 by omega)
  unfold rd slotV
  generalize MZ.num (rowsOf data s.off s.size s.big) / 2 ^ s.f = M
  have r0 := Int.emod_nonneg M (Int.ne_of_gt p)
  have r1 := Int.emod_lt_of_pos M p
  clear fw sz
  split <;> omega
theorem map_put {data : List Int} {ss : List Sl} {k : Nat} {s : Sl} {x : Int} (W : Wf ss) (hd : data.length = 16) (hk : ss[k]? = some s) (h0 : lo s.w s.sg ≤ x) (h1 : x ≤ hi s.w s.sg) : (ss.map (rd data)).set k x = ss.map (rd (put data s x)) := by
  have ok := W.ok s (List.mem_of_getElem? hk)
  obtain ⟨hkl, hke⟩ := List.getElem?_eq_some_iff.mp hk
  apply List.ext_getElem?
  intro i
  rw [List.getElem?_set, List.getElem?_map, List.getElem?_map]
  by_cases c : k = i
  · subst c
    rw [if_pos rfl, if_pos (by rw [List.length_map]; exact hkl), hk]
    show some x = some (rd (put data s x) s)
    rw [rd_put ok hd h0 h1]
  · rw [if_neg c]
    cases e : ss[i]? with
    | none => rfl
    | some t =>
      show some (rd data t) = some (rd (put data s x) t)
      have ok2 := W.ok t (List.mem_of_getElem? e)
      obtain ⟨hil, hie⟩ := List.getElem?_eq_some_iff.mp e
      have ap : Apart s t ∨ Apart t s := by
        have pw := List.pairwise_iff_getElem.mp W.ap
        by_cases d : k < i
        · have z := pw k i hkl hil d
          rw [hke, hie] at z
          exact .inl z
        · have z := pw i k hil hkl (by omega)
          rw [hke, hie] at z
          exact .inr z
      rw [rd_other ok ok2 hd ap]
abbrev s_law : Stmt := top 20
theorem sc_law : FnScope ["script", "box", "slots", "k", "data", "free", "slot", "held", "turn", "least", "most", "told"] ["script"] (defScope s_law) := ⟨rfl, rfl, rfl, by decide +kernel, rfl, by decide +kernel, by decide +kernel⟩

def sp_law (K : PySem.W.Frag) : Sp := fun vs H Q _ => ∃ (a : Addr) (ns : List Int), vs = [.ref a] ∧ SqL K H a (ns.map V.int) ∧ ns.length ≤ 63 ∧ ∀ H', Q (.bl true) H'
theorem d_law {f : Addr} {fd : FuncData} (F : L2.Fun K "law" "law" s_law f fd) (T : Tx K mg cR cO)
    (c__law_digits : Df P w K mg base 2 "_law_digits" (sp_digits K)) (c__law_draw : Df P w K mg base 1 "_law_draw" sp_draw) (c__law_slots : Df P w K mg base 2 "_law_slots" sp_slots) (c__law_free_bits : Df P w K mg base 1 "_law_free_bits" (sp_free K))
    (c_read_slot : Df P w K mg base 3 "read_slot" (sp_read_slot K)) (c_bounds : Df P w K mg base 2 "bounds" sp_bounds) (c_write_slot : Df P w K mg base 3 "write_slot" (sp_write_slot cO)) (c__law_list_is : Df P w K mg base 1 "_law_list_is" (sp_list_is K)) :
    FnG P w K mg base (L2.CX P w) 5 f fd ["script"] (sp_law K) := by
  refine fnG_0 F sc_law (fun vs H Q E h => ?_) (fun cdv A fr s H vs Q E hr gu h => ?_)
  · obtain ⟨a, ns, rfl, _⟩ := h
    rfl
  · obtain ⟨a, ns, rfl, hS, hlen, q⟩ := h
    refine ⟨_, (pss_cons (ps_set (i := 1) sc_law.nd rfl (Or.inr rfl) (pe_lstK (pa_cons (pe_f c__law_digits hr (by decide) gu (by rfl) (pa_cons (pv 0) (pa_cons pe_int (pa_cons pe_int pa_nil)))) (pa_cons pe_int pa_nil))))
      (pss_cons (ps_set (i := 2) sc_law.nd rfl (Or.inl rfl) (pe_f c__law_slots hr (by decide) gu (by rfl) (pa_cons (pv 1) pa_nil)))
      (pss_cons (ps_set (i := 4) sc_law.nd rfl (Or.inr rfl) (pe_lc (own := [("k", 3)]) (g := gName 3) (tt := tYes) rfl sc_law.nd (pi_range1 (by rfl) T.b_range (pa_cons pe_int pa_nil)) (blkOk_by (N := ["script", "box", "slots", "k", "data", "free", "slot", "held", "turn", "least", "most", "told"]) (sc := defScope s_law) (by decide +kernel)) (fun _ _ _ _ _ => pg_name (i := 3) sc_law.nd rfl (Or.inl rfl)) (fun _ _ _ _ _ => pts_nil) (fun _ _ _ _ _ => (pe_f c__law_draw hr (by decide) gu (by rfl) (pa_cons (pv 1) (pa_cons pe_int pa_nil))))))
      (pss_cons (ps_set (i := 5) sc_law.nd rfl (Or.inl rfl) (pe_f c__law_free_bits hr (by decide) gu (by rfl) (pa_cons (pv 4) (pa_cons (pv 2) pa_nil))))
      (pss_cons (ps_setLc (i := 7) (own := [("slot", 6)]) (g := gName 6) (tt := tYes) rfl sc_law.nd rfl rfl (sw_true rfl rfl rfl (by decide +kernel)) (pi_listK K rfl (pv 2)) (blkOk_by (N := ["script", "box", "slots", "k", "data", "free", "slot", "held", "turn", "least", "most", "told"]) (sc := defScope s_law) (by decide +kernel)) (fun _ _ _ _ _ => pg_name (i := 6) sc_law.nd rfl (Or.inl rfl)) (fun _ _ _ _ _ => pts_nil) (fun _ _ _ _ _ => (pe_f c_read_slot hr (by decide) gu (by rfl) (pa_cons (pv 4) (pa_cons (pe_ix (ix_tupK K rfl) (pv 6) pe_int (fun _ _ => rfl)) (pa_cons (pe_ix (ix_tupK K rfl) (pv 6) pe_int (fun _ _ => rfl)) (pa_cons (pe_ix (ix_tupK K rfl) (pv 6) pe_int (fun _ _ => rfl)) (pa_cons (pe_ix (ix_tupK K rfl) (pv 6) pe_int (fun _ _ => rfl)) (pa_cons (pe_ix (ix_tupK K rfl) (pv 6) pe_int (fun _ _ => rfl)) (pa_cons (pe_ix (ix_tupK K rfl) (pv 6) pe_int (fun _ _ => rfl)) pa_nil))))))))))
      (pss_cons (ps_for PassesOwn.never rfl (pi_range1 (by rfl) T.b_range (pa_cons pe_int pa_nil)) (pg_name (i := 8) sc_law.nd rfl (Or.inl rfl))
        (pss_cons (ps_if (pt_cmpR op_gt (pe_callB (call_len_seqK K rfl) (by rfl) T.b_len PySem.boot_len (pa_cons (pv 2) pa_nil)) pe_int (nomark _))
          (pss_cons (ps_set (i := 3) sc_law.nd rfl (Or.inl rfl) (pe_op op_mod (pe_callTy call_int1 (by rfl) T.b_int (by decide +kernel) (pa_cons (pe_f c__law_draw hr (by decide) gu (by rfl) (pa_cons (pv 1) (pa_cons pe_int pa_nil))) pa_nil)) (pe_callB (call_len_seqK K rfl) (by rfl) T.b_len PySem.boot_len (pa_cons (pv 2) pa_nil))))
          (pss_cons (ps_set (i := 6) sc_law.nd rfl (Or.inl rfl) (pe_ix (ix_listK K rfl) (pv 2) (pv 3) (fun _ _ => rfl)))
          (pss_cons (ps_asg (pe_f c_bounds hr (by decide) gu (by rfl) (pa_cons (pe_ix (ix_tupK K rfl) (pv 6) pe_int (fun _ _ => rfl)) (pa_cons (pe_ix (ix_tupK K rfl) (pv 6) pe_int (fun _ _ => rfl)) pa_nil))) (pg_tup (by rfl) (pgs_cons (pg_name (i := 9) sc_law.nd rfl (Or.inl rfl)) (pgs_cons (pg_name (i := 10) sc_law.nd rfl (Or.inl rfl)) pgs_nil))))
          (pss_cons (ps_asg (pe_ix (ix_listK K rfl) (pe_lstK (pa_cons (pv 9) (pa_cons (pv 10) (pa_cons (pe_op op_add (pv 9) (pe_op op_mod (pe_callTy call_int1 (by rfl) T.b_int (by decide +kernel) (pa_cons (pe_op op_mul (pe_f c__law_draw hr (by decide) gu (by rfl) (pa_cons (pv 1) (pa_cons pe_int pa_nil))) pe_int) pa_nil)) (pe_op op_add (pe_op op_sub (pv 10) (pv 9)) pe_int))) pa_nil)))) (pe_f c__law_draw hr (by decide) gu (by rfl) (pa_cons (pv 1) (pa_cons pe_int pa_nil))) (fun _ _ => rfl)) (pg_sub (pv 7) (pv 3) set_listK))
          (pss_one (ps_expr (pe_f c_write_slot hr (by decide) gu (by rfl) (pa_cons (pv 4) (pa_cons (pe_ix (ix_tupK K rfl) (pv 6) pe_int (fun _ _ => rfl)) (pa_cons (pe_ix (ix_tupK K rfl) (pv 6) pe_int (fun _ _ => rfl)) (pa_cons (pe_ix (ix_tupK K rfl) (pv 6) pe_int (fun _ _ => rfl)) (pa_cons (pe_ix (ix_tupK K rfl) (pv 6) pe_int (fun _ _ => rfl)) (pa_cons (pe_ix (ix_tupK K rfl) (pv 6) pe_int (fun _ _ => rfl)) (pa_cons (pe_ix (ix_tupK K rfl) (pv 6) pe_int (fun _ _ => rfl)) (pa_cons (pe_ix (ix_listK K rfl) (pv 7) (pv 3) (fun _ _ => rfl)) pa_nil)))))))))))))))
          pss_nil)
        (pss_cons (ps_setLc (i := 11) (own := [("slot", 6)]) (g := gName 6) (tt := tYes) rfl sc_law.nd rfl rfl (sw_true rfl rfl rfl (by decide +kernel)) (pi_listK K rfl (pv 2)) (blkOk_by (N := ["script", "box", "slots", "k", "data", "free", "slot", "held", "turn", "least", "most", "told"]) (sc := defScope s_law) (by decide +kernel)) (fun _ _ _ _ _ => pg_name (i := 6) sc_law.nd rfl (Or.inl rfl)) (fun _ _ _ _ _ => pts_nil) (fun _ _ _ _ _ => (pe_f c_read_slot hr (by decide) gu (by rfl) (pa_cons (pv 4) (pa_cons (pe_ix (ix_tupK K rfl) (pv 6) pe_int (fun _ _ => rfl)) (pa_cons (pe_ix (ix_tupK K rfl) (pv 6) pe_int (fun _ _ => rfl)) (pa_cons (pe_ix (ix_tupK K rfl) (pv 6) pe_int (fun _ _ => rfl)) (pa_cons (pe_ix (ix_tupK K rfl) (pv 6) pe_int (fun _ _ => rfl)) (pa_cons (pe_ix (ix_tupK K rfl) (pv 6) pe_int (fun _ _ => rfl)) (pa_cons (pe_ix (ix_tupK K rfl) (pv 6) pe_int (fun _ _ => rfl)) pa_nil))))))))))
        (pss_one (ps_if (PW.pt (pw_or (pt_not (pt_val (pe_f c__law_list_is hr (by decide) gu (by rfl) (pa_cons (pv 11) (pa_cons (pv 7) pa_nil))))) (pw_or1 (pt_cmpR (op_neDK K rfl (hu64 hr)) (pe_f c__law_free_bits hr (by decide) gu (by rfl) (pa_cons (pv 4) (pa_cons (pv 2) pa_nil))) (pv 5) (nomark _)))))
          (pss_one (ps_ret pe_bl))
          pss_nil)))))
      (pss_one (ps_ret pe_bl)))))))), ?_⟩
    -- box, slots
    refine ⟨_, rfl, a, ns, 0, 40, rfl, hS, by decide, by decide, by decide, fun H1 D ds k1 nD eD hd => ⟨by show 2 ≤ 100000; decide, fun b H2 nb k2 eb => ?_⟩⟩
    refine ⟨_, rfl, b, D, ds, 0, rfl, ⟨eb, k2.at eD⟩, by decide, fun H3 sp ps ss m nsp S W hss B hm => ?_⟩
    have nspb : sp ∉ [b] := by simpa using (ne_of_none eb nsp).symm
    clear hS k1 nD eD nb k2 eb nsp
    -- data
    refine ⟨_, rfl, by decide, by decide, fun L nL => ?_⟩
    have bL : b ≠ L := ne_of_none B.hb nL
    have DL : D ≠ L := ne_of_none B.hD nL
    have sL : sp ≠ L := ne_of_none S.lst nL
    have nLb : L ∉ [b] := by simpa using bL.symm
    have nbL : b ∉ [L] := by simpa using bL
    have nDL : D ∉ [L] := by simpa using DL
    have nspL : sp ∉ [L] := by simpa using sL
    refine lc_range (lo := 0) (n := 16)
      (fun j H => ∃ zs : List Int, Box H b D ds (m + j) ∧ SlAt H sp ps ss ∧ H L = some (.lst (zs.map V.int)) ∧ zs.length = j ∧ MZ.B8 zs) ?_ ?_ ?_
    · exact ⟨[], B.kp (Kp.new (as := []) nL) List.not_mem_nil List.not_mem_nil, S.k0 (Kp.new nL), upd_same, rfl, fun _ z => nomatch z⟩
    · rintro j H hj ⟨zs, B, S, eL, hz, hB⟩
      refine ⟨rfl, ?_⟩
      refine ⟨_, rfl, b, D, ds, m + j, 256, rfl, B, by omega, by decide, fun r H' r0 r1 k B' => ?_⟩
      have S := S.k1 k B.hb nspb
      have eL := k _ _ eL nLb
      refine ⟨_, eL, small' (by rw [List.length_map]; omega), zs ++ [r], B'.kp (Kp.put (by simp)) nbL nDL, S.k1 (Kp.put (by simp)) eL nspL, ?_, ?_, ?_⟩
      · rw [upd_same, app_len]
      · rw [List.length_append, hz]
        rfl
      · intro x hx
        rcases List.mem_append.mp hx with hx | hx
        · exact hB x hx
        · rw [List.mem_singleton.mp hx]
          exact ⟨r0, r1⟩
    rintro H4 ⟨data0, B, S, eL, hdl, hB⟩
    clear nL
    -- free
    refine ⟨_, rfl, _, rfl, L, sp, data0, ps, ss, rfl, SqL.of eL, hdl, S, W, hss, fun H5 fr k nfr efr => ?_⟩
    have nfr2 := fresh2 B.hb eL nfr
    have B := B.kp k List.not_mem_nil List.not_mem_nil
    have S := S.k0 k
    have eL := k.at eL
    clear nfr
    -- held
    refine ⟨_, rfl, sp, rfl, ⟨_, SqL.of S.lst⟩, fun hd nhd => ?_⟩
    have spn : sp ∉ [hd] := by simpa using ne_of_none S.lst nhd
    refine lc_list (K := K) (a := sp) (xs := ps.map V.ref)
      (fun i Hc => Kp [hd] H5 Hc ∧ Hc hd = some (.lst (((ss.take i).map (rd data0)).map V.int))) ?_ ?_ ?_ ?_
    · exact ⟨Kp.put (by simp), upd_same⟩
    · rintro i Hc _ ⟨k, _⟩
      exact k.seq spn (SqL.of S.lst)
    · rintro i y Hc hy ⟨k, e⟩
      have hi : i < ps.length := by
        have z := (List.getElem?_eq_some_iff.mp hy).1
        rw [List.length_map] at z
        exact z
      have hi2 : i < ss.length := by
        rw [← S.len]
        exact hi
      rw [List.getElem?_map, List.getElem?_eq_getElem hi] at hy
      obtain rfl := (Option.some.inj hy).symm
      obtain ⟨s, hs⟩ : ∃ s, ss[i] = s := ⟨_, rfl⟩
      have hsg : ss[i]? = some s := by rw [List.getElem?_eq_getElem hi2, hs]
      have ok := W.ok s (List.mem_of_getElem? hsg)
      obtain ⟨p, hp⟩ : ∃ p, ps[i] = p := ⟨_, rfl⟩
      rw [hp]
      have eS := S.at_ i p s (by rw [List.getElem?_eq_getElem hi, hp]) hsg
      have k' := Kp.ownK (Kp.refl H5) nhd k
      have eS := k'.at eS
      have eL2 := k'.at eL
      have o := ok.off
      refine ⟨rfl, ?_⟩
      refine ⟨_, rfl, _, rfl, p, _, 0, _, rfl, rfl, SqT.of eS, atI_nat (j := 0) rfl, _, rfl, p, _, 1, _, rfl, rfl, SqT.of eS, atI_nat (j := 1) rfl, _, rfl, p, _, 2, _, rfl, rfl, SqT.of eS, atI_nat (j := 2) rfl, _, rfl, p, _, 3, _, rfl, rfl, SqT.of eS, atI_nat (j := 3) rfl, _, rfl, p, _, 4, _, rfl, rfl, SqT.of eS, atI_nat (j := 4) rfl, _, rfl, p, _, 5, _, rfl, rfl, SqT.of eS, atI_nat (j := 5) rfl, L, data0, s.off, s.size, s.big, s.f, s.w, s.sg, rfl, SqL.of eL2, hB, by rw [hdl]; exact o, by rw [hdl]; decide, ok.size.2, ok.w, ok.fw, fun H9 k9 => ?_⟩
      refine ⟨_, k9.at e, small' (by rw [List.length_map, List.length_map, List.length_take]; omega), k.trans ((k9.of0).trans (Kp.put (by simp))), ?_⟩
      rw [upd_same, app_len, List.take_add_one, hsg]
      show some (HO.lst ((_ ++ [rd data0 s]).map V.int)) = some (HO.lst (((ss.take i ++ [s]).map (rd data0)).map V.int))
      rw [List.map_append (f := rd data0)]
      rfl
    rintro HN ⟨k, ehd⟩
    rw [List.length_map, S.len, List.take_length] at ehd
    have k := Kp.ownK (Kp.refl H5) nhd k

    have nhd2 := fresh2 B.hb eL nhd
    have hdfr : fr ∉ [hd] := by simpa using ne_of_none efr nhd
    have nbh : b ∉ [hd] := by simpa using ne_of_none B.hb nhd
    have nDh : D ∉ [hd] := by simpa using ne_of_none B.hD nhd
    have nLh : L ∉ [hd] := by simpa using ne_of_none eL nhd
    have nsh : sp ∉ [hd] := by simpa using ne_of_none S.lst nhd
    have nhb : hd ∉ [b] := fun z => nhd2 (by simp [List.mem_singleton.mp z])
    have nhL : hd ∉ [L] := fun z => nhd2 (by simp [List.mem_singleton.mp z])
    have nfb : fr ∉ [b] := fun z => nfr2 (by simp [List.mem_singleton.mp z])
    have nfL : fr ∉ [L] := fun z => nfr2 (by simp [List.mem_singleton.mp z])
    have B := B.kp k List.not_mem_nil List.not_mem_nil
    have S := S.k0 k
    have eL := k.at eL
    have efr := k.at efr
    clear nhd k
    -- the turns
    refine ⟨_, rfl, by decide, by decide, for_range (lo := 0) (n := 20)
      (fun i σ H => ∃ (v3 v6 v8 v9 v10 v11 : Option V) (data : List Int) (n : Nat), σ = [some (.ref a), some (.ref b), some (.ref sp), v3, some (.ref L), some (.ref fr), v6, some (.ref hd), v8, v9, v10, v11] ∧ Box H b D ds n ∧ n ≤ 3000 + 10 * i ∧
        SlAt H sp ps ss ∧ H L = some (.lst (data.map V.int)) ∧ data.length = 16 ∧ MZ.B8 data ∧ H fr = some (.lst ((fA data0 (tkn ss) 16).map V.int)) ∧ fA data (tkn ss) 16 = fA data0 (tkn ss) 16 ∧ H hd = some (.lst ((ss.map (rd data)).map V.int)))
      ⟨_, _, _, _, _, _, data0, m + 16, rfl, B, by omega, S, eL, hdl, hB, efr, rfl, ehd⟩ ?_ ?_⟩
    · clear B S eL hdl hB efr ehd
      rintro i σ H hti ⟨v3, v6, v8, v9, v10, v11, data, n, rfl, B, hn, S, eL, hdd, hB, efr, hfr, ehd⟩
      refine ⟨_, rfl, sp, _, rfl, Or.inl (SqL.of S.lst), _, _, rfl, rfl, _, rfl, ?_⟩
      refine ite2 (fun c => ?_) (fun c => ?_)
      · have c1 : (0 : Int) < ((ps.map V.ref).length : Int) := of_decide_eq_true c
        rw [List.length_map, S.len] at c1
        clear c
        -- k
        refine ⟨_, rfl, b, D, ds, n, 90, rfl, B, by omega, by decide, fun r H6 r0 r1 k B' => Or.inl ⟨_, rfl, ?_⟩⟩
        have S := S.k1 k B.hb nspb
        have eL := k _ _ eL nLb
        have efr := k _ _ efr nfb
        have ehd := k _ _ ehd nhb
        have B := B'
        refine ⟨_, rfl, sp, _, rfl, Or.inl (SqL.of S.lst), _, _, rfl, rfl, (by show (0 : Int) < ((ps.map V.ref).length : Int); rw [List.length_map, S.len]; exact c1), ?_⟩
        obtain ⟨kk, hkk, hkl⟩ : ∃ x : Nat, r % (((ps.map V.ref).length : Nat) : Int) = (x : Int) ∧ x < ss.length := by
          rw [List.length_map, S.len]
          have m0 := Int.emod_nonneg r (show ((ss.length : Nat) : Int) ≠ 0 by omega)
          have m1 := Int.emod_lt_of_pos r c1
          exact ⟨(r % ((ss.length : Nat) : Int)).toNat, by omega, by omega⟩
        show gName 3 (V.int (r % (((ps.map V.ref).length : Nat) : Int))) _ _ _
        rw [hkk]
        clear hkk r0 r1 c1
        obtain ⟨s, hs⟩ : ∃ s, ss[kk]? = some s := ⟨_, List.getElem?_eq_getElem hkl⟩
        obtain ⟨p, hp⟩ : ∃ p, ps[kk]? = some p := ⟨_, List.getElem?_eq_getElem (by rw [S.len]; exact hkl)⟩
        have ok := W.ok s (List.mem_of_getElem? hs)
        have eS := S.at_ kk p s hp hs
        have o := ok.off
        have fw := ok.fw
        have sz := ok.size
        -- slot
        refine ⟨_, rfl, _, rfl, sp, _, _, V.ref p, rfl, rfl, SqL.of S.lst, atI_nat (by rw [List.getElem?_map, hp]; rfl), ?_⟩
        -- bounds
        refine ⟨_, rfl, p, _, 4, _, rfl, rfl, SqT.of eS, atI_nat (j := 4) rfl, _, rfl, p, _, 5, _, rfl, rfl, SqT.of eS, atI_nat (j := 5) rfl, s.w, s.sg, rfl, ok.w, by omega, fun p1 n1 => ?_⟩
        have k : Kp [] H6 (upd H6 p1 (.tup [.int (lo s.w s.sg), .int (hi s.w s.sg)])) := Kp.new n1
        have ep1 : (upd H6 p1 (.tup [.int (lo s.w s.sg), .int (hi s.w s.sg)])) p1 = some (.tup [.int (lo s.w s.sg), .int (hi s.w s.sg)]) := upd_same
        generalize upd H6 p1 (.tup [.int (lo s.w s.sg), .int (hi s.w s.sg)]) = H7 at k ep1 ⊢
        have B := B.kp k List.not_mem_nil List.not_mem_nil
        have S := S.k0 k
        have eL := k.at eL
        have efr := k.at efr
        have ehd := k.at ehd
        try have eS := k.at eS
        refine ⟨p1, _, rfl, SqT.of ep1, rfl, _, _, rfl, _, _, rfl, rfl, ?_⟩
        clear ep1 n1
        have g1 := lo_ge s.sg (show s.w ≤ 32 by omega)
        have g2 := hi_le s.sg (show s.w ≤ 32 by omega)
        have g3 := lo_hi (w := s.w) s.sg
        -- the integer
        refine ⟨_, rfl, _, rfl, _, rfl, _, rfl, b, D, ds, n + 1, 1000, rfl, B, by omega, by decide, fun r H8 r0 r1 k B' => ?_⟩
        have S := S.k1 k B.hb nspb
        have eL := k _ _ eL nLb
        have efr := k _ _ efr nfb
        have ehd := k _ _ ehd nhb
        have B := B'
        refine ⟨_, _, rfl, rfl, Or.inr ⟨by decide, by decide⟩, Or.inl ⟨_, rfl, _, rfl, _, rfl, _, _, rfl, rfl, _, _, rfl, rfl, _, _, rfl, rfl, (by show 0 < hi s.w s.sg - lo s.w s.sg + 1; omega), _, _, rfl, rfl, by show 3 ≤ 100000; decide, fun tv H9 ntv k etv => ?_⟩⟩
        have ntv : tv ∉ [b] := fun z => ne_of_none B.hb ntv (List.mem_singleton.mp z).symm
        have B := B.kp k List.not_mem_nil List.not_mem_nil
        have S := S.k0 k
        have eL := k.at eL
        have efr := k.at efr
        have ehd := k.at ehd
        try have eS := k.at eS
        refine ⟨_, rfl, b, D, ds, n + 2, 3, rfl, B, by omega, by decide, fun r2 HA q0 q1 k B' => ?_⟩
        have etv := k _ _ etv ntv
        have S := S.k1 k B.hb nspb
        have eL := k _ _ eL nLb
        have efr := k _ _ efr nfb
        have ehd := k _ _ ehd nhb
        have B := B'
        obtain ⟨v, ev, hv⟩ := pick3 (x := V.int (lo s.w s.sg)) (y := V.int (hi s.w s.sg)) (z := V.int (lo s.w s.sg + r * 65537 % (hi s.w s.sg - lo s.w s.sg + 1))) q0 q1
        obtain ⟨x, rfl, hx0, hx1⟩ : ∃ x : Int, v = V.int x ∧ lo s.w s.sg ≤ x ∧ x ≤ hi s.w s.sg := by
          clear fw sz o g1 g2 q0 q1 r0 r1
          rcases hv with rfl | rfl | rfl
          · exact ⟨_, rfl, Int.le_refl _, g3⟩
          · exact ⟨_, rfl, g3, Int.le_refl _⟩
          · have m0 := Int.emod_nonneg (r * 65537) (show hi s.w s.sg - lo s.w s.sg + 1 ≠ 0 by omega)
            have m1 := Int.emod_lt_of_pos (r * 65537) (show 0 < hi s.w s.sg - lo s.w s.sg + 1 by omega)
            exact ⟨_, rfl, by omega, by omega⟩
        refine ⟨tv, _, _, _, rfl, rfl, SqL.of etv, ev, ?_⟩
        clear ev hv etv ntv r0 r1 q0 q1
        -- held[k] = ..
        refine ⟨_, rfl, _, rfl, hd, _, _, kk, rfl, rfl, ehd, ixn (by rw [List.length_map, List.length_map]; exact hkl), fun HB k ehd2 => ?_⟩
        have S := S.k1 k ehd nsh
        have B := B.kp k nbh nDh
        have eL := k _ _ eL nLh
        have efr := k _ _ efr hdfr
        have ehd : HB hd = some (.lst ((ss.map (rd (put data s x))).map V.int)) := by
          rw [ehd2, ← map_put W hdd hs hx0 hx1]
          show some (HO.lst (((ss.map (rd data)).map V.int).set kk (V.int x))) = some (HO.lst (((ss.map (rd data)).set kk x).map V.int))
          rw [List.map_set]
        have eS := S.at_ kk p s hp hs
        -- write_slot
        refine ⟨_, rfl, _, rfl, p, _, 0, _, rfl, rfl, SqT.of eS, atI_nat (j := 0) rfl, _, rfl, p, _, 1, _, rfl, rfl, SqT.of eS, atI_nat (j := 1) rfl, _, rfl, p, _, 2, _, rfl, rfl, SqT.of eS, atI_nat (j := 2) rfl, _, rfl, p, _, 3, _, rfl, rfl, SqT.of eS, atI_nat (j := 3) rfl, _, rfl, p, _, 4, _, rfl, rfl, SqT.of eS, atI_nat (j := 4) rfl, _, rfl, p, _, 5, _, rfl, rfl, SqT.of eS, atI_nat (j := 5) rfl, _, rfl, _, rfl, hd, _, _, V.int x, rfl, rfl, SqL.of ehd, atI_nat ?_, L, data, s.off, s.size, s.big, s.f, s.w, s.sg, x, rfl, eL, hB, by rw [hdd]; exact o, by rw [hdd]; decide, sz.2, ok.w, fw, fun HC k c => absurd c (by omega), fun HC k _ _ eL2 => ?_⟩
        · rw [List.getElem?_map, List.getElem?_map, hs]
          show some (V.int (rd (put data s x) s)) = some (V.int x)
          rw [rd_put ok hdd hx0 hx1]
        have S := S.k1 k eL nspL
        have B := B.kp k nbL nDL
        have efr := k _ _ efr nfL
        have ehd := k _ _ ehd nhL
        have eL : HC L = some (.lst ((put data s x).map V.int)) := eL2
        have hfr : fA (put data s x) (tkn ss) 16 = fA data0 (tkn ss) 16 := by
          rw [free_put ok hdd hB fun j hj => tkn_in (List.mem_of_getElem? hs) hj]
          exact hfr
        have hB := put_B8 (s := s) (v := x) hB
        have hdl : (put data s x).length = 16 := by
          unfold put
          rw [wr_len s.big _ (by rw [hdd]; exact o), hdd]
        have hn2 : n + 3 ≤ 3000 + 10 * (i + 1) := by omega
        clear o fw sz g1 g2 g3 hx0 hx1 hkl hn hs hp eS ok ehd2 eL2
        generalize put data s x = data2 at *
        refine ⟨_, rfl, sp, rfl, ⟨_, SqL.of S.lst⟩, fun td ntd => ?_⟩
        have spn : sp ∉ [td] := by simpa using ne_of_none S.lst ntd
        refine lc_list (K := K) (a := sp) (xs := ps.map V.ref)
          (fun i Hc => Kp [td] HC Hc ∧ Hc td = some (.lst (((ss.take i).map (rd data2)).map V.int))) ?_ ?_ ?_ ?_
        · exact ⟨Kp.put (by simp), upd_same⟩
        · rintro i Hc _ ⟨k, _⟩
          exact k.seq spn (SqL.of S.lst)
        · rintro i y Hc hy ⟨k, e⟩
          have hi : i < ps.length := by
            have z := (List.getElem?_eq_some_iff.mp hy).1
            rw [List.length_map] at z
            exact z
          have hi2 : i < ss.length := by
            rw [← S.len]
            exact hi
          rw [List.getElem?_map, List.getElem?_eq_getElem hi] at hy
          obtain rfl := (Option.some.inj hy).symm
          obtain ⟨s, hs⟩ : ∃ s, ss[i] = s := ⟨_, rfl⟩
          have hsg : ss[i]? = some s := by rw [List.getElem?_eq_getElem hi2, hs]
          have ok := W.ok s (List.mem_of_getElem? hsg)
          obtain ⟨p, hp⟩ : ∃ p, ps[i] = p := ⟨_, rfl⟩
          rw [hp]
          have eS := S.at_ i p s (by rw [List.getElem?_eq_getElem hi, hp]) hsg
          have k' := Kp.ownK (Kp.refl HC) ntd k
          have eS := k'.at eS
          have eL2 := k'.at eL
          have o := ok.off
          refine ⟨rfl, ?_⟩
          refine ⟨_, rfl, _, rfl, p, _, 0, _, rfl, rfl, SqT.of eS, atI_nat (j := 0) rfl, _, rfl, p, _, 1, _, rfl, rfl, SqT.of eS, atI_nat (j := 1) rfl, _, rfl, p, _, 2, _, rfl, rfl, SqT.of eS, atI_nat (j := 2) rfl, _, rfl, p, _, 3, _, rfl, rfl, SqT.of eS, atI_nat (j := 3) rfl, _, rfl, p, _, 4, _, rfl, rfl, SqT.of eS, atI_nat (j := 4) rfl, _, rfl, p, _, 5, _, rfl, rfl, SqT.of eS, atI_nat (j := 5) rfl, L, data2, s.off, s.size, s.big, s.f, s.w, s.sg, rfl, SqL.of eL2, hB, by rw [hdl]; exact o, by rw [hdl]; decide, ok.size.2, ok.w, ok.fw, fun H9 k9 => ?_⟩
          refine ⟨_, k9.at e, small' (by rw [List.length_map, List.length_map, List.length_take]; omega), k.trans ((k9.of0).trans (Kp.put (by simp))), ?_⟩
          rw [upd_same, app_len, List.take_add_one, hsg]
          show some (HO.lst ((_ ++ [rd data2 s]).map V.int)) = some (HO.lst (((ss.take i ++ [s]).map (rd data2)).map V.int))
          rw [List.map_append (f := rd data2)]
          rfl
        rintro HN ⟨k, etd⟩
        rw [List.length_map, S.len, List.take_length] at etd
        have k := Kp.ownK (Kp.refl HC) ntd k

        have B := B.kp k List.not_mem_nil List.not_mem_nil
        have S := S.k0 k
        have eL := k.at eL
        have efr := k.at efr
        have ehd := k.at ehd
        clear ntd k
        refine ⟨_, rfl, _, rfl, td, hd, ss.map (rd data2), rfl, etd, ehd, ?_, by rw [List.length_map]; omega, fun HD k => ?_⟩
        · intro z hz
          obtain ⟨s, hs, rfl⟩ := List.mem_map.mp hz
          exact rd_rg (W.ok s hs)
        have B := B.kp k List.not_mem_nil List.not_mem_nil
        have S := S.k0 k
        have eL := k.at eL
        have efr := k.at efr
        have ehd := k.at ehd
        refine ⟨true, rfl, iteF ?_⟩
        refine ⟨_, rfl, _, rfl, L, sp, data2, ps, ss, rfl, SqL.of eL, hdl, S, W, hss, fun HE fb k nfb2 efb => ?_⟩
        rw [hfr] at efb
        have B := B.kp k List.not_mem_nil List.not_mem_nil
        have S := S.k0 k
        have eL := k.at eL
        have efr := k.at efr
        have ehd := k.at ehd
        refine ⟨_, rfl, ne_same efb efr ⟨false, rfl, iteF ?_⟩⟩
        exact ⟨_, _, _, _, _, _, data2, _, rfl, B, hn2, S, eL, hdl, hB, efr, hfr, ehd⟩

      · have hn2 : n ≤ 3000 + 10 * (i + 1) := by omega
        have hdl := hdd
        clear hn c
        refine ⟨_, rfl, sp, rfl, ⟨_, SqL.of S.lst⟩, fun td ntd => ?_⟩
        have spn : sp ∉ [td] := by simpa using ne_of_none S.lst ntd
        refine lc_list (K := K) (a := sp) (xs := ps.map V.ref)
          (fun i Hc => Kp [td] H Hc ∧ Hc td = some (.lst (((ss.take i).map (rd data)).map V.int))) ?_ ?_ ?_ ?_
        · exact ⟨Kp.put (by simp), upd_same⟩
        · rintro i Hc _ ⟨k, _⟩
          exact k.seq spn (SqL.of S.lst)
        · rintro i y Hc hy ⟨k, e⟩
          have hi : i < ps.length := by
            have z := (List.getElem?_eq_some_iff.mp hy).1
            rw [List.length_map] at z
            exact z
          have hi2 : i < ss.length := by
            rw [← S.len]
            exact hi
          rw [List.getElem?_map, List.getElem?_eq_getElem hi] at hy
          obtain rfl := (Option.some.inj hy).symm
          obtain ⟨s, hs⟩ : ∃ s, ss[i] = s := ⟨_, rfl⟩
          have hsg : ss[i]? = some s := by rw [List.getElem?_eq_getElem hi2, hs]
          have ok := W.ok s (List.mem_of_getElem? hsg)
          obtain ⟨p, hp⟩ : ∃ p, ps[i] = p := ⟨_, rfl⟩
          rw [hp]
          have eS := S.at_ i p s (by rw [List.getElem?_eq_getElem hi, hp]) hsg
          have k' := Kp.ownK (Kp.refl H) ntd k
          have eS := k'.at eS
          have eL2 := k'.at eL
          have o := ok.off
          refine ⟨rfl, ?_⟩
          refine ⟨_, rfl, _, rfl, p, _, 0, _, rfl, rfl, SqT.of eS, atI_nat (j := 0) rfl, _, rfl, p, _, 1, _, rfl, rfl, SqT.of eS, atI_nat (j := 1) rfl, _, rfl, p, _, 2, _, rfl, rfl, SqT.of eS, atI_nat (j := 2) rfl, _, rfl, p, _, 3, _, rfl, rfl, SqT.of eS, atI_nat (j := 3) rfl, _, rfl, p, _, 4, _, rfl, rfl, SqT.of eS, atI_nat (j := 4) rfl, _, rfl, p, _, 5, _, rfl, rfl, SqT.of eS, atI_nat (j := 5) rfl, L, data, s.off, s.size, s.big, s.f, s.w, s.sg, rfl, SqL.of eL2, hB, by rw [hdl]; exact o, by rw [hdl]; decide, ok.size.2, ok.w, ok.fw, fun H9 k9 => ?_⟩
          refine ⟨_, k9.at e, small' (by rw [List.length_map, List.length_map, List.length_take]; omega), k.trans ((k9.of0).trans (Kp.put (by simp))), ?_⟩
          rw [upd_same, app_len, List.take_add_one, hsg]
          show some (HO.lst ((_ ++ [rd data s]).map V.int)) = some (HO.lst (((ss.take i ++ [s]).map (rd data)).map V.int))
          rw [List.map_append (f := rd data)]
          rfl
        rintro HN ⟨k, etd⟩
        rw [List.length_map, S.len, List.take_length] at etd
        have k := Kp.ownK (Kp.refl H) ntd k

        have B := B.kp k List.not_mem_nil List.not_mem_nil
        have S := S.k0 k
        have eL := k.at eL
        have efr := k.at efr
        have ehd := k.at ehd
        clear ntd k
        refine ⟨_, rfl, _, rfl, td, hd, ss.map (rd data), rfl, etd, ehd, ?_, by rw [List.length_map]; omega, fun HD k => ?_⟩
        · intro z hz
          obtain ⟨s, hs, rfl⟩ := List.mem_map.mp hz
          exact rd_rg (W.ok s hs)
        have B := B.kp k List.not_mem_nil List.not_mem_nil
        have S := S.k0 k
        have eL := k.at eL
        have efr := k.at efr
        have ehd := k.at ehd
        refine ⟨true, rfl, iteF ?_⟩
        refine ⟨_, rfl, _, rfl, L, sp, data, ps, ss, rfl, SqL.of eL, hdl, S, W, hss, fun HE fb k nfb2 efb => ?_⟩
        rw [hfr] at efb
        have B := B.kp k List.not_mem_nil List.not_mem_nil
        have S := S.k0 k
        have eL := k.at eL
        have efr := k.at efr
        have ehd := k.at ehd
        refine ⟨_, rfl, ne_same efb efr ⟨false, rfl, iteF ?_⟩⟩
        exact ⟨_, _, _, _, _, _, data, _, rfl, B, hn2, S, eL, hdl, hB, efr, hfr, ehd⟩

    · rintro σ H6 ⟨v3, v6, v8, v9, v10, v11, data, n, rfl, B, hn, S, eL, hdd, hB, efr, hfr, ehd⟩
      exact q _
end
end K1
end

section
set_option Elab.async false
set_option linter.all false
set_option maxRecDepth 100000
set_option maxHeartbeats 4000000
namespace K1
open PySem PySem.Spec PyProof.Rows L2 Z RT
/-! ### what the top has written -/
theorem all_mk {l : PySem.W.OpenLaw} {w : World} {K : PySem.W.Frag} {h : Heap} {mg : Str → Option Value} {fa cR cO : Addr} (X : K.In h) (G : h.Ns mainGlobals mg) (hfa : mg "law" = some (.ref fa))
    {f0 f1 f2 f3 f4 f5 f6 f7 f8 f9 f10 f11 f12 f13 : Addr}
    {od0 an0 od1 an1 od2 an2 od3 an3 od4 an4 od5 an5 od6 an6 od7 an7 od8 an8 od9 an9 od10 an10 od11 an11 od12 an12 od13 an13 : Option Addr} {sl0 sl1 sl2 sl3 sl4 sl5 sl6 sl7 sl8 sl9 sl10 sl11 sl12 sl13 : Array (Option Value)} {oc0 kV0 dc0 pm0 cd0 ct0 oc1 kV1 dc1 pm1 cd1 ct1 oc2 kV2 dc2 pm2 cd2 ct2 oc3 kV3 dc3 pm3 cd3 ct3 oc4 kV4 dc4 pm4 cd4 ct4 oc5 kV5 dc5 pm5 cd5 ct5 oc6 kV6 dc6 pm6 cd6 ct6 oc7 kV7 dc7 pm7 cd7 ct7 oc8 kV8 dc8 pm8 cd8 ct8 oc9 kV9 dc9 pm9 cd9 ct9 oc10 kV10 dc10 pm10 cd10 ct10 oc11 kV11 dc11 pm11 cd11 ct11 oc12 kV12 dc12 pm12 cd12 ct12 oc13 kV13 dc13 pm13 cd13 ct13 : Value}
    (aR : PySem.W.nsIn K mainGlobals "RecordError" = some (some (.ref cR)))
    (aO : PySem.W.nsIn K mainGlobals "OutOfRange" = some (some (.ref cO)))
    (kO : PySem.W.keepIn K (.ref cO) = true)
    (xO : PySem.W.excIn K cO [.type "ValueError", .type "Exception", .type "BaseException", .type "object"] "ValueError.__new__" = true)
    (sO : PySem.W.subIn K (.ref cO) (.type "BaseException") = some true)
    (tO : PySem.W.typeIn K (.ref cO) = some (.type "type"))
    (a0 : PySem.W.nsIn K mainGlobals "_ones" = some (some (.ref f0)))
    (l0 : K.lookup f0 = some ⟨oc0, od0, .func (PySem.W.fnOf "_ones" "_ones" (defArgs s__ones) (defBody s__ones) (defScope s__ones) .none kV0 dc0 pm0 an0 cd0 ct0), sl0⟩)
    (c0 : PySem.W.codeIn K cd0 "_ones" = true)
    (k0 : PySem.W.keepIn K (.ref f0) = true)
    (a1 : PySem.W.nsIn K mainGlobals "bounds" = some (some (.ref f1)))
    (l1 : K.lookup f1 = some ⟨oc1, od1, .func (PySem.W.fnOf "bounds" "bounds" (defArgs s_bounds) (defBody s_bounds) (defScope s_bounds) .none kV1 dc1 pm1 an1 cd1 ct1), sl1⟩)
    (c1 : PySem.W.codeIn K cd1 "bounds" = true)
    (k1 : PySem.W.keepIn K (.ref f1) = true)
    (a2 : PySem.W.nsIn K mainGlobals "_places" = some (some (.ref f2)))
    (l2 : K.lookup f2 = some ⟨oc2, od2, .func (PySem.W.fnOf "_places" "_places" (defArgs s__places) (defBody s__places) (defScope s__places) .none kV2 dc2 pm2 an2 cd2 ct2), sl2⟩)
    (c2 : PySem.W.codeIn K cd2 "_places" = true)
    (k2 : PySem.W.keepIn K (.ref f2) = true)
    (a3 : PySem.W.nsIn K mainGlobals "_read_number" = some (some (.ref f3)))
    (l3 : K.lookup f3 = some ⟨oc3, od3, .func (PySem.W.fnOf "_read_number" "_read_number" (defArgs s__read_number) (defBody s__read_number) (defScope s__read_number) .none kV3 dc3 pm3 an3 cd3 ct3), sl3⟩)
    (c3 : PySem.W.codeIn K cd3 "_read_number" = true)
    (k3 : PySem.W.keepIn K (.ref f3) = true)
    (a4 : PySem.W.nsIn K mainGlobals "_write_number" = some (some (.ref f4)))
    (l4 : K.lookup f4 = some ⟨oc4, od4, .func (PySem.W.fnOf "_write_number" "_write_number" (defArgs s__write_number) (defBody s__write_number) (defScope s__write_number) .none kV4 dc4 pm4 an4 cd4 ct4), sl4⟩)
    (c4 : PySem.W.codeIn K cd4 "_write_number" = true)
    (k4 : PySem.W.keepIn K (.ref f4) = true)
    (a5 : PySem.W.nsIn K mainGlobals "read_slot" = some (some (.ref f5)))
    (l5 : K.lookup f5 = some ⟨oc5, od5, .func (PySem.W.fnOf "read_slot" "read_slot" (defArgs s_read_slot) (defBody s_read_slot) (defScope s_read_slot) .none kV5 dc5 pm5 an5 cd5 ct5), sl5⟩)
    (c5 : PySem.W.codeIn K cd5 "read_slot" = true)
    (k5 : PySem.W.keepIn K (.ref f5) = true)
    (a6 : PySem.W.nsIn K mainGlobals "write_slot" = some (some (.ref f6)))
    (l6 : K.lookup f6 = some ⟨oc6, od6, .func (PySem.W.fnOf "write_slot" "write_slot" (defArgs s_write_slot) (defBody s_write_slot) (defScope s_write_slot) .none kV6 dc6 pm6 an6 cd6 ct6), sl6⟩)
    (c6 : PySem.W.codeIn K cd6 "write_slot" = true)
    (k6 : PySem.W.keepIn K (.ref f6) = true)
    (a7 : PySem.W.nsIn K mainGlobals "_law_cell" = some (some (.ref f7)))
    (l7 : K.lookup f7 = some ⟨oc7, od7, .func (PySem.W.fnOf "_law_cell" "_law_cell" (defArgs s__law_cell) (defBody s__law_cell) (defScope s__law_cell) .none kV7 dc7 pm7 an7 cd7 ct7), sl7⟩)
    (c7 : PySem.W.codeIn K cd7 "_law_cell" = true)
    (k7 : PySem.W.keepIn K (.ref f7) = true)
    (a8 : PySem.W.nsIn K mainGlobals "_law_list_is" = some (some (.ref f8)))
    (l8 : K.lookup f8 = some ⟨oc8, od8, .func (PySem.W.fnOf "_law_list_is" "_law_list_is" (defArgs s__law_list_is) (defBody s__law_list_is) (defScope s__law_list_is) .none kV8 dc8 pm8 an8 cd8 ct8), sl8⟩)
    (c8 : PySem.W.codeIn K cd8 "_law_list_is" = true)
    (k8 : PySem.W.keepIn K (.ref f8) = true)
    (a9 : PySem.W.nsIn K mainGlobals "_law_digits" = some (some (.ref f9)))
    (l9 : K.lookup f9 = some ⟨oc9, od9, .func (PySem.W.fnOf "_law_digits" "_law_digits" (defArgs s__law_digits) (defBody s__law_digits) (defScope s__law_digits) .none kV9 dc9 pm9 an9 cd9 ct9), sl9⟩)
    (c9 : PySem.W.codeIn K cd9 "_law_digits" = true)
    (k9 : PySem.W.keepIn K (.ref f9) = true)
    (a10 : PySem.W.nsIn K mainGlobals "_law_draw" = some (some (.ref f10)))
    (l10 : K.lookup f10 = some ⟨oc10, od10, .func (PySem.W.fnOf "_law_draw" "_law_draw" (defArgs s__law_draw) (defBody s__law_draw) (defScope s__law_draw) .none kV10 dc10 pm10 an10 cd10 ct10), sl10⟩)
    (c10 : PySem.W.codeIn K cd10 "_law_draw" = true)
    (k10 : PySem.W.keepIn K (.ref f10) = true)
    (a11 : PySem.W.nsIn K mainGlobals "_law_slots" = some (some (.ref f11)))
    (l11 : K.lookup f11 = some ⟨oc11, od11, .func (PySem.W.fnOf "_law_slots" "_law_slots" (defArgs s__law_slots) (defBody s__law_slots) (defScope s__law_slots) .none kV11 dc11 pm11 an11 cd11 ct11), sl11⟩)
    (c11 : PySem.W.codeIn K cd11 "_law_slots" = true)
    (k11 : PySem.W.keepIn K (.ref f11) = true)
    (a12 : PySem.W.nsIn K mainGlobals "_law_free_bits" = some (some (.ref f12)))
    (l12 : K.lookup f12 = some ⟨oc12, od12, .func (PySem.W.fnOf "_law_free_bits" "_law_free_bits" (defArgs s__law_free_bits) (defBody s__law_free_bits) (defScope s__law_free_bits) .none kV12 dc12 pm12 an12 cd12 ct12), sl12⟩)
    (c12 : PySem.W.codeIn K cd12 "_law_free_bits" = true)
    (k12 : PySem.W.keepIn K (.ref f12) = true)
    (a13 : PySem.W.nsIn K mainGlobals "law" = some (some (.ref f13)))
    (l13 : K.lookup f13 = some ⟨oc13, od13, .func (PySem.W.fnOf "law" "law" (defArgs s_law) (defBody s_law) (defScope s_law) .none kV13 dc13 pm13 an13 cd13 ct13), sl13⟩)
    (c13 : PySem.W.codeIn K cd13 "law" = true)
    (k13 : PySem.W.keepIn K (.ref f13) = true)
    (z_list : PySem.W.nsIn K mainGlobals "list" = some none)
    (z_range : PySem.W.nsIn K mainGlobals "range" = some none)
    (z_reversed : PySem.W.nsIn K mainGlobals "reversed" = some none)
    (z_len : PySem.W.nsIn K mainGlobals "len" = some none)
    (z_int : PySem.W.nsIn K mainGlobals "int" = some none)
    (z_repr : PySem.W.nsIn K mainGlobals "repr" = some none)
    (z_isinstance : PySem.W.nsIn K mainGlobals "isinstance" = some none)
    (z_ValueError : PySem.W.nsIn K mainGlobals "ValueError" = some none) :
    ∃ fd : FuncData, (∀ (s : Shared) (v : Value), BindsTo s fd ⟨[v], []⟩ [("script", v)]) ∧ ∀ base : Heap, K.In base → base.Ns mainGlobals mg → FnG l.prog w K mg base (L2.CX l.prog w) 5 fa fd ["script"] (sp_law K) := by
  have e := hfa.symm.trans (PySem.W.mg_of X G a13)
  cases e
  have F0 := fun_mk (st := s__ones) l0 c0 k0
  have b0 := F0.binds (ps := ["width"]) fun _ _ _ _ _ _ us hl => match us, hl with | [_], _ => rfl
  have m0 := PySem.W.mg_of X G a0
  have F1 := fun_mk (st := s_bounds) l1 c1 k1
  have b1 := F1.binds (ps := ["width", "signed"]) fun _ _ _ _ _ _ us hl => match us, hl with | [_, _], _ => rfl
  have m1 := PySem.W.mg_of X G a1
  have F2 := fun_mk (st := s__places) l2 c2 k2
  have b2 := F2.binds (ps := ["offset", "size", "big"]) fun _ _ _ _ _ _ us hl => match us, hl with | [_, _, _], _ => rfl
  have m2 := PySem.W.mg_of X G a2
  have F3 := fun_mk (st := s__read_number) l3 c3 k3
  have b3 := F3.binds (ps := ["data", "offset", "size", "big"]) fun _ _ _ _ _ _ us hl => match us, hl with | [_, _, _, _], _ => rfl
  have m3 := PySem.W.mg_of X G a3
  have F4 := fun_mk (st := s__write_number) l4 c4 k4
  have b4 := F4.binds (ps := ["data", "offset", "size", "big", "number"]) fun _ _ _ _ _ _ us hl => match us, hl with | [_, _, _, _, _], _ => rfl
  have m4 := PySem.W.mg_of X G a4
  have F5 := fun_mk (st := s_read_slot) l5 c5 k5
  have b5 := F5.binds (ps := ["data", "offset", "size", "big", "first", "width", "signed"]) fun _ _ _ _ _ _ us hl => match us, hl with | [_, _, _, _, _, _, _], _ => rfl
  have m5 := PySem.W.mg_of X G a5
  have F6 := fun_mk (st := s_write_slot) l6 c6 k6
  have b6 := F6.binds (ps := ["data", "offset", "size", "big", "first", "width", "signed", "value"]) fun _ _ _ _ _ _ us hl => match us, hl with | [_, _, _, _, _, _, _, _], _ => rfl
  have m6 := PySem.W.mg_of X G a6
  have F7 := fun_mk (st := s__law_cell) l7 c7 k7
  have b7 := F7.binds (ps := ["script", "k"]) fun _ _ _ _ _ _ us hl => match us, hl with | [_, _], _ => rfl
  have m7 := PySem.W.mg_of X G a7
  have F8 := fun_mk (st := s__law_list_is) l8 c8 k8
  have b8 := F8.binds (ps := ["actual", "due"]) fun _ _ _ _ _ _ us hl => match us, hl with | [_, _], _ => rfl
  have m8 := PySem.W.mg_of X G a8
  have F9 := fun_mk (st := s__law_digits) l9 c9 k9
  have b9 := F9.binds (ps := ["script", "first", "last"]) fun _ _ _ _ _ _ us hl => match us, hl with | [_, _, _], _ => rfl
  have m9 := PySem.W.mg_of X G a9
  have F10 := fun_mk (st := s__law_draw) l10 c10 k10
  have b10 := F10.binds (ps := ["box", "many"]) fun _ _ _ _ _ _ us hl => match us, hl with | [_, _], _ => rfl
  have m10 := PySem.W.mg_of X G a10
  have F11 := fun_mk (st := s__law_slots) l11 c11 k11
  have b11 := F11.binds (ps := ["box"]) fun _ _ _ _ _ _ us hl => match us, hl with | [_], _ => rfl
  have m11 := PySem.W.mg_of X G a11
  have F12 := fun_mk (st := s__law_free_bits) l12 c12 k12
  have b12 := F12.binds (ps := ["data", "slots"]) fun _ _ _ _ _ _ us hl => match us, hl with | [_, _], _ => rfl
  have m12 := PySem.W.mg_of X G a12
  have F13 := fun_mk (st := s_law) l13 c13 k13
  have b13 := F13.binds (ps := ["script"]) fun _ _ _ _ _ _ us hl => match us, hl with | [_], _ => rfl
  have m13 := PySem.W.mg_of X G a13
  have T : Tx K mg cR cO := { b_list := PySem.W.mg_none_of X G z_list, b_range := PySem.W.mg_none_of X G z_range, b_reversed := PySem.W.mg_none_of X G z_reversed, b_len := PySem.W.mg_none_of X G z_len, b_int := PySem.W.mg_none_of X G z_int, b_repr := PySem.W.mg_none_of X G z_repr, b_isinstance := PySem.W.mg_none_of X G z_isinstance, b_ValueError := PySem.W.mg_none_of X G z_ValueError, g_RecordError := PySem.W.mg_of X G aR, g_OutOfRange := PySem.W.mg_of X G aO, k_OutOfRange := kO, x_OutOfRange := xO, s_OutOfRange := sO, t_OutOfRange := tO }
  refine ⟨PySem.W.fnOf "law" "law" (defArgs s_law) (defBody s_law) (defScope s_law) .none kV13 dc13 pm13 an13 cd13 ct13, fun s v => .of_eq rfl, fun base _ _ => ?_⟩
  have c__ones := d_ones (P := l.prog) (w := w) (base := base) F0 m0 b0 
  have c_bounds := d_bounds (P := l.prog) (w := w) (base := base) F1 m1 b1 c__ones
  have c__places := d_places (P := l.prog) (w := w) (base := base) F2 m2 b2 T
  have c__read_number := d_read_number (P := l.prog) (w := w) (base := base) F3 m3 b3 T c__places
  have c__write_number := d_write_number (P := l.prog) (w := w) (base := base) F4 m4 b4 c__places
  have c_read_slot := d_read_slot (P := l.prog) (w := w) (base := base) F5 m5 b5 c__ones c_bounds c__read_number
  have c_write_slot := d_write_slot (P := l.prog) (w := w) (base := base) F6 m6 b6 T c__ones c_bounds c__read_number c__write_number
  have c__law_cell := d_cell (P := l.prog) (w := w) (base := base) F7 m7 b7 T
  have c__law_list_is := d_list_is (P := l.prog) (w := w) (base := base) F8 m8 b8 T
  have c__law_digits := d_digits (P := l.prog) (w := w) (base := base) F9 m9 b9 T c__law_cell
  have c__law_draw := d_draw (P := l.prog) (w := w) (base := base) F10 m10 b10 T
  have c__law_slots := d_slots (P := l.prog) (w := w) (base := base) F11 m11 b11 T c__law_draw
  have c__law_free_bits := d_free (P := l.prog) (w := w) (base := base) F12 m12 b12 T
  exact d_law F13 T c__law_digits c__law_draw c__law_slots c__law_free_bits c_read_slot c_bounds c_write_slot c__law_list_is
theorem no_raise {P : Program} : ∀ (w : World) (H : Hp) (s : Shared) (e : Value) (s2 : Shared), L2.CX P w [] H s (fun _ _ _ => False) e s2 → False := fun w H s e s2 h => by
  obtain ⟨_, _, _, _, _, _, _, _, _, _, _, _, z⟩ := h
  exact z.elim
end K1
open PySem PySem.W PyProof.Rows
set_option maxRecDepth 100000 in
set_option maxHeartbeats 0 in
theorem PySem.Challenge.cw_recstore_k01_slots_apart_holds : PySem.Challenge.rw_recstore_k01_slots_apart.Holds := by
  w_on; o_law; k_head; (case hw => w_witness2)
  k_fill
  refine Z.walk_ofG (l := PySem.Challenge.rw_recstore_k01_slots_apart) (n := 63) (k := 5) (x := "script") (CX := fun w => L2.CX PySem.Challenge.rw_recstore_k01_slots_apart.prog w) (sp := fun w => K1.sp_law _) rfl (by decide) rfl ⟨rfl, by decide, by decide⟩ (fun w h Y => PySem.W.kIn_of Y) ?F (fun _ _ a ns hl _ hS => ⟨a, ns, rfl, hS, hl, fun _ => rfl⟩) K1.no_raise
  case F =>
    intro w mg fa h KX G hmg
    refine' K1.all_mk KX G hmg ?aR ?aO ?kO ?xO ?sO ?tO ?a0 ?l0 ?c0 ?k0 ?a1 ?l1 ?c1 ?k1 ?a2 ?l2 ?c2 ?k2 ?a3 ?l3 ?c3 ?k3 ?a4 ?l4 ?c4 ?k4 ?a5 ?l5 ?c5 ?k5 ?a6 ?l6 ?c6 ?k6 ?a7 ?l7 ?c7 ?k7 ?a8 ?l8 ?c8 ?k8 ?a9 ?l9 ?c9 ?k9 ?a10 ?l10 ?c10 ?k10 ?a11 ?l11 ?c11 ?k11 ?a12 ?l12 ?c12 ?k12 ?a13 ?l13 ?c13 ?k13 ?z_list ?z_range ?z_reversed ?z_len ?z_int ?z_repr ?z_isinstance ?z_ValueError
    (case aR => k_is)
    (case aO => k_is)
    (case kO => k_is)
    (case xO => k_exc)
    (case sO => k_is)
    (case tO => k_is)
    (case a0 => k_is)
    (case l0 => k_is)
    (case c0 => k_is)
    (case k0 => k_is)
    (case a1 => k_is)
    (case l1 => k_is)
    (case c1 => k_is)
    (case k1 => k_is)
    (case a2 => k_is)
    (case l2 => k_is)
    (case c2 => k_is)
    (case k2 => k_is)
    (case a3 => k_is)
    (case l3 => k_is)
    (case c3 => k_is)
    (case k3 => k_is)
    (case a4 => k_is)
    (case l4 => k_is)
    (case c4 => k_is)
    (case k4 => k_is)
    (case a5 => k_is)
    (case l5 => k_is)
    (case c5 => k_is)
    (case k5 => k_is)
    (case a6 => k_is)
    (case l6 => k_is)
    (case c6 => k_is)
    (case k6 => k_is)
    (case a7 => k_is)
    (case l7 => k_is)
    (case c7 => k_is)
    (case k7 => k_is)
    (case a8 => k_is)
    (case l8 => k_is)
    (case c8 => k_is)
    (case k8 => k_is)
    (case a9 => k_is)
    (case l9 => k_is)
    (case c9 => k_is)
    (case k9 => k_is)
    (case a10 => k_is)
    (case l10 => k_is)
    (case c10 => k_is)
    (case k10 => k_is)
    (case a11 => k_is)
    (case l11 => k_is)
    (case c11 => k_is)
    (case k11 => k_is)
    (case a12 => k_is)
    (case l12 => k_is)
    (case c12 => k_is)
    (case k12 => k_is)
    (case a13 => k_is)
    (case l13 => k_is)
    (case c13 => k_is)
    (case k13 => k_is)
    (case z_list => k_is)
    (case z_range => k_is)
    (case z_reversed => k_is)
    (case z_len => k_is)
    (case z_int => k_is)
    (case z_repr => k_is)
    (case z_isinstance => k_is)
    (case z_ValueError => k_is)
end
