import PyProof.Rows.All
import Wide.All
import OpenK.AllK
import Wide.FinOn
import HandS.ForMost
import HandS.ForExc
import HandS.Conv
import HandS.Style
import HandS.Flow
import HandS.Rev
import HandS.Walk
import HandS.ExcIs
import HandS.Small
import HandS.RaiseMore
import HandS.Codes
import PyProof.ReprRoads
import PyProof.ReprBulk
import PyProof.FitsInt
import PySem.Builtin.Int.W1All
import PySem.Challenge.RW_recstore_k00_slots_exact
section
set_option Elab.async false
set_option linter.all false
set_option maxRecDepth 100000
set_option maxHeartbeats 2000000
namespace Z
open PySem PySem.Spec PyProof.Rows L2
/-! ### defs whose promise also wants that no repr is under way -/
structure FnG (P : Program) (w : World) (K : PySem.W.Frag) (mg : Str → Option Value) (base : Heap) (CX : CXT) (k : Nat) (f : Addr) (fd : FuncData) (ps : List Str) (sp : Sp) : Prop where
  ln : ∀ vs H Q E, sp vs H Q E → vs.length = ps.length
  go : ∀ (A : Around) (fr : List Env) (s : Shared) (H : Hp) (as : Args) (us : List Value) (vs : List V) (Q : VK) (E : XK),
    Room k A → A.guards = some [] → Env0 P w K mg base A fr s H → BindsTo s fd as (ps.zip us) → Vals vs us → sp vs H Q E →
      codeAny (model P w) A (.call (.ref f) as) (CR CX fr P w H s Q E) s
section
variable {P : Program} {w : World} {K : PySem.W.Frag} {mg : Str → Option Value} {base : Heap} {CX : CXT} {k : Nat}
theorem FnG.of {f : Addr} {fd : FuncData} {ps : List Str} {sp : Sp} (F : FnOk P w K mg base CX k f fd ps sp) : FnG P w K mg base CX k f fd ps sp :=
  ⟨F.len, fun A fr s H as us vs Q E r _ e b v q => F.run A fr s H as us vs Q E r e b v q⟩
/-- the promise by the body -/
theorem fnG_of {x qual : Str} {st : Stmt} {f : Addr} {fd : FuncData} {N ps : List Str} {sp : Sp} (F : L2.Fun K x qual st f fd) (S : FnScope N ps (defScope st))
    (ln : ∀ vs H Q E, sp vs H Q E → vs.length = ps.length)
    (body : ∀ (cdv : Value) (A : Around) (fr : List Env) (s : Shared) (H : Hp) (vs : List V) (Q : VK) (E : XK),
      Room k (A.deeper (envOfC qual (defScope st) s.heap.objs.size f cdv)) → A.guards = some [] → sp vs H Q E →
        ∃ t, PSs (cxOf CX P w K mg base N qual (defScope st) f cdv A fr s H E) (defBody st) t ∧ t { nx := fun _ H' => Q .non H', rt := Q } (start N vs) H) :
    FnG P w K mg base CX (k + 1) f fd ps sp := by
  obtain ⟨oc, od, kV, doc, pm, an, cdv, ct, osl, rfl, lk, hcd⟩ := F.ex
  constructor
  · exact ln
  · intro A fr s H as us vs Q E hr hg e0 hb r hsp
    have hlen := ln _ _ _ _ hsp
    have old : ∀ b o, base.get? b = some o → s.heap.get? b = some o := fun b o e => (e0.bs b o e).1
    have KX : K.In s.heap := e0.mod.kin.keeps old
    have noLim : s.heap.NoLimit := e0.mod.nolimit.keeps old
    have kinds : ∀ y ∈ ps.zip us, (defScope st).names.lookup y.1 = some .local ∨
        ((defScope st).names.lookup y.1 = some .cell ∧ ((cellsFrom (s.heap.objs.size + 1) (defScope st).names []).lookup y.1).isSome = true) := by
      intro y hy
      rcases S.par y.1 (List.of_mem_zip (b := y.2) hy).1 with loc | cel
      · exact Or.inl loc
      · exact Or.inr ⟨cel, PySem.W.cellsFrom_some _ _ _ (Or.inl cel)⟩
    refine codeAny_call_function (hr.depth) (KX _ _ lk) rfl S.co S.gen rfl
      (PySem.W.codeRec_of KX hcd) (hb _ _ _ _ ?_)
    refine wpAny_newFunctionEnv_cells (S.kind) kinds
      (fun env he s1 x => ?_)
    subst he
    refine ⟨noLim.keeps x.toInCall.keep, ?_⟩
    refine codeAny_func ?_
    obtain ⟨t, ht, hq⟩ := body cdv A fr s H vs Q E (hr.deeper _) hg hsp
    have I : Inv (cxOf CX P w K mg base N qual (defScope st) f cdv A fr s H E) [] (start N vs) H s1 := inv_start S hr.hd e0 hlen r x
    refine wpAny_mono (ht.run [] s1 (start N vs) H _ I hq) ?_ ?_
    · intro fl s' hs
      cases fl with
      | next =>
        obtain ⟨σ', H', J, q⟩ := hs
        exact ⟨V.non, H', J.os, J.bare, J.base, J.hok, rfl, q⟩
      | ret u =>
        obtain ⟨v, σ', H', J, rv, q⟩ := hs
        exact ⟨v, H', J.os, J.bare, J.base, J.hok, rv, q⟩
      | brk =>
        obtain ⟨σ', H', J, q⟩ := hs
        exact (show False from q).elim
      | cont =>
        obtain ⟨σ', H', J, q⟩ := hs
        exact (show False from q).elim
    · intro e s' hs
      exact hs
end
section
variable {X : Cx} {CX : CXT} {k : Nat} {f : Addr} {fd : FuncData} {ps : List Str} {sp : Sp} {E : XK} {x : Str} {p pos : Pos} {e : Expr} {es : List Expr} {t : TA}
theorem pe_callG (F : FnG X.prog X.w X.K X.mg X.base CX k f fd ps sp) (hr : Room k X.A) (gu : X.A.guards = some []) (hg : Gl X x) (hm : X.mg x = some (.ref f)) (hk : PySem.W.keepIn X.K (.ref f) = true)
    (hb : Binds X.K fd ps []) (hx : Passes CX X E) (ha : PA X (e :: es) t) (hdb : (x == ("__debug__" : Str)) = false := by decide)
    (he : starEach (e :: es) X.env = (false, eval e X.env) :: starEach es X.env := by rfl) (hpl : (backTo pos (starEach es X.env)).any (·.1) = false := by rfl) :
    PE X (.Call (.Name x p) (e :: es) [] pos) (tCall sp [] E t) := by
  constructor
  intro pins s σ H Q I h
  apply wpAny_Call_Name_kw (ld_glob I hg hm ?_ hdb)
  refine PySem.W.callWith_K (h₀ := X.base) I.ok.mod.kin hk (thn (ha.run pos pins s σ H _ I h) ?_) he hpl
  intro us s1 got
  obtain ⟨vs, H1, I1, r, q⟩ := got
  rw [List.append_nil] at q
  refine ⟨I1.kIn, ?_⟩
  have hl : us.length = ps.length := by
    rw [← r.length]
    exact F.ln _ _ _ _ q
  have b := hb s1 us I1.kIn (by rw [List.append_nil]; exact hl)
  rw [List.append_nil] at b
  refine wpAny_call (codeAny_mono (F.go X.A X.stack s1 H1 ⟨us, []⟩ us vs Q E hr gu I1.env0 b r q) ?_)
  intro res s' hq
  cases res with
  | error err => exact hx pins σ H1 s1 err s' I1 hq
  | ok fl =>
    cases fl with
    | ret u => exact I1.after hq
    | next => exact hq.elim
    | brk => exact hq.elim
    | cont => exact hq.elim
end
/-! ### repr of data -/
def rRepr (K : PySem.W.Frag) : List V → Hp → VK → Prop := fun xs H Q => ∃ x d, xs = [x] ∧ Dp K H x d ∧ d.showable = true ∧ d.hasDict = false ∧ d.depth ≤ 60 ∧ d.shown.length ≤ sizeLine ∧ Q (.str d.shown) H
theorem call_repr {X : Cx} (gu : X.A.guards = some []) (hu : X.A.units + 64 < cLine) : CallR X (.builtin "repr") (rRepr X.K) := by
  intro pins s σ H xs us Q I r h
  obtain ⟨x, d, rfl, hd, hs, hn, hdp, hz, q⟩ := h
  obtain ⟨u, rfl, rx⟩ : ∃ u, us = [u] ∧ RelV x u := by
    cases r with
    | cons a b => cases b; exact ⟨_, rfl, a⟩
  cases hd with
  | non =>
    obtain rfl : u = Value.none := rx
    exact PySem.P.repr_of_none ⟨.str _, H, I.tok _, ⟨_, rfl⟩, by rw [PyData.shown_none] at q; exact q⟩
  | bl b =>
    obtain rfl : u = Value.bool b := rx
    exact PySem.P.repr_of_bool ⟨.str _, H, I.tok _, ⟨_, rfl⟩, by rw [PyData.shown_bool] at q; exact q⟩
  | int i =>
    obtain ⟨t, rfl⟩ := rx
    have hi : i.natAbs.log2 < 1920 := by
      have z : decide (i.natAbs.log2 < 1920) = true := by
        simpa only [PyData.showable] using hs
      exact of_decide_eq_true z
    exact PySem.P.repr_of_int hi ⟨.str _, H, I.tok _, ⟨_, rfl⟩, by rw [PyData.shown_int] at q; exact q⟩
  | str z =>
    obtain ⟨t, rfl⟩ := rx
    rw [PyData.shown_str] at q hz
    exact PySem.P.repr_of_str ⟨.str _, H, I.tok _, ⟨_, rfl⟩, q⟩ hz
  | lst sq al =>
    obtain rfl : u = Value.ref _ := rx
    obtain ⟨as, rr⟩ := Dp.reads I _ _ _ (Dp.lst sq al) rfl
    exact repr_of_reads' rr hs (PyData.noDict_hsm hn) gu (by omega) (fun _ _ e => e) (fun h' u tk hk => ⟨.str _, H, I.kept (t' := tk) hk, ⟨_, rfl⟩, q⟩) hz
  | tup sq al =>
    obtain rfl : u = Value.ref _ := rx
    obtain ⟨as, rr⟩ := Dp.reads I _ _ _ (Dp.tup sq al) rfl
    exact repr_of_reads' rr hs (PyData.noDict_hsm hn) gu (by omega) (fun _ _ e => e) (fun h' u tk hk => ⟨.str _, H, I.kept (t' := tk) hk, ⟨_, rfl⟩, q⟩) hz
/-! ### an own exception without arguments -/
theorem pmk_own0 {X : Cx} {C : Addr} {bmB : List Value} {B newId initId : String} {x : Str} {p pos : Pos} (F : ExcBaseFacts B newId initId bmB) (q : PySem.W.excIn X.K C bmB newId = true)
    (gC : X.mg x = some (.ref C)) (kC : PySem.W.keepIn X.K (.ref C) = true) (r : Raises X (.ref C)) (hg : Gl X x) (hdb : (x == ("__debug__" : Str)) = false := by decide) :
    PMk X (.Call (.Name x p) [] [] pos) (fun _ H Q => Q (.ref C) none H) := by
  intro pins s σ H Q I h
  apply wpAny_Call_Name_kw (ld_glob I hg gC ?_ hdb)
  refine PySem.W.callWith_K0 I.kIn kC ?_
  show wpAny _ _ (call (.ref C) []) _ _ _
  obtain ⟨bm, N, nm, qn, bs, hdct, sn, sub, ab, col, dd, k0, k1, k2, k3, k5, mN, hC, hN, hni, T⟩ := exc_obj I.kIn q
  refine wpAny_call_exc_subT F T hC hN hni (fun h' e hm => ?_) (Nat.zero_le _)
  exact mk_of I hm r h (I.hok.gone hm.new)
end Z
end

section
set_option Elab.async false
set_option linter.all false
set_option maxRecDepth 100000
set_option maxHeartbeats 2000000
namespace Z
open PySem PySem.Spec PyProof.Rows L2
/-! ### the end of a law whose promise wants that no repr is under way -/
theorem law_goes {P : Program} {w : World} {K : PySem.W.Frag} {mg mb : Str → Option Value} {CX : CXT} {k : Nat} {fa a : Addr} {fd : FuncData} {x : Str} {sp : Sp} {t : Shared} {vs : List Value} {ns : List Int}
    (KX : K.In t.heap) (g1 : t.heap.Ns mainGlobals mg) (g2 : t.heap.Ns builtinsNs mb) (g3 : ∀ x : Str, x ≠ "__name__" → mb x = bootBuiltins x) (lim : t.heap.NoLimit) (gn : t.gens = #[])
    (at_a : t.heap.get? a = some { cls := .type "list", data := .seq vs.toArray }) (its : IntsAre vs ns) (short : ns.length ≤ sizeLine) (room : Room k callerA)
    (F : ∀ base : Heap, K.In base → base.Ns mainGlobals mg → FnG P w K mg base CX k fa fd [x] sp) (bd : ∀ (s : Shared) (u : Value), BindsTo s fd ⟨[u], []⟩ [(x, u)])
    (want : ∀ H : Hp, Only H → SqL K H a (ns.map V.int) → sp [.ref a] H (fun v _ => v = .bl true) fun _ _ _ => False)
    (calm : ∀ H e s', CX [] H t (fun _ _ _ => False) e s' → False) :
    codeAny (model P w) callerA (.call (.ref fa) ⟨[.ref a], []⟩) (fun r s' => r = .ok (.ret (.bool true)) ∧ OldK t.heap s'.heap ∧ s'.os = t.os ∧ AllBare s'.gens) t := by
  have rel := vals_ints its
  have same_len := its.length
  obtain ⟨H, hH, hS⟩ : ∃ H : Hp, (∀ b u, H b = some u → b = a ∧ K.lookup a = none ∧ u = .frz { cls := .type "list", data := .seq vs.toArray } (.lst (ns.map V.int))) ∧ SqL K H a (ns.map V.int) := by
    cases look : K.lookup a with
    | none =>
      refine ⟨fun b => if b = a then some (.frz { cls := .type "list", data := .seq vs.toArray } (.lst (ns.map V.int))) else none, ?_, ?_⟩
      · intro b u e
        by_cases hb : b = a
        · have e' := (if_pos hb).symm.trans e
          exact ⟨hb, rfl, (Option.some.inj e').symm⟩
        · have e' := (if_neg hb).symm.trans e
          cases e'
      · exact Or.inl (Or.inr ⟨_, if_pos rfl⟩)
    | some o =>
      have e := KX a o look
      rw [at_a] at e
      cases e
      refine ⟨fun _ => none, fun b u e => ?_, ?_⟩
      · have e' : (none : Option HO) = some u := e
        cases e'
      · exact Or.inr ⟨_, vs.toArray, _, look, rfl, rfl, rfl, by rw [List.size_toArray, same_len]; exact short, by simpa using rel⟩
  have only : Only H := fun b => by
    cases e : H b with
    | none => exact Or.inl rfl
    | some u =>
      obtain ⟨_, _, hu⟩ := hH b u e
      exact Or.inr ⟨_, _, by rw [hu]⟩
  have held : HOk P w H t.heap := fun b u e => by
    obtain ⟨hb, _, hu⟩ := hH b u e
    subst hb hu
    exact ⟨at_a, by rw [List.length_map]; exact short, vs, _, rel, at_a⟩
  have keep : ∀ {b : Addr} {o : Obj}, t.heap.get? b = some o → H b = none → (hidT t.heap H).get? b = some o := fun e n => hidT_get e n
  have ofK : K.In (hidT t.heap H) := fun b o e => keep (KX b o e) (by
    cases q : H b with
    | none => rfl
    | some u =>
      obtain ⟨hb, no, _⟩ := hH b u q
      rw [hb, no] at e
      cases e)
  have ofNs : ∀ {b : Addr} {m : Str → Option Value}, t.heap.Ns b m → (hidT t.heap H).Ns b m := by
    intro b m hb
    obtain ⟨o, es, ep, e, d, r⟩ := hb
    refine ⟨o, es, ep, keep e ?_, d, r⟩
    cases q : H b with
    | none => rfl
    | some u =>
      obtain ⟨hb, _, _⟩ := hH b u q
      rw [hb, at_a] at e
      cases e
      cases d
  have M : Mod K mg (hidT t.heap H) := by
    obtain ⟨mc, c1, c2⟩ := lim
    exact ⟨ofK, ofNs g1, ⟨mb, ofNs g2, g3⟩, mc, ofNs c1, c2⟩
  have e0 : Env0 P w K mg (hidT t.heap H) callerA [] t H := by
    refine ⟨rfl, M, fun b o e => of_hidT e, Nat.le_of_eq (hidT_size _ _), trivial, ?_, held, AllBare.of_eq gn⟩
    intro b hb
    exact absurd (show b ∈ ([] : List Addr) from hb) List.not_mem_nil
  refine codeAny_mono ((F _ ofK (ofNs g1)).go callerA [] t H ⟨[.ref a], []⟩ [.ref a] [.ref a] _ _ room rfl e0 (bd t (.ref a)) (.cons rfl .nil) (want H only hS)) ?_
  intro r s' h
  cases r with
  | error e => exact (calm H e s' h).elim
  | ok fl =>
    cases fl with
    | next => exact (show False from h).elim
    | brk => exact (show False from h).elim
    | cont => exact (show False from h).elim
    | ret u =>
      obtain ⟨v, H', os, bare, un, held', rv, q⟩ := h
      have q' : v = V.bl true := q
      subst q'
      obtain rfl : u = Value.bool true := rv
      refine ⟨rfl, OldK.of_keep ?_, os, bare⟩
      intro b o e
      cases q : H b with
      | none => exact un.keep b o e q (show b ∉ ([] : List Addr) from List.not_mem_nil) List.not_mem_nil
      | some u =>
        obtain ⟨_, _, hu⟩ := hH b u q
        rw [hu] at q
        have z2 := un.frzs b _ _ q
        have e1 := (held b _ q).1
        have e2 := (held' b _ z2).1
        rw [e] at e1
        cases e1
        exact e2
theorem walk_ofG {l : PySem.W.OpenLaw} {n k : Nat} {q : Program} {loose : List Str} {XP : (Str → Option Value) → Heap → Prop} {YP : World → Heap → Prop} {d : DefRec} {K : Params → PySem.W.Frag} {CX : World → CXT} {sp : World → Sp} {x : Str}
    (hn : l.most = some n) (hn2 : n ≤ sizeLine) (hdf : d.params.defaults = []) (hr : Room k callerA)
    (hY : ∀ (w : World) (h : Heap), YP w h → (K w.params).In h)
    (F : ∀ (w : World) (mg : Str → Option Value) (fa : Addr) (h : Heap), (K w.params).In h → h.Ns mainGlobals mg → mg d.name = some (.ref fa) →
      ∃ fd : FuncData, (∀ (s : Shared) (u : Value), BindsTo s fd ⟨[u], []⟩ [(x, u)]) ∧
        ∀ base : Heap, (K w.params).In base → base.Ns mainGlobals mg → FnG l.prog w (K w.params) mg base (CX w) k fa fd [x] (sp w))
    (hsp : ∀ (w : World) (H : Hp) (a : Addr) (ns : List Int), ns.length ≤ n → Only H → SqL (K w.params) H a (ns.map V.int) → sp w [.ref a] H (fun v _ => v = .bl true) fun _ _ _ => False)
    (hCX : ∀ (w : World) (H : Hp) (s : Shared) (e : Value) (s' : Shared), CX w [] H s (fun _ _ _ => False) e s' → False) :
    PySem.W.WalkO q loose XP YP l.row.toRowW d [] (fun f vs => PySem.call f vs) := by
  apply Att.attach_call hn hdf
  intro w s₀ t mg mb fa o pm cd doc a vs ns G Y _ _ _ hmg hobj hints hlen hg
  obtain ⟨fd, hb, hF⟩ := F w mg fa _ (hY w _ Y) G.T.g hmg
  exact law_goes (hY w _ Y) G.T.g G.T.b G.T.builtins G.T.nolimit hg hobj hints (Nat.le_trans hlen hn2) hr hF hb
    (fun H hO hS => hsp w H a ns hlen hO hS) (fun H e s' => hCX w H t e s')
end Z
end

section
set_option Elab.async false
set_option linter.all false
set_option maxRecDepth 100000
set_option maxHeartbeats 2000000
namespace Z
open PySem PySem.Spec PyProof.Rows L2
theorem hu64 {k : Nat} {A : Around} (hr : Room k A) : A.units + 64 < cLine := by
  have h := hr.un
  omega
/-- a def of the module by its name -/
structure Df (P : Program) (w : World) (K : PySem.W.Frag) (mg : Str → Option Value) (base : Heap) (k : Nat) (x : Str) (sp : Sp) : Prop where
  ex : ∃ (f : Addr) (fd : FuncData) (ps : List Str), FnG P w K mg base (L2.CX P w) k f fd ps sp ∧ mg x = some (.ref f) ∧ PySem.W.keepIn K (.ref f) = true ∧ Binds K fd ps []
section
variable {P : Program} {w : World} {K : PySem.W.Frag} {mg : Str → Option Value} {base : Heap} {k : Nat}
theorem df_of {x : Str} {st : Stmt} {f : Addr} {fd : FuncData} {N ps : List Str} {sp : Sp} (F : L2.Fun K x x st f fd) (hm : mg x = some (.ref f)) (b : Binds K fd ps []) (S : FnScope N ps (defScope st))
    (ln : ∀ vs H Q E, sp vs H Q E → vs.length = ps.length)
    (body : ∀ (cdv : Value) (A : Around) (fr : List Env) (s : Shared) (H : Hp) (vs : List V) (Q : VK) (E : XK),
      Room k (A.deeper (envOfC x (defScope st) s.heap.objs.size f cdv)) → A.guards = some [] → sp vs H Q E →
        ∃ t, PSs (cxOf (L2.CX P w) P w K mg base N x (defScope st) f cdv A fr s H E) (defBody st) t ∧ t { nx := fun _ H' => Q .non H', rt := Q } (start N vs) H) :
    Df P w K mg base (k + 1) x sp := ⟨f, fd, ps, fnG_of F S ln body, hm, F.kp, b⟩
/-- for a def that lets nothing out -/
theorem df_0 {x : Str} {st : Stmt} {f : Addr} {fd : FuncData} {N ps : List Str} {sp : Sp} (F : L2.Fun K x x st f fd) (hm : mg x = some (.ref f)) (b : Binds K fd ps []) (S : FnScope N ps (defScope st))
    (ln : ∀ vs H Q E, sp vs H Q E → vs.length = ps.length)
    (body : ∀ (cdv : Value) (A : Around) (fr : List Env) (s : Shared) (H : Hp) (vs : List V) (Q : VK) (E : XK),
      Room k (A.deeper (envOfC x (defScope st) s.heap.objs.size f cdv)) → A.guards = some [] → sp vs H Q E →
        ∃ t, PSs (cxOf (L2.CX P w) P w K mg base N x (defScope st) f cdv A fr s H E).nox (defBody st) t ∧ t { nx := fun _ H' => Q .non H', rt := Q } (start N vs) H) :
    Df P w K mg base (k + 1) x sp := df_of F hm b S ln fun cdv A fr s H vs Q E hr hg h => by
  obtain ⟨t, ht, q⟩ := body cdv A fr s H vs Q E hr hg h
  exact ⟨t, ht.nox, q⟩
end
section
variable {X : Cx} {j k : Nat} {sp : Sp} {E : XK} {x : Str} {p pos : Pos} {e : Expr} {es : List Expr} {t : TA}
def tF (sp : Sp) (t : TA) : TE := fun σ H Q => t σ H fun vs H1 => sp vs H1 Q (fun _ _ _ => False)
theorem pe_f (c : Df X.prog X.w X.K X.mg X.base k x sp) (hr : Room j X.A) (hk : k ≤ j) (gu : X.A.guards = some []) (hg : Gl X x) (ha : PA X (e :: es) t)
    (hdb : (x == ("__debug__" : Str)) = false := by decide) (he : starEach (e :: es) X.env = (false, eval e X.env) :: starEach es X.env := by rfl) (hpl : (backTo pos (starEach es X.env)).any (·.1) = false := by rfl) :
    PE X (.Call (.Name x p) (e :: es) [] pos) (tF sp t) := by
  obtain ⟨f, fd, ps, F, hm, kp, b⟩ := c.ex
  constructor
  intro pins s σ H Q I h
  refine (pe_callG (E := fun _ _ _ => False) F (hr.mono hk) gu hg hm kp b passL ha hdb he hpl).run pins s σ H Q I ?_
  have e1 : (fun (vs : List V) (H1 : Hp) => sp (vs ++ []) H1 Q fun _ _ _ => False) = fun vs H1 => sp vs H1 Q fun _ _ _ => False := by
    funext vs H1
    rw [List.append_nil]
  show t σ H fun vs H1 => sp (vs ++ []) H1 Q fun _ _ _ => False
  rw [e1]
  exact h
/-- a call in a try -/
def tFS (sp : Sp) (E : L2.St → XK) (t : TA) : TE := fun σ H Q => t σ H fun vs H1 => sp vs H1 Q (E σ)
theorem pe_fS {E : L2.St → XK} (c : Df X.prog X.w X.K X.mg X.base k x sp) (hr : Room j X.A) (hk : k ≤ j) (gu : X.A.guards = some []) (hg : Gl X x) (hx : ∀ σ, PassesAt (L2.CX X.prog X.w) X σ (E σ)) (ha : PA X (e :: es) t)
    (hdb : (x == ("__debug__" : Str)) = false := by decide) (he : starEach (e :: es) X.env = (false, eval e X.env) :: starEach es X.env := by rfl) (hpl : (backTo pos (starEach es X.env)).any (·.1) = false := by rfl) :
    PE X (.Call (.Name x p) (e :: es) [] pos) (tFS sp E t) := by
  obtain ⟨f, fd, ps, F, hm, kp, b⟩ := c.ex
  constructor
  intro pins s σ H Q I h
  apply wpAny_Call_Name_kw (ld_glob I hg hm ?_ hdb)
  refine PySem.W.callWith_K (h₀ := X.base) I.ok.mod.kin kp (thn (ha.run pos pins s σ H _ I h) ?_) he hpl
  intro us s1 got
  obtain ⟨vs, H1, I1, r, q⟩ := got
  refine ⟨I1.kIn, ?_⟩
  have hl : us.length = ps.length := by
    rw [← r.length]
    exact F.ln _ _ _ _ q
  have bb := b s1 us I1.kIn (by rw [List.append_nil]; exact hl)
  rw [List.append_nil] at bb
  refine wpAny_call (codeAny_mono (F.go X.A X.stack s1 H1 ⟨us, []⟩ us vs Q (E σ) (hr.mono hk) gu I1.env0 bb r q) ?_)
  intro res s' hq
  cases res with
  | error err => exact hx σ pins H1 s1 err s' I1 hq
  | ok fl =>
    cases fl with
    | ret u => exact I1.after hq
    | next => exact hq.elim
    | brk => exact hq.elim
    | cont => exact hq.elim
end
/-! ### what stays as it was -/
def Kp (as : List Addr) (H H' : Hp) : Prop := ∀ b o, H b = some o → b ∉ as → H' b = some o
theorem Kp.refl {as : List Addr} (H : Hp) : Kp as H H := fun _ _ e _ => e
theorem Kp.trans {as : List Addr} {H H1 H2 : Hp} (a : Kp as H H1) (b : Kp as H1 H2) : Kp as H H2 := fun c o e n => b c o (a c o e n) n
theorem Kp.more {as bs : List Addr} {H H1 : Hp} (a : Kp as H H1) (h : ∀ x ∈ as, x ∈ bs) : Kp bs H H1 := fun c o e n => a c o e fun z => n (h c z)
theorem Kp.of0 {bs : List Addr} {H H1 : Hp} (a : Kp [] H H1) : Kp bs H H1 := a.more fun _ z => by cases z
theorem Kp.new {as : List Addr} {H : Hp} {p : Addr} {o : HO} (h : H p = none) : Kp as H (upd H p o) := fun b x e _ => by
  rw [upd_ne (ne_of_none e h)]
  exact e
theorem Kp.put {as : List Addr} {H : Hp} {p : Addr} {o : HO} (h : p ∈ as) : Kp as H (upd H p o) := fun b x e n => by
  rw [upd_ne (fun z => n (by rw [z]; exact h))]
  exact e
/-- an object that was new may change -/
theorem Kp.own {as : List Addr} {H H1 : Hp} {p : Addr} {o : HO} (k : Kp as H H1) (h : H p = none) : Kp as H (upd H1 p o) := fun b x e n => by
  rw [upd_ne (ne_of_none e h)]
  exact k b x e n
theorem Kp.ownK {as : List Addr} {H H1 H2 : Hp} {p : Addr} (k : Kp as H H1) (h : H p = none) (k2 : Kp (p :: as) H1 H2) : Kp as H H2 := fun b x e n => by
  refine k2 b x (k b x e n) fun z => ?_
  rcases List.mem_cons.mp z with z | z
  · exact ne_of_none e h z
  · exact n z
theorem Kp.at {H H1 : Hp} {b : Addr} {o : HO} (k : Kp [] H H1) (e : H b = some o) : H1 b = some o := k b o e List.not_mem_nil
theorem Kp.seq {K : PySem.W.Frag} {as : List Addr} {H H' : Hp} {a : Addr} {xs : List V} (k : Kp as H H') (n : a ∉ as) (h : SqL K H a xs) : SqL K H' a xs := by
  rcases h with (h | ⟨o, h⟩) | h
  · exact .inl (.inl (k _ _ h n))
  · exact .inl (.inr ⟨o, k _ _ h n⟩)
  · exact .inr h
theorem Kp.seqT {K : PySem.W.Frag} {as : List Addr} {H H' : Hp} {a : Addr} {xs : List V} (k : Kp as H H') (n : a ∉ as) (h : SqT K H a xs) : SqT K H' a xs := by
  rcases h with (h | ⟨o, h⟩) | h
  · exact .inl (.inl (k _ _ h n))
  · exact .inl (.inr ⟨o, k _ _ h n⟩)
  · exact .inr h
/-- what is free behind was free before -/
theorem Kp.free {as : List Addr} {H H' : Hp} {p : Addr} (k : Kp as H H') (e : H' p = none) (n : p ∉ as) : H p = none := by
  cases q : H p with
  | none => rfl
  | some o =>
    rw [k p o q n] at e
    cases e
theorem small {n : Nat} (h : n ≤ 100000) : n ≤ sizeLine := Nat.le_trans h (by decide)
theorem small' {n : Nat} (h : n < 100000) : n < sizeLine := Nat.lt_of_lt_of_le h (by decide)
end Z
end

section
set_option Elab.async false
set_option linter.all false
set_option maxRecDepth 100000
set_option maxHeartbeats 2000000
namespace Z
open PySem PySem.Spec PyProof.Rows L2
/-! ### data that repr can tell -/
structure Okd (d : PyData) : Prop where
  sh : d.showable = true
  nd : d.hasDict = false
  dp : d.depth ≤ 60
  sz : d.shown.length ≤ sizeLine
theorem int_show {z : Int} (h : z.natAbs < 10 ^ 12) : (PyData.int z).showable = true ∧ (PyData.int z).leavesShort 13 = true := by
  have e : z.natAbs.log2 < 1920 := by
    by_cases h0 : z.natAbs = 0
    · rw [h0]
      decide
    · rw [Nat.log2_lt h0]
      exact Nat.lt_of_lt_of_le h (Nat.le_trans (show 10 ^ 12 ≤ 2 ^ 40 by decide) (Nat.pow_le_pow_right (by decide) (by decide)))
  refine ⟨by simp only [PyData.showable, decide_eq_true_eq]; exact e, ?_⟩
  simp only [PyData.leavesShort, decide_eq_true_eq, PyData.shown_int]
  have z2 := int_text_length_le10 (show 0 < 12 by decide) h
  rw [PySem.ofString_length]
  exact z2
theorem ints_show : ∀ {l : List Int}, (∀ z ∈ l, z.natAbs < 10 ^ 12) → PyData.showableAll (l.map .int) = true ∧ PyData.leavesShortAll 13 (l.map .int) = true ∧ PyData.hasDictAll (l.map .int) = false ∧ PyData.depthAll (l.map .int) = 0 ∧ PyData.bulkAll (l.map .int) = l.length
  | [], _ => ⟨rfl, rfl, rfl, rfl, rfl⟩
  | z :: r, h => by
    obtain ⟨h1, h2, h3, h4, h5⟩ := ints_show (l := r) fun x hx => h x (List.mem_cons_of_mem _ hx)
    obtain ⟨g1, g2⟩ := int_show (h z List.mem_cons_self)
    refine ⟨?_, ?_, ?_, ?_, ?_⟩
    · simp only [List.map_cons, PyData.showableAll, g1, h1, Bool.and_self]
    · simp only [List.map_cons, PyData.leavesShortAll, g2, h2, Bool.and_self]
    · simp only [List.map_cons, PyData.hasDictAll, PyData.hasDict, h3, Bool.or_self]
    · simp only [List.map_cons, PyData.depthAll, PyData.depth, h4, Nat.max_self]
    · simp only [List.map_cons, PyData.bulkAll, PyData.bulk, h5, List.length_cons]
      omega
theorem Okd.int {z : Int} (h : z.natAbs < 10 ^ 12) : Okd (.int z) := by
  obtain ⟨h1, h2⟩ := int_show h
  exact ⟨h1, by simp only [PyData.hasDict], by simp only [PyData.depth]; omega, PyData.shown_fits_bulk (by decide) (by decide) h2 (by simp only [PyData.bulk]; decide)⟩
theorem Okd.tup {l : List Int} (h : ∀ z ∈ l, z.natAbs < 10 ^ 12) (hl : l.length ≤ 1000) : Okd (.tuple (l.map .int)) := by
  obtain ⟨h1, h2, h3, h4, h5⟩ := ints_show h
  refine ⟨by simp only [PyData.showable, h1], by simp only [PyData.hasDict, h3], by simp only [PyData.depth, h4]; omega, PyData.shown_fits_bulk (B := 13) (by decide) (by decide) ?_ ?_⟩
  · simp only [PyData.leavesShort, h2]
  · simp only [PyData.bulk, h5]
    exact Nat.le_trans hl (by decide)
theorem Okd.lst {l : List Int} (h : ∀ z ∈ l, z.natAbs < 10 ^ 12) (hl : l.length ≤ 1000) : Okd (.list (l.map .int)) := by
  obtain ⟨h1, h2, h3, h4, h5⟩ := ints_show h
  refine ⟨by simp only [PyData.showable, h1], by simp only [PyData.hasDict, h3], by simp only [PyData.depth, h4]; omega, PyData.shown_fits_bulk (B := 13) (by decide) (by decide) ?_ ?_⟩
  · simp only [PyData.leavesShort, h2]
  · simp only [PyData.bulk, h5]
    exact Nat.le_trans hl (by decide)
theorem dp_ints {K : PySem.W.Frag} {H : Hp} : ∀ l : List Int, DpAll K H (l.map V.int) (l.map .int)
  | [] => .nil
  | z :: r => .cons (.int z) (dp_ints r)
theorem canLay_ints : ∀ l : List Int, PyData.canLayAll0 (l.map .int) = true
  | [] => rfl
  | z :: r => by simp only [List.map_cons, PyData.canLayAll0, PyData.canLay0, canLay_ints r, Bool.and_self]
theorem depth_ints : ∀ l : List Int, PyData.depthAll (l.map .int) = 0
  | [] => rfl
  | z :: r => by simp only [List.map_cons, PyData.depthAll, PyData.depth, depth_ints r, Nat.max_self]
theorem shaped_ints (l : List Int) : SeqAt.shaped (.list (l.map .int)) = true := by
  simp only [SeqAt.shaped, PyData.canLay0, PyData.depth, canLay_ints, depth_ints, Bool.true_and, decide_eq_true_eq]
  omega
/-- an item of a list, the written part told by name (within a try, a comprehension) -/
theorem ix_listK {X : Cx} (K : PySem.W.Frag) (h : X.K = K) : IxR X (rIxL K) := by
  subst h
  exact ix_list
/-! ### isinstance of a caught error, whatever it is -/
theorem call_isE0 {X : Cx} {a : Addr} {oe : Obj} {cls : Value} {d : Option Addr} {pn : List (Addr × Obj)} (hz : Zc cls d oe) (hf : ∃ vs, oe.data = .fields vs) :
    CallR (X.suite a ((a, oe) :: pn)) (.builtin "isinstance") (fun xs H Q => ∃ D : Addr, cls = .ref D ∧ d = none ∧ ExcC X.K D ∧ rIsE X.K D a xs H Q) := by
  intro pins s σ H xs us Q I r h
  obtain ⟨D, rfl, rfl, C, q⟩ := h
  exact call_isE C hz hf pins s σ H xs us Q I r q
end Z
end

section
set_option Elab.async false
set_option linter.all false
set_option maxRecDepth 100000
set_option maxHeartbeats 2000000
namespace Z
open PySem PySem.Spec PyProof.Rows L2
/-! ### rules whose readings name no changed heap: it is told by what it keeps -/
/-- a new object: its address, the heap behind -/
def Nw (H : Hp) (o : HO) (Q : VK) : Prop := ∀ p H2, H p = none → Kp [] H H2 → H2 p = some o → Q (.ref p) H2
theorem Nw.of {H : Hp} {o : HO} {Q : VK} (h : Nw H o Q) : ∀ p, H p = none → Q (.ref p) (upd H p o) := fun p np => h p _ np (Kp.new np) upd_same
/-- the object at a becomes o -/
def Ch (H : Hp) (a : Addr) (o : HO) (R : Hp → Prop) : Prop := ∀ H2, Kp [a] H H2 → H2 a = some o → R H2
theorem Ch.of {H : Hp} {a : Addr} {o : HO} {R : Hp → Prop} (h : Ch H a o R) : R (upd H a o) := h _ (Kp.put (by simp)) upd_same
section
variable {X : Cx} {e : Expr} {es : List Expr} {ta : TA} {te : TE} {pos : Pos} (K : PySem.W.Frag)
theorem PE.wk {t t' : TE} (h : PE X e t) (i : ∀ σ H Q, t' σ H Q → t σ H Q) : PE X e t' := ⟨fun pins s σ H Q I q => h.run pins s σ H Q I (i σ H Q q)⟩
theorem OpR.wk {f : Value → Value → Sem Value} {r r' : R2} (h : OpR X f r) (i : ∀ x y H Q, r' x y H Q → r x y H Q) : OpR X f r' := fun pins s σ H x y v u Q I rx ry q => h pins s σ H x y v u Q I rx ry (i x y H Q q)
theorem CallR.wk {f : Value} {r r' : List V → Hp → VK → Prop} (h : CallR X f r) (i : ∀ xs H Q, r' xs H Q → r xs H Q) : CallR X f r' := fun pins s σ H xs us Q I r1 q => h pins s σ H xs us Q I r1 (i xs H Q q)
theorem MtM.wk {id : String} {r r' : V → List V → Hp → VK → Prop} (h : MtM X id r) (i : ∀ x xs H Q, r' x xs H Q → r x xs H Q) : MtM X id r' := fun pins s σ H x xs v us Q I r1 r2 q => h pins s σ H x xs v us Q I r1 r2 (i x xs H Q q)
def tLstK (t : TA) : TE := fun σ H Q => t σ H fun xs H1 => xs.length ≤ 100000 ∧ Nw H1 (.lst xs) Q
def tTupK (t : TA) : TE := fun σ H Q => t σ H fun xs H1 => xs.length ≤ 100000 ∧ Nw H1 (.tup xs) Q
/-- what an argument list's reading hands on may be weakened -/
theorem PA.lift {t : TA} (h : PA X es t) {G G' : List V → Hp → Prop} (i : ∀ xs H, G' xs H → G xs H) (pins : List (Addr × Obj)) (s : Shared) (σ : L2.St) (H : Hp) (I : Inv X pins σ H s) (q : t σ H G') :
    wpAny (model X.prog X.w) X.A (spliced (backTo pos (starEach es X.env))) (AP X pins σ G) X.xe s := wpAny_mono (h.run pos pins s σ H G' I q) (fun us s' ⟨vs, H', J, r, g⟩ => ⟨vs, H', J, r, i vs H' g⟩) fun _ _ z => z
theorem pe_lstK {q : Pos} (ha : PA X es ta) : PE X (.List es q) (tLstK ta) := by
  have w : PA X es (fun σ H G => ∃ G' : List V → Hp → Prop, ta σ H G' ∧ ∀ xs H1, G' xs H1 → G xs H1) :=
    ⟨fun pos pins s σ H G I ⟨G', q, i⟩ => PA.lift (pos := pos) ha i pins s σ H I q⟩
  refine PE.wk (pe_lst w) fun σ H Q q => ?_
  exact ⟨_, q, fun xs H1 ⟨h1, h2⟩ => ⟨small h1, h2.of⟩⟩
theorem pe_tupK {k : Nat} {q : Pos} (ha : PA X es ta) : PE X (.Tuple es k q) (tTupK ta) := by
  have w : PA X es (fun σ H G => ∃ G' : List V → Hp → Prop, ta σ H G' ∧ ∀ xs H1, G' xs H1 → G xs H1) :=
    ⟨fun pos pins s σ H G I ⟨G', q, i⟩ => PA.lift (pos := pos) ha i pins s σ H I q⟩
  refine PE.wk (pe_tup w) fun σ H Q q => ?_
  exact ⟨_, q, fun xs H1 ⟨h1, h2⟩ => ⟨small h1, h2.of⟩⟩
def rSlK (K : PySem.W.Frag) : V → Option Int → Option Int → Hp → VK → Prop := fun x lo hi H Q => ∃ a xs, x = .ref a ∧ SqL K H a xs ∧ Nw H (.lst (cutV xs lo hi)) Q
theorem sl_listK (hK : X.K = K) : L2.SlR X (rSlK K) := by
  subst hK
  intro pins s σ H x v vl vu lo hi sl Q I rx hs pl pu q
  obtain ⟨a, xs, ex, hx, n⟩ := q
  exact sl_list pins s σ H x v vl vu lo hi sl Q I rx hs pl pu ⟨a, xs, ex, hx, n.of⟩
def rCatK : R2 := fun x y H Q => ∃ l b xs zs, x = .ref l ∧ y = .ref b ∧ H l = some (.lst xs) ∧ H b = some (.lst zs) ∧ xs.length + zs.length ≤ 100000 ∧ Nw H (.lst (xs ++ zs)) Q
theorem op_catK : OpR X (binaryOp .Add) rCatK := OpR.wk op_cat fun x y H Q ⟨l, b, xs, zs, e1, e2, h1, h2, hl, n⟩ => ⟨l, b, xs, zs, e1, e2, h1, h2, small hl, n.of⟩
def rRepK : R2 := fun x y H Q => ∃ l k xs, x = .ref l ∧ y = .int k ∧ H l = some (.lst xs) ∧ -(2 ^ 63) ≤ k ∧ k < 2 ^ 63 ∧ xs.length * k.toNat ≤ 100000 ∧ Nw H (.lst (List.replicate k.toNat xs).flatten) Q
theorem op_repK : OpR X (binaryOp .Mult) rRepK := OpR.wk op_rep fun x y H Q ⟨l, k, xs, e1, e2, h1, h2, h3, hl, n⟩ => ⟨l, k, xs, e1, e2, h1, h2, h3, small hl, n.of⟩
def rListK (K : PySem.W.Frag) : List V → Hp → VK → Prop := fun xs H Q => ∃ p ys, xs = [.ref p] ∧ (SqL K H p ys ∨ SqT K H p ys) ∧ Nw H (.lst ys) Q
theorem call_list_ofK (hK : X.K = K) : CallR X (.type "list") (rListK K) := by
  subst hK
  exact CallR.wk call_list_of fun xs H Q ⟨p, ys, e, h, n⟩ => ⟨p, ys, e, h, n.of⟩
def rLenK (K : PySem.W.Frag) : List V → Hp → VK → Prop := fun xs H Q => ∃ p ys, xs = [.ref p] ∧ (SqL K H p ys ∨ SqT K H p ys) ∧ Q (.int ys.length) H
theorem call_len_seqK (hK : X.K = K) : CallR X (.builtin "len") (rLenK K) := by
  subst hK
  exact call_len_seq
def tRevK (K : PySem.W.Frag) (te : TE) : TE := fun σ H Q => te σ H fun x H1 => ∃ a xs, x = .ref a ∧ SqL K H1 a xs ∧ Nw H1 (.lst xs.reverse) Q
/-- what an expression's reading hands on may be weakened -/
theorem PE.soft {t : TE} (h : PE X e t) : PE X e (fun σ H G => ∃ G' : VK, t σ H G' ∧ ∀ x H1, G' x H1 → G x H1) :=
  ⟨fun pins s σ H G I ⟨G', q, i⟩ => wpAny_mono (h.run pins s σ H G' I q) (fun u s' ⟨v, H', J, r, g⟩ => ⟨v, H', J, r, i v H' g⟩) fun _ _ z => z⟩
theorem pe_revLK {k : Nat} {p1 p2 p3 q : Pos} (hK : X.K = K) (he : PE X e te) : PE X (.Subscript e (.Slice none none (some (.UnaryOp .USub (.Constant (.int 1) k p1) p2)) p3) q) (tRevK K te) := by
  subst hK
  refine PE.wk (pe_revL (PE.soft he)) fun σ H Q q => ?_
  exact ⟨_, q, fun x H1 ⟨a, xs, ex, hx, n⟩ => ⟨a, xs, ex, hx, n.of⟩⟩
def rAppK : V → List V → Hp → VK → Prop := fun x vs H Q => ∃ l xs y, x = .ref l ∧ vs = [y] ∧ H l = some (.lst xs) ∧ xs.length < 100000 ∧ Ch H l (.lst (xs ++ [y])) (Q .non)
theorem mt_appendK : MtM X "list.append" rAppK := MtM.wk mt_append fun x xs H Q ⟨l, ys, y, e1, e2, h, hl, c⟩ => ⟨l, ys, y, e1, e2, h, small' hl, c.of⟩
theorem ix_tupK (hK : X.K = K) : IxR X (rIxT K) := by
  subst hK
  exact ix_tup
def rSetK : TSet := fun o i v H Q => ∃ p xs k j, o = .ref p ∧ i = .int k ∧ H p = some (.lst xs) ∧ ixN xs.length k = some j ∧ Ch H p (.lst (xs.set j v)) Q
theorem set_listK : PSet X rSetK := fun pins s σ H o i v ov iv u Q I r1 r2 r3 ⟨p, xs, k, j, e1, e2, h, hj, c⟩ => set_list pins s σ H o i v ov iv u Q I r1 r2 r3 ⟨p, xs, k, j, e1, e2, h, hj, c.of⟩
theorem op_eqDK (hK : X.K = K) (hu : X.A.units + 64 < cLine) : OpR X (compareOp .Eq) (rEqD K) := by
  subst hK
  exact op_eqD hu
theorem op_neDK (hK : X.K = K) (hu : X.A.units + 64 < cLine) : OpR X (compareOp .NotEq) (rNeD K) := by
  subst hK
  exact op_neD hu
theorem pi_listK {tg : Expr} (hK : X.K = K) (h : PE X e te) : PI X tg e (iList K te) := by
  subst hK
  exact pi_list h
theorem pi_tupK {tg : Expr} (hK : X.K = K) (h : PE X e te) : PI X tg e (iTup K te) := by
  subst hK
  exact pi_tup h
end
/-! ### a def's promise without a name -/
theorem fnG_0 {P : Program} {w : World} {K : PySem.W.Frag} {mg : Str → Option Value} {base : Heap} {k : Nat} {x : Str} {st : Stmt} {f : Addr} {fd : FuncData} {N ps : List Str} {sp : Sp} (F : L2.Fun K x x st f fd) (S : FnScope N ps (defScope st))
    (ln : ∀ vs H Q E, sp vs H Q E → vs.length = ps.length)
    (body : ∀ (cdv : Value) (A : Around) (fr : List Env) (s : Shared) (H : Hp) (vs : List V) (Q : VK) (E : XK),
      Room k (A.deeper (envOfC x (defScope st) s.heap.objs.size f cdv)) → A.guards = some [] → sp vs H Q E →
        ∃ t, PSs (cxOf (L2.CX P w) P w K mg base N x (defScope st) f cdv A fr s H E).nox (defBody st) t ∧ t { nx := fun _ H' => Q .non H', rt := Q } (start N vs) H) :
    FnG P w K mg base (L2.CX P w) (k + 1) f fd ps sp := fnG_of F S ln fun cdv A fr s H vs Q E hr hg h => by
  obtain ⟨t, ht, q⟩ := body cdv A fr s H vs Q E hr hg h
  exact ⟨t, ht.nox, q⟩
end Z
end

section
namespace MZ
/-- the bits of a number, the lowest first -/
def bits (N : Int) : Nat → List Int
  | 0 => []
  | w + 1 => (N % 2) :: bits (N / 2) w
def val : List Int → Int
  | [] => 0
  | b :: r => b + 2 * val r
def num : List Int → Int
  | [] => 0
  | b :: r => b + 256 * num r
def bytes (N : Int) : Nat → List Int
  | 0 => []
  | s + 1 => (N % 256) :: bytes (N / 256) s
/-- all are bytes -/
def B8 (l : List Int) : Prop := ∀ b ∈ l, 0 ≤ b ∧ b < 256

theorem pow_pos (w : Nat) : (0 : Int) < 2 ^ w := Int.pow_pos (by decide)
theorem pow_s (w : Nat) : (2 : Int) ^ (w + 1) = 2 ^ w * 2 := Int.pow_succ _ _
theorem pow_add (a b : Nat) : (2 : Int) ^ (a + b) = 2 ^ a * 2 ^ b := Int.pow_add _ _ _
theorem pow_le {a b : Nat} (h : a ≤ b) : (2 : Int) ^ a ≤ 2 ^ b := by
  obtain ⟨c, rfl⟩ := Nat.exists_eq_add_of_le h
  rw [pow_add]
  have h1 := pow_pos a
  have h2 := pow_pos c
  have h3 : 2 ^ a * 1 ≤ (2 : Int) ^ a * 2 ^ c := Int.mul_le_mul_of_nonneg_left (by omega) (by omega)
  omega
theorem bits_len (w : Nat) : ∀ N : Int, (bits N w).length = w := by
  induction w with
  | zero => intro N; rfl
  | succ w ih => intro N; show (bits (N / 2) w).length + 1 = _; rw [ih]
theorem bytes_len (s : Nat) : ∀ N : Int, (bytes N s).length = s := by
  induction s with
  | zero => intro N; rfl
  | succ s ih => intro N; show (bytes (N / 256) s).length + 1 = _; rw [ih]
theorem div_div (N : Int) (a b : Nat) : N / 2 ^ a / 2 ^ b = N / 2 ^ (a + b) := by
  rw [pow_add, Int.ediv_ediv_of_nonneg (Int.le_of_lt (pow_pos a))]
theorem bits_add (a b : Nat) : ∀ N : Int, bits N (a + b) = bits N a ++ bits (N / 2 ^ a) b := by
  induction a with
  | zero => intro N; rw [Nat.zero_add]; show _ = bits (N / 1) b; rw [Int.ediv_one]
  | succ a ih =>
    intro N
    rw [Nat.add_right_comm]
    show (N % 2) :: bits (N / 2) (a + b) = (N % 2) :: (bits (N / 2) a ++ bits (N / 2 ^ (a + 1)) b)
    rw [ih, Nat.add_comm a 1, ← div_div N 1 a]
    rfl
theorem bits_emod (w : Nat) : ∀ N : Int, bits (N % 2 ^ w) w = bits N w := by
  induction w with
  | zero => intro N; rfl
  | succ w ih =>
    intro N
    show (N % 2 ^ (w + 1)) % 2 :: bits (N % 2 ^ (w + 1) / 2) w = (N % 2) :: bits (N / 2) w
    have hp := pow_pos w
    have e1 : N % 2 ^ (w + 1) % 2 = N % 2 := Int.emod_emod_of_dvd N ⟨2 ^ w, by rw [pow_s, Int.mul_comm]⟩
    have e2 : N % 2 ^ (w + 1) / 2 = N / 2 % 2 ^ w := by
      have k : N % 2 ^ (w + 1) = 2 * (N / 2 % 2 ^ w) + N % 2 := by
        rw [pow_s, Int.mul_comm (2 ^ w) 2]
        have h1 : N = 2 * (N / 2) + N % 2 := (Int.mul_ediv_add_emod N 2).symm
        have h2 : N / 2 = 2 ^ w * (N / 2 / 2 ^ w) + N / 2 % 2 ^ w := (Int.mul_ediv_add_emod _ _).symm
        have h3 := Int.emod_nonneg (N / 2) (Int.ne_of_gt hp)
        have h4 := Int.emod_lt_of_pos (N / 2) hp
        have h5 := Int.emod_nonneg N (show (2 : Int) ≠ 0 by decide)
        have h6 := Int.emod_lt_of_pos N (show (0 : Int) < 2 by decide)
        generalize hq : N / 2 / 2 ^ w = q at h2
        generalize hr : N / 2 % 2 ^ w = r at h2 h3 h4 ⊢
        have e : N = 2 * r + N % 2 + 2 * 2 ^ w * q := by
          have : 2 * 2 ^ w * q = 2 * (2 ^ w * q) := Int.mul_assoc _ _ _
          rw [this]; omega
        have e' : N % (2 * 2 ^ w) = (2 * r + N % 2) % (2 * 2 ^ w) := by
          conv => lhs; rw [e]
          rw [Int.add_mul_emod_self_left]
        rw [e', Int.emod_eq_of_lt (by omega) (by omega)]
      omega
    rw [e1, e2, ih]
theorem val_bits (w : Nat) : ∀ N : Int, val (bits N w) = N % 2 ^ w := by
  induction w with
  | zero => intro N; show (0 : Int) = N % 1; omega
  | succ w ih =>
    intro N
    show N % 2 + 2 * val (bits (N / 2) w) = _
    rw [ih]
    have hp := pow_pos w
    rw [pow_s, Int.mul_comm (2 ^ w) 2]
    have h1 : N = 2 * (N / 2) + N % 2 := (Int.mul_ediv_add_emod N 2).symm
    have h2 : N / 2 = 2 ^ w * (N / 2 / 2 ^ w) + N / 2 % 2 ^ w := (Int.mul_ediv_add_emod _ _).symm
    have h3 := Int.emod_nonneg (N / 2) (Int.ne_of_gt hp)
    have h4 := Int.emod_lt_of_pos (N / 2) hp
    have h5 := Int.emod_nonneg N (show (2 : Int) ≠ 0 by decide)
    have h6 := Int.emod_lt_of_pos N (show (0 : Int) < 2 by decide)
    generalize hq : N / 2 / 2 ^ w = q at h2
    generalize hr : N / 2 % 2 ^ w = r at h2 h3 h4 ⊢
    have e : N = 2 * r + N % 2 + 2 * 2 ^ w * q := by
      have : 2 * 2 ^ w * q = 2 * (2 ^ w * q) := Int.mul_assoc _ _ _
      rw [this]; omega
    have e' : N % (2 * 2 ^ w) = (2 * r + N % 2) % (2 * 2 ^ w) := by
      conv => lhs; rw [e]
      rw [Int.add_mul_emod_self_left]
    rw [e', Int.emod_eq_of_lt (show 0 ≤ 2 * r + N % 2 by omega) (show 2 * r + N % 2 < 2 * 2 ^ w by omega)]
    omega
theorem bits_congr {w : Nat} {N M : Int} (h : N % 2 ^ w = M % 2 ^ w) : bits N w = bits M w := by
  rw [← bits_emod w N, h, bits_emod]
theorem bits_take {W f : Nat} (N : Int) (h : f ≤ W) : (bits N W).take f = bits N f := by
  obtain ⟨r, rfl⟩ := Nat.exists_eq_add_of_le h
  rw [bits_add, List.take_left' (bits_len f N)]
theorem bits_drop {W f : Nat} (N : Int) (h : f ≤ W) : (bits N W).drop f = bits (N / 2 ^ f) (W - f) := by
  obtain ⟨r, rfl⟩ := Nat.exists_eq_add_of_le h
  rw [bits_add, List.drop_left' (bits_len f N), Nat.add_sub_cancel_left]
theorem bits_cut {W f w : Nat} (N : Int) (h : f + w ≤ W) : ((bits N W).drop f).take w = bits (N / 2 ^ f) w := by
  rw [bits_drop N (by omega), bits_take _ (by omega)]
/-- a word with the slot's bits put in -/
def putN (N : Int) (f w : Nat) (v : Int) : Int := N % 2 ^ f + 2 ^ f * (v % 2 ^ w + 2 ^ w * (N / 2 ^ (f + w)))
theorem putN_bits {W f w : Nat} (N v : Int) (h : f + w ≤ W) : bits (putN N f w v) W = bits N f ++ bits v w ++ bits (N / 2 ^ (f + w)) (W - (f + w)) := by
  obtain ⟨r, rfl⟩ := Nat.exists_eq_add_of_le h
  have hf := pow_pos f
  have hw := pow_pos w
  have a0 := Int.emod_nonneg N (Int.ne_of_gt hf)
  have a1 := Int.emod_lt_of_pos N hf
  have b0 := Int.emod_nonneg v (Int.ne_of_gt hw)
  have b1 := Int.emod_lt_of_pos v hw
  have e1 : bits (putN N f w v) f = bits N f := bits_congr (by
    unfold putN
    rw [Int.add_mul_emod_self_left, Int.emod_emod_of_dvd _ (Int.dvd_refl _)])
  have e2 : putN N f w v / 2 ^ f = v % 2 ^ w + 2 ^ w * (N / 2 ^ (f + w)) := by
    unfold putN
    rw [Int.add_mul_ediv_left _ _ (Int.ne_of_gt hf), Int.ediv_eq_zero_of_lt a0 a1, Int.zero_add]
  have e3 : bits (v % 2 ^ w + 2 ^ w * (N / 2 ^ (f + w))) w = bits v w := bits_congr (by
    rw [Int.add_mul_emod_self_left, Int.emod_emod_of_dvd _ (Int.dvd_refl _)])
  have e4 : (v % 2 ^ w + 2 ^ w * (N / 2 ^ (f + w))) / 2 ^ w = N / 2 ^ (f + w) := by
    rw [Int.add_mul_ediv_left _ _ (Int.ne_of_gt hw), Int.ediv_eq_zero_of_lt b0 b1, Int.zero_add]
  rw [Nat.add_sub_cancel_left, Nat.add_assoc, bits_add, e1, e2, bits_add, e3, e4, List.append_assoc]
theorem num_bytes (s : Nat) : ∀ N : Int, num (bytes N s) = N % 256 ^ s := by
  induction s with
  | zero => intro N; show (0 : Int) = N % 1; omega
  | succ s ih =>
    intro N
    show N % 256 + 256 * num (bytes (N / 256) s) = _
    rw [ih]
    have hp : (0 : Int) < 256 ^ s := Int.pow_pos (by decide)
    rw [show (256 : Int) ^ (s + 1) = 256 * 256 ^ s by rw [Int.pow_succ, Int.mul_comm]]
    have h2 : N / 256 = 256 ^ s * (N / 256 / 256 ^ s) + N / 256 % 256 ^ s := (Int.mul_ediv_add_emod _ _).symm
    have h3 := Int.emod_nonneg (N / 256) (Int.ne_of_gt hp)
    have h4 := Int.emod_lt_of_pos (N / 256) hp
    generalize hq : N / 256 / 256 ^ s = q at h2
    generalize hr : N / 256 % 256 ^ s = r at h2 h3 h4 ⊢
    have e : N = 256 * r + N % 256 + 256 * 256 ^ s * q := by
      have : 256 * 256 ^ s * q = 256 * (256 ^ s * q) := Int.mul_assoc _ _ _
      rw [this]; omega
    have e' : N % (256 * 256 ^ s) = (256 * r + N % 256) % (256 * 256 ^ s) := by
      conv => lhs; rw [e]
      rw [Int.add_mul_emod_self_left]
    rw [e', Int.emod_eq_of_lt (show 0 ≤ 256 * r + N % 256 by omega) (show 256 * r + N % 256 < 256 * 256 ^ s by omega)]
    omega
theorem bytes_num : ∀ l : List Int, B8 l → bytes (num l) l.length = l
  | [], _ => rfl
  | b :: r, h => by
    have hb := h b List.mem_cons_self
    have ih := bytes_num r fun x hx => h x (List.mem_cons_of_mem _ hx)
    show (b + 256 * num r) % 256 :: bytes ((b + 256 * num r) / 256) r.length = b :: r
    rw [show (b + 256 * num r) % 256 = b by omega, show (b + 256 * num r) / 256 = num r by omega, ih]
theorem num_range : ∀ l : List Int, B8 l → 0 ≤ num l ∧ num l < 256 ^ l.length
  | [], _ => ⟨by show (0 : Int) ≤ 0; omega, by show (0 : Int) < 1; omega⟩
  | b :: r, h => by
    have hb := h b List.mem_cons_self
    have ih := num_range r fun x hx => h x (List.mem_cons_of_mem _ hx)
    show 0 ≤ b + 256 * num r ∧ b + 256 * num r < 256 ^ (r.length + 1)
    rw [Int.pow_succ]
    constructor <;> omega
theorem bits_num : ∀ l : List Int, B8 l → l.flatMap (fun b => bits b 8) = bits (num l) (8 * l.length)
  | [], _ => rfl
  | b :: r, h => by
    have hb := h b List.mem_cons_self
    have ih := bits_num r fun x hx => h x (List.mem_cons_of_mem _ hx)
    rw [List.flatMap_cons, ih, List.length_cons, show 8 * (r.length + 1) = 8 + 8 * r.length by omega, bits_add]
    have e1 : bits (num (b :: r)) 8 = bits b 8 := bits_congr (by
      show (b + 256 * num r) % 2 ^ 8 = b % 2 ^ 8
      omega)
    have e2 : num (b :: r) / 2 ^ 8 = num r := by
      show (b + 256 * num r) / 2 ^ 8 = num r
      omega
    rw [e1, e2]
theorem bytes_emod256 (s : Nat) : ∀ (N : Int) (i : Nat), i < s → (bytes N s)[i]? = some (N / 256 ^ i % 256) := by
  induction s with
  | zero => intro N i h; omega
  | succ s ih =>
    intro N i h
    cases i with
    | zero => show some (N % 256) = some (N / 1 % 256); rw [Int.ediv_one]
    | succ i =>
      show (bytes (N / 256) s)[i]? = _
      rw [ih _ i (by omega), Int.ediv_ediv_of_nonneg (by decide), Int.pow_succ, Int.mul_comm (256 ^ i)]
theorem bytes_B8 (s : Nat) : ∀ N : Int, B8 (bytes N s) := by
  induction s with
  | zero => intro N b h; cases h
  | succ s ih =>
    intro N b h
    rcases List.mem_cons.mp h with e | e
    · subst e; omega
    · exact ih _ b e
/-- the sign: the highest bit of a slot -/
theorem top_bit {w : Nat} (M : Int) : M / 2 ^ w % 2 = 1 ↔ 2 ^ w ≤ M % 2 ^ (w + 1) := by
  have hp := pow_pos w
  have h1 : M = 2 ^ w * (M / 2 ^ w) + M % 2 ^ w := (Int.mul_ediv_add_emod _ _).symm
  have h3 := Int.emod_nonneg M (Int.ne_of_gt hp)
  have h4 := Int.emod_lt_of_pos M hp
  generalize hq : M / 2 ^ w = q at h1 ⊢
  generalize hr : M % 2 ^ w = r at h1 h3 h4
  have e : M = (2 ^ w * (q % 2) + r) + (2 ^ w * 2) * (q / 2) := by
    have h5 : q = 2 * (q / 2) + q % 2 := (Int.mul_ediv_add_emod _ _).symm
    have h6 : 2 ^ w * 2 * (q / 2) = 2 ^ w * (2 * (q / 2)) := Int.mul_assoc _ _ _
    have h7 : 2 ^ w * q = 2 ^ w * (2 * (q / 2)) + 2 ^ w * (q % 2) := by
      rw [← Int.mul_add, ← h5]
    omega
  have h8 : q % 2 = 0 ∨ q % 2 = 1 := by omega
  have e2 : M % 2 ^ (w + 1) = 2 ^ w * (q % 2) + r := by
    rw [pow_s]
    conv => lhs; rw [e]
    rw [Int.add_mul_emod_self_left]
    rcases h8 with z | z <;> rw [z] <;> exact Int.emod_eq_of_lt (by omega) (by omega)
  rw [e2]
  rcases h8 with z | z <;> rw [z] <;> omega
theorem bits_last (w : Nat) : ∀ M : Int, (bits M (w + 1))[w]? = some (M / 2 ^ w % 2) := by
  induction w with
  | zero => intro M; show some (M % 2) = some (M / 1 % 2); rw [Int.ediv_one]
  | succ w ih =>
    intro M
    show (bits (M / 2) (w + 1))[w]? = _
    rw [ih, Nat.add_comm w 1, ← div_div M 1 w]
    rfl
theorem val_append : ∀ (l m : List Int), val (l ++ m) = val l + 2 ^ l.length * val m
  | [], m => by show val m = 0 + 1 * val m; omega
  | b :: r, m => by
    show b + 2 * val (r ++ m) = b + 2 * val r + 2 ^ (r.length + 1) * val m
    rw [val_append r m, Int.mul_add, pow_s]
    have : 2 ^ r.length * 2 * val m = 2 * (2 ^ r.length * val m) := by
      rw [Int.mul_comm (2 ^ r.length) 2, Int.mul_assoc]
    omega
theorem val_rep0 (n : Nat) : val (List.replicate n 0) = 0 := by
  induction n with
  | zero => rfl
  | succ n ih => show (0 : Int) + 2 * val (List.replicate n 0) = 0; rw [ih]; rfl
theorem val_rep1 (n : Nat) : val (List.replicate n 1) = 2 ^ n - 1 := by
  induction n with
  | zero => rfl
  | succ n ih =>
    show (1 : Int) + 2 * val (List.replicate n 1) = 2 ^ (n + 1) - 1
    rw [ih, pow_s]; omega
/-- law_number over a list with its last bit known -/
def lawNum (l : List Int) (sg : Bool) : Int := if sg = true ∧ l.getLastD 0 = 1 then val l - 2 ^ l.length else val l
end MZ
end

section
namespace MZ
open PySem
theorem nat_slot (n w f : Nat) : n &&& ((2 ^ w - 1) * 2 ^ f) = (n / 2 ^ f % 2 ^ w) * 2 ^ f := by
  apply Nat.eq_of_testBit_eq
  intro i
  rw [Nat.testBit_and, Nat.testBit_mul_two_pow, Nat.testBit_mul_two_pow, Nat.testBit_two_pow_sub_one, Nat.testBit_mod_two_pow, Nat.testBit_div_two_pow]
  by_cases h : f ≤ i
  · have e : i - f + f = i := by omega
    rw [e]
    simp only [h, decide_true, Bool.true_and]
    by_cases h2 : i - f < w <;> simp [h2]
  · simp [h]
theorem and_def (x y : Int) : Builtin.bitAnd x y = match decide (0 ≤ x), decide (0 ≤ y) with
  | true, true => ((x.toNat &&& y.toNat : Nat) : Int)
  | true, false => x - ((x.toNat &&& (Builtin.bitNot y).toNat : Nat) : Int)
  | false, true => y - ((y.toNat &&& (Builtin.bitNot x).toNat : Nat) : Int)
  | false, false => Builtin.bitNot (((Builtin.bitNot x).toNat ||| (Builtin.bitNot y).toNat : Nat) : Int) := rfl
theorem castpow (w : Nat) : ((2 ^ w : Nat) : Int) = 2 ^ w := by
  induction w with
  | zero => rfl
  | succ w ih => rw [Nat.pow_succ, Int.natCast_mul, ih, pow_s]; rfl
theorem mask_cast (w f : Nat) : ((2 : Int) ^ w - 1) * 2 ^ f = (((2 ^ w - 1) * 2 ^ f : Nat) : Int) := by
  have h := Nat.two_pow_pos w
  rw [Int.natCast_mul, castpow, ← castpow w]
  congr 1
  omega
theorem and_slot (x : Int) (w f : Nat) : Builtin.bitAnd x ((2 ^ w - 1) * 2 ^ f) = x / 2 ^ f % 2 ^ w * 2 ^ f := by
  have hw := pow_pos w
  have hf := pow_pos f
  have hm : (0 : Int) ≤ (2 ^ w - 1) * 2 ^ f := Int.mul_nonneg (by omega) (by omega)
  rw [and_def, decide_eq_true hm]
  by_cases hx : 0 ≤ x
  · rw [decide_eq_true hx]
    show ((x.toNat &&& ((2 ^ w - 1) * 2 ^ f : Int).toNat : Nat) : Int) = _
    obtain ⟨n, rfl⟩ := Int.eq_ofNat_of_zero_le hx
    rw [mask_cast, Int.toNat_natCast, Int.toNat_natCast, nat_slot, Int.natCast_mul, Int.natCast_emod, Int.natCast_ediv, castpow, castpow]
  · rw [decide_eq_false hx]
    show ((2 ^ w - 1) * 2 ^ f : Int) - ((((2 ^ w - 1) * 2 ^ f : Int).toNat &&& (-x - 1).toNat : Nat) : Int) = _
    obtain ⟨n, hn⟩ := Int.eq_ofNat_of_zero_le (show 0 ≤ -x - 1 by omega)
    have ex : x = -(n : Int) - 1 := by omega
    subst ex
    rw [hn, mask_cast, Int.toNat_natCast, Int.toNat_natCast, Nat.and_comm, nat_slot, ← mask_cast, Int.natCast_mul, Int.natCast_emod, Int.natCast_ediv, castpow, castpow, ← Int.sub_mul]
    congr 1
    have h1 : (n : Int) = 2 ^ f * (n / 2 ^ f) + n % 2 ^ f := (Int.mul_ediv_add_emod _ _).symm
    have h2 := Int.emod_nonneg (n : Int) (Int.ne_of_gt hf)
    have h3 := Int.emod_lt_of_pos (n : Int) hf
    generalize (n : Int) / 2 ^ f = q at h1 ⊢
    generalize (n : Int) % 2 ^ f = r at h1 h2 h3
    have e1 : (-(n : Int) - 1) / 2 ^ f = -q - 1 := by
      have k : -(n : Int) - 1 = (2 ^ f - 1 - r) + 2 ^ f * (-q - 1) := by
        rw [Int.mul_sub, Int.mul_neg, Int.mul_one]; omega
      rw [k, Int.add_mul_ediv_left _ _ (Int.ne_of_gt hf), Int.ediv_eq_zero_of_lt (by omega) (by omega), Int.zero_add]
    rw [e1]
    have h4 : q = 2 ^ w * (q / 2 ^ w) + q % 2 ^ w := (Int.mul_ediv_add_emod _ _).symm
    have h5 := Int.emod_nonneg q (Int.ne_of_gt hw)
    have h6 := Int.emod_lt_of_pos q hw
    generalize q / 2 ^ w = c at h4
    generalize q % 2 ^ w = d at h4 h5 h6 ⊢
    have k : -q - 1 = (2 ^ w - 1 - d) + 2 ^ w * (-c - 1) := by
      rw [Int.mul_sub, Int.mul_neg, Int.mul_one]; omega
    rw [k, Int.add_mul_emod_self_left, Int.emod_eq_of_lt (by omega) (by omega)]
theorem and_ones (x : Int) (w : Nat) : Builtin.bitAnd x (2 ^ w - 1) = x % 2 ^ w := by
  have h := and_slot x w 0
  rw [show (2 : Int) ^ 0 = 1 from rfl, Int.mul_one, Int.mul_one, Int.ediv_one] at h
  exact h
theorem and_255 (x : Int) : Builtin.bitAnd x 255 = x % 256 := and_ones x 8
/-- what the program writes back into the word -/
theorem put_eq (N v : Int) (f w : Nat) : N - Builtin.bitAnd N ((2 ^ w - 1) * 2 ^ f) + Builtin.bitAnd (v * 2 ^ f) ((2 ^ w - 1) * 2 ^ f) = putN N f w v := by
  have hf := pow_pos f
  have hw := pow_pos w
  rw [and_slot, and_slot, Int.mul_ediv_cancel _ (Int.ne_of_gt hf)]
  unfold putN
  rw [← div_div]
  have h1 : N = 2 ^ f * (N / 2 ^ f) + N % 2 ^ f := (Int.mul_ediv_add_emod _ _).symm
  have h2 : N / 2 ^ f = 2 ^ w * (N / 2 ^ f / 2 ^ w) + N / 2 ^ f % 2 ^ w := (Int.mul_ediv_add_emod _ _).symm
  generalize hq : N / 2 ^ f = q at h1 h2 ⊢
  generalize N % 2 ^ f = r at h1 ⊢
  generalize q / 2 ^ w = c at h2 ⊢
  generalize q % 2 ^ w = d at h2 ⊢
  rw [h1, h2, Int.mul_add, Int.mul_add, Int.mul_comm (2 ^ f) d, Int.mul_comm (2 ^ f) (v % 2 ^ w)]
  omega
end MZ
end

section
set_option Elab.async false
set_option linter.all false
set_option maxRecDepth 100000
set_option maxHeartbeats 2000000
namespace K0
open PySem PySem.Spec PyProof.Rows L2 Z RT
def top (i : Nat) : Stmt := PySem.Challenge.pw_recstore_k00_slots_exact.main.body.getD i (.Pass ⟨0, 0, 0, 0⟩)
/-- what the text's top leaves: the built-in names, the error's class -/
structure Tx (K : PySem.W.Frag) (mg : Str → Option Value) (cR cO : Addr) : Prop where
  b_list : mg "list" = none
  b_range : mg "range" = none
  b_reversed : mg "reversed" = none
  b_len : mg "len" = none
  b_int : mg "int" = none
  b_repr : mg "repr" = none
  b_isinstance : mg "isinstance" = none
  b_ValueError : mg "ValueError" = none
  g_RecordError : mg "RecordError" = some (.ref cR)
  g_OutOfRange : mg "OutOfRange" = some (.ref cO)
  k_OutOfRange : PySem.W.keepIn K (.ref cO) = true
  x_OutOfRange : PySem.W.excIn K cO [.type "ValueError", .type "Exception", .type "BaseException", .type "object"] "ValueError.__new__" = true
  s_OutOfRange : PySem.W.subIn K (.ref cO) (.type "BaseException") = some true
  t_OutOfRange : PySem.W.typeIn K (.ref cO) = some (.type "type")
theorem p256 {l : Nat} (h : l ≤ 4) : (256 : Int) ^ l ≤ 256 ^ 4 := by
  have c : l = 0 ∨ l = 1 ∨ l = 2 ∨ l = 3 ∨ l = 4 := by omega
  rcases c with rfl | rfl | rfl | rfl | rfl <;> decide
theorem ixn {n j : Nat} (hj : j < n) : ixN n (j : Int) = some j := by
  unfold ixN
  rw [if_pos (Int.natCast_nonneg j), if_pos (Int.ofNat_lt.mpr hj), Int.toNat_natCast]
/-! ### the mathematics of the program's defs -/
def plc (off size : Nat) (big : Bool) : List Nat := if big then (List.range' off size).reverse else List.range' off size
def lo (w : Nat) (sg : Bool) : Int := if sg then -(2 ^ (w - 1)) else 0
def hi (w : Nat) (sg : Bool) : Int := if sg then 2 ^ (w - 1) - 1 else 2 ^ w - 1
def rowsOf (data : List Int) (off size : Nat) (big : Bool) : List Int := if big then ((data.drop off).take size).reverse else (data.drop off).take size
section
variable {P : Program} {w : World} {K : PySem.W.Frag} {mg : Str → Option Value} {base : Heap} {cR cO : Addr}
/-! ### _ones -/
abbrev s__ones : Stmt := top 9
theorem sc__ones : FnScope ["width"] ["width"] (defScope s__ones) := ⟨rfl, rfl, rfl, by decide +kernel, rfl, by decide +kernel, by decide +kernel⟩

def sp_ones : Sp := fun vs H Q _ => ∃ w : Nat, vs = [.int w] ∧ w ≤ 64 ∧ Q (.int (2 ^ w - 1)) H
theorem d_ones {f : Addr} {fd : FuncData} (F : L2.Fun K "_ones" "_ones" s__ones f fd) (hm : mg "_ones" = some (.ref f)) (bd : Binds K fd ["width"] []) : Df P w K mg base 1 "_ones" sp_ones := by
  refine df_0 F hm bd sc__ones (fun vs H Q E h => ?_) (fun cdv A fr s H vs Q E hr gu h => ?_)
  · obtain ⟨w, rfl, _⟩ := h
    rfl
  · obtain ⟨w, rfl, hw, q⟩ := h
    refine ⟨_, (pss_one (ps_ret (pe_op op_sub (pe_op op_shl pe_int (pv 0)) pe_int))), ?_⟩
    refine ⟨_, rfl, _, _, rfl, rfl, ⟨by omega, by omega, by decide⟩, _, _, rfl, rfl, ?_⟩
    show Q (.int (1 * 2 ^ (w : Int).toNat - 1)) H
    rw [Int.toNat_natCast, Int.one_mul]
    exact q
/-! ### bounds -/
abbrev s_bounds : Stmt := top 8
theorem sc_bounds : FnScope ["width", "signed", "half"] ["width", "signed"] (defScope s_bounds) := ⟨rfl, rfl, rfl, by decide +kernel, rfl, by decide +kernel, by decide +kernel⟩

def sp_bounds : Sp := fun vs H Q _ => ∃ (w : Nat) (sg : Bool), vs = [.int w, .bl sg] ∧ 1 ≤ w ∧ w ≤ 64 ∧ ∀ p, H p = none → Q (.ref p) (upd H p (.tup [.int (lo w sg), .int (hi w sg)]))
theorem d_bounds {f : Addr} {fd : FuncData} (F : L2.Fun K "bounds" "bounds" s_bounds f fd) (hm : mg "bounds" = some (.ref f)) (bd : Binds K fd ["width", "signed"] []) (c__ones : Df P w K mg base 1 "_ones" sp_ones) : Df P w K mg base 2 "bounds" sp_bounds := by
  refine df_0 F hm bd sc_bounds (fun vs H Q E h => ?_) (fun cdv A fr s H vs Q E hr gu h => ?_)
  · obtain ⟨w, sg, rfl, _⟩ := h
    rfl
  · obtain ⟨w, sg, rfl, hw, hw2, q⟩ := h
    refine ⟨_, (pss_cons (ps_if (pt_val (pv 1))
        (pss_cons (ps_set (i := 2) sc_bounds.nd rfl (Or.inl rfl) (pe_op op_shl pe_int (pe_op op_sub (pv 0) pe_int)))
        (pss_one (ps_ret (pe_tup (pa_cons (pe_un un_neg (pv 2)) (pa_cons (pe_op op_sub (pv 2) pe_int) pa_nil))))))
        pss_nil)
      (pss_one (ps_ret (pe_tup (pa_cons pe_int (pa_cons (pe_f c__ones hr (by decide) gu (by rfl) (pa_cons (pv 0) pa_nil)) pa_nil)))))), ?_⟩
    refine ⟨_, rfl, _, rfl, ?_⟩
    cases sg with
    | true =>
      refine iteT ?_
      refine ⟨_, rfl, _, _, rfl, rfl, _, _, rfl, rfl, ⟨by omega, by omega, by decide⟩, ?_⟩
      have e : ((w : Int) - 1).toNat = w - 1 := by omega
      refine ⟨_, rfl, _, rfl, _, rfl, _, _, rfl, rfl, small (by show 2 ≤ 100000; decide), fun p np => ?_⟩
      have g := q p np
      show Q (.ref p) (upd H p (.tup [.int (-(1 * 2 ^ ((w : Int) - 1).toNat)), .int (1 * 2 ^ ((w : Int) - 1).toNat - 1)]))
      rw [e, Int.one_mul]
      exact g
    | false =>
      refine iteF ?_
      refine ⟨_, rfl, w, rfl, hw2, small (by show 2 ≤ 100000; decide), fun p np => ?_⟩
      exact q p np
/-! ### _places -/
abbrev s__places : Stmt := top 10
theorem sc__places : FnScope ["offset", "size", "big", "places"] ["offset", "size", "big"] (defScope s__places) := ⟨rfl, rfl, rfl, by decide +kernel, rfl, by decide +kernel, by decide +kernel⟩

def sp_places : Sp := fun vs H Q _ => ∃ (off size : Nat) (big : Bool), vs = [.int off, .int size, .bl big] ∧ off + size ≤ 10000 ∧ ∀ H' p, Kp [] H H' → H p = none → H' p = some (.lst ((plc off size big).map fun n => V.int (n : Nat))) → Q (.ref p) H'
theorem rg_plc (off size : Nat) : rgV off (off + size : Nat) = (List.range' off size).map fun n => V.int (n : Nat) := by
  unfold rgV
  have e : (((off + size : Nat) : Int) - (off : Nat)).toNat = size := by omega
  rw [e, List.range'_eq_map_range, List.map_map]
  rfl
theorem d_places {f : Addr} {fd : FuncData} (F : L2.Fun K "_places" "_places" s__places f fd) (hm : mg "_places" = some (.ref f)) (bd : Binds K fd ["offset", "size", "big"] []) (T : Tx K mg cR cO) : Df P w K mg base 1 "_places" sp_places := by
  refine df_0 F hm bd sc__places (fun vs H Q E h => ?_) (fun cdv A fr s H vs Q E hr gu h => ?_)
  · obtain ⟨off, size, big, rfl, _⟩ := h
    rfl
  · obtain ⟨off, size, big, rfl, hs, q⟩ := h
    refine ⟨_, (pss_cons (ps_set (i := 3) sc__places.nd rfl (Or.inl rfl) (pe_listRg rfl (by rfl) T.b_list (prg_2 (by rfl) T.b_range (pv 0) (pe_op op_add (pv 0) (pv 1)))))
      (pss_one (ps_ret (pe_ifExp (pt_val (pv 2)) (pe_revL (pv 3)) (pv 3))))), ?_⟩
    refine ⟨_, rfl, _, rfl, _, rfl, _, _, rfl, rfl, _, _, rfl, rfl, RgOk.of_le (by omega) (by omega) (by omega) (by omega), fun p np => ?_⟩
    have e : rgV (off : Nat) ((off : Nat) + (size : Nat)) = (List.range' off size).map fun n => V.int (n : Nat) := rg_plc off size
    rw [e]
    refine ⟨_, rfl, _, rfl, ?_⟩
    cases big with
    | true =>
      refine iteT ?_
      refine ⟨_, rfl, p, _, rfl, SqL.of upd_same, fun r nr => ?_⟩
      have npr : p ≠ r := fun z => by
        rw [← z, upd_same] at nr
        cases nr
      have nr0 : H r = none := by
        rw [upd_ne npr.symm] at nr
        exact nr
      refine q _ r ((Kp.new np).trans (Kp.new nr)) nr0 ?_
      rw [upd_same, ← List.map_reverse]
      rfl
    | false =>
      refine iteF ?_
      exact ⟨_, rfl, q _ p (Kp.new np) np upd_same⟩
/-! ### _read_number -/
abbrev s__read_number : Stmt := top 11
theorem sc__read_number : FnScope ["data", "offset", "size", "big", "number", "place"] ["data", "offset", "size", "big"] (defScope s__read_number) := ⟨rfl, rfl, rfl, by decide +kernel, rfl, by decide +kernel, by decide +kernel⟩

def sp_read_number (K : PySem.W.Frag) : Sp := fun vs H Q _ => ∃ (a : Addr) (data : List Int) (off size : Nat) (big : Bool), vs = [.ref a, .int off, .int size, .bl big] ∧ SqL K H a (data.map V.int) ∧ MZ.B8 data ∧ off + size ≤ data.length ∧ data.length ≤ 10000 ∧ size ≤ 4 ∧
  ∀ H', Kp [] H H' → Q (.int (MZ.num (rowsOf data off size big))) H'
theorem plc_len (off size : Nat) (big : Bool) : (plc off size big).length = size := by
  unfold plc
  cases big <;> simp
theorem rows_len {data : List Int} {off size : Nat} (big : Bool) (h : off + size ≤ data.length) : (rowsOf data off size big).length = size := by
  unfold rowsOf
  cases big <;> simp <;> omega
/-- the i-th place, and what is read there -/
theorem plc_at {off size i : Nat} (big : Bool) (hi : i < size) : (plc off size big)[i]? = some (if big then off + size - 1 - i else off + i) := by
  unfold plc
  cases big with
  | true =>
    show ((List.range' off size).reverse)[i]? = some (off + size - 1 - i)
    rw [List.getElem?_reverse (by simpa using hi), List.length_range', List.getElem?_range' (by omega)]
    congr 1
    omega
  | false =>
    show (List.range' off size)[i]? = some (off + i)
    rw [List.getElem?_range' hi]
    congr 1
    omega
theorem rows_at {data : List Int} {off size i : Nat} (big : Bool) (h : off + size ≤ data.length) (hi : i < size) : (rowsOf data off size big)[i]? = data[if big then off + size - 1 - i else off + i]? := by
  unfold rowsOf
  cases big with
  | true =>
    show ((data.drop off).take size).reverse[i]? = data[off + size - 1 - i]?
    rw [List.getElem?_reverse (by simp; omega), List.getElem?_take_of_lt (by simp; omega), List.getElem?_drop]
    congr 1
    simp
    omega
  | false =>
    show ((data.drop off).take size)[i]? = data[off + i]?
    rw [List.getElem?_take_of_lt hi, List.getElem?_drop]
theorem num_step {l : List Int} {i : Nat} {z : Int} (h : l[i]? = some z) : MZ.num (l.drop i) = MZ.num (l.drop (i + 1)) * 256 + z := by
  obtain ⟨hi, e⟩ := List.getElem?_eq_some_iff.mp h
  rw [List.drop_eq_getElem_cons hi, e]
  show z + 256 * MZ.num (l.drop (i + 1)) = _
  omega
theorem B8.rows {data : List Int} {off size : Nat} {big : Bool} (h : MZ.B8 data) : MZ.B8 (rowsOf data off size big) := fun b hb => by
  refine h b ?_
  unfold rowsOf at hb
  cases big with
  | true => exact List.mem_of_mem_drop (List.mem_of_mem_take (List.mem_reverse.mp hb))
  | false => exact List.mem_of_mem_drop (List.mem_of_mem_take hb)
theorem B8.drop {l : List Int} (n : Nat) (h : MZ.B8 l) : MZ.B8 (l.drop n) := fun b hb => h b (List.mem_of_mem_drop hb)
theorem d_read_number {f : Addr} {fd : FuncData} (F : L2.Fun K "_read_number" "_read_number" s__read_number f fd) (hm : mg "_read_number" = some (.ref f)) (bd : Binds K fd ["data", "offset", "size", "big"] []) (T : Tx K mg cR cO) (c__places : Df P w K mg base 1 "_places" sp_places) : Df P w K mg base 2 "_read_number" (sp_read_number K) := by
  refine df_0 F hm bd sc__read_number (fun vs H Q E h => ?_) (fun cdv A fr s H vs Q E hr gu h => ?_)
  · obtain ⟨a, data, off, size, big, rfl, _⟩ := h
    rfl
  · obtain ⟨a, data, off, size, big, rfl, hS, hB, hl, hd, hz, q⟩ := h
    refine ⟨_, (pss_cons (ps_set (i := 4) sc__read_number.nd rfl (Or.inl rfl) pe_int)
      (pss_cons (ps_for PassesOwn.never rfl (pi_revA (by rfl) T.b_reversed (pe_f c__places hr (by decide) gu (by rfl) (pa_cons (pv 1) (pa_cons (pv 2) (pa_cons (pv 3) pa_nil))))) (pg_name (i := 5) sc__read_number.nd rfl (Or.inl rfl))
        (pss_one (ps_set (i := 4) sc__read_number.nd rfl (Or.inl rfl) (pe_op op_add (pe_op op_mul (pv 4) pe_int) (pe_ix ix_list (pv 0) (pv 5) (fun _ _ => rfl))))))
      (pss_one (ps_ret (pv 4))))), ?_⟩
    refine ⟨_, rfl, _, rfl, _, rfl, off, size, big, rfl, by omega, fun H1 p k1 np e1 => ?_⟩
    refine ⟨p, _, rfl, Or.inl ⟨SqL.of e1, for_Itv (K := K) (a := p) (xs := (plc off size big).map fun n => V.int (n : Nat))
      (fun i σ H2 => ∃ v, σ = [some (.ref a), some (.int off), some (.int size), some (.bl big), some (.int (MZ.num ((rowsOf data off size big).drop (size - i)))), v] ∧ H2 = H1) ⟨none, ?_, rfl⟩ ?_ ?_ ?_⟩⟩
    · have z : (rowsOf data off size big).drop (size - 0) = [] := by
        rw [List.drop_eq_nil_iff, rows_len big hl]
        omega
      rw [z]
      rfl
    · rintro i σ H2 ⟨v, rfl, rfl⟩
      exact SqL.of e1
    · rintro i x σ H2 hi hx ⟨v, rfl, rfl⟩
      rw [List.length_map, plc_len] at hi hx
      rw [List.getElem?_map, plc_at big (by omega)] at hx
      obtain rfl := (Option.some.inj hx).symm
      have hr2 := rows_at (data := data) big hl (i := size - 1 - i) (by omega)
      obtain ⟨z, hz1⟩ : ∃ z, (rowsOf data off size big)[size - 1 - i]? = some z := ⟨_, List.getElem?_eq_getElem (by rw [rows_len big hl]; omega)⟩
      rw [hz1] at hr2
      have st := num_step hz1
      have e2 : size - 1 - i + 1 = size - i := by omega
      rw [e2] at st
      have rg := MZ.num_range _ (B8.drop (size - i) (B8.rows (off := off) (size := size) (big := big) hB))
      have lg : ((rowsOf data off size big).drop (size - i)).length ≤ 4 := by
        rw [List.length_drop, rows_len big hl]
        omega
      have up := p256 lg
      refine ⟨_, rfl, _, _, rfl, rfl, Or.inl ⟨by omega, by omega⟩, _, rfl, _, rfl, a, data.map V.int, _, V.int z, rfl, rfl, k1.seq List.not_mem_nil hS, ?_, _, _, rfl, rfl, some (V.int ((if big = true then off + size - 1 - (size - 1 - i) else off + (size - 1 - i) : Nat))), ?_, rfl⟩
      · refine atI_nat ?_
        rw [List.getElem?_map, ← hr2]
        rfl
      · rw [show size - (i + 1) = size - 1 - i by omega, st]
        rfl
    · rintro σ H2 ⟨v, rfl, rfl⟩
      rw [List.length_map, plc_len, Nat.sub_self]
      exact ⟨_, rfl, q _ k1⟩
/-! ### _write_number -/
abbrev s__write_number : Stmt := top 12
theorem sc__write_number : FnScope ["data", "offset", "size", "big", "number", "rest", "place"] ["data", "offset", "size", "big", "number"] (defScope s__write_number) := ⟨rfl, rfl, rfl, by decide +kernel, rfl, by decide +kernel, by decide +kernel⟩

/-- the bytes of a word written one by one -/
def wrf (data : List Int) (off size : Nat) (big : Bool) (N : Int) : Nat → List Int
  | 0 => data
  | i + 1 => (wrf data off size big N i).set (if big then off + size - 1 - i else off + i) (N / 256 ^ i % 256)
def ordr (big : Bool) (l : List Int) : List Int := if big then l.reverse else l
def wr (data : List Int) (off size : Nat) (big : Bool) (N : Int) : List Int := data.take off ++ ordr big (MZ.bytes N size) ++ data.drop (off + size)
theorem wrf_len (data : List Int) (off size : Nat) (big : Bool) (N : Int) : ∀ i, (wrf data off size big N i).length = data.length
  | 0 => rfl
  | i + 1 => by
    show ((wrf data off size big N i).set _ _).length = _
    rw [List.length_set, wrf_len data off size big N i]
theorem ordr_len (big : Bool) (l : List Int) : (ordr big l).length = l.length := by
  unfold ordr
  cases big <;> simp
theorem wr_len {data : List Int} {off size : Nat} (big : Bool) (N : Int) (h : off + size ≤ data.length) : (wr data off size big N).length = data.length := by
  unfold wr
  rw [List.length_append, List.length_append, ordr_len, MZ.bytes_len, List.length_take, List.length_drop]
  omega
theorem wrf_at (data : List Int) (off size : Nat) (big : Bool) (N : Int) (h : off + size ≤ data.length) : ∀ i, i ≤ size → ∀ k, (wrf data off size big N i)[k]? =
    if off ≤ k ∧ k < off + size ∧ (if big then off + size - 1 - k else k - off) < i then some (N / 256 ^ (if big then off + size - 1 - k else k - off) % 256) else data[k]? := by
  intro i
  induction i with
  | zero =>
    intro _ k
    rw [if_neg (by omega)]
    rfl
  | succ i ih =>
    intro hi k
    show ((wrf data off size big N i).set (if big then off + size - 1 - i else off + i) (N / 256 ^ i % 256))[k]? = _
    rw [List.getElem?_set, wrf_len]
    cases big with
    | true =>
      have ih := ih (by omega) k
      simp only [if_true] at ih ⊢
      by_cases e : off + size - 1 - i = k
      · rw [if_pos e, if_pos (by omega), if_pos (by omega)]
        have e2 : off + size - 1 - k = i := by omega
        rw [e2]
      · rw [if_neg e, ih]
        by_cases c : off ≤ k ∧ k < off + size ∧ off + size - 1 - k < i
        · rw [if_pos c, if_pos (by omega)]
        · rw [if_neg c, if_neg (by omega)]
    | false =>
      have ih := ih (by omega) k
      simp only [Bool.false_eq_true, if_false] at ih ⊢
      by_cases e : off + i = k
      · rw [if_pos e, if_pos (by omega), if_pos (by omega)]
        have e2 : k - off = i := by omega
        rw [e2]
      · rw [if_neg e, ih]
        by_cases c : off ≤ k ∧ k < off + size ∧ k - off < i
        · rw [if_pos c, if_pos (by omega)]
        · rw [if_neg c, if_neg (by omega)]
theorem ordr_at {big : Bool} {l : List Int} {j : Nat} (h : j < l.length) : (ordr big l)[j]? = l[if big then l.length - 1 - j else j]? := by
  unfold ordr
  cases big with
  | true =>
    show l.reverse[j]? = l[l.length - 1 - j]?
    rw [List.getElem?_reverse h]
  | false => rfl
theorem wrf_all {data : List Int} {off size : Nat} (big : Bool) (N : Int) (h : off + size ≤ data.length) : wrf data off size big N size = wr data off size big N := by
  apply List.ext_getElem?
  intro k
  rw [wrf_at data off size big N h size (Nat.le_refl _) k]
  unfold wr
  have l1 : (data.take off).length = off := by
    rw [List.length_take]
    omega
  have l2 : (ordr big (MZ.bytes N size)).length = size := by rw [ordr_len, MZ.bytes_len]
  by_cases c1 : k < off
  · rw [if_neg (by omega), List.append_assoc, List.getElem?_append_left (by omega), List.getElem?_take_of_lt c1]
  · by_cases c2 : k < off + size
    · have c3 : (if big then off + size - 1 - k else k - off) < size := by
        cases big <;> simp <;> omega
      rw [if_pos ⟨by omega, c2, c3⟩, List.getElem?_append_left (by rw [List.length_append]; omega), List.getElem?_append_right (by omega), l1, ordr_at (by rw [MZ.bytes_len]; omega), MZ.bytes_len]
      have e : (if big = true then size - 1 - (k - off) else k - off) = (if big then off + size - 1 - k else k - off) := by
        cases big <;> simp
        omega
      rw [e, MZ.bytes_emod256 size N _ c3]
    · rw [if_neg (by omega), List.getElem?_append_right (by rw [List.length_append]; omega), List.length_append, l1, l2, List.getElem?_drop]
      congr 1
      omega
def sp_write_number : Sp := fun vs H Q _ => ∃ (a : Addr) (data : List Int) (off size : Nat) (big : Bool) (N : Int), vs = [.ref a, .int off, .int size, .bl big, .int N] ∧ H a = some (.lst (data.map V.int)) ∧ off + size ≤ data.length ∧ data.length ≤ 10000 ∧ size ≤ 4 ∧
  ∀ H', Kp [a] H H' → H' a = some (.lst ((wr data off size big N).map V.int)) → Q .non H'
theorem d_write_number {f : Addr} {fd : FuncData} (F : L2.Fun K "_write_number" "_write_number" s__write_number f fd) (hm : mg "_write_number" = some (.ref f)) (bd : Binds K fd ["data", "offset", "size", "big", "number"] []) (c__places : Df P w K mg base 1 "_places" sp_places) : Df P w K mg base 2 "_write_number" sp_write_number := by
  refine df_0 F hm bd sc__write_number (fun vs H Q E h => ?_) (fun cdv A fr s H vs Q E hr gu h => ?_)
  · obtain ⟨a, data, off, size, big, N, rfl, _⟩ := h
    rfl
  · obtain ⟨a, data, off, size, big, N, rfl, hS, hl, hd, hz, q⟩ := h
    refine ⟨_, (pss_cons (ps_set (i := 5) sc__write_number.nd rfl (Or.inl rfl) (pv 4))
      (pss_one (ps_for PassesOwn.never rfl (pi_list (pe_f c__places hr (by decide) gu (by rfl) (pa_cons (pv 1) (pa_cons (pv 2) (pa_cons (pv 3) pa_nil))))) (pg_name (i := 6) sc__write_number.nd rfl (Or.inl rfl))
        (pss_cons (ps_asg (pe_op op_and (pv 5) pe_int) (pg_sub (pv 0) (pv 6) set_list))
        (pss_one (ps_set (i := 5) sc__write_number.nd rfl (Or.inl rfl) (pe_op op_shr (pv 5) pe_int))))))), ?_⟩
    refine ⟨_, rfl, _, rfl, _, rfl, _, rfl, off, size, big, rfl, by omega, fun H1 p k1 np e1 => ?_⟩
    have nap : a ≠ p := ne_of_none hS np
    refine ⟨p, rfl, ⟨_, SqL.of e1⟩, for_list (K := K) (a := p) (xs := (plc off size big).map fun n => V.int (n : Nat))
      (fun i σ H2 => ∃ v, σ = [some (.ref a), some (.int off), some (.int size), some (.bl big), some (.int N), some (.int (N / 256 ^ i)), v] ∧ Kp [a] H1 H2 ∧ H2 a = some (.lst ((wrf data off size big N i).map V.int)))
      ⟨none, by rw [show N / 256 ^ 0 = N from Int.ediv_one N]; rfl, Kp.refl _, k1.at hS⟩ ?_ ?_ ?_⟩
    · rintro i σ H2 _ ⟨v, rfl, k2, e2⟩
      exact k2.seq (by simpa using nap.symm) (SqL.of e1)
    · rintro i x σ H2 hx ⟨v, rfl, k2, e2⟩
      have hi : i < size := by
        have z := (List.getElem?_eq_some_iff.mp hx).1
        rw [List.length_map, plc_len] at z
        exact z
      rw [List.getElem?_map, plc_at big hi] at hx
      obtain rfl := (Option.some.inj hx).symm
      have hk : (if big then off + size - 1 - i else off + i) < ((wrf data off size big N i).map V.int).length := by
        rw [List.length_map, wrf_len]
        cases big <;> simp <;> omega
      refine ⟨_, rfl, _, _, rfl, rfl, _, rfl, _, rfl, a, _, _, _, rfl, rfl, e2, ixn hk, ?_⟩
      refine ⟨_, rfl, _, _, rfl, rfl, (show (0 : Int) ≤ 8 by decide), ?_⟩
      refine ⟨some (V.int ((if big = true then off + size - 1 - i else off + i : Nat))), ?_, k2.trans (Kp.put (by simp)), ?_⟩
      · have e : N / 256 ^ i / 2 ^ (8 : Int).toNat = N / 256 ^ (i + 1) := by
          rw [Int.pow_succ, ← Int.ediv_ediv_of_nonneg (Int.le_of_lt (Int.pow_pos (by decide)))]
          rfl
        rw [← e]
        rfl
      · rw [upd_same]
        show some (HO.lst (((wrf data off size big N i).map V.int).set (if big = true then off + size - 1 - i else off + i) (V.int (Builtin.bitAnd (N / 256 ^ i) 255)))) = some (HO.lst (((wrf data off size big N i).set (if big = true then off + size - 1 - i else off + i) (N / 256 ^ i % 256)).map V.int))
        rw [MZ.and_255, List.map_set]
    · rintro σ H2 ⟨v, rfl, k2, e2⟩
      rw [List.length_map, plc_len, wrf_all big N hl] at e2
      exact q _ ((k1.of0).trans k2) e2
/-! ### read_slot -/
abbrev s_read_slot : Stmt := top 4
theorem sc_read_slot : FnScope ["data", "offset", "size", "big", "first", "width", "signed", "number", "value", "greatest"] ["data", "offset", "size", "big", "first", "width", "signed"] (defScope s_read_slot) := ⟨rfl, rfl, rfl, by decide +kernel, rfl, by decide +kernel, by decide +kernel⟩

def slotV (N : Int) (f w : Nat) (sg : Bool) : Int := if N / 2 ^ f % 2 ^ w ≤ hi w sg then N / 2 ^ f % 2 ^ w else N / 2 ^ f % 2 ^ w - 2 ^ w
def sp_read_slot (K : PySem.W.Frag) : Sp := fun vs H Q _ => ∃ (a : Addr) (data : List Int) (off size : Nat) (big : Bool) (f w : Nat) (sg : Bool), vs = [.ref a, .int off, .int size, .bl big, .int f, .int w, .bl sg] ∧ SqL K H a (data.map V.int) ∧ MZ.B8 data ∧
  off + size ≤ data.length ∧ data.length ≤ 10000 ∧ size ≤ 4 ∧ 1 ≤ w ∧ f + w ≤ 8 * size ∧ ∀ H', Kp [] H H' → Q (.int (slotV (MZ.num (rowsOf data off size big)) f w sg)) H'
theorem d_read_slot {f : Addr} {fd : FuncData} (F : L2.Fun K "read_slot" "read_slot" s_read_slot f fd) (hm : mg "read_slot" = some (.ref f)) (bd : Binds K fd ["data", "offset", "size", "big", "first", "width", "signed"] []) (c__ones : Df P w K mg base 1 "_ones" sp_ones) (c_bounds : Df P w K mg base 2 "bounds" sp_bounds) (c__read_number : Df P w K mg base 2 "_read_number" (sp_read_number K)) : Df P w K mg base 3 "read_slot" (sp_read_slot K) := by
  refine df_0 F hm bd sc_read_slot (fun vs H Q E h => ?_) (fun cdv A fr s H vs Q E hr gu h => ?_)
  · obtain ⟨a, data, off, size, big, f, w, sg, rfl, _⟩ := h
    rfl
  · obtain ⟨a, data, off, size, big, f, w, sg, rfl, hS, hB, hl, hd, hz, hw, hfw, q⟩ := h
    refine ⟨_, (pss_cons (ps_set (i := 7) sc_read_slot.nd rfl (Or.inl rfl) (pe_f c__read_number hr (by decide) gu (by rfl) (pa_cons (pv 0) (pa_cons (pv 1) (pa_cons (pv 2) (pa_cons (pv 3) pa_nil))))))
      (pss_cons (ps_set (i := 8) sc_read_slot.nd rfl (Or.inl rfl) (pe_op op_and (pe_op op_shr (pv 7) (pv 4)) (pe_f c__ones hr (by decide) gu (by rfl) (pa_cons (pv 5) pa_nil))))
      (pss_cons (ps_set (i := 9) sc_read_slot.nd rfl (Or.inl rfl) (pe_ix ix_tup (pe_f c_bounds hr (by decide) gu (by rfl) (pa_cons (pv 5) (pa_cons (pv 6) pa_nil))) pe_int (fun _ _ => rfl)))
      (pss_one (ps_ret (pe_ifExp (pt_cmpR op_le (pv 8) (pv 9) (nomark _)) (pv 8) (pe_op op_sub (pv 8) (pe_op op_shl pe_int (pv 5))))))))), ?_⟩
    refine ⟨_, rfl, _, rfl, _, rfl, _, rfl, a, data, off, size, big, rfl, hS, hB, hl, hd, hz, fun H1 k1 => ?_⟩
    refine ⟨_, rfl, _, rfl, _, _, rfl, rfl, (by omega), _, rfl, w, rfl, by omega, _, _, rfl, rfl, ?_⟩
    refine ⟨_, rfl, _, rfl, w, sg, rfl, hw, by omega, fun p np => ⟨p, _, 1, _, rfl, rfl, SqT.of upd_same, atI_nat (j := 1) rfl, ?_⟩⟩
    have e : Builtin.bitAnd (MZ.num (rowsOf data off size big) / 2 ^ (f : Int).toNat) (2 ^ w - 1) = MZ.num (rowsOf data off size big) / 2 ^ f % 2 ^ w := by
      rw [Int.toNat_natCast, MZ.and_ones]
    refine ⟨_, rfl, _, rfl, _, _, rfl, rfl, _, rfl, ?_⟩
    have q' := q (upd H1 p (.tup [.int (lo w sg), .int (hi w sg)])) (k1.trans (Kp.new np))
    unfold slotV at q'
    refine ite2 (fun c => ?_) (fun c => ?_)
    · have c' : Builtin.bitAnd (MZ.num (rowsOf data off size big) / 2 ^ (f : Int).toNat) (2 ^ w - 1) ≤ hi w sg := of_decide_eq_true c
      rw [e] at c'
      rw [if_pos c'] at q'
      refine ⟨_, rfl, ?_⟩
      show Q (.int (Builtin.bitAnd (MZ.num (rowsOf data off size big) / 2 ^ (f : Int).toNat) (2 ^ w - 1))) _
      rw [e]
      exact q'
    · have c' : ¬ Builtin.bitAnd (MZ.num (rowsOf data off size big) / 2 ^ (f : Int).toNat) (2 ^ w - 1) ≤ hi w sg := fun z => c (decide_eq_true z)
      rw [e] at c'
      rw [if_neg c'] at q'
      refine ⟨_, rfl, _, rfl, _, _, rfl, rfl, ⟨by omega, by omega, by decide⟩, _, _, rfl, rfl, ?_⟩
      show Q (.int (Builtin.bitAnd (MZ.num (rowsOf data off size big) / 2 ^ (f : Int).toNat) (2 ^ w - 1) - 1 * 2 ^ (w : Int).toNat)) _
      rw [e, Int.toNat_natCast w, Int.one_mul]
      exact q'
/-! ### write_slot -/
abbrev s_write_slot : Stmt := top 5
theorem sc_write_slot : FnScope ["data", "offset", "size", "big", "first", "width", "signed", "value", "least", "greatest", "slot", "number", "others"] ["data", "offset", "size", "big", "first", "width", "signed", "value"] (defScope s_write_slot) := ⟨rfl, rfl, rfl, by decide +kernel, rfl, by decide +kernel, by decide +kernel⟩

def sp_write_slot (cO : Addr) : Sp := fun vs H Q E => ∃ (a : Addr) (data : List Int) (off size : Nat) (big : Bool) (f w : Nat) (sg : Bool) (v : Int), vs = [.ref a, .int off, .int size, .bl big, .int f, .int w, .bl sg, .int v] ∧ H a = some (.lst (data.map V.int)) ∧ MZ.B8 data ∧
  off + size ≤ data.length ∧ data.length ≤ 10000 ∧ size ≤ 4 ∧ 1 ≤ w ∧ f + w ≤ 8 * size ∧
  (∀ H', Kp [] H H' → (v < lo w sg ∨ hi w sg < v) → E (.ref cO) none H') ∧
  ∀ H', Kp [a] H H' → lo w sg ≤ v → v ≤ hi w sg → H' a = some (.lst ((wr data off size big (MZ.putN (MZ.num (rowsOf data off size big)) f w v)).map V.int)) → Q .non H'
theorem lo_ge {w : Nat} (sg : Bool) (h : w ≤ 32) : -(2 ^ 32) ≤ lo w sg := by
  have e := MZ.pow_le (show w - 1 ≤ 32 by omega)
  unfold lo
  cases sg
  · show -(2 ^ 32) ≤ (0 : Int)
    decide
  · show (-(2 ^ 32) : Int) ≤ -(2 ^ (w - 1))
    omega
theorem hi_le {w : Nat} (sg : Bool) (h : w ≤ 32) : hi w sg ≤ 2 ^ 32 := by
  have e := MZ.pow_le (show w - 1 ≤ 32 by omega)
  have e2 := MZ.pow_le h
  unfold hi
  cases sg
  · show (2 : Int) ^ w - 1 ≤ 2 ^ 32
    omega
  · show (2 : Int) ^ (w - 1) - 1 ≤ 2 ^ 32
    omega
theorem r_OutOfRange {X : Cx} (T : Tx X.K X.mg cR cO) : Raises X (.ref cO) := raises_own T.s_OutOfRange T.t_OutOfRange
theorem d_write_slot {f : Addr} {fd : FuncData} (F : L2.Fun K "write_slot" "write_slot" s_write_slot f fd) (hm : mg "write_slot" = some (.ref f)) (bd : Binds K fd ["data", "offset", "size", "big", "first", "width", "signed", "value"] []) (T : Tx K mg cR cO) (c__ones : Df P w K mg base 1 "_ones" sp_ones) (c_bounds : Df P w K mg base 2 "bounds" sp_bounds) (c__read_number : Df P w K mg base 2 "_read_number" (sp_read_number K))
    (c__write_number : Df P w K mg base 2 "_write_number" sp_write_number) : Df P w K mg base 3 "write_slot" (sp_write_slot cO) := by
  refine df_of F hm bd sc_write_slot (fun vs H Q E h => ?_) (fun cdv A fr s H vs Q E hr gu h => ?_)
  · obtain ⟨a, data, off, size, big, f, w, sg, v, rfl, _⟩ := h
    rfl
  · obtain ⟨a, data, off, size, big, f, w, sg, v, rfl, hS, hB, hl, hd, hz, hw, hfw, bad, good⟩ := h
    refine ⟨_, (pss_cons (ps_asg (pe_f c_bounds hr (by decide) gu (by rfl) (pa_cons (pv 5) (pa_cons (pv 6) pa_nil))) (pg_tup (by rfl) (pgs_cons (pg_name (i := 8) sc_write_slot.nd rfl (Or.inl rfl)) (pgs_cons (pg_name (i := 9) sc_write_slot.nd rfl (Or.inl rfl)) pgs_nil))))
      (pss_cons (ps_if (PW.pt (pw_or (pt_cmpR op_lt (pv 7) (pv 8) (nomark _)) (pw_or1 (pt_cmpR op_gt (pv 7) (pv 9) (nomark _)))))
        (pss_one (ps_raise rfl (takes_of rfl rfl rfl rfl) (pmk_own0 PySem.F.excBase_ValueError T.x_OutOfRange T.g_OutOfRange T.k_OutOfRange (r_OutOfRange T) (by rfl))))
        pss_nil)
      (pss_cons (ps_set (i := 10) sc_write_slot.nd rfl (Or.inl rfl) (pe_op op_shl (pe_f c__ones hr (by decide) gu (by rfl) (pa_cons (pv 5) pa_nil)) (pv 4)))
      (pss_cons (ps_set (i := 11) sc_write_slot.nd rfl (Or.inl rfl) (pe_f c__read_number hr (by decide) gu (by rfl) (pa_cons (pv 0) (pa_cons (pv 1) (pa_cons (pv 2) (pa_cons (pv 3) pa_nil))))))
      (pss_cons (ps_set (i := 12) sc_write_slot.nd rfl (Or.inl rfl) (pe_op op_sub (pv 11) (pe_op op_and (pv 11) (pv 10))))
      (pss_one (ps_expr (pe_f c__write_number hr (by decide) gu (by rfl) (pa_cons (pv 0) (pa_cons (pv 1) (pa_cons (pv 2) (pa_cons (pv 3) (pa_cons (pe_op op_add (pv 12) (pe_op op_and (pe_op op_shl (pv 7) (pv 4)) (pv 10))) pa_nil))))))))))))), ?_⟩
    refine ⟨_, rfl, _, rfl, w, sg, rfl, hw, by omega, fun p np => ?_⟩
    have nap : a ≠ p := ne_of_none hS np
    have k1 : Kp [] H (upd H p (.tup [.int (lo w sg), .int (hi w sg)])) := Kp.new np
    refine ⟨p, _, rfl, SqT.of upd_same, rfl, _, _, rfl, _, _, rfl, rfl, ?_⟩
    refine ⟨_, rfl, _, rfl, _, _, rfl, rfl, _, rfl, ?_⟩
    refine ite2 (fun c => ?_) (fun c => ?_)
    · refine iteT ?_
      exact bad _ k1 (Or.inl (of_decide_eq_true c))
    · have c1 : ¬ v < lo w sg := fun z => c (decide_eq_true z)
      refine ⟨_, rfl, _, rfl, _, _, rfl, rfl, _, rfl, ?_⟩
      refine ite2 (fun c => ?_) (fun c => ?_)
      · exact bad _ k1 (Or.inr (of_decide_eq_true c))
      · have c2 : ¬ hi w sg < v := fun z => c (decide_eq_true z)
        have g1 := lo_ge sg (show w ≤ 32 by omega)
        have g2 := hi_le sg (show w ≤ 32 by omega)
        have pw := MZ.pow_le (show w ≤ 32 by omega)
        have pp := MZ.pow_pos w
        refine ⟨_, rfl, w, rfl, by omega, _, rfl, _, _, rfl, rfl, ⟨by omega, by omega, by omega⟩, ?_⟩
        refine ⟨_, rfl, _, rfl, _, rfl, _, rfl, a, data, off, size, big, rfl, k1.seq List.not_mem_nil (SqL.of hS), hB, hl, hd, hz, fun H2 k2 => ?_⟩
        have k12 := k1.trans k2
        refine ⟨_, rfl, _, rfl, _, rfl, _, _, rfl, rfl, _, _, rfl, rfl, ?_⟩
        refine ⟨_, rfl, _, rfl, _, rfl, _, rfl, _, rfl, _, rfl, _, rfl, _, _, rfl, rfl, ⟨by omega, by omega, by omega⟩, _, rfl, _, _, rfl, rfl, _, _, rfl, rfl, ?_⟩
        refine ⟨a, data, off, size, big, MZ.putN (MZ.num (rowsOf data off size big)) f w v, ?_, k12.at hS, hl, hd, hz, fun H3 k3 e3 => ?_⟩
        · have e := MZ.put_eq (MZ.num (rowsOf data off size big)) v f w
          show [V.ref a, .int off, .int size, .bl big, .int (MZ.num (rowsOf data off size big) - Builtin.bitAnd (MZ.num (rowsOf data off size big)) ((2 ^ w - 1) * 2 ^ (f : Int).toNat) + Builtin.bitAnd (v * 2 ^ (f : Int).toNat) ((2 ^ w - 1) * 2 ^ (f : Int).toNat))] = _
          rw [Int.toNat_natCast, e]
        · exact good H3 (k12.of0.trans k3) (by omega) (by omega) e3
/-! ### read_word, write_word -/
abbrev s_read_word : Stmt := top 6
theorem sc_read_word : FnScope ["data", "offset", "size"] ["data", "offset", "size"] (defScope s_read_word) := ⟨rfl, rfl, rfl, by decide +kernel, rfl, by decide +kernel, by decide +kernel⟩

def sp_read_word (K : PySem.W.Frag) : Sp := fun vs H Q _ => ∃ (a : Addr) (data : List Int) (off size : Nat), vs = [.ref a, .int off, .int size] ∧ SqL K H a (data.map V.int) ∧ MZ.B8 data ∧ off + size ≤ data.length ∧ data.length ≤ 10000 ∧ size ≤ 4 ∧ 1 ≤ size ∧
  ∀ H', Kp [] H H' → Q (.int (MZ.num (rowsOf data off size false))) H'
theorem slot_whole {l : List Int} (hB : MZ.B8 l) : slotV (MZ.num l) 0 (8 * l.length) false = MZ.num l := by
  have r := MZ.num_range l hB
  have e : (2 : Int) ^ (8 * l.length) = 256 ^ l.length := by rw [Int.pow_mul]; rfl
  unfold slotV hi
  rw [show (2 : Int) ^ 0 = 1 from rfl, Int.ediv_one, e, Int.emod_eq_of_lt r.1 r.2]
  show (if MZ.num l ≤ 256 ^ l.length - 1 then _ else _) = _
  rw [if_pos (by omega)]
theorem d_read_word {f : Addr} {fd : FuncData} (F : L2.Fun K "read_word" "read_word" s_read_word f fd) (hm : mg "read_word" = some (.ref f)) (bd : Binds K fd ["data", "offset", "size"] []) (c_read_slot : Df P w K mg base 3 "read_slot" (sp_read_slot K)) : Df P w K mg base 4 "read_word" (sp_read_word K) := by
  refine df_0 F hm bd sc_read_word (fun vs H Q E h => ?_) (fun cdv A fr s H vs Q E hr gu h => ?_)
  · obtain ⟨a, data, off, size, rfl, _⟩ := h
    rfl
  · obtain ⟨a, data, off, size, rfl, hS, hB, hl, hd, hz, h1, q⟩ := h
    refine ⟨_, (pss_one (ps_ret (pe_f c_read_slot hr (by decide) gu (by rfl) (pa_cons (pv 0) (pa_cons (pv 1) (pa_cons (pv 2) (pa_cons pe_bl (pa_cons pe_int (pa_cons (pe_op op_mul pe_int (pv 2)) (pa_cons pe_bl pa_nil)))))))))), ?_⟩
    refine ⟨_, rfl, _, rfl, _, rfl, _, rfl, _, _, rfl, rfl, Or.inl ⟨by omega, by omega⟩, a, data, off, size, false, 0, 8 * size, false, ?_, hS, hB, hl, hd, hz, by omega, by omega, fun H1 k1 => ?_⟩
    · show [V.ref a, .int off, .int size, .bl false, .int 0, .int (8 * (size : Int)), .bl false] = _
      rw [show ((8 * size : Nat) : Int) = 8 * (size : Int) by omega]
      rfl
    · have e := slot_whole (l := rowsOf data off size false) (B8.rows hB)
      rw [rows_len false hl] at e
      show Q (.int (slotV (MZ.num (rowsOf data off size false)) 0 (8 * size) false)) H1
      rw [e]
      exact q H1 k1
abbrev s_write_word : Stmt := top 7
theorem sc_write_word : FnScope ["data", "offset", "size", "value"] ["data", "offset", "size", "value"] (defScope s_write_word) := ⟨rfl, rfl, rfl, by decide +kernel, rfl, by decide +kernel, by decide +kernel⟩

def sp_write_word : Sp := fun vs H Q _ => ∃ (a : Addr) (data : List Int) (off size : Nat) (v : Int), vs = [.ref a, .int off, .int size, .int v] ∧ H a = some (.lst (data.map V.int)) ∧ MZ.B8 data ∧ off + size ≤ data.length ∧ data.length ≤ 10000 ∧ size ≤ 4 ∧ 1 ≤ size ∧
  0 ≤ v ∧ v < 256 ^ size ∧ ∀ H', Kp [a] H H' → H' a = some (.lst ((wr data off size false v).map V.int)) → Q .non H'
theorem wr_congr {data : List Int} {off size : Nat} {big : Bool} {N M : Int} (h : MZ.bytes N size = MZ.bytes M size) : wr data off size big N = wr data off size big M := by
  unfold wr
  rw [h]
theorem d_write_word {f : Addr} {fd : FuncData} (F : L2.Fun K "write_word" "write_word" s_write_word f fd) (hm : mg "write_word" = some (.ref f)) (bd : Binds K fd ["data", "offset", "size", "value"] []) (c_write_slot : Df P w K mg base 3 "write_slot" (sp_write_slot cO)) : Df P w K mg base 4 "write_word" sp_write_word := by
  refine df_0 F hm bd sc_write_word (fun vs H Q E h => ?_) (fun cdv A fr s H vs Q E hr gu h => ?_)
  · obtain ⟨a, data, off, size, v, rfl, _⟩ := h
    rfl
  · obtain ⟨a, data, off, size, v, rfl, hS, hB, hl, hd, hz, h1, v0, v1, q⟩ := h
    have e : (2 : Int) ^ (8 * size) = 256 ^ size := by rw [Int.pow_mul]; rfl
    have el : lo (8 * size) false = 0 := rfl
    have eh : hi (8 * size) false = 256 ^ size - 1 := by
      show (2 : Int) ^ (8 * size) - 1 = _
      rw [e]
    refine ⟨_, (pss_one (ps_expr (pe_f c_write_slot hr (by decide) gu (by rfl) (pa_cons (pv 0) (pa_cons (pv 1) (pa_cons (pv 2) (pa_cons pe_bl (pa_cons pe_int (pa_cons (pe_op op_mul pe_int (pv 2)) (pa_cons pe_bl (pa_cons (pv 3) pa_nil))))))))))), ?_⟩
    refine ⟨_, rfl, _, rfl, _, rfl, _, rfl, _, _, rfl, rfl, Or.inl ⟨by omega, by omega⟩, _, rfl, a, data, off, size, false, 0, 8 * size, false, v, ?_, hS, hB, hl, hd, hz, by omega, by omega, fun H1 k1 z => ?_, fun H1 k1 _ _ e1 => ?_⟩
    · show [V.ref a, .int off, .int size, .bl false, .int 0, .int (8 * (size : Int)), .bl false, .int v] = _
      rw [show ((8 * size : Nat) : Int) = 8 * (size : Int) by omega]
      rfl
    · rw [el, eh] at z
      omega
    · refine q H1 k1 ?_
      have ep : MZ.putN (MZ.num (rowsOf data off size false)) 0 (8 * size) v = v := by
        have r := MZ.num_range _ (B8.rows (off := off) (size := size) (big := false) hB)
        rw [rows_len false hl] at r
        unfold MZ.putN
        rw [Nat.zero_add, e, show (2 : Int) ^ 0 = 1 from rfl, Int.emod_one, Int.ediv_eq_zero_of_lt r.1 r.2, Int.emod_eq_of_lt v0 v1]
        omega
      rw [ep] at e1
      exact e1
end
end K0
end

section
set_option Elab.async false
set_option linter.all false
set_option maxRecDepth 100000
set_option maxHeartbeats 2000000
namespace K0
open PySem PySem.Spec PyProof.Rows L2 Z RT
/-! ### the law's own defs -/
section
variable {P : Program} {w : World} {K : PySem.W.Frag} {mg : Str → Option Value} {base : Heap} {cR cO : Addr}
abbrev s__law_cell : Stmt := top 15
theorem sc__law_cell : FnScope ["script", "k"] ["script", "k"] (defScope s__law_cell) := ⟨rfl, rfl, rfl, by decide +kernel, rfl, by decide +kernel, by decide +kernel⟩

def sp_cell (K : PySem.W.Frag) : Sp := fun vs H Q _ => ∃ (a : Addr) (ns : List Int) (k : Nat), vs = [.ref a, .int k] ∧ SqL K H a (ns.map V.int) ∧ ∀ z : Int, Q (.int z) H
theorem d_cell {f : Addr} {fd : FuncData} (F : L2.Fun K "_law_cell" "_law_cell" s__law_cell f fd) (hm : mg "_law_cell" = some (.ref f)) (bd : Binds K fd ["script", "k"] []) (T : Tx K mg cR cO) : Df P w K mg base 1 "_law_cell" (sp_cell K) := by
  refine df_0 F hm bd sc__law_cell (fun vs H Q E h => ?_) (fun cdv A fr s H vs Q E hr gu h => ?_)
  · obtain ⟨a, ns, k, rfl, _⟩ := h
    rfl
  · obtain ⟨a, ns, k, rfl, hS, q⟩ := h
    refine ⟨_, (pss_cons (ps_if (pt_cmpR op_lt (pv 1) (pe_callB call_len_seq (by rfl) T.b_len PySem.boot_len (pa_cons (pv 0) pa_nil)) (nomark _))
        (pss_one (ps_ret (pe_ix ix_list (pv 0) (pv 1) (fun _ _ => rfl))))
        pss_nil)
      (pss_one (ps_ret pe_int))), ?_⟩
    refine ⟨_, rfl, _, rfl, a, _, rfl, Or.inl hS, _, _, rfl, rfl, _, rfl, ?_⟩
    refine ite2 (fun c => ?_) (fun c => ?_)
    · have c1 : (k : Int) < ((ns.map V.int).length : Int) := of_decide_eq_true c
      rw [List.length_map] at c1
      have hk : k < ns.length := by omega
      refine ⟨_, rfl, _, rfl, a, _, _, V.int ns[k], rfl, rfl, hS, atI_nat ?_, q _⟩
      rw [List.getElem?_map, List.getElem?_eq_getElem hk]
      rfl
    · exact q _
abbrev s__law_same : Stmt := top 17
theorem sc__law_same : FnScope ["actual", "due"] ["actual", "due"] (defScope s__law_same) := ⟨rfl, rfl, rfl, by decide +kernel, rfl, by decide +kernel, by decide +kernel⟩

def sp_same (K : PySem.W.Frag) : Sp := fun vs H Q _ => ∃ (x y : V) (d : PyData), vs = [x, y] ∧ Dp K H x d ∧ Dp K H y d ∧ d.showable = true ∧ d.hasDict = false ∧ d.depth ≤ 60 ∧ d.shown.length ≤ sizeLine ∧ Q (.bl true) H
theorem d_same {f : Addr} {fd : FuncData} (F : L2.Fun K "_law_same" "_law_same" s__law_same f fd) (hm : mg "_law_same" = some (.ref f)) (bd : Binds K fd ["actual", "due"] []) (T : Tx K mg cR cO) : Df P w K mg base 1 "_law_same" (sp_same K) := by
  refine df_0 F hm bd sc__law_same (fun vs H Q E h => ?_) (fun cdv A fr s H vs Q E hr gu h => ?_)
  · obtain ⟨x, y, d, rfl, _⟩ := h
    rfl
  · obtain ⟨x, y, d, rfl, h1, h2, h3, h4, h5, h6, q⟩ := h
    refine ⟨_, (pss_one (ps_ret (pe_cmpR op_eq (pe_callB (call_repr gu (hu64 hr)) (by rfl) T.b_repr (by decide +kernel) (pa_cons (pv 0) pa_nil)) (pe_callB (call_repr gu (hu64 hr)) (by rfl) T.b_repr (by decide +kernel) (pa_cons (pv 1) pa_nil)) (nomark _)))), ?_⟩
    refine ⟨_, rfl, _, d, rfl, h1, h3, h4, h5, h6, _, rfl, _, d, rfl, h2, h3, h4, h5, h6, rfl, ?_⟩
    show Q (.bl (decide (V.str d.shown = V.str d.shown))) H
    rw [decide_eq_true rfl]
    exact q
abbrev s__law_digits : Stmt := top 18
theorem sc__law_digits : FnScope ["script", "first", "last", "digits", "k", "cell", "turn", "seed"] ["script", "first", "last"] (defScope s__law_digits) := ⟨rfl, rfl, rfl, by decide +kernel, rfl, by decide +kernel, by decide +kernel⟩

def sp_digits (K : PySem.W.Frag) : Sp := fun vs H Q _ => ∃ (a : Addr) (ns : List Int) (f l : Nat), vs = [.ref a, .int f, .int l] ∧ SqL K H a (ns.map V.int) ∧ l ≤ f + 64 ∧ l ≤ 1000 ∧ f ≤ 1000 ∧
  ∀ H' p (ds : List Int), Kp [] H H' → H p = none → H' p = some (.lst (ds.map V.int)) → ds.length ≤ 60 * 64 → Q (.ref p) H'
theorem app_len (ds : List Int) (z : Int) : (ds.map V.int ++ [V.int z]) = (ds ++ [z]).map V.int := by simp
theorem d_digits {f : Addr} {fd : FuncData} (F : L2.Fun K "_law_digits" "_law_digits" s__law_digits f fd) (hm : mg "_law_digits" = some (.ref f)) (bd : Binds K fd ["script", "first", "last"] []) (T : Tx K mg cR cO) (c__law_cell : Df P w K mg base 1 "_law_cell" (sp_cell K)) : Df P w K mg base 2 "_law_digits" (sp_digits K) := by
  refine df_0 F hm bd sc__law_digits (fun vs H Q E h => ?_) (fun cdv A fr s H vs Q E hr gu h => ?_)
  · obtain ⟨a, ns, f, l, rfl, _⟩ := h
    rfl
  · obtain ⟨a, ns, f, l, rfl, hS, hl, hl2, hf, q⟩ := h
    refine ⟨_, (pss_cons (ps_set (i := 3) sc__law_digits.nd rfl (Or.inl rfl) (pe_lst pa_nil))
      (pss_cons (ps_for PassesOwn.never rfl (pi_range2 (by rfl) T.b_range (pa_cons (pv 1) (pa_cons (pv 2) pa_nil))) (pg_name (i := 4) sc__law_digits.nd rfl (Or.inl rfl))
        (pss_cons (ps_set (i := 5) sc__law_digits.nd rfl (Or.inl rfl) (pe_f c__law_cell hr (by decide) gu (by rfl) (pa_cons (pv 0) (pa_cons (pv 4) pa_nil))))
        (pss_cons (ps_if (pt_cmpR op_lt (pv 5) pe_int (nomark _))
          (pss_one (ps_set (i := 5) sc__law_digits.nd rfl (Or.inl rfl) (pe_op op_sub pe_int (pe_op op_mul pe_int (pv 5)))))
          pss_nil)
        (pss_one (ps_if (pt_cmpR op_ge (pv 5) (pe_op op_pow pe_int pe_int) (nomark _))
          (pss_one (ps_for PassesOwn.never rfl (pi_range1 (by rfl) T.b_range (pa_cons pe_int pa_nil)) (pg_name (i := 6) sc__law_digits.nd rfl (Or.inl rfl))
            (pss_one (ps_if (pt_cmpR op_gt (pv 5) pe_int (nomark _))
              (pss_cons (ps_expr (pe_bm PySem.F.plainAttrs_list PySem.F.slot_list_append PySem.F.type_list_append mt_append (pv 3) (pa_cons (pe_op op_mod (pe_callTy call_int1 (by rfl) T.b_int (by decide +kernel) (pa_cons (pv 5) pa_nil)) pe_int) pa_nil)))
              (pss_one (ps_set (i := 5) sc__law_digits.nd rfl (Or.inl rfl) (pe_op op_fdiv (pv 5) pe_int))))
              pss_nil))))
          (pss_cons (ps_set (i := 7) sc__law_digits.nd rfl (Or.inl rfl) (pe_op op_mod (pe_callTy call_int1 (by rfl) T.b_int (by decide +kernel) (pa_cons (pe_op op_add (pe_op op_add (pe_op op_mul (pv 5) pe_int) (pe_op op_mul (pv 4) pe_int)) pe_int) pa_nil)) pe_int))
          (pss_one (ps_for PassesOwn.never rfl (pi_range1 (by rfl) T.b_range (pa_cons pe_int pa_nil)) (pg_name (i := 6) sc__law_digits.nd rfl (Or.inl rfl))
            (pss_cons (ps_set (i := 7) sc__law_digits.nd rfl (Or.inl rfl) (pe_op op_mod (pe_callTy call_int1 (by rfl) T.b_int (by decide +kernel) (pa_cons (pe_op op_add (pe_op op_add (pe_op op_mul (pv 7) pe_int) (pe_op op_mul pe_int (pv 6))) pe_int) pa_nil)) pe_int))
            (pss_one (ps_expr (pe_bm PySem.F.plainAttrs_list PySem.F.slot_list_append PySem.F.type_list_append mt_append (pv 3) (pa_cons (pe_op op_mod (pe_callTy call_int1 (by rfl) T.b_int (by decide +kernel) (pa_cons (pe_op op_fdiv (pv 7) pe_int) pa_nil)) pe_int) pa_nil)))))))))))))
      (pss_one (ps_ret (pv 3))))), ?_⟩
    refine ⟨small (by show 0 ≤ 100000; decide), fun p np => ?_⟩
    have nap : ∀ {H2 : Hp}, Kp [p] H H2 → SqL K H2 a (ns.map V.int) := fun k => (Kp.ownK (Kp.refl H) np k).seq List.not_mem_nil hS
    refine ⟨_, rfl, _, rfl, _, _, rfl, ⟨by omega, by omega, by omega, by omega⟩, for_range (lo := (f : Int)) (n := ((l : Int) - f).toNat)
      (fun i σ H2 => ∃ (v4 v5 v6 v7 : Option V) (ds : List Int), σ = [some (.ref a), some (.int f), some (.int l), some (.ref p), v4, v5, v6, v7] ∧ Kp [p] H H2 ∧ H2 p = some (.lst (ds.map V.int)) ∧ ds.length ≤ 60 * i)
      ⟨none, none, none, none, [], rfl, Kp.new np, upd_same, Nat.zero_le _⟩ ?_ ?_⟩
    · rintro i σ H2 hi ⟨v4, v5, v6, v7, ds, rfl, k2, e2, hd⟩
      have hi64 : i < 64 := by omega
      refine ⟨_, rfl, _, rfl, a, ns, f + i, ?_, nap k2, fun z => ?_⟩
      · show [V.ref a, V.int ((f : Int) + (i : Nat))] = _
        rw [show ((f + i : Nat) : Int) = (f : Int) + (i : Nat) by omega]
      -- if cell < 0
      refine ⟨_, rfl, _, _, rfl, rfl, _, rfl, ?_⟩
      refine ite2 (fun c => ?_) (fun c => ?_)
      refine ⟨_, rfl, _, _, rfl, rfl, Or.inl ⟨by decide, by decide⟩, _, _, rfl, rfl, ?_⟩
      all_goals
        -- if cell >= 10 ** 18
        refine ⟨_, rfl, _, _, rfl, rfl, ⟨by decide, by decide, by decide⟩, _, _, rfl, rfl, _, rfl, ?_⟩
        refine ite2 (fun c => ?_) (fun c => ?_)
        · refine ⟨_, rfl, by decide, by decide, for_range (lo := 0) (n := 60)
            (fun j σ H3 => ∃ (v4 v6 v7 : Option V) (c5 : Int) (es : List Int), σ = [some (.ref a), some (.int f), some (.int l), some (.ref p), v4, some (.int c5), v6, v7] ∧ Kp [p] H H3 ∧ H3 p = some (.lst (es.map V.int)) ∧ es.length ≤ 60 * i + j)
            ⟨_, _, _, _, ds, rfl, k2, e2, hd⟩ ?_ ?_⟩
          · rintro j σ H3 hj ⟨v4, v6, v7, c5, es, rfl, k3, e3, he⟩
            refine ⟨_, rfl, _, _, rfl, rfl, _, rfl, ?_⟩
            refine ite2 (fun c => ?_) (fun c => ?_)
            · refine ⟨.ref p, rfl, Or.inl ⟨rfl, _, SqL.of e3⟩, _, rfl, Or.inl ⟨_, rfl, _, _, rfl, rfl, (by show (0 : Int) < _; decide), p, _, _, rfl, rfl, e3, small' (by rw [List.length_map]; omega), ?_⟩⟩
              refine ⟨_, rfl, _, _, rfl, rfl, ⟨by decide, by decide⟩, ?_⟩
              refine ⟨_, _, _, _, es ++ [c5 % 1000], rfl, k3.trans (Kp.put (by simp)), ?_, by rw [List.length_append]; show es.length + 1 ≤ _; omega⟩
              rw [upd_same, ← app_len]
            · exact ⟨_, _, _, _, es, rfl, k3, e3, by omega⟩
          · rintro σ H3 ⟨v4, v6, v7, c5, es, rfl, k3, e3, he⟩
            exact ⟨_, _, _, _, es, rfl, k3, e3, by omega⟩
        · refine ⟨_, rfl, _, _, rfl, rfl, Or.inr ⟨by decide, by decide⟩, _, rfl, _, _, rfl, rfl, Or.inr ⟨by decide, by decide⟩, _, _, rfl, rfl, _, _, rfl, rfl, Or.inl ⟨_, rfl, _, _, rfl, rfl, (by show (0 : Int) < _; decide), ?_⟩⟩
          refine ⟨_, rfl, by decide, by decide, for_range (lo := 0) (n := 12)
            (fun j σ H3 => ∃ (v4 v5 v6 : Option V) (c7 : Int) (es : List Int), σ = [some (.ref a), some (.int f), some (.int l), some (.ref p), v4, v5, v6, some (.int c7)] ∧ Kp [p] H H3 ∧ H3 p = some (.lst (es.map V.int)) ∧ es.length ≤ 60 * i + j)
            ⟨_, _, _, _, ds, rfl, k2, e2, hd⟩ ?_ ?_⟩
          · rintro j σ H3 hj ⟨v4, v5, v6, c7, es, rfl, k3, e3, he⟩
            refine ⟨_, rfl, _, _, rfl, rfl, Or.inr ⟨by decide, by decide⟩, _, rfl, _, _, rfl, rfl, Or.inl ⟨by decide, by decide⟩, _, _, rfl, rfl, _, _, rfl, rfl, Or.inl ⟨_, rfl, _, _, rfl, rfl, (by show (0 : Int) < _; decide), ?_⟩⟩
            refine ⟨.ref p, rfl, Or.inl ⟨rfl, _, SqL.of e3⟩, _, rfl, _, _, rfl, rfl, ⟨by decide, by decide⟩, Or.inl ⟨_, rfl, _, _, rfl, rfl, (by show (0 : Int) < _; decide), p, _, _, rfl, rfl, e3, small' (by rw [List.length_map]; omega), ?_⟩⟩
            refine ⟨_, _, _, _, es ++ [_], rfl, k3.trans (Kp.put (by simp)), by rw [upd_same, ← app_len], by rw [List.length_append]; show es.length + 1 ≤ _; omega⟩
          · rintro σ H3 ⟨v4, v5, v6, c7, es, rfl, k3, e3, he⟩
            exact ⟨_, _, _, _, es, rfl, k3, e3, by omega⟩
    · rintro σ H2 ⟨v4, v5, v6, v7, ds, rfl, k2, e2, hd⟩
      refine ⟨_, rfl, q H2 p ds (Kp.ownK (Kp.refl H) np k2) np e2 ?_⟩
      omega
/-! ### _law_draw -/
abbrev s__law_draw : Stmt := top 19
theorem sc__law_draw : FnScope ["box", "many", "at"] ["box", "many"] (defScope s__law_draw) := ⟨rfl, rfl, rfl, by decide +kernel, rfl, by decide +kernel, by decide +kernel⟩

/-- the box of drawn numbers: what is left of them is told by n -/
structure Box (H : Hp) (b D : Addr) (ds : List Int) (n : Nat) : Prop where
  hb : H b = some (.lst [.ref D, .int n])
  hD : H D = some (.lst (ds.map V.int))
theorem Box.ne {H : Hp} {b D : Addr} {ds : List Int} {n : Nat} (B : Box H b D ds n) : D ≠ b := by
  refine ne_of B.hD B.hb fun z => ?_
  injection z with z
  cases ds with
  | nil => cases z
  | cons x r =>
    injection z with z1 z2
    cases z1
theorem Box.kp {H H' : Hp} {as : List Addr} {b D : Addr} {ds : List Int} {n : Nat} (B : Box H b D ds n) (k : Kp as H H') (h1 : b ∉ as) (h2 : D ∉ as) : Box H' b D ds n := ⟨k _ _ B.hb h1, k _ _ B.hD h2⟩
def sp_draw : Sp := fun vs H Q _ => ∃ (b D : Addr) (ds : List Int) (n : Nat) (m : Int), vs = [.ref b, .int m] ∧ Box H b D ds n ∧ n ≤ 100000 ∧ 1 ≤ m ∧
  ∀ (r : Int) (H' : Hp), 0 ≤ r → r < m → Kp [b] H H' → Box H' b D ds (n + 1) → Q (.int r) H'
theorem d_draw {f : Addr} {fd : FuncData} (F : L2.Fun K "_law_draw" "_law_draw" s__law_draw f fd) (hm : mg "_law_draw" = some (.ref f)) (bd : Binds K fd ["box", "many"] []) (T : Tx K mg cR cO) : Df P w K mg base 1 "_law_draw" sp_draw := by
  refine df_0 F hm bd sc__law_draw (fun vs H Q E h => ?_) (fun cdv A fr s H vs Q E hr gu h => ?_)
  · obtain ⟨b, D, ds, n, m, rfl, _⟩ := h
    rfl
  · obtain ⟨b, D, ds, n, m, rfl, B, hn, h1, q⟩ := h
    refine ⟨_, (pss_cons (ps_set (i := 2) sc__law_draw.nd rfl (Or.inl rfl) (pe_ix ix_list (pv 0) pe_int (fun _ _ => rfl)))
      (pss_cons (ps_asg (pe_op op_add (pv 2) pe_int) (pg_sub (pv 0) pe_int set_list))
      (pss_cons (ps_if (pt_cmpR op_lt (pv 2) (pe_callB call_len_seq (by rfl) T.b_len PySem.boot_len (pa_cons (pe_ix ix_list (pv 0) pe_int (fun _ _ => rfl)) pa_nil)) (nomark _))
        (pss_one (ps_ret (pe_op op_mod (pe_callTy call_int1 (by rfl) T.b_int (by decide +kernel) (pa_cons (pe_ix ix_list (pe_ix ix_list (pv 0) pe_int (fun _ _ => rfl)) (pv 2) (fun _ _ => rfl)) pa_nil)) (pv 1))))
        pss_nil)
      (pss_one (ps_ret (pe_op op_mod (pe_callTy call_int1 (by rfl) T.b_int (by decide +kernel) (pa_cons (pe_op op_add (pe_op op_mul (pv 2) pe_int) pe_int) pa_nil)) (pv 1))))))), ?_⟩
    refine ⟨_, rfl, b, _, 0 + 1, _, rfl, rfl, SqL.of B.hb, atI_nat (j := 1) rfl, ?_⟩
    refine ⟨_, rfl, _, _, rfl, rfl, _, rfl, b, _, 0 + 1, 1, rfl, rfl, B.hb, rfl, ?_⟩
    have ub : (upd H b (.lst ([V.ref D, .int n].set 1 (.int ((n : Int) + 1))))) b = some (.lst [.ref D, .int ((n + 1 : Nat) : Int)]) := upd_same
    have uD : (upd H b (.lst ([V.ref D, .int n].set 1 (.int ((n : Int) + 1))))) D = some (.lst (ds.map V.int)) := by
      rw [upd_ne B.ne]
      exact B.hD
    have kk : Kp [b] H (upd H b (.lst ([V.ref D, .int n].set 1 (.int ((n : Int) + 1))))) := Kp.put (by simp)
    refine ⟨_, rfl, _, rfl, b, _, 0, _, rfl, rfl, SqL.of ub, atI_nat (j := 0) rfl, D, _, rfl, Or.inl (SqL.of uD), _, _, rfl, rfl, _, rfl, ?_⟩
    refine ite2 (fun c => ?_) (fun c => ?_)
    · have c1 : (n : Int) < ((ds.map V.int).length : Int) := of_decide_eq_true c
      rw [List.length_map] at c1
      have hk : n < ds.length := by omega
      refine ⟨_, rfl, b, _, 0, _, rfl, rfl, SqL.of ub, atI_nat (j := 0) rfl, _, rfl, D, _, _, V.int ds[n], rfl, rfl, SqL.of uD, atI_nat ?_, Or.inl ⟨_, rfl, _, rfl, _, _, rfl, rfl, (by show (0 : Int) < m; omega), ?_⟩⟩
      · rw [List.getElem?_map, List.getElem?_eq_getElem hk]
        rfl
      · exact q _ _ (Int.emod_nonneg _ (by omega)) (Int.emod_lt_of_pos _ (by omega)) kk ⟨ub, uD⟩
    · refine ⟨_, rfl, _, _, rfl, rfl, Or.inr ⟨by decide, by decide⟩, _, _, rfl, rfl, Or.inl ⟨_, rfl, _, rfl, _, _, rfl, rfl, (by show (0 : Int) < m; omega), ?_⟩⟩
      exact q _ _ (Int.emod_nonneg _ (by omega)) (Int.emod_lt_of_pos _ (by omega)) kk ⟨ub, uD⟩
/-! ### _law_bits -/
abbrev s__law_bits : Stmt := top 20
theorem sc__law_bits : FnScope ["data", "offset", "size", "big", "rows", "found", "byte", "k"] ["data", "offset", "size", "big"] (defScope s__law_bits) := ⟨rfl, rfl, rfl, by decide +kernel, rfl, by decide +kernel, by decide +kernel⟩

theorem cut_nat (xs : List V) (i j : Nat) (h : i ≤ j) (h2 : j ≤ xs.length) : cutV xs (some (i : Int)) (some (j : Int)) = (xs.drop i).take (j - i) := by
  unfold cutV
  rw [HT.sIx_nat, HT.sIx_nat, Nat.min_eq_left h2, Nat.min_eq_left (show i ≤ xs.length by omega)]
theorem bits_snoc (N : Int) (k : Nat) : MZ.bits N (k + 1) = MZ.bits N k ++ [N / 2 ^ k % 2] := by
  rw [MZ.bits_add]
  rfl
theorem div_snoc (N : Int) (k : Nat) : N / 2 ^ (k + 1) = N / 2 ^ k / 2 := by
  rw [← MZ.div_div]
  rfl
def sp_bits (K : PySem.W.Frag) : Sp := fun vs H Q _ => ∃ (a : Addr) (data : List Int) (off size : Nat) (big : Bool), vs = [.ref a, .int off, .int size, .bl big] ∧ SqL K H a (data.map V.int) ∧ MZ.B8 data ∧ off + size ≤ data.length ∧ size ≤ 4 ∧
  ∀ H' p, Kp [] H H' → H p = none → H' p = some (.lst ((MZ.bits (MZ.num (rowsOf data off size big)) (8 * size)).map V.int)) → Q (.ref p) H'
theorem d_bits {f : Addr} {fd : FuncData} (F : L2.Fun K "_law_bits" "_law_bits" s__law_bits f fd) (hm : mg "_law_bits" = some (.ref f)) (bd : Binds K fd ["data", "offset", "size", "big"] []) (T : Tx K mg cR cO) : Df P w K mg base 1 "_law_bits" (sp_bits K) := by
  refine df_0 F hm bd sc__law_bits (fun vs H Q E h => ?_) (fun cdv A fr s H vs Q E hr gu h => ?_)
  · obtain ⟨a, data, off, size, big, rfl, _⟩ := h
    rfl
  · obtain ⟨a, data, off, size, big, rfl, hS, hB, hl, hz, q⟩ := h
    refine ⟨_, (pss_cons (ps_set (i := 4) sc__law_bits.nd rfl (Or.inl rfl) (pe_slice sl_list (pv 0) (po_some (pv 1)) (po_some (pe_op op_add (pv 1) (pv 2)))))
      (pss_cons (ps_if (pt_val (pv 3))
        (pss_one (ps_set (i := 4) sc__law_bits.nd rfl (Or.inl rfl) (pe_revL (pv 4))))
        pss_nil)
      (pss_cons (ps_set (i := 5) sc__law_bits.nd rfl (Or.inl rfl) (pe_lst pa_nil))
      (pss_cons (ps_for PassesOwn.never rfl (pi_list (pv 4)) (pg_name (i := 6) sc__law_bits.nd rfl (Or.inl rfl))
        (pss_one (ps_for PassesOwn.never rfl (pi_range1 (by rfl) T.b_range (pa_cons pe_int pa_nil)) (pg_name (i := 7) sc__law_bits.nd rfl (Or.inl rfl))
          (pss_cons (ps_expr (pe_bm PySem.F.plainAttrs_list PySem.F.slot_list_append PySem.F.type_list_append mt_append (pv 5) (pa_cons (pe_op op_mod (pe_callTy call_int1 (by rfl) T.b_int (by decide +kernel) (pa_cons (pv 6) pa_nil)) pe_int) pa_nil)))
          (pss_one (ps_set (i := 6) sc__law_bits.nd rfl (Or.inl rfl) (pe_op op_fdiv (pv 6) pe_int)))))))
      (pss_one (ps_ret (pv 5))))))), ?_⟩
    refine ⟨_, rfl, _, rfl, _, rfl, _, rfl, _, rfl, _, _, rfl, rfl, _, rfl, a, _, rfl, hS, fun p np => ?_⟩
    have cut : cutV (data.map V.int) (some (off : Int)) (some ((off : Int) + (size : Int))) = ((data.drop off).take size).map V.int := by
      have e := cut_nat (data.map V.int) off (off + size) (by omega) (by rw [List.length_map]; exact hl)
      rw [Nat.add_sub_cancel_left, ← List.map_drop, ← List.map_take] at e
      exact e
    have ep : (upd H p (.lst (cutV (data.map V.int) (some (off : Int)) (some ((off : Int) + (size : Int)))))) p = some (.lst (((data.drop off).take size).map V.int)) := by
      rw [upd_same, cut]
    refine ⟨_, rfl, _, rfl, ?_⟩
    have rl := rows_len big hl
    have bz := MZ.bits_num _ (B8.rows (off := off) (size := size) (big := big) hB)
    rw [rl] at bz
    rw [← bz] at q
    have fl : ∀ (l : List Int) (i : Nat), (((l.take i).flatMap fun b => MZ.bits b 8)).length ≤ 8 * i := by
      intro l i
      induction l generalizing i with
      | nil => simp
      | cons b r ih =>
        cases i with
        | zero => simp
        | succ i =>
          have z := ih i
          rw [List.take_succ_cons, List.flatMap_cons, List.length_append, MZ.bits_len]
          omega
    have tail : ∀ (x : Addr) (H1 : Hp), Kp [] H H1 → H1 x = some (.lst ((rowsOf data off size big).map V.int)) → ∀ v6 v7 : Option V,
        tSeq (tAsg (tLst tNil) (gName 5)) (tSeq (tFor (iList K (tVar 4)) (gName 6) (tFor (iRng1 (tCons (tC (.int 8)) tNil)) (gName 7) (tSeq
          (tDrop (tBM K "list" rAppend (tVar 5) (tCons (tOp (rI (fun _ j => 0 < j) fun i j => .int (i % j)) (tCB (fun xs H Q => (∃ i, xs = [.int i] ∧ Q (.int i) H) ∨ ∃ k, xs = [.bl k] ∧ Q (.int (if k then 1 else 0)) H) (tCons (tVar 6) tNil)) (tC (.int 2))) tNil)))
          (tAsg (tOp (rI CDiv fun i j => .int (i / j)) (tVar 6) (tC (.int 2))) (gName 6))))) (tRet (tVar 5)))
        { nx := fun _ H' => Q .non H', rt := Q } [some (V.ref a), some (.int off), some (.int size), some (.bl big), some (.ref x), none, v6, v7] H1 := by
      intro x H1 k1 e1 v6 v7
      refine ⟨small (by show 0 ≤ 100000; decide), fun f nf => ?_⟩
      have nxf : x ≠ f := ne_of_none e1 nf
      refine ⟨_, rfl, x, rfl, ⟨_, (Kp.new nf).seq List.not_mem_nil (SqL.of e1)⟩, for_list (K := K) (a := x) (xs := (rowsOf data off size big).map V.int)
        (fun i σ H2 => ∃ v6 v7 : Option V, σ = [some (V.ref a), some (.int off), some (.int size), some (.bl big), some (.ref x), some (.ref f), v6, v7] ∧ Kp [f] H1 H2 ∧ H2 f = some (.lst ((((rowsOf data off size big).take i).flatMap fun b => MZ.bits b 8).map V.int)))
        ⟨_, _, rfl, Kp.new nf, by rw [upd_same]; rfl⟩ ?_ ?_ ?_⟩
      · rintro i σ H2 _ ⟨v6, v7, rfl, k2, e2⟩
        exact k2.seq (by simpa using nxf) (SqL.of e1)
      · rintro i y σ H2 hy ⟨v6, v7, rfl, k2, e2⟩
        have hi : i < (rowsOf data off size big).length := by
          have z := (List.getElem?_eq_some_iff.mp hy).1
          rw [List.length_map] at z
          exact z
        rw [List.getElem?_map, List.getElem?_eq_getElem hi] at hy
        obtain rfl := (Option.some.inj hy).symm
        have hlen := fl (rowsOf data off size big) i
        refine ⟨_, rfl, by decide, by decide, for_range (lo := 0) (n := 8)
          (fun j σ H3 => ∃ v7 : Option V, σ = [some (V.ref a), some (.int off), some (.int size), some (.bl big), some (.ref x), some (.ref f), some (.int ((rowsOf data off size big)[i] / 2 ^ j)), v7] ∧ Kp [f] H1 H3 ∧
            H3 f = some (.lst (((((rowsOf data off size big).take i).flatMap fun b => MZ.bits b 8) ++ MZ.bits (rowsOf data off size big)[i] j).map V.int)))
          ⟨v7, by rw [show (rowsOf data off size big)[i] / 2 ^ 0 = (rowsOf data off size big)[i] from Int.ediv_one _]; rfl, k2, by rw [e2]; show _ = some (HO.lst (((_ ++ []) : List Int).map V.int)); rw [List.append_nil]⟩ ?_ ?_⟩
        · rintro j σ H3 hj ⟨v7, rfl, k3, e3⟩
          refine ⟨.ref f, rfl, Or.inl ⟨rfl, _, SqL.of e3⟩, _, rfl, Or.inl ⟨_, rfl, _, _, rfl, rfl, (by show (0 : Int) < _; decide), f, _, _, rfl, rfl, e3, small' ?_, ?_⟩⟩
          · rw [List.length_map, List.length_append, MZ.bits_len]
            omega
          · refine ⟨_, rfl, _, _, rfl, rfl, ⟨by decide, by decide⟩, ?_⟩
            refine ⟨some (.int (0 + (j : Nat))), ?_, k3.trans (Kp.put (by simp)), ?_⟩
            · rw [div_snoc]
              rfl
            · rw [upd_same, app_len, bits_snoc, List.append_assoc]
        · rintro σ H3 ⟨v7, rfl, k3, e3⟩
          refine ⟨_, _, rfl, k3, ?_⟩
          rw [e3, List.take_add_one, List.getElem?_eq_getElem hi, List.flatMap_append]
          simp
      · rintro σ H2 ⟨v6, v7, rfl, k2, e2⟩
        rw [List.length_map, List.take_length] at e2
        exact ⟨_, rfl, q H2 f (Kp.ownK k1 (k1.free nf List.not_mem_nil) k2) (k1.free nf List.not_mem_nil) e2⟩
    cases big with
    | true =>
      refine iteT ?_
      refine ⟨_, rfl, p, _, rfl, SqL.of ep, fun r nr => ?_⟩
      have k0 := (Kp.new (as := []) (o := HO.lst (cutV (data.map V.int) (some (off : Int)) (some ((off : Int) + (size : Int))))) np).trans (Kp.new (o := HO.lst ((((data.drop off).take size).map V.int).reverse)) nr)
      have er : (upd (upd H p (.lst (cutV (data.map V.int) (some (off : Int)) (some ((off : Int) + (size : Int)))))) r (.lst ((((data.drop off).take size).map V.int).reverse))) r = some (.lst ((rowsOf data off size true).map V.int)) := by
        rw [upd_same, ← List.map_reverse]
        rfl
      revert k0 er
      generalize (upd (upd H p (.lst (cutV (data.map V.int) (some (off : Int)) (some ((off : Int) + (size : Int)))))) r (.lst ((((data.drop off).take size).map V.int).reverse))) = H1
      intro k0 er
      exact tail r H1 k0 er _ _
    | false =>
      refine iteF ?_
      exact tail p _ (Kp.new np) ep _ _
end
end K0
end

section
set_option Elab.async false
set_option linter.all false
set_option maxRecDepth 100000
set_option maxHeartbeats 2000000
namespace K0
open PySem PySem.Spec PyProof.Rows L2 Z RT
section
variable {P : Program} {w : World} {K : PySem.W.Frag} {mg : Str → Option Value} {base : Heap} {cR cO : Addr}
/-! ### _law_bytes -/
abbrev s__law_bytes : Stmt := top 21
theorem sc__law_bytes : FnScope ["bits", "big", "rows", "k", "total", "m"] ["bits", "big"] (defScope s__law_bytes) := ⟨rfl, rfl, rfl, by decide +kernel, rfl, by decide +kernel, by decide +kernel⟩

theorem pow8 {m : Nat} (h : m < 8) : ([V.int 1, .int 2, .int 4, .int 8, .int 16, .int 32, .int 64, .int 128] : List V)[m]? = some (.int (2 ^ m)) ∧ (2 : Int) ^ m ≤ 128 := by
  have c : m = 0 ∨ m = 1 ∨ m = 2 ∨ m = 3 ∨ m = 4 ∨ m = 5 ∨ m = 6 ∨ m = 7 := by omega
  rcases c with rfl | rfl | rfl | rfl | rfl | rfl | rfl | rfl <;> exact ⟨rfl, by decide⟩
theorem val_snoc (l : List Int) (b : Int) : MZ.val (l ++ [b]) = MZ.val l + 2 ^ l.length * b := by
  rw [MZ.val_append]
  show _ + _ * (b + 2 * 0) = _
  rw [show b + 2 * 0 = b by omega]
theorem bits_at (w : Nat) : ∀ (N : Int) (i : Nat), i < w → (MZ.bits N w)[i]? = some (N / 2 ^ i % 2) := by
  induction w with
  | zero => intro N i h; omega
  | succ w ih =>
    intro N i h
    cases i with
    | zero =>
      show some (N % 2) = some (N / 1 % 2)
      rw [Int.ediv_one]
    | succ i =>
      show (MZ.bits (N / 2) w)[i]? = _
      rw [ih _ i (by omega), Nat.add_comm i 1, ← MZ.div_div N 1 i]
      rfl
theorem bytes_snoc (s : Nat) : ∀ N : Int, MZ.bytes N (s + 1) = MZ.bytes N s ++ [N / 256 ^ s % 256] := by
  induction s with
  | zero =>
    intro N
    show [N % 256] = [] ++ [N / 1 % 256]
    rw [Int.ediv_one]
    rfl
  | succ s ih =>
    intro N
    show N % 256 :: MZ.bytes (N / 256) (s + 1) = (N % 256 :: MZ.bytes (N / 256) s) ++ [_]
    rw [ih, Int.ediv_ediv_of_nonneg (by decide), Int.pow_succ, Int.mul_comm (256 ^ s)]
    rfl
theorem rg8 {s : Nat} (h : s ≤ 4) : RgC 0 ((8 * s : Nat) : Int) 8 s := by
  have c : s = 0 ∨ s = 1 ∨ s = 2 ∨ s = 3 ∨ s = 4 := by omega
  rcases c with rfl | rfl | rfl | rfl | rfl <;> exact ⟨by decide, by decide, by decide, by decide⟩
def sp_bytes (K : PySem.W.Frag) : Sp := fun vs H Q _ => ∃ (a : Addr) (N : Int) (s : Nat) (big : Bool), vs = [.ref a, .bl big] ∧ SqL K H a ((MZ.bits N (8 * s)).map V.int) ∧ s ≤ 4 ∧
  ∀ H' p, Kp [] H H' → H p = none → H' p = some (.lst ((ordr big (MZ.bytes N s)).map V.int)) → Q (.ref p) H'
theorem d_bytes {f : Addr} {fd : FuncData} (F : L2.Fun K "_law_bytes" "_law_bytes" s__law_bytes f fd) (hm : mg "_law_bytes" = some (.ref f)) (bd : Binds K fd ["bits", "big"] []) (T : Tx K mg cR cO) : Df P w K mg base 1 "_law_bytes" (sp_bytes K) := by
  refine df_0 F hm bd sc__law_bytes (fun vs H Q E h => ?_) (fun cdv A fr s H vs Q E hr gu h => ?_)
  · obtain ⟨a, N, s, big, rfl, _⟩ := h
    rfl
  · obtain ⟨a, N, s, big, rfl, hS, hs, q⟩ := h
    refine ⟨_, (pss_cons (ps_set (i := 2) sc__law_bytes.nd rfl (Or.inl rfl) (pe_lst pa_nil))
      (pss_cons (ps_for PassesOwn.never rfl (pi_range3 (by rfl) T.b_range (pa_cons pe_int (pa_cons (pe_callB call_len_seq (by rfl) T.b_len PySem.boot_len (pa_cons (pv 0) pa_nil)) (pa_cons pe_int pa_nil)))) (pg_name (i := 3) sc__law_bytes.nd rfl (Or.inl rfl))
        (pss_cons (ps_set (i := 4) sc__law_bytes.nd rfl (Or.inl rfl) pe_int)
        (pss_cons (ps_for PassesOwn.never rfl (pi_range1 (by rfl) T.b_range (pa_cons pe_int pa_nil)) (pg_name (i := 5) sc__law_bytes.nd rfl (Or.inl rfl))
          (pss_one (ps_set (i := 4) sc__law_bytes.nd rfl (Or.inl rfl) (pe_op op_add (pv 4) (pe_op op_mul (pe_ix ix_list (pv 0) (pe_op op_add (pv 3) (pv 5)) (fun _ _ => rfl)) (pe_ix ix_list (pe_lst (pa_cons pe_int (pa_cons pe_int (pa_cons pe_int (pa_cons pe_int (pa_cons pe_int (pa_cons pe_int (pa_cons pe_int (pa_cons pe_int pa_nil))))))))) (pv 5) (fun _ _ => rfl)))))))
        (pss_one (ps_expr (pe_bm PySem.F.plainAttrs_list PySem.F.slot_list_append PySem.F.type_list_append mt_append (pv 2) (pa_cons (pv 4) pa_nil)))))))
      (pss_cons (ps_if (pt_val (pv 1))
        (pss_one (ps_expr (pe_bm0 PySem.F.plainAttrs_list PySem.F.slot_list_reverse PySem.F.type_list_reverse mt_reverse (pv 2))))
        pss_nil)
      (pss_one (ps_ret (pv 2)))))), ?_⟩
    refine ⟨small (by show 0 ≤ 100000; decide), fun p np => ?_⟩
    have sq : ∀ {H2 : Hp}, Kp [p] H H2 → SqL K H2 a ((MZ.bits N (8 * s)).map V.int) := fun k => (Kp.ownK (Kp.refl H) np k).seq List.not_mem_nil hS
    refine ⟨_, rfl, a, _, rfl, Or.inl (sq (Kp.new np)), 0, ((8 * s : Nat) : Int), 8, s, ?_, rg8 hs, for_rangeC (lo := 0) (c := 8) (n := s)
      (fun i σ H2 => ∃ v3 v4 v5 : Option V, σ = [some (.ref a), some (.bl big), some (.ref p), v3, v4, v5] ∧ Kp [p] H H2 ∧ H2 p = some (.lst ((MZ.bytes N i).map V.int)))
      ⟨_, _, _, rfl, Kp.new np, upd_same⟩ ?_ ?_⟩
    · rw [List.length_map, MZ.bits_len]
    · rintro i σ H2 hi ⟨v3, v4, v5, rfl, k2, e2⟩
      refine ⟨_, rfl, by decide, by decide, for_range (lo := 0) (n := 8)
        (fun m σ H3 => ∃ v5 : Option V, σ = [some (.ref a), some (.bl big), some (.ref p), some (.int (0 + (i : Nat) * 8)), some (.int (MZ.val (MZ.bits (N / 2 ^ (8 * i)) m))), v5] ∧ Kp [p] H H3 ∧ H3 p = some (.lst ((MZ.bytes N i).map V.int)))
        ⟨_, rfl, k2, e2⟩ ?_ ?_⟩
      · rintro m σ H3 hm ⟨v5, rfl, k3, e3⟩
        obtain ⟨g1, g2⟩ := pow8 hm
        have g3 := MZ.pow_pos m
        refine ⟨_, rfl, _, rfl, _, rfl, _, rfl, _, _, rfl, rfl, a, _, _, V.int (N / 2 ^ (8 * i) / 2 ^ m % 2), rfl, rfl, sq k3, ?_, small (by show 8 ≤ 100000; decide), fun t nt => ?_⟩
        · show atI _ (0 + (i : Int) * 8 + (0 + (m : Int))) = _
          rw [show (0 + (i : Int) * 8 + (0 + (m : Int))) = ((8 * i + m : Nat) : Int) by omega]
          refine atI_nat ?_
          rw [List.getElem?_map, bits_at (8 * s) N (8 * i + m) (by omega), MZ.div_div]
          rfl
        · refine ⟨_, rfl, t, _, _, V.int (2 ^ m), rfl, rfl, SqL.of upd_same, ?_, _, _, rfl, rfl, Or.inr ⟨by omega, by omega⟩, _, _, rfl, rfl, ?_⟩
          · show atI _ (0 + (m : Int)) = _
            rw [Int.zero_add]
            exact atI_nat g1
          · refine ⟨some (.int (0 + (m : Nat))), ?_, k3.trans (Kp.new nt), ?_⟩
            · rw [bits_snoc, val_snoc, MZ.bits_len, Int.mul_comm (2 ^ m)]
              rfl
            · rw [upd_ne (ne_of_none e3 nt)]
              exact e3
      · rintro σ H3 ⟨v5, rfl, k3, e3⟩
        refine ⟨.ref p, rfl, Or.inl ⟨rfl, _, SqL.of e3⟩, _, rfl, p, _, _, rfl, rfl, e3, small' (by rw [List.length_map, MZ.bytes_len]; omega), ?_⟩
        refine ⟨_, _, _, rfl, k3.trans (Kp.put (by simp)), ?_⟩
        rw [upd_same, app_len, bytes_snoc, MZ.val_bits, show (2 : Int) ^ (8 * i) = 256 ^ i by rw [Int.pow_mul]; rfl]
        rfl
    · rintro σ H2 ⟨v3, v4, v5, rfl, k2, e2⟩
      refine ⟨_, rfl, _, rfl, ?_⟩
      cases big with
      | true =>
        refine iteT ?_
        refine ⟨.ref p, rfl, Or.inl ⟨rfl, _, SqL.of e2⟩, p, _, rfl, rfl, e2, ?_⟩
        refine ⟨_, rfl, q _ p (Kp.ownK (Kp.refl H) np (k2.trans (Kp.put (by simp)))) np ?_⟩
        rw [upd_same, ← List.map_reverse]
        rfl
      | false =>
        refine iteF ?_
        exact ⟨_, rfl, q _ p (Kp.ownK (Kp.refl H) np k2) np e2⟩
/-! ### _law_number -/
abbrev s__law_number : Stmt := top 22
theorem sc__law_number : FnScope ["bits", "signed", "total", "unit", "bit"] ["bits", "signed"] (defScope s__law_number) := ⟨rfl, rfl, rfl, by decide +kernel, rfl, by decide +kernel, by decide +kernel⟩

def lawNum (l : List Int) (sg : Bool) : Int := if sg = true ∧ l[l.length - 1]? = some 1 then MZ.val l - 2 ^ l.length else MZ.val l
theorem at_last {l : List Int} {z : Int} (h : l[l.length - 1]? = some z) : atI (l.map V.int) (-1) = some (V.int z) := by
  have hl : 0 < l.length := by
    have := (List.getElem?_eq_some_iff.mp h).1
    omega
  unfold atI ixN
  rw [List.length_map, if_neg (by decide), if_pos (by omega)]
  show (l.map V.int)[(-1 + (l.length : Int)).toNat]? = _
  rw [show (-1 + (l.length : Int)).toNat = l.length - 1 by omega, List.getElem?_map, h]
  rfl
def sp_number (K : PySem.W.Frag) : Sp := fun vs H Q _ => ∃ (a : Addr) (l : List Int) (sg : Bool), vs = [.ref a, .bl sg] ∧ SqL K H a (l.map V.int) ∧ 1 ≤ l.length ∧ l.length ≤ 60 ∧ Q (.int (lawNum l sg)) H
theorem d_number {f : Addr} {fd : FuncData} (F : L2.Fun K "_law_number" "_law_number" s__law_number f fd) (hm : mg "_law_number" = some (.ref f)) (bd : Binds K fd ["bits", "signed"] []) (T : Tx K mg cR cO) : Df P w K mg base 1 "_law_number" (sp_number K) := by
  refine df_0 F hm bd sc__law_number (fun vs H Q E h => ?_) (fun cdv A fr s H vs Q E hr gu h => ?_)
  · obtain ⟨a, l, sg, rfl, _⟩ := h
    rfl
  · obtain ⟨a, l, sg, rfl, hS, h1, h2, q⟩ := h
    refine ⟨_, (pss_cons (ps_set (i := 2) sc__law_number.nd rfl (Or.inl rfl) pe_int)
      (pss_cons (ps_set (i := 3) sc__law_number.nd rfl (Or.inl rfl) pe_int)
      (pss_cons (ps_for PassesOwn.never rfl (pi_list (pv 0)) (pg_name (i := 4) sc__law_number.nd rfl (Or.inl rfl))
        (pss_cons (ps_set (i := 2) sc__law_number.nd rfl (Or.inl rfl) (pe_op op_add (pv 2) (pe_op op_mul (pv 3) (pv 4))))
        (pss_one (ps_set (i := 3) sc__law_number.nd rfl (Or.inl rfl) (pe_op op_mul (pv 3) pe_int)))))
      (pss_cons (ps_if (PW.pt (pw_and (pt_val (pv 1)) (pw_and1 (pt_cmpR op_eq (pe_ix ix_list (pv 0) (pe_un un_neg pe_int) (fun _ _ => rfl)) pe_int (nomark _)))))
        (pss_one (ps_ret (pe_op op_sub (pv 2) (pv 3))))
        pss_nil)
      (pss_one (ps_ret (pv 2))))))), ?_⟩
    refine ⟨_, rfl, a, rfl, ⟨_, hS⟩, for_list (K := K) (a := a) (xs := l.map V.int)
      (fun i σ H2 => ∃ v4 : Option V, σ = [some (.ref a), some (.bl sg), some (.int (MZ.val (l.take i))), some (.int (2 ^ i)), v4] ∧ H2 = H)
      ⟨_, rfl, rfl⟩ ?_ ?_ ?_⟩
    · rintro i σ H2 _ ⟨v4, rfl, rfl⟩
      exact hS
    · rintro i y σ H2 hy ⟨v4, rfl, rfl⟩
      have hi : i < l.length := by
        have z := (List.getElem?_eq_some_iff.mp hy).1
        rw [List.length_map] at z
        exact z
      rw [List.getElem?_map, List.getElem?_eq_getElem hi] at hy
      obtain rfl := (Option.some.inj hy).symm
      have g1 := MZ.pow_pos i
      have g2 := MZ.pow_le (show i ≤ 60 by omega)
      have g3 : (2 : Int) ^ 60 = 1152921504606846976 := by decide
      refine ⟨_, rfl, _, rfl, _, rfl, _, _, rfl, rfl, Or.inl ⟨by omega, by omega⟩, _, _, rfl, rfl, ?_⟩
      refine ⟨_, rfl, _, _, rfl, rfl, Or.inr ⟨by decide, by decide⟩, some (V.int l[i]), ?_, rfl⟩
      rw [List.take_add_one, List.getElem?_eq_getElem hi]
      show _ = [_, _, some (V.int (MZ.val (l.take i ++ [l[i]]))), _, _]
      rw [val_snoc, List.length_take, Nat.min_eq_left (by omega), MZ.pow_s]
      rfl
    · rintro σ H2 ⟨v4, rfl, rfl⟩
      rw [List.length_map, List.take_length]
      refine ⟨_, rfl, _, rfl, ?_⟩
      obtain ⟨z, hz⟩ : ∃ z, l[l.length - 1]? = some z := ⟨_, List.getElem?_eq_getElem (by omega)⟩
      unfold lawNum at q
      cases sg with
      | false =>
        refine iteF ?_
        refine iteF ?_
        rw [if_neg (by simp)] at q
        exact ⟨_, rfl, q⟩
      | true =>
        refine iteT ?_
        refine ⟨_, rfl, _, rfl, a, _, _, _, rfl, rfl, hS, at_last hz, rfl, _, rfl, ?_⟩
        refine ite2 (fun c => ?_) (fun c => ?_)
        · have e : z = 1 := V.int.inj (of_decide_eq_true c)
          rw [if_pos ⟨rfl, by rw [hz, e]⟩] at q
          exact ⟨_, rfl, _, rfl, _, _, rfl, rfl, q⟩
        · have e : z ≠ 1 := fun e => c (decide_eq_true (by rw [e]))
          rw [if_neg (fun y => e (Option.some.inj (hz.symm.trans y.2)))] at q
          exact ⟨_, rfl, q⟩
/-! ### _law_bits_of -/
abbrev s__law_bits_of : Stmt := top 23
theorem sc__law_bits_of : FnScope ["number", "width", "found", "k", "unit"] ["number", "width"] (defScope s__law_bits_of) := ⟨rfl, rfl, rfl, by decide +kernel, rfl, by decide +kernel, by decide +kernel⟩

def sp_bits_of : Sp := fun vs H Q _ => ∃ (v : Int) (w : Nat), vs = [.int v, .int w] ∧ w ≤ 60 ∧ ∀ H' p, Kp [] H H' → H p = none → H' p = some (.lst ((MZ.bits v w).map V.int)) → Q (.ref p) H'
theorem bits_wrap (v : Int) (w : Nat) : MZ.bits (v + 2 ^ w) w = MZ.bits v w := MZ.bits_congr (Int.add_emod_right v (2 ^ w))
theorem d_bits_of {f : Addr} {fd : FuncData} (F : L2.Fun K "_law_bits_of" "_law_bits_of" s__law_bits_of f fd) (hm : mg "_law_bits_of" = some (.ref f)) (bd : Binds K fd ["number", "width"] []) (T : Tx K mg cR cO) : Df P w K mg base 1 "_law_bits_of" sp_bits_of := by
  refine df_0 F hm bd sc__law_bits_of (fun vs H Q E h => ?_) (fun cdv A fr s H vs Q E hr gu h => ?_)
  · obtain ⟨v, w, rfl, _⟩ := h
    rfl
  · obtain ⟨v, w, rfl, hw, q⟩ := h
    refine ⟨_, (pss_cons (ps_set (i := 2) sc__law_bits_of.nd rfl (Or.inl rfl) (pe_lst pa_nil))
      (pss_cons (ps_if (pt_cmpR op_lt (pv 0) pe_int (nomark _))
        (pss_cons (ps_for PassesOwn.never rfl (pi_range1 (by rfl) T.b_range (pa_cons (pv 1) pa_nil)) (pg_name (i := 3) sc__law_bits_of.nd rfl (Or.inl rfl))
          (pss_one (ps_expr (pe_bm PySem.F.plainAttrs_list PySem.F.slot_list_append PySem.F.type_list_append mt_append (pv 2) (pa_cons pe_int pa_nil)))))
        (pss_cons (ps_set (i := 4) sc__law_bits_of.nd rfl (Or.inl rfl) pe_int)
        (pss_cons (ps_for PassesOwn.never rfl (pi_range1 (by rfl) T.b_range (pa_cons (pv 1) pa_nil)) (pg_name (i := 3) sc__law_bits_of.nd rfl (Or.inl rfl))
          (pss_one (ps_set (i := 4) sc__law_bits_of.nd rfl (Or.inl rfl) (pe_op op_mul (pv 4) pe_int))))
        (pss_cons (ps_set (i := 0) sc__law_bits_of.nd rfl (Or.inl rfl) (pe_op op_add (pv 0) (pv 4)))
        (pss_one (ps_set (i := 2) sc__law_bits_of.nd rfl (Or.inl rfl) (pe_lst pa_nil)))))))
        pss_nil)
      (pss_cons (ps_for PassesOwn.never rfl (pi_range1 (by rfl) T.b_range (pa_cons (pv 1) pa_nil)) (pg_name (i := 3) sc__law_bits_of.nd rfl (Or.inl rfl))
        (pss_cons (ps_expr (pe_bm PySem.F.plainAttrs_list PySem.F.slot_list_append PySem.F.type_list_append mt_append (pv 2) (pa_cons (pe_op op_mod (pe_callTy call_int1 (by rfl) T.b_int (by decide +kernel) (pa_cons (pv 0) pa_nil)) pe_int) pa_nil)))
        (pss_one (ps_set (i := 0) sc__law_bits_of.nd rfl (Or.inl rfl) (pe_op op_fdiv (pv 0) pe_int)))))
      (pss_one (ps_ret (pv 2)))))), ?_⟩
    have tail : ∀ (f : Addr) (H1 : Hp) (y : Int), Kp [] H H1 → H f = none → H1 f = some (.lst []) → MZ.bits y w = MZ.bits v w → ∀ v3 v4 : Option V,
        tSeq (tFor (iRng1 (tCons (tVar 1) tNil)) (gName 3) (tSeq
          (tDrop (tBM K "list" rAppend (tVar 2) (tCons (tOp (rI (fun _ j => 0 < j) fun i j => .int (i % j)) (tCB (fun xs H Q => (∃ i, xs = [.int i] ∧ Q (.int i) H) ∨ ∃ k, xs = [.bl k] ∧ Q (.int (if k then 1 else 0)) H) (tCons (tVar 0) tNil)) (tC (.int 2))) tNil)))
          (tAsg (tOp (rI CDiv fun i j => .int (i / j)) (tVar 0) (tC (.int 2))) (gName 0)))) (tRet (tVar 2))
        { nx := fun _ H' => Q .non H', rt := Q } [some (V.int y), some (.int w), some (.ref f), v3, v4] H1 := by
      intro f H1 y k1 nf e1 ey v3 v4
      refine ⟨_, rfl, _, rfl, by omega, by omega, for_range (lo := 0) (n := (w : Int).toNat)
        (fun j σ H3 => ∃ v3 v4 : Option V, σ = [some (V.int (y / 2 ^ j)), some (.int w), some (.ref f), v3, v4] ∧ Kp [f] H1 H3 ∧ H3 f = some (.lst ((MZ.bits y j).map V.int)))
        ⟨v3, v4, by rw [show y / 2 ^ 0 = y from Int.ediv_one _], Kp.refl _, e1⟩ ?_ ?_⟩
      · rintro j σ H3 hj ⟨v3, v4, rfl, k3, e3⟩
        refine ⟨.ref f, rfl, Or.inl ⟨rfl, _, SqL.of e3⟩, _, rfl, Or.inl ⟨_, rfl, _, _, rfl, rfl, (by show (0 : Int) < _; decide), f, _, _, rfl, rfl, e3, small' (by rw [List.length_map, MZ.bits_len]; omega), ?_⟩⟩
        refine ⟨_, rfl, _, _, rfl, rfl, ⟨by decide, by decide⟩, ?_⟩
        refine ⟨some (.int (0 + (j : Nat))), v4, ?_, k3.trans (Kp.put (by simp)), ?_⟩
        · rw [div_snoc]
          rfl
        · rw [upd_same, app_len, bits_snoc]
      · rintro σ H3 ⟨v3, v4, rfl, k3, e3⟩
        rw [Int.toNat_natCast, ey] at e3
        exact ⟨_, rfl, q H3 f (Kp.ownK k1 nf k3) nf e3⟩
    refine ⟨small (by show 0 ≤ 100000; decide), fun p np => ?_⟩
    refine ⟨_, rfl, _, _, rfl, rfl, _, rfl, ?_⟩
    refine ite2 (fun c => ?_) (fun c => ?_)
    · refine ⟨_, rfl, _, rfl, by omega, by omega, for_range (lo := 0) (n := (w : Int).toNat)
        (fun j σ H3 => ∃ v3 : Option V, ∃ zs : List V, σ = [some (V.int v), some (.int w), some (.ref p), v3, none] ∧ Kp [p] H H3 ∧ H3 p = some (.lst zs) ∧ zs.length = j)
        ⟨_, [], rfl, Kp.new np, upd_same, rfl⟩ ?_ ?_⟩
      · rintro j σ H3 hj ⟨v3, zs, rfl, k3, e3, hz⟩
        refine ⟨.ref p, rfl, Or.inl ⟨rfl, _, SqL.of e3⟩, p, _, _, rfl, rfl, e3, small' (by omega), ?_⟩
        exact ⟨_, zs ++ [.int 0], rfl, k3.trans (Kp.put (by simp)), upd_same, by rw [List.length_append, hz]; rfl⟩
      · rintro σ H3 ⟨v3, zs, rfl, k3, e3, hz⟩
        refine ⟨_, rfl, _, rfl, by omega, by omega, for_range (lo := 0) (n := (w : Int).toNat)
          (fun j σ H4 => ∃ v3 : Option V, σ = [some (V.int v), some (.int w), some (.ref p), v3, some (.int (2 ^ j))] ∧ H4 = H3)
          ⟨_, rfl, rfl⟩ ?_ ?_⟩
        · rintro j σ H4 hj ⟨v3, rfl, rfl⟩
          refine ⟨_, rfl, _, _, rfl, rfl, Or.inr ⟨by decide, by decide⟩, some (.int (0 + (j : Nat))), ?_, rfl⟩
          rw [MZ.pow_s]
          rfl
        · rintro σ H4 ⟨v3, rfl, rfl⟩
          rw [Int.toNat_natCast]
          refine ⟨_, rfl, _, rfl, _, _, rfl, rfl, small (by show 0 ≤ 100000; decide), fun r nr => ?_⟩
          have k4 : Kp [] H H4 := Kp.ownK (Kp.refl H) np k3
          exact tail r _ (v + 2 ^ w) (k4.trans (Kp.new nr)) (k4.free nr List.not_mem_nil) upd_same (bits_wrap v w) _ _
    · exact tail p _ v (Kp.new np) np upd_same rfl _ _
end
end K0
end

section
set_option Elab.async false
set_option linter.all false
set_option maxRecDepth 100000
set_option maxHeartbeats 2000000
namespace K0
open PySem PySem.Spec PyProof.Rows L2 Z RT
/-- what is asked of the error's class where it is caught -/
structure Tc (K : PySem.W.Frag) (cR cO : Addr) : Prop where
  e_R : PySem.W.exmOne K (.ref cO) (.ref cR) = some true
  is : ExcC K cO
  kV : PySem.W.kitOne K (.ref cO) (.type "ValueError") = some true
section
variable {P : Program} {w : World} {K : PySem.W.Frag} {mg : Str → Option Value} {base : Heap} {cR cO : Addr}
/-! ### _law_written -/
abbrev s__law_written : Stmt := top 24
theorem sc__law_written : FnScope ["data", "row", "value", "e"] ["data", "row", "value"] (defScope s__law_written) := ⟨rfl, rfl, rfl, by decide +kernel, rfl, by decide +kernel, by decide +kernel⟩

def sp_written (K : PySem.W.Frag) : Sp := fun vs H Q _ => ∃ (a r : Addr) (data : List Int) (off size : Nat) (big : Bool) (f w : Nat) (sg : Bool) (v : Int), vs = [.ref a, .ref r, .int v] ∧ H a = some (.lst (data.map V.int)) ∧
  SqL K H r [.int off, .int size, .bl big, .int f, .int w, .bl sg] ∧ MZ.B8 data ∧ off + size ≤ data.length ∧ data.length ≤ 10000 ∧ size ≤ 4 ∧ 1 ≤ w ∧ f + w ≤ 8 * size ∧
  (∀ H', Kp [] H H' → (v < lo w sg ∨ hi w sg < v) → Q (.bl true) H') ∧
  ∀ H', Kp [a] H H' → lo w sg ≤ v → v ≤ hi w sg → H' a = some (.lst ((wr data off size big (MZ.putN (MZ.num (rowsOf data off size big)) f w v)).map V.int)) → Q (.bl false) H'
theorem d_written {f : Addr} {fd : FuncData} (F : L2.Fun K "_law_written" "_law_written" s__law_written f fd) (hm : mg "_law_written" = some (.ref f)) (bd : Binds K fd ["data", "row", "value"] []) (T : Tx K mg cR cO) (T2 : Tc K cR cO) (c_write_slot : Df P w K mg base 3 "write_slot" (sp_write_slot cO)) : Df P w K mg base 4 "_law_written" (sp_written K) := by
  refine df_0 F hm bd sc__law_written (fun vs H Q E h => ?_) (fun cdv A fr s H vs Q E hr gu h => ?_)
  · obtain ⟨a, r, data, off, size, big, f, w, sg, v, rfl, _⟩ := h
    rfl
  · obtain ⟨a, r, data, off, size, big, f, w, sg, v, rfl, hS, hR, hB, hl, hd, hz, hw, hfw, bad, good⟩ := h
    refine ⟨_, pss_cons (ps_try_as (i := 3) (Wout := fun _ _ _ _ => False) rfl rfl sc__law_written.nd rfl rfl ⟨rfl, by decide, Or.inl T.g_RecordError⟩ takes0
        (fun W pn xe tk _ => pss_one (ps_expr (pe_fS (E := WE W) c_write_slot hr (by decide) gu (by rfl) (fun σ => passAt tk σ)
          (pa_cons (pv 0) (pa_cons (pe_ix (ix_listK K rfl) (pv 1) pe_int (fun _ _ => rfl)) (pa_cons (pe_ix (ix_listK K rfl) (pv 1) pe_int (fun _ _ => rfl)) (pa_cons (pe_ix (ix_listK K rfl) (pv 1) pe_int (fun _ _ => rfl))
            (pa_cons (pe_ix (ix_listK K rfl) (pv 1) pe_int (fun _ _ => rfl)) (pa_cons (pe_ix (ix_listK K rfl) (pv 1) pe_int (fun _ _ => rfl)) (pa_cons (pe_ix (ix_listK K rfl) (pv 1) pe_int (fun _ _ => rfl)) (pa_cons (pv 2) pa_nil)))))))))))
        (fun a oe cls d pn hz hf => pss_one (ps_ret (pe_and (pe_callB (call_isE0 hz hf) (by rfl) T.b_isinstance (by decide +kernel) (pa_cons (pv 3) (pa_cons (C8.pe_gc (v := .ref cO) (by rfl) ⟨_, T.g_OutOfRange, rfl⟩) pa_nil)))
          (pe_one (pe_callB (call_isE0 hz hf) (by rfl) T.b_isinstance (by decide +kernel) (pa_cons (pv 3) (pa_cons (pe_bltn (v := .ty "ValueError") (by rfl) T.b_ValueError (by decide +kernel) rfl) pa_nil))))))))
      (pss_one (ps_ret pe_bl)), ?_⟩
    refine ⟨_, rfl, _, rfl, r, _, 0, _, rfl, rfl, hR, atI_nat (j := 0) rfl, _, rfl, r, _, 1, _, rfl, rfl, hR, atI_nat (j := 1) rfl, _, rfl, r, _, 2, _, rfl, rfl, hR, atI_nat (j := 2) rfl,
      _, rfl, r, _, 3, _, rfl, rfl, hR, atI_nat (j := 3) rfl, _, rfl, r, _, 4, _, rfl, rfl, hR, atI_nat (j := 4) rfl, _, rfl, r, _, 5, _, rfl, rfl, hR, atI_nat (j := 5) rfl, _, rfl, ?_⟩
    refine ⟨a, data, off, size, big, f, w, sg, v, rfl, hS, hB, hl, hd, hz, hw, hfw, fun H1 k1 c => ?_, fun H1 k1 c1 c2 e1 => ?_⟩
    · refine ⟨true, T2.e_R, fun _ e ne => ?_, fun q => Bool.noConfusion q⟩
      refine ⟨_, rfl, cO, rfl, rfl, T2.is, _, _, true, rfl, fun u h => h, if_pos (beq_self_eq_true _), true, rfl, iteT ?_⟩
      refine ⟨_, rfl, cO, rfl, rfl, T2.is, _, _, true, rfl, fun u h => h, T2.kV, ?_⟩
      exact bad H1 k1 c
    · exact good H1 k1 c1 c2 e1
end
end K0
end

section
set_option Elab.async false
set_option linter.all false
set_option maxRecDepth 100000
set_option maxHeartbeats 4000000
namespace K0
open PySem PySem.Spec PyProof.Rows L2 Z RT
theorem _root_.Z.Kp.b2 {b L : Addr} {H H' : Hp} (k : Kp [b] H H') : Kp [b, L] H H' := k.more (by simp)
theorem _root_.Z.Kp.l2 {b L : Addr} {H H' : Hp} (k : Kp [L] H H') : Kp [b, L] H H' := k.more (by simp)
theorem fresh2 {H : Hp} {b L p : Addr} {o u : HO} (h1 : H b = some o) (h2 : H L = some u) (n : H p = none) : p ∉ [b, L] := by
  intro z
  rcases List.mem_cons.mp z with z | z
  · exact ne_of_none h1 n z.symm
  · exact ne_of_none h2 n (List.mem_singleton.mp z).symm
theorem pick3 {x y z : V} {r : Int} (h0 : 0 ≤ r) (h1 : r < 3) : ∃ v, atI [x, y, z] r = some v ∧ (v = x ∨ v = y ∨ v = z) := by
  have c : r = 0 ∨ r = 1 ∨ r = 2 := by omega
  rcases c with rfl | rfl | rfl
  · exact ⟨x, rfl, .inl rfl⟩
  · exact ⟨y, rfl, .inr (.inl rfl)⟩
  · exact ⟨z, rfl, .inr (.inr rfl)⟩
theorem rep1 (n : Nat) (x : V) : (List.replicate n [x]).flatten = List.replicate n x := by
  induction n with
  | zero => rfl
  | succ n ih =>
    show [x] ++ (List.replicate n [x]).flatten = x :: List.replicate n x
    rw [ih]
    rfl
/-! ### the mathematics of the law -/
theorem slot_num {M : Int} {w : Nat} (sg : Bool) (hw : 1 ≤ w) : lawNum (MZ.bits M w) sg = if M % 2 ^ w ≤ hi w sg then M % 2 ^ w else M % 2 ^ w - 2 ^ w := by
  obtain ⟨u, rfl⟩ := Nat.exists_eq_add_of_le hw
  rw [Nat.add_comm 1 u]
  have p := MZ.pow_pos (u + 1)
  have r0 := Int.emod_nonneg M (Int.ne_of_gt p)
  have r1 := Int.emod_lt_of_pos M p
  have tb := MZ.top_bit (w := u) M
  unfold lawNum hi
  rw [MZ.bits_len, MZ.val_bits, Nat.add_sub_cancel, MZ.bits_last]
  cases sg with
  | false =>
    rw [if_neg (by simp)]
    show _ = if M % 2 ^ (u + 1) ≤ 2 ^ (u + 1) - 1 then _ else _
    rw [if_pos (by omega)]
  | true =>
    show _ = if M % 2 ^ (u + 1) ≤ 2 ^ u - 1 then _ else _
    by_cases c : M / 2 ^ u % 2 = 1
    · have t := tb.mp c
      rw [if_pos ⟨rfl, by rw [c]⟩, if_neg (by omega)]
    · have t : ¬ 2 ^ u ≤ M % 2 ^ (u + 1) := fun z => c (tb.mpr z)
      rw [if_neg (fun z => c (Option.some.inj z.2)), if_pos (by omega)]
theorem num_snoc (l : List Int) (z : Int) (sg : Bool) : lawNum (l ++ [z]) sg = if sg = true ∧ z = 1 then MZ.val l + 2 ^ l.length * z - 2 ^ (l.length + 1) else MZ.val l + 2 ^ l.length * z := by
  have e : (l ++ [z])[(l ++ [z]).length - 1]? = some z := by
    rw [List.length_append, List.length_singleton, Nat.add_sub_cancel, List.getElem?_append_right (Nat.le_refl _), Nat.sub_self]
    rfl
  have v := val_snoc l z
  unfold lawNum
  by_cases c : sg = true ∧ z = 1
  · rw [if_pos c, if_pos ⟨c.1, by rw [e, c.2]⟩, v, List.length_append]
    rfl
  · rw [if_neg c, if_neg (fun y => c ⟨y.1, Option.some.inj (e.symm.trans y.2)⟩), v]
theorem num_lo {w : Nat} (sg : Bool) (hw : 1 ≤ w) : lawNum (List.replicate (w - 1) 0 ++ [if sg then 1 else 0]) sg = lo w sg := by
  obtain ⟨u, rfl⟩ := Nat.exists_eq_add_of_le hw
  unfold lo
  rw [Nat.add_sub_cancel_left, num_snoc, MZ.val_rep0, List.length_replicate]
  cases sg with
  | false =>
    rw [if_neg (by simp)]
    show 0 + 2 ^ u * (0 : Int) = 0
    omega
  | true =>
    rw [if_pos ⟨rfl, rfl⟩]
    show 0 + 2 ^ u * (1 : Int) - 2 ^ (u + 1) = -(2 ^ u)
    rw [MZ.pow_s]
    omega
theorem num_hi {w : Nat} (sg : Bool) (hw : 1 ≤ w) : lawNum (List.replicate (w - 1) 1 ++ [1 - if sg then 1 else 0]) sg = hi w sg := by
  obtain ⟨u, rfl⟩ := Nat.exists_eq_add_of_le hw
  unfold hi
  rw [Nat.add_sub_cancel_left, num_snoc, MZ.val_rep1, List.length_replicate]
  cases sg with
  | false =>
    rw [if_neg (by simp)]
    show 2 ^ u - 1 + 2 ^ u * ((1 : Int) - 0) = 2 ^ (1 + u) - 1
    rw [Nat.add_comm 1 u, MZ.pow_s]
    omega
  | true =>
    rw [if_neg (by simp)]
    show 2 ^ u - 1 + 2 ^ u * ((1 : Int) - 1) = 2 ^ u - 1
    omega
theorem B8.wr {data : List Int} {off size : Nat} {big : Bool} {N : Int} (h : MZ.B8 data) : MZ.B8 (wr data off size big N) := by
  intro x hx
  unfold K0.wr at hx
  rcases List.mem_append.mp hx with hx | hx
  · rcases List.mem_append.mp hx with hx | hx
    · exact h x (List.mem_of_mem_take hx)
    · refine MZ.bytes_B8 size N x ?_
      unfold ordr at hx
      cases big with
      | true => exact List.mem_reverse.mp hx
      | false => exact hx
  · exact h x (List.mem_of_mem_drop hx)
theorem wr_back {data : List Int} {off size : Nat} {big : Bool} {N : Int} (hB : MZ.B8 data) (h : off + size ≤ data.length) : wr (wr data off size big N) off size false (MZ.num (rowsOf data off size false)) = data := by
  have e := MZ.bytes_num _ (B8.rows (off := off) (size := size) (big := false) hB)
  rw [rows_len false h] at e
  unfold wr
  rw [e]
  have l1 : (data.take off).length = off := by
    rw [List.length_take]
    omega
  have l2 : (data.take off ++ ordr big (MZ.bytes N size)).length = off + size := by
    rw [List.length_append, l1, ordr_len, MZ.bytes_len]
  rw [List.drop_left' l2, List.append_assoc (data.take off), List.take_left' l1]
  show data.take off ++ (data.drop off).take size ++ data.drop (off + size) = data
  rw [List.append_assoc, ← List.drop_drop, List.take_append_drop, List.take_append_drop]
theorem bits_whole {data : List Int} {off size : Nat} (hB : MZ.B8 data) (h : off + size ≤ data.length) (h1 : 1 ≤ size) : lawNum (MZ.bits (MZ.num (rowsOf data off size false)) (8 * size)) false = MZ.num (rowsOf data off size false) := by
  have r := MZ.num_range _ (B8.rows (off := off) (size := size) (big := false) hB)
  rw [rows_len false h] at r
  have e : (2 : Int) ^ (8 * size) = 256 ^ size := by rw [Int.pow_mul]; rfl
  unfold lawNum
  rw [if_neg (by simp), MZ.val_bits, e, Int.emod_eq_of_lt r.1 r.2]
theorem slotV_eq {N : Int} {f w : Nat} (sg : Bool) (hw : 1 ≤ w) : lawNum (MZ.bits (N / 2 ^ f) w) sg = slotV N f w sg := slot_num sg hw
theorem lo_hi {w : Nat} (sg : Bool) (hw : 1 ≤ w) : lo w sg ≤ hi w sg := by
  have a := MZ.pow_pos (w - 1)
  have b := MZ.pow_pos w
  unfold lo hi
  cases sg
  · show (0 : Int) ≤ 2 ^ w - 1
    omega
  · show -(2 ^ (w - 1)) ≤ (2 : Int) ^ (w - 1) - 1
    omega
theorem slotV_rg {N : Int} {f w : Nat} (sg : Bool) (hw : 1 ≤ w) (h2 : w ≤ 32) : (slotV N f w sg).natAbs < 10 ^ 12 := by
  have p := MZ.pow_pos w
  have q := MZ.pow_le h2
  have r0 := Int.emod_nonneg (N / 2 ^ f) (Int.ne_of_gt p)
  have r1 := Int.emod_lt_of_pos (N / 2 ^ f) p
  unfold slotV
  split <;> omega
end K0
end

section
set_option Elab.async false
set_option linter.all false
set_option maxRecDepth 100000
set_option maxHeartbeats 8000000
namespace K0
open PySem PySem.Spec PyProof.Rows L2 Z RT
section
variable {P : Program} {w : World} {K : PySem.W.Frag} {mg : Str → Option Value} {base : Heap} {cR cO : Addr}
abbrev s_law : Stmt := top 25
theorem sc_law : FnScope ["script", "box", "turn", "data", "size", "width", "first", "row", "bits", "slot", "least", "most", "kept", "value", "due", "k"] ["script"] (defScope s_law) := ⟨rfl, rfl, rfl, by decide +kernel, rfl, by decide +kernel, by decide +kernel⟩

def sp_law (K : PySem.W.Frag) : Sp := fun vs H Q _ => ∃ (a : Addr) (ns : List Int), vs = [.ref a] ∧ SqL K H a (ns.map V.int) ∧ ns.length ≤ 63 ∧ ∀ H', Q (.bl true) H'
theorem cutK {l : List Int} {i j : Nat} (h : i ≤ j) (h2 : j ≤ l.length) : cutV (l.map V.int) (some (i : Int)) (some (j : Int)) = ((l.drop i).take (j - i)).map V.int := by
  rw [cut_nat _ i j h (by rw [List.length_map]; exact h2), ← List.map_drop, ← List.map_take]
theorem cut0 {l : List Int} {j : Nat} (h2 : j ≤ l.length) : cutV (l.map V.int) none (some (j : Int)) = (l.take j).map V.int := by
  unfold cutV
  rw [HT.sIx_nat, HT.sIx_none, Nat.min_eq_left (by rw [List.length_map]; exact h2), List.drop_zero, Nat.sub_zero, List.map_take]
theorem cutE {l : List Int} {i : Nat} (h2 : i ≤ l.length) : cutV (l.map V.int) (some (i : Int)) none = (l.drop i).map V.int := by
  unfold cutV
  rw [HT.sIx_nat, HT.sIx_none, Nat.min_eq_left (by rw [List.length_map]; exact h2), List.take_of_length_le (by rw [List.length_drop]; omega), List.map_drop]
theorem ne_same {l : List Int} {H : Hp} {K : PySem.W.Frag} {a b : Addr} {Q : V → Hp → Prop} (h1 : H a = some (.lst (l.map V.int))) (h2 : H b = some (.lst (l.map V.int))) (q : Q (.bl false) H) : rNeD K (.ref a) (.ref b) H Q := by
  refine ⟨.list (l.map .int), .list (l.map .int), .lst (SqL.of h1) (dp_ints l), .lst (SqL.of h2) (dp_ints l), shaped_ints l, shaped_ints l, ?_⟩
  rw [SeqAt.eqv_refl _ (SeqAt.canLay_of_shaped (shaped_ints l))]
  exact q
theorem d_law {f : Addr} {fd : FuncData} (F : L2.Fun K "law" "law" s_law f fd) (T : Tx K mg cR cO)
    (c__law_digits : Df P w K mg base 2 "_law_digits" (sp_digits K)) (c__law_draw : Df P w K mg base 1 "_law_draw" sp_draw) (c__law_bits : Df P w K mg base 1 "_law_bits" (sp_bits K)) (c__law_same : Df P w K mg base 1 "_law_same" (sp_same K))
    (c_read_slot : Df P w K mg base 3 "read_slot" (sp_read_slot K)) (c__law_number : Df P w K mg base 1 "_law_number" (sp_number K)) (c_bounds : Df P w K mg base 2 "bounds" sp_bounds) (c__law_written : Df P w K mg base 4 "_law_written" (sp_written K))
    (c__law_bits_of : Df P w K mg base 1 "_law_bits_of" sp_bits_of) (c__law_bytes : Df P w K mg base 1 "_law_bytes" (sp_bytes K)) (c_read_word : Df P w K mg base 4 "read_word" (sp_read_word K)) (c_write_word : Df P w K mg base 4 "write_word" sp_write_word) :
    FnG P w K mg base (L2.CX P w) 5 f fd ["script"] (sp_law K) := by
  refine fnG_0 F sc_law (fun vs H Q E h => ?_) (fun cdv A fr s H vs Q E hr gu h => ?_)
  · obtain ⟨a, ns, rfl, _⟩ := h
    rfl
  · obtain ⟨a, ns, rfl, hS, hlen, q⟩ := h
    refine ⟨_, (pss_cons (ps_set (i := 1) sc_law.nd rfl (Or.inr rfl) (pe_lstK (pa_cons (pe_f c__law_digits hr (by decide) gu (by rfl) (pa_cons (pv 0) (pa_cons pe_int (pa_cons pe_int pa_nil)))) (pa_cons pe_int pa_nil))))
      (pss_cons (ps_for PassesOwn.never rfl (pi_range1 (by rfl) T.b_range (pa_cons pe_int pa_nil)) (pg_name (i := 2) sc_law.nd rfl (Or.inl rfl))
        (pss_cons (ps_setLc (i := 3) (own := [("k", 15)]) (g := gName 15) (tt := tYes) rfl sc_law.nd rfl rfl (sw_true rfl rfl rfl (by decide +kernel)) (pi_range1 (by rfl) T.b_range (pa_cons pe_int pa_nil)) (blkOk_by (N := ["script", "box", "turn", "data", "size", "width", "first", "row", "bits", "slot", "least", "most", "kept", "value", "due", "k"]) (sc := defScope s_law) (by decide +kernel)) (fun _ _ _ _ _ => pg_name (i := 15) sc_law.nd rfl (Or.inl rfl)) (fun _ _ _ _ _ => pts_nil) (fun _ _ _ _ _ => (pe_f c__law_draw hr (by decide) gu (by rfl) (pa_cons (pv 1) (pa_cons pe_int pa_nil)))))
        (pss_cons (ps_set (i := 4) sc_law.nd rfl (Or.inl rfl) (pe_ix (ix_listK K rfl) (pe_lstK (pa_cons pe_int (pa_cons pe_int (pa_cons pe_int pa_nil)))) (pe_f c__law_draw hr (by decide) gu (by rfl) (pa_cons (pv 1) (pa_cons pe_int pa_nil))) (fun _ _ => rfl)))
        (pss_cons (ps_set (i := 5) sc_law.nd rfl (Or.inl rfl) (pe_op op_add pe_int (pe_f c__law_draw hr (by decide) gu (by rfl) (pa_cons (pv 1) (pa_cons (pe_op op_mul pe_int (pv 4)) pa_nil)))))
        (pss_cons (ps_set (i := 6) sc_law.nd rfl (Or.inl rfl) (pe_f c__law_draw hr (by decide) gu (by rfl) (pa_cons (pv 1) (pa_cons (pe_op op_add (pe_op op_sub (pe_op op_mul pe_int (pv 4)) (pv 5)) pe_int) pa_nil))))
        (pss_cons (ps_set (i := 7) sc_law.nd rfl (Or.inl rfl) (pe_lstK (pa_cons (pe_f c__law_draw hr (by decide) gu (by rfl) (pa_cons (pv 1) (pa_cons (pe_op op_sub pe_int (pv 4)) pa_nil))) (pa_cons (pv 4) (pa_cons (pe_cmpR op_eq (pe_f c__law_draw hr (by decide) gu (by rfl) (pa_cons (pv 1) (pa_cons pe_int pa_nil))) pe_int (nomark _)) (pa_cons (pv 6) (pa_cons (pv 5) (pa_cons (pe_cmpR op_eq (pe_f c__law_draw hr (by decide) gu (by rfl) (pa_cons (pv 1) (pa_cons pe_int pa_nil))) pe_int (nomark _)) pa_nil))))))))
        (pss_cons (ps_set (i := 8) sc_law.nd rfl (Or.inl rfl) (pe_f c__law_bits hr (by decide) gu (by rfl) (pa_cons (pv 3) (pa_cons (pe_ix (ix_listK K rfl) (pv 7) pe_int (fun _ _ => rfl)) (pa_cons (pv 4) (pa_cons (pe_ix (ix_listK K rfl) (pv 7) pe_int (fun _ _ => rfl)) pa_nil))))))
        (pss_cons (ps_set (i := 9) sc_law.nd rfl (Or.inl rfl) (pe_slice (sl_listK K rfl) (pv 8) (po_some (pv 6)) (po_some (pe_op op_add (pv 6) (pv 5)))))
        (pss_cons (ps_if (pt_not (pt_val (pe_f c__law_same hr (by decide) gu (by rfl) (pa_cons (pe_f c_read_slot hr (by decide) gu (by rfl) (pa_cons (pv 3) (pa_cons (pe_ix (ix_listK K rfl) (pv 7) pe_int (fun _ _ => rfl)) (pa_cons (pv 4) (pa_cons (pe_ix (ix_listK K rfl) (pv 7) pe_int (fun _ _ => rfl)) (pa_cons (pv 6) (pa_cons (pv 5) (pa_cons (pe_ix (ix_listK K rfl) (pv 7) pe_int (fun _ _ => rfl)) pa_nil)))))))) (pa_cons (pe_f c__law_number hr (by decide) gu (by rfl) (pa_cons (pv 9) (pa_cons (pe_ix (ix_listK K rfl) (pv 7) pe_int (fun _ _ => rfl)) pa_nil))) pa_nil)))))
          (pss_one (ps_ret pe_bl))
          pss_nil)
        (pss_cons (ps_set (i := 10) sc_law.nd rfl (Or.inl rfl) (pe_f c__law_number hr (by decide) gu (by rfl) (pa_cons (pe_op op_catK (pe_op op_repK (pe_lstK (pa_cons pe_int pa_nil)) (pe_op op_sub (pv 5) pe_int)) (pe_lstK (pa_cons (pe_callTy call_int1 (by rfl) T.b_int (by decide +kernel) (pa_cons (pe_ix (ix_listK K rfl) (pv 7) pe_int (fun _ _ => rfl)) pa_nil)) pa_nil))) (pa_cons (pe_ix (ix_listK K rfl) (pv 7) pe_int (fun _ _ => rfl)) pa_nil))))
        (pss_cons (ps_set (i := 11) sc_law.nd rfl (Or.inl rfl) (pe_f c__law_number hr (by decide) gu (by rfl) (pa_cons (pe_op op_catK (pe_op op_repK (pe_lstK (pa_cons pe_int pa_nil)) (pe_op op_sub (pv 5) pe_int)) (pe_lstK (pa_cons (pe_op op_sub pe_int (pe_callTy call_int1 (by rfl) T.b_int (by decide +kernel) (pa_cons (pe_ix (ix_listK K rfl) (pv 7) pe_int (fun _ _ => rfl)) pa_nil))) pa_nil))) (pa_cons (pe_ix (ix_listK K rfl) (pv 7) pe_int (fun _ _ => rfl)) pa_nil))))
        (pss_cons (ps_if (pt_not (pt_val (pe_f c__law_same hr (by decide) gu (by rfl) (pa_cons (pe_f c_bounds hr (by decide) gu (by rfl) (pa_cons (pv 5) (pa_cons (pe_ix (ix_listK K rfl) (pv 7) pe_int (fun _ _ => rfl)) pa_nil))) (pa_cons (pe_tupK (pa_cons (pv 10) (pa_cons (pv 11) pa_nil))) pa_nil)))))
          (pss_one (ps_ret pe_bl))
          pss_nil)
        (pss_cons (ps_set (i := 12) sc_law.nd rfl (Or.inl rfl) (pe_callTy (call_list_ofK K rfl) (by rfl) T.b_list (by decide +kernel) (pa_cons (pv 3) pa_nil)))
        (pss_cons (ps_if (PW.pt (pw_or (pt_not (pt_val (pe_f c__law_written hr (by decide) gu (by rfl) (pa_cons (pv 3) (pa_cons (pv 7) (pa_cons (pe_op op_sub (pe_op op_sub (pv 10) pe_int) (pe_f c__law_draw hr (by decide) gu (by rfl) (pa_cons (pv 1) (pa_cons pe_int pa_nil)))) pa_nil)))))) (pw_or (pt_not (pt_val (pe_f c__law_written hr (by decide) gu (by rfl) (pa_cons (pv 3) (pa_cons (pv 7) (pa_cons (pe_op op_add (pe_op op_add (pv 11) pe_int) (pe_f c__law_draw hr (by decide) gu (by rfl) (pa_cons (pv 1) (pa_cons pe_int pa_nil)))) pa_nil)))))) (pw_or1 (pt_cmpR (op_neDK K rfl (hu64 hr)) (pv 3) (pv 12) (nomark _))))))
          (pss_one (ps_ret pe_bl))
          pss_nil)
        (pss_cons (ps_set (i := 13) sc_law.nd rfl (Or.inl rfl) (pe_ix (ix_listK K rfl) (pe_lstK (pa_cons (pv 10) (pa_cons (pv 11) (pa_cons (pe_op op_add (pv 10) (pe_op op_mod (pe_callTy call_int1 (by rfl) T.b_int (by decide +kernel) (pa_cons (pe_op op_mul (pe_f c__law_draw hr (by decide) gu (by rfl) (pa_cons (pv 1) (pa_cons pe_int pa_nil))) pe_int) pa_nil)) (pe_op op_add (pe_op op_sub (pv 11) (pv 10)) pe_int))) pa_nil)))) (pe_f c__law_draw hr (by decide) gu (by rfl) (pa_cons (pv 1) (pa_cons pe_int pa_nil))) (fun _ _ => rfl)))
        (pss_cons (ps_if (pt_val (pe_f c__law_written hr (by decide) gu (by rfl) (pa_cons (pv 3) (pa_cons (pv 7) (pa_cons (pv 13) pa_nil)))))
          (pss_one (ps_ret pe_bl))
          pss_nil)
        (pss_cons (ps_set (i := 14) sc_law.nd rfl (Or.inl rfl) (pe_op op_catK (pe_op op_catK (pe_slice (sl_listK K rfl) (pv 8) po_none (po_some (pv 6))) (pe_f c__law_bits_of hr (by decide) gu (by rfl) (pa_cons (pv 13) (pa_cons (pv 5) pa_nil)))) (pe_slice (sl_listK K rfl) (pv 8) (po_some (pe_op op_add (pv 6) (pv 5))) po_none)))
        (pss_cons (ps_if (pt_cmpR (op_neDK K rfl (hu64 hr)) (pv 3) (pe_op op_catK (pe_op op_catK (pe_slice (sl_listK K rfl) (pv 12) po_none (po_some (pe_ix (ix_listK K rfl) (pv 7) pe_int (fun _ _ => rfl)))) (pe_f c__law_bytes hr (by decide) gu (by rfl) (pa_cons (pv 14) (pa_cons (pe_ix (ix_listK K rfl) (pv 7) pe_int (fun _ _ => rfl)) pa_nil)))) (pe_slice (sl_listK K rfl) (pv 12) (po_some (pe_op op_add (pe_ix (ix_listK K rfl) (pv 7) pe_int (fun _ _ => rfl)) (pv 4))) po_none)) (nomark _))
          (pss_one (ps_ret pe_bl))
          pss_nil)
        (pss_cons (ps_if (pt_not (pt_val (pe_f c__law_same hr (by decide) gu (by rfl) (pa_cons (pe_f c_read_word hr (by decide) gu (by rfl) (pa_cons (pv 3) (pa_cons (pe_ix (ix_listK K rfl) (pv 7) pe_int (fun _ _ => rfl)) (pa_cons (pv 4) pa_nil)))) (pa_cons (pe_f c__law_number hr (by decide) gu (by rfl) (pa_cons (pe_f c__law_bits hr (by decide) gu (by rfl) (pa_cons (pv 3) (pa_cons (pe_ix (ix_listK K rfl) (pv 7) pe_int (fun _ _ => rfl)) (pa_cons (pv 4) (pa_cons pe_bl pa_nil))))) (pa_cons pe_bl pa_nil))) pa_nil)))))
          (pss_one (ps_ret pe_bl))
          pss_nil)
        (pss_cons (ps_expr (pe_f c_write_word hr (by decide) gu (by rfl) (pa_cons (pv 3) (pa_cons (pe_ix (ix_listK K rfl) (pv 7) pe_int (fun _ _ => rfl)) (pa_cons (pv 4) (pa_cons (pe_f c_read_word hr (by decide) gu (by rfl) (pa_cons (pv 12) (pa_cons (pe_ix (ix_listK K rfl) (pv 7) pe_int (fun _ _ => rfl)) (pa_cons (pv 4) pa_nil)))) pa_nil))))))
        (pss_one (ps_if (pt_cmpR (op_neDK K rfl (hu64 hr)) (pv 3) (pv 12) (nomark _))
          (pss_one (ps_ret pe_bl))
          pss_nil))))))))))))))))))))))
      (pss_one (ps_ret pe_bl)))), ?_⟩
    -- box
    refine ⟨_, rfl, a, ns, 0, 30, rfl, hS, by decide, by decide, by decide, fun H1 D ds k1 nD eD hd => ⟨by show 2 ≤ 100000; decide, fun b H2 nb k2 eb => ?_⟩⟩
    -- for turn in range(4)
    refine ⟨_, rfl, by decide, by decide, for_range (lo := 0) (n := 4)
      (fun i σ H => ∃ (v2 v3 v4 v5 v6 v7 v8 v9 v10 v11 v12 v13 v14 v15 : Option V), ∃ n : Nat, σ = [some (.ref a), some (.ref b), v2, v3, v4, v5, v6, v7, v8, v9, v10, v11, v12, v13, v14, v15] ∧ Box H b D ds n ∧ n ≤ 100 * i)
      ⟨none, none, none, none, none, none, none, none, none, none, none, none, none, none, 0, rfl, ⟨eb, k2.at eD⟩, Nat.zero_le _⟩ ?_ ?_⟩
    · rintro i σ H hti ⟨v2, v3, v4, v5, v6, v7, v8, v9, v10, v11, v12, v13, v14, v15, n, rfl, B, hn⟩
      -- data
      refine ⟨_, rfl, by decide, by decide, fun L nL => ?_⟩
      have bL : b ≠ L := ne_of_none B.hb nL
      have DL : D ≠ L := ne_of_none B.hD nL
      have nLb : L ∉ [b] := by simpa using bL.symm
      have nbL : b ∉ [L] := by simpa using bL
      have nDL : D ∉ [L] := by simpa using DL
      refine lc_range (lo := 0) (n := 8)
        (fun j H => ∃ zs : List Int, Box H b D ds (n + j) ∧ H L = some (.lst (zs.map V.int)) ∧ zs.length = j ∧ MZ.B8 zs) ?_ ?_ ?_
      · exact ⟨[], B.kp (Kp.new (as := []) nL) List.not_mem_nil List.not_mem_nil, upd_same, rfl, fun _ z => nomatch z⟩
      · rintro j H hj ⟨zs, B, eL, hz, hB⟩
        refine ⟨rfl, ?_⟩

        skip
        refine ⟨_, rfl, b, D, ds, n + j, 256, rfl, B, by omega, by decide, fun r H' r0 r1 k B' => ?_⟩
        refine ⟨_, k _ _ eL nLb, small' (by rw [List.length_map]; omega), zs ++ [r], B'.kp (Kp.put (by simp)) nbL nDL, ?_, ?_, ?_⟩
        · rw [upd_same, app_len]
        · rw [List.length_append, hz]
          rfl
        · intro x hx
          rcases List.mem_append.mp hx with hx | hx
          · exact hB x hx
          · rw [List.mem_singleton.mp hx]
            exact ⟨r0, r1⟩
      rintro H3 ⟨data, B, eL, hz, hB⟩
      -- size
      refine ⟨by show 3 ≤ 100000; decide, fun t H4 nt k et => ?_⟩
      have nt := fresh2 B.hb eL nt
      have B := B.kp k List.not_mem_nil List.not_mem_nil
      have eL := k.at eL
      refine ⟨_, rfl, b, D, ds, n + 8, 3, rfl, B, by omega, by decide, fun r H5 r0 r1 k B => ?_⟩
      have eL := k _ _ eL nLb
      have et := k.b2 _ _ et nt
      obtain ⟨v, ev, hv⟩ := pick3 (x := V.int 1) (y := .int 2) (z := .int 4) r0 r1
      obtain ⟨size, rfl, hs⟩ : ∃ s : Nat, v = V.int s ∧ (s = 1 ∨ s = 2 ∨ s = 4) := by
        rcases hv with rfl | rfl | rfl
        · exact ⟨1, rfl, .inl rfl⟩
        · exact ⟨2, rfl, .inr (.inl rfl)⟩
        · exact ⟨4, rfl, .inr (.inr rfl)⟩
      refine ⟨t, _, _, _, rfl, rfl, SqL.of et, ev, ?_⟩
      clear ev hv et nt
      -- width
      refine ⟨_, rfl, _, rfl, _, _, rfl, rfl, Or.inl ⟨by decide, by decide⟩, b, D, ds, n + 9, 8 * (size : Int), rfl, B, by omega, by omega, fun r H6 r0 r1 k B => ?_⟩
      have eL := k _ _ eL nLb
      refine ⟨_, _, rfl, rfl, ?_⟩
      obtain ⟨w, hw⟩ : ∃ w : Nat, 1 + r = (w : Int) := ⟨(1 + r).toNat, by omega⟩
      show gName 5 (V.int (1 + r)) _ _ _
      rw [hw]
      have hw1 : 1 ≤ w := by omega
      have hw2 : w ≤ 8 * size := by omega
      clear hw r0 r1
      -- first
      refine ⟨_, rfl, _, rfl, _, _, rfl, rfl, Or.inl ⟨by decide, by decide⟩, _, rfl, _, _, rfl, rfl, _, _, rfl, rfl, b, D, ds, n + 10, 8 * (size : Int) - w + 1, rfl, B, by omega, by omega, fun r H7 r0 r1 k B => ?_⟩
      have eL := k _ _ eL nLb
      obtain ⟨f, rfl⟩ : ∃ f : Nat, r = (f : Int) := ⟨r.toNat, by omega⟩
      have hfw : f + w ≤ 8 * size := by omega
      clear r0 r1
      -- row
      refine ⟨_, rfl, _, rfl, _, _, rfl, rfl, b, D, ds, n + 11, 9 - (size : Int), rfl, B, by omega, by omega, fun r H8 r0 r1 k B => ?_⟩
      have eL := k _ _ eL nLb
      obtain ⟨off, rfl⟩ : ∃ f : Nat, r = (f : Int) := ⟨r.toNat, by omega⟩
      have hoff : off + size ≤ data.length := by omega
      clear r0 r1
      refine ⟨_, rfl, _, rfl, b, D, ds, n + 12, 2, rfl, B, by omega, by decide, fun g1 H9 r0 r1 k B => ?_⟩
      have eL := k _ _ eL nLb
      refine ⟨rfl, _, rfl, _, rfl, _, rfl, b, D, ds, n + 13, 2, rfl, B, by omega, by decide, fun g2 HA r0 r1 k B => ?_⟩
      have eL := k _ _ eL nLb
      refine ⟨rfl, by show 6 ≤ 100000; decide, fun row HB nrow k erow => ?_⟩
      have nrow := fresh2 B.hb eL nrow
      have B := B.kp k List.not_mem_nil List.not_mem_nil
      have eL := k.at eL
      obtain ⟨big, hbig⟩ : ∃ c : Bool, decide (V.int g1 = V.int 0) = c := ⟨_, rfl⟩
      obtain ⟨sg, hsg⟩ : ∃ c : Bool, decide (V.int g2 = V.int 0) = c := ⟨_, rfl⟩
      have erow : HB row = some (.lst [.int off, .int size, .bl big, .int f, .int w, .bl sg]) := by
        rw [← hbig, ← hsg]
        exact erow
      have hs4 : size ≤ 4 := by omega
      have hs1 : 1 ≤ size := by omega
      -- bits
      refine ⟨_, rfl, _, rfl, row, _, 0, _, rfl, rfl, SqL.of erow, atI_nat (j := 0) rfl, _, rfl, _, rfl, row, _, 2, _, rfl, rfl, SqL.of erow, atI_nat (j := 2) rfl, L, data, off, size, big, rfl, SqL.of eL, hB, hoff, hs4, fun HC bp k nbp ebp => ?_⟩
      have nbp := fresh2 B.hb eL nbp
      have B := B.kp k List.not_mem_nil List.not_mem_nil
      have eL := k.at eL
      have erow := k.at erow
      generalize hN : MZ.num (rowsOf data off size big) = N at *
      -- slot
      refine ⟨_, rfl, _, rfl, _, rfl, _, rfl, _, rfl, _, _, rfl, rfl, _, rfl, bp, _, rfl, SqL.of ebp, fun sl HD nsl k esl => ?_⟩
      have nsl := fresh2 B.hb eL nsl
      have B := B.kp k List.not_mem_nil List.not_mem_nil
      have eL := k.at eL
      have erow := k.at erow
      have ebp := k.at ebp
      have esl : HD sl = some (.lst ((MZ.bits (N / 2 ^ f) w).map V.int)) := by
        have e := cutK (l := MZ.bits N (8 * size)) (i := f) (j := f + w) (by omega) (by rw [MZ.bits_len]; exact hfw)
        rw [Nat.add_sub_cancel_left, MZ.bits_cut N hfw] at e
        rw [← e, Int.natCast_add]
        exact esl
      -- read_slot and the number
      have es := slotV_eq (N := N) (f := f) sg hw1
      have ok := Okd.int (slotV_rg (N := N) (f := f) sg hw1 (by omega))
      refine ⟨_, rfl, _, rfl, row, _, 0, _, rfl, rfl, SqL.of erow, atI_nat (j := 0) rfl, _, rfl, _, rfl, row, _, 2, _, rfl, rfl, SqL.of erow, atI_nat (j := 2) rfl, _, rfl, _, rfl, _, rfl, row, _, 5, _, rfl, rfl, SqL.of erow, atI_nat (j := 5) rfl, L, data, off, size, big, f, w, sg, rfl, SqL.of eL, hB, hoff, by omega, hs4, hw1, hfw, fun HE k => ?_⟩
      have B := B.kp k List.not_mem_nil List.not_mem_nil
      have eL := k.at eL
      have erow := k.at erow
      have ebp := k.at ebp
      have esl := k.at esl
      rw [hN]
      refine ⟨_, rfl, _, rfl, row, _, 5, _, rfl, rfl, SqL.of erow, atI_nat (j := 5) rfl, sl, MZ.bits (N / 2 ^ f) w, sg, rfl, SqL.of esl, by rw [MZ.bits_len]; exact hw1, by rw [MZ.bits_len]; omega, ?_⟩
      refine ⟨_, _, .int (slotV N f w sg), rfl, .int _, by rw [es]; exact .int _, ok.sh, ok.nd, ok.dp, ok.sz, true, rfl, iteF ?_⟩
      clear ok es
      -- least
      refine ⟨by show 1 ≤ 100000; decide, fun p1 H1 n1 k ep1 => ?_⟩
      have B := B.kp k List.not_mem_nil List.not_mem_nil
      have eL := k.at eL
      have erow := k.at erow
      have ebp := k.at ebp
      refine ⟨_, rfl, _, _, rfl, rfl, p1, _, _, rfl, rfl, ep1, by omega, by omega, by show 1 * _ ≤ _; omega, fun p2 H2 n2 k ep2 => ?_⟩
      have B := B.kp k List.not_mem_nil List.not_mem_nil
      have eL := k.at eL
      have erow := k.at erow
      have ebp := k.at ebp
      refine ⟨_, rfl, row, _, 5, _, rfl, rfl, SqL.of erow, atI_nat (j := 5) rfl, Or.inr ⟨_, rfl, by show 1 ≤ 100000; decide, fun p3 H3 n3 k ep3 => ?_⟩⟩
      have B := B.kp k List.not_mem_nil List.not_mem_nil
      have eL := k.at eL
      have erow := k.at erow
      have ebp := k.at ebp
      have ep2 := k.at ep2
      refine ⟨p2, p3, _, _, rfl, rfl, ep2, ep3, by rw [rep1, List.length_replicate]; show _ + 1 ≤ _; omega, fun p4 H4 n4 k ep4 => ?_⟩
      have B := B.kp k List.not_mem_nil List.not_mem_nil
      have eL := k.at eL
      have erow := k.at erow
      have ebp := k.at ebp
      have ew : ((w : Int) - 1).toNat = w - 1 := by omega
      refine ⟨_, rfl, row, _, 5, _, rfl, rfl, SqL.of erow, atI_nat (j := 5) rfl, p4, List.replicate (w - 1) 0 ++ [if sg then 1 else 0], sg, rfl, ?_, by simp, by simp; omega, ?_⟩
      · refine SqL.of ?_
        rw [ep4, rep1, ew, List.map_append, List.map_replicate]
        rfl
      show gName 10 (V.int (lawNum _ sg)) _ _ _
      rw [num_lo sg hw1]
      clear ep1 ep2 ep3 ep4 n1 n2 n3 n4
      -- most
      refine ⟨by show 1 ≤ 100000; decide, fun p1 H1 n1 k ep1 => ?_⟩
      have B := B.kp k List.not_mem_nil List.not_mem_nil
      have eL := k.at eL
      have erow := k.at erow
      have ebp := k.at ebp
      refine ⟨_, rfl, _, _, rfl, rfl, p1, _, _, rfl, rfl, ep1, by omega, by omega, by show 1 * _ ≤ _; omega, fun p2 H2 n2 k ep2 => ?_⟩
      have B := B.kp k List.not_mem_nil List.not_mem_nil
      have eL := k.at eL
      have erow := k.at erow
      have ebp := k.at ebp
      refine ⟨_, rfl, row, _, 5, _, rfl, rfl, SqL.of erow, atI_nat (j := 5) rfl, Or.inr ⟨_, rfl, _, _, rfl, rfl, by show 1 ≤ 100000; decide, fun p3 H3 n3 k ep3 => ?_⟩⟩
      have B := B.kp k List.not_mem_nil List.not_mem_nil
      have eL := k.at eL
      have erow := k.at erow
      have ebp := k.at ebp
      have ep2 := k.at ep2
      refine ⟨p2, p3, _, _, rfl, rfl, ep2, ep3, by rw [rep1, List.length_replicate]; show _ + 1 ≤ _; omega, fun p4 H4 n4 k ep4 => ?_⟩
      have B := B.kp k List.not_mem_nil List.not_mem_nil
      have eL := k.at eL
      have erow := k.at erow
      have ebp := k.at ebp
      refine ⟨_, rfl, row, _, 5, _, rfl, rfl, SqL.of erow, atI_nat (j := 5) rfl, p4, List.replicate (w - 1) 1 ++ [1 - if sg then 1 else 0], sg, rfl, ?_, by simp, by simp; omega, ?_⟩
      · refine SqL.of ?_
        rw [ep4, rep1, ew, List.map_append, List.map_replicate]
        rfl
      show gName 11 (V.int (lawNum _ sg)) _ _ _
      rw [num_hi sg hw1]
      clear ep1 ep2 ep3 ep4 n1 n2 n3 n4 ew
      -- bounds
      have g1 := lo_ge sg (show w ≤ 32 by omega)
      have g2 := hi_le sg (show w ≤ 32 by omega)
      have g3 := lo_hi sg hw1
      have g4 : lo w sg ≤ 0 := by
        have z := MZ.pow_pos (w - 1)
        unfold lo
        cases sg
        · exact Int.le_refl 0
        · show -(2 ^ (w - 1)) ≤ (0 : Int)
          omega
      have g5 : 0 ≤ hi w sg := by
        have z := MZ.pow_pos (w - 1)
        have z2 := MZ.pow_pos w
        unfold hi
        cases sg
        · show (0 : Int) ≤ 2 ^ w - 1
          omega
        · show (0 : Int) ≤ 2 ^ (w - 1) - 1
          omega
      refine ⟨_, rfl, _, rfl, row, _, 5, _, rfl, rfl, SqL.of erow, atI_nat (j := 5) rfl, w, sg, rfl, hw1, by omega, fun p1 n1 => ?_⟩
      have k : Kp [] H4 (upd H4 p1 (.tup [.int (lo w sg), .int (hi w sg)])) := Kp.new n1
      have ep1 : (upd H4 p1 (.tup [.int (lo w sg), .int (hi w sg)])) p1 = some (.tup [.int (lo w sg), .int (hi w sg)]) := upd_same
      generalize upd H4 p1 (.tup [.int (lo w sg), .int (hi w sg)]) = H5 at k ep1 ⊢
      have B := B.kp k List.not_mem_nil List.not_mem_nil
      have eL := k.at eL
      have erow := k.at erow
      have ebp := k.at ebp
      refine ⟨_, rfl, _, rfl, by show 2 ≤ 100000; decide, fun p2 H6 n2 k ep2 => ?_⟩
      have B := B.kp k List.not_mem_nil List.not_mem_nil
      have eL := k.at eL
      have erow := k.at erow
      have ebp := k.at ebp
      have ep1 := k.at ep1
      have ok := Okd.tup (l := [lo w sg, hi w sg]) (fun z hz => by
        rcases List.mem_cons.mp hz with rfl | hz
        · omega
        · rw [List.mem_singleton.mp hz]
          omega) (by show 2 ≤ 1000; decide)
      refine ⟨_, _, .tuple ([lo w sg, hi w sg].map .int), rfl, .tup (SqT.of ep1) (dp_ints [lo w sg, hi w sg]), .tup (SqT.of ep2) (dp_ints [lo w sg, hi w sg]), ok.sh, ok.nd, ok.dp, ok.sz, true, rfl, iteF ?_⟩
      clear ok ep1 ep2 n1 n2
      -- kept
      refine ⟨_, rfl, L, _, rfl, Or.inl (SqL.of eL), fun kp H7 nkp k ekp => ?_⟩
      have nkp := fresh2 B.hb eL nkp
      have B := B.kp k List.not_mem_nil List.not_mem_nil
      have eL := k.at eL
      have erow := k.at erow
      have ebp := k.at ebp
      -- refused below
      refine ⟨_, rfl, _, rfl, _, rfl, _, _, rfl, rfl, _, rfl, b, D, ds, n + 14, 3, rfl, B, by omega, by decide, fun r H8 r0 r1 k B => ?_⟩
      have eL := k _ _ eL nLb
      have erow := k.b2 _ _ erow nrow
      have ebp := k.b2 _ _ ebp nbp
      have ekp := k.b2 _ _ ekp nkp
      refine ⟨_, _, rfl, rfl, L, row, data, off, size, big, f, w, sg, lo w sg - 1 - r, rfl, eL, SqL.of erow, hB, hoff, by omega, hs4, hw1, hfw, fun H9 k _ => ?_, fun H9 k c1 c2 _ => absurd c1 (by omega)⟩
      have B := B.kp k List.not_mem_nil List.not_mem_nil
      have eL := k.at eL
      have erow := k.at erow
      have ebp := k.at ebp
      have ekp := k.at ekp
      refine ⟨true, rfl, iteF ?_⟩
      clear r0 r1
      -- refused above
      refine ⟨_, rfl, _, rfl, _, rfl, _, _, rfl, rfl, _, rfl, b, D, ds, n + 15, 3, rfl, B, by omega, by decide, fun r HA r0 r1 k B => ?_⟩
      have eL := k _ _ eL nLb
      have erow := k.b2 _ _ erow nrow
      have ebp := k.b2 _ _ ebp nbp
      have ekp := k.b2 _ _ ekp nkp
      refine ⟨_, _, rfl, rfl, L, row, data, off, size, big, f, w, sg, hi w sg + 1 + r, rfl, eL, SqL.of erow, hB, hoff, by omega, hs4, hw1, hfw, fun HB k _ => ?_, fun HB k c1 c2 _ => absurd c2 (by omega)⟩
      have B := B.kp k List.not_mem_nil List.not_mem_nil
      have eL := k.at eL
      have erow := k.at erow
      have ebp := k.at ebp
      have ekp := k.at ekp
      refine ⟨true, rfl, iteF ?_⟩
      clear r0 r1
      refine ⟨_, rfl, _, rfl, ne_same eL ekp ⟨false, rfl, iteF ?_⟩⟩
      -- value
      refine ⟨_, rfl, _, rfl, _, rfl, _, rfl, b, D, ds, n + 16, 1000, rfl, B, by omega, by decide, fun r HC r0 r1 k B => ?_⟩
      have eL := k _ _ eL nLb
      have erow := k.b2 _ _ erow nrow
      have ebp := k.b2 _ _ ebp nbp
      have ekp := k.b2 _ _ ekp nkp
      refine ⟨_, _, rfl, rfl, Or.inr ⟨by decide, by decide⟩, Or.inl ⟨_, rfl, _, rfl, _, rfl, _, _, rfl, rfl, _, _, rfl, rfl, _, _, rfl, rfl, (by show 0 < hi w sg - lo w sg + 1; omega), _, _, rfl, rfl, by show 3 ≤ 100000; decide, fun tv HD ntv k etv => ?_⟩⟩
      have ntv := fresh2 B.hb eL ntv
      have B := B.kp k List.not_mem_nil List.not_mem_nil
      have eL := k.at eL
      have erow := k.at erow
      have ebp := k.at ebp
      have ekp := k.at ekp
      refine ⟨_, rfl, b, D, ds, n + 17, 3, rfl, B, by omega, by decide, fun r2 HE q0 q1 k B => ?_⟩
      have eL := k _ _ eL nLb
      have erow := k.b2 _ _ erow nrow
      have ebp := k.b2 _ _ ebp nbp
      have ekp := k.b2 _ _ ekp nkp
      have etv := k.b2 _ _ etv ntv
      obtain ⟨v, ev, hv⟩ := pick3 (x := V.int (lo w sg)) (y := V.int (hi w sg)) (z := V.int (lo w sg + r * 77777 % (hi w sg - lo w sg + 1))) q0 q1
      obtain ⟨x, rfl, hx0, hx1⟩ : ∃ x : Int, v = V.int x ∧ lo w sg ≤ x ∧ x ≤ hi w sg := by
        rcases hv with rfl | rfl | rfl
        · exact ⟨_, rfl, Int.le_refl _, g3⟩
        · exact ⟨_, rfl, g3, Int.le_refl _⟩
        · have m0 := Int.emod_nonneg (r * 77777) (show hi w sg - lo w sg + 1 ≠ 0 by omega)
          have m1 := Int.emod_lt_of_pos (r * 77777) (show 0 < hi w sg - lo w sg + 1 by omega)
          exact ⟨_, rfl, by omega, by omega⟩
      refine ⟨tv, _, _, _, rfl, rfl, SqL.of etv, ev, ?_⟩
      clear ev hv etv ntv r0 r1 q0 q1
      -- written
      refine ⟨_, rfl, _, rfl, _, rfl, L, row, data, off, size, big, f, w, sg, x, rfl, eL, SqL.of erow, hB, hoff, by omega, hs4, hw1, hfw, fun HF k c => absurd c (by omega), fun HF k _ _ eL => ?_⟩
      have B := B.kp k nbL nDL
      have erow := k.l2 _ _ erow nrow
      have ebp := k.l2 _ _ ebp nbp
      have ekp := k.l2 _ _ ekp nkp
      refine ⟨false, rfl, iteF ?_⟩
      rw [hN] at eL
      -- due
      refine ⟨_, rfl, _, rfl, _, rfl, bp, _, rfl, SqL.of ebp, fun q1 HG n1 k eq1 => ?_⟩
      have B := B.kp k List.not_mem_nil List.not_mem_nil
      have eL := k.at eL
      have erow := k.at erow
      have ebp := k.at ebp
      have ekp := k.at ekp
      refine ⟨_, rfl, _, rfl, x, w, rfl, by omega, fun HI q2 k n2 eq2 => ?_⟩
      have B := B.kp k List.not_mem_nil List.not_mem_nil
      have eL := k.at eL
      have erow := k.at erow
      have ebp := k.at ebp
      have ekp := k.at ekp
      have eq1 := k.at eq1
      rw [cut0 (by rw [MZ.bits_len]; omega), MZ.bits_take N (by omega)] at eq1
      refine ⟨q1, q2, _, _, rfl, rfl, eq1, eq2, by rw [List.length_map, List.length_map, MZ.bits_len, MZ.bits_len]; omega, fun q3 HJ n3 k eq3 => ?_⟩
      have B := B.kp k List.not_mem_nil List.not_mem_nil
      have eL := k.at eL
      have erow := k.at erow
      have ebp := k.at ebp
      have ekp := k.at ekp
      refine ⟨_, rfl, _, rfl, _, rfl, _, _, rfl, rfl, _, rfl, bp, _, rfl, SqL.of ebp, fun q4 HK n4 k eq4 => ?_⟩
      have B := B.kp k List.not_mem_nil List.not_mem_nil
      have eL := k.at eL
      have erow := k.at erow
      have ebp := k.at ebp
      have ekp := k.at ekp
      have eq3 := k.at eq3
      have eq4 : HK q4 = some (.lst ((MZ.bits (N / 2 ^ (f + w)) (8 * size - (f + w))).map V.int)) := by
        have e := cutE (l := MZ.bits N (8 * size)) (i := f + w) (by rw [MZ.bits_len]; exact hfw)
        rw [MZ.bits_drop N hfw] at e
        rw [← e, Int.natCast_add]
        exact eq4
      refine ⟨q3, q4, _, _, rfl, rfl, eq3, eq4, by rw [List.length_append, List.length_map, List.length_map, List.length_map, MZ.bits_len, MZ.bits_len, MZ.bits_len]; omega, fun due HL n5 k edue => ?_⟩
      have B := B.kp k List.not_mem_nil List.not_mem_nil
      have eL := k.at eL
      have erow := k.at erow
      have ekp := k.at ekp
      rw [← List.map_append, ← List.map_append, ← MZ.putN_bits N x hfw] at edue
      clear eq1 eq2 eq3 eq4 n1 n2 n3 n4 n5 ebp nbp
      -- the bytes
      generalize hM : MZ.putN N f w x = M at *
      have hB2 : MZ.B8 (wr data off size big M) := B8.wr hB
      have hlen2 : (wr data off size big M).length = data.length := wr_len big M hoff
      refine ⟨_, rfl, _, rfl, _, rfl, row, _, 0, _, rfl, rfl, SqL.of erow, atI_nat (j := 0) rfl, _, rfl, kp, _, rfl, SqL.of ekp, fun q1 HM n1 k eq1 => ?_⟩
      have B := B.kp k List.not_mem_nil List.not_mem_nil
      have eL := k.at eL
      have erow := k.at erow
      have ekp := k.at ekp
      have edue := k.at edue
      refine ⟨_, rfl, _, rfl, row, _, 2, _, rfl, rfl, SqL.of erow, atI_nat (j := 2) rfl, due, M, size, big, rfl, SqL.of edue, hs4, fun HN q2 k n2 eq2 => ?_⟩
      have B := B.kp k List.not_mem_nil List.not_mem_nil
      have eL := k.at eL
      have erow := k.at erow
      have ekp := k.at ekp
      have eq1 := k.at eq1
      rw [cut0 (by omega)] at eq1
      refine ⟨q1, q2, _, _, rfl, rfl, eq1, eq2, by rw [List.length_map, List.length_map, List.length_take, ordr_len, MZ.bytes_len]; omega, fun q3 HO n3 k eq3 => ?_⟩
      have B := B.kp k List.not_mem_nil List.not_mem_nil
      have eL := k.at eL
      have erow := k.at erow
      have ekp := k.at ekp
      refine ⟨_, rfl, _, rfl, row, _, 0, _, rfl, rfl, SqL.of erow, atI_nat (j := 0) rfl, _, rfl, _, _, rfl, rfl, _, rfl, kp, _, rfl, SqL.of ekp, fun q4 HP n4 k eq4 => ?_⟩
      have B := B.kp k List.not_mem_nil List.not_mem_nil
      have eL := k.at eL
      have erow := k.at erow
      have ekp := k.at ekp
      have eq3 := k.at eq3
      have eq4 : HP q4 = some (.lst ((data.drop (off + size)).map V.int)) := by
        have e := cutE (l := data) (i := off + size) (by omega)
        rw [← e, Int.natCast_add]
        exact eq4
      refine ⟨q3, q4, _, _, rfl, rfl, eq3, eq4, by rw [List.length_append, List.length_map, List.length_map, List.length_map, List.length_take, ordr_len, MZ.bytes_len, List.length_drop]; omega, fun q5 HQ n5 k eq5 => ?_⟩
      have B := B.kp k List.not_mem_nil List.not_mem_nil
      have eL := k.at eL
      have erow := k.at erow
      have ekp := k.at ekp
      rw [← List.map_append, ← List.map_append] at eq5
      refine ne_same eL eq5 ⟨false, rfl, iteF ?_⟩
      clear eq1 eq2 eq3 eq4 eq5 n1 n2 n3 n4 n5 edue
      -- read_word
      have nr := MZ.num_range _ (B8.rows (off := off) (size := size) (big := false) hB2)
      rw [rows_len false (by omega)] at nr
      have up := p256 hs4
      have ok := Okd.int (z := MZ.num (rowsOf (wr data off size big M) off size false)) (by omega)
      refine ⟨_, rfl, _, rfl, row, _, 0, _, rfl, rfl, SqL.of erow, atI_nat (j := 0) rfl, _, rfl, L, wr data off size big M, off, size, rfl, SqL.of eL, hB2, by omega, by omega, hs4, hs1, fun HR k => ?_⟩
      have B := B.kp k List.not_mem_nil List.not_mem_nil
      have eL := k.at eL
      have erow := k.at erow
      have ekp := k.at ekp
      refine ⟨_, rfl, _, rfl, row, _, 0, _, rfl, rfl, SqL.of erow, atI_nat (j := 0) rfl, _, rfl, L, wr data off size big M, off, size, false, rfl, SqL.of eL, hB2, by omega, hs4, fun HS q1 k n1 eq1 => ?_⟩
      have B := B.kp k List.not_mem_nil List.not_mem_nil
      have eL := k.at eL
      have erow := k.at erow
      have ekp := k.at ekp
      refine ⟨q1, _, false, rfl, SqL.of eq1, by rw [MZ.bits_len]; omega, by rw [MZ.bits_len]; omega, ?_⟩
      refine ⟨_, _, .int (MZ.num (rowsOf (wr data off size big M) off size false)), rfl, .int _, by rw [bits_whole hB2 (by omega) hs1]; exact .int _, ok.sh, ok.nd, ok.dp, ok.sz, true, rfl, iteF ?_⟩
      clear ok nr eq1 n1
      -- write_word
      have nr := MZ.num_range _ (B8.rows (off := off) (size := size) (big := false) hB)
      rw [rows_len false (by omega)] at nr
      refine ⟨_, rfl, _, rfl, row, _, 0, _, rfl, rfl, SqL.of erow, atI_nat (j := 0) rfl, _, rfl, _, rfl, _, rfl, row, _, 0, _, rfl, rfl, SqL.of erow, atI_nat (j := 0) rfl, _, rfl, kp, data, off, size, rfl, SqL.of ekp, hB, hoff, by omega, hs4, hs1, fun HT k => ?_⟩
      have B := B.kp k List.not_mem_nil List.not_mem_nil
      have eL := k.at eL
      have erow := k.at erow
      have ekp := k.at ekp
      refine ⟨L, wr data off size big M, off, size, _, rfl, eL, hB2, by omega, by omega, hs4, hs1, nr.1, nr.2, fun HU k eL => ?_⟩
      have B := B.kp k nbL nDL
      have erow := k.l2 _ _ erow nrow
      have ekp := k.l2 _ _ ekp nkp
      rw [wr_back hB hoff] at eL
      refine ⟨_, rfl, _, rfl, ne_same eL ekp ⟨false, rfl, iteF ?_⟩⟩
      exact ⟨_, _, _, _, _, _, _, _, _, _, _, _, _, _, n + 18, rfl, B, by omega⟩
    · rintro σ H3 ⟨v2, v3, v4, v5, v6, v7, v8, v9, v10, v11, v12, v13, v14, v15, n, rfl, B, hn⟩
      exact q _
end
end K0
end

section
set_option Elab.async false
set_option linter.all false
set_option maxRecDepth 100000
set_option maxHeartbeats 4000000
namespace K0
open PySem PySem.Spec PyProof.Rows L2 Z RT
/-! ### what the top has written -/
theorem all_mk {l : PySem.W.OpenLaw} {w : World} {K : PySem.W.Frag} {h : Heap} {mg : Str → Option Value} {fa cR cO : Addr} (X : K.In h) (G : h.Ns mainGlobals mg) (hfa : mg "law" = some (.ref fa))
    {f0 f1 f2 f3 f4 f5 f6 f7 f8 f9 f10 f11 f12 f13 f14 f15 f16 f17 f18 : Addr}
    {od0 an0 od1 an1 od2 an2 od3 an3 od4 an4 od5 an5 od6 an6 od7 an7 od8 an8 od9 an9 od10 an10 od11 an11 od12 an12 od13 an13 od14 an14 od15 an15 od16 an16 od17 an17 od18 an18 : Option Addr} {sl0 sl1 sl2 sl3 sl4 sl5 sl6 sl7 sl8 sl9 sl10 sl11 sl12 sl13 sl14 sl15 sl16 sl17 sl18 : Array (Option Value)} {oc0 kV0 dc0 pm0 cd0 ct0 oc1 kV1 dc1 pm1 cd1 ct1 oc2 kV2 dc2 pm2 cd2 ct2 oc3 kV3 dc3 pm3 cd3 ct3 oc4 kV4 dc4 pm4 cd4 ct4 oc5 kV5 dc5 pm5 cd5 ct5 oc6 kV6 dc6 pm6 cd6 ct6 oc7 kV7 dc7 pm7 cd7 ct7 oc8 kV8 dc8 pm8 cd8 ct8 oc9 kV9 dc9 pm9 cd9 ct9 oc10 kV10 dc10 pm10 cd10 ct10 oc11 kV11 dc11 pm11 cd11 ct11 oc12 kV12 dc12 pm12 cd12 ct12 oc13 kV13 dc13 pm13 cd13 ct13 oc14 kV14 dc14 pm14 cd14 ct14 oc15 kV15 dc15 pm15 cd15 ct15 oc16 kV16 dc16 pm16 cd16 ct16 oc17 kV17 dc17 pm17 cd17 ct17 oc18 kV18 dc18 pm18 cd18 ct18 : Value}
    (aR : PySem.W.nsIn K mainGlobals "RecordError" = some (some (.ref cR)))
    (aO : PySem.W.nsIn K mainGlobals "OutOfRange" = some (some (.ref cO)))
    (kO : PySem.W.keepIn K (.ref cO) = true)
    (xO : PySem.W.excIn K cO [.type "ValueError", .type "Exception", .type "BaseException", .type "object"] "ValueError.__new__" = true)
    (sO : PySem.W.subIn K (.ref cO) (.type "BaseException") = some true)
    (tO : PySem.W.typeIn K (.ref cO) = some (.type "type"))
    (sR : PySem.W.subIn K (.ref cR) (.type "BaseException") = some true)
    (tR : PySem.W.typeIn K (.ref cR) = some (.type "type"))
    (hR : PySem.W.hasDictIn K cR = true)
    (sOR : PySem.W.subIn K (.ref cO) (.ref cR) = some true)
    (i1 : PySem.W.findIn K (.ref cO) "__getattribute__" = some (some (.builtin "BaseException.__getattribute__")))
    (i2 : PySem.W.findIn K (.ref cO) "__getattr__" = some none)
    (i4 : PySem.W.hasDictIn K cO = true)
    (i5 : PySem.W.findIn K (.ref cO) "__class__" = some (some (.builtin "object.__class__")))
    (i6 : PySem.W.specialIn K (.builtin "object.__class__") "__get__" = some (some (.builtin "getset_descriptor.__get__")))
    (i7 : PySem.W.takesIn K (.builtin "object.__class__") = some true)
    (i8 : PySem.W.mroIn K cO (.type "object") = some true)
    (i9 : PySem.W.kitOne K (.ref cO) (.type "ValueError") = some true)
    (a0 : PySem.W.nsIn K mainGlobals "_ones" = some (some (.ref f0)))
    (l0 : K.lookup f0 = some ⟨oc0, od0, .func (PySem.W.fnOf "_ones" "_ones" (defArgs s__ones) (defBody s__ones) (defScope s__ones) .none kV0 dc0 pm0 an0 cd0 ct0), sl0⟩)
    (c0 : PySem.W.codeIn K cd0 "_ones" = true)
    (k0 : PySem.W.keepIn K (.ref f0) = true)
    (a1 : PySem.W.nsIn K mainGlobals "bounds" = some (some (.ref f1)))
    (l1 : K.lookup f1 = some ⟨oc1, od1, .func (PySem.W.fnOf "bounds" "bounds" (defArgs s_bounds) (defBody s_bounds) (defScope s_bounds) .none kV1 dc1 pm1 an1 cd1 ct1), sl1⟩)
    (c1 : PySem.W.codeIn K cd1 "bounds" = true)
    (k1 : PySem.W.keepIn K (.ref f1) = true)
    (a2 : PySem.W.nsIn K mainGlobals "_places" = some (some (.ref f2)))
    (l2 : K.lookup f2 = some ⟨oc2, od2, .func (PySem.W.fnOf "_places" "_places" (defArgs s__places) (defBody s__places) (defScope s__places) .none kV2 dc2 pm2 an2 cd2 ct2), sl2⟩)
    (c2 : PySem.W.codeIn K cd2 "_places" = true)
    (k2 : PySem.W.keepIn K (.ref f2) = true)
    (a3 : PySem.W.nsIn K mainGlobals "_read_number" = some (some (.ref f3)))
    (l3 : K.lookup f3 = some ⟨oc3, od3, .func (PySem.W.fnOf "_read_number" "_read_number" (defArgs s__read_number) (defBody s__read_number) (defScope s__read_number) .none kV3 dc3 pm3 an3 cd3 ct3), sl3⟩)
    (c3 : PySem.W.codeIn K cd3 "_read_number" = true)
    (k3 : PySem.W.keepIn K (.ref f3) = true)
    (a4 : PySem.W.nsIn K mainGlobals "_write_number" = some (some (.ref f4)))
    (l4 : K.lookup f4 = some ⟨oc4, od4, .func (PySem.W.fnOf "_write_number" "_write_number" (defArgs s__write_number) (defBody s__write_number) (defScope s__write_number) .none kV4 dc4 pm4 an4 cd4 ct4), sl4⟩)
    (c4 : PySem.W.codeIn K cd4 "_write_number" = true)
    (k4 : PySem.W.keepIn K (.ref f4) = true)
    (a5 : PySem.W.nsIn K mainGlobals "read_slot" = some (some (.ref f5)))
    (l5 : K.lookup f5 = some ⟨oc5, od5, .func (PySem.W.fnOf "read_slot" "read_slot" (defArgs s_read_slot) (defBody s_read_slot) (defScope s_read_slot) .none kV5 dc5 pm5 an5 cd5 ct5), sl5⟩)
    (c5 : PySem.W.codeIn K cd5 "read_slot" = true)
    (k5 : PySem.W.keepIn K (.ref f5) = true)
    (a6 : PySem.W.nsIn K mainGlobals "write_slot" = some (some (.ref f6)))
    (l6 : K.lookup f6 = some ⟨oc6, od6, .func (PySem.W.fnOf "write_slot" "write_slot" (defArgs s_write_slot) (defBody s_write_slot) (defScope s_write_slot) .none kV6 dc6 pm6 an6 cd6 ct6), sl6⟩)
    (c6 : PySem.W.codeIn K cd6 "write_slot" = true)
    (k6 : PySem.W.keepIn K (.ref f6) = true)
    (a7 : PySem.W.nsIn K mainGlobals "read_word" = some (some (.ref f7)))
    (l7 : K.lookup f7 = some ⟨oc7, od7, .func (PySem.W.fnOf "read_word" "read_word" (defArgs s_read_word) (defBody s_read_word) (defScope s_read_word) .none kV7 dc7 pm7 an7 cd7 ct7), sl7⟩)
    (c7 : PySem.W.codeIn K cd7 "read_word" = true)
    (k7 : PySem.W.keepIn K (.ref f7) = true)
    (a8 : PySem.W.nsIn K mainGlobals "write_word" = some (some (.ref f8)))
    (l8 : K.lookup f8 = some ⟨oc8, od8, .func (PySem.W.fnOf "write_word" "write_word" (defArgs s_write_word) (defBody s_write_word) (defScope s_write_word) .none kV8 dc8 pm8 an8 cd8 ct8), sl8⟩)
    (c8 : PySem.W.codeIn K cd8 "write_word" = true)
    (k8 : PySem.W.keepIn K (.ref f8) = true)
    (a9 : PySem.W.nsIn K mainGlobals "_law_cell" = some (some (.ref f9)))
    (l9 : K.lookup f9 = some ⟨oc9, od9, .func (PySem.W.fnOf "_law_cell" "_law_cell" (defArgs s__law_cell) (defBody s__law_cell) (defScope s__law_cell) .none kV9 dc9 pm9 an9 cd9 ct9), sl9⟩)
    (c9 : PySem.W.codeIn K cd9 "_law_cell" = true)
    (k9 : PySem.W.keepIn K (.ref f9) = true)
    (a10 : PySem.W.nsIn K mainGlobals "_law_same" = some (some (.ref f10)))
    (l10 : K.lookup f10 = some ⟨oc10, od10, .func (PySem.W.fnOf "_law_same" "_law_same" (defArgs s__law_same) (defBody s__law_same) (defScope s__law_same) .none kV10 dc10 pm10 an10 cd10 ct10), sl10⟩)
    (c10 : PySem.W.codeIn K cd10 "_law_same" = true)
    (k10 : PySem.W.keepIn K (.ref f10) = true)
    (a11 : PySem.W.nsIn K mainGlobals "_law_digits" = some (some (.ref f11)))
    (l11 : K.lookup f11 = some ⟨oc11, od11, .func (PySem.W.fnOf "_law_digits" "_law_digits" (defArgs s__law_digits) (defBody s__law_digits) (defScope s__law_digits) .none kV11 dc11 pm11 an11 cd11 ct11), sl11⟩)
    (c11 : PySem.W.codeIn K cd11 "_law_digits" = true)
    (k11 : PySem.W.keepIn K (.ref f11) = true)
    (a12 : PySem.W.nsIn K mainGlobals "_law_draw" = some (some (.ref f12)))
    (l12 : K.lookup f12 = some ⟨oc12, od12, .func (PySem.W.fnOf "_law_draw" "_law_draw" (defArgs s__law_draw) (defBody s__law_draw) (defScope s__law_draw) .none kV12 dc12 pm12 an12 cd12 ct12), sl12⟩)
    (c12 : PySem.W.codeIn K cd12 "_law_draw" = true)
    (k12 : PySem.W.keepIn K (.ref f12) = true)
    (a13 : PySem.W.nsIn K mainGlobals "_law_bits" = some (some (.ref f13)))
    (l13 : K.lookup f13 = some ⟨oc13, od13, .func (PySem.W.fnOf "_law_bits" "_law_bits" (defArgs s__law_bits) (defBody s__law_bits) (defScope s__law_bits) .none kV13 dc13 pm13 an13 cd13 ct13), sl13⟩)
    (c13 : PySem.W.codeIn K cd13 "_law_bits" = true)
    (k13 : PySem.W.keepIn K (.ref f13) = true)
    (a14 : PySem.W.nsIn K mainGlobals "_law_bytes" = some (some (.ref f14)))
    (l14 : K.lookup f14 = some ⟨oc14, od14, .func (PySem.W.fnOf "_law_bytes" "_law_bytes" (defArgs s__law_bytes) (defBody s__law_bytes) (defScope s__law_bytes) .none kV14 dc14 pm14 an14 cd14 ct14), sl14⟩)
    (c14 : PySem.W.codeIn K cd14 "_law_bytes" = true)
    (k14 : PySem.W.keepIn K (.ref f14) = true)
    (a15 : PySem.W.nsIn K mainGlobals "_law_number" = some (some (.ref f15)))
    (l15 : K.lookup f15 = some ⟨oc15, od15, .func (PySem.W.fnOf "_law_number" "_law_number" (defArgs s__law_number) (defBody s__law_number) (defScope s__law_number) .none kV15 dc15 pm15 an15 cd15 ct15), sl15⟩)
    (c15 : PySem.W.codeIn K cd15 "_law_number" = true)
    (k15 : PySem.W.keepIn K (.ref f15) = true)
    (a16 : PySem.W.nsIn K mainGlobals "_law_bits_of" = some (some (.ref f16)))
    (l16 : K.lookup f16 = some ⟨oc16, od16, .func (PySem.W.fnOf "_law_bits_of" "_law_bits_of" (defArgs s__law_bits_of) (defBody s__law_bits_of) (defScope s__law_bits_of) .none kV16 dc16 pm16 an16 cd16 ct16), sl16⟩)
    (c16 : PySem.W.codeIn K cd16 "_law_bits_of" = true)
    (k16 : PySem.W.keepIn K (.ref f16) = true)
    (a17 : PySem.W.nsIn K mainGlobals "_law_written" = some (some (.ref f17)))
    (l17 : K.lookup f17 = some ⟨oc17, od17, .func (PySem.W.fnOf "_law_written" "_law_written" (defArgs s__law_written) (defBody s__law_written) (defScope s__law_written) .none kV17 dc17 pm17 an17 cd17 ct17), sl17⟩)
    (c17 : PySem.W.codeIn K cd17 "_law_written" = true)
    (k17 : PySem.W.keepIn K (.ref f17) = true)
    (a18 : PySem.W.nsIn K mainGlobals "law" = some (some (.ref f18)))
    (l18 : K.lookup f18 = some ⟨oc18, od18, .func (PySem.W.fnOf "law" "law" (defArgs s_law) (defBody s_law) (defScope s_law) .none kV18 dc18 pm18 an18 cd18 ct18), sl18⟩)
    (c18 : PySem.W.codeIn K cd18 "law" = true)
    (k18 : PySem.W.keepIn K (.ref f18) = true)
    (z_list : PySem.W.nsIn K mainGlobals "list" = some none)
    (z_range : PySem.W.nsIn K mainGlobals "range" = some none)
    (z_reversed : PySem.W.nsIn K mainGlobals "reversed" = some none)
    (z_len : PySem.W.nsIn K mainGlobals "len" = some none)
    (z_int : PySem.W.nsIn K mainGlobals "int" = some none)
    (z_repr : PySem.W.nsIn K mainGlobals "repr" = some none)
    (z_isinstance : PySem.W.nsIn K mainGlobals "isinstance" = some none)
    (z_ValueError : PySem.W.nsIn K mainGlobals "ValueError" = some none) :
    ∃ fd : FuncData, (∀ (s : Shared) (v : Value), BindsTo s fd ⟨[v], []⟩ [("script", v)]) ∧ ∀ base : Heap, K.In base → base.Ns mainGlobals mg → FnG l.prog w K mg base (L2.CX l.prog w) 5 fa fd ["script"] (sp_law K) := by
  have e := hfa.symm.trans (PySem.W.mg_of X G a18)
  cases e
  have F0 := fun_mk (st := s__ones) l0 c0 k0
  have b0 := F0.binds (ps := ["width"]) fun _ _ _ _ _ _ us hl => match us, hl with | [_], _ => rfl
  have m0 := PySem.W.mg_of X G a0
  have F1 := fun_mk (st := s_bounds) l1 c1 k1
  have b1 := F1.binds (ps := ["width", "signed"]) fun _ _ _ _ _ _ us hl => match us, hl with | [_, _], _ => rfl
  have m1 := PySem.W.mg_of X G a1
  have F2 := fun_mk (st := s__places) l2 c2 k2
  have b2 := F2.binds (ps := ["offset", "size", "big"]) fun _ _ _ _ _ _ us hl => match us, hl with | [_, _, _], _ => rfl
  have m2 := PySem.W.mg_of X G a2
  have F3 := fun_mk (st := s__read_number) l3 c3 k3
  have b3 := F3.binds (ps := ["data", "offset", "size", "big"]) fun _ _ _ _ _ _ us hl => match us, hl with | [_, _, _, _], _ => rfl
  have m3 := PySem.W.mg_of X G a3
  have F4 := fun_mk (st := s__write_number) l4 c4 k4
  have b4 := F4.binds (ps := ["data", "offset", "size", "big", "number"]) fun _ _ _ _ _ _ us hl => match us, hl with | [_, _, _, _, _], _ => rfl
  have m4 := PySem.W.mg_of X G a4
  have F5 := fun_mk (st := s_read_slot) l5 c5 k5
  have b5 := F5.binds (ps := ["data", "offset", "size", "big", "first", "width", "signed"]) fun _ _ _ _ _ _ us hl => match us, hl with | [_, _, _, _, _, _, _], _ => rfl
  have m5 := PySem.W.mg_of X G a5
  have F6 := fun_mk (st := s_write_slot) l6 c6 k6
  have b6 := F6.binds (ps := ["data", "offset", "size", "big", "first", "width", "signed", "value"]) fun _ _ _ _ _ _ us hl => match us, hl with | [_, _, _, _, _, _, _, _], _ => rfl
  have m6 := PySem.W.mg_of X G a6
  have F7 := fun_mk (st := s_read_word) l7 c7 k7
  have b7 := F7.binds (ps := ["data", "offset", "size"]) fun _ _ _ _ _ _ us hl => match us, hl with | [_, _, _], _ => rfl
  have m7 := PySem.W.mg_of X G a7
  have F8 := fun_mk (st := s_write_word) l8 c8 k8
  have b8 := F8.binds (ps := ["data", "offset", "size", "value"]) fun _ _ _ _ _ _ us hl => match us, hl with | [_, _, _, _], _ => rfl
  have m8 := PySem.W.mg_of X G a8
  have F9 := fun_mk (st := s__law_cell) l9 c9 k9
  have b9 := F9.binds (ps := ["script", "k"]) fun _ _ _ _ _ _ us hl => match us, hl with | [_, _], _ => rfl
  have m9 := PySem.W.mg_of X G a9
  have F10 := fun_mk (st := s__law_same) l10 c10 k10
  have b10 := F10.binds (ps := ["actual", "due"]) fun _ _ _ _ _ _ us hl => match us, hl with | [_, _], _ => rfl
  have m10 := PySem.W.mg_of X G a10
  have F11 := fun_mk (st := s__law_digits) l11 c11 k11
  have b11 := F11.binds (ps := ["script", "first", "last"]) fun _ _ _ _ _ _ us hl => match us, hl with | [_, _, _], _ => rfl
  have m11 := PySem.W.mg_of X G a11
  have F12 := fun_mk (st := s__law_draw) l12 c12 k12
  have b12 := F12.binds (ps := ["box", "many"]) fun _ _ _ _ _ _ us hl => match us, hl with | [_, _], _ => rfl
  have m12 := PySem.W.mg_of X G a12
  have F13 := fun_mk (st := s__law_bits) l13 c13 k13
  have b13 := F13.binds (ps := ["data", "offset", "size", "big"]) fun _ _ _ _ _ _ us hl => match us, hl with | [_, _, _, _], _ => rfl
  have m13 := PySem.W.mg_of X G a13
  have F14 := fun_mk (st := s__law_bytes) l14 c14 k14
  have b14 := F14.binds (ps := ["bits", "big"]) fun _ _ _ _ _ _ us hl => match us, hl with | [_, _], _ => rfl
  have m14 := PySem.W.mg_of X G a14
  have F15 := fun_mk (st := s__law_number) l15 c15 k15
  have b15 := F15.binds (ps := ["bits", "signed"]) fun _ _ _ _ _ _ us hl => match us, hl with | [_, _], _ => rfl
  have m15 := PySem.W.mg_of X G a15
  have F16 := fun_mk (st := s__law_bits_of) l16 c16 k16
  have b16 := F16.binds (ps := ["number", "width"]) fun _ _ _ _ _ _ us hl => match us, hl with | [_, _], _ => rfl
  have m16 := PySem.W.mg_of X G a16
  have F17 := fun_mk (st := s__law_written) l17 c17 k17
  have b17 := F17.binds (ps := ["data", "row", "value"]) fun _ _ _ _ _ _ us hl => match us, hl with | [_, _, _], _ => rfl
  have m17 := PySem.W.mg_of X G a17
  have F18 := fun_mk (st := s_law) l18 c18 k18
  have b18 := F18.binds (ps := ["script"]) fun _ _ _ _ _ _ us hl => match us, hl with | [_], _ => rfl
  have m18 := PySem.W.mg_of X G a18
  have T : Tx K mg cR cO := { b_list := PySem.W.mg_none_of X G z_list, b_range := PySem.W.mg_none_of X G z_range, b_reversed := PySem.W.mg_none_of X G z_reversed, b_len := PySem.W.mg_none_of X G z_len, b_int := PySem.W.mg_none_of X G z_int, b_repr := PySem.W.mg_none_of X G z_repr, b_isinstance := PySem.W.mg_none_of X G z_isinstance, b_ValueError := PySem.W.mg_none_of X G z_ValueError, g_RecordError := PySem.W.mg_of X G aR, g_OutOfRange := PySem.W.mg_of X G aO, k_OutOfRange := kO, x_OutOfRange := xO, s_OutOfRange := sO, t_OutOfRange := tO }
  have T2 : Tc K cR cO := ⟨PySem.W.exm_ref sR hR tR sOR, ⟨i1, i2, sO, i4, i5, i6, i7, i8⟩, i9⟩
  refine ⟨PySem.W.fnOf "law" "law" (defArgs s_law) (defBody s_law) (defScope s_law) .none kV18 dc18 pm18 an18 cd18 ct18, fun s v => .of_eq rfl, fun base _ _ => ?_⟩
  have c__ones := d_ones (P := l.prog) (w := w) (base := base) F0 m0 b0 
  have c_bounds := d_bounds (P := l.prog) (w := w) (base := base) F1 m1 b1 c__ones
  have c__places := d_places (P := l.prog) (w := w) (base := base) F2 m2 b2 T
  have c__read_number := d_read_number (P := l.prog) (w := w) (base := base) F3 m3 b3 T c__places
  have c__write_number := d_write_number (P := l.prog) (w := w) (base := base) F4 m4 b4 c__places
  have c_read_slot := d_read_slot (P := l.prog) (w := w) (base := base) F5 m5 b5 c__ones c_bounds c__read_number
  have c_write_slot := d_write_slot (P := l.prog) (w := w) (base := base) F6 m6 b6 T c__ones c_bounds c__read_number c__write_number
  have c_read_word := d_read_word (P := l.prog) (w := w) (base := base) F7 m7 b7 c_read_slot
  have c_write_word := d_write_word (P := l.prog) (w := w) (base := base) F8 m8 b8 c_write_slot
  have c__law_cell := d_cell (P := l.prog) (w := w) (base := base) F9 m9 b9 T
  have c__law_same := d_same (P := l.prog) (w := w) (base := base) F10 m10 b10 T
  have c__law_digits := d_digits (P := l.prog) (w := w) (base := base) F11 m11 b11 T c__law_cell
  have c__law_draw := d_draw (P := l.prog) (w := w) (base := base) F12 m12 b12 T
  have c__law_bits := d_bits (P := l.prog) (w := w) (base := base) F13 m13 b13 T
  have c__law_bytes := d_bytes (P := l.prog) (w := w) (base := base) F14 m14 b14 T
  have c__law_number := d_number (P := l.prog) (w := w) (base := base) F15 m15 b15 T
  have c__law_bits_of := d_bits_of (P := l.prog) (w := w) (base := base) F16 m16 b16 T
  have c__law_written := d_written (P := l.prog) (w := w) (base := base) F17 m17 b17 T T2 c_write_slot
  exact d_law F18 T c__law_digits c__law_draw c__law_bits c__law_same c_read_slot c__law_number c_bounds c__law_written c__law_bits_of c__law_bytes c_read_word c_write_word
theorem no_raise {P : Program} : ∀ (w : World) (H : Hp) (s : Shared) (e : Value) (s2 : Shared), L2.CX P w [] H s (fun _ _ _ => False) e s2 → False := fun w H s e s2 h => by
  obtain ⟨_, _, _, _, _, _, _, _, _, _, _, _, z⟩ := h
  exact z.elim
end K0
open PySem PySem.W PyProof.Rows
set_option maxRecDepth 100000 in
set_option maxHeartbeats 0 in
theorem PySem.Challenge.cw_recstore_k00_slots_exact_holds : PySem.Challenge.rw_recstore_k00_slots_exact.Holds := by
  w_on; o_law; k_head; (case hw => w_witness2)
  k_fill
  refine Z.walk_ofG (l := PySem.Challenge.rw_recstore_k00_slots_exact) (n := 63) (k := 5) (x := "script") (CX := fun w => L2.CX PySem.Challenge.rw_recstore_k00_slots_exact.prog w) (sp := fun w => K0.sp_law _) rfl (by decide) rfl ⟨rfl, by decide, by decide⟩ (fun w h Y => PySem.W.kIn_of Y) ?F (fun _ _ a ns hl _ hS => ⟨a, ns, rfl, hS, hl, fun _ => rfl⟩) K0.no_raise
  case F =>
    intro w mg fa h KX G hmg
    refine' K0.all_mk KX G hmg ?aR ?aO ?kO ?xO ?sO ?tO ?sR ?tR ?hR ?sOR ?i1 ?i2 ?i4 ?i5 ?i6 ?i7 ?i8 ?i9 ?a0 ?l0 ?c0 ?k0 ?a1 ?l1 ?c1 ?k1 ?a2 ?l2 ?c2 ?k2 ?a3 ?l3 ?c3 ?k3 ?a4 ?l4 ?c4 ?k4 ?a5 ?l5 ?c5 ?k5 ?a6 ?l6 ?c6 ?k6 ?a7 ?l7 ?c7 ?k7 ?a8 ?l8 ?c8 ?k8 ?a9 ?l9 ?c9 ?k9 ?a10 ?l10 ?c10 ?k10 ?a11 ?l11 ?c11 ?k11 ?a12 ?l12 ?c12 ?k12 ?a13 ?l13 ?c13 ?k13 ?a14 ?l14 ?c14 ?k14 ?a15 ?l15 ?c15 ?k15 ?a16 ?l16 ?c16 ?k16 ?a17 ?l17 ?c17 ?k17 ?a18 ?l18 ?c18 ?k18 ?z_list ?z_range ?z_reversed ?z_len ?z_int ?z_repr ?z_isinstance ?z_ValueError
    (case aR => k_is)
    (case aO => k_is)
    (case kO => k_is)
    (case xO => k_exc)
    (case sO => k_is)
    (case tO => k_is)
    (case sR => k_is)
    (case tR => k_is)
    (case hR => k_is)
    (case sOR => k_is)
    (case i1 => k_is)
    (case i2 => k_is)
    (case i4 => k_is)
    (case i5 => k_is)
    (case i6 => first | k_is | rfl)
    (case i7 => first | k_is | rfl)
    (case i8 => k_is)
    (case i9 => first | k_is | rfl)
    (case a0 => k_is)
    (case l0 => k_is)
    (case c0 => k_is)
    (case k0 => k_is)
    (case a1 => k_is)
    (case l1 => k_is)
    (case c1 => k_is)
    (case k1 => k_is)
    (case a2 => k_is)
    (case l2 => k_is)
    (case c2 => k_is)
    (case k2 => k_is)
    (case a3 => k_is)
    (case l3 => k_is)
    (case c3 => k_is)
    (case k3 => k_is)
    (case a4 => k_is)
    (case l4 => k_is)
    (case c4 => k_is)
    (case k4 => k_is)
    (case a5 => k_is)
    (case l5 => k_is)
    (case c5 => k_is)
    (case k5 => k_is)
    (case a6 => k_is)
    (case l6 => k_is)
    (case c6 => k_is)
    (case k6 => k_is)
    (case a7 => k_is)
    (case l7 => k_is)
    (case c7 => k_is)
    (case k7 => k_is)
    (case a8 => k_is)
    (case l8 => k_is)
    (case c8 => k_is)
    (case k8 => k_is)
    (case a9 => k_is)
    (case l9 => k_is)
    (case c9 => k_is)
    (case k9 => k_is)
    (case a10 => k_is)
    (case l10 => k_is)
    (case c10 => k_is)
    (case k10 => k_is)
    (case a11 => k_is)
    (case l11 => k_is)
    (case c11 => k_is)
    (case k11 => k_is)
    (case a12 => k_is)
    (case l12 => k_is)
    (case c12 => k_is)
    (case k12 => k_is)
    (case a13 => k_is)
    (case l13 => k_is)
    (case c13 => k_is)
    (case k13 => k_is)
    (case a14 => k_is)
    (case l14 => k_is)
    (case c14 => k_is)
    (case k14 => k_is)
    (case a15 => k_is)
    (case l15 => k_is)
    (case c15 => k_is)
    (case k15 => k_is)
    (case a16 => k_is)
    (case l16 => k_is)
    (case c16 => k_is)
    (case k16 => k_is)
    (case a17 => k_is)
    (case l17 => k_is)
    (case c17 => k_is)
    (case k17 => k_is)
    (case a18 => k_is)
    (case l18 => k_is)
    (case c18 => k_is)
    (case k18 => k_is)
    (case z_list => k_is)
    (case z_range => k_is)
    (case z_reversed => k_is)
    (case z_len => k_is)
    (case z_int => k_is)
    (case z_repr => k_is)
    (case z_isinstance => k_is)
    (case z_ValueError => k_is)
end
