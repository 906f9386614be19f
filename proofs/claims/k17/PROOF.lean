import PyProof.Rows.All
import Wide.All
import OpenK.AllK
import Wide.FinOn
import HandS.ForMost
import HandS.ForExc
import HandS.ExcValue
import HandS.ExcIs
import HandS.IsInst
import HandS.HotCalls
import HandS.RaiseMore
import HandS.Wide
import HandS.EndBits
import HandS.Defaults
import PyProof.ReprRoads
import HandS.TupMul
import HandS.MakeKw
import HandS.Codes
import HandS.Star
import HandS.Zip
import HandS.Rev
import HandS.RevTup
import PyProof.ListStr
import HandS.Conv
import HandS.SortInts
import PyProof.Rows.SortShellAny
import HandS.Walk
import HandS.TupAny
import HandS.WideBits
import HandS.DictComp
import PySem.Challenge.RW_exacttable_k17_refusals_apart
set_option Elab.async false
set_option linter.all false
set_option maxRecDepth 100000
set_option maxHeartbeats 4000000
/-! Rules of my own over the hand layer: a caught exception that is tracked; several clauses, with and without a name; defs that may be called while an exception is handled. -/
namespace Vf
open PySem PySem.Spec PyProof.Rows L2

/-! ### an exception object by its class -/
def ExIs (h : Heap) (a : Addr) (cls : Value) : Prop := ∃ (oe : Obj) (vs : Array Value), h.get? a = some oe ∧ Zc cls none oe ∧ oe.data = .fields vs
def ExT (cls : Value) (a : Addr) : HO := .ext fun h => ExIs h a cls
def ExAt (H : Hp) (a D : Addr) : Prop := ∃ φ, H a = some (.ext φ) ∧ ∀ h, φ h → ExIs h a (.ref D)
theorem ExAt.ofT {H : Hp} {a D : Addr} (e : H a = some (ExT (.ref D) a)) : ExAt H a D := ⟨_, e, fun _ q => q⟩
theorem ExAt.ofO {H : Hp} {a D : Addr} (e : H a = some (ExO (.ref D) a)) : ExAt H a D := ⟨_, e, fun _ ⟨oe, vs, q1, q2, q3, _⟩ => ⟨oe, vs, q1, q2, q3⟩⟩
theorem ExAt.same {H H' : Hp} {a D : Addr} (e : ExAt H a D) (s : Same H H') : ExAt H' a D := by
  obtain ⟨φ, q, r⟩ := e
  exact ⟨φ, s _ _ q, r⟩
/-- isinstance of such an object -/
def rIsX (K : PySem.W.Frag) : List V → Hp → VK → Prop := fun xs H Q => ∃ (a D : Addr) (c : V) (cv : Value) (b : Bool), xs = [.ref a, c] ∧ ClsV c cv ∧ ExAt H a D ∧ ExcC K D ∧ PySem.W.kitOne K (.ref D) cv = some b ∧ Q (.bl b) H
theorem call_isX {X : Cx} : CallR X (.builtin "isinstance") (rIsX X.K) := by
  intro pins s σ H xs us Q I r h
  obtain ⟨a, D, c, cv, b, rfl, k, ⟨φ, ha, hφ⟩, C, e, q⟩ := h
  obtain ⟨u1, u2, rfl, r1, r2⟩ := vals2 r
  obtain rfl := k.eq r2
  cases (show u1 = Value.ref a from r1)
  obtain ⟨p, _, _⟩ := I.hok a _ ha
  obtain ⟨⟨oc, od, oda, osl⟩, vs, hg, ⟨z1, z2⟩, hv⟩ := hφ _ p
  dsimp only at z1 z2 hv
  subst z1 z2 hv
  exact PySem.W.kia_one (PySem.W.handS_kitx_exc C.hg C.hk C.hs C.hd C.ha C.hn C.ht C.hm) I.kIn ⟨hg, rfl, rfl, trivial⟩ e (fun z => nomatch z) fun tk => ⟨.bl b, H, I.tok tk, rfl, q⟩

/-! ### a new object that was not tracked is tracked from now on -/
theorem adopt {X : Cx} {pins : List (Addr × Obj)} {σ : L2.St} {H : Hp} {s : Shared} {a : Addr} {cls : Value} (I : Inv X pins σ H s) (he : ExIs s.heap a cls) (na : H a = none) (n0 : X.s_0.heap.get? a = none) (nL : a ≠ X.env.locals) (nP : ∀ p ∈ X.pn ++ pins, p.1 ≠ a) :
    Inv X pins σ (upd H a (ExT cls a)) s := by
  obtain ⟨oe, vs, ha, hz, hd⟩ := id he
  have nC : ∀ x c, X.env.cells.lookup x = some c → c ≠ a := fun x c e z => by
    obtain ⟨v, o, ho, hc⟩ := I.cell x c e
    rw [z, ha] at ho
    cases ho
    rw [hd] at hc
    cases hc
  have nb0 : ∀ b o, X.s_0.heap.get? b = some o → b ≠ a := fun b o e z => by
    rw [z, n0] at e
    cases e
  have nbH : ∀ b o, H b = some o → b ≠ a := fun b o e => ne_of_none e na
  refine ⟨I.ok, I.os, I.bare, ⟨I.base.keep, I.base.slot, fun b o e n hx => ?_, I.base.there, fun b xs e => ?_, fun b o u e => ?_, fun b ps e => ?_⟩, I.loc, I.cell, ?_, fun x c e => ?_, fun p hp => ?_, fun b u e => ?_, I.len⟩
  · rw [upd_ne (nb0 b o e)]
    exact I.base.free b o e n hx
  · have q := I.base.tups b xs e
    rw [upd_ne (nbH _ _ q)]
    exact q
  · have q := I.base.frzs b o u e
    rw [upd_ne (nbH _ _ q)]
    exact q
  · obtain ⟨m, q⟩ := I.base.tbls b ps e
    exact ⟨m, by rw [upd_ne (nbH _ _ q)]; exact q⟩
  · rw [upd_ne nL.symm]
    exact I.free
  · rw [upd_ne (nC x c e)]
    exact I.freeC x c e
  · obtain ⟨e1, e2, e3⟩ := I.pin p hp
    exact ⟨e1, by rw [upd_ne (nP p hp)]; exact e2, e3⟩
  · by_cases hb : b = a
    · subst hb
      rw [upd_same] at e
      cases e
      exact ⟨he, ⟨oe, ha⟩, fun h1 h2 ⟨o1, v1, g1, g2⟩ k => ⟨o1, v1, k _ g1, g2⟩⟩
    · rw [upd_ne hb] at e
      exact (I.hok b u e).stay (fun _ _ _ q => q) (fun c q => by rw [upd_ne (nbH _ _ q)]; exact q) fun c xs q => by rw [upd_ne (nbH _ _ q)]; exact q
theorem toSuite {X : Cx} {pins : List (Addr × Obj)} {σ : L2.St} {H : Hp} {s : Shared} (I : Inv X pins σ H s) (a : Addr) : Inv (X.suite a (X.pn ++ pins)) [] σ H s :=
  ⟨I.ok.suite _ _, I.os, I.bare, I.base, I.loc, I.cell, I.free, I.freeC, fun p hp => I.pin p (by rw [List.append_nil] at hp; exact hp), I.hok, I.len⟩
theorem offSuite {X : Cx} {pins pn' : List (Addr × Obj)} {σ : L2.St} {H : Hp} {s : Shared} {a : Addr} (I : Inv (X.suite a (X.pn ++ pins)) pn' σ H s) (ok : X.Ok) : Inv X pins σ H s :=
  ⟨ok, I.os, I.bare, I.base, I.loc, I.cell, I.free, I.freeC, fun p hp => I.pin p (List.mem_append_left _ hp), I.hok, I.len⟩

/-! ### try with any number of clauses -/
def sw (oi : Option Nat) (v : Option V) (σ : L2.St) : L2.St := match oi with
  | none => σ
  | some i => σ.set i v
def dw (oi : Option Nat) (D : Ends) : Ends := { nx := fun σ H => D.nx (sw oi none σ) H, rt := D.rt, bk := fun σ H => D.bk (sw oi none σ) H, ct := fun σ H => D.ct (sw oi none σ) H }
abbrev Cls1 := Value × Option Nat × (Addr → Value → TS)
def wT (K : PySem.W.Frag) (Wout : WX) (D : Ends) : List Cls1 → WX
  | [] => Wout
  | (c, oi, ts) :: r => fun cls d σ H => ∃ b, PySem.W.exmOne K cls c = some b ∧ (b = true → d = none ∧ ∀ a, H a = none → ts a cls (dw oi D) (sw oi (some (.ref a)) σ) (upd H a (ExT cls a))) ∧ (b = false → wT K Wout D r cls d σ H)
inductive HdT (X : Cx) : List ExceptHandler → List Cls1 → Prop
  | nil : HdT X [] []
  | plain {x : Str} {c : Value} {ts : Addr → Value → TS} {b₀ : Stmt} {su : List Stmt} {p1 p2 : Pos} {hds : List ExceptHandler} {l : List Cls1} (hc : Names X x c)
      (hsu : ∀ (a : Addr) (cls : Value) (pn : List (Addr × Obj)), PSs (X.suite a pn) (b₀ :: su) (ts a cls)) (r : HdT X hds l) : HdT X (.ExceptHandler (some (.Name x p1)) none (b₀ :: su) p2 :: hds) ((c, none, ts) :: l)
  | named {x n : Str} {i : Nat} {c : Value} {ts : Addr → Value → TS} {b₀ : Stmt} {su : List Stmt} {p1 p2 : Pos} {hds : List ExceptHandler} {l : List Cls1} (hc : Names X x c) (hi : X.N[i]? = some n) (hln : X.env.kindOf n = some .local)
      (hsu : ∀ (a : Addr) (cls : Value) (pn : List (Addr × Obj)), PSs (X.suite a pn) (b₀ :: su) (ts a cls)) (r : HdT X hds l) : HdT X (.ExceptHandler (some (.Name x p1)) (some n) (b₀ :: su) p2 :: hds) ((c, some i, ts) :: l)
theorem ps_tryT {X : Cx} {body : List Stmt} {h₀ : ExceptHandler} {hds : List ExceptHandler} {l : List Cls1} {pos : Pos} {tb : WX → TS} {Wout : WX} (hs : X.stack = X.env :: X.outer) (hf : X.env.frame = some X.env.locals) (hex : X.ex = []) (hN : X.N.Nodup) (tk : L2.Takes X Wout)
    (hb : ∀ (W : WX) (pn : List (Addr × Obj)) (xe : Value → Shared → Prop), L2.Takes (X.tr pn xe) W → PassesOwn (model X.prog X.w) X.A X.env xe → PSs (X.tr pn xe) body (tb W))
    (hh : HdT X (h₀ :: hds) l) : PS X (.Try body (h₀ :: hds) [] [] pos) (fun D σ H => tb (wT X.K Wout D l) D σ H) := by
  refine ⟨fun pins s σ H D I h => ?_⟩
  have ok := I.ok
  have hfr : X.A.frames = some (X.env :: X.outer) := ok.frames.trans (congrArg some hs)
  refine wpAny_Try_except (wpAny_mono ((hb (wT X.K Wout D l) (X.pn ++ pins) (fun e s₁ => wpAny (model X.prog X.w) X.A (noteFrame e X.env) (fun _ s₂ => wpAny (model X.prog X.w) X.A (setFlight e none) (fun _ s₃ =>
    wpAny (model X.prog X.w) X.A (handleBy e X.env (h₀ :: hds)) (SP X pins D) X.xe s₃) X.xe s₂) X.xe s₁) (fun u s' air => ?_) PassesOwn.looking).run [] s σ H D (I.toTry _) h) (fun f s1 hsp => ?_) (fun _ _ he => he))
  · obtain ⟨a, B, sI, pins', σ', H', cls, d, rfl, J', nb, up, sky, na, os, ag, wish⟩ := air
    have J : Inv X pins σ' H' sI := J'.ofTry ok
    rw [hs] at sky
    show wpAny (model X.prog X.w) X.A (noteFrame (.ref a) X.env) _ _ _
    refine L2.Sky.land Zc.steady hfr hf sky fun h3 fl3 up3 => ?_
    have J3 : Inv X pins σ' H' { s' with heap := h3 } := J.landed nb fl3.1 (up.trans up3) os ag
    obtain ⟨oe3, vs3, he3, hz3, hd3⟩ := fl3.there
    have nfr : a ∉ frs (X.env :: X.outer) := fun hm => by
      obtain ⟨_, o', e', hnf⟩ := fl3.2.2.1.mem hm
      rw [he3] at e'
      cases e'
      exact hnf _ hd3
    have nst : a ∉ frs X.stack := by rw [hs]; exact nfr
    have nL : a ≠ X.env.locals := fun z => nfr (List.mem_filterMap.mpr ⟨X.env, List.mem_cons_self, hf.trans (congrArg some z.symm)⟩)
    have Ba : B.get? a = none := fl3.2.1
    have nI : sI.heap.get? a = none := by
      cases q : sI.heap.get? a with
      | none => rfl
      | some o =>
        rw [nb a o q nst] at Ba
        cases Ba
    have n0 : X.s_0.heap.get? a = none := by
      cases q : X.s_0.heap.get? a with
      | none => rfl
      | some o =>
        obtain ⟨o', q'⟩ := J.base.there a o q (by rw [hex]; exact fun z => nomatch z)
        rw [nI] at q'
        cases q'
    have nP : ∀ p ∈ X.pn ++ pins, p.1 ≠ a := fun p hp z => by
      have q := (J.pin p hp).1
      rw [z, nI] at q
      cases q
    have S3 := toSuite J3 a
    have go : ∀ {hds' : List ExceptHandler} {l' : List Cls1}, HdT X hds' l' → wT X.K Wout D l' cls d σ' H' →
        wpAny (model X.prog X.w) X.A (handleBy (.ref a) X.env hds') (SP X pins D) X.xe { s' with heap := h3 } := by
      have LT : PySem.W.Looks (model X.prog X.w) h3 (typeOf (.ref a)) cls := fun A Q E s k q => wpAny_typeOf_ref (k _ _ he3) (by rw [hz3.1]; exact q)
      have test : ∀ {x : Str} {c : Value} {np : Pos} {Q : Value → Shared → Prop} {E : Value → Shared → Prop}, Names X x c → Q c { s' with heap := h3 } → wpAny (model X.prog X.w) (X.A.mark (some (.ref a))) (eval (.Name x np) X.env) Q E { s' with heap := h3 } := fun {x c np Q E} hc q => by
        obtain ⟨hg, hdbg, hm | ⟨hm, hv, hnn⟩⟩ := hc
        · exact ld_glob (X := X.suite a (X.pn ++ pins)) S3 hg hm q hdbg
        · exact ld_blt (X := X.suite a (X.pn ++ pins)) S3 hg hm hv q hnn hdbg
      have adopted : d = none → ∀ h4, L2.Inv X pins σ' H' { s' with heap := h4 } → HandSPX.FlyingZ B (X.env :: X.outer) a (Zc cls d) h4 → L2.Inv X pins σ' (upd H' a (ExT cls a)) { s' with heap := h4 } := fun ed h4 J4 fl4 => by
        obtain ⟨oe4, vs4, he4, hz4, hd4⟩ := fl4.there
        rw [ed] at hz4
        exact adopt J4 ⟨oe4, vs4, he4, hz4, hd4⟩ na n0 nL nP
      intro hds' l' hk
      induction hk with
      | nil =>
        intro w
        refine wpAny_handleBy_nil ?_
        obtain ⟨k1, k2, k3, oe, vs, T, oT, ts', he, hz, hd, h1, hr⟩ := id fl3
        unfold PySem.passOn
        refine wpAny_bind (wpAny_field he hd h1 ?_)
        rw [if_neg (show ¬ ((Value.ref T == Value.none) = true) from by simp)]
        have fin : wpAny (model X.prog X.w) X.A (setFlight (.ref a) X.env.frame) (fun _ s4 => wpAny (model X.prog X.w) X.A (throw (.ref a) : Sem Flow) (SP X pins D) X.xe s4) X.xe { s' with heap := h3 } := by
          rw [hf]
          refine HandSPX.setFlight_upZ fl3 fun h4 hh4 up4 => wpAny_throw (tk _ _ ?_)
          exact ⟨a, B, sI, pins, σ', H', cls, d, rfl, J, nb, (up.trans up3).trans up4, .inr (.inr (hs ▸ hh4)), na, os, ag, w⟩
        first
          | exact wpAny_bind (wpAny_pure (wpAny_bind fin))
          | exact wpAny_bind fin
      | @plain x c ts b₀ su p1 p2 hds2 l2 hc hsu r ih =>
        intro w
        obtain ⟨b, hb1, hyes, hno⟩ := w
        refine wpAny_handleBy_cons (codeAny_handlers_test ?_) (by intro q; cases q)
        refine test hc ((PySem.W.exm_one (M := model X.prog X.w) (J3.kIn) LT hb1).here ?_)
        cases b with
        | true =>
          refine codeAny_handlers_suite (HandSPX.lands_againZ fl3 fun h4 fl4 up4 => ?_)
          have J4 := adopted (hyes rfl).1 h4 (J.landed nb fl4.1 ((up.trans up3).trans up4) os ag) fl4
          refine wpAny_mono ((hsu a cls (X.pn ++ pins)).run [] _ _ _ _ (toSuite J4 a) ((hyes rfl).2 a na)) (fun f s6 q6 => ?_) (fun _ _ z => False.elim z)
          cases f with
          | next => exact let ⟨σ6, H6, S6, q⟩ := q6; ⟨_, _, offSuite S6 ok, q⟩
          | brk => exact let ⟨σ6, H6, S6, q⟩ := q6; ⟨_, _, offSuite S6 ok, q⟩
          | cont => exact let ⟨σ6, H6, S6, q⟩ := q6; ⟨_, _, offSuite S6 ok, q⟩
          | ret u => exact let ⟨v6, σ6, H6, S6, r6, q⟩ := q6; ⟨_, _, _, offSuite S6 ok, r6, q⟩
        | false =>
          show wpAny _ X.A (handleBy (.ref a) X.env hds2) _ _ _
          exact ih (hno rfl)
      | @named x n i c ts b₀ su p1 p2 hds2 l2 hc hi hln hsu r ih =>
        intro w
        obtain ⟨b, hb1, hyes, hno⟩ := w
        refine wpAny_handleBy_cons (codeAny_handlers_test ?_) (by intro q; cases q)
        refine test hc ((PySem.W.exm_one (M := model X.prog X.w) (J3.kIn) LT hb1).here ?_)
        cases b with
        | true =>
          refine codeAny_handlers_suite_as (HandSPX.lands_againZ fl3 fun h4 fl4 up4 => ?_)
          have J4 := adopted (hyes rfl).1 h4 (J.landed nb fl4.1 ((up.trans up3).trans up4) os ag) fl4
          refine store_ok (X := X.suite a (X.pn ++ pins)) (v := .ref a) (toSuite J4 a) hN hi (.inl hln) rfl (fun s5 S5 => ?_) (.inr hln)
          refine wpAny_mono ((hsu a cls (X.pn ++ pins)).run [] s5 _ _ _ S5 ((hyes rfl).2 a na)) (fun f s6 q6 => ?_) (fun _ _ z => False.elim z)
          have gone : ∀ {σ6 : L2.St} {H6 : Hp} {Q : Shared → Prop}, Inv (X.suite a (X.pn ++ pins)) [] σ6 H6 s6 → (∀ s7, Inv X pins (σ6.set i none) H6 s7 → Q s7) →
              wpAny (model X.prog X.w) X.A (do bindName X.env n .none; unbindBehindTheSuite X.env n p2) (fun _ s7 => Q s7) X.xe s6 := fun {σ6 H6 Q} S6 hq => gone_ok (offSuite S6 ok) hN hi hln hq
          cases f with
          | next => exact let ⟨σ6, H6, S6, q⟩ := q6; gone S6 fun s7 J7 => ⟨_, _, J7, q⟩
          | brk => exact let ⟨σ6, H6, S6, q⟩ := q6; gone S6 fun s7 J7 => ⟨_, _, J7, q⟩
          | cont => exact let ⟨σ6, H6, S6, q⟩ := q6; gone S6 fun s7 J7 => ⟨_, _, J7, q⟩
          | ret u => exact let ⟨v6, σ6, H6, S6, r6, q⟩ := q6; gone S6 fun s7 J7 => ⟨_, _, _, J7, r6, q⟩
        | false =>
          show wpAny _ X.A (handleBy (.ref a) X.env hds2) _ _ _
          exact ih (hno rfl)
    exact go hh wish
  · cases f with
    | next => exact let ⟨σ', H', J', q⟩ := hsp; wpAny_execs_nil ⟨σ', H', J'.ofTry ok, q⟩
    | brk => exact let ⟨σ', H', J', q⟩ := hsp; ⟨σ', H', J'.ofTry ok, q⟩
    | cont => exact let ⟨σ', H', J', q⟩ := hsp; ⟨σ', H', J'.ofTry ok, q⟩
    | ret u => exact let ⟨v, σ', H', J', r, q⟩ := hsp; ⟨v, σ', H', J'.ofTry ok, r, q⟩

/-! ### defs that run wherever they are called: no loop, nothing raised -/
structure FnA (P : Program) (w : World) (K : PySem.W.Frag) (mg : Str → Option Value) (base : Heap) (k : Nat) (f : Addr) (fd : FuncData) (ps : List Str) (sp : Sp) : Prop where
  len : ∀ vs H Q E, sp vs H Q E → vs.length = ps.length
  run : ∀ (A : Around) (outer : List Env) (s : Shared) (H : Hp) (args : Args) (us : List Value) (vs : List V) (Q : VK) (E : XK), L2H.RoomH k A → Env0 P w K mg base A outer s H → BindsTo s fd args (ps.zip us) → Vals vs us → sp vs H Q E →
    codeAny (model P w) A (.call (.ref f) args) (CR CX0 outer P w H s Q E) s
section
variable {P : Program} {w : World} {K : PySem.W.Frag} {mg : Str → Option Value} {base : Heap} {k : Nat} {f : Addr} {fd : FuncData} {ps N : List Str} {sp : Sp}
theorem FnA.ok (F : FnA P w K mg base k f fd ps sp) : FnOk P w K mg base CX0 k f fd ps sp := ⟨F.len, fun A outer s H args us vs Q E hr => F.run A outer s H args us vs Q E (L2H.roomH_of hr)⟩
/-- the context of such a def's body -/
def cxA (P : Program) (w : World) (K : PySem.W.Frag) (mg : Str → Option Value) (base : Heap) (N : List Str) (qual : Str) (scope : Scope) (f : Addr) (cd : Value) (A : Around) (outer : List Env) (s : Shared) (H : Hp) : Cx :=
  { cxOf CX0 P w K mg base N qual scope f cd A outer s H E0 with calm := false, xe := fun _ _ => False }
theorem fn_ofA {name qual : Str} {params : Arguments} {body : List Stmt} {scope : Scope} {dV kV doc pm cdv ct oc : Value} {an od : Option Addr} {osl : Array (Option Value)}
    (lk : K.lookup f = some ⟨oc, od, .func (PySem.W.fnOf name qual params body scope dV kV doc pm an cdv ct), osl⟩) (hcd : PySem.W.codeIn K cdv qual = true) (S : FnScope N ps scope) (len : ∀ vs H Q E, sp vs H Q E → vs.length = ps.length)
    (hbody : ∀ (A : Around) (outer : List Env) (s : Shared) (H : Hp) (vs : List V) (Q : VK) (E : XK), L2H.RoomH k (A.deeper (envOfC qual scope s.heap.objs.size f cdv)) → sp vs H Q E →
      ∃ t, PSs (cxA P w K mg base N qual scope f cdv A outer s H) body t ∧ t { nx := fun _ H' => Q .non H', rt := Q } (L2.start N vs) H) :
    FnA P w K mg base (k + 1) f (PySem.W.fnOf name qual params body scope dV kV doc pm an cdv ct) ps sp := by
  refine ⟨len, fun A outer s H args us vs Q E room e0 hb rv hsp => ?_⟩
  have kx : K.In s.heap := e0.mod.kin.keeps fun b o e => (e0.bs b o e).1
  have nolim : s.heap.NoLimit := e0.mod.nolimit.keeps fun b o e => (e0.bs b o e).1
  refine codeAny_call_function room.depth (kx _ _ lk) rfl S.co S.gen rfl (PySem.W.codeRec_of kx hcd) (hb _ _ _ _ (wpAny_newFunctionEnv_cells S.kind (fun ⟨n, v⟩ hy => ?_) fun env he s1 x => ?_))
  · rcases S.par n (List.of_mem_zip hy).1 with q | q
    · exact .inl q
    · exact .inr ⟨q, PySem.W.cellsFrom_some _ _ _ (.inl q)⟩
  subst he
  refine ⟨nolim.keeps x.toInCall.keep, codeAny_func ?_⟩
  obtain ⟨t, ht, hq⟩ := hbody A outer s H vs Q E (room.deeper _) hsp
  have I0 := inv_start (CX := CX0) (E := E0) (A := { A with handled := none }) S rfl (⟨e0.frames, e0.mod, e0.bs, e0.bsz, e0.funs, e0.frf, e0.hok, e0.bare⟩ : Env0 P w K mg base { A with handled := none } outer s H) (len _ _ _ _ hsp) rv x
  have I : Inv (cxA P w K mg base N qual scope f cdv A outer s H) [] (L2.start N vs) H s1 :=
    ⟨⟨I0.ok.mod, I0.ok.kind, I0.ok.glob, I0.ok.blt, I0.ok.above, I0.ok.inj, I0.ok.has, I0.ok.cab, (fun z => nomatch (show false = true from z)), Around.frames_deeper e0.frames, I0.ok.stk, I0.ok.exf, I0.ok.bs, I0.ok.bsz, I0.ok.noex, I0.ok.exfs, I0.ok.funs, I0.ok.frf⟩,
      I0.os, I0.bare, I0.base, I0.loc, I0.cell, I0.free, I0.freeC, I0.pin, I0.hok, I0.len⟩
  refine wpAny_mono (ht.run [] s1 (L2.start N vs) H _ I hq) (fun fl s' hs => ?_) fun e s' z => z.elim
  cases fl with
  | ret u => exact let ⟨v, σ', H', J, r2, q⟩ := hs; (⟨v, H', J.os, J.bare, J.base, J.hok, r2, q⟩ : CE outer P w H s Q u s')
  | next => exact let ⟨σ', H', J, q⟩ := hs; (⟨V.non, H', J.os, J.bare, J.base, J.hok, rfl, q⟩ : CE outer P w H s Q .none s')
  | brk => exact let ⟨_, _, _, q⟩ := hs; False.elim q
  | cont => exact let ⟨_, _, _, q⟩ := hs; False.elim q
theorem funOkA {x qual : Str} {st : Stmt} (F : Fun K x qual st f fd) (S : FnScope N ps (defScope st)) (len : ∀ vs H Q E, sp vs H Q E → vs.length = ps.length)
    (hbody : ∀ (cdv : Value) (A : Around) (outer : List Env) (s : Shared) (H : Hp) (vs : List V) (Q : VK) (E : XK), L2H.RoomH k (A.deeper (envOfC qual (defScope st) s.heap.objs.size f cdv)) → sp vs H Q E →
      ∃ t, PSs (cxA P w K mg base N qual (defScope st) f cdv A outer s H) (defBody st) t ∧ t { nx := fun _ H' => Q .non H', rt := Q } (L2.start N vs) H) : FnA P w K mg base (k + 1) f fd ps sp := by
  obtain ⟨oc, od, kV, doc, pm, an, cdv, ct, osl, rfl, lk, hcd⟩ := F.ex
  exact fn_ofA lk hcd S len fun A outer s H vs Q E => hbody cdv A outer s H vs Q E
end
/-- such a def called, anywhere -/
theorem pe_callA {X : Cx} {k : Nat} {f : Addr} {fd : FuncData} {ps : List Str} {sp : Sp} {x : Str} {q pos : Pos} {e : Expr} {es : List Expr} {t : TA} (F : FnA X.prog X.w X.K X.mg X.base k f fd ps sp) (hr : L2H.RoomH k X.A) (hg : Gl X x) (hm : X.mg x = some (.ref f)) (hk : PySem.W.keepIn X.K (.ref f) = true) (hb : Binds X.K fd ps [])
    (ha : PA X (e :: es) t) (hdb : (x == ("__debug__" : Str)) = false := by decide) (he : starEach (e :: es) X.env = (false, eval e X.env) :: starEach es X.env := by rfl) (hpl : (backTo pos (starEach es X.env)).any (·.1) = false := by rfl) :
    PE X (.Call (.Name x q) (e :: es) [] pos) (fun σ H Q => t σ H fun vs H1 => sp vs H1 Q E0) := by
  refine ⟨fun pins s σ H Q I h => ?_⟩
  refine wpAny_Call_Name_kw (ld_glob I hg hm (PySem.W.callWith_K (h₀ := X.base) I.ok.mod.kin hk (thn (ha.run pos pins s σ H _ I h) fun us s1 ⟨vs, H1, I1, r, q⟩ => ⟨I1.kIn, ?_⟩) he hpl) hdb)
  have b := hb s1 us I1.kIn (by rw [List.append_nil, ← r.length]; exact F.len _ _ _ _ q)
  rw [List.append_nil] at b
  refine wpAny_call (codeAny_mono (F.run X.A X.stack s1 H1 ⟨us, []⟩ us vs Q E0 hr I1.env0 b r q) fun r' s' hq => ?_)
  cases r' with
  | error e => exact False.elim hq
  | ok fl => cases fl with
    | ret u => exact I1.after hq
    | next => exact False.elim hq
    | brk => exact False.elim hq
    | cont => exact False.elim hq
theorem roomH_mark {k : Nat} {A : Around} {v : Option Value} (r : Room k A) : L2H.RoomH k (A.mark v) := ⟨r.dp, r.un⟩
end Vf
set_option Elab.async false
set_option linter.all false
set_option maxRecDepth 100000
set_option maxHeartbeats 4000000
/-! More rules of my own: callees by name, a list or a tuple walked, data, the program's exception classes, the end with loose names. -/
namespace Vf
open PySem PySem.Spec PyProof.Rows L2

/-! ### heaps -/
theorem same_upd {H : Hp} {p : Addr} {o : HO} (h : H p = none) : Same H (upd H p o) := fun b x e => by
  rw [upd_ne (ne_of_none e h)]
  exact e
theorem Same.seqT {K : PySem.W.Frag} {H H' : Hp} {a : Addr} {xs : List V} (e : Same H H') (h : SqT K H a xs) : SqT K H' a xs := by
  rcases h with (h | ⟨o, h⟩) | h
  · exact .inl (.inl (e _ _ h))
  · exact .inl (.inr ⟨o, e _ _ h⟩)
  · exact .inr h
/-- the tape: a list of one int -/
def Tp (H : Hp) (t : Addr) : Prop := ∃ n : Int, H t = some (.lst [.int n])
/-- all but the tape is as it was -/
def Kp (t : Addr) (H H' : Hp) : Prop := (∀ b o, H b = some o → b ≠ t → H' b = some o) ∧ Tp H' t
theorem Kp.refl {t : Addr} {H : Hp} (h : Tp H t) : Kp t H H := ⟨fun _ _ e _ => e, h⟩
theorem Kp.trans {t : Addr} {H H1 H2 : Hp} (a : Kp t H H1) (b : Kp t H1 H2) : Kp t H H2 := ⟨fun c o e n => b.1 c o (a.1 c o e n) n, b.2⟩
theorem Kp.same {t : Addr} {H H1 H2 : Hp} (a : Kp t H H1) (b : Same H1 H2) : Kp t H H2 := ⟨fun c o e n => b c o (a.1 c o e n), let ⟨n, e⟩ := a.2; ⟨n, b _ _ e⟩⟩
theorem Kp.ofSame {t : Addr} {H H1 : Hp} (a : Tp H t) (b : Same H H1) : Kp t H H1 := (Kp.refl a).same b
theorem Kp.lay {t p : Addr} {o : HO} {H H1 : Hp} (a : Kp t H H1) (n : H1 p = none) : Kp t H (upd H1 p o) := a.same (same_upd n)
theorem Kp.tape {t : Addr} {n : Int} {H H1 : Hp} (a : Kp t H H1) : Kp t H (upd H1 t (.lst [.int n])) := ⟨fun b o e h => by rw [upd_ne h]; exact a.1 b o e h, ⟨n, upd_same⟩⟩
theorem Kp.free {t : Addr} {H H' : Hp} (a : Kp t H H') (h : Tp H t) {l : Addr} (e : H' l = none) : H l = none := by
  cases q : H l with
  | none => rfl
  | some o =>
    by_cases z : l = t
    · obtain ⟨n, r⟩ := a.2
      rw [z, r] at e
      cases e
    · rw [a.1 l o q z] at e
      cases e

/-! ### readings may be weakened -/
theorem _root_.L2.PE.imp {X : Cx} {e : Expr} {t t' : TE} (h : PE X e t) (i : ∀ σ H Q, t' σ H Q → t σ H Q) : PE X e t' := ⟨fun pins s σ H Q I q => h.run pins s σ H Q I (i _ _ _ q)⟩
theorem _root_.L2.PA.imp {X : Cx} {e : List Expr} {t t' : TA} (h : PA X e t) (i : ∀ σ H Q, t' σ H Q → t σ H Q) : PA X e t' := ⟨fun pos pins s σ H Q I q => h.run pos pins s σ H Q I (i _ _ _ q)⟩
theorem _root_.L2.PSs.imp {X : Cx} {e : List Stmt} {t t' : TS} (h : PSs X e t) (i : ∀ σ H Q, t' σ H Q → t σ H Q) : PSs X e t' := ⟨fun pins s σ H Q I q => h.run pins s σ H Q I (i _ _ _ q)⟩

/-! ### callees by their names -/
structure Cal (P : Program) (w : World) (K : PySem.W.Frag) (mg : Str → Option Value) (base : Heap) (CX : CXT) (k : Nat) (x : Str) (ps : List Str) (sp : Sp) : Prop where
  ex : ∃ (f : Addr) (fd : FuncData), mg x = some (.ref f) ∧ PySem.W.keepIn K (.ref f) = true ∧ Binds K fd ps [] ∧ FnOk P w K mg base CX k f fd ps sp
structure CalA (P : Program) (w : World) (K : PySem.W.Frag) (mg : Str → Option Value) (base : Heap) (k : Nat) (x : Str) (ps : List Str) (sp : Sp) : Prop where
  ex : ∃ (f : Addr) (fd : FuncData), mg x = some (.ref f) ∧ PySem.W.keepIn K (.ref f) = true ∧ Binds K fd ps [] ∧ FnA P w K mg base k f fd ps sp
theorem CalA.cal {P : Program} {w : World} {K : PySem.W.Frag} {mg : Str → Option Value} {base : Heap} {k : Nat} {x : Str} {ps : List Str} {sp : Sp} (c : CalA P w K mg base k x ps sp) : Cal P w K mg base CX0 k x ps sp := by
  obtain ⟨f, fd, h1, h2, h3, h4⟩ := c.ex
  exact ⟨f, fd, h1, h2, h3, h4.ok⟩
def tCal (sp : Sp) (E : XK) (t : TA) : TE := fun σ H Q => t σ H fun vs H1 => sp vs H1 Q E
section
variable {X : Cx} {CX : CXT} {k : Nat} {ps : List Str} {sp : Sp} {x : Str} {p pos : Pos} {e : Expr} {es : List Expr} {t : TA}
theorem pe_cal {E : XK} (c : Cal X.prog X.w X.K X.mg X.base CX k x ps sp) (hr : Room k X.A) (hg : Gl X x) (hx : Passes CX X E) (ha : PA X (e :: es) t) (hdb : (x == ("__debug__" : Str)) = false := by decide)
    (he : starEach (e :: es) X.env = (false, eval e X.env) :: starEach es X.env := by rfl) (hpl : (backTo pos (starEach es X.env)).any (·.1) = false := by rfl) : PE X (.Call (.Name x p) (e :: es) [] pos) (tCal sp E t) := by
  obtain ⟨f, fd, h1, h2, h3, h4⟩ := c.ex
  exact (pe_call (dvs := []) h4 hr hg h1 h2 h3 .nil hx ha hdb he hpl).imp fun σ H Q q => by
    unfold tCall
    simp only [List.append_nil]
    exact q
theorem pe_calS {E : L2.St → XK} (c : Cal X.prog X.w X.K X.mg X.base CX k x ps sp) (hr : Room k X.A) (hg : Gl X x) (hx : ∀ σ, PassesAt CX X σ (E σ)) (ha : PA X (e :: es) t) (hdb : (x == ("__debug__" : Str)) = false := by decide)
    (he : starEach (e :: es) X.env = (false, eval e X.env) :: starEach es X.env := by rfl) (hpl : (backTo pos (starEach es X.env)).any (·.1) = false := by rfl) : PE X (.Call (.Name x p) (e :: es) [] pos) (tCallS sp E t) := by
  obtain ⟨f, fd, h1, h2, h3, h4⟩ := c.ex
  exact pe_callS h4 hr hg h1 h2 h3 hx ha hdb he hpl
theorem pe_calA (c : CalA X.prog X.w X.K X.mg X.base k x ps sp) (hr : L2H.RoomH k X.A) (hg : Gl X x) (ha : PA X (e :: es) t) (hdb : (x == ("__debug__" : Str)) = false := by decide)
    (he : starEach (e :: es) X.env = (false, eval e X.env) :: starEach es X.env := by rfl) (hpl : (backTo pos (starEach es X.env)).any (·.1) = false := by rfl) : PE X (.Call (.Name x p) (e :: es) [] pos) (tCal sp E0 t) := by
  obtain ⟨f, fd, h1, h2, h3, h4⟩ := c.ex
  exact pe_callA h4 hr hg h1 h2 h3 ha hdb he hpl
/-- an object made by an __init__ that may raise, the wish at the slots as they stand -/
theorem pe_makS {C f : Addr} {fd : FuncData} {dvs : List V} {ds : List Value} {E : L2.St → XK} (M : Mk X.K C f) (F : FnOk X.prog X.w X.K X.mg X.base CX k f fd ps sp) (hr : Room (k + 1) X.A) (hg : Gl X x) (hm : X.mg x = some (.ref C)) (hb : Binds X.K fd ps ds) (hd : Vals dvs ds)
    (hx : ∀ σ, PassesAt CX X σ (E σ)) (ha : PA X (e :: es) t) (hdb : (x == ("__debug__" : Str)) = false := by decide) (he : starEach (e :: es) X.env = (false, eval e X.env) :: starEach es X.env := by rfl) (hpl : (backTo pos (starEach es X.env)).any (·.1) = false := by rfl) :
    PE X (.Call (.Name x p) (e :: es) [] pos) (fun σ H Q => t σ H fun vs H1 => ∀ y dy, H1 y = none → H1 dy = none → dy ≠ y →
      sp (.ref y :: (vs ++ dvs)) (upd (upd H1 dy (.own y)) y (.ins C dy [])) (fun v H2 => v = .non ∧ Q (.ref y) H2) (E σ)) := by
  refine ⟨fun pins s σ H Q I h => ?_⟩
  refine wpAny_Call_Name_kw (ld_glob I hg hm (PySem.W.callWith_K (h₀ := X.base) I.ok.mod.kin M.kp (thn (ha.run pos pins s σ H _ I h) fun us s1 ⟨vs, H1, I1, r, q⟩ => ⟨I1.kIn, ?_⟩) he hpl) hdb)
  have hq := q (s1.heap.objs.size + 1) s1.heap.objs.size (I1.hok.fresh (Nat.le_succ _)) (I1.hok.fresh (Nat.le_refl _)) (Nat.ne_of_lt (Nat.lt_succ_self _))
  have J := Inv.made (C := C) I1
  have rr : Vals (V.ref (s1.heap.objs.size + 1) :: (vs ++ dvs)) (Value.ref (s1.heap.objs.size + 1) :: (us ++ ds)) := .cons rfl (r.append hd)
  have hl : (Value.ref (s1.heap.objs.size + 1) :: us ++ ds).length = ps.length := rr.length.symm.trans (F.len _ _ _ _ hq)
  refine wpAny_call (make_map (f := f) I1.kIn M.makes M.init (beq_iff_eq.mp M.fn) (codeAny_mono (F.run _ X.stack _ _ ⟨Value.ref (s1.heap.objs.size + 1) :: us, []⟩ (Value.ref (s1.heap.objs.size + 1) :: (us ++ ds)) _ _ (E σ) (hr.make C us [])
    (J.env0.make C us []) (hb _ (Value.ref (s1.heap.objs.size + 1) :: us) J.kIn hl) rr hq) fun r' s' hq' => ?_))
  cases r' with
  | error e => exact hx σ pins _ _ e s' J hq'
  | ok fl => cases fl with
    | ret u =>
      obtain ⟨v, H', I3, rv, rfl, q3⟩ := J.after hq'
      exact ⟨rv, ⟨V.ref (s1.heap.objs.size + 1), H', I3, rfl, q3⟩⟩
    | next => exact False.elim hq'
    | brk => exact False.elim hq'
    | cont => exact False.elim hq'
end

/-! ### a list or a tuple -/
def SqV (K : PySem.W.Frag) (H : Hp) (a : Addr) (xs : List V) : Prop := SqL K H a xs ∨ SqT K H a xs
theorem SqV.same {K : PySem.W.Frag} {H H' : Hp} {a : Addr} {xs : List V} (h : SqV K H a xs) (e : Same H H') : SqV K H' a xs := h.elim (fun q => .inl (e.seq q)) fun q => .inr (Same.seqT e q)
def iSeq (K : PySem.W.Frag) (tl : TE) : TI := fun σ H R => tl σ H fun x H1 => ∃ a, x = .ref a ∧ (((∃ xs, SqL K H1 a xs) ∧ R (Itl K a) H1) ∨ ((∃ xs, SqT K H1 a xs) ∧ R (Itt K a) H1))
theorem pi_seq {X : Cx} {tg l : Expr} {tl : TE} (hl : PE X l tl) : PI X tg l (iSeq X.K tl) := by
  refine ⟨fun pins s σ H R I h => thn (hl.run pins s σ H _ I h) fun v s1 ⟨x, H1, I1, r1, q1⟩ => ?_⟩
  obtain ⟨a, rfl, q⟩ := q1
  cases r1
  rcases q with ⟨⟨xs, hq⟩, q⟩ | ⟨⟨xs, hq⟩, q⟩
  · obtain ⟨its, rv, p, hz⟩ := I1.list hq
    refine wpAny_pyIter_list p.isList ⟨s1.heap.objs.size, [s1.heap.objs.size], _, _, H1, rfl, I1.kept (t' := s1.toks) fun b o e => Heap.get?_push_of_some _ e, turn_list a _, ⟨_, Heap.get?_push_size _ rfl, rfl, rfl⟩, fun b hb => ?_, q⟩
    obtain rfl : b = s1.heap.objs.size := by simpa using hb
    exact I1.fpOk (Nat.le_refl _) (I1.hok.fresh (Nat.le_refl _))
  · obtain ⟨its, rv, p, hz⟩ := I1.tuple hq
    refine wpAny_pyIter_tuple (show s1.heap.IsTuple a its.toArray from p) ⟨s1.heap.objs.size, [s1.heap.objs.size], _, _, H1, rfl, I1.kept (t' := s1.toks) fun b o e => Heap.get?_push_of_some _ e, turn_tuple a _, ⟨_, Heap.get?_push_size _ rfl, rfl, rfl⟩, fun b hb => ?_, q⟩
    obtain rfl : b = s1.heap.objs.size := by simpa using hb
    exact I1.fpOk (Nat.le_refl _) (I1.hok.fresh (Nat.le_refl _))
/-- a comprehension over either -/
theorem lc_seq {K : PySem.W.Frag} {a : Addr} {xs : List V} {g : TG} {tt : TT} {te : TE} {vs : List Nat} {σ : L2.St} {H1 : Hp} {Q : Addr → Hp → Prop} (h : SqV K H1 a xs) (Pv : Addr → Nat → Hp → Prop) (h0 : ∀ D, H1 D = none → Pv D 0 (upd H1 D (.lst [])))
    (hl : ∀ D i H, H1 D = none → i ≤ xs.length → Pv D i H → Same H1 H)
    (hs : ∀ D i x H, H1 D = none → xs[i]? = some x → Pv D i H → g x (wipe σ vs) H fun σ2 H2 => wipe σ2 vs = wipe σ vs ∧ tt σ2 H2 fun b H3 =>
      if b = true then te σ2 H3 fun y H4 => ∃ acc, H4 D = some (.lst acc) ∧ acc.length < sizeLine ∧ Pv D (i + 1) (upd H4 D (.lst (acc ++ [y]))) else Pv D (i + 1) H3) (hd : ∀ D H, H1 D = none → Pv D xs.length H → Q D H) :
    ((∃ xs, SqL K H1 a xs) ∧ ∀ D, H1 D = none → ∃ W : Nat → Nat → Hp → Prop, (∃ m, W 0 m (upd H1 D (.lst []))) ∧ ∀ i m H, W i m H →
      ((Itl K a).stop i H ∧ Q D H) ∨ ((Itl K a).go i H ∧ ∃ Nx : Hp → Prop, (∀ H', Nx H' → ∃ m', m' < m ∧ W (i + 1) m' H') ∧ ∀ x H', (Itl K a).yld i H x H' → g x (wipe σ vs) H' fun σ2 H2 => wipe σ2 vs = wipe σ vs ∧ tt σ2 H2 fun b H3 =>
        if b = true then te σ2 H3 fun y H4 => ∃ acc, H4 D = some (.lst acc) ∧ acc.length < sizeLine ∧ Nx (upd H4 D (.lst (acc ++ [y]))) else Nx H3)) ∨
    ((∃ xs, SqT K H1 a xs) ∧ ∀ D, H1 D = none → ∃ W : Nat → Nat → Hp → Prop, (∃ m, W 0 m (upd H1 D (.lst []))) ∧ ∀ i m H, W i m H →
      ((Itt K a).stop i H ∧ Q D H) ∨ ((Itt K a).go i H ∧ ∃ Nx : Hp → Prop, (∀ H', Nx H' → ∃ m', m' < m ∧ W (i + 1) m' H') ∧ ∀ x H', (Itt K a).yld i H x H' → g x (wipe σ vs) H' fun σ2 H2 => wipe σ2 vs = wipe σ vs ∧ tt σ2 H2 fun b H3 =>
        if b = true then te σ2 H3 fun y H4 => ∃ acc, H4 D = some (.lst acc) ∧ acc.length < sizeLine ∧ Nx (upd H4 D (.lst (acc ++ [y]))) else Nx H3)) := by
  rcases h with h | h
  · exact .inl ⟨⟨xs, h⟩, fun D nD => lc_list (xs := xs) (Pv D) (h0 D nD) (fun i H hi p => (hl D i H nD hi p).seq h) (fun i x H e p => hs D i x H nD e p) fun H p => hd D H nD p⟩
  · exact .inr ⟨⟨xs, h⟩, fun D nD => lc_tup (xs := xs) (Pv D) (h0 D nD) (fun i H hi p => Same.seqT (hl D i H nD hi p) h) (fun i x H e p => hs D i x H nD e p) fun H p => hd D H nD p⟩
/-- the same as an expression's rule -/
def MonoE (t : TE) : Prop := ∀ σ H (Q Q' : VK), (∀ x H1, Q x H1 → Q' x H1) → t σ H Q → t σ H Q'
theorem mono_var {i : Nat} : MonoE (tVar i) := fun _ _ _ _ h ⟨v, e, q⟩ => ⟨v, e, h _ _ q⟩
def tLcS (K : PySem.W.Frag) (tl : TE) (g : TG) (tt : TT) (te : TE) (vs : List Nat) : TE := fun σ H Q => tl σ H fun x H1 => ∃ (a : Addr) (xs : List V) (Pv : Addr → Nat → Hp → Prop), x = .ref a ∧ SqV K H1 a xs ∧ (∀ D, H1 D = none → Pv D 0 (upd H1 D (.lst []))) ∧
  (∀ D i H2, H1 D = none → i ≤ xs.length → Pv D i H2 → Same H1 H2) ∧
  (∀ D i x H2, H1 D = none → xs[i]? = some x → Pv D i H2 → g x (wipe σ vs) H2 fun σ2 H2 => wipe σ2 vs = wipe σ vs ∧ tt σ2 H2 fun b H3 =>
    if b = true then te σ2 H3 fun y H4 => ∃ acc, H4 D = some (.lst acc) ∧ acc.length < sizeLine ∧ Pv D (i + 1) (upd H4 D (.lst (acc ++ [y]))) else Pv D (i + 1) H3) ∧
  (∀ D H2, H1 D = none → Pv D xs.length H2 → Q (.ref D) H2)
theorem pe_lcS {X : Cx} {elt tg l : Expr} {ifs : List Expr} {scope : Scope} {own : List (Str × Nat)} {pos : Pos} {tl : TE} {g : TG} {tt : TT} {te : TE} (hc : X.calm = true) (hN : X.N.Nodup) (hl : PE X l tl) (mo : MonoE tl) (ok : BlkOk X.N X.env.scope scope own)
    (hg : ∀ (s : Shared) (H : Hp) (C : Addr) (cl : List (Str × Addr)) (fp : List Addr), PG (X.blk s H scope (compEnvC scope cl C X.env) fp) tg g) (ht : ∀ (s : Shared) (H : Hp) (C : Addr) (cl : List (Str × Addr)) (fp : List Addr), PTs (X.blk s H scope (compEnvC scope cl C X.env) fp) ifs tt)
    (he : ∀ (s : Shared) (H : Hp) (C : Addr) (cl : List (Str × Addr)) (fp : List Addr), PE (X.blk s H scope (compEnvC scope cl C X.env) fp) elt te) (hs : ∀ x, foldedSetIterable l X.env x = pure x := by intro _; rfl) :
    PE X (.ListComp elt [⟨tg, l, ifs, 0⟩] scope pos) (tLcS X.K tl g tt te (own.map (·.2))) := by
  refine (pe_lc hc hN (pi_seq hl) ok hg ht he hs).imp fun σ H Q q => mo _ _ _ _ (fun x H1 q => ?_) q
  obtain ⟨a, xs, Pv, rfl, hS, h0, hk, hst, hd⟩ := q
  exact ⟨a, rfl, lc_seq (g := g) (tt := tt) (te := te) (vs := own.map (·.2)) (σ := σ) (Q := fun D H2 => Q (.ref D) H2) hS Pv h0 hk hst hd⟩
/-- for i, x in enumerate(list) -/
theorem for_enum {K : PySem.W.Frag} {a : Addr} {xs : List V} {g : TG} {tb : TS} {D : Ends} {σ : L2.St} {H : Hp} (Pv : Nat → L2.St → Hp → Prop) (h0 : Pv 0 σ H) (hl : ∀ i σ H, i ≤ xs.length → Pv i σ H → SqL K H a xs)
    (hs : ∀ i x T σ H, xs[i]? = some x → Pv i σ H → H T = none → g (.ref T) σ (upd H T (.tup [.int (i : Nat), x])) fun σ2 H2 => tb { D with nx := Pv (i + 1), ct := Pv (i + 1), bk := D.nx } σ2 H2) (hd : ∀ σ H, Pv xs.length σ H → D.nx σ H) :
    ∃ W : Nat → Nat → L2.St → Hp → Prop, (∃ m, W 0 m σ H) ∧ ∀ i m σ H, W i m σ H →
      ((Ite K a).stop i H ∧ D.nx σ H) ∨ ((Ite K a).go i H ∧ ∃ N : L2.St → Hp → Prop, (∀ σ' H', N σ' H' → ∃ m', m' < m ∧ W (i + 1) m' σ' H') ∧ ∀ x H', (Ite K a).yld i H x H' → g x σ H' fun σ2 H2 => tb { D with nx := N, ct := N, bk := D.nx } σ2 H2) := by
  refine ⟨fun i m σ H => m = xs.length - i ∧ i ≤ xs.length ∧ Pv i σ H, ⟨xs.length, by simp, Nat.zero_le _, h0⟩, ?_⟩
  rintro i m σ H ⟨rfl, hi, p⟩
  have q := hl i σ H hi p
  by_cases hlt : i < xs.length
  · refine .inr ⟨⟨xs, xs[i], q, by simp [hlt]⟩, Pv (i + 1), fun σ' H' p' => ⟨xs.length - (i + 1), by omega, rfl, hlt, p'⟩, fun x H' y => ?_⟩
    obtain ⟨T, z, rfl, nT, rfl, f⟩ := y
    exact hs i z T σ H (f xs q) p nT
  · obtain rfl : i = xs.length := by omega
    exact .inl ⟨⟨xs, q, Nat.le_refl _⟩, hd σ H p⟩

/-! ### data: what a thing is, whatever it may be -/
inductive Dt where
  | non | bl (b : Bool) | int (i : Int) | str (s : Str) | lst (l : List Dt) | tup (l : List Dt) | dct (l : List (Key × Dt))
mutual
inductive Rp (K : PySem.W.Frag) (H : Hp) : V → Dt → Prop
  | non : Rp K H .non .non
  | bl (b : Bool) : Rp K H (.bl b) (.bl b)
  | int (i : Int) : Rp K H (.int i) (.int i)
  | str (x : Str) : Rp K H (.str x) (.str x)
  | lst {a : Addr} {xs : List V} {ds : List Dt} : SqL K H a xs → RpL K H xs ds → Rp K H (.ref a) (.lst ds)
  | tup {a : Addr} {xs : List V} {ds : List Dt} : SqT K H a xs → RpL K H xs ds → Rp K H (.ref a) (.tup ds)
  | dct {a : Addr} {kvs : List (Key × V)} {ds : List (Key × Dt)} : H a = some (.dK kvs) → RpD K H kvs ds → Rp K H (.ref a) (.dct ds)
inductive RpL (K : PySem.W.Frag) (H : Hp) : List V → List Dt → Prop
  | nil : RpL K H [] []
  | cons {v : V} {vs : List V} {d : Dt} {ds : List Dt} : Rp K H v d → RpL K H vs ds → RpL K H (v :: vs) (d :: ds)
inductive RpD (K : PySem.W.Frag) (H : Hp) : List (Key × V) → List (Key × Dt) → Prop
  | nil : RpD K H [] []
  | cons {k : Key} {v : V} {vs : List (Key × V)} {d : Dt} {ds : List (Key × Dt)} : Rp K H v d → RpD K H vs ds → RpD K H ((k, v) :: vs) ((k, d) :: ds)
end
section
variable {K : PySem.W.Frag} {H H' : Hp}
mutual
theorem Rp.same (s : Same H H') : ∀ {v : V} {d : Dt}, Rp K H v d → Rp K H' v d
  | _, _, .non => .non
  | _, _, .bl b => .bl b
  | _, _, .int i => .int i
  | _, _, .str x => .str x
  | _, _, .lst h r => .lst (s.seq h) (RpL.same s r)
  | _, _, .tup h r => .tup (Same.seqT s h) (RpL.same s r)
  | _, _, .dct h r => .dct (s _ _ h) (RpD.same s r)
theorem RpL.same (s : Same H H') : ∀ {v : List V} {d : List Dt}, RpL K H v d → RpL K H' v d
  | _, _, .nil => .nil
  | _, _, .cons h r => .cons (Rp.same s h) (RpL.same s r)
theorem RpD.same (s : Same H H') : ∀ {v : List (Key × V)} {d : List (Key × Dt)}, RpD K H v d → RpD K H' v d
  | _, _, .nil => .nil
  | _, _, .cons h r => .cons (Rp.same s h) (RpD.same s r)
end
theorem RpL.length : ∀ {v : List V} {d : List Dt}, RpL K H v d → v.length = d.length
  | _, _, .nil => rfl
  | _, _, .cons _ r => congrArg (· + 1) (RpL.length r)
theorem RpL.get : ∀ {v : List V} {d : List Dt} {i : Nat} {x : V}, RpL K H v d → v[i]? = some x → ∃ y, d[i]? = some y ∧ Rp K H x y
  | _, _, _, _, .nil, e => by simp at e
  | _, _, 0, _, .cons h _, e => by
    obtain rfl := Option.some.inj e
    exact ⟨_, rfl, h⟩
  | _, _, i + 1, x, .cons _ r, e => RpL.get (i := i) (x := x) r e
/-- the things that are lists or tuples -/
def Dt.items : Dt → Option (List Dt)
  | .lst l => some l
  | .tup l => some l
  | _ => none
theorem ty_list {a : Addr} {xs : List V} (h : SqL K H a xs) : TyX K H (.ref a) (.type "list") := by
  rcases h with (h | ⟨o, h⟩) | ⟨o, its, n, e, c, _⟩
  · exact .base (.lst h)
  · exact .base (.frz h)
  · exact .kList e c
theorem ty_tuple {a : Addr} {xs : List V} (h : SqT K H a xs) : TyX K H (.ref a) (.type "tuple") := by
  rcases h with (h | ⟨o, h⟩) | ⟨o, its, n, e, c, _⟩
  · exact .base (.tup h)
  · exact .fTuple h
  · exact .kTuple e c
/-- the name of a thing's class -/
def Dt.ty : Dt → String
  | .non => "NoneType"
  | .bl _ => "bool"
  | .int _ => "int"
  | .str _ => "str"
  | .lst _ => "list"
  | .tup _ => "tuple"
  | .dct _ => "dict"
theorem Rp.ty {v : V} {d : Dt} (r : Rp K H v d) : TyX K H v (.type d.ty) := by
  cases r with
  | non => exact .base .non
  | bl b => exact .base (.bl b)
  | int i => exact .base (.int i)
  | str x => exact .base (.str x)
  | lst h _ => exact ty_list h
  | tup h _ => exact ty_tuple h
  | dct h _ => exact .base (.dK h)
theorem Rp.items_some {v : V} {d : Dt} {l : List Dt} (r : Rp K H v d) (e : d.items = some l) : ∃ a xs, v = .ref a ∧ SqV K H a xs ∧ RpL K H xs l := by
  cases r with
  | lst h q =>
    obtain rfl := Option.some.inj e
    exact ⟨_, _, rfl, .inl h, q⟩
  | tup h q =>
    obtain rfl := Option.some.inj e
    exact ⟨_, _, rfl, .inr h, q⟩
  | _ => cases e
end
/-- isinstance of a thing, of one built-in class -/
def Dt.isInt : Dt → Bool
  | .bl _ => true
  | .int _ => true
  | _ => false
def Dt.isBool : Dt → Bool
  | .bl _ => true
  | _ => false
def Dt.isList : Dt → Bool
  | .lst _ => true
  | _ => false
def Dt.isTuple : Dt → Bool
  | .tup _ => true
  | _ => false
theorem isa_int : ∀ d : Dt, kitB d.ty "int" = some d.isInt
  | .non => show kitB "NoneType" "int" = some false by decide +kernel
  | .bl _ => show kitB "bool" "int" = some true by decide +kernel
  | .int _ => show kitB "int" "int" = some true by decide +kernel
  | .str _ => show kitB "str" "int" = some false by decide +kernel
  | .lst _ => show kitB "list" "int" = some false by decide +kernel
  | .tup _ => show kitB "tuple" "int" = some false by decide +kernel
  | .dct _ => show kitB "dict" "int" = some false by decide +kernel
theorem isa_bool : ∀ d : Dt, kitB d.ty "bool" = some d.isBool
  | .non => show kitB "NoneType" "bool" = some false by decide +kernel
  | .bl _ => show kitB "bool" "bool" = some true by decide +kernel
  | .int _ => show kitB "int" "bool" = some false by decide +kernel
  | .str _ => show kitB "str" "bool" = some false by decide +kernel
  | .lst _ => show kitB "list" "bool" = some false by decide +kernel
  | .tup _ => show kitB "tuple" "bool" = some false by decide +kernel
  | .dct _ => show kitB "dict" "bool" = some false by decide +kernel
theorem isa_list : ∀ d : Dt, kitB d.ty "list" = some d.isList
  | .non => show kitB "NoneType" "list" = some false by decide +kernel
  | .bl _ => show kitB "bool" "list" = some false by decide +kernel
  | .int _ => show kitB "int" "list" = some false by decide +kernel
  | .str _ => show kitB "str" "list" = some false by decide +kernel
  | .lst _ => show kitB "list" "list" = some true by decide +kernel
  | .tup _ => show kitB "tuple" "list" = some false by decide +kernel
  | .dct _ => show kitB "dict" "list" = some false by decide +kernel
theorem isa_tuple : ∀ d : Dt, kitB d.ty "tuple" = some d.isTuple
  | .non => show kitB "NoneType" "tuple" = some false by decide +kernel
  | .bl _ => show kitB "bool" "tuple" = some false by decide +kernel
  | .int _ => show kitB "int" "tuple" = some false by decide +kernel
  | .str _ => show kitB "str" "tuple" = some false by decide +kernel
  | .lst _ => show kitB "list" "tuple" = some false by decide +kernel
  | .tup _ => show kitB "tuple" "tuple" = some true by decide +kernel
  | .dct _ => show kitB "dict" "tuple" = some false by decide +kernel
theorem isa_seq {K : PySem.W.Frag} (d : Dt) : PySem.W.kitAny K (.type d.ty) [.type "list", .type "tuple"] = some d.items.isSome := by
  refine kitAny_cons (kit_ty (isa_list d)) (fun e => kitAny_cons (kit_ty (isa_tuple d)) (fun e2 => ?_) fun e2 => ?_) fun e => ?_
  · cases d <;> first | rfl | (cases e; done) | (cases e2; done)
  · cases d <;> first | rfl | cases e2
  · cases d <;> first | rfl | cases e

/-! ### the program's exception classes -/
abbrev veMro : List Value := [.type "ValueError", .type "Exception", .type "BaseException", .type "object"]
structure ExcF (K : PySem.W.Frag) (mg : Str → Option Value) (nm : Str) (C TE : Addr) : Prop where
  g : mg nm = some (.ref C)
  x : PySem.W.excIn K C veMro "ValueError.__new__" = true
  k : PySem.W.keepIn K (.ref C) = true
  t : PySem.W.typeIn K (.ref C) = some (.type "type")
  c : ExcC K C
  m : ∃ cd, PySem.W.clsIn K C = some cd ∧ cd.mro = .ref C :: .ref TE :: veMro
structure ExcB (K : PySem.W.Frag) (mg : Str → Option Value) (nm : Str) (TE : Addr) : Prop where
  g : mg nm = some (.ref TE)
  t : PySem.W.typeIn K (.ref TE) = some (.type "type")
  i : PySem.W.isClsIn K TE = true
  b : PySem.W.subIn K (.ref TE) (.type "BaseException") = some true
section
variable {K : PySem.W.Frag} {mg : Str → Option Value} {n n' : Str} {C D TE : Addr}
theorem ExcF.b (F : ExcF K mg n C TE) : PySem.W.subIn K (.ref C) (.type "BaseException") = some true := F.c.hs
theorem ExcF.is (F : ExcF K mg n C TE) : (PySem.W.clsIn K C).isSome = true := let ⟨cd, e, _⟩ := F.m; by rw [e]; rfl
theorem ExcF.sub (F : ExcF K mg n D TE) (v : Value) : PySem.W.subIn K (.ref D) v = some ((Value.ref D :: .ref TE :: veMro).contains v) := by
  obtain ⟨cd, e, m⟩ := F.m
  show PySem.W.mroIn K D v = _
  unfold PySem.W.mroIn
  rw [e, Option.bind_some, m]
  rfl
theorem kitCls_own (F : ExcF K mg n D TE) (h1 : (PySem.W.clsIn K C).isSome = true) (h2 : PySem.W.typeIn K (.ref C) = some (.type "type")) : PySem.W.kitCls K (.ref D) (.ref C) = some (decide (C = D) || decide (C = TE)) := by
  show (if ((PySem.W.clsIn K C).isSome && PySem.W.typeIn K (.ref C) == some (.type "type")) = true then PySem.W.subIn K (.ref D) (.ref C) else none) = _
  rw [h1, h2, if_pos (by rfl), F.sub]
  congr 1
  have e : ∀ a b : Addr, (Value.ref a == Value.ref b) = decide (a = b) := fun a b => by
    by_cases q : a = b
    · subst q
      simp
    · have : ¬ Value.ref a = Value.ref b := fun z => q (Value.ref.inj z)
      simp [q]
  rw [List.contains_cons, List.contains_cons, e, e, show veMro.contains (Value.ref C) = false from rfl, Bool.or_false]
theorem kit_own (F : ExcF K mg n D TE) (h1 : (PySem.W.clsIn K C).isSome = true) (h2 : PySem.W.typeIn K (.ref C) = some (.type "type")) : PySem.W.kitOne K (.ref D) (.ref C) = some (decide (C = D) || decide (C = TE)) := by
  unfold PySem.W.kitOne
  by_cases q : D = C
  · subst q
    simp
  · rw [if_neg (by simpa using fun z => q z)]
    exact kitCls_own F h1 h2
theorem exm_own (F : ExcF K mg n D TE) (h1 : (PySem.W.clsIn K C).isSome = true) (h2 : PySem.W.typeIn K (.ref C) = some (.type "type")) (h3 : PySem.W.subIn K (.ref C) (.type "BaseException") = some true) : PySem.W.exmOne K (.ref D) (.ref C) = some (decide (C = D) || decide (C = TE)) := by
  unfold PySem.W.exmOne
  rw [h3, if_pos (by rfl)]
  exact kitCls_own F h1 h2
theorem kit_VE (F : ExcF K mg n D TE) : PySem.W.kitOne K (.ref D) (.type "ValueError") = some true := by
  unfold PySem.W.kitOne
  rw [if_neg (by simp)]
  show (if PySem.W.kitMeta "ValueError" = true then PySem.W.subIn K (.ref D) (.type "ValueError") else none) = _
  rw [if_pos (by decide +kernel), F.sub]
  rfl
end
/-- isinstance(e, C) of an exception of one of these classes, C one of them -/
theorem pe_isC {X : Cx} {n : Str} {C TE : Addr} {i : Nat} {x : Str} {p p1 p2 pos : Pos} (G : ExcF X.K X.mg n C TE) (hne : C ≠ TE) (hv : PE X (.Name x p1) (tVar i)) (hc : PE X (.Name n p2) (tC (.ref C))) (hg : Gl X "isinstance") (hm : X.mg "isinstance" = none)
    (he : starEach [.Name x p1, .Name n p2] X.env = (false, eval (.Name x p1) X.env) :: starEach [.Name n p2] X.env := by rfl) (he2 : starEach [.Name n p2] X.env = (false, eval (.Name n p2) X.env) :: starEach [] X.env := by rfl) (hpl : (backTo pos (starEach [.Name n p2] X.env)).any (·.1) = false := by rfl) :
    PE X (.Call (.Name "isinstance" p) [.Name x p1, .Name n p2] [] pos) (fun σ H Q => ∃ (a D : Addr) (m : Str), σ[i]? = some (some (.ref a)) ∧ ExAt H a D ∧ ExcF X.K X.mg m D TE ∧ Q (.bl (decide (C = D))) H) := by
  refine (pe_callB call_isX hg hm (by decide +kernel) (pa_cons hv (pa_cons hc pa_nil he2) he) (by decide) (by decide) he hpl).imp fun σ H Q ⟨a, D, m, e, E, F, q⟩ => ?_
  exact ⟨_, e, a, D, _, _, _, rfl, .own C, E, F.c, kit_own F G.is G.t, by rw [decide_eq_false hne, Bool.or_false]; exact q⟩

/-! ### rules whose reading names the written part, for suites -/
theorem call_isXK {X : Cx} {K : PySem.W.Frag} (hK : X.K = K) : CallR X (.builtin "isinstance") (rIsX K) := hK ▸ call_isX
theorem op_eqDK {X : Cx} {K : PySem.W.Frag} (hK : X.K = K) (hu : X.A.units + 64 < cLine) : OpR X (compareOp .Eq) (rEqD K) := hK ▸ op_eqD hu
theorem op_neDK {X : Cx} {K : PySem.W.Frag} (hK : X.K = K) (hu : X.A.units + 64 < cLine) : OpR X (compareOp .NotEq) (rNeD K) := hK ▸ op_neD hu

/-! ### the end, the loose names told -/
theorem walk_ofG {l : PySem.W.OpenLaw} {n k : Nat} {q : Program} {loose : List Str} {lv : List (Str × PySem.W.WData)} {qp : Program} {YP : World → Heap → Prop} {d : DefRec} {K : Params → PySem.W.Frag} {CX : World → CXT} {sp : World → Sp} {x : Str}
    (hn : l.most = some n) (hn2 : n ≤ sizeLine) (hdf : d.params.defaults = []) (hr : Room k callerA) (hY : ∀ (w : World) (h : Heap), YP w h → (K w.params).In h)
    (F : ∀ (w : World) (mg : Str → Option Value) (fa : Addr) (h : Heap), (K w.params).In h → h.Ns mainGlobals mg → PySem.W.LooseAre lv mg h → mg d.name = some (.ref fa) →
      ∃ fd : FuncData, (∀ (s : Shared) (u : Value), BindsTo s fd ⟨[u], []⟩ [(x, u)]) ∧ ∀ base : Heap, (K w.params).In base → base.Ns mainGlobals mg → FnOk l.prog w (K w.params) mg base (CX w) k fa fd [x] (sp w))
    (hsp : ∀ (w : World) (H : Hp) (a : Addr) (ns : List Int), ns.length ≤ n → (∀ z ∈ ns, Builtin.Int.intBits z ≤ 1048576) → Only H → SqL (K w.params) H a (ns.map V.int) → sp w [.ref a] H (fun v _ => v = .bl true) fun _ _ _ => False)
    (hCX : ∀ (w : World) (H : Hp) (s : Shared) (e : Value) (s' : Shared), CX w [] H s (fun _ _ _ => False) e s' → False) :
    PySem.W.WalkO q loose (PySem.W.XL qp lv) YP l.row.toRowW d [] (fun f vs => PySem.call f vs) := by
  refine Att.attach_callB hn hdf fun w s₀ s₁ mg mb fa o pm cd doc a vs ns G Y ho hd hcd hmg hobj hints hlen hbits hg => ?_
  obtain ⟨fd, hb, hF⟩ := F w mg fa _ (hY w _ Y) G.T.g G.X.2 hmg
  exact law_call (hY w _ Y) G.T.g G.T.b G.T.builtins G.T.nolimit hg hobj hints (Nat.le_trans hlen hn2) hr hF hb (fun H hO hS => hsp w H a ns hlen hbits hO hS) fun H e s' => hCX w H s₁ e s'
theorem loose_int {lv : List (Str × PySem.W.WData)} {mg : Str → Option Value} {h : Heap} {x : Str} {i : Int} (L : PySem.W.LooseAre lv mg h) (hm : (x, PySem.W.WData.int i) ∈ lv) : ∃ t, mg x = some (.int i t) := by
  obtain ⟨v, e, r⟩ := L.val _ hm
  cases r
  exact ⟨_, e⟩
end Vf
set_option Elab.async false
set_option linter.all false
set_option maxRecDepth 100000
set_option maxHeartbeats 4000000
/-! repr of data: it asks that no repr is under way, so the defs that use it are promised with that in hand. -/
namespace Vf
open PySem PySem.Spec PyProof.Rows L2

/-! ### defs that may use repr -/
structure RoomG (k : Nat) (A : Around) : Prop where
  r : Room k A
  g : A.guards = some []
theorem RoomG.mono {j k : Nat} {A : Around} (h : RoomG k A) (e : j ≤ k) : RoomG j A := ⟨h.r.mono e, h.g⟩
theorem RoomG.deeper {k : Nat} {A : Around} (h : RoomG (k + 1) A) (env : Env) : RoomG k (A.deeper env) := ⟨h.r.deeper env, h.g⟩
structure FnG (P : Program) (w : World) (K : PySem.W.Frag) (mg : Str → Option Value) (base : Heap) (k : Nat) (f : Addr) (fd : FuncData) (ps : List Str) (sp : Sp) : Prop where
  len : ∀ vs H Q E, sp vs H Q E → vs.length = ps.length
  run : ∀ (A : Around) (outer : List Env) (s : Shared) (H : Hp) (args : Args) (us : List Value) (vs : List V) (Q : VK) (E : XK), RoomG k A → Env0 P w K mg base A outer s H → BindsTo s fd args (ps.zip us) → Vals vs us → sp vs H Q E →
    codeAny (model P w) A (.call (.ref f) args) (CR CX0 outer P w H s Q E) s
section
variable {P : Program} {w : World} {K : PySem.W.Frag} {mg : Str → Option Value} {base : Heap} {k : Nat} {f : Addr} {fd : FuncData} {ps N : List Str} {sp : Sp}
theorem fn_ofG {name qual : Str} {params : Arguments} {body : List Stmt} {scope : Scope} {dV kV doc pm cdv ct oc : Value} {an od : Option Addr} {osl : Array (Option Value)}
    (lk : K.lookup f = some ⟨oc, od, .func (PySem.W.fnOf name qual params body scope dV kV doc pm an cdv ct), osl⟩) (hcd : PySem.W.codeIn K cdv qual = true) (S : FnScope N ps scope) (len : ∀ vs H Q E, sp vs H Q E → vs.length = ps.length)
    (hbody : ∀ (A : Around) (outer : List Env) (s : Shared) (H : Hp) (vs : List V) (Q : VK) (E : XK), RoomG k (A.deeper (envOfC qual scope s.heap.objs.size f cdv)) → sp vs H Q E →
      ∃ t, PSs (cxOf CX0 P w K mg base N qual scope f cdv A outer s H E).nox body t ∧ t { nx := fun _ H' => Q .non H', rt := Q } (L2.start N vs) H) :
    FnG P w K mg base (k + 1) f (PySem.W.fnOf name qual params body scope dV kV doc pm an cdv ct) ps sp := by
  refine ⟨len, fun A outer s H args us vs Q E room e0 hb rv hsp => ?_⟩
  have kx : K.In s.heap := e0.mod.kin.keeps fun b o e => (e0.bs b o e).1
  have nolim : s.heap.NoLimit := e0.mod.nolimit.keeps fun b o e => (e0.bs b o e).1
  refine codeAny_call_function room.r.depth (kx _ _ lk) rfl S.co S.gen rfl (PySem.W.codeRec_of kx hcd) (hb _ _ _ _ (wpAny_newFunctionEnv_cells S.kind (fun ⟨n, v⟩ hy => ?_) fun env he s1 x => ?_))
  · rcases S.par n (List.of_mem_zip hy).1 with q | q
    · exact .inl q
    · exact .inr ⟨q, PySem.W.cellsFrom_some _ _ _ (.inl q)⟩
  subst he
  refine ⟨nolim.keeps x.toInCall.keep, codeAny_func ?_⟩
  obtain ⟨t, ht, hq⟩ := hbody A outer s H vs Q E (room.deeper _) hsp
  have I := inv_start (CX := CX0) (E := E) (A := A) S room.r.hd e0 (len _ _ _ _ hsp) rv x
  refine wpAny_mono (ht.nox.run [] s1 (L2.start N vs) H _ I hq) (fun fl s' hs => ?_) fun e s' z => z
  cases fl with
  | ret u => exact let ⟨v, σ', H', J, r2, q⟩ := hs; (⟨v, H', J.os, J.bare, J.base, J.hok, r2, q⟩ : CE outer P w H s Q u s')
  | next => exact let ⟨σ', H', J, q⟩ := hs; (⟨V.non, H', J.os, J.bare, J.base, J.hok, rfl, q⟩ : CE outer P w H s Q .none s')
  | brk => exact let ⟨_, _, _, q⟩ := hs; False.elim q
  | cont => exact let ⟨_, _, _, q⟩ := hs; False.elim q
theorem funOkG {x qual : Str} {st : Stmt} (F : Fun K x qual st f fd) (S : FnScope N ps (defScope st)) (len : ∀ vs H Q E, sp vs H Q E → vs.length = ps.length)
    (hbody : ∀ (cdv : Value) (A : Around) (outer : List Env) (s : Shared) (H : Hp) (vs : List V) (Q : VK) (E : XK), RoomG k (A.deeper (envOfC qual (defScope st) s.heap.objs.size f cdv)) → sp vs H Q E →
      ∃ t, PSs (cxOf CX0 P w K mg base N qual (defScope st) f cdv A outer s H E).nox (defBody st) t ∧ t { nx := fun _ H' => Q .non H', rt := Q } (L2.start N vs) H) : FnG P w K mg base (k + 1) f fd ps sp := by
  obtain ⟨oc, od, kV, doc, pm, an, cdv, ct, osl, rfl, lk, hcd⟩ := F.ex
  exact fn_ofG lk hcd S len fun A outer s H vs Q E => hbody cdv A outer s H vs Q E
end
structure CalG (P : Program) (w : World) (K : PySem.W.Frag) (mg : Str → Option Value) (base : Heap) (k : Nat) (x : Str) (ps : List Str) (sp : Sp) : Prop where
  ex : ∃ (f : Addr) (fd : FuncData), mg x = some (.ref f) ∧ PySem.W.keepIn K (.ref f) = true ∧ Binds K fd ps [] ∧ FnG P w K mg base k f fd ps sp
theorem pe_calG {X : Cx} {k : Nat} {ps : List Str} {sp : Sp} {x : Str} {p pos : Pos} {e : Expr} {es : List Expr} {t : TA} (c : CalG X.prog X.w X.K X.mg X.base k x ps sp) (hr : RoomG k X.A) (hg : Gl X x) (ha : PA X (e :: es) t) (hdb : (x == ("__debug__" : Str)) = false := by decide)
    (he : starEach (e :: es) X.env = (false, eval e X.env) :: starEach es X.env := by rfl) (hpl : (backTo pos (starEach es X.env)).any (·.1) = false := by rfl) : PE X (.Call (.Name x p) (e :: es) [] pos) (tCal sp E0 t) := by
  obtain ⟨f, fd, hm, hk, hb, F⟩ := c.ex
  refine ⟨fun pins s σ H Q I h => ?_⟩
  refine wpAny_Call_Name_kw (ld_glob I hg hm (PySem.W.callWith_K (h₀ := X.base) I.ok.mod.kin hk (thn (ha.run pos pins s σ H _ I h) fun us s1 ⟨vs, H1, I1, r, q⟩ => ⟨I1.kIn, ?_⟩) he hpl) hdb)
  have b := hb s1 us I1.kIn (by rw [List.append_nil, ← r.length]; exact F.len _ _ _ _ q)
  rw [List.append_nil] at b
  refine wpAny_call (codeAny_mono (F.run X.A X.stack s1 H1 ⟨us, []⟩ us vs Q E0 hr I1.env0 b r q) fun r' s' hq => ?_)
  cases r' with
  | error e => exact False.elim hq
  | ok fl => cases fl with
    | ret u => exact I1.after hq
    | next => exact False.elim hq
    | brk => exact False.elim hq
    | cont => exact False.elim hq

/-! ### the end for such a law -/
theorem law_callG {P : Program} {w : World} {K : PySem.W.Frag} {mg mb : Str → Option Value} {k : Nat} {fa a : Addr} {fd : FuncData} {x : Str} {sp : Sp} {s₁ : Shared} {vs : List Value} {ns : List Int}
    (KX : K.In s₁.heap) (hns : s₁.heap.Ns mainGlobals mg) (hb : s₁.heap.Ns builtinsNs mb) (hbb : ∀ x : Str, x ≠ "__name__" → mb x = bootBuiltins x) (hlim : s₁.heap.NoLimit) (hg : s₁.gens = #[])
    (ha : s₁.heap.get? a = some { cls := .type "list", data := .seq vs.toArray }) (hi : IntsAre vs ns) (hl : ns.length ≤ sizeLine) (hr : RoomG k callerA)
    (F : ∀ base : Heap, K.In base → base.Ns mainGlobals mg → FnG P w K mg base k fa fd [x] sp) (hbind : ∀ (s : Shared) (u : Value), BindsTo s fd ⟨[u], []⟩ [(x, u)])
    (hsp : ∀ H : Hp, Only H → SqL K H a (ns.map V.int) → sp [.ref a] H (fun v _ => v = .bl true) fun _ _ _ => False) :
    codeAny (model P w) callerA (.call (.ref fa) ⟨[.ref a], []⟩) (fun r s' => r = .ok (.ret (.bool true)) ∧ OldK s₁.heap s'.heap ∧ s'.os = s₁.os ∧ AllBare s'.gens) s₁ := by
  have rv := vals_ints hi
  have lv := hi.length
  have go : ∀ H : Hp, Only H → SqL K H a (ns.map V.int) → HOk P w H s₁.heap → (∀ b u, H b = some u → b = a ∧ K.lookup a = none) →
      codeAny (model P w) callerA (.call (.ref fa) ⟨[.ref a], []⟩) (fun r s' => r = .ok (.ret (.bool true)) ∧ OldK s₁.heap s'.heap ∧ s'.os = s₁.os ∧ AllBare s'.gens) s₁ := by
    intro H hO hS hok hA
    have dicts : ∀ {b : Addr} {o : Obj} {es : Array DictEntry} {ep : Nat}, s₁.heap.get? b = some o → o.data = .dict es ep → H b = none := fun {b o es ep} e d => by
      cases q : H b with
      | none => rfl
      | some u =>
        obtain ⟨rfl, _⟩ := hA b u q
        rw [ha] at e
        cases e
        exact nomatch (show Data.seq vs.toArray _ = Data.dict es ep from d)
    have ns' : ∀ {b : Addr} {m : Str → Option Value}, s₁.heap.Ns b m → (hidT s₁.heap H).Ns b m := fun {b m} ⟨o, es, ep, e, d, r⟩ => ⟨o, es, ep, hidT_get e (dicts e d), d, r⟩
    have kin : K.In (hidT s₁.heap H) := fun b o e => hidT_get (KX b o e) (by
      cases q : H b with
      | none => rfl
      | some u =>
        obtain ⟨rfl, z⟩ := hA b u q
        rw [z] at e
        cases e)
    have e0 : Env0 P w K mg (hidT s₁.heap H) callerA [] s₁ H := ⟨rfl, ⟨kin, ns' hns, ⟨mb, ns' hb, hbb⟩, let ⟨mc, h1, h2⟩ := hlim; ⟨mc, ns' h1, h2⟩⟩, fun b o e => of_hidT e, Nat.le_of_eq (hidT_size _ _), trivial, fun b z => absurd (show b ∈ ([] : List Addr) from z) (by simp), hok, .of_eq hg⟩
    refine codeAny_mono ((F _ kin (ns' hns)).run callerA [] s₁ H ⟨[.ref a], []⟩ [.ref a] [.ref a] _ _ hr e0 (hbind s₁ (.ref a)) (.cons rfl .nil) (hsp H hO hS)) fun r s' h => ?_
    cases r with
    | error e => exact False.elim h
    | ok fl => cases fl with
      | next => exact False.elim h
      | brk => exact False.elim h
      | cont => exact False.elim h
      | ret u =>
        obtain ⟨v, H', os, bare, un, hok', r', q⟩ := h
        obtain rfl : v = .bl true := q
        obtain rfl : u = Value.bool true := r'
        refine ⟨rfl, OldK.of_keep fun b o e => ?_, os, bare⟩
        cases q : H b with
        | none => exact un.keep b o e q (fun z => nomatch z) (fun z => nomatch z)
        | some u =>
          rcases hO b with z | ⟨ob, xs, z⟩
          · rw [q] at z
            cases z
          · have e1 := (hok b _ z).1
            rw [e] at e1
            cases e1
            exact (hok' b _ (un.frzs b _ _ z)).1
  cases hk : K.lookup a with
  | some o =>
    have e := KX a o hk
    rw [ha] at e
    cases e
    exact go (fun _ => none) (fun _ => .inl rfl) (.inr ⟨_, vs.toArray, _, hk, rfl, rfl, rfl, by rw [List.size_toArray, lv]; exact hl, by simpa using rv⟩) (fun b u z => nomatch z) fun b u z => nomatch z
  | none =>
    have at_ : ∀ b u, (if b = a then some (HO.frz { cls := .type "list", data := .seq vs.toArray } (.lst (ns.map V.int))) else none) = some u → b = a ∧ u = HO.frz { cls := .type "list", data := .seq vs.toArray } (.lst (ns.map V.int)) := fun b u z => by
      by_cases h : b = a
      · rw [if_pos h] at z
        exact ⟨h, (Option.some.inj z).symm⟩
      · rw [if_neg h] at z
        cases z
    refine go (fun b => if b = a then some (.frz { cls := .type "list", data := .seq vs.toArray } (.lst (ns.map V.int))) else none) (fun b => ?_) (.inl (.inr ⟨_, if_pos rfl⟩)) (fun b u z => ?_) fun b u z => ⟨(at_ b u z).1, hk⟩
    · by_cases h : b = a
      · exact .inr ⟨_, _, if_pos h⟩
      · exact .inl (if_neg h)
    · obtain ⟨rfl, rfl⟩ := at_ b u z
      exact ⟨ha, by rw [List.length_map]; exact hl, vs, _, rv, ha⟩
theorem walk_ofR {l : PySem.W.OpenLaw} {n k : Nat} {q : Program} {loose : List Str} {lv : List (Str × PySem.W.WData)} {qp : Program} {YP : World → Heap → Prop} {d : DefRec} {K : Params → PySem.W.Frag} {sp : World → Sp} {x : Str}
    (hn : l.most = some n) (hn2 : n ≤ sizeLine) (hdf : d.params.defaults = []) (hr : RoomG k callerA) (hY : ∀ (w : World) (h : Heap), YP w h → (K w.params).In h)
    (F : ∀ (w : World) (mg : Str → Option Value) (fa : Addr) (h : Heap), (K w.params).In h → h.Ns mainGlobals mg → PySem.W.LooseAre lv mg h → mg d.name = some (.ref fa) →
      ∃ fd : FuncData, (∀ (s : Shared) (u : Value), BindsTo s fd ⟨[u], []⟩ [(x, u)]) ∧ ∀ base : Heap, (K w.params).In base → base.Ns mainGlobals mg → FnG l.prog w (K w.params) mg base k fa fd [x] (sp w))
    (hsp : ∀ (w : World) (H : Hp) (a : Addr) (ns : List Int), ns.length ≤ n → Only H → SqL (K w.params) H a (ns.map V.int) → sp w [.ref a] H (fun v _ => v = .bl true) fun _ _ _ => False) :
    PySem.W.WalkO q loose (PySem.W.XL qp lv) YP l.row.toRowW d [] (fun f vs => PySem.call f vs) := by
  refine Att.attach_callB hn hdf fun w s₀ s₁ mg mb fa o pm cd doc a vs ns G Y ho hd hcd hmg hobj hints hlen hbits hg => ?_
  obtain ⟨fd, hb, hF⟩ := F w mg fa _ (hY w _ Y) G.T.g G.X.2 hmg
  exact law_callG (hY w _ Y) G.T.g G.T.b G.T.builtins G.T.nolimit hg hobj hints (Nat.le_trans hlen hn2) hr hF hb fun H hO hS => hsp w H a ns hlen hO hS

/-! ### repr -/
def rRepr (K : PySem.W.Frag) : List V → Hp → VK → Prop := fun xs H Q => ∃ (v : V) (d : PyData), xs = [v] ∧ Dp K H v d ∧ d.showable = true ∧ d.hasDict = false ∧ d.depth ≤ 60 ∧ d.shown.length ≤ sizeLine ∧ Q (.str d.shown) H
theorem call_repr {X : Cx} (hg : X.A.guards = some []) (hu : X.A.units + 64 < cLine) : CallR X (.builtin "repr") (rRepr X.K) := by
  intro pins s σ H xs us Q I r h
  obtain ⟨v, d, rfl, D, hs, hD, hd, hz, q⟩ := h
  obtain ⟨u, rfl, ru⟩ := vals1 r
  cases D with
  | non => cases ru; exact PySem.P.repr_of_none ⟨.str _, H, I.tok _, ⟨_, rfl⟩, q⟩
  | bl b =>
    cases ru
    exact PySem.P.repr_of_bool ⟨.str _, H, I.tok _, ⟨_, rfl⟩, q⟩
  | int i =>
    obtain ⟨t, rfl⟩ := ru
    exact PySem.P.repr_of_int (of_decide_eq_true hs) ⟨.str _, H, I.tok _, ⟨_, rfl⟩, q⟩
  | str x =>
    obtain ⟨t, rfl⟩ := ru
    exact PySem.P.repr_of_str ⟨.str _, H, I.tok _, ⟨_, rfl⟩, q⟩ hz
  | @lst a ys ds h1 h2 =>
    cases ru
    obtain ⟨as, R⟩ := Dp.reads I (.list ds) (.ref a) (.ref a) (.lst h1 h2) rfl
    exact repr_of_reads' R hs (fun z => by rw [hD] at z; cases z) hg (by omega) (fun b o e => e) (fun h' u tk k => ⟨.str _, H, I.kept (t' := tk) k, ⟨_, rfl⟩, q⟩) hz
  | @tup a ys ds h1 h2 =>
    cases ru
    obtain ⟨as, R⟩ := Dp.reads I (.tuple ds) (.ref a) (.ref a) (.tup h1 h2) rfl
    exact repr_of_reads' R hs (fun z => by rw [hD] at z; cases z) hg (by omega) (fun b o e => e) (fun h' u tk k => ⟨.str _, H, I.kept (t' := tk) k, ⟨_, rfl⟩, q⟩) hz

/-! ### data that is small enough to be shown -/
mutual
/-- numbers of at most sixty figures, no texts, no dicts; at most n things, d deep -/
def Nice : PyData → Bool
  | .none => true
  | .bool _ => true
  | .int i => decide (i.natAbs < 10 ^ 60)
  | .str _ => false
  | .list l => NiceL l
  | .tuple l => NiceL l
  | .dict _ => false
def NiceL : List PyData → Bool
  | [] => true
  | d :: r => Nice d && NiceL r
end
mutual
def nodes : PyData → Nat
  | .list l => 1 + nodesL l
  | .tuple l => 1 + nodesL l
  | _ => 1
def nodesL : List PyData → Nat
  | [] => 0
  | d :: r => nodes d + nodesL r
end
theorem textFrom_le : ∀ (ts : List Str) (k : Nat) (acc : Str), (textFrom k acc ts).length ≤ acc.length + piled ts
  | [], k, acc => by simp [textFrom, piled]
  | t :: r, k, acc => by
    have e : (acc ++ (if k > 0 then ", " else "" : String) ++ t).length ≤ acc.length + 2 + t.length := by
      rw [strLen_append, strLen_append]
      have : ((if k > 0 then ", " else "" : String) : Str).length ≤ 2 := by split <;> decide
      omega
    have ih := textFrom_le r (k + 1) (acc ++ (if k > 0 then ", " else "" : String) ++ t)
    show (textFrom (k + 1) _ r).length ≤ _
    rw [piled_cons]
    omega
theorem listText_le (ts : List Str) : (listText ts).length ≤ 2 + piled ts := by
  have h := textFrom_le ts 0 "["
  unfold listText
  rw [strLen_append]
  have e1 : (("[" : String) : Str).length = 1 := rfl
  have e2 : (("]" : String) : Str).length = 1 := rfl
  omega
theorem tupleText_le (ts : List Str) : (tupleText ts).length ≤ 3 + piled ts := by
  unfold tupleText
  rw [strLen_append, strLen_append]
  have e1 : (("(" : String) : Str).length = 1 := rfl
  have e3 : (((if ts.length == 1 then ",)" else ")" : String) : Str)).length ≤ 2 := by split <;> decide
  have e2 : (Str.join ", " ts).length ≤ piled ts := by
    cases ts with
    | nil => decide
    | cons t r =>
      have := join_length_add (t :: r) (by simp)
      omega
  omega
mutual
theorem nice_show : ∀ d : PyData, Nice d = true → d.showable = true ∧ d.hasDict = false ∧ d.shown.length + 2 ≤ 100 * nodes d
  | .none, _ => ⟨rfl, rfl, by decide⟩
  | .bool b, _ => ⟨rfl, rfl, by cases b <;> decide⟩
  | .int i, h => by
    have h : i.natAbs < 10 ^ 60 := of_decide_eq_true h
    refine ⟨?_, rfl, ?_⟩
    · refine decide_eq_true ?_
      by_cases z : i.natAbs = 0
      · rw [z]; decide
      · exact (Nat.log2_lt z).mpr (Nat.lt_of_lt_of_le h (by decide +kernel))
    · have e := int_text_length_le10 (k := 60) (by decide) h
      have e2 : (PyData.shown (.int i)).length = (toString i).length := by
        show (Str.ofString (toString i)).length = _
        rw [PySem.ofString_length]
      rw [e2]
      show _ ≤ 100 * 1
      omega
  | .str _, h => nomatch h
  | .list l, h => by
    obtain ⟨h1, h2, h3⟩ := nice_showL l h
    refine ⟨h1, h2, ?_⟩
    have := listText_le (PyData.shownAll l)
    show (listText (PyData.shownAll l)).length + 2 ≤ 100 * (1 + nodesL l)
    omega
  | .tuple l, h => by
    obtain ⟨h1, h2, h3⟩ := nice_showL l h
    refine ⟨h1, h2, ?_⟩
    have := tupleText_le (PyData.shownAll l)
    show (tupleText (PyData.shownAll l)).length + 2 ≤ 100 * (1 + nodesL l)
    omega
  | .dict _, h => nomatch h
theorem nice_showL : ∀ l : List PyData, NiceL l = true → PyData.showableAll l = true ∧ PyData.hasDictAll l = false ∧ piled (PyData.shownAll l) ≤ 100 * nodesL l
  | [], _ => ⟨rfl, rfl, by decide⟩
  | d :: r, h => by
    have h : (Nice d && NiceL r) = true := h
    rw [Bool.and_eq_true] at h
    obtain ⟨a1, a2, a3⟩ := nice_show d h.1
    obtain ⟨b1, b2, b3⟩ := nice_showL r h.2
    refine ⟨?_, ?_, ?_⟩
    · show (d.showable && PyData.showableAll r) = true
      rw [a1, b1]
      rfl
    · show (d.hasDict || PyData.hasDictAll r) = false
      rw [a2, b2]
      rfl
    · show piled (d.shown :: PyData.shownAll r) ≤ 100 * (nodes d + nodesL r)
      rw [piled_cons]
      omega
end
/-- what repr asks, of nice data of at most 1,000 things -/
theorem repr_ok {K : PySem.W.Frag} {H : Hp} {v : V} {d : PyData} {Q : VK} (D : Dp K H v d) (n : Nice d = true) (h : nodes d ≤ 1000) (hd : d.depth ≤ 60) (q : Q (.str d.shown) H) : rRepr K [v] H Q := by
  obtain ⟨h1, h2, h3⟩ := nice_show d n
  exact ⟨v, d, rfl, D, h1, h2, hd, by rw [sizeLine_eq]; omega, q⟩
end Vf
set_option Elab.async false
set_option linter.all false
set_option maxRecDepth 100000
set_option maxHeartbeats 4000000
namespace Vf
open PySem PySem.Spec PyProof.Rows L2
/-! ### a tuple times one is the tuple itself -/
theorem tuple_mul1 (l : Addr) (items : Array Value) (n : Nat) (dd : Option Addr) (sl : Array (Option Value)) (u : Tok) :
    Meets (Builtin.«tuple.__mul__» ⟨[.ref l, .int 1 u], []⟩) (fun _ R s => s.heap.get? l = some { cls := .type "tuple", dict := dd, data := .seq items n, slots := sl } ∧ R (.ok (.ret (Value.ref l))) s) :=
  .of_wp fun prog w A R s h => by
    obtain ⟨hp, g, d, tk, os⟩ := s
    obtain ⟨hl, h⟩ := h
    have f1 := AutoSeq1.idx_int
    wp_walk using wpAny_loadPart' hl
    exact ⟨_, rfl, h⟩
/-- a tuple times a number from 1 on -/
def rRepU (K : PySem.W.Frag) : R2 := fun x y H Q => ∃ l k xs, x = .ref l ∧ y = .int k ∧ SqT K H l xs ∧ xs ≠ [] ∧ 1 ≤ k ∧ k ≤ 1000 ∧ xs.length ≤ 1000 ∧ ∀ (H' : Hp) (p : Addr), Same H H' → SqT K H' p (List.replicate k.toNat xs).flatten → Q (.ref p) H'
theorem op_repU {X : Cx} : OpR X (binaryOp .Mult) (rRepU X.K) := by
  intro pins s σ H x y v u Q I rx ry h
  obtain ⟨l, k, xs, rfl, rfl, hT, hne, h1, h2, hz, q⟩ := h
  by_cases e : k = 1
  · subst e
    cases rx
    obtain ⟨t, rfl⟩ := ry
    obtain ⟨its, r, ⟨⟨cls, dd, data, sl⟩, ho, hc, n, hd⟩, hs⟩ := I.tuple hT
    simp only at hc hd
    subst hc hd
    refine wpAny_binaryOp_repeat_ref (T := "tuple") (U := "int") (by decide) ⟨_, ho, rfl⟩ (fun s' => typeIs_int s' 1 t) noFill_tuple_mul F.fills_int_mul F.slot_int_rmul repeat_tuple F.slot_int_index.lookup
      (call_meets F.slot_int_rmul (typeIs_int s 1 t) F.entry_int_rmul (F.args_int_rmul_2 _ _) (int_rmul_tuple 1 t l its.toArray n dd sl)
        ⟨ho, rfl, ⟨_, ho, rfl⟩, call_meets F.slot_tuple_mul ⟨_, ho, rfl⟩ F.entry_tuple_mul (F.args_tuple_mul_2 _ _) (tuple_mul1 l its.toArray n dd sl t) ⟨ho, ?_⟩⟩)
    refine ⟨.ref l, H, I, rfl, q H l (Same.refl _) ?_⟩
    have e2 : (List.replicate (Int.toNat 1) xs).flatten = xs := by simp
    rw [e2]
    exact hT
  · exact op_repT pins s σ H _ _ v u Q I rx ry ⟨l, k, xs, rfl, rfl, hT, hne, by omega, h2, hz, fun p np => q _ p (same_upd np) (SqT.of upd_same)⟩
/-! ### the rules that name the written part, with it as a letter -/
section
variable {X : Cx} {K : PySem.W.Frag}
def rTupOf (K : PySem.W.Frag) : List V → Hp → VK → Prop := fun xs H Q => ∃ p ys, xs = [.ref p] ∧ ((SqL K H p ys ∧ ∀ l, H l = none → Q (.ref l) (upd H l (.tup ys))) ∨ (SqT K H p ys ∧ Q (.ref p) H))
def rLstOf (K : PySem.W.Frag) : List V → Hp → VK → Prop := fun xs H Q => ∃ p ys, xs = [.ref p] ∧ (SqL K H p ys ∨ SqT K H p ys) ∧ ∀ l, H l = none → Q (.ref l) (upd H l (.lst ys))
def rLenOf (K : PySem.W.Frag) : List V → Hp → VK → Prop := fun xs H Q => ∃ p ys, xs = [.ref p] ∧ (SqL K H p ys ∨ SqT K H p ys) ∧ Q (.int ys.length) H
theorem tuple_ofK (hK : X.K = K) : CallR X (.type "tuple") (rTupOf K) := by subst hK; exact call_tuple_of
theorem list_ofK (hK : X.K = K) : CallR X (.type "list") (rLstOf K) := by subst hK; exact call_list_of
theorem len_ofK (hK : X.K = K) : CallR X (.builtin "len") (rLenOf K) := by subst hK; exact call_len_seq
theorem ix_listK (hK : X.K = K) : IxR X (rIxL K) := by subst hK; exact ix_list
theorem ix_tupK (hK : X.K = K) : IxR X (rIxT K) := by subst hK; exact ix_tup
theorem isiK (hK : X.K = K) : CallR X (.builtin "isinstance") (rIsi K) := by subst hK; exact call_isi
theorem isiTK (hK : X.K = K) : CallR X (.builtin "isinstance") (rIsiT K) := by subst hK; exact call_isiT
theorem sumK (hK : X.K = K) (hc : X.calm = true) : CallR X (.builtin "sum") (rSum K) := by subst hK; exact cr_sum hc
theorem allK (hK : X.K = K) (hc : X.calm = true) : CallR X (.builtin "all") (rAll K) := by subst hK; exact cr_all hc
theorem reprK (hK : X.K = K) (hg : X.A.guards = some []) (hu : X.A.units + 64 < cLine) : CallR X (.builtin "repr") (rRepr K) := by subst hK; exact call_repr hg hu
theorem repUK (hK : X.K = K) : OpR X (binaryOp .Mult) (rRepU K) := by subst hK; exact op_repU
end
/-! ### for over a list or a tuple -/
def tForS (K : PySem.W.Frag) (tl : TE) (g : TG) (tb : TS) : TS := fun D σ H => tl σ H fun x H1 => ∃ (a : Addr) (xs : List V) (Pv : Nat → L2.St → Hp → Prop), x = .ref a ∧ SqV K H1 a xs ∧ Pv 0 σ H1 ∧
  (∀ i σ2 H2, i ≤ xs.length → Pv i σ2 H2 → (SqL K H1 a xs → SqL K H2 a xs) ∧ (SqT K H1 a xs → SqT K H2 a xs)) ∧
  (∀ i x σ2 H2, xs[i]? = some x → Pv i σ2 H2 → g x σ2 H2 fun σ3 H3 => tb { D with nx := Pv (i + 1), ct := Pv (i + 1), bk := D.nx } σ3 H3) ∧ (∀ σ2 H2, Pv xs.length σ2 H2 → D.nx σ2 H2)
theorem ps_forS {X : Cx} {tg l : Expr} {body : List Stmt} {tl : TE} {g : TG} {tb : TS} {pos : Pos} (hp : PassesOwn (model X.prog X.w) X.A X.env X.xe) (hc : X.calm = true) (hl : PE X l tl) (mo : MonoE tl) (hg : PG X tg g) (hb : PSs X body tb)
    (hs : ∀ x, foldedSetIterable l X.env x = pure x := by intro _; rfl) : PS X (.For tg l body [] pos) (tForS X.K tl g tb) := by
  refine ⟨fun pins s σ H D I h => (ps_for hp hc (pi_seq hl) hg hb hs).run pins s σ H D I (mo _ _ _ _ (fun x H1 q => ?_) h)⟩
  obtain ⟨a, xs, Pv, rfl, hS, h0, hk, hst, hd⟩ := q
  refine ⟨a, rfl, ?_⟩
  rcases hS with hS | hS
  · exact .inl ⟨⟨xs, hS⟩, for_list (K := X.K) (a := a) (xs := xs) (g := g) (tb := tb) (D := D) Pv h0 (fun i σ2 H2 hi p => (hk i σ2 H2 hi p).1 hS) hst hd⟩
  · exact .inr ⟨⟨xs, hS⟩, for_tup (K := X.K) (a := a) (xs := xs) (g := g) (tb := tb) (D := D) Pv h0 (fun i σ2 H2 hi p => (hk i σ2 H2 hi p).2 hS) hst hd⟩
theorem Kp.put {t b : Addr} {o : HO} {H H1 : Hp} (a : Kp t H H1) (n : H b = none) (nt : b ≠ t) : Kp t H (upd H1 b o) := ⟨fun c u e h => by rw [upd_ne (ne_of_none e n)]; exact a.1 c u e h, let ⟨m, e⟩ := a.2; ⟨m, by rw [upd_ne nt.symm]; exact e⟩⟩
section
variable {K : PySem.W.Frag} {H H' : Hp}
mutual
theorem dp_same (s : Same H H') : ∀ {v : V} {d : PyData}, Dp K H v d → Dp K H' v d
  | _, _, .non => .non
  | _, _, .bl b => .bl b
  | _, _, .int i => .int i
  | _, _, .str x => .str x
  | _, _, .lst h r => .lst (s.seq h) (dp_sameL s r)
  | _, _, .tup h r => .tup (Same.seqT s h) (dp_sameL s r)
theorem dp_sameL (s : Same H H') : ∀ {v : List V} {d : List PyData}, DpAll K H v d → DpAll K H' v d
  | _, _, .nil => .nil
  | _, _, .cons h r => .cons (dp_same s h) (dp_sameL s r)
end
end
end Vf
set_option Elab.async false
set_option linter.all false
set_option maxRecDepth 100000
set_option maxHeartbeats 4000000
namespace Vf
open PySem PySem.Spec PyProof.Rows L2
/-! ### methods by their names -/
structure Mth (P : Program) (w : World) (K : PySem.W.Frag) (mg : Str → Option Value) (base : Heap) (CX : CXT) (k : Nat) (C : Addr) (m : Str) (ps : List Str) (sp : Sp) : Prop where
  cl : Cls K C
  ex : ∃ (f : Addr) (fd : FuncData), Meth K C m f ∧ Binds K fd ps [] ∧ FnOk P w K mg base CX k f fd ps sp
def tMth (C : Addr) (m : Str) (sp : Sp) (E : XK) (ta : TE) (t : TA) : TE := fun σ H Q => ta σ H fun x H1 => ∃ a dx fs, x = .ref a ∧ H1 a = some (.ins C dx fs) ∧ fs.lookup m = none ∧ t σ H1 fun vs H2 => sp (x :: vs) H2 Q E
section
variable {X : Cx} {CX : CXT} {k : Nat} {C : Addr} {m : Str} {ps : List Str} {sp : Sp} {E : XK} {o e : Expr} {es : List Expr} {ta : TE} {t : TA} {apos pos : Pos}
theorem pe_mth {pl : Sem Bool} (c : Mth X.prog X.w X.K X.mg X.base CX k C m ps sp) (hr : Room k X.A) (hx : Passes CX X E) (he : PE X o ta) (ha : PA X (e :: es) t)
    (hst : starEach (e :: es) X.env = (false, eval e X.env) :: starEach es X.env := by rfl) (hpl : (backTo pos (starEach es X.env)).any (·.1) = false := by rfl)
    (ht : eval (.Call (.Attribute o m apos) (e :: es) [] pos) X.env = (do
      let ov ← eval o X.env
      standAt apos.atName
      let (f, first) ← holding [ov] (getMethod ov m pl)
      callWith pos f first (backTo pos (starEach (e :: es) X.env)) (backToKw pos (keywordEach [] X.env))) := by rfl) :
    PE X (.Call (.Attribute o m apos) (e :: es) [] pos) (tMth C m sp E ta t) := by
  obtain ⟨f, fd, hm, hb, F⟩ := c.ex
  exact (pe_meth (dvs := []) (pl := pl) he c.cl hm F hr hb .nil hx ha hst hpl ht).imp fun σ H Q q => by
    unfold tMeth
    simp only [List.append_nil]
    exact q
theorem pe_mth0 {pl : Sem Bool} (c : Mth X.prog X.w X.K X.mg X.base CX k C m ps sp) (hr : Room k X.A) (hx : Passes CX X E) (he : PE X o ta)
    (ht : eval (.Call (.Attribute o m apos) [] [] pos) X.env = (do
      let ov ← eval o X.env
      standAt apos.atName
      let (f, first) ← holding [ov] (getMethod ov m pl)
      callWith pos f first (backTo pos (starEach [] X.env)) (backToKw pos (keywordEach [] X.env))) := by rfl) :
    PE X (.Call (.Attribute o m apos) [] [] pos) (tMth C m sp E ta tNil) := by
  obtain ⟨f, fd, hm, hb, F⟩ := c.ex
  exact (pe_meth0 (dvs := []) (pl := pl) he c.cl hm F hr hb .nil hx ht).imp fun σ H Q q => by
    unfold tMeth
    simp only [List.append_nil]
    exact q
end
theorem Same.put {H H1 : Hp} {b : Addr} {o : HO} (s : Same H H1) (n : H b = none) : Same H (upd H1 b o) := fun c u e => by
  rw [upd_ne (ne_of_none e n)]
  exact s c u e
end Vf
set_option Elab.async false
set_option linter.all false
set_option maxRecDepth 100000
set_option maxHeartbeats 4000000
/-! zip of any number of lists and tuples. -/
namespace Vf
open PySem PySem.Spec PyProof.Rows L2
/-- a part of a zip: is it a list's, its iterator, what that goes through -/
structure Pt where
  b : Bool
  it : Addr
  l : Addr
def Pt.ic (p : Pt) : String := match p.b with
  | true => "list_iterator"
  | false => "tuple_iterator"
def Pt.sc (p : Pt) : String := match p.b with
  | true => "list"
  | false => "tuple"
def Pt.At (p : Pt) (h : Heap) (i : Nat) : Prop := ∃ o, h.get? p.it = some o ∧ o.cls = .type p.ic ∧ o.data = .fields #[.ref p.l, .int i 0]
def Pt.Src (p : Pt) (h : Heap) (vs : List Value) : Prop := ∃ o, h.get? p.l = some o ∧ o.cls = .type p.sc ∧ ∃ n, o.data = .seq vs.toArray n
theorem Pt.At.move {p : Pt} {h h' : Heap} {i : Nat} (a : p.At h i) (f : ∀ o, h.get? p.it = some o → h'.get? p.it = some o) : p.At h' i := let ⟨o, e, r⟩ := a; ⟨o, f o e, r⟩
theorem Pt.Src.move {p : Pt} {h h' : Heap} {vs : List Value} (a : p.Src h vs) (f : ∀ o, h.get? p.l = some o → h'.get? p.l = some o) : p.Src h' vs := let ⟨o, e, r⟩ := a; ⟨o, f o e, r⟩
section
variable {prog : Program} {w : World} {A : Around} {E : Value → Shared → Prop} {s : Shared}
theorem Pt.next {p : Pt} {i : Nat} {vs : List Value} {x : Value} {Q : Value → Shared → Prop} (a : p.At s.heap i) (c : p.Src s.heap vs) (hx : vs[i]? = some x)
    (hQ : ∀ h', p.At h' (i + 1) → Heap.SameBut p.it s.heap h' → Q x { s with heap := h' }) : wpAny (model prog w) A (Builtin.SmallTypes.nextOf (.ref p.it)) Q E s := by
  obtain ⟨b, it, l⟩ := p
  have hx' : vs.toArray[i]? = some x := by simpa using hx
  cases b with
  | true => exact wpAny_nextOf_list_item a c hx' hQ
  | false => exact RZ.nextOf_tuple_item a c hx' hQ
theorem Pt.stop {p : Pt} {i : Nat} {vs : List Value} {Q : Value → Shared → Prop} (hh : A.handled = none) (a : p.At s.heap i) (c : p.Src s.heap vs) (hx : vs[i]? = none)
    (hE : ∀ h' e, Heap.ExtBut p.it s.heap h' → (∃ o, h'.get? e = some o ∧ o.cls = .type "StopIteration") → E (.ref e) { s with heap := h' }) : wpAny (model prog w) A (Builtin.SmallTypes.nextOf (.ref p.it)) Q E s := by
  obtain ⟨b, it, l⟩ := p
  have hx' : vs.toArray[i]? = none := by simpa using hx
  cases b with
  | true => exact wpAny_nextOf_list_end hh a c hx' hE
  | false => exact RZ.nextOf_tuple_end hh a c hx' hE
end
/-- all these are apart -/
structure ZAp (z TI TO : Addr) (ps : List Pt) : Prop where
  TIz : TI ≠ z
  TOz : TO ≠ z
  TITO : TI ≠ TO
  i : ∀ p ∈ ps, p.it ≠ z ∧ p.it ≠ TI ∧ p.it ≠ TO
  l : ∀ p ∈ ps, p.l ≠ z ∧ p.l ≠ TO ∧ ∀ q ∈ ps, p.l ≠ q.it
  nd : (ps.map (·.it)).Nodup
abbrev ZO (h : Heap) (z TI TO : Addr) (f0 : Value) (f1 : Bool) : Prop := h.get? z = some { cls := .type "zip", dict := none, data := .fields #[f0, .bool f1, .bool false, .ref TI, .ref TO], slots := #[] }
abbrev TupIs (h : Heap) (T : Addr) (ys : Array Value) : Prop := h.get? T = some { cls := .type "tuple", data := .seq ys }
def Own0 (f0 : Value) : Prop := f0 = .none ∨ ∃ T : Nat, f0 = rawInt T
section
variable {prog : Program} {w : World} {A : Around} {E : Value → Shared → Prop} {s : Shared} {z TI TO : Addr} {f0 : Value} {f1 : Bool}
theorem alive_any {a : Addr} {Q : Option Obj → Shared → Prop} (h : Q (s.heap.get? a) s) : wpAny (model prog w) A (loadIfAlive a) Q E s := fun _ _ _ => h
theorem owned_free {Q : Bool → Shared → Prop} (hz : ZO s.heap z TI TO f0 f1) (hf0 : Own0 f0) (ht : Q true s) (hf : ∀ h', ZO h' z TI TO f0 true → Heap.SameBut z s.heap h' → Q false { s with heap := h' }) :
    wpAny (model prog w) A (Builtin.SmallTypes.ownedTupleIsFree (.ref z)) Q E s := by
  unfold Builtin.SmallTypes.ownedTupleIsFree
  refine wpAny_bind (wpAny_field hz rfl (x := f0) rfl ?_)
  rcases hf0 with rfl | ⟨T, rfl⟩
  · exact wpAny_pure ht
  · show wpAny _ _ (loadIfAlive ((T : Int).toNat) >>= _) _ _ _
    refine wpAny_bind (alive_any ?_)
    cases s.heap.get? ((T : Int).toNat) with
    | none => exact wpAny_pure ht
    | some o =>
      simp only [Option.isNone_some, Bool.false_eq_true, if_false]
      refine wpAny_bind (wpAny_field hz rfl (x := .bool f1) rfl ?_)
      cases f1 with
      | true => exact wpAny_pure (hf s.heap hz (Heap.SameBut.refl _ _))
      | false => exact wpAny_bind (wpAny_setField_rec hz (by simp) fun h1 hz1 hs1 => wpAny_pure (hf h1 hz1 hs1))
/-- what a turn leaves as it was -/
def Still (z TO : Addr) (ps : List Pt) (h h' : Heap) : Prop := ∀ c o, c ≠ z → c ≠ TO → (∀ p ∈ ps, c ≠ p.it) → h.get? c = some o → h'.get? c = some o
theorem wp_putSeq {T : Addr} {ys : Array Value} {k : Nat} {x : Value} {Q : Unit → Shared → Prop} (hT : TupIs s.heap T ys) (hy : ys.size ≤ sizeLine) (h : ∀ h', TupIs h' T (ys.setIfInBounds k x) → Heap.SameBut T s.heap h' → Q () { s with heap := h' }) :
    wpAny (model prog w) A (updateSeq T fun q => q.setIfInBounds k x) Q E s := by
  refine wpAny_updateSeq hT rfl (h _ ?_ (Heap.SameBut.update ..)) hy (by rw [Array.size_setIfInBounds]; omega)
  exact (Heap.get?_update_self _ hT rfl).trans (by simp [Obj.mapSeq])
/-- the parts in the midst of a turn: d are a step on, r not yet -/
structure ZMid (z TI TO : Addr) (ps : List Pt) (i : Nat) (h0 : Heap) (d r : List Pt) (h : Heap) : Prop where
  on : ∀ p ∈ d, p.At h (i + 1)
  off : ∀ p ∈ r, p.At h i
  size : h.objs.size = h0.objs.size
  still : Still z TO ps h0 h
theorem ZMid.start {ps : List Pt} {i : Nat} {h0 h : Heap} (D : ZAp z TI TO ps) (hat : ∀ p ∈ ps, p.At h0 i) (sb : Heap.SameBut z h0 h) : ZMid z TI TO ps i h0 [] ps h :=
  ⟨fun _ m => (nomatch m), fun p m => (hat p m).move fun o e => sb.extBut _ _ (D.i p m).1 e, sb.1, fun c o c1 _ _ e => sb.extBut _ _ c1 e⟩
theorem ZMid.step {ps d r : List Pt} {p : Pt} {i : Nat} {h0 h h' : Heap} (D : ZAp z TI TO ps) (e : ps = d ++ p :: r) (M : ZMid z TI TO ps i h0 d (p :: r) h) (a : p.At h' (i + 1)) (sb : Heap.SameBut p.it h h') : ZMid z TI TO ps i h0 (d ++ [p]) r h' := by
  have nd := D.nd
  rw [e, List.map_append, List.map_cons, List.nodup_append] at nd
  obtain ⟨_, n2, n3⟩ := nd
  rw [List.nodup_cons] at n2
  refine ⟨fun q m => ?_, fun q m => (M.off q (List.mem_cons_of_mem _ m)).move fun o x => sb.extBut _ _ (fun y => n2.1 (y ▸ List.mem_map_of_mem m)) x, sb.1.trans M.size, fun c o c1 c2 c3 x => sb.extBut _ _ (c3 p (by rw [e]; simp)) (M.still c o c1 c2 c3 x)⟩
  rcases List.mem_append.mp m with m | m
  · exact (M.on q m).move fun o x => sb.extBut _ _ (n3 _ (List.mem_map_of_mem m) _ List.mem_cons_self) x
  · obtain rfl : q = p := by simpa using m
    exact a
theorem ZMid.over {ps d r : List Pt} {i : Nat} {h0 h h' : Heap} (D : ZAp z TI TO ps) (hd : ∀ p ∈ d, p ∈ ps) (hr : ∀ p ∈ r, p ∈ ps) (M : ZMid z TI TO ps i h0 d r h) (sb : Heap.SameBut TO h h') : ZMid z TI TO ps i h0 d r h' :=
  ⟨fun q m => (M.on q m).move fun o x => sb.extBut _ _ (D.i q (hd q m)).2.2 x, fun q m => (M.off q m).move fun o x => sb.extBut _ _ (D.i q (hr q m)).2.2 x, sb.1.trans M.size, fun c o c1 c2 c3 x => sb.extBut _ _ c2 (M.still c o c1 c2 c3 x)⟩
theorem ZMid.src {ps d r : List Pt} {p : Pt} {i : Nat} {h0 h : Heap} {vs : List Value} (D : ZAp z TI TO ps) (hp : p ∈ ps) (M : ZMid z TI TO ps i h0 d r h) (c : p.Src h0 vs) : p.Src h vs :=
  c.move fun o e => M.still _ _ (D.l p hp).1 (D.l p hp).2.1 (D.l p hp).2.2 e
theorem take_set {ys : List Value} {dv : List Value} {v : Value} (h : ys.take dv.length = dv) (hl : dv.length < ys.length) : (ys.set dv.length v).take (dv ++ [v]).length = dv ++ [v] := by
  rw [List.length_append, List.length_singleton, List.take_add_one, List.take_set_of_le (Nat.le_refl _), h, List.getElem?_set_self hl]
  rfl
theorem zip_item {ps : List Pt} {vals : List Value} {i : Nat} {ys : Array Value} {Q : Value → Shared → Prop} (D : ZAp z TI TO ps) (hz : ZO s.heap z TI TO f0 f1) (hf0 : Own0 f0) (hTI : TupIs s.heap TI (ps.map fun p => Value.ref p.it).toArray) (hTO : TupIs s.heap TO ys) (hys : ys.size = ps.length)
    (hne : ps ≠ []) (hsz : ps.length ≤ sizeLine) (hat : ∀ p ∈ ps, p.At s.heap i) (hv : Paired (fun p v => ∃ vs, p.Src s.heap vs ∧ vs[i]? = some v) ps vals)
    (hQ : ∀ h' g0 g1 ys', ZO h' z TI TO g0 g1 → Own0 g0 → TupIs h' TO ys' → ys'.size = ps.length → (∀ p ∈ ps, p.At h' (i + 1)) → TupIs h' s.heap.objs.size vals.toArray → h'.objs.size = s.heap.objs.size + 1 → Still z TO ps s.heap h' → Q (.ref s.heap.objs.size) { s with heap := h' }) :
    wpAny (model prog w) A (Builtin.«zip.__next__» ⟨[.ref z], []⟩) (fun fin s' => ∃ v, fin = .done (.ret v) ∧ Q v s') E s := by
  show wpAny _ _ (field (.ref z) 2 >>= _) _ _ _
  refine wpAny_bind (wpAny_field hz rfl (x := .bool false) rfl ?_)
  show wpAny _ _ (field (.ref z) 3 >>= _) _ _ _
  refine wpAny_bind (wpAny_field hz rfl (x := .ref TI) rfl ?_)
  refine wpAny_bind (wpAny_seqItems hTI rfl ?_)
  have hem : (ps.map fun p => Value.ref p.it).toArray.isEmpty = false := by
    cases ps with
    | nil => exact absurd rfl hne
    | cons p r => simp
  simp only [hem, Bool.false_eq_true, if_false]
  have hvl : ps.length = vals.length := Paired.length hv
  refine wpAny_bind (owned_free hz hf0 ?_ fun h1 hz1 hs1 => ?_)
  · simp only [if_true]
    refine wpAny_bind (wpAny_rule (wpAny_bind (wpAny_field hz rfl (x := .ref TO) rfl ?_)))
    refine wpAny_bind (wpAny_setField_rec hz (by simp) fun h1 hz1 hs1 => ?_)
    replace hz1 : ZO h1 z TI TO .ellipsis f1 := hz1
    refine wpAny_bind (wpAny_forIn_list _ (fun rest b s' => ∃ (d r : List Pt) (dv rv : List Value) (ya : Array Value), b = (none, ()) ∧ s' = { s with heap := s'.heap } ∧ ps = d ++ r ∧ vals = dv ++ rv ∧ d.length = dv.length ∧ Paired (fun p v => ∃ vs, p.Src s.heap vs ∧ vs[i]? = some v) r rv ∧
      rest = (r.map fun p => Value.ref p.it).zipIdx d.length ∧ ZO s'.heap z TI TO .ellipsis f1 ∧ TupIs s'.heap TO ya ∧ ya.size = ps.length ∧ ya.toList.take dv.length = dv ∧ ZMid z TI TO ps i s.heap d r s'.heap) _ ?turn ?fin _ _ ?start)
    case start => exact ⟨[], ps, [], vals, ys, rfl, rfl, rfl, rfl, rfl, hv, rfl, hz1, hs1.extBut _ _ D.TOz hTO, hys, rfl, ZMid.start D hat hs1⟩
    case turn =>
      rintro x rest b s' ⟨d, r, dv, rv, ya, rfl, es, ep, ev, el, pr, er, hz2, hT2, hya, htk, M⟩
      cases pr with
      | nil => simp at er
      | @cons p v r rv hp pr =>
        obtain ⟨vs, hsrc, hvi⟩ := hp
        rw [List.map_cons, List.zipIdx_cons] at er
        obtain ⟨rfl, rfl⟩ := List.cons.inj er
        have pm : p ∈ ps := by rw [ep]; simp
        refine wpAny_bind (wpAny_onRaise ?_)
        show wpAny _ _ (Builtin.SmallTypes.nextOf (.ref p.it) >>= _) _ _ _
        refine wpAny_bind (Pt.next (M.off p List.mem_cons_self) (M.src D pm hsrc) hvi fun h3 a3 s3 => wpAny_pure ?_)
        have M3 := M.step D ep a3 s3
        have hT3 : TupIs h3 TO ya := s3.extBut _ _ (D.i p pm).2.2.symm hT2
        refine wpAny_bind (wpAny_seqItems hT3 rfl ?_)
        refine wpAny_bind (wp_putSeq (s := { s' with heap := h3 }) hT3 (by rw [hya]; exact hsz) fun h4 hT4 s4 => ?_)
        refine wpAny_bind (wpAny_letGo (wpAny_pure ?_))
        refine ⟨d ++ [p], r, dv ++ [v], rv, _, rfl, by rw [es], by rw [ep]; simp, by rw [ev]; simp, by simp [el], pr, by rw [List.length_append]; rfl, ?_, hT4, by rw [Array.size_setIfInBounds]; exact hya, ?_, M3.over D (fun q m => ?_) (fun q m => by rw [ep]; simp [m]) s4⟩
        · exact s4.extBut _ _ D.TOz.symm (s3.extBut _ _ (D.i p pm).1.symm hz2)
        · rw [Array.toList_setIfInBounds, el]
          refine take_set htk ?_
          have : ya.toList.length = ps.length := hya
          rw [this, ep, List.length_append, el, List.length_cons]
          omega
        · rcases List.mem_append.mp m with m | m
          · rw [ep]; simp [m]
          · obtain rfl : q = p := by simpa using m
            exact pm
    case fin =>
      rintro b s' ⟨d, r, dv, rv, ya, rfl, es, ep, ev, el, pr, er, hz2, hT2, hya, htk, M⟩
      obtain rfl : r = [] := by
        cases r with
        | nil => rfl
        | cons p r => simp at er
      cases pr
      rw [List.append_nil] at ep ev
      subst ep ev
      refine wpAny_bind (wpAny_seqItems hT2 rfl ?_)
      have hyv : ya.toList = vals := by
        rw [← htk, List.take_of_length_le (by rw [← hvl, ← hya]; exact Nat.le_refl _)]
      refine wpAny_bind (wpAny_newTuple ?_ (by rw [hyv, ← hvl]; exact hsz))
      rw [hyv]
      show wpAny _ _ (Builtin.SmallTypes.ownedTupleHandOut (.ref z) (.ref s'.heap.objs.size) >>= _) _ _ _
      refine wpAny_bind ?_
      unfold Builtin.SmallTypes.ownedTupleHandOut
      have hz3 : ZO (s'.heap.push { cls := .type "tuple", data := .seq vals.toArray }) z TI TO .ellipsis f1 := Heap.get?_push_of_some _ hz2
      refine wpAny_bind (wpAny_setField_rec hz3 (by simp) fun h5 hz5 hs5 => ?_)
      replace hz5 : ZO h5 z TI TO (rawInt s'.heap.objs.size) f1 := hz5
      refine wpAny_setField_rec hz5 (by simp) fun h6 hz6 hs6 => ?_
      replace hz6 : ZO h6 z TI TO (rawInt s'.heap.objs.size) false := hz6
      have up : ∀ c o, c ≠ z → s'.heap.get? c = some o → h6.get? c = some o := fun c o c1 e => hs6.extBut _ _ c1 (hs5.extBut _ _ c1 (Heap.get?_push_of_some _ e))
      have zlt : z < s'.heap.objs.size := Heap.lt_size hz2
      have hT6 : TupIs h6 s'.heap.objs.size vals.toArray := hs6.extBut _ _ (Nat.ne_of_gt zlt) (hs5.extBut _ _ (Nat.ne_of_gt zlt) (Heap.get?_push_size _ rfl))
      have hsz6 : h6.objs.size = s'.heap.objs.size + 1 := by rw [hs6.1, hs5.1, Heap.size_push]
      have hq := hQ h6 _ _ ya hz6 (.inr ⟨_, rfl⟩) (up _ _ D.TOz hT2) hya (fun p m => (M.on p m).move fun o e => up _ o (D.i p m).1 e) (by rw [← M.size]; exact hT6) (by rw [hsz6, M.size]) fun c o c1 c2 c3 e => up c o c1 (M.still c o c1 c2 c3 e)
      rw [← M.size] at hq
      refine wpAny_pure ⟨_, rfl, ?_⟩
      rw [es]
      exact hq
  · simp only [Bool.false_eq_true, if_false]
    refine wpAny_bind (MeetsSeq2.wpAny_forIn_array _ (fun rest b s' => ∃ (d r : List Pt) (dv rv : List Value), b = (none, dv.toArray) ∧ s' = { s with heap := s'.heap } ∧ ps = d ++ r ∧ vals = dv ++ rv ∧ d.length = dv.length ∧ Paired (fun p v => ∃ vs, p.Src s.heap vs ∧ vs[i]? = some v) r rv ∧
      rest = (r.map fun p => Value.ref p.it) ∧ ZO s'.heap z TI TO f0 true ∧ TupIs s'.heap TO ys ∧ ZMid z TI TO ps i s.heap d r s'.heap) _ ?turn ?fin _ _ ?start)
    case start => exact ⟨[], ps, [], vals, rfl, rfl, rfl, rfl, rfl, hv, by simp, hz1, hs1.extBut _ _ D.TOz hTO, ZMid.start D hat hs1⟩
    case turn =>
      rintro x rest b s' ⟨d, r, dv, rv, rfl, es, ep, ev, el, pr, er, hz2, hT2, M⟩
      cases pr with
      | nil => simp at er
      | @cons p v r rv hp pr =>
        obtain ⟨vs, hsrc, hvi⟩ := hp
        rw [List.map_cons] at er
        obtain ⟨rfl, rfl⟩ := List.cons.inj er
        have pm : p ∈ ps := by rw [ep]; simp
        refine wpAny_bind (wpAny_holding ?_)
        show wpAny _ _ (Builtin.SmallTypes.nextOf (.ref p.it) >>= _) _ _ _
        refine wpAny_bind (Pt.next (M.off p List.mem_cons_self) (M.src D pm hsrc) hvi fun h3 a3 s3 => wpAny_pure (wpAny_pure ?_))
        exact ⟨d ++ [p], r, dv ++ [v], rv, by simp, by rw [es], by rw [ep]; simp, by rw [ev]; simp, by simp [el], pr, rfl, s3.extBut _ _ (D.i p pm).1.symm hz2, s3.extBut _ _ (D.i p pm).2.2.symm hT2, M.step D ep a3 s3⟩
    case fin =>
      rintro b s' ⟨d, r, dv, rv, rfl, es, ep, ev, el, pr, er, hz2, hT2, M⟩
      obtain rfl : r = [] := by
        cases r with
        | nil => rfl
        | cons p r => simp at er
      cases pr
      rw [List.append_nil] at ep ev
      subst ep ev
      refine wpAny_bind (wpAny_newTuple ?_ (by show vals.length ≤ sizeLine; rw [← hvl]; exact hsz))
      refine wpAny_pure ⟨_, rfl, ?_⟩
      have hp : TupIs (s'.heap.push { cls := .type "tuple", data := .seq vals.toArray }) s'.heap.objs.size vals.toArray := Heap.get?_push_size _ rfl
      have hq := hQ _ _ _ ys (Heap.get?_push_of_some _ hz2) hf0 (Heap.get?_push_of_some _ hT2) hys (fun p m => (M.on p m).move fun o e => Heap.get?_push_of_some _ e) (by rw [← M.size]; exact hp) (by rw [Heap.size_push, M.size]) fun c o c1 c2 c3 e => Heap.get?_push_of_some _ (M.still c o c1 c2 c3 e)
      rw [← M.size] at hq
      rw [es]
      exact hq
theorem zip_end {p : Pt} {r : List Pt} {i : Nat} {ys : Array Value} {vs : List Value} {Q : PySem.Fin → Shared → Prop} (D : ZAp z TI TO (p :: r)) (hz : ZO s.heap z TI TO f0 f1) (hf0 : Own0 f0) (hTI : TupIs s.heap TI ((p :: r).map fun p => Value.ref p.it).toArray) (hTO : TupIs s.heap TO ys)
    (ha : p.At s.heap i) (hc : p.Src s.heap vs)
    (hend : ∀ (s2 : Shared) (Q2 : Value → Shared → Prop) (E2 : Value → Shared → Prop), Still z TO (p :: r) s.heap s2.heap → p.At s2.heap i → p.Src s2.heap vs → (∀ h' e, Heap.ExtBut p.it s2.heap h' → (∃ o, h'.get? e = some o ∧ o.cls = .type "StopIteration") → E2 (.ref e) { s2 with heap := h' }) →
      wpAny (model prog w) A (Builtin.SmallTypes.nextOf (.ref p.it)) Q2 E2 s2)
    (hE : ∀ h' e, Still z TO (p :: r) s.heap h' → (∃ o, h'.get? e = some o ∧ o.cls = .type "StopIteration") → E (.ref e) { s with heap := h' }) :
    wpAny (model prog w) A (Builtin.«zip.__next__» ⟨[.ref z], []⟩) Q E s := by
  show wpAny _ _ (field (.ref z) 2 >>= _) _ _ _
  refine wpAny_bind (wpAny_field hz rfl (x := .bool false) rfl ?_)
  show wpAny _ _ (field (.ref z) 3 >>= _) _ _ _
  refine wpAny_bind (wpAny_field hz rfl (x := .ref TI) rfl ?_)
  refine wpAny_bind (wpAny_seqItems hTI rfl ?_)
  have hem : ((p :: r).map fun p => Value.ref p.it).toArray.isEmpty = false := by simp
  simp only [hem, Bool.false_eq_true, if_false]
  have pm : p ∈ p :: r := List.mem_cons_self
  have st : ∀ {h1 : Heap}, Heap.SameBut z s.heap h1 → Still z TO (p :: r) s.heap h1 := fun sb c o c1 _ _ e => sb.extBut _ _ c1 e
  refine wpAny_bind (owned_free hz hf0 ?_ fun h1 hz1 hs1 => ?_)
  · simp only [if_true]
    refine wpAny_bind (wpAny_rule (wpAny_bind (wpAny_field hz rfl (x := .ref TO) rfl ?_)))
    refine wpAny_bind (wpAny_setField_rec hz (by simp) fun h1 hz1 hs1 => ?_)
    replace hz1 : ZO h1 z TI TO .ellipsis f1 := hz1
    refine wpAny_bind ?_
    simp only [List.map_cons, List.zipIdx_cons, List.forIn_cons]
    refine wpAny_bind (wpAny_bind (wpAny_onRaise ?_))
    show wpAny _ _ (Builtin.SmallTypes.nextOf (.ref p.it) >>= _) _ _ _
    refine wpAny_bind (hend { s with heap := h1 } _ _ (st hs1) (ha.move fun o e => hs1.extBut _ _ (D.i p pm).1 e) (hc.move fun o e => hs1.extBut _ _ (D.l p pm).1 e) fun h2 e hx he => ?_)
    obtain ⟨oe, hoe, hce⟩ := he
    have hz2 : ZO h2 z TI TO .ellipsis f1 := hx _ _ (D.i p pm).1.symm hz1
    have hez : e ≠ z := fun x => by
      subst x
      rw [hz2] at hoe
      cases hoe
      simp at hce
    exact wpAny_setField_rec hz2 (by simp) fun h3 _ hs3 => hE h3 e (fun c o c1 c2 c3 x => hs3.extBut _ _ c1 (hx _ _ (c3 p pm) (hs1.extBut _ _ c1 x))) ⟨oe, hs3.extBut _ _ hez hoe, hce⟩
  · simp only [Bool.false_eq_true, if_false]
    refine wpAny_bind ?_
    rw [← Array.forIn_toList]
    simp only [List.map_cons, List.forIn_cons]
    refine wpAny_bind (wpAny_bind (wpAny_holding ?_))
    show wpAny _ _ (Builtin.SmallTypes.nextOf (.ref p.it) >>= _) _ _ _
    refine wpAny_bind (hend { s with heap := h1 } _ _ (st hs1) (ha.move fun o e => hs1.extBut _ _ (D.i p pm).1 e) (hc.move fun o e => hs1.extBut _ _ (D.l p pm).1 e) fun h2 e hx he => ?_)
    exact hE h2 e (fun c o c1 c2 c3 x => hx _ _ (c3 p pm) (hs1.extBut _ _ c1 x)) he
theorem pyNext_zip {ps : List Pt} {vals : List Value} {i : Nat} {ys : Array Value} {Q : Option Value → Shared → Prop} (D : ZAp z TI TO ps) (hz : ZO s.heap z TI TO f0 f1) (hf0 : Own0 f0) (hTI : TupIs s.heap TI (ps.map fun p => Value.ref p.it).toArray) (hTO : TupIs s.heap TO ys) (hys : ys.size = ps.length)
    (hne : ps ≠ []) (hsz : ps.length ≤ sizeLine) (hat : ∀ p ∈ ps, p.At s.heap i) (hv : Paired (fun p v => ∃ vs, p.Src s.heap vs ∧ vs[i]? = some v) ps vals)
    (hQ : ∀ h' g0 g1 ys', ZO h' z TI TO g0 g1 → Own0 g0 → TupIs h' TO ys' → ys'.size = ps.length → (∀ p ∈ ps, p.At h' (i + 1)) → TupIs h' s.heap.objs.size vals.toArray → h'.objs.size = s.heap.objs.size + 1 → Still z TO ps s.heap h' → Q (some (.ref s.heap.objs.size)) { s with heap := h' }) :
    wpAny (model prog w) A (pyNext (.ref z)) Q E s := by
  have hT : s.TypeIs (.ref z) "zip" := ⟨_, hz, rfl⟩
  unfold pyNext
  exact wpAny_bind (wpAny_attempt (wpAny_callSpecial?_slot (name := Str.ofString "__next__") hT F.slot_zip_next (wpAny_call_entry F.slot_zip_next hT F.entry_zip_next
    (zip_item D hz hf0 hTI hTO hys hne hsz hat hv fun h' g0 g1 y a1 a2 a3 a4 a5 a6 a7 a8 => wpAny_pure (hQ h' g0 g1 y a1 a2 a3 a4 a5 a6 a7 a8)) (F.args_zip_next_1 _))))
theorem pyNext_zipEnd {p : Pt} {r : List Pt} {i : Nat} {ys : Array Value} {vs : List Value} {Q : Option Value → Shared → Prop} (D : ZAp z TI TO (p :: r)) (hz : ZO s.heap z TI TO f0 f1) (hf0 : Own0 f0) (hTI : TupIs s.heap TI ((p :: r).map fun p => Value.ref p.it).toArray) (hTO : TupIs s.heap TO ys)
    (ha : p.At s.heap i) (hc : p.Src s.heap vs)
    (hend : ∀ (s2 : Shared) (Q2 : Value → Shared → Prop) (E2 : Value → Shared → Prop), Still z TO (p :: r) s.heap s2.heap → p.At s2.heap i → p.Src s2.heap vs → (∀ h' e, Heap.ExtBut p.it s2.heap h' → (∃ o, h'.get? e = some o ∧ o.cls = .type "StopIteration") → E2 (.ref e) { s2 with heap := h' }) →
      wpAny (model prog w) A.in1 (Builtin.SmallTypes.nextOf (.ref p.it)) Q2 E2 s2)
    (hQ : ∀ h', Still z TO (p :: r) s.heap h' → Q none { s with heap := h' }) : wpAny (model prog w) A (pyNext (.ref z)) Q E s := by
  have hT : s.TypeIs (.ref z) "zip" := ⟨_, hz, rfl⟩
  unfold pyNext
  refine wpAny_bind (wpAny_attempt (wpAny_callSpecial?_slot (name := Str.ofString "__next__") hT F.slot_zip_next (wpAny_call_entry F.slot_zip_next hT F.entry_zip_next
    (zip_end D hz hf0 hTI hTO ha hc hend fun h' e hk he => ?_) (F.args_zip_next_1 _))))
  obtain ⟨o, ho, hoc⟩ := he
  exact wpAny_bind (wpAny_isInstance (T := "StopIteration") (b := true) ⟨o, ho, hoc⟩ isSubtype_stop (wpAny_pure (hQ _ hk)))
theorem go_zip {tg : Expr} {T : Addr} {Q : Unit → Shared → Prop} (hz : ZO s.heap z TI TO f0 f1) (hQ : ∀ h' g0, ZO h' z TI TO g0 f1 → (g0 = f0 ∨ g0 = .none) → Heap.SameBut z s.heap h' → Q () { s with heap := h' }) :
    wpAny (model prog w) A (letOwnedTupleGo tg (.ref z) (.ref T)) Q E s := by
  have same : Q () s := hQ s.heap f0 hz (.inl rfl) (Heap.SameBut.refl _ _)
  unfold letOwnedTupleGo
  cases tg <;> first
    | exact wpAny_pure same
    | (refine wpAny_bind (wpAny_load hz ?_)
       show wpAny _ _ (if _ then _ else _) Q E s
       split
       · exact wpAny_bind (wpAny_rule (wpAny_setField_rec hz (by simp) fun h' hz' hs' => hQ h' _ hz' (.inr rfl) hs'))
       · exact wpAny_pure same)
theorem iter_zip {Q : Value → Shared → Prop} (hz : ZO s.heap z TI TO f0 f1) (h : Q (.ref z) s) : wpAny (model prog w) A (pyIter (.ref z)) Q E s := by
  have hT : s.TypeIs (.ref z) "zip" := ⟨_, hz, rfl⟩
  refine wpAny_pyIter_slot hT F.slot_zip_iter (wpAny_call_entry F.slot_zip_iter hT F.entry_zip_iter ?_ (F.args_zip_iter_1 _))
  show wpAny _ _ (ret (.ref z)) _ _ s
  exact wpAny_pure ⟨_, rfl, "zip", _, hT, F.slot_zip_next.lookup, h⟩
end
end Vf
set_option Elab.async false
set_option linter.all false
set_option maxRecDepth 100000
set_option maxHeartbeats 4000000
namespace Vf
open PySem PySem.Spec PyProof.Rows L2
theorem typeCall_zip (l : List Value) : checkTypeCall "zip" ⟨l, []⟩ = pure () := by kernel_rfl
theorem newCall_z1 (a : Value) : checkBuiltinCall "zip.__new__" ⟨.type "zip" :: [a], []⟩ = pure () := by kernel_rfl
theorem newCall_z2 (a b : Value) : checkBuiltinCall "zip.__new__" ⟨.type "zip" :: [a, b], []⟩ = pure () := by kernel_rfl
theorem newCall_z3 (a b c : Value) : checkBuiltinCall "zip.__new__" ⟨.type "zip" :: [a, b, c], []⟩ = pure () := by kernel_rfl
theorem newCall_z4 (a b c d : Value) : checkBuiltinCall "zip.__new__" ⟨.type "zip" :: [a, b, c, d], []⟩ = pure () := by kernel_rfl
theorem newCall_z5 (a b c d e : Value) : checkBuiltinCall "zip.__new__" ⟨.type "zip" :: [a, b, c, d, e], []⟩ = pure () := by kernel_rfl
theorem newCall_z6 (a b c d e f : Value) : checkBuiltinCall "zip.__new__" ⟨.type "zip" :: [a, b, c, d, e, f], []⟩ = pure () := by kernel_rfl
theorem newCall_zip : ∀ l : List Value, l ≠ [] → l.length ≤ 6 → checkBuiltinCall "zip.__new__" ⟨.type "zip" :: l, []⟩ = pure ()
  | [], h, _ => absurd rfl h
  | [a], _, _ => newCall_z1 a
  | [a, b], _, _ => newCall_z2 a b
  | [a, b, c], _, _ => newCall_z3 a b c
  | [a, b, c, d], _, _ => newCall_z4 a b c d
  | [a, b, c, d, e], _, _ => newCall_z5 a b c d e
  | [a, b, c, d, e, f], _, _ => newCall_z6 a b c d e f
  | a :: b :: c :: d :: e :: f :: g :: r, _, h => absurd h (by simp)
theorem args_oinit (o : Value) (l : List Value) : argsOk "object.__init__" ⟨o :: l, []⟩ := by
  unfold argsOk
  rw [signature?_of (id := "object.__init__") (n := ['_', '_', 't', 'i', 'n', 'i', '_', '_']) (o := ['t', 'c', 'e', 'j', 'b', 'o']) (by kernel_rfl) F.owner_object]
  kernel_rfl
end Vf
set_option Elab.async false
set_option linter.all false
set_option maxRecDepth 100000
set_option maxHeartbeats 4000000
/-! zip of any number of lists and tuples: the turns, the making, the rules. -/
namespace Vf
open PySem PySem.Spec PyProof.Rows L2
/-! ### the making -/
/-- the parts of a new zip: the iterators stand from n on -/
def ptsFrom : Nat → List (Bool × Addr) → List Pt
  | _, [] => []
  | n, q :: r => ⟨q.1, n, q.2⟩ :: ptsFrom (n + 1) r
theorem ptsFrom_length : ∀ (n : Nat) (ls : List (Bool × Addr)), (ptsFrom n ls).length = ls.length
  | _, [] => rfl
  | n, _ :: r => congrArg (· + 1) (ptsFrom_length (n + 1) r)
theorem ptsFrom_mem : ∀ {n : Nat} {ls : List (Bool × Addr)} {p : Pt}, p ∈ ptsFrom n ls → @LE.le Nat _ n p.it ∧ @LT.lt Nat _ p.it (n + ls.length) ∧ (p.b, p.l) ∈ ls
  | _, [], _, h => nomatch h
  | n, q :: r, p, h => by
    rcases List.mem_cons.mp h with rfl | h
    · exact ⟨Nat.le_refl _, by simp, by simp⟩
    · obtain ⟨h1, h2, h3⟩ := ptsFrom_mem h
      have e : (q :: r).length = r.length + 1 := rfl
      exact ⟨by omega, by rw [e]; omega, List.mem_cons_of_mem _ h3⟩
theorem ptsFrom_nodup : ∀ (n : Nat) (ls : List (Bool × Addr)), ((ptsFrom n ls).map (·.it)).Nodup
  | _, [] => List.nodup_nil
  | n, q :: r => by
    show (n :: (ptsFrom (n + 1) r).map (·.it)).Nodup
    rw [List.nodup_cons]
    refine ⟨fun h => ?_, ptsFrom_nodup (n + 1) r⟩
    obtain ⟨p, hp, e⟩ := List.mem_map.mp h
    have h1 := (ptsFrom_mem hp).1
    have e : p.it = n := e
    omega
theorem ptsFrom_append : ∀ (n : Nat) (d r : List (Bool × Addr)), ptsFrom n (d ++ r) = ptsFrom n d ++ ptsFrom (n + d.length) r
  | _, [], _ => rfl
  | n, q :: d, r => by
    show _ :: ptsFrom (n + 1) (d ++ r) = _ :: (ptsFrom (n + 1) d ++ _)
    rw [ptsFrom_append (n + 1) d r, List.length_cons]
    congr 3
    omega
theorem ptsFrom_src : ∀ (n : Nat) (ls : List (Bool × Addr)), (ptsFrom n ls).map (fun p => (p.b, p.l)) = ls
  | _, [] => rfl
  | n, q :: r => by
    show (q.1, q.2) :: _ = _
    rw [ptsFrom_src (n + 1) r]
def SrcB (h : Heap) (q : Bool × Addr) : Prop := ∃ vs, (Pt.mk q.1 0 q.2).Src h vs
section
variable {prog : Program} {w : World} {A : Around} {E : Value → Shared → Prop} {s : Shared}
theorem iter_src {q : Bool × Addr} {Q : Value → Shared → Prop} (h : SrcB s.heap q) (hQ : ∀ h', (Pt.mk q.1 s.heap.objs.size q.2).At h' 0 → h'.objs.size = s.heap.objs.size + 1 → (∀ c o, s.heap.get? c = some o → h'.get? c = some o) → Q (.ref s.heap.objs.size) { s with heap := h' }) :
    wpAny (model prog w) A (pyIter (.ref q.2)) Q E s := by
  obtain ⟨b, l⟩ := q
  obtain ⟨vs, hs⟩ := h
  cases b with
  | true => exact wpAny_pyIter_list hs (hQ _ ⟨_, Heap.get?_push_size _ rfl, rfl, rfl⟩ (Heap.size_push ..) fun _ _ e => Heap.get?_push_of_some _ e)
  | false => exact wpAny_pyIter_tuple hs (hQ _ ⟨_, Heap.get?_push_size _ rfl, rfl, rfl⟩ (Heap.size_push ..) fun _ _ e => Heap.get?_push_of_some _ e)
/-- what a new zip has -/
structure ZNew (n : Nat) (ls : List (Bool × Addr)) (h h' : Heap) : Prop where
  at_ : ∀ p ∈ ptsFrom n ls, p.At h' 0
  ti : TupIs h' (n + ls.length) ((ptsFrom n ls).map fun p => Value.ref p.it).toArray
  to : TupIs h' (n + ls.length + 1) (List.replicate ls.length Value.none).toArray
  zo : ZO h' (n + ls.length + 2) (n + ls.length) (n + ls.length + 1) .none false
  keep : ∀ c o, h.get? c = some o → h'.get? c = some o
theorem zip_new {ls : List (Bool × Addr)} {Q : Value → Shared → Prop} (hs : ∀ q ∈ ls, SrcB s.heap q) (hz : ls.length ≤ sizeLine) (hQ : ∀ h', ZNew s.heap.objs.size ls s.heap h' → Q (.ref (s.heap.objs.size + ls.length + 2)) { s with heap := h' }) :
    wpAny (model prog w) A (Builtin.«zip.__new__» ⟨.type "zip" :: ls.map (fun q => Value.ref q.2), []⟩) (fun fin s' => ∃ v, fin = .done (.ret v) ∧ Q v s') E s := by
  unfold Builtin.«zip.__new__» Builtin.SmallTypes.newClass
  have hsub := sub_zip
  wp_walk using wpAny_forIn_list _ (fun rest b s' => ∃ d r : List (Bool × Addr), ls = d ++ r ∧ rest = r.map (fun q => Value.ref q.2) ∧ b = ((ptsFrom s.heap.objs.size d).map fun p => Value.ref p.it).toArray ∧ s' = { s with heap := s'.heap } ∧ s'.heap.objs.size = s.heap.objs.size + d.length ∧ (∀ p ∈ ptsFrom s.heap.objs.size d, p.At s'.heap 0) ∧ ∀ c o, s.heap.get? c = some o → s'.heap.get? c = some o) _
  case turn =>
    rintro x rest b s' ⟨d, r, e, er, rfl, es, sz, ha, hk⟩
    cases r with
    | nil => simp at er
    | cons q r =>
      rw [List.map_cons] at er
      obtain ⟨rfl, rfl⟩ := List.cons.inj er
      refine wpAny_bind (wpAny_holding (iter_src (by
        obtain ⟨vs, hv⟩ := hs q (by rw [e]; simp)
        exact ⟨vs, hv.move fun o x => hk _ _ x⟩) fun h2 a2 z2 k2 => wpAny_pure ?_))
      refine ⟨d ++ [q], r, by rw [e]; simp, rfl, ?_, by rw [es], by rw [List.length_append, List.length_singleton, z2, sz, Nat.add_assoc], fun p hp => ?_, fun c o x => k2 _ _ (hk c o x)⟩
      · rw [ptsFrom_append, List.map_append, sz]
        simp [ptsFrom]
      · rw [ptsFrom_append] at hp
        rcases List.mem_append.mp hp with hp | hp
        · exact (ha p hp).move fun o x => k2 _ _ x
        · obtain rfl : p = _ := by simpa [ptsFrom] using hp
          rw [← sz]
          exact a2
  case fin =>
    rintro b s' ⟨d, r, e, er, rfl, es, sz, ha, hk⟩
    obtain rfl : r = [] := by
      cases r with
      | nil => rfl
      | cons q r => simp at er
    rw [List.append_nil] at e
    subst e
    obtain ⟨hp, g, dr, tk, os⟩ := s'
    simp only [Shared.mk.injEq] at es
    obtain ⟨-, rfl, rfl, rfl, rfl⟩ := es
    show wpAny _ _ (pure _) _ _ _
    refine wpAny_pure ?_
    have hl : (List.map (fun p => Value.ref p.it) (ptsFrom s.heap.objs.size ls)).length = ls.length := by rw [List.length_map, ptsFrom_length]
    have hn : List.map (fun _ : Value => Value.none) (List.map (fun p => Value.ref p.it) (ptsFrom s.heap.objs.size ls)) = List.replicate ls.length Value.none := by
      rw [List.map_const', hl]
    rw [List.toList_toArray, hn]
    refine wpAny_bind (wpAny_newTuple ?_ (by rw [hl]; exact hz))
    refine wpAny_bind (wpAny_newTuple ?_ (by rw [List.length_replicate]; exact hz))
    refine wpAny_bind ?_
    unfold Builtin.SmallTypes.newRecord
    refine wpAny_newObj_type (wpAny_pure ⟨_, rfl, ?_⟩) (show (5 : Nat) ≤ sizeLine + 2 by decide)
    have sz : hp.objs.size = s.heap.objs.size + ls.length := sz
    have z1 : (hp.push { cls := .type "tuple", data := .seq (List.map (fun p => Value.ref p.it) (ptsFrom s.heap.objs.size ls)).toArray }).objs.size = s.heap.objs.size + ls.length + 1 := by rw [Heap.size_push, sz]
    have z2 : ((hp.push { cls := .type "tuple", data := .seq (List.map (fun p => Value.ref p.it) (ptsFrom s.heap.objs.size ls)).toArray }).push { cls := .type "tuple", data := .seq (List.replicate ls.length Value.none).toArray }).objs.size = s.heap.objs.size + ls.length + 2 := by rw [Heap.size_push, z1]
    have up : ∀ {o1 o2 o3 : Obj} c o, hp.get? c = some o → (((hp.push o1).push o2).push o3).get? c = some o := fun c o e => Heap.get?_push_of_some _ (Heap.get?_push_of_some _ (Heap.get?_push_of_some _ e))
    show Q (.ref ((hp.push _).push _).objs.size) _
    refine (congrArg (fun n => Q (.ref n) _) z2.symm).mp (hQ _ ⟨fun p m => (ha p m).move fun o e => up _ _ e, ?_, ?_, ?_, fun c o e => up _ _ (hk c o e)⟩)
    · rw [← sz]
      exact Heap.get?_push_of_some _ (Heap.get?_push_of_some _ (Heap.get?_push_size _ rfl))
    · rw [← z1]
      exact Heap.get?_push_of_some _ (Heap.get?_push_size _ rfl)
    · rw [← z2, ← z1, ← sz]
      exact Heap.get?_push_size _ rfl
  case h => exact ⟨[], ls, rfl, rfl, rfl, rfl, rfl, fun _ h => (nomatch h), fun _ _ e => e⟩
theorem call_zip {ls : List (Bool × Addr)} {Q : Value → Shared → Prop} (hs : ∀ q ∈ ls, SrcB s.heap q) (hne : ls ≠ []) (hz : ls.length ≤ 6) (hQ : ∀ h', ZNew s.heap.objs.size ls s.heap h' → Q (.ref (s.heap.objs.size + ls.length + 2)) { s with heap := h' }) :
    wpAny (model prog w) A (call (.type "zip") (ls.map fun q => Value.ref q.2)) Q E s := by
  refine callType_new (S := fun _ R s' => s' = s ∧ ∀ h', ZNew s.heap.objs.size ls s.heap h' → R (.ok (.ret (.ref (s.heap.objs.size + ls.length + 2)))) { s with heap := h' }) F.called_zip (by decide) (typeCall_zip _) (newCall_zip _ (by simpa using hne) (by rw [List.length_map]; exact hz)) (fun obj => args_oinit obj _) F.entry_zip_new
    (.of_wp fun prog w A R s' h => ?_) ⟨rfl, fun h' N => ⟨⟨_, N.zo, rfl⟩, hQ h' N⟩⟩
  obtain ⟨rfl, h⟩ := h
  exact zip_new (Q := fun v s1 => R (.ok (.ret v)) s1) hs (Nat.le_trans hz (by decide)) h
end
/-! ### the turns -/
def SqB (K : PySem.W.Frag) (H : Hp) (q : Bool × Addr) (xs : List V) : Prop := match q.1 with
  | true => SqL K H q.2 xs
  | false => SqT K H q.2 xs
theorem SqB.same {K : PySem.W.Frag} {H H' : Hp} {q : Bool × Addr} {xs : List V} (s : Same H H') (h : SqB K H q xs) : SqB K H' q xs := by
  obtain ⟨b, a⟩ := q
  cases b with
  | true => exact s.seq h
  | false => exact Same.seqT s h
theorem SqV.toB {K : PySem.W.Frag} {H : Hp} {a : Addr} {xs : List V} (h : SqV K H a xs) : ∃ b, SqB K H (b, a) xs := h.elim (fun z => ⟨true, z⟩) fun z => ⟨false, z⟩
/-- these lists and tuples as they stand at each turn, the items in new tuples; alike in length -/
def ItN (K : PySem.W.Frag) (ls : List (Bool × Addr)) : It :=
  ⟨fun i H => ∃ xss : List (List V), Paired (SqB K H) ls xss ∧ ∀ xs ∈ xss, i < xs.length,
    fun i H v H' => ∃ T ys, v = .ref T ∧ H T = none ∧ H' = upd H T (.tup ys) ∧ ∀ xss, Paired (SqB K H) ls xss → Paired (fun (xs : List V) y => xs[i]? = some y) xss ys,
    fun i H => ∃ q r xs, ls = q :: r ∧ SqB K H q xs ∧ xs.length ≤ i⟩
theorem Paired.uniq {α β : Type} {G : α → β → Prop} (u : ∀ a b b', G a b → G a b' → b = b') : ∀ {l : List α} {m m' : List β}, Paired G l m → Paired G l m' → m = m'
  | _, _, _, .nil, .nil => rfl
  | _, _, _, .cons h r, .cons h' r' => by rw [u _ _ _ h h', Paired.uniq u r r']
section
variable {X : Cx} {pins : List (Addr × Obj)} {σ : L2.St} {H : Hp} {s : Shared}
theorem sqB_src (I : Inv X pins σ H s) {q : Bool × Addr} {n : Addr} {xs : List V} (h : SqB X.K H q xs) : ∃ us, Vals xs us ∧ (Pt.mk q.1 n q.2).Src s.heap us := by
  obtain ⟨b, a⟩ := q
  cases b with
  | true =>
    obtain ⟨its, rv, p, _⟩ := I.list h
    exact ⟨its, rv, p.isList⟩
  | false =>
    obtain ⟨its, rv, p, _⟩ := I.tuple h
    exact ⟨its, rv, p⟩
theorem sqB_inj (I : Inv X pins σ H s) {q : Bool × Addr} {xs ys : List V} (h : SqB X.K H q xs) (h' : SqB X.K H q ys) : xs = ys := by
  obtain ⟨b, a⟩ := q
  cases b with
  | true => exact I.list_inj h h'
  | false => exact I.tuple_inj h h'
/-- the items of a turn -/
theorem zip_vals (I : Inv X pins σ H s) {i : Nat} : ∀ {ps : List Pt} {xss : List (List V)}, Paired (SqB X.K H) (ps.map fun p => (p.b, p.l)) xss → (∀ xs ∈ xss, i < xs.length) →
    ∃ (ys : List V) (us : List Value), Vals ys us ∧ Paired (fun p v => ∃ vs, p.Src s.heap vs ∧ vs[i]? = some v) ps us ∧ Paired (fun (xs : List V) y => xs[i]? = some y) xss ys
  | [], _, .nil, _ => ⟨[], [], .nil, .nil, .nil⟩
  | p :: ps, _, .cons (b := xs) h r, hi => by
    obtain ⟨ys, us, r1, r2, r3⟩ := zip_vals I r fun x hx => hi x (List.mem_cons_of_mem _ hx)
    obtain ⟨vs, rv, hs⟩ := sqB_src (n := p.it) I h
    obtain ⟨u, hu, ru⟩ := rv.get (List.getElem?_eq_getElem (hi xs List.mem_cons_self))
    exact ⟨_ :: ys, u :: us, .cons ru r1, .cons ⟨vs, hs, hu⟩ r2, .cons (List.getElem?_eq_getElem _) r3⟩
end
theorem turn_zipN {P : Program} {w : World} {K : PySem.W.Frag} {tg : Expr} {z TI TO : Addr} {ps : List Pt} (D : ZAp z TI TO ps) (hsz : ps.length ≤ sizeLine) (hne : ps ≠ []) :
    Turn P w K tg (ItN K (ps.map fun p => (p.b, p.l))) (z :: TI :: TO :: ps.map (·.it)) z
      (fun i h => ∃ g0 g1 ys, ZO h z TI TO g0 g1 ∧ Own0 g0 ∧ TupIs h TI (ps.map fun p => Value.ref p.it).toArray ∧ TupIs h TO ys ∧ ys.size = ps.length ∧ ∀ p ∈ ps, p.At h i) where
  mem := List.mem_cons_self
  obj := fun i h st c hc => by
    obtain ⟨g0, g1, ys, hz, _, hTI, hTO, _, hat⟩ := st
    rcases List.mem_cons.mp hc with rfl | hc
    · exact ⟨_, hz, fun v q => nomatch q⟩
    rcases List.mem_cons.mp hc with rfl | hc
    · exact ⟨_, hTI, fun v q => nomatch q⟩
    rcases List.mem_cons.mp hc with rfl | hc
    · exact ⟨_, hTO, fun v q => nomatch q⟩
    obtain ⟨p, hp, rfl⟩ := List.mem_map.mp hc
    obtain ⟨o, e, _, d⟩ := hat p hp
    exact ⟨o, e, fun v q => by rw [d] at q; cases q⟩
  keep := fun i h h' st k => by
    obtain ⟨g0, g1, ys, hz, ho, hTI, hTO, hys, hat⟩ := st
    exact ⟨g0, g1, ys, k z (by simp) _ hz, ho, k TI (by simp) _ hTI, k TO (by simp) _ hTO, hys, fun p hp => (hat p hp).move fun o e => k _ (by simp; exact .inr (.inr (.inr ⟨p, hp, rfl⟩))) o e⟩
  item := by
    intro X hP hw hK hc i pins s σ H E I hf st hg
    subst hP hw hK
    obtain ⟨g0, g1, ya, hz, ho, hTI, hTO, hya, hat⟩ := st
    obtain ⟨xss, pr, hi⟩ := hg
    obtain ⟨ys, us, rv, hv, hy⟩ := zip_vals I pr hi
    have hus : ps.length = us.length := Paired.length hv
    have zlt : z < s.heap.objs.size := Heap.lt_size hz
    refine pyNext_zip D hz ho hTI hTO hya hne hsz hat hv fun h1 k0 k1 yb z1 o1 t1 y1 a1 T1 s1 st1 => ⟨_, rfl, go_zip (s := { s with heap := h1 }) z1 fun h2 m0 z2 o2 sb => ?_⟩
    have hT2 : TupIs h2 s.heap.objs.size us.toArray := (sb.2 _ (Nat.ne_of_gt zlt)).trans T1
    have new : ObjOk X.prog X.w (upd H s.heap.objs.size (.tup ys)) h2 s.heap.objs.size (.tup ys) := ⟨by rw [rv.length, ← hus]; exact hsz, us, rv, ⟨_, hT2, rfl, _, rfl⟩⟩
    have up : ∀ c o, c ∉ z :: TI :: TO :: ps.map (·.it) → s.heap.get? c = some o → h2.get? c = some o := fun c o hb e => by
      have hcz : c ≠ z := fun q => hb (by simp [q])
      exact (sb.2 c hcz).trans (st1 c o hcz (fun q => hb (by simp [q])) (fun p hp q => hb (by simp; exact .inr (.inr (.inr ⟨p, hp, q.symm⟩)))) e)
    have I1 : Inv X pins σ (upd H s.heap.objs.size (.tup ys)) { s with heap := h2 } := I.turnedNew (t' := s.toks) (ch := z :: TI :: TO :: ps.map (·.it)) up hf (Nat.le_refl _) new
    refine ⟨.ref s.heap.objs.size, _, I1, rfl, ⟨_, ys, rfl, I.hok.fresh (Nat.le_refl _), rfl, fun yss pr' => ?_⟩, ⟨m0, k1, yb, z2, ?_, ?_, ?_, y1, fun p hp => (a1 p hp).move fun o e => (sb.2 _ (D.i p hp).1).trans e⟩, fun c hcm => ?_⟩
    · obtain rfl : yss = xss := Paired.uniq (G := SqB X.K H) (fun a b b' h h' => sqB_inj I h h') pr' pr
      exact hy
    · rcases o2 with rfl | rfl
      · exact o1
      · exact .inl rfl
    · exact (sb.2 _ D.TIz).trans (st1 _ _ D.TIz D.TITO (fun p hp => (D.i p hp).2.1.symm) hTI)
    · exact (sb.2 _ D.TOz).trans t1
    · have hlt : c < s.heap.objs.size := by
        rcases List.mem_cons.mp hcm with rfl | hcm
        · exact zlt
        rcases List.mem_cons.mp hcm with rfl | hcm
        · exact Heap.lt_size hTI
        rcases List.mem_cons.mp hcm with rfl | hcm
        · exact Heap.lt_size hTO
        obtain ⟨p, hp, rfl⟩ := List.mem_map.mp hcm
        obtain ⟨o, e, _⟩ := hat p hp
        exact Heap.lt_size e
      rw [upd_ne (Nat.ne_of_lt hlt)]
      exact (hf c hcm).1
  done := by
    intro X hP hw hK hc i pins s σ H E I hf st hg
    subst hP hw hK
    obtain ⟨g0, g1, ya, hz, ho, hTI, hTO, hya, hat⟩ := st
    obtain ⟨q, r, xs, e, hq, hl⟩ := hg
    cases ps with
    | nil => exact absurd rfl hne
    | cons p ps =>
      obtain ⟨rfl, rfl⟩ := List.cons.inj e
      obtain ⟨vs, rv, hs⟩ := sqB_src (n := p.it) I hq
      have hx : vs[i]? = none := List.getElem?_eq_none (by rw [← rv.length]; exact hl)
      refine pyNext_zipEnd D hz ho hTI hTO (hat p List.mem_cons_self) hs (fun s2 Q2 E2 _ a c h => Pt.stop (show X.A.in1.handled = none from I.ok.hd hc) a c hx h) fun h' st' => ⟨rfl, I.turnedL (t' := s.toks) (ch := z :: TI :: TO :: (p :: ps).map (·.it)) (fun c o hb q => ?_) hf⟩
      exact st' c o (fun y => hb (by simp [y])) (fun y => hb (by simp [y])) (fun p' hp y => hb (List.mem_cons_of_mem _ (List.mem_cons_of_mem _ (List.mem_cons_of_mem _ (y ▸ List.mem_map_of_mem hp))))) q
  self := fun A i s Q E st h => let ⟨_, _, _, hz, _⟩ := st; iter_zip hz h
/-! ### the rules -/
theorem zap_new {n : Nat} {ls : List (Bool × Addr)} (h : ∀ q ∈ ls, q.2 < n) : ZAp (n + ls.length + 2) (n + ls.length) (n + ls.length + 1) (ptsFrom n ls) := by
  have key : ∀ p ∈ ptsFrom n ls, @LE.le Nat _ n p.it ∧ @LT.lt Nat _ p.it (n + ls.length) ∧ @LT.lt Nat _ p.l n := fun p hp => let ⟨a, b, c⟩ := ptsFrom_mem hp; ⟨a, b, h _ c⟩
  refine ⟨fun z => ?_, fun z => ?_, fun z => ?_, fun p hp => ⟨fun z => ?_, fun z => ?_, fun z => ?_⟩, fun p hp => ⟨fun z => ?_, fun z => ?_, fun q hq z => ?_⟩, ptsFrom_nodup n ls⟩
  · have z : n + ls.length = n + ls.length + 2 := z
    omega
  · have z : n + ls.length + 1 = n + ls.length + 2 := z
    omega
  · have z : n + ls.length = n + ls.length + 1 := z
    omega
  · have := key p hp
    have z : @Eq Nat p.it (n + ls.length + 2) := z
    omega
  · have := key p hp
    have z : @Eq Nat p.it (n + ls.length) := z
    omega
  · have := key p hp
    have z : @Eq Nat p.it (n + ls.length + 1) := z
    omega
  · have := key p hp
    have z : @Eq Nat p.l (n + ls.length + 2) := z
    omega
  · have := key p hp
    have z : @Eq Nat p.l (n + ls.length + 1) := z
    omega
  · have := key p hp
    have := key q hq
    have z : @Eq Nat p.l (q.it) := z
    omega
def ZipR (K : PySem.W.Frag) (ls : List (Bool × Addr)) (H : Hp) : Prop := ls ≠ [] ∧ ls.length ≤ 6 ∧ ∀ q ∈ ls, ∃ xs, SqB K H q xs
/-- a zip made, and its iterator -/
theorem zip_made {X : Cx} {tg : Expr} {pins : List (Addr × Obj)} {σ : L2.St} {H : Hp} {s : Shared} {R : It → Hp → Prop} {ls : List (Bool × Addr)} (I : Inv X pins σ H s) (h : ZipR X.K ls H) (q : R (ItN X.K ls) H) :
    wpAny (model X.prog X.w) X.A (call (.type "zip") (ls.map fun q => Value.ref q.2)) (fun v s1 => wpAny (model X.prog X.w) X.A (pyIter v) (PIE X pins σ tg R) X.xe s1) X.xe s := by
  obtain ⟨h1, h2, h3⟩ := h
  have src : ∀ q ∈ ls, SrcB s.heap q := fun q hq => by
    obtain ⟨xs, hx⟩ := h3 q hq
    obtain ⟨us, _, hs⟩ := sqB_src (n := 0) I hx
    exact ⟨us, hs⟩
  have low : ∀ q ∈ ls, q.2 < s.heap.objs.size := fun q hq => by
    obtain ⟨us, o, e, _⟩ := src q hq
    exact Heap.lt_size e
  have ne : ptsFrom s.heap.objs.size ls ≠ [] := fun z => h1 (by
    have := ptsFrom_length s.heap.objs.size ls
    rw [z] at this
    exact List.length_eq_zero_iff.mp this.symm)
  refine call_zip src h1 h2 fun h' N => iter_zip N.zo ?_
  have I2 : Inv X pins σ H { s with heap := h' } := I.kept (t' := s.toks) N.keep
  have T := turn_zipN (P := X.prog) (w := X.w) (K := X.K) (tg := tg) (zap_new low) (by rw [ptsFrom_length]; exact Nat.le_trans h2 (by decide)) ne
  rw [ptsFrom_src] at T
  refine ⟨_, _, _, _, H, rfl, I2, T, ⟨.none, false, _, N.zo, .inl rfl, N.ti, N.to, by rw [List.size_toArray, List.length_replicate, ptsFrom_length], N.at_⟩, fun b hb => ?_, q⟩
  have hle : @LE.le Nat _ s.heap.objs.size b := by
    rcases List.mem_cons.mp hb with rfl | hb
    · show s.heap.objs.size ≤ s.heap.objs.size + ls.length + 2
      omega
    rcases List.mem_cons.mp hb with rfl | hb
    · show s.heap.objs.size ≤ s.heap.objs.size + ls.length
      omega
    rcases List.mem_cons.mp hb with rfl | hb
    · show s.heap.objs.size ≤ s.heap.objs.size + ls.length + 1
      omega
    obtain ⟨p, hp, rfl⟩ := List.mem_map.mp hb
    exact (ptsFrom_mem hp).1
  exact I.fpOk hle (I.hok.fresh hle)
theorem refs_of : ∀ {ls : List (Bool × Addr)} {us : List Value}, Vals (ls.map fun q => V.ref q.2) us → us = ls.map fun q => Value.ref q.2
  | [], _, r => by cases r; rfl
  | q :: ls, _, r => by
    cases r with
    | cons h r => rw [List.map_cons, show _ = Value.ref q.2 from h, refs_of r]
def iZipN (K : PySem.W.Frag) (ta : TA) : TI := fun σ H R => ta σ H fun vs H1 => ∃ ls : List (Bool × Addr), vs = ls.map (fun q => V.ref q.2) ∧ ZipR K ls H1 ∧ R (ItN K ls) H1
theorem pi_zipN {X : Cx} {tg e : Expr} {es : List Expr} {ta : TA} {p pos : Pos} (hg : Gl X "zip") (hm : X.mg "zip" = none) (ha : PA X (e :: es) ta) (hs : starEach (e :: es) X.env = (false, eval e X.env) :: starEach es X.env := by rfl) (hpl : (backTo pos (starEach es X.env)).any (·.1) = false := by rfl) :
    PI X tg (.Call (.Name "zip" p) (e :: es) [] pos) (iZipN X.K ta) := by
  refine ⟨fun pins s σ H R I h => ?_⟩
  refine Call_ (ld_blt I hg hm PyProof.Rows.boot_zip (PyProof.Rows.callWith_type1 (thn (ha.run pos pins s σ H _ I h) fun us s1 ⟨vs, H1, I1, r1, ls, ev, hz, q⟩ => ?_) hs hpl))
  subst ev
  rw [refs_of r1]
  exact zip_made I1 hz q
def iZipS (K : PySem.W.Frag) (te : TE) : TI := fun σ H R => te σ H fun x H1 => ∃ (a : Addr) (ls : List (Bool × Addr)), x = .ref a ∧ (SqT K H1 a (ls.map fun q => V.ref q.2) ∨ SqL K H1 a (ls.map fun q => V.ref q.2)) ∧ ZipR K ls H1 ∧ R (ItN K ls) H1
theorem pi_zipS {X : Cx} {tg e : Expr} {te : TE} {p sp pos : Pos} (hg : Gl X "zip") (hm : X.mg "zip" = none) (he : PE X e te) (hs : starEach [.Starred e sp] X.env = [(true, eval e X.env)] := by rfl) :
    PI X tg (.Call (.Name "zip" p) [.Starred e sp] [] pos) (iZipS X.K te) := by
  refine ⟨fun pins s σ H R I h => ?_⟩
  refine Call_ (ld_blt I hg hm PyProof.Rows.boot_zip ?_)
  rw [hs]
  refine PySem.W.ks_call (P := fun _ => True) rfl (fun h _ => ?_) (PySem.W.ks_lone (thn (he.run pins s σ H _ I h) fun v s1 ⟨x, H1, I1, r1, a, ls, ev, hx, hz, q⟩ => ?_))
  · exact ⟨.machine, .inr (.inl rfl), fun _ _ _ _ _ q => wpAny_pure q⟩
  · subst ev
    obtain rfl : v = Value.ref a := r1
    exact StX.star_any I1 hx fun us s2 I2 rv => ⟨trivial, by rw [refs_of rv]; exact zip_made I2 hz q⟩
/-! ### walks -/
theorem lc_zipN {K : PySem.W.Frag} {ls : List (Bool × Addr)} {xss : List (List V)} {n : Nat} {g : TG} {tt : TT} {te : TE} {vs : List Nat} {σ : L2.St} {H1 : Hp} {D : Addr} {Qd : Hp → Prop} (hn : ∀ xs ∈ xss, xs.length = n) (hls : ls ≠ []) (Pv : Nat → Hp → Prop) (h0 : Pv 0 (upd H1 D (.lst []))) (hq : ∀ i H, i ≤ n → Pv i H → Paired (SqB K H) ls xss)
    (hs : ∀ i T ys H, i < n → Paired (fun (xs : List V) y => xs[i]? = some y) xss ys → Pv i H → H T = none → g (.ref T) (wipe σ vs) (upd H T (.tup ys)) fun σ2 H2 => wipe σ2 vs = wipe σ vs ∧ tt σ2 H2 fun b H3 =>
      if b = true then te σ2 H3 fun y H4 => ∃ acc, H4 D = some (.lst acc) ∧ acc.length < sizeLine ∧ Pv (i + 1) (upd H4 D (.lst (acc ++ [y]))) else Pv (i + 1) H3) (hd : ∀ H, Pv n H → Qd H) :
    ∃ W : Nat → Nat → Hp → Prop, (∃ m, W 0 m (upd H1 D (.lst []))) ∧ ∀ i m H, W i m H →
      ((ItN K ls).stop i H ∧ Qd H) ∨ ((ItN K ls).go i H ∧ ∃ Nx : Hp → Prop, (∀ H', Nx H' → ∃ m', m' < m ∧ W (i + 1) m' H') ∧ ∀ x H', (ItN K ls).yld i H x H' → g x (wipe σ vs) H' fun σ2 H2 => wipe σ2 vs = wipe σ vs ∧ tt σ2 H2 fun b H3 =>
        if b = true then te σ2 H3 fun y H4 => ∃ acc, H4 D = some (.lst acc) ∧ acc.length < sizeLine ∧ Nx (upd H4 D (.lst (acc ++ [y]))) else Nx H3) := by
  refine ⟨fun i m H => m = n - i ∧ i ≤ n ∧ Pv i H, ⟨n, by simp, Nat.zero_le _, h0⟩, ?_⟩
  rintro i m H ⟨rfl, hi, p⟩
  have pr := hq i H hi p
  by_cases hlt : i < n
  · refine .inr ⟨⟨xss, pr, fun xs hx => by rw [hn xs hx]; exact hlt⟩, Pv (i + 1), fun H' p' => ⟨n - (i + 1), by omega, rfl, hlt, p'⟩, fun x H' y => ?_⟩
    obtain ⟨T, ys, rfl, nT, rfl, f⟩ := y
    exact hs i T ys H hlt (f xss pr) p nT
  · obtain rfl : i = n := by omega
    cases pr with
    | nil => exact absurd rfl hls
    | cons h r => exact .inl ⟨⟨_, _, _, rfl, h, Nat.le_of_eq (hn _ List.mem_cons_self)⟩, hd H p⟩
theorem for_zipN {K : PySem.W.Frag} {ls : List (Bool × Addr)} {xss : List (List V)} {n : Nat} {g : TG} {tb : TS} {D : Ends} {σ : L2.St} {H : Hp} (hn : ∀ xs ∈ xss, xs.length = n) (hls : ls ≠ []) (Pv : Nat → L2.St → Hp → Prop) (h0 : Pv 0 σ H) (hq : ∀ i σ H, i ≤ n → Pv i σ H → Paired (SqB K H) ls xss)
    (hs : ∀ i T ys σ H, i < n → Paired (fun (xs : List V) y => xs[i]? = some y) xss ys → Pv i σ H → H T = none → g (.ref T) σ (upd H T (.tup ys)) fun σ2 H2 => tb { D with nx := Pv (i + 1), ct := Pv (i + 1), bk := D.nx } σ2 H2) (hd : ∀ σ H, Pv n σ H → D.nx σ H) :
    ∃ W : Nat → Nat → L2.St → Hp → Prop, (∃ m, W 0 m σ H) ∧ ∀ i m σ H, W i m σ H →
      ((ItN K ls).stop i H ∧ D.nx σ H) ∨ ((ItN K ls).go i H ∧ ∃ N : L2.St → Hp → Prop, (∀ σ' H', N σ' H' → ∃ m', m' < m ∧ W (i + 1) m' σ' H') ∧ ∀ x H', (ItN K ls).yld i H x H' → g x σ H' fun σ2 H2 => tb { D with nx := N, ct := N, bk := D.nx } σ2 H2) := by
  refine ⟨fun i m σ H => m = n - i ∧ i ≤ n ∧ Pv i σ H, ⟨n, by simp, Nat.zero_le _, h0⟩, ?_⟩
  rintro i m σ H ⟨rfl, hi, p⟩
  have pr := hq i σ H hi p
  by_cases hlt : i < n
  · refine .inr ⟨⟨xss, pr, fun xs hx => by rw [hn xs hx]; exact hlt⟩, Pv (i + 1), fun σ' H' p' => ⟨n - (i + 1), by omega, rfl, hlt, p'⟩, fun x H' y => ?_⟩
    obtain ⟨T, ys, rfl, nT, rfl, f⟩ := y
    exact hs i T ys σ H hlt (f xss pr) p nT
  · obtain rfl : i = n := by omega
    cases pr with
    | nil => exact absurd rfl hls
    | cons h r => exact .inl ⟨⟨_, _, _, rfl, h, Nat.le_of_eq (hn _ List.mem_cons_self)⟩, hd σ H p⟩
end Vf
set_option Elab.async false
set_option linter.all false
set_option maxRecDepth 100000
set_option maxHeartbeats 4000000
/-! list(reversed(a list)) -/
namespace Vf
open PySem PySem.Spec PyProof.Rows L2
abbrev RevAcc (its : Array Value) (acc : Array Value) : Prop := ItemsOf (fun i v => its[its.size - 1 - i]? = some v) acc its.size
section
variable {prog : Program} {w : World} {A : Around} {E : Value → Shared → Prop} {s : Shared} {I l S : Addr} {its : Array Value}
theorem ext_rev {R : Result → Shared → Prop} {r : Value} (hh : A.handled = none) (hI : s.heap.IsRevIter I l ((its.size : Int) - 1)) (hl : s.heap.IsList l its) (nI : l ≠ I) (SI : S ≠ I) (Sl : S ≠ l) (hn : its.size ≤ sizeLine) {c : Nat}
    (hS : s.heap.get? S = some { cls := .type "list", data := .seq #[] c }) (hR : ∀ h' tk acc c', (∀ b o, b ≠ S → b ≠ I → s.heap.get? b = some o → h'.get? b = some o) → h'.get? S = some { cls := .type "list", dict := none, data := .seq acc c', slots := #[] } → RevAcc its acc → R (.ok (.ret r)) { s with heap := h', toks := tk }) :
    wpAny (model prog w) A.in1 (Builtin.List.listExtendWith (.ref S) (.ref I) r)
      (fun fin s' => match fin with | .done f => R (.ok f) s' | .again c' => c'.quiet = true ∧ codeAny (model prog w) A c' R s') (fun e s' => R (.error e) s') s := by
  have Wk := (Walks.listRev (prog := prog) (w := w) (A := A.in1) hh I l nI its).toS
  have nf : S ∉ [I, l] := by simp [SI, Sl]
  have ty := Heap.IsRevIter.typeIs (s := s) hI
  have ns : Builtin.List.listSameRef (.ref S) (.ref I) = false := by simp [Builtin.List.listSameRef, SI]
  unfold Builtin.List.listExtendWith
  refine wpAny_bind (wpAny_typeOf ty ?_)
  rw [if_neg (by rw [ns]; decide)]
  refine wpAny_bind (wpAny_pyIter_revIter hI (wpAny_bind (wpAny_holding ?_)))
  unfold Builtin.List.listLengthHint
  refine wpAny_bind (wpAny_specialOf ty RT.nolen_lri ?_)
  show wpAny _ A.in1 (specialOf _ (Str.ofString "__length_hint__") >>= _) _ _ _
  refine wpAny_bind (wpAny_specialOf ty RT.hint_lri ?_)
  generalize hid : ("list_reverseiterator.__length_hint__" : String) = nm
  wp_delta
  rw [show splitId nm = some ("list_reverseiterator", "__length_hint__") by subst hid; decide +kernel]
  subst hid
  refine wpAny_bind (wpAny_isInstance (b := true) ty (by rw [isSubtype_type]; kernel_rfl) (wpAny_pure ?_))
  rw [if_neg (by decide)]
  have e0 : ((its.size : Nat) : Int) - 1 - ((0 : Nat) : Int) = (its.size : Int) - 1 := by omega
  refine wpAny_pure ⟨plainId_quiet F.plain_extend_loop _, codeAny_extend_loopS Wk hn _ nf _ its.size 0 _ _ _ rfl (Nat.zero_le _) ⟨Nat.zero_le _, (by rw [e0]; exact hI), hl⟩ hS (ItemsOf.nil _) fun s2 acc c2 mv hS2 hacc => ?_⟩
  rw [Moved.eq_with mv]
  refine hR s2.heap s2.toks acc c2 (fun b o b1 b2 e => mv.heap b o (fun m => ?_) e) hS2 hacc
  rcases List.mem_cons.mp m with z | m
  · exact b1 z
  · exact b2 (List.mem_singleton.mp m)
theorem init_rev {R : Result → Shared → Prop} (hh : A.handled = none) (hI : s.heap.IsRevIter I l ((its.size : Int) - 1)) (hl : s.heap.IsList l its) (nI : l ≠ I) (SI : S ≠ I) (Sl : S ≠ l) (hn : its.size ≤ sizeLine)
    (hS : s.heap.get? S = some { cls := .type "list", data := .seq #[] }) (hR : ∀ h' tk acc c', (∀ b o, b ≠ S → b ≠ I → s.heap.get? b = some o → h'.get? b = some o) → h'.get? S = some { cls := .type "list", dict := none, data := .seq acc c', slots := #[] } → RevAcc its acc → R (.ok (.ret .none)) { s with heap := h', toks := tk }) :
    wpAny (model prog w) A.in1 (Builtin.«list.__init__» ⟨[.ref S, .ref I], []⟩)
      (fun fin s' => match fin with | .done f => R (.ok f) s' | .again c' => c'.quiet = true ∧ codeAny (model prog w) A c' R s') (fun e s' => R (.error e) s') s := by
  show wpAny _ _ (do let old ← Builtin.List.listItems (.ref S); Builtin.List.listUpdate (.ref S) (fun _ => #[]); letGo old.toList.reverse; Builtin.List.listExtendWith (.ref S) (.ref I) .none) _ _ s
  refine wpAny_bind ?_
  unfold Builtin.List.listItems
  refine wpAny_bind (wpAny_seqItems hS rfl (wpAny_pure ?_))
  show wpAny _ _ (updateSeq S (fun _ => #[]) >>= fun _ => letGo (#[] : Array Value).toList.reverse >>= fun _ => Builtin.List.listExtendWith (.ref S) (.ref I) .none) _ _ s
  refine wpAny_bind (wpAny_updateSeq hS rfl (wpAny_bind (wpAny_letGo ?_)))
  have other : ∀ b o, b ≠ S → s.heap.get? b = some o → (s.heap.update S (Obj.mapSeq fun _ => (#[] : Array Value))).get? b = some o := fun b o hb e => (Heap.get?_update_other _ _ (Ne.symm hb)).trans e
  obtain ⟨ol, hol, cl⟩ := id hl
  refine ext_rev (s := { s with heap := s.heap.update S (Obj.mapSeq fun _ => (#[] : Array Value)) }) hh (hI.at fun o e => other I o SI.symm e) ⟨ol, other l ol Sl.symm hol, cl⟩ nI SI Sl hn (Heap.get?_update_self _ hS rfl) fun h' tk acc c' hk hS' hacc => hR h' tk acc c' (fun b o b1 b2 e => hk b o b1 b2 (other b o b1 e)) hS' hacc
theorem call_list_rev {Q : Value → Shared → Prop} (hh : A.handled = none) (hI : s.heap.IsRevIter I l ((its.size : Int) - 1)) (hl : s.heap.IsList l its) (nI : l ≠ I) (hn : its.size ≤ sizeLine)
    (hQ : ∀ h' tk acc c', (∀ b o, b ≠ I → s.heap.get? b = some o → h'.get? b = some o) → h'.get? s.heap.objs.size = some { cls := .type "list", dict := none, data := .seq acc c', slots := #[] } → RevAcc its acc → Q (.ref s.heap.objs.size) { s with heap := h', toks := tk }) :
    wpAny (model prog w) A (call (.type "list") [.ref I]) Q E s := by
  refine callType_codes (Q₁ := fun obj t => obj = .ref s.heap.objs.size ∧ t = { s with heap := s.heap.push { cls := .type "list", data := .seq #[] } }) F.called_list (F.typeCall_list_1 _) F.entry_list_init (code_list_new _ ⟨rfl, rfl⟩) fun obj t ht => ?_
  obtain ⟨rfl, rfl⟩ := ht
  have new : (s.heap.push { cls := .type "list", data := .seq #[] }).get? s.heap.objs.size = some { cls := .type "list", data := .seq #[] } := Heap.get?_push_size _ rfl
  obtain ⟨oi, hoi, _⟩ := id hI
  obtain ⟨ol, hol, _⟩ := id hl
  refine ⟨⟨_, new, rfl⟩, F.args_list_init_2 _ _, init_rev (A := A.in1) (s := { s with heap := s.heap.push { cls := .type "list", data := .seq #[] } }) hh (hI.at fun o e => Heap.get?_push_of_some _ e) (hl.push _) nI (Nat.ne_of_gt (Heap.lt_size hoi)) (Nat.ne_of_gt (Heap.lt_size hol)) hn new fun h' tk acc c' hk hS' hacc => ?_⟩
  exact ⟨rfl, hQ h' tk acc c' (fun b o b1 e => hk b o (Nat.ne_of_lt (Heap.lt_size e)) b1 (Heap.get?_push_of_some _ e)) hS' hacc⟩
end
def tLstRev (K : PySem.W.Frag) (te : TE) : TE := fun σ H Q => te σ H fun v H1 => ∃ (a : Addr) (xs : List V), v = .ref a ∧ SqL K H1 a xs ∧ ∀ q, H1 q = none → Q (.ref q) (upd H1 q (.lst xs.reverse))
theorem pe_lstRev {X : Cx} {e : Expr} {te : TE} {p p2 pos pos2 : Pos} (hc : X.calm = true) (hg : Gl X "list") (hm : X.mg "list" = none) (hg2 : Gl X "reversed") (hm2 : X.mg "reversed" = none) (he : PE X e te)
    (hs : starEach [e] X.env = (false, eval e X.env) :: starEach [] X.env := by rfl) (hs2 : starEach [.Call (.Name "reversed" p2) [e] [] pos2] X.env = (false, eval (.Call (.Name "reversed" p2) [e] [] pos2) X.env) :: starEach [] X.env := by rfl) :
    PE X (.Call (.Name "list" p) [.Call (.Name "reversed" p2) [e] [] pos2] [] pos) (tLstRev X.K te) := by
  refine ⟨fun pins s σ H Q I h => ?_⟩
  refine Call_ (ld_blt I hg hm Pv.boot_list (PyProof.Rows.callWith_type1 (args_cons (Call_ (ld_blt I hg2 hm2 PyProof.Rows.boot_reversed (PyProof.Rows.callWith_type1 (args_cons (thn (he.run pins s σ H _ I h) fun u t ⟨v, H1, I1, r1, q1⟩ => args_nil ?_) hs) hs rfl))) hs2) hs2 rfl))
  obtain ⟨a, xs, ev, hq, q⟩ := q1
  subst ev
  obtain rfl : u = Value.ref a := r1
  obtain ⟨vs, rv, pl, hz⟩ := I1.list hq
  have hl := pl.isList
  refine call_reversed_list hl (args_nil ?_)
  have I2 : Inv X pins σ H1 { t with heap := t.heap.push (revObj a ((vs.toArray.size : Int) - 1)) } := I1.kept (t' := t.toks) fun b o e => Heap.get?_push_of_some _ e
  obtain ⟨f0, f1, f2, f3, f4, f5⟩ := I1.fpOk (H' := H1) (b := t.heap.objs.size) (Nat.le_refl _) (I1.hok.fresh (Nat.le_refl _))
  obtain ⟨ol, hol, _⟩ := id hl
  refine call_list_rev (s := { t with heap := t.heap.push (revObj a ((vs.toArray.size : Int) - 1)) }) (I1.ok.hd hc) ⟨_, Heap.get?_push_size _ rfl, rfl, rfl⟩ (hl.push _) (Nat.ne_of_lt (Heap.lt_size hol)) (by rw [List.size_toArray, ← rv.length]; exact hz) fun h' tk acc c' hk hS' hacc => ?_
  have hn2 : H1 (t.heap.push (revObj a ((vs.toArray.size : Int) - 1))).objs.size = none := I2.hok.fresh (Nat.le_refl _)
  refine ⟨.ref _, upd H1 _ (.lst xs.reverse), ?_, rfl, q _ hn2⟩
  refine I2.turnedNew (t' := tk) (ch := [t.heap.objs.size]) (fun b o hb e => hk b o (fun z => hb (by simp [z])) e) (fun b hb => ?_) (Nat.le_refl _) ⟨by rw [List.length_reverse]; exact hz, acc.toList, c', RT.vals_rev rv hacc, ?_⟩
  · obtain rfl : b = t.heap.objs.size := by simpa using hb
    exact ⟨f0, f1, f2, f3, f4, f5⟩
  · rw [Array.toArray_toList]
    exact hS'
end Vf
namespace Vf
open PySem PySem.Spec PyProof.Rows L2
/-! ### sum of a list or a tuple of ints -/
theorem preSum_take (ns : List Int) : ∀ k : Nat, preSum (fun i => ns.getD i 0) k = (ns.take k).sum
  | 0 => rfl
  | k + 1 => by
    show preSum (fun i => ns.getD i 0) k + ns.getD k 0 = _
    rw [preSum_take ns k, List.take_add_one, List.sum_append, List.getD_eq_getElem?_getD]
    cases ns[k]? <;> simp
theorem ints_at : ∀ {vs : List Value} {ns : List Int} {i : Nat} {v : Value}, IntsAre vs ns → vs[i]? = some v → ∃ n, ns[i]? = some n ∧ ∃ t, v = .int n t
  | _, _, _, _, .nil, e => by simp at e
  | _, _, 0, _, .cons n t _, e => ⟨n, rfl, t, (Option.some.inj e).symm⟩
  | _, _, i + 1, v, .cons _ _ r, e => ints_at (i := i) (v := v) r e
theorem sum_tup {prog : Program} {w : World} {A : Around} {E : Value → Shared → Prop} {s : Shared} {l : Addr} {its : List Value} {ns : List Int} {Q : Value → Shared → Prop} (hh : A.handled = none) (hl : s.heap.IsTuple l its.toArray) (hi : IntsAre its ns)
    (h : ∀ h' tk t', (∀ b o, s.heap.get? b = some o → h'.get? b = some o) → Q (.int ns.sum t') { s with heap := h', toks := tk }) : wpAny (model prog w) A (call (.builtin "sum") [.ref l]) Q E s := by
  obtain ⟨ol, hol, _⟩ := id hl
  have nl : l ≠ s.heap.objs.size := Nat.ne_of_lt (Heap.lt_size hol)
  have len := hi.length
  refine call_sum_walkG (wpAny_pyIter_tuple hl ⟨s.heap.objs.size, [s.heap.objs.size, l], [s.heap.objs.size], _, _, _, (fun i => ns.getD i 0), rfl, Walks.tuple (A := A.in1) hh s.heap.objs.size l nl its.toArray, ⟨⟨_, Heap.get?_push_size _ rfl, rfl, rfl⟩, hl.push _⟩, fun b hb => ?_, fun i v e => ?_, fun h' tk t' hk => ?_⟩)
  · rw [Heap.size_push]
    rcases List.mem_cons.mp hb with rfl | hb
    · exact Nat.lt_succ_self _
    · obtain rfl : b = l := by simpa using hb
      exact Nat.lt_succ_of_lt (Heap.lt_size hol)
  · have e : its[i]? = some v := by simpa using e
    obtain ⟨n, hn, t, rfl⟩ := ints_at hi e
    exact ⟨t, by show _ = Value.int (ns.getD i 0) t; rw [List.getD_eq_getElem?_getD, hn]; rfl⟩
  · rw [preSum_take, List.take_of_length_le (by rw [List.size_toArray, len]; exact Nat.le_refl _)]
    exact h h' tk t' fun b o e => hk b o (fun z => by
      obtain rfl : b = s.heap.objs.size := by simpa using z
      exact absurd (Heap.lt_size e) (Nat.lt_irrefl _)) (Heap.get?_push_of_some _ e)
def rSumV (K : PySem.W.Frag) : List V → Hp → VK → Prop := fun vs H Q => ∃ (a : Addr) (ns : List Int), vs = [V.ref a] ∧ SqV K H a (ns.map V.int) ∧ Q (.int ns.sum) H
def rIxV (K : PySem.W.Frag) : R2 := fun x y H Q => ∃ p xs i v, x = .ref p ∧ y = .int i ∧ SqV K H p xs ∧ atI xs i = some v ∧ Q v H
section
variable {X : Cx} {K : PySem.W.Frag}
theorem sumVK (hK : X.K = K) (hc : X.calm = true) : CallR X (.builtin "sum") (rSumV K) := by
  subst hK
  intro pins s σ H vs us Q I r h
  obtain ⟨a, ns, rfl, hs, q⟩ := h
  rcases hs with hs | hs
  · exact cr_sum hc pins s σ H _ us Q I r ⟨a, ns, rfl, hs, q⟩
  · obtain ⟨its, rv, hl, _⟩ := I.tuple hs
    rw [Vals.ref1 r]
    exact sum_tup (I.ok.hd hc) hl rv.ints fun h' tk t' hk => ⟨.int _, H, I.kept hk, ⟨_, rfl⟩, q⟩
theorem ix_seqK (hK : X.K = K) : IxR X (rIxV K) := by
  subst hK
  intro value slice pins s σ H x y v u Q I rx ry h hs
  obtain ⟨p, xs, i, z, ex, ey, hq, he, q⟩ := h
  rcases hq with hq | hq
  · exact ix_list value slice pins s σ H x y v u Q I rx ry ⟨p, xs, i, z, ex, ey, hq, he, q⟩ hs
  · exact ix_tup value slice pins s σ H x y v u Q I rx ry ⟨p, xs, i, z, ex, ey, hq, he, q⟩ hs
end
theorem pe_lstRevK {X : Cx} {K : PySem.W.Frag} {e : Expr} {te : TE} {p p2 pos pos2 : Pos} (hK : X.K = K) (hc : X.calm = true) (hg : Gl X "list") (hm : X.mg "list" = none) (hg2 : Gl X "reversed") (hm2 : X.mg "reversed" = none) (he : PE X e te)
    (hs : starEach [e] X.env = (false, eval e X.env) :: starEach [] X.env := by rfl) (hs2 : starEach [.Call (.Name "reversed" p2) [e] [] pos2] X.env = (false, eval (.Call (.Name "reversed" p2) [e] [] pos2) X.env) :: starEach [] X.env := by rfl) :
    PE X (.Call (.Name "list" p) [.Call (.Name "reversed" p2) [e] [] pos2] [] pos) (tLstRev K te) := by
  subst hK
  exact pe_lstRev hc hg hm hg2 hm2 he hs hs2
theorem sl_listK {X : Cx} {K : PySem.W.Frag} (hK : X.K = K) : SlR X (rSlL K) := by subst hK; exact sl_list
/-! ### xs[i] op= e of a list -/
def rGetN (K : PySem.W.Frag) : V → V → Hp → VK → Prop := fun o i H Q => ∃ (p : Addr) (xs : List V) (j : Nat) (v : V), o = .ref p ∧ i = .int (j : Int) ∧ SqL K H p xs ∧ xs[j]? = some v ∧ Q v H
theorem get_listN {X : Cx} : PGet X (rGetN X.K) := by
  intro pins s σ H o i ov iv Q I r1 r2 h
  obtain ⟨p, xs, j, v, rfl, rfl, hq, hx, q⟩ := h
  obtain rfl : ov = Value.ref p := r1
  obtain ⟨t, rfl⟩ := r2
  obtain ⟨its, rv, pl, hz⟩ := I.list hq
  obtain ⟨u, hu, ru⟩ := rv.get hx
  have hj : j < xs.length := (List.getElem?_eq_some_iff.mp hx).1
  have ln := line63
  exact wpAny_getItem_list pl.isList (by omega) (by omega) (by rw [Int.toNat_natCast]; simpa using hu) ⟨v, H, I, ru, q⟩
/-! ### walks whose reading names the written part by a letter -/
section
variable {X : Cx} {K : PySem.W.Frag} {tg l : Expr} {tl : TE}
theorem pi_listK (hK : X.K = K) (hl : PE X l tl) : PI X tg l (iList K tl) := by subst hK; exact pi_list hl
theorem pi_seqK (hK : X.K = K) (hl : PE X l tl) : PI X tg l (iSeq K tl) := by subst hK; exact pi_seq hl
end
end Vf
set_option Elab.async false
set_option linter.all false
set_option maxRecDepth 100000
set_option maxHeartbeats 4000000
/-! sorted of a list or a tuple of ints -/
namespace Vf
open PySem PySem.Spec PyProof.Rows L2
section
variable {prog : Program} {w : World} {A : Around} {E : Value → Shared → Prop} {s : Shared}
/-- a tuple gathered into a new list -/
theorem collect_tup {t : Addr} {us : List Value} {R : List Value → Shared → Prop} (ht : s.heap.IsTuple t us.toArray) (hz : us.length ≤ sizeLine)
    (hR : R us { s with heap := (s.heap.push (seqObj "list" #[] 0)).update s.heap.objs.size (Obj.mapSeq (· ++ us.toArray)) }) : wpAny (model prog w) A (collect (.ref t)) R E s := by
  obtain ⟨ot, et, ct, k, dt⟩ := id ht
  unfold collect
  refine wpAny_bind (wpAny_runValue (codeAny_builtin PyProof.Rows.entry_proto_collect' ?_))
  show wpAny _ _ (do again (.builtin "list.__iadd__" ⟨[← newList [], .ref t], []⟩)) _ _ s
  refine wpAny_bind (wpAny_newList (wpAny_pure ⟨Code.quiet_builtin _ (by decide +kernel), codeAny_builtin PyProof.Rows.entry_list_iadd' ?_⟩))
  show wpAny _ _ (Builtin.List.listExtendWith (.ref s.heap.objs.size) (.ref t) (.ref s.heap.objs.size)) _ _ { s with heap := s.heap.push (seqObj "list" #[] 0) }
  unfold Builtin.List.listExtendWith
  have et2 : (s.heap.push (seqObj "list" #[] 0)).get? t = some ot := Heap.get?_push_of_some _ et
  refine wpAny_bind (wpAny_typeOf (T := "tuple") ⟨ot, et2, ct⟩ ?_)
  have hty : (Value.type "tuple" == Value.type "tuple") = true := by rfl
  rw [if_pos (by rw [hty]; simp)]
  refine wpAny_bind (listItems_at et2 dt ?_)
  refine wpAny_bind (listItems_at (n := 0) (xs := #[]) (Heap.get?_push_size _ rfl) rfl ?_)
  rw [if_neg (by simp)]
  refine wpAny_bind (listUpdate_at (n := 0) (xs := #[]) (Heap.get?_push_size _ rfl) rfl ?_ (Nat.zero_le _) ?_)
  rotate_left
  · show (#[] ++ us.toArray).size ≤ sizeLine + 1
    simp only [Array.size_append, List.size_toArray, List.length_nil]
    omega
  refine wpAny_pure ?_
  show wpAny (model prog w) A (do
      let y ← load s.heap.objs.size
      match y.data with
      | .seq ys _ => pure ys.toList
      | _ => unsupported "internal:collect") R E { s with heap := (s.heap.push (seqObj "list" #[] 0)).update s.heap.objs.size (Obj.mapSeq (· ++ us.toArray)) }
  refine wpAny_bind (wpAny_load (get?_update_seq (Heap.get?_push_size _ rfl) _) ?_)
  show wpAny _ _ (pure ((#[] : Array Value) ++ us.toArray).toList) R E _
  have e : ((#[] : Array Value) ++ us.toArray).toList = us := by simp
  rw [e]
  exact wpAny_pure hR
theorem sorted_tup {t : Addr} {us : List Value} {ns : List Int} {R : Value → Shared → Prop} (ht : s.heap.IsTuple t us.toArray) (hI : IntsAre us ns) (hz : us.length ≤ sizeLine)
    (hR : ∀ (out : Array Value) (ms : List Int), IntsAre out.toList ms → ms.Perm ns → ms.Pairwise (· ≤ ·) → R (.ref (s.heap.objs.size + 1)) { s with heap := sortedAll s.heap us out }) :
    wpAny (model prog w) A (call (.builtin "sorted") [.ref t]) R E s := by
  refine Calls.call_function_entry kind_sorted plain_sorted PyProof.Rows.entry_sorted (args_sorted1 _) ?_
  unfold Builtin.«sorted»
  refine wpAny_bind (m := checkCount "sorted" 1 1 _) (wpAny_pure ?_)
  refine wpAny_bind (collect_tup ht hz ?_)
  refine wpAny_bind (wpAny_newList ?_ hz)
  have sz : ((s.heap.push (seqObj "list" #[] 0)).update s.heap.objs.size (Obj.mapSeq (· ++ us.toArray))).objs.size = s.heap.objs.size + 1 := by rw [Heap.size_update, size_push']
  have at1 : (((s.heap.push (seqObj "list" #[] 0)).update s.heap.objs.size (Obj.mapSeq (· ++ us.toArray))).push (seqObj "list" us.toArray 0)).get? (s.heap.objs.size + 1) = some (seqObj "list" us.toArray 0) := by rw [← sz]; exact Heap.get?_push_size _ rfl
  show wpAny _ _ _ _ _ { s with heap := ((s.heap.push (seqObj "list" #[] 0)).update s.heap.objs.size (Obj.mapSeq (· ++ us.toArray))).push (seqObj "list" us.toArray 0) }
  rw [sz]
  refine wpAny_bind (wpAny_holding (wpAny_call_entry slot_list_sort ⟨_, at1, rfl⟩ PyProof.Rows.entry_list_sort (list_sort_treeAny at1 hI hz fun out ms a1 a2 a3 => ⟨_, rfl, ?_⟩) (args_list_sort _)))
  exact wpAny_pure ⟨_, rfl, hR out ms a1 a2 a3⟩
end
def rSortedV (K : PySem.W.Frag) : List V → Hp → VK → Prop := fun vs H Q => ∃ (a : Addr) (ns : List Int), vs = [V.ref a] ∧ SqV K H a (ns.map V.int) ∧ ∀ (ms : List Int) (p : Addr), ms.Perm ns → ms.Pairwise (· ≤ ·) → H p = none → Q (.ref p) (upd H p (.lst (ms.map V.int)))
theorem sortedVK {X : Cx} {K : PySem.W.Frag} (hK : X.K = K) : CallR X (.builtin "sorted") (rSortedV K) := by
  subst hK
  intro pins s σ H vs us Q I r h
  obtain ⟨a, ns, rfl, hs, q⟩ := h
  rcases hs with hs | hs
  · exact cr_sortedI pins s σ H _ us Q I r ⟨a, ns, rfl, hs, q⟩
  · obtain ⟨its, rv, hl, hz⟩ := I.tuple hs
    rw [Vals.ref1 r]
    have hz2 : its.length ≤ sizeLine := by rw [← rv.length]; exact hz
    refine sorted_tup hl rv.ints hz2 fun out ms h1 h2 h3 => ?_
    obtain ⟨ep, he⟩ := PyProof.Rows.sortedAll_at s.heap its out
    have hlen : (ms.map V.int).length ≤ sizeLine := by rw [List.length_map, h2.length_eq, ← rv.ints.length]; exact hz2
    exact ⟨.ref _, upd H (s.heap.objs.size + 1) (.lst (ms.map V.int)), I.laid (t' := s.toks) (fun _ _ => PyProof.Rows.sortedAll_old) (Nat.le_succ _) ⟨hlen, out.toList, ep, vals_of_ints h1, he⟩, rfl, q ms _ h2 h3 (I.hok.fresh (Nat.le_succ _))⟩
/-! ### methods of built-in types, the written part a letter -/
section
variable {X : Cx} {K : PySem.W.Frag} {T id : String} {name : Str} {o e : Expr} {es : List Expr} {to : TE} {t : TA} {r : V → List V → Hp → VK → Prop} {apos cpos : Pos}
theorem pe_bmK (hK : X.K = K) (pa : PlainAttrs T) (slot : Slot T name id) (hty : typeOf (.builtin id) = pure (.type "method_descriptor")) (hm : MtR X id r) (ho : PE X o to) (ha : PA X (e :: es) t)
    (h1 : attributeBase o name X.env (eval o X.env) = eval o X.env := by rfl)
    (h2 : ((backTo cpos (starEach (e :: es) X.env)).all (fun x => !x.1) && (backToKw cpos (keywordEach [] X.env)).all (fun x => x.1.isSome) && decide ((e :: es).length + ([] : List Keyword).length + (if ([] : List Keyword).isEmpty then 0 else 1) < 30)) = true := by rfl)
    (h3 : (apos.endLine == cpos.line) = true := by rfl) (h4 : starEach (e :: es) X.env = (false, eval e X.env) :: starEach es X.env := by rfl) (h5 : (backTo cpos (starEach es X.env)).any (·.1) = false := by rfl) :
    PE X (.Call (.Attribute o name apos) (e :: es) [] cpos) (tBM K T r to t) := by
  subst hK
  exact pe_bm pa slot hty hm ho ha h1 h2 h3 h4 h5
theorem mt_indexK (hK : X.K = K) : MtR X "list.index" (rIndex K) := by subst hK; exact mt_index
end
end Vf
set_option Elab.async false
set_option linter.all false
set_option maxRecDepth 100000
set_option maxHeartbeats 4000000
/-! walks by one word: a list or a tuple, a pair of such zipped; comprehensions with two clauses. -/
namespace Vf
open PySem PySem.Spec PyProof.Rows L2 RZ
section
variable {K : PySem.W.Frag} {a b : Addr} {xs ys : List V} {H1 : Hp}
theorem walk_zipT {n : Nat} (hn : n = min xs.length ys.length) : Walk (ItzT K a b) n (fun H => SqT K H a xs ∧ SqT K H b ys) (YPair (fun i => xs[i]?) (fun i => ys[i]?)) := by
  subst hn
  refine ⟨fun i _ hi q => ?_, fun _ q => ⟨xs, ys, q.1, q.2, by omega⟩, fun i H v H' _ q y => ?_⟩
  · have h1 : i < xs.length := by omega
    have h2 : i < ys.length := by omega
    exact ⟨xs, ys, xs[i], ys[i], q.1, q.2, by simp [h1], by simp [h2]⟩
  · obtain ⟨T, x, z, h1, h2, h3, h4, h5⟩ := y
    exact ⟨T, x, z, h1, h2, h3, h4 xs q.1, h5 ys q.2⟩
/-- what iSeq asks, by any walk over the items -/
theorem seq_of {R : It → Hp → Prop} (h : SqV K H1 a xs) (k : ∀ (J : It) (G : Hp → Prop), Walk J xs.length G (YAt xs) → (∀ H', Same H1 H' → G H') → R J H1) :
    ∃ a', V.ref a = .ref a' ∧ (((∃ xs, SqL K H1 a' xs) ∧ R (Itl K a') H1) ∨ ((∃ xs, SqT K H1 a' xs) ∧ R (Itt K a') H1)) := by
  rcases h with h | h
  · exact ⟨a, rfl, .inl ⟨⟨_, h⟩, k _ _ walk_list fun H' s => s.seq h⟩⟩
  · exact ⟨a, rfl, .inr ⟨⟨_, h⟩, k _ _ walk_tup fun H' s => Same.seqT s h⟩⟩
/-- the same, of a list or a tuple that was there ahead -/
theorem seq_at {H0 : Hp} {R : It → Hp → Prop} (h : SqV K H0 a xs) (s : Same H0 H1) (k : ∀ (J : It) (G : Hp → Prop), Walk J xs.length G (YAt xs) → (∀ H', Same H0 H' → G H') → R J H1) :
    ∃ a', V.ref a = .ref a' ∧ (((∃ xs, SqL K H1 a' xs) ∧ R (Itl K a') H1) ∨ ((∃ xs, SqT K H1 a' xs) ∧ R (Itt K a') H1)) := by
  rcases h with h | h
  · exact ⟨a, rfl, .inl ⟨⟨_, s.seq h⟩, k _ _ walk_list fun H' s => s.seq h⟩⟩
  · exact ⟨a, rfl, .inr ⟨⟨_, Same.seqT s h⟩, k _ _ walk_tup fun H' s => Same.seqT s h⟩⟩
/-- two lists, or two tuples -/
def SqV2 (K : PySem.W.Frag) (H : Hp) (a b : Addr) (xs ys : List V) : Prop := (SqL K H a xs ∧ SqL K H b ys) ∨ (SqT K H a xs ∧ SqT K H b ys)
theorem zip_of {R : It → Hp → Prop} (h : SqV2 K H1 a b xs ys) (k : ∀ (J : It) (G : Hp → Prop), Walk J (min xs.length ys.length) G (YPair (fun i => xs[i]?) (fun i => ys[i]?)) → (∀ H', Same H1 H' → G H') → R J H1) :
    ∃ a' b' xs ys, [V.ref a, V.ref b] = [.ref a', .ref b'] ∧ ((SqL K H1 a' xs ∧ SqL K H1 b' ys ∧ R (Itz K a' b') H1) ∨ (SqT K H1 a' xs ∧ SqT K H1 b' ys ∧ R (ItzT K a' b') H1)) := by
  rcases h with h | h
  · exact ⟨a, b, xs, ys, rfl, .inl ⟨h.1, h.2, k _ _ (walk_zip rfl) fun H' s => ⟨s.seq h.1, s.seq h.2⟩⟩⟩
  · exact ⟨a, b, xs, ys, rfl, .inr ⟨h.1, h.2, k _ _ (walk_zipT rfl) fun H' s => ⟨Same.seqT s h.1, Same.seqT s h.2⟩⟩⟩
/-- a slice of a list or a tuple -/
def rSlV (K : PySem.W.Frag) : V → Option Int → Option Int → Hp → VK → Prop := fun x lo hi H Q => ∃ a xs, x = .ref a ∧ SqV K H a xs ∧ ∀ (H' : Hp) (p : Addr), Same H H' → SqV2 K H' a p xs (cutV xs lo hi) → Q (.ref p) H'
theorem cut_whole {lo hi : Option Int} (h : HT.sIx xs.length 0 lo = 0 ∧ HT.sIx xs.length xs.length hi = xs.length) : cutV xs lo hi = xs := by
  unfold cutV
  rw [h.1, h.2, List.drop_zero, Nat.sub_zero, List.take_length]
theorem sl_seqK {X : Cx} (hK : X.K = K) : SlR X (rSlV K) := by
  subst hK
  intro pins s σ H x v vl vu lo hi sl Q I rx hs pl pu h
  refine (sl_list.or sl_tupA) pins s σ H x v vl vu lo hi sl Q I rx hs pl pu ?_
  obtain ⟨a, xs, rfl, hS, q⟩ := h
  rcases hS with hS | hS
  · exact .inl ⟨a, xs, rfl, hS, fun p np => q _ p (same_upd np) (.inl ⟨(same_upd np).seq hS, SqL.of upd_same⟩)⟩
  · exact .inr ⟨a, xs, rfl, hS, fun e => q _ a (Same.refl _) (.inr ⟨hS, by rw [cut_whole e]; exact hS⟩), fun _ p np => q _ p (same_upd np) (.inr ⟨Same.seqT (same_upd np) hS, SqT.of upd_same⟩)⟩
end
section
variable {J : It} {n : Nat} {G : Hp → Prop} {Y : Nat → Hp → V → Hp → Prop}
theorem lc2_in (w : Walk J n G Y) {g1 : TG} {tt1 : TT} {te : TE} {vs1 : List Nat} {σ2 : L2.St} {H4 : Hp} {D : Addr} {Nx : Hp → Prop} (Pv : Nat → Hp → Prop) (h0 : Pv 0 H4) (hG : ∀ i H, i ≤ n → Pv i H → G H)
    (hs : ∀ i x H H', i < n → Pv i H → Y i H x H' → g1 x (wipe σ2 vs1) H' fun σ3 H5 => wipe σ3 vs1 = wipe σ2 vs1 ∧ tt1 σ3 H5 fun b H6 =>
      if b = true then te σ3 H6 fun y H7 => ∃ acc, H7 D = some (.lst acc) ∧ acc.length < sizeLine ∧ Pv (i + 1) (upd H7 D (.lst (acc ++ [y]))) else Pv (i + 1) H6) (hd : ∀ H, Pv n H → Nx H) :
    ∃ W1 : Nat → Nat → Hp → Prop, (∃ m, W1 0 m H4) ∧ ∀ j k H, W1 j k H →
      (J.stop j H ∧ Nx H) ∨ (J.go j H ∧ ∃ Nx1 : Hp → Prop, (∀ H', Nx1 H' → ∃ k', k' < k ∧ W1 (j + 1) k' H') ∧ ∀ x H', J.yld j H x H' → g1 x (wipe σ2 vs1) H' fun σ3 H5 => wipe σ3 vs1 = wipe σ2 vs1 ∧ tt1 σ3 H5 fun b H6 =>
        if b = true then te σ3 H6 fun y H7 => ∃ acc, H7 D = some (.lst acc) ∧ acc.length < sizeLine ∧ Nx1 (upd H7 D (.lst (acc ++ [y]))) else Nx1 H6) := by
  refine ⟨fun i m H => m = n - i ∧ i ≤ n ∧ Pv i H, ⟨n, by simp, Nat.zero_le _, h0⟩, ?_⟩
  rintro i m H ⟨rfl, hi, p⟩
  have q := hG i H hi p
  by_cases hlt : i < n
  · exact .inr ⟨w.goes i H hlt q, Pv (i + 1), fun H' p' => ⟨n - (i + 1), by omega, rfl, hlt, p'⟩, fun x H' y => hs i x H H' hlt p (w.yields i H x H' hlt q y)⟩
  · have e : i = n := by omega
    subst e
    exact .inl ⟨w.stops H q, hd H p⟩
theorem lc2_it (w : Walk J n G Y) {g : TG} {tt : TT} {wi1 : TI} {g1 : TG} {tt1 : TT} {te : TE} {vs vs1 : List Nat} {σ : L2.St} {H1 : Hp} {D : Addr} {Qd : Hp → Prop} (Pv : Nat → Hp → Prop) (h0 : Pv 0 (upd H1 D (.lst []))) (hG : ∀ i H, i ≤ n → Pv i H → G H)
    (hs : ∀ i x H H', i < n → Pv i H → Y i H x H' → g x (wipe σ vs) H' fun σ2 H2 => wipe σ2 vs = wipe σ vs ∧ tt σ2 H2 fun b H3 =>
      if b = true then wi1 σ2 H3 fun J1 H4 => ∃ W1 : Nat → Nat → Hp → Prop, (∃ m, W1 0 m H4) ∧ ∀ j k H, W1 j k H →
        (J1.stop j H ∧ Pv (i + 1) H) ∨ (J1.go j H ∧ ∃ Nx1 : Hp → Prop, (∀ H', Nx1 H' → ∃ k', k' < k ∧ W1 (j + 1) k' H') ∧ ∀ x H', J1.yld j H x H' → g1 x (wipe σ2 vs1) H' fun σ3 H5 => wipe σ3 vs1 = wipe σ2 vs1 ∧ tt1 σ3 H5 fun b H6 =>
          if b = true then te σ3 H6 fun y H7 => ∃ acc, H7 D = some (.lst acc) ∧ acc.length < sizeLine ∧ Nx1 (upd H7 D (.lst (acc ++ [y]))) else Nx1 H6)
      else Pv (i + 1) H3) (hd : ∀ H, Pv n H → Qd H) :
    ∃ W : Nat → Nat → Hp → Prop, (∃ m, W 0 m (upd H1 D (.lst []))) ∧ ∀ i m H, W i m H →
      (J.stop i H ∧ Qd H) ∨ (J.go i H ∧ ∃ Nx : Hp → Prop, (∀ H', Nx H' → ∃ m', m' < m ∧ W (i + 1) m' H') ∧ ∀ x H', J.yld i H x H' → g x (wipe σ vs) H' fun σ2 H2 => wipe σ2 vs = wipe σ vs ∧ tt σ2 H2 fun b H3 =>
        if b = true then wi1 σ2 H3 fun J1 H4 => ∃ W1 : Nat → Nat → Hp → Prop, (∃ m, W1 0 m H4) ∧ ∀ j k H, W1 j k H →
          (J1.stop j H ∧ Nx H) ∨ (J1.go j H ∧ ∃ Nx1 : Hp → Prop, (∀ H', Nx1 H' → ∃ k', k' < k ∧ W1 (j + 1) k' H') ∧ ∀ x H', J1.yld j H x H' → g1 x (wipe σ2 vs1) H' fun σ3 H5 => wipe σ3 vs1 = wipe σ2 vs1 ∧ tt1 σ3 H5 fun b H6 =>
            if b = true then te σ3 H6 fun y H7 => ∃ acc, H7 D = some (.lst acc) ∧ acc.length < sizeLine ∧ Nx1 (upd H7 D (.lst (acc ++ [y]))) else Nx1 H6)
        else Nx H3) := by
  refine ⟨fun i m H => m = n - i ∧ i ≤ n ∧ Pv i H, ⟨n, by simp, Nat.zero_le _, h0⟩, ?_⟩
  rintro i m H ⟨rfl, hi, p⟩
  have q := hG i H hi p
  by_cases hlt : i < n
  · exact .inr ⟨w.goes i H hlt q, Pv (i + 1), fun H' p' => ⟨n - (i + 1), by omega, rfl, hlt, p'⟩, fun x H' y => hs i x H H' hlt p (w.yields i H x H' hlt q y)⟩
  · have e : i = n := by omega
    subst e
    exact .inl ⟨w.stops H q, hd H p⟩
end
end Vf
set_option Elab.async false
set_option linter.all false
set_option maxRecDepth 100000
set_option maxHeartbeats 4000000
/-! data off some cells that move; comprehensions that grow data. -/
namespace Vf
open PySem PySem.Spec PyProof.Rows L2 RZ
/-- all but S is as it was -/
def Kb (S : List Addr) (H H' : Hp) : Prop := ∀ b o, H b = some o → b ∉ S → H' b = some o
theorem Kb.refl {S : List Addr} {H : Hp} : Kb S H H := fun _ _ e _ => e
theorem Kb.trans {S : List Addr} {H H1 H2 : Hp} (a : Kb S H H1) (b : Kb S H1 H2) : Kb S H H2 := fun c o e n => b c o (a c o e n) n
theorem Kb.ofSame {S : List Addr} {H H1 : Hp} (s : Same H H1) : Kb S H H1 := fun c o e _ => s c o e
theorem Kb.same {S : List Addr} {H H1 H2 : Hp} (a : Kb S H H1) (s : Same H1 H2) : Kb S H H2 := a.trans (.ofSame s)
theorem Kb.mono {S S' : List Addr} {H H1 : Hp} (a : Kb S H H1) (h : ∀ x ∈ S, x ∈ S') : Kb S' H H1 := fun c o e n => a c o e fun z => n (h c z)
theorem Kb.cons {S : List Addr} {x : Addr} {H H1 : Hp} (a : Kb S H H1) : Kb (x :: S) H H1 := a.mono fun _ h => List.mem_cons_of_mem _ h
theorem Kb.put {S : List Addr} {p : Addr} {o : HO} {H H1 : Hp} (a : Kb S H H1) (n : H p = none) : Kb S H (upd H1 p o) := fun c u e h => by
  rw [upd_ne (ne_of_none e n)]; exact a c u e h
theorem Kb.set {S : List Addr} {p : Addr} {o : HO} {H H1 : Hp} (a : Kb S H H1) (h : p ∈ S) : Kb S H (upd H1 p o) := fun c u e n => by
  rw [upd_ne (fun z => n (by rw [z]; exact h))]; exact a c u e n
theorem Kb.drop {S : List Addr} {x : Addr} {H H1 : Hp} (a : Kb (x :: S) H H1) (n : H x = none) : Kb S H H1 := fun c o e h => a c o e fun z => by
  rcases List.mem_cons.mp z with z | z
  · rw [z, n] at e; cases e
  · exact h z
theorem Kb.toSame {H H1 : Hp} (a : Kb [] H H1) : Same H H1 := fun c o e => a c o e fun z => nomatch z
def RpO (S : List Addr) (K : PySem.W.Frag) (H : Hp) (v : V) (d : Dt) : Prop := ∀ H', Kb S H H' → Rp K H' v d
def RpLO (S : List Addr) (K : PySem.W.Frag) (H : Hp) (v : List V) (d : List Dt) : Prop := ∀ H', Kb S H H' → RpL K H' v d
section
variable {S : List Addr} {K : PySem.W.Frag} {H H1 : Hp}
theorem RpO.rp {v : V} {d : Dt} (r : RpO S K H v d) : Rp K H v d := r H .refl
theorem RpLO.rp {v : List V} {d : List Dt} (r : RpLO S K H v d) : RpL K H v d := r H .refl
theorem RpO.kb {v : V} {d : Dt} (r : RpO S K H v d) (k : Kb S H H1) : RpO S K H1 v d := fun H' k' => r H' (k.trans k')
theorem RpLO.kb {v : List V} {d : List Dt} (r : RpLO S K H v d) (k : Kb S H H1) : RpLO S K H1 v d := fun H' k' => r H' (k.trans k')
theorem RpO.less {S' : List Addr} {v : V} {d : Dt} (r : RpO S K H v d) (h : ∀ x ∈ S', x ∈ S) : RpO S' K H v d := fun H' k' => r H' (k'.mono h)
theorem RpLO.less {S' : List Addr} {v : List V} {d : List Dt} (r : RpLO S K H v d) (h : ∀ x ∈ S', x ∈ S) : RpLO S' K H v d := fun H' k' => r H' (k'.mono h)
theorem RpO.int (i : Int) : RpO S K H (.int i) (.int i) := fun _ _ => .int i
theorem RpO.bl (b : Bool) : RpO S K H (.bl b) (.bl b) := fun _ _ => .bl b
theorem RpO.non : RpO S K H .non .non := fun _ _ => .non
theorem RpO.str (z : Str) : RpO S K H (.str z) (.str z) := fun _ _ => .str z
theorem RpO.lst {p : Addr} {xs : List V} {l : List Dt} (hp : H p = some (.lst xs)) (n : p ∉ S) (r : RpLO S K H xs l) : RpO S K H (.ref p) (.lst l) := fun H' k => .lst (SqL.of (k _ _ hp n)) (r H' k)
theorem RpO.tup {p : Addr} {xs : List V} {l : List Dt} (hp : H p = some (.tup xs)) (n : p ∉ S) (r : RpLO S K H xs l) : RpO S K H (.ref p) (.tup l) := fun H' k => .tup (SqT.of (k _ _ hp n)) (r H' k)
theorem RpLO.nil : RpLO S K H [] [] := fun _ _ => .nil
theorem RpLO.cons {v : V} {d : Dt} {vs : List V} {ds : List Dt} (r : RpO S K H v d) (q : RpLO S K H vs ds) : RpLO S K H (v :: vs) (d :: ds) := fun H' k => .cons (r H' k) (q H' k)
theorem rpl_app : ∀ {vs vs' : List V} {ds ds' : List Dt}, RpL K H vs ds → RpL K H vs' ds' → RpL K H (vs ++ vs') (ds ++ ds')
  | _, _, _, _, .nil, r => r
  | _, _, _, _, .cons h q, r => .cons h (rpl_app q r)
theorem RpLO.append {vs vs' : List V} {ds ds' : List Dt} (r : RpLO S K H vs ds) (q : RpLO S K H vs' ds') : RpLO S K H (vs ++ vs') (ds ++ ds') := fun H' k => rpl_app (r H' k) (q H' k)
theorem RpLO.length {vs : List V} {ds : List Dt} (r : RpLO S K H vs ds) : vs.length = ds.length := r.rp.length
theorem rpl_get : ∀ {v : List V} {d : List Dt} {i : Nat} {y : Dt}, RpL K H v d → d[i]? = some y → ∃ x, v[i]? = some x ∧ Rp K H x y
  | _, _, _, _, .nil, e => by simp at e
  | _, _, 0, _, .cons h _, e => by
    obtain rfl := Option.some.inj e
    exact ⟨_, rfl, h⟩
  | _, _, i + 1, y, .cons _ r, e => rpl_get (i := i) (y := y) r e
theorem rpl_intsV : ∀ ns : List Int, RpL K H (ns.map V.int) (ns.map Dt.int)
  | [] => .nil
  | n :: ns => .cons (.int n) (rpl_intsV ns)
theorem RpLO.ints (ns : List Int) : RpLO S K H (ns.map V.int) (ns.map Dt.int) := fun _ _ => rpl_intsV ns
theorem rpl_ints : ∀ {xs : List V} {ns : List Int}, RpL K H xs (ns.map Dt.int) → xs = ns.map V.int
  | _, [], r => by cases r; rfl
  | _, n :: ns, r => by
    cases r with
    | cons h q =>
      cases h
      rw [rpl_ints q]; rfl
theorem rpl_bls : ∀ {xs : List V} {ns : List Bool}, RpL K H xs (ns.map Dt.bl) → xs = ns.map V.bl
  | _, [], r => by cases r; rfl
  | _, n :: ns, r => by
    cases r with
    | cons h q =>
      cases h
      rw [rpl_bls q]; rfl
/-- a list of ints at an address -/
theorem rp_intL {v : V} {ns : List Int} (r : Rp K H v (.lst (ns.map Dt.int))) : ∃ a, v = .ref a ∧ SqL K H a (ns.map V.int) := by
  cases r with
  | lst h q => exact ⟨_, rfl, by rw [← rpl_ints q]; exact h⟩
theorem rp_intT {v : V} {ns : List Int} (r : Rp K H v (.tup (ns.map Dt.int))) : ∃ a, v = .ref a ∧ SqT K H a (ns.map V.int) := by
  cases r with
  | tup h q => exact ⟨_, rfl, by rw [← rpl_ints q]; exact h⟩
theorem rp_lst {v : V} {l : List Dt} (r : Rp K H v (.lst l)) : ∃ a xs, v = .ref a ∧ SqL K H a xs ∧ RpL K H xs l := by
  cases r with
  | lst h q => exact ⟨_, _, rfl, h, q⟩
theorem rp_tup {v : V} {l : List Dt} (r : Rp K H v (.tup l)) : ∃ a xs, v = .ref a ∧ SqT K H a xs ∧ RpL K H xs l := by
  cases r with
  | tup h q => exact ⟨_, _, rfl, h, q⟩
end
theorem list_det {α : Type} {l ds : List α} (hl : l.length = ds.length) (h : ∀ (i : Nat) (d : α), l[i]? = some d → ds[i]? = some d) : l = ds := by
  refine List.ext_getElem hl fun i h1 h2 => ?_
  have := h i _ (List.getElem?_eq_getElem h1)
  rw [List.getElem?_eq_getElem h2] at this
  exact (Option.some.inj this).symm
theorem map_of {α β : Type} {f : α → β} {P : α → Prop} : ∀ {l : List β}, (∀ (j : Nat) (d : β), l[j]? = some d → ∃ c, d = f c ∧ P c) → ∃ m : List α, l = m.map f ∧ ∀ c ∈ m, P c
  | [], _ => ⟨[], rfl, fun _ z => nomatch z⟩
  | b :: l, h => by
    obtain ⟨m, e, hm⟩ := map_of (l := l) fun j d e => h (j + 1) d (by simpa using e)
    obtain ⟨c, rfl, hc⟩ := h 0 b rfl
    refine ⟨c :: m, by rw [e]; rfl, fun x hx => ?_⟩
    rcases List.mem_cons.mp hx with rfl | hx
    · exact hc
    · exact hm x hx
/-- a list at D that grows, its items data -/
def Grow (K : PySem.W.Frag) (S : List Addr) (Iv : Hp → Prop) (P : Nat → Dt → Prop) (D : Addr) (H1 : Hp) (i : Nat) (H' : Hp) : Prop :=
  Kb S H1 H' ∧ Iv H' ∧ ∃ (xs : List V) (l : List Dt), H' D = some (.lst xs) ∧ l.length = i ∧ (∀ (j : Nat) (d : Dt), l[j]? = some d → P j d) ∧ RpLO (D :: S) K H' xs l
section
variable {K : PySem.W.Frag} {S : List Addr} {Iv : Hp → Prop} {P : Nat → Dt → Prop} {D : Addr} {H1 H' H4 : Hp} {i : Nat}
theorem Grow.start (nD : H1 D = none) (iv : Iv (upd H1 D (.lst []))) : Grow K S Iv P D H1 0 (upd H1 D (.lst [])) := ⟨Kb.refl.put nD, iv, [], [], upd_same, rfl, (fun j d e => by simp at e), .nil⟩
theorem Grow.kb (g : Grow K S Iv P D H1 i H') : Kb S H1 H' := g.1
theorem Grow.iv (g : Grow K S Iv P D H1 i H') : Iv H' := g.2.1
theorem Grow.at_ (g : Grow K S Iv P D H1 i H') : ∃ xs, H' D = some (.lst xs) := let ⟨_, _, xs, _, e, _⟩ := g; ⟨xs, e⟩
theorem Grow.ne (g : Grow K S Iv P D H1 i H') {p : Addr} (n : H' p = none) : p ≠ D := fun z => by obtain ⟨xs, e⟩ := g.at_; rw [z, e] at n; cases n
theorem Grow.step (g : Grow K S Iv P D H1 i H') (nD : H1 D = none) (DS : D ∉ S) (hi : i < 1000) (kb4 : Kb S H' H4) {y : V} {d : Dt} (hp : P i d) (r4 : RpO (D :: S) K H4 y d) (iv : ∀ acc, Iv (upd H4 D (.lst acc))) :
    ∃ acc, H4 D = some (.lst acc) ∧ acc.length < sizeLine ∧ Grow K S Iv P D H1 (i + 1) (upd H4 D (.lst (acc ++ [y]))) := by
  obtain ⟨kb, iv', xs, l, hD, hl, hP, hR⟩ := g
  refine ⟨xs, kb4 _ _ hD DS, ?_, (kb.trans kb4).put nD, iv _, xs ++ [y], l ++ [d], upd_same, by rw [List.length_append, hl]; rfl, fun j d' e => ?_, ?_⟩
  · rw [hR.length, hl]
    exact Nat.lt_of_lt_of_le (show i < 1000 by omega) (by decide)
  · by_cases hj : j < l.length
    · rw [List.getElem?_append_left hj] at e
      exact hP j d' e
    · rw [List.getElem?_append_right (by omega)] at e
      have hj0 : j - l.length = 0 := by
        cases q : j - l.length with
        | zero => rfl
        | succ k => rw [q] at e; simp at e
      rw [hj0] at e
      obtain rfl := Option.some.inj e
      have : j = i := by omega
      subst this
      exact hp
  · have k5 : Kb (D :: S) H4 (upd H4 D (.lst (xs ++ [y]))) := Kb.refl.set List.mem_cons_self
    exact ((hR.kb kb4.cons).kb k5).append (.cons (r4.kb k5) .nil)
theorem Grow.fin (g : Grow K S Iv P D H1 i H') : ∃ (xs : List V) (l : List Dt), H' D = some (.lst xs) ∧ l.length = i ∧ (∀ (j : Nat) (d : Dt), l[j]? = some d → P j d) ∧ RpLO (D :: S) K H' xs l := g.2.2
/-- the items are told one by one -/
theorem Grow.det {ds : List Dt} (g : Grow K S Iv (fun i d => ds[i]? = some d) D H1 ds.length H') : ∃ xs : List V, H' D = some (.lst xs) ∧ RpLO (D :: S) K H' xs ds := by
  obtain ⟨xs, l, e, hl, hP, hR⟩ := g.fin
  obtain rfl := list_det hl hP
  exact ⟨xs, e, hR⟩
theorem Grow.detN {ds : List Dt} {n : Nat} (h : n = ds.length) (g : Grow K S Iv (fun i d => ds[i]? = some d) D H1 n H') : ∃ xs : List V, H' D = some (.lst xs) ∧ RpLO (D :: S) K H' xs ds := by
  subst h; exact g.det
end
/-! ### rules that name the written part by a letter -/
section
variable {X : Cx} {K : PySem.W.Frag}
theorem pg_tupK {es : List Expr} {k : Nat} {t : TGs} {n : Nat} {pos : Pos} (hK : X.K = K) (hc : X.calm = true) (h : PGs X es t) (hn : (assignEach es X.env).length = n := by rfl) (hst : (assignEach es X.env).findIdx? (·.1) = none := by rfl) : PG X (.Tuple es k pos) (gTup K n t) := by
  subst hK; exact pg_tup hc h hn hst
theorem op_inK (hK : X.K = K) : OpR X (compareOp .In) (rIn K false) := by subst hK; exact op_in_seq
theorem op_notInK (hK : X.K = K) : OpR X (compareOp .NotIn) (rIn K true) := by subst hK; exact op_notIn_seq
end
def _root_.Vf.Dt.isStr : Dt → Bool
  | .str _ => true
  | _ => false
theorem isa_str : ∀ d : Dt, kitB d.ty "str" = some d.isStr
  | .non => show kitB "NoneType" "str" = some false by decide +kernel
  | .bl _ => show kitB "bool" "str" = some false by decide +kernel
  | .int _ => show kitB "int" "str" = some false by decide +kernel
  | .str _ => show kitB "str" "str" = some true by decide +kernel
  | .lst _ => show kitB "list" "str" = some false by decide +kernel
  | .tup _ => show kitB "tuple" "str" = some false by decide +kernel
  | .dct _ => show kitB "dict" "str" = some false by decide +kernel
/-! ### readings closed under weaker wishes; walks by one word -/
def tmE (t : TE) : TE := fun σ H Q => ∃ Q0 : VK, t σ H Q0 ∧ ∀ x H1, Q0 x H1 → Q x H1
def tmA (t : TA) : TA := fun σ H Q => ∃ Q0 : List V → Hp → Prop, t σ H Q0 ∧ ∀ x H1, Q0 x H1 → Q x H1
theorem pe_mono {X : Cx} {e : Expr} {t : TE} (h : PE X e t) : PE X e (tmE t) := ⟨fun pins s σ H Q I ⟨Q0, q, k⟩ => thn (h.run pins s σ H Q0 I q) fun u s1 ⟨v, H1, I1, r1, q1⟩ => ⟨v, H1, I1, r1, k _ _ q1⟩⟩
theorem pa_mono {X : Cx} {e : List Expr} {t : TA} (h : PA X e t) : PA X e (tmA t) := ⟨fun pos pins s σ H Q I ⟨Q0, q, k⟩ => thn (h.run pos pins s σ H Q0 I q) fun u s1 ⟨v, H1, I1, r1, q1⟩ => ⟨v, H1, I1, r1, k _ _ q1⟩⟩
theorem pi_imp {X : Cx} {tg l : Expr} {t t' : TI} (h : PI X tg l t) (i : ∀ σ H R, t' σ H R → t σ H R) : PI X tg l t' := ⟨fun pins s σ H R I q => h.run pins s σ H R I (i _ _ _ q)⟩
def SeqAsk (K : PySem.W.Frag) (R : It → Hp → Prop) : VK := fun x H1 => ∃ (a : Addr) (xs : List V), x = .ref a ∧ SqV K H1 a xs ∧ ∀ (J : It) (G : Hp → Prop), Walk J xs.length G (YAt xs) → (∀ H', Same H1 H' → G H') → R J H1
def iSeqV (K : PySem.W.Frag) (tl : TE) : TI := fun σ H R => tl σ H (SeqAsk K R)
theorem pi_seqV {X : Cx} {K : PySem.W.Frag} {tg l : Expr} {tl : TE} (hK : X.K = K) (hl : PE X l tl) : PI X tg l (iSeqV K tl) := by
  subst hK
  refine pi_imp (pi_seq (pe_mono hl)) fun σ H R q => ⟨_, q, fun x H1 ⟨a, xs, e, h, k⟩ => ?_⟩
  subst e
  exact seq_of h k
/-- the same, of what was there in an earlier heap -/
def SeqAskW (K : PySem.W.Frag) (R : It → Hp → Prop) : VK := fun x H1 => ∃ (a : Addr) (xs : List V) (H0 : Hp), x = .ref a ∧ SqV K H0 a xs ∧ Same H0 H1 ∧ ∀ (J : It) (G : Hp → Prop), Walk J xs.length G (YAt xs) → (∀ H', Same H0 H' → G H') → R J H1
def iSeqW (K : PySem.W.Frag) (tl : TE) : TI := fun σ H R => tl σ H (SeqAskW K R)
theorem pi_seqW {X : Cx} {K : PySem.W.Frag} {tg l : Expr} {tl : TE} (hK : X.K = K) (hl : PE X l tl) : PI X tg l (iSeqW K tl) := by
  subst hK
  refine pi_imp (pi_seq (pe_mono hl)) fun σ H R q => ⟨_, q, fun x H1 ⟨a, xs, H0, e, h, s, k⟩ => ?_⟩
  subst e
  exact seq_at h s k
def ZipAsk (K : PySem.W.Frag) (R : It → Hp → Prop) : List V → Hp → Prop := fun vs H1 => ∃ (a b : Addr) (xs ys : List V), vs = [.ref a, .ref b] ∧ SqV2 K H1 a b xs ys ∧ ∀ (J : It) (G : Hp → Prop), Walk J (min xs.length ys.length) G (YPair (fun i => xs[i]?) (fun i => ys[i]?)) → (∀ H', Same H1 H' → G H') → R J H1
def iZipV (K : PySem.W.Frag) (ta : TA) : TI := fun σ H R => ta σ H (ZipAsk K R)
theorem pi_zipV {X : Cx} {K : PySem.W.Frag} {e e2 : Expr} {ta : TA} {p pos tpos : Pos} {elts : List Expr} {kk : Nat} (hK : X.K = K) (hg : Gl X "zip") (hm : X.mg "zip" = none) (ha : PA X [e, e2] ta)
    (hs : starEach [e, e2] X.env = (false, eval e X.env) :: starEach [e2] X.env := by rfl) (hpl : (backTo pos (starEach [e2] X.env)).any (·.1) = false := by rfl) : PI X (.Tuple elts kk tpos) (.Call (.Name "zip" p) [e, e2] [] pos) (iZipV K ta) := by
  subst hK
  refine pi_imp (pi_zipA hg hm (pa_mono ha) hs hpl) fun σ H R q => ⟨_, q, fun x H1 ⟨a, b, xs, ys, e, h, k⟩ => ?_⟩
  subst e
  exact zip_of h k
end Vf
set_option Elab.async false
set_option linter.all false
set_option maxRecDepth 100000
set_option maxHeartbeats 4000000
namespace Kp17
open PySem PySem.Spec PyProof.Rows L2 Vf
def topS (i : Nat) : Stmt := PySem.Challenge.pw_exacttable_k17_refusals_apart.main.body.getD i (.Pass ⟨0, 0, 0, 0⟩)
abbrev s_is_whole : Stmt := topS 3
abbrev s_is_count : Stmt := topS 4
abbrev s_is_place : Stmt := topS 5
abbrev s_is_list : Stmt := topS 6
abbrev s_is_short_list : Stmt := topS 7
abbrev s_are_counts : Stmt := topS 8
abbrev s_are_rows : Stmt := topS 9
abbrev s_is_cap : Stmt := topS 30
abbrev s_wanted_sums : Stmt := topS 31
abbrev s_wanted_caps : Stmt := topS 32
abbrev s_Frame_init : Stmt := inClass (topS 33) 0
abbrev s_Frame_rows : Stmt := inClass (topS 33) 1
abbrev s_Frame_columns : Stmt := inClass (topS 33) 2
abbrev s_Frame_caps : Stmt := inClass (topS 33) 3
abbrev s_Frame_cap : Stmt := inClass (topS 33) 4
abbrev s_l_cell_at : Stmt := topS 35
abbrev s_l_tape : Stmt := topS 36
abbrev s_l_digit : Stmt := topS 37
abbrev s_l_firsts : Stmt := topS 38
abbrev s_l_sorts : Stmt := topS 39
abbrev s_l_made : Stmt := topS 40
abbrev s_l_caught : Stmt := topS 41
abbrev s_l_framed : Stmt := topS 42
abbrev s_l_own : Stmt := topS 43
abbrev s_law : Stmt := topS 44
/-! ### what the top has written -/
structure Txt (K : PySem.W.Frag) (mg : Str → Option Value) (C : Nat → Addr) (tG tL : Tok) : Prop where
  inj : ∀ i j, i < 18 → j < 18 → C i = C j → i = j
  c_GREATEST : mg "GREATEST" = some (.int 1000000000000 tG)
  c_LONGEST : mg "LONGEST" = some (.int 6 tL)
  n_isinstance : mg "isinstance" = none
  n_len : mg "len" = none
  n_all : mg "all" = none
  n_range : mg "range" = none
  n_enumerate : mg "enumerate" = none
  n_int : mg "int" = none
  n_bool : mg "bool" = none
  n_list : mg "list" = none
  n_tuple : mg "tuple" = none
  n_ValueError : mg "ValueError" = none
  TableError : ExcB K mg "TableError" (C 17)
  NoSums : ExcF K mg "NoSums" (C 0) (C 17)
  NoCaps : ExcF K mg "NoCaps" (C 1) (C 17)
  NoTable : ExcF K mg "NoTable" (C 2) (C 17)
  NoOrder : ExcF K mg "NoOrder" (C 3) (C 17)
  NoColumns : ExcF K mg "NoColumns" (C 4) (C 17)
  NoText : ExcF K mg "NoText" (C 5) (C 17)
  TooMany : ExcF K mg "TooMany" (C 6) (C 17)
  NoNumber : ExcF K mg "NoNumber" (C 7) (C 17)
  NoStep : ExcF K mg "NoStep" (C 8) (C 17)
  Bounded : ExcF K mg "Bounded" (C 9) (C 17)
  NoCell : ExcF K mg "NoCell" (C 10) (C 17)
  NoKind : ExcF K mg "NoKind" (C 11) (C 17)
  NoScores : ExcF K mg "NoScores" (C 12) (C 17)
  NoWhole : ExcF K mg "NoWhole" (C 13) (C 17)
  NoCube : ExcF K mg "NoCube" (C 14) (C 17)
  NoFaces : ExcF K mg "NoFaces" (C 15) (C 17)
  NoLine : ExcF K mg "NoLine" (C 16) (C 17)
theorem Txt.fs {K : PySem.W.Frag} {mg : Str → Option Value} {C : Nat → Addr} {tG tL : Tok} (T : Txt K mg C tG tL) : ∀ i, i < 17 → ∃ n, ExcF K mg n (C i) (C 17)
  | 0, _ => ⟨_, T.NoSums⟩
  | 1, _ => ⟨_, T.NoCaps⟩
  | 2, _ => ⟨_, T.NoTable⟩
  | 3, _ => ⟨_, T.NoOrder⟩
  | 4, _ => ⟨_, T.NoColumns⟩
  | 5, _ => ⟨_, T.NoText⟩
  | 6, _ => ⟨_, T.TooMany⟩
  | 7, _ => ⟨_, T.NoNumber⟩
  | 8, _ => ⟨_, T.NoStep⟩
  | 9, _ => ⟨_, T.Bounded⟩
  | 10, _ => ⟨_, T.NoCell⟩
  | 11, _ => ⟨_, T.NoKind⟩
  | 12, _ => ⟨_, T.NoScores⟩
  | 13, _ => ⟨_, T.NoWhole⟩
  | 14, _ => ⟨_, T.NoCube⟩
  | 15, _ => ⟨_, T.NoFaces⟩
  | 16, _ => ⟨_, T.NoLine⟩
  | n + 17, h => absurd h (by omega)
theorem pe_isN {X : Cx} {C : Nat → Addr} {tG tL : Tok} {n : Str} {j i : Nat} {x : Str} {p p1 p2 pos : Pos} (T : Txt X.K X.mg C tG tL) (G : ExcF X.K X.mg n (C j) (C 17)) (hj : j < 17) (hv : PE X (.Name x p1) (tVar i)) (hc : PE X (.Name n p2) (tC (.ref (C j)))) (hg : Gl X "isinstance") (hm : X.mg "isinstance" = none)
    (he : starEach [.Name x p1, .Name n p2] X.env = (false, eval (.Name x p1) X.env) :: starEach [.Name n p2] X.env := by rfl) (he2 : starEach [.Name n p2] X.env = (false, eval (.Name n p2) X.env) :: starEach [] X.env := by rfl) (hpl : (backTo pos (starEach [.Name n p2] X.env)).any (·.1) = false := by rfl) :
    PE X (.Call (.Name "isinstance" p) [.Name x p1, .Name n p2] [] pos) (fun σ H Q => ∃ (a : Addr) (m : Nat), σ[i]? = some (some (.ref a)) ∧ m < 17 ∧ ExAt H a (C m) ∧ Q (.bl (decide (j = m))) H) := by
  refine (pe_isC G (fun z => absurd (T.inj _ _ (by omega) (by omega) z) (by omega)) hv hc hg hm he he2 hpl).imp fun σ H Q ⟨a, m, e, hm, E, q⟩ => ?_
  obtain ⟨nm, F⟩ := T.fs m hm
  have ed : decide (C j = C m) = decide (j = m) := decide_eq_decide.mpr ⟨fun z => T.inj _ _ (by omega) (by omega) z, fun z => by rw [z]⟩
  exact ⟨a, C m, nm, e, E, F, by rw [ed]; exact q⟩
theorem Txt.exm {K : PySem.W.Frag} {mg : Str → Option Value} {C : Nat → Addr} {tG tL : Tok} (T : Txt K mg C tG tL) (i j : Nat) (hi : i < 17) (hj : j < 17) : PySem.W.exmOne K (.ref (C i)) (.ref (C j)) = some (decide (j = i)) := by
  obtain ⟨n, F⟩ := T.fs i hi
  obtain ⟨m, G⟩ := T.fs j hj
  rw [exm_own F G.is G.t G.b, decide_eq_false (p := C j = C 17) (fun z => absurd (T.inj _ _ (by omega) (by omega) z) (by omega)), Bool.or_false]
  exact congrArg some (decide_eq_decide.mpr ⟨fun z => T.inj _ _ (by omega) (by omega) z, fun z => by rw [z]⟩)
theorem Txt.exmT {K : PySem.W.Frag} {mg : Str → Option Value} {C : Nat → Addr} {tG tL : Tok} (T : Txt K mg C tG tL) (i : Nat) (hi : i < 17) : PySem.W.exmOne K (.ref (C i)) (.ref (C 17)) = some true := by
  obtain ⟨n, F⟩ := T.fs i hi
  rw [exm_own F T.TableError.i T.TableError.t T.TableError.b, decide_eq_true (p := C 17 = C 17) rfl, Bool.or_true]
/-! ### the mirror of the checks -/
def isWhole : Dt → Bool
  | .int _ => true
  | _ => false
def isCount : Dt → Bool
  | .int i => decide (0 ≤ i) && decide (i ≤ 1000000000000)
  | _ => false
def isShort (d : Dt) : Bool := match d.items with
  | some l => decide (1 ≤ l.length) && decide (l.length ≤ 6)
  | none => false
def areCounts (d : Dt) : Bool := isShort d && (d.items.getD []).all isCount
theorem isWhole_eq (d : Dt) (e : d.isInt = true) : isWhole d = !d.isBool := by cases d <;> first | rfl | (cases e; done)
theorem isWhole_no (d : Dt) (e : ¬ d.isInt = true) : isWhole d = false := by cases d <;> first | rfl | (exact absurd rfl e)
theorem isCount_no (d : Dt) (e : ¬ isWhole d = true) : isCount d = false := by cases d <;> first | rfl | (exact absurd rfl e)
theorem isWhole_int (d : Dt) (e : isWhole d = true) : ∃ i, d = .int i := by cases d <;> first | exact ⟨_, rfl⟩ | (cases e; done)
theorem isCount_int (d : Dt) (e : isCount d = true) : ∃ i : Int, d = .int i ∧ 0 ≤ i ∧ i ≤ 1000000000000 := by
  cases d with
  | int i =>
    have h : (decide (0 ≤ i) && decide (i ≤ 1000000000000)) = true := e
    rw [Bool.and_eq_true, decide_eq_true_eq, decide_eq_true_eq] at h
    exact ⟨i, rfl, h.1, h.2⟩
  | _ => cases e
theorem all_counts : ∀ {l : List Dt}, l.all isCount = true → ∃ ns : List Int, l = ns.map Dt.int ∧ ∀ n ∈ ns, 0 ≤ n ∧ n ≤ 1000000000000
  | [], _ => ⟨[], rfl, fun _ h => by cases h⟩
  | d :: l, h => by
    rw [List.all_cons, Bool.and_eq_true] at h
    obtain ⟨i, rfl, h1, h2⟩ := isCount_int d h.1
    obtain ⟨ns, rfl, h3⟩ := all_counts h.2
    refine ⟨i :: ns, rfl, fun n hn => ?_⟩
    rcases List.mem_cons.mp hn with rfl | hn
    · exact ⟨h1, h2⟩
    · exact h3 n hn

/-! ### the promises -/
def sp_is_whole (K : PySem.W.Frag) : Sp := fun vs H Q _ => ∃ v d, vs = [v] ∧ Rp K H v d ∧ Q (.bl (isWhole d)) H
def sp_is_count (K : PySem.W.Frag) : Sp := fun vs H Q _ => ∃ v d, vs = [v] ∧ Rp K H v d ∧ Q (.bl (isCount d)) H
def sp_is_list (K : PySem.W.Frag) : Sp := fun vs H Q _ => ∃ v d, vs = [v] ∧ Rp K H v d ∧ ∀ H', Same H H' → Q (.bl d.items.isSome) H'
def sp_is_short_list (K : PySem.W.Frag) : Sp := fun vs H Q _ => ∃ v d, vs = [v] ∧ Rp K H v d ∧ ∀ H', Same H H' → Q (.bl (isShort d)) H'
def sp_are_counts (K : PySem.W.Frag) : Sp := fun vs H Q _ => ∃ v d, vs = [v] ∧ Rp K H v d ∧ ∀ H', Same H H' → Q (.bl (areCounts d)) H'
def sp_wanted_sums (K : PySem.W.Frag) (N0 : Addr) : Sp := fun vs H Q E => ∃ v d, vs = [v] ∧ Rp K H v d ∧ (areCounts d = false → ∀ H', Same H H' → E (.ref N0) none H') ∧
  (areCounts d = true → ∀ (ns : List Int) (H' : Hp) (p : Addr), d.items = some (ns.map Dt.int) → Same H H' → SqT K H' p (ns.map V.int) → Q (.ref p) H')
section
variable {P : Program} {w : World} {K : PySem.W.Frag} {mg : Str → Option Value} {base : Heap} {C : Nat → Addr} {tG tL : Tok}
theorem sc_is_whole : FnScope ["thing"] ["thing"] (defScope s_is_whole) :=
  ⟨rfl, rfl, rfl, by decide +kernel, rfl, by decide +kernel, by decide +kernel⟩
theorem ok_is_whole {f : Addr} {fd : FuncData} (F : Fun K "is_whole" "is_whole" s_is_whole f fd) (T : Txt K mg C tG tL) : FnOk P w K mg base CX0 1 f fd ["thing"] (sp_is_whole K) := by
  refine F.ok sc_is_whole (fun vs H Q E ⟨v, d, e, _⟩ => by rw [e]; rfl) (fun cdv A outer s H vs Q E hr h => ?_)
  obtain ⟨v, d, rfl, R, q⟩ := h
  refine ⟨_, (pss_one (ps_ret (pe_and (pe_callB (isiK (K := K) rfl) (by rfl) T.n_isinstance (by decide +kernel) (pa_cons (pv 0) (pa_cons (pe_bltn (v := .ty "int") (by rfl) T.n_int (by decide +kernel) rfl) pa_nil))) (pe_one (pe_not (pe_callB (isiK (K := K) rfl) (by rfl) T.n_isinstance (by decide +kernel) (pa_cons (pv 0) (pa_cons (pe_bltn (v := .ty "bool") (by rfl) T.n_bool (by decide +kernel) rfl) pa_nil)))))))), ?_⟩
  refine ⟨v, rfl, v, _, _, _, d.isInt, rfl, .ty _, R.ty, kit_ty (isa_int d), _, rfl, ite2 (fun e => ?_) (fun e => ?_)⟩
  · refine ⟨v, rfl, v, _, _, _, d.isBool, rfl, .ty _, R.ty, kit_ty (isa_bool d), _, rfl, ?_⟩
    rw [isWhole_eq d e] at q
    exact q
  · rw [isWhole_no d e] at q
    exact q
theorem sc_is_count : FnScope ["thing"] ["thing"] (defScope s_is_count) :=
  ⟨rfl, rfl, rfl, by decide +kernel, rfl, by decide +kernel, by decide +kernel⟩
theorem ok_is_count {f : Addr} {fd : FuncData} (F : Fun K "is_count" "is_count" s_is_count f fd) (T : Txt K mg C tG tL) (c_is_whole : Cal P w K mg base CX0 1 "is_whole" ["thing"] (sp_is_whole K)) : FnOk P w K mg base CX0 2 f fd ["thing"] (sp_is_count K) := by
  refine F.ok sc_is_count (fun vs H Q E ⟨v, d, e, _⟩ => by rw [e]; rfl) (fun cdv A outer s H vs Q E hr h => ?_)
  obtain ⟨v, d, rfl, R, q⟩ := h
  refine ⟨_, (pss_one (ps_ret (pe_and (pe_cal c_is_whole (hr.mono (by decide)) (by rfl) pass0 (pa_cons (pv 0) pa_nil)) (pe_one (pe_chain op_le op_le pe_int (pv 0) (pe_glob (v := .int 1000000000000) (by rfl) T.c_GREATEST ⟨_, rfl⟩)))))), ?_⟩
  refine ⟨v, rfl, v, d, rfl, R, _, rfl, ite2 (fun e => ?_) (fun e => ?_)⟩
  · obtain ⟨i, rfl⟩ := isWhole_int d e
    cases R
    refine ⟨.int i, rfl, 0, i, rfl, rfl, _, rfl, ite2 (fun e => ?_) (fun e => ?_)⟩
    · refine ⟨i, 1000000000000, rfl, rfl, ?_⟩
      have h : isCount (.int i) = decide (i ≤ 1000000000000) := by show (decide (0 ≤ i) && decide (i ≤ 1000000000000)) = _; rw [e, Bool.true_and]
      rw [h] at q
      exact q
    · have h : isCount (.int i) = false := by
        show (decide (0 ≤ i) && decide (i ≤ 1000000000000)) = _
        rw [Bool.eq_false_iff.mpr e, Bool.false_and]
      rw [h] at q
      exact q
  · rw [isCount_no d e] at q
    exact q
theorem sc_is_list : FnScope ["thing"] ["thing"] (defScope s_is_list) :=
  ⟨rfl, rfl, rfl, by decide +kernel, rfl, by decide +kernel, by decide +kernel⟩
theorem ok_is_list {f : Addr} {fd : FuncData} (F : Fun K "is_list" "is_list" s_is_list f fd) (T : Txt K mg C tG tL) : FnOk P w K mg base CX0 1 f fd ["thing"] (sp_is_list K) := by
  refine F.ok sc_is_list (fun vs H Q E ⟨v, d, e, _⟩ => by rw [e]; rfl) (fun cdv A outer s H vs Q E hr h => ?_)
  obtain ⟨v, d, rfl, R, q⟩ := h
  refine ⟨_, (pss_one (ps_ret (pe_callB (isiTK (K := K) rfl) (by rfl) T.n_isinstance (by decide +kernel) (pa_cons (pv 0) (pa_cons (pe_tup (pa_cons (pe_bltn (v := .ty "list") (by rfl) T.n_list (by decide +kernel) rfl) (pa_cons (pe_bltn (v := .ty "tuple") (by rfl) T.n_tuple (by decide +kernel) rfl) pa_nil))) pa_nil))))), ?_⟩
  refine ⟨v, rfl, (by show 2 ≤ sizeLine; decide), fun p np => ?_⟩
  exact ⟨v, p, _, _, _, _, rfl, upd_same, .cons (.ty "list") (.cons (.ty "tuple") .nil), (R.same (same_upd np)).ty, isa_seq d, q _ (same_upd np)⟩
theorem sc_is_short_list : FnScope ["thing"] ["thing"] (defScope s_is_short_list) :=
  ⟨rfl, rfl, rfl, by decide +kernel, rfl, by decide +kernel, by decide +kernel⟩
theorem ok_is_short_list {f : Addr} {fd : FuncData} (F : Fun K "is_short_list" "is_short_list" s_is_short_list f fd) (T : Txt K mg C tG tL) (c_is_list : Cal P w K mg base CX0 1 "is_list" ["thing"] (sp_is_list K)) : FnOk P w K mg base CX0 2 f fd ["thing"] (sp_is_short_list K) := by
  refine F.ok sc_is_short_list (fun vs H Q E ⟨v, d, e, _⟩ => by rw [e]; rfl) (fun cdv A outer s H vs Q E hr h => ?_)
  obtain ⟨v, d, rfl, R, q⟩ := h
  refine ⟨_, (pss_one (ps_ret (pe_and (pe_cal c_is_list (hr.mono (by decide)) (by rfl) pass0 (pa_cons (pv 0) pa_nil)) (pe_one (pe_chain op_le op_le pe_int (pe_callB (len_ofK (K := K) rfl) (by rfl) T.n_len (by decide +kernel) (pa_cons (pv 0) pa_nil)) (pe_glob (v := .int 6) (by rfl) T.c_LONGEST ⟨_, rfl⟩)))))), ?_⟩
  refine ⟨v, rfl, v, d, rfl, R, fun H1 s1 => ⟨_, rfl, ite2 (fun e => ?_) (fun e => ?_)⟩⟩
  · obtain ⟨l, el⟩ := Option.isSome_iff_exists.mp e
    obtain ⟨a, xs, rfl, hS, hR⟩ := R.items_some el
    have hlen := hR.length
    have hq : isShort d = (decide (1 ≤ l.length) && decide (l.length ≤ 6)) := by unfold isShort; rw [el]
    refine ⟨.ref a, rfl, a, xs, rfl, hS.same s1, 1, _, rfl, rfl, _, rfl, ite2 (fun e => ?_) (fun e => ?_)⟩
    · refine ⟨_, 6, rfl, rfl, ?_⟩
      have e1 : 1 ≤ l.length := by have := of_decide_eq_true e; omega
      have e2 : decide (((xs.length : Nat) : Int) ≤ 6) = decide (l.length ≤ 6) := by rw [hlen]; exact decide_eq_decide.mpr ⟨fun z => by omega, fun z => by omega⟩
      have q2 := q H1 s1
      rw [hq, decide_eq_true e1, Bool.true_and, ← e2] at q2
      exact q2
    · have e1 : ¬ 1 ≤ l.length := fun z => e (decide_eq_true (by omega))
      have q2 := q H1 s1
      rw [hq, decide_eq_false e1, Bool.false_and] at q2
      exact q2
  · have hq : isShort d = false := by
      unfold isShort
      cases z : d.items with
      | none => rfl
      | some l => rw [z] at e; exact absurd rfl e
    have q2 := q H1 s1
    rw [hq] at q2
    exact q2
theorem sc_are_counts : FnScope ["thing", "item"] ["thing"] (defScope s_are_counts) :=
  ⟨rfl, rfl, rfl, by decide +kernel, rfl, by decide +kernel, by decide +kernel⟩
theorem ok_are_counts {f : Addr} {fd : FuncData} (F : Fun K "are_counts" "are_counts" s_are_counts f fd) (T : Txt K mg C tG tL) (c_is_short_list : Cal P w K mg base CX0 2 "is_short_list" ["thing"] (sp_is_short_list K)) (c_is_count : Cal P w K mg base CX0 2 "is_count" ["thing"] (sp_is_count K)) :
    FnOk P w K mg base CX0 3 f fd ["thing"] (sp_are_counts K) := by
  refine F.ok sc_are_counts (fun vs H Q E ⟨v, d, e, _⟩ => by rw [e]; rfl) (fun cdv A outer s H vs Q E hr h => ?_)
  obtain ⟨v, d, rfl, R, q⟩ := h
  refine ⟨_, (pss_one (ps_ret (pe_and (pe_cal c_is_short_list (hr.mono (by decide)) (by rfl) pass0 (pa_cons (pv 0) pa_nil)) (pe_one (pe_callB (allK (K := K) rfl rfl) (by rfl) T.n_all (by decide +kernel) (pa_cons (pe_lcS (own := [("item", 1)]) (by rfl) sc_are_counts.nd (pv 0) mono_var (blkOk_by (own := [("item", 1)]) (N := ["thing", "item"]) (sc := defScope s_are_counts) (by decide +kernel)) (fun _ _ _ _ _ => (pg_name (i := 1) sc_are_counts.nd rfl (by first | exact Or.inl rfl | exact Or.inr rfl))) (fun _ _ _ _ _ => pts_nil) (fun _ _ _ _ _ => (pe_cal c_is_count (hr.mono (by decide)) (by rfl) pass0 (pa_cons (pv 1) pa_nil)))) pa_nil)))))), ?_⟩
  refine ⟨v, rfl, v, d, rfl, R, fun H1 s1 => ⟨_, rfl, ite2 (fun e => ?_) (fun e => ?_)⟩⟩
  · obtain ⟨l, el⟩ : ∃ l, d.items = some l := by
      cases z : d.items with
      | some l => exact ⟨l, rfl⟩
      | none =>
        unfold isShort at e
        rw [z] at e
        cases e
    obtain ⟨a, xs, rfl, hS, hR⟩ := (R.same s1).items_some el
    have hlen := hR.length
    have short : l.length ≤ 6 := by
      unfold isShort at e
      rw [el] at e
      have e : (decide (1 ≤ l.length) && decide (l.length ≤ 6)) = true := e
      rw [Bool.and_eq_true, decide_eq_true_eq, decide_eq_true_eq] at e
      exact e.2
    have hq : areCounts d = l.all isCount := by unfold areCounts; rw [e, el]; rfl
    refine ⟨.ref a, rfl, a, xs, (fun D i H' => Same H1 H' ∧ H' D = some (.lst (((l.take i).map isCount).map V.bl))), rfl, hS, (fun D nD => ⟨same_upd nD, upd_same⟩), (fun D i H' nD _ p => p.1), (fun D i x H' nD hx p => ?_), (fun D H' nD p => ?_)⟩
    · obtain ⟨y, hy, rxy⟩ := hR.get hx
      refine ⟨rfl, x, rfl, x, y, rfl, rxy.same p.1, _, p.2, ?_, ?_, ?_⟩
      · rw [List.length_map, List.length_map, List.length_take]
        exact Nat.lt_of_le_of_lt (Nat.le_trans (Nat.min_le_right _ _) short) (by decide)
      · exact fun b o e => by rw [upd_ne (ne_of_none e nD)]; exact p.1 b o e
      · rw [upd_same, List.take_add_one, hy]
        simp
    · rw [hlen, List.take_length] at p
      refine ⟨D, l.map isCount, rfl, .inl (.inl p.2), ?_⟩
      have q2 := q H' (s1.trans p.1)
      rw [hq] at q2
      rw [List.all_map]
      exact q2
  · have q2 := q H1 s1
    unfold areCounts at q2
    rw [Bool.eq_false_iff.mpr e, Bool.false_and] at q2
    exact q2
theorem sc_wanted_sums : FnScope ["thing"] ["thing"] (defScope s_wanted_sums) :=
  ⟨rfl, rfl, rfl, by decide +kernel, rfl, by decide +kernel, by decide +kernel⟩
theorem ok_wanted_sums {f : Addr} {fd : FuncData} (F : Fun K "wanted_sums" "wanted_sums" s_wanted_sums f fd) (T : Txt K mg C tG tL) (c_are_counts : Cal P w K mg base CX0 3 "are_counts" ["thing"] (sp_are_counts K)) : FnOk P w K mg base (L2.CX P w) 4 f fd ["thing"] (sp_wanted_sums K (C 0)) := by
  refine F.okX sc_wanted_sums (fun vs H Q E ⟨v, d, e, _⟩ => by rw [e]; rfl) (fun cdv A outer s H vs Q E hr h => ?_)
  obtain ⟨v, d, rfl, R, q1, q2⟩ := h
  refine ⟨_, (pss_cons (ps_if (pt_not (pt_val (pe_cal c_are_counts (hr.mono (by decide)) (by rfl) pass0 (pa_cons (pv 0) pa_nil))))
  (pss_one (ps_raise rfl (takes_of rfl rfl rfl rfl) (pmk_own PySem.F.excBase_ValueError T.NoSums.x T.NoSums.g T.NoSums.k (raises_own T.NoSums.b T.NoSums.t) (by exact rfl))))
  pss_nil)
  (pss_one (ps_ret (pe_callTy (tuple_ofK (K := K) rfl) (by rfl) T.n_tuple (by decide +kernel) (pa_cons (pv 0) pa_nil))))), ?_⟩
  refine ⟨v, rfl, v, d, rfl, R, fun H1 s1 => ⟨_, rfl, ?_⟩⟩
  cases e : areCounts d with
  | false => exact iteT (q1 e H1 s1)
  | true =>
    refine iteF ?_
    unfold areCounts at e
    rw [Bool.and_eq_true] at e
    obtain ⟨l, el⟩ : ∃ l, d.items = some l := by
      cases z : d.items with
      | some l => exact ⟨l, rfl⟩
      | none =>
        have e := e.1
        unfold isShort at e
        rw [z] at e
        cases e
    have ec := e.2
    rw [el] at ec
    obtain ⟨ns, rfl, hns⟩ := all_counts (l := l) ec
    obtain ⟨a, xs, rfl, hS, hR⟩ := (R.same s1).items_some el
    have ex : xs = ns.map V.int := by
      clear el ec hS q1 q2 e hns
      induction ns generalizing xs with
      | nil => cases hR; rfl
      | cons n ns ih =>
        cases hR with
        | cons h1 h2 =>
          cases h1
          rw [ih _ h2]
          rfl
    subst ex
    have ac : areCounts d = true := by unfold areCounts; rw [e.1, el]; exact ec
    refine ⟨.ref a, rfl, a, ns.map V.int, rfl, ?_⟩
    rcases hS with hS | hS
    · exact .inl ⟨hS, fun p np => q2 ac ns _ p el (s1.trans (same_upd np)) (SqT.of upd_same)⟩
    · exact .inr ⟨hS, q2 ac ns _ a el s1 hS⟩
end
/-! ### the law's own draws -/
def sp_cell_at (K : PySem.W.Frag) : Sp := fun vs H Q _ => ∃ (a : Addr) (ns : List Int) (k : Nat), vs = [.ref a, .int k] ∧ SqL K H a (ns.map V.int) ∧ Q (.int (ns.getD k 0)) H
def sp_tape : Sp := fun vs H Q _ => ∃ z : Int, vs = [.int z] ∧ ∀ (H' : Hp) (p : Addr) (n : Int), Same H H' → H p = none → H' p = some (.lst [.int n]) → Q (.ref p) H'
def sp_digit : Sp := fun vs H Q _ => ∃ (t : Addr) (n m : Int), vs = [.ref t, .int m] ∧ H t = some (.lst [.int n]) ∧ 0 < m ∧ m < 1000000000000000000000000 ∧ ∀ d n' : Int, 0 ≤ d → d < m → Q (.int d) (upd H t (.lst [.int n']))
section
variable {P : Program} {w : World} {K : PySem.W.Frag} {mg : Str → Option Value} {base : Heap} {C : Nat → Addr} {tG tL : Tok}
theorem sc_l_cell_at : FnScope ["_law_script", "_law_k"] ["_law_script", "_law_k"] (defScope s_l_cell_at) :=
  ⟨rfl, rfl, rfl, by decide +kernel, rfl, by decide +kernel, by decide +kernel⟩
theorem ok_cell_at {f : Addr} {fd : FuncData} (F : Fun K "_law_cell_at" "_law_cell_at" s_l_cell_at f fd) (T : Txt K mg C tG tL) : FnOk P w K mg base CX0 1 f fd ["_law_script", "_law_k"] (sp_cell_at K) := by
  refine F.ok sc_l_cell_at (fun vs H Q E ⟨a, ns, k, e, _⟩ => by rw [e]; rfl) (fun cdv A outer s H vs Q E hr h => ?_)
  obtain ⟨a, ns, k, rfl, hS, q⟩ := h
  refine ⟨_, (pss_cons (ps_if (pt_cmpR op_lt (pv 1) (pe_callB (len_ofK (K := K) rfl) (by rfl) T.n_len (by decide +kernel) (pa_cons (pv 0) pa_nil)) (nomark _))
  (pss_one (ps_ret (pe_ix (ix_listK (K := K) rfl) (pv 0) (pv 1) (fun _ _ => rfl))))
  pss_nil)
  (pss_one (ps_ret pe_int))), ?_⟩
  refine ⟨.int k, rfl, .ref a, rfl, a, _, rfl, .inl hS, k, _, rfl, rfl, _, rfl, ite2 (fun e => ?_) (fun e => ?_)⟩
  · have h : k < ns.length := by
      have := of_decide_eq_true e
      rw [List.length_map] at this
      omega
    refine ⟨.ref a, rfl, .int k, rfl, a, _, k, .int ns[k], rfl, rfl, hS, atI_nat (by rw [List.getElem?_map, List.getElem?_eq_getElem h]; rfl), ?_⟩
    rw [List.getD_eq_getElem?_getD, List.getElem?_eq_getElem h] at q
    exact q
  · have h : ns.length ≤ k := by
      rcases Nat.lt_or_ge k ns.length with z | z
      · exact absurd (decide_eq_true (by rw [List.length_map]; omega)) e
      · exact z
    rw [List.getD_eq_getElem?_getD, List.getElem?_eq_none h] at q
    exact q
theorem sc_l_digit : FnScope ["_law_tape_here", "_law_size", "_law_digit_here"] ["_law_tape_here", "_law_size"] (defScope s_l_digit) :=
  ⟨rfl, rfl, rfl, by decide +kernel, rfl, by decide +kernel, by decide +kernel⟩
theorem ok_digit {f : Addr} {fd : FuncData} (F : Fun K "_law_digit" "_law_digit" s_l_digit f fd) (T : Txt K mg C tG tL) : FnOk P w K mg base CX0 1 f fd ["_law_tape_here", "_law_size"] sp_digit := by
  refine F.ok sc_l_digit (fun vs H Q E ⟨t, n, m, e, _⟩ => by rw [e]; rfl) (fun cdv A outer s H vs Q E hr h => ?_)
  obtain ⟨t, n, m, rfl, ht, m0, m1, q⟩ := h
  refine ⟨_, (pss_cons (ps_set (i := 2) sc_l_digit.nd rfl (by first | exact Or.inl rfl | exact Or.inr rfl) (pe_op op_mod (pe_ix (ix_listK (K := K) rfl) (pv 0) pe_int (fun _ _ => rfl)) (pv 1)))
  (pss_cons (ps_asg (pe_op op_fdivW (pe_ix (ix_listK (K := K) rfl) (pv 0) pe_int (fun _ _ => rfl)) (pv 1)) (pg_sub (pv 0) pe_int set_list))
  (pss_one (ps_ret (pv 2))))), ?_⟩
  refine ⟨.ref t, rfl, t, _, 0, .int n, rfl, rfl, SqL.of ht, atI_nat (j := 0) rfl, .int m, rfl, n, m, rfl, rfl, m0, ?_⟩
  refine ⟨.ref t, rfl, t, _, 0, .int n, rfl, rfl, SqL.of ht, atI_nat (j := 0) rfl, .int m, rfl, n, m, rfl, rfl, wide_div m0 (b := 100) ?_ (by decide) (by decide), ?_⟩
  · have e : (2 : Nat) ^ 100 = 1267650600228229401496703205376 := by decide +kernel
    rw [e]
    omega
  · exact ⟨.ref t, rfl, t, _, 0, 0, rfl, rfl, ht, rfl, _, rfl, q _ _ (Int.emod_nonneg _ (by omega)) (Int.emod_lt_of_pos _ m0)⟩
theorem sc_l_tape : FnScope ["_law_cell", "_law_number", "_law_found", "_law_k"] ["_law_cell"] (defScope s_l_tape) :=
  ⟨rfl, rfl, rfl, by decide +kernel, rfl, by decide +kernel, by decide +kernel⟩
theorem ok_tape {f : Addr} {fd : FuncData} (F : Fun K "_law_tape" "_law_tape" s_l_tape f fd) (T : Txt K mg C tG tL) : FnOk P w K mg base CX0 1 f fd ["_law_cell"] sp_tape := by
  refine F.ok sc_l_tape (fun vs H Q E ⟨z, e, _⟩ => by rw [e]; rfl) (fun cdv A outer s H vs Q E hr h => ?_)
  obtain ⟨z, rfl, q⟩ := h
  have pw : CPow 10 18 := ⟨by decide, by decide, by decide⟩
  refine ⟨_, (pss_cons (ps_if (pt_cmpR op_ge (pv 0) (pe_op op_pow pe_int pe_int) (nomark _))
  (pss_one (ps_ret (pe_lst (pa_cons (pe_op op_sub (pv 0) (pe_op op_pow pe_int pe_int)) pa_nil))))
  pss_nil)
  (pss_cons (ps_set (i := 1) sc_l_tape.nd rfl (by first | exact Or.inl rfl | exact Or.inr rfl) (pe_op op_mod (pe_op op_add (pe_op op_mul (pe_op op_mod (pv 0) pe_int) pe_int) pe_int) pe_int))
  (pss_cons (ps_set (i := 2) sc_l_tape.nd rfl (by first | exact Or.inl rfl | exact Or.inr rfl) pe_int)
  (pss_cons (ps_for PassesOwn.never rfl (pi_range1 (by rfl) T.n_range (pa_cons pe_int pa_nil))
  (pg_name (i := 3) sc_l_tape.nd rfl (by first | exact Or.inl rfl | exact Or.inr rfl))
  (pss_cons (ps_set (i := 1) sc_l_tape.nd rfl (by first | exact Or.inl rfl | exact Or.inr rfl) (pe_op op_mod (pe_op op_add (pe_op op_add (pe_op op_mul (pv 1) pe_int) (pv 3)) pe_int) pe_int))
  (pss_one (ps_set (i := 2) sc_l_tape.nd rfl (by first | exact Or.inl rfl | exact Or.inr rfl) (pe_op op_add (pe_op op_mul (pv 2) pe_int) (pv 1))))))
  (pss_one (ps_ret (pe_lst (pa_cons (pv 2) pa_nil)))))))), ?_⟩
  refine ⟨.int z, rfl, 10, 18, rfl, rfl, pw, z, _, rfl, rfl, _, rfl, ite2 (fun e => ?_) (fun e => ?_)⟩
  · exact ⟨.int z, rfl, 10, 18, rfl, rfl, pw, z, _, rfl, rfl, (by show 1 ≤ sizeLine; decide), fun p np => q _ p _ (same_upd np) np upd_same⟩
  · refine ⟨.int z, rfl, z, _, rfl, rfl, (by show (0 : Int) < 2147483629; decide), _, _, rfl, rfl, .inr ⟨by decide, by decide⟩, _, _, rfl, rfl, _, _, rfl, rfl, (by show (0 : Int) < 2147483647; decide), ?_⟩
    refine ⟨32, rfl, by decide, by decide, for_range (n := 32) (fun i σ H' => H' = H ∧ ∃ (a b : Int) (v : Option V), σ = [some (.int z), some (.int a), some (.int b), v]) ⟨rfl, _, _, none, rfl⟩ (fun i σ H' hi p => ?_) (fun σ H' p => ?_)⟩
    · obtain ⟨rfl, a, b, v, rfl⟩ := p
      refine ⟨.int a, rfl, a, _, rfl, rfl, .inr ⟨by decide, by decide⟩, _, rfl, _, _, rfl, rfl, _, _, rfl, rfl, _, _, rfl, rfl, (by show (0 : Int) < 2147483647; decide), ?_⟩
      refine ⟨.int b, rfl, b, _, rfl, rfl, .inr ⟨by decide, by decide⟩, _, rfl, _, _, rfl, rfl, rfl, _, _, _, rfl⟩
    · obtain ⟨rfl, a, b, v, rfl⟩ := p
      exact ⟨.int b, rfl, (by show 1 ≤ sizeLine; decide), fun p np => q _ p _ (same_upd np) np upd_same⟩
end
end Kp17
set_option Elab.async false
set_option linter.all false
set_option maxRecDepth 100000
set_option maxHeartbeats 4000000
namespace Kp17
open PySem PySem.Spec PyProof.Rows L2 Vf
/-! ### the law -/
def sp_firsts (C : Nat → Addr) : Sp := fun vs H Q _ => ∃ (a : Addr) (m : Nat), vs = [.ref a] ∧ m < 17 ∧ ExAt H a (C m) ∧ ∀ (H' : Hp) (p : Addr), Same H H' → H p = none → H' p = some (.lst ((List.range 10).map fun j => .bl (decide (j = m)))) → Q (.ref p) H'
def sp_sorts (C : Nat → Addr) : Sp := fun vs H Q _ => ∃ (a : Addr) (m : Nat), vs = [.ref a] ∧ m < 17 ∧ ExAt H a (C m) ∧ ∀ (H' : Hp) (p : Addr), Same H H' → H p = none → H' p = some (.lst ((List.range 17).map fun j => .bl (decide (j = m)))) → Q (.ref p) H'
/-- exceptions of the classes Cs, one after the other -/
inductive Exs (H : Hp) : List Addr → List Addr → Prop
  | nil : Exs H [] []
  | cons {a C : Addr} {l m : List Addr} : ExAt H a C → Exs H l m → Exs H (a :: l) (C :: m)
theorem Exs.same {H H' : Hp} (s : Same H H') : ∀ {l m : List Addr}, Exs H l m → Exs H' l m
  | _, _, .nil => .nil
  | _, _, .cons h r => .cons (h.same s) (Exs.same s r)
theorem Exs.append {H : Hp} : ∀ {l m l' m' : List Addr}, Exs H l m → Exs H l' m' → Exs H (l ++ l') (m ++ m')
  | _, _, _, _, .nil, r => r
  | _, _, _, _, .cons h q, r => .cons h (Exs.append q r)
theorem Exs.length {H : Hp} : ∀ {l m : List Addr}, Exs H l m → l.length = m.length
  | _, _, .nil => rfl
  | _, _, .cons _ r => congrArg (· + 1) (Exs.length r)
theorem Exs.get {H : Hp} : ∀ {l m : List Addr} {i : Nat} {a : Addr}, Exs H l m → l[i]? = some a → ∃ D, m[i]? = some D ∧ ExAt H a D
  | _, _, _, _, .nil, e => by simp at e
  | _, _, 0, _, .cons h _, e => by
    obtain rfl := Option.some.inj e
    exact ⟨_, rfl, h⟩
  | _, _, i + 1, a, .cons _ r, e => Exs.get (i := i) (a := a) r e
/-- X1(e), X2(e), .. as arguments -/
def tExs (i : Nat) (Cs : List Addr) : TA := fun σ H Q => (∃ v, σ[i]? = some (some v)) ∧ ∀ (as : List Addr) (H' : Hp), Same H H' → Exs H' as Cs → Q (as.map V.ref) H'
theorem pa_exs0 {X : Cx} {i : Nat} : PA X [] (tExs i []) := pa_nil.imp fun σ H Q q => q.2 [] H (Same.refl _) .nil
theorem pa_exs {X : Cx} {i : Nat} {e : Expr} {es : List Expr} {C : Addr} {Cs : List Addr} (he : PE X e (fun σ H Q => tVar i σ H fun _ H1 => ∀ a, H1 a = none → Q (.ref a) (upd H1 a (ExO (.ref C) a)))) (hr : PA X es (tExs i Cs))
    (hs : starEach (e :: es) X.env = (false, eval e X.env) :: starEach es X.env := by rfl) : PA X (e :: es) (tExs i (C :: Cs)) := by
  refine (pa_cons he hr hs).imp fun σ H Q ⟨⟨v, ev⟩, q⟩ => ⟨v, ev, fun a na => ⟨⟨v, ev⟩, fun as H' s h => ?_⟩⟩
  exact q (a :: as) H' ((same_upd na).trans s) (.cons ((ExAt.ofO upd_same).same s) h)
def sp_made (C : Nat → Addr) : Sp := fun vs H Q _ => ∃ x : Str, vs = [.str x] ∧ ∀ (H' : Hp) (L : Addr) (as : List Addr), Same H H' → H L = none → H' L = some (.lst (as.map V.ref)) → Exs H' as ((List.range 17).map C) → Q (.ref L) H'
def sp_text1 : Sp := fun vs H Q _ => ∃ x : Str, vs = [.str x] ∧ ∀ H' : Hp, Same H H' → Q (.bl true) H'
def sp_init (K : PySem.W.Frag) (N0 : Addr) : Sp := fun vs H Q E => ∃ (p : Addr) (v c g : V) (d : Dt), vs = [.ref p, v, c, g] ∧ Rp K H v d ∧ areCounts d = false ∧ ∀ H' : Hp, Same H H' → E (.ref N0) none H'
def sp_framed (K : PySem.W.Frag) : Sp := fun vs H Q _ => ∃ (v : V) (d : Dt), vs = [v] ∧ Rp K H v d ∧ areCounts d = false ∧ ∀ H' : Hp, Q (.bl true) H'
def sp_law (K : PySem.W.Frag) : Sp := fun vs H Q _ => ∃ (a : Addr) (ns : List Int), vs = [.ref a] ∧ SqL K H a (ns.map V.int) ∧ ∀ H' : Hp, Q (.bl true) H'
section
variable {P : Program} {w : World} {K : PySem.W.Frag} {mg : Str → Option Value} {base : Heap} {C : Nat → Addr} {tG tL : Tok}
theorem sc_l_firsts : FnScope ["_law_e", "_law_found"] ["_law_e"] (defScope s_l_firsts) :=
  ⟨rfl, rfl, rfl, by decide +kernel, rfl, by decide +kernel, by decide +kernel⟩
theorem ok_firsts {f : Addr} {fd : FuncData} (F : Fun K "_law_firsts" "_law_firsts" s_l_firsts f fd) (T : Txt K mg C tG tL) : FnA P w K mg base 1 f fd ["_law_e"] (sp_firsts C) := by
  refine funOkA F sc_l_firsts (fun vs H Q E ⟨a, m, e, _⟩ => by rw [e]; rfl) (fun cdv A outer s H vs Q E hr h => ?_)
  obtain ⟨a, m, rfl, hm, hE, q⟩ := h
  refine ⟨_, (pss_cons (ps_set (i := 1) sc_l_firsts.nd rfl (by first | exact Or.inl rfl | exact Or.inr rfl) (pe_lst (pa_cons (pe_isN T T.NoSums (by decide) (pv 0) (pe_glob (by rfl) T.NoSums.g rfl) (by rfl) T.n_isinstance) (pa_cons (pe_isN T T.NoCaps (by decide) (pv 0) (pe_glob (by rfl) T.NoCaps.g rfl) (by rfl) T.n_isinstance) (pa_cons (pe_isN T T.NoTable (by decide) (pv 0) (pe_glob (by rfl) T.NoTable.g rfl) (by rfl) T.n_isinstance) (pa_cons (pe_isN T T.NoOrder (by decide) (pv 0) (pe_glob (by rfl) T.NoOrder.g rfl) (by rfl) T.n_isinstance) pa_nil))))))
  (pss_cons (ps_set (i := 1) sc_l_firsts.nd rfl (by first | exact Or.inl rfl | exact Or.inr rfl) (pe_op op_cat (pv 1) (pe_lst (pa_cons (pe_isN T T.NoColumns (by decide) (pv 0) (pe_glob (by rfl) T.NoColumns.g rfl) (by rfl) T.n_isinstance) (pa_cons (pe_isN T T.NoText (by decide) (pv 0) (pe_glob (by rfl) T.NoText.g rfl) (by rfl) T.n_isinstance) (pa_cons (pe_isN T T.TooMany (by decide) (pv 0) (pe_glob (by rfl) T.TooMany.g rfl) (by rfl) T.n_isinstance) (pa_cons (pe_isN T T.NoNumber (by decide) (pv 0) (pe_glob (by rfl) T.NoNumber.g rfl) (by rfl) T.n_isinstance) pa_nil)))))))
  (pss_one (ps_ret (pe_op op_cat (pv 1) (pe_lst (pa_cons (pe_isN T T.NoStep (by decide) (pv 0) (pe_glob (by rfl) T.NoStep.g rfl) (by rfl) T.n_isinstance) (pa_cons (pe_isN T T.Bounded (by decide) (pv 0) (pe_glob (by rfl) T.Bounded.g rfl) (by rfl) T.n_isinstance) pa_nil)))))))), ?_⟩
  refine ⟨a, m, rfl, hm, hE, a, m, rfl, hm, hE, a, m, rfl, hm, hE, a, m, rfl, hm, hE, (by show 4 ≤ sizeLine; decide), fun p np => ?_⟩
  have s1 := same_upd (o := .lst [V.bl (decide (0 = m)), V.bl (decide (1 = m)), V.bl (decide (2 = m)), V.bl (decide (3 = m))]) np
  have hE1 := hE.same s1
  refine ⟨_, rfl, a, m, rfl, hm, hE1, a, m, rfl, hm, hE1, a, m, rfl, hm, hE1, a, m, rfl, hm, hE1, (by show 4 ≤ sizeLine; decide), fun r nr => ?_⟩
  have s2 := same_upd (o := .lst [V.bl (decide (4 = m)), V.bl (decide (5 = m)), V.bl (decide (6 = m)), V.bl (decide (7 = m))]) nr
  refine ⟨p, r, _, _, rfl, rfl, s2 _ _ upd_same, upd_same, (by show 8 ≤ sizeLine; decide), fun u nu => ?_⟩
  have s3 := same_upd (o := .lst [V.bl (decide (0 = m)), V.bl (decide (1 = m)), V.bl (decide (2 = m)), V.bl (decide (3 = m)), V.bl (decide (4 = m)), V.bl (decide (5 = m)), V.bl (decide (6 = m)), V.bl (decide (7 = m))]) nu
  have hE3 := (hE1.same s2).same s3
  refine ⟨_, rfl, a, m, rfl, hm, hE3, a, m, rfl, hm, hE3, (by show 2 ≤ sizeLine; decide), fun x nx => ?_⟩
  have s4 := same_upd (o := .lst [V.bl (decide (8 = m)), V.bl (decide (9 = m))]) nx
  refine ⟨u, x, _, _, rfl, rfl, s4 _ _ upd_same, upd_same, (by show 10 ≤ sizeLine; decide), fun y ny => ?_⟩
  have sA : Same H _ := ((s1.trans s2).trans s3).trans s4
  exact q _ y (sA.trans (same_upd ny)) (sA.free ny) upd_same
theorem sc_l_sorts : FnScope ["_law_e", "_law_found"] ["_law_e"] (defScope s_l_sorts) :=
  ⟨rfl, rfl, rfl, by decide +kernel, rfl, by decide +kernel, by decide +kernel⟩
theorem ok_sorts {f : Addr} {fd : FuncData} (F : Fun K "_law_sorts" "_law_sorts" s_l_sorts f fd) (T : Txt K mg C tG tL) (c_l_firsts : CalA P w K mg base 1 "_law_firsts" ["_law_e"] (sp_firsts C)) : FnA P w K mg base 2 f fd ["_law_e"] (sp_sorts C) := by
  refine funOkA F sc_l_sorts (fun vs H Q E ⟨a, m, e, _⟩ => by rw [e]; rfl) (fun cdv A outer s H vs Q E hr h => ?_)
  obtain ⟨a, m, rfl, hm, hE, q⟩ := h
  refine ⟨_, (pss_cons (ps_set (i := 1) sc_l_sorts.nd rfl (by first | exact Or.inl rfl | exact Or.inr rfl) (pe_op op_cat (pe_calA c_l_firsts (by first | exact roomH_mark (hr.mono (by decide)) | exact hr.mono (by decide)) (by rfl) (pa_cons (pv 0) pa_nil)) (pe_lst (pa_cons (pe_isN T T.NoCell (by decide) (pv 0) (pe_glob (by rfl) T.NoCell.g rfl) (by rfl) T.n_isinstance) (pa_cons (pe_isN T T.NoKind (by decide) (pv 0) (pe_glob (by rfl) T.NoKind.g rfl) (by rfl) T.n_isinstance) (pa_cons (pe_isN T T.NoScores (by decide) (pv 0) (pe_glob (by rfl) T.NoScores.g rfl) (by rfl) T.n_isinstance) pa_nil))))))
  (pss_one (ps_ret (pe_op op_cat (pv 1) (pe_lst (pa_cons (pe_isN T T.NoWhole (by decide) (pv 0) (pe_glob (by rfl) T.NoWhole.g rfl) (by rfl) T.n_isinstance) (pa_cons (pe_isN T T.NoCube (by decide) (pv 0) (pe_glob (by rfl) T.NoCube.g rfl) (by rfl) T.n_isinstance) (pa_cons (pe_isN T T.NoFaces (by decide) (pv 0) (pe_glob (by rfl) T.NoFaces.g rfl) (by rfl) T.n_isinstance) (pa_cons (pe_isN T T.NoLine (by decide) (pv 0) (pe_glob (by rfl) T.NoLine.g rfl) (by rfl) T.n_isinstance) pa_nil))))))))), ?_⟩
  refine ⟨.ref a, rfl, a, m, rfl, hm, hE, fun H1 p s1 np hp => ?_⟩
  have hE1 := hE.same s1
  refine ⟨a, m, rfl, hm, hE1, a, m, rfl, hm, hE1, a, m, rfl, hm, hE1, (by show 3 ≤ sizeLine; decide), fun r nr => ?_⟩
  have s2 := same_upd (o := .lst [V.bl (decide (10 = m)), V.bl (decide (11 = m)), V.bl (decide (12 = m))]) nr
  refine ⟨p, r, _, _, rfl, rfl, s2 _ _ hp, upd_same, (by show 13 ≤ sizeLine; decide), fun u nu => ?_⟩
  have s3 := same_upd (o := .lst (((List.range 10).map fun j => V.bl (decide (j = m))) ++ [V.bl (decide (10 = m)), V.bl (decide (11 = m)), V.bl (decide (12 = m))])) nu
  have hE3 := (hE1.same s2).same s3
  refine ⟨_, rfl, a, m, rfl, hm, hE3, a, m, rfl, hm, hE3, a, m, rfl, hm, hE3, a, m, rfl, hm, hE3, (by show 4 ≤ sizeLine; decide), fun x nx => ?_⟩
  have s4 := same_upd (o := .lst [V.bl (decide (13 = m)), V.bl (decide (14 = m)), V.bl (decide (15 = m)), V.bl (decide (16 = m))]) nx
  refine ⟨u, x, _, _, rfl, rfl, s4 _ _ upd_same, upd_same, (by show 17 ≤ sizeLine; decide), fun y ny => ?_⟩
  have sA : Same H _ := ((s1.trans s2).trans s3).trans s4
  exact q _ y (sA.trans (same_upd ny)) (sA.free ny) upd_same
theorem sc_l_made : FnScope ["_law_text", "_law_found"] ["_law_text"] (defScope s_l_made) :=
  ⟨rfl, rfl, rfl, by decide +kernel, rfl, by decide +kernel, by decide +kernel⟩
theorem ok_made {f : Addr} {fd : FuncData} (F : Fun K "_law_made" "_law_made" s_l_made f fd) (T : Txt K mg C tG tL) : FnOk P w K mg base CX0 1 f fd ["_law_text"] (sp_made C) := by
  refine F.ok sc_l_made (fun vs H Q E ⟨x, e, _⟩ => by rw [e]; rfl) (fun cdv A outer s H vs Q E hr h => ?_)
  obtain ⟨x, rfl, q⟩ := h
  refine ⟨_, (pss_cons (ps_set (i := 1) sc_l_made.nd rfl (by first | exact Or.inl rfl | exact Or.inr rfl) (pe_lst (pa_exs (pe_exc1 PySem.F.excBase_ValueError T.NoSums.x T.NoSums.g T.NoSums.k (by exact rfl) (pv 0)) (pa_exs (pe_exc1 PySem.F.excBase_ValueError T.NoCaps.x T.NoCaps.g T.NoCaps.k (by exact rfl) (pv 0)) (pa_exs (pe_exc1 PySem.F.excBase_ValueError T.NoTable.x T.NoTable.g T.NoTable.k (by exact rfl) (pv 0)) (pa_exs (pe_exc1 PySem.F.excBase_ValueError T.NoOrder.x T.NoOrder.g T.NoOrder.k (by exact rfl) (pv 0)) (pa_exs (pe_exc1 PySem.F.excBase_ValueError T.NoColumns.x T.NoColumns.g T.NoColumns.k (by exact rfl) (pv 0)) (pa_exs (pe_exc1 PySem.F.excBase_ValueError T.NoText.x T.NoText.g T.NoText.k (by exact rfl) (pv 0)) (pa_exs (pe_exc1 PySem.F.excBase_ValueError T.TooMany.x T.TooMany.g T.TooMany.k (by exact rfl) (pv 0)) pa_exs0)))))))))
  (pss_cons (ps_set (i := 1) sc_l_made.nd rfl (by first | exact Or.inl rfl | exact Or.inr rfl) (pe_op op_cat (pv 1) (pe_lst (pa_exs (pe_exc1 PySem.F.excBase_ValueError T.NoNumber.x T.NoNumber.g T.NoNumber.k (by exact rfl) (pv 0)) (pa_exs (pe_exc1 PySem.F.excBase_ValueError T.NoStep.x T.NoStep.g T.NoStep.k (by exact rfl) (pv 0)) (pa_exs (pe_exc1 PySem.F.excBase_ValueError T.Bounded.x T.Bounded.g T.Bounded.k (by exact rfl) (pv 0)) (pa_exs (pe_exc1 PySem.F.excBase_ValueError T.NoCell.x T.NoCell.g T.NoCell.k (by exact rfl) (pv 0)) (pa_exs (pe_exc1 PySem.F.excBase_ValueError T.NoKind.x T.NoKind.g T.NoKind.k (by exact rfl) (pv 0)) (pa_exs (pe_exc1 PySem.F.excBase_ValueError T.NoScores.x T.NoScores.g T.NoScores.k (by exact rfl) (pv 0)) pa_exs0)))))))))
  (pss_one (ps_ret (pe_op op_cat (pv 1) (pe_lst (pa_exs (pe_exc1 PySem.F.excBase_ValueError T.NoWhole.x T.NoWhole.g T.NoWhole.k (by exact rfl) (pv 0)) (pa_exs (pe_exc1 PySem.F.excBase_ValueError T.NoCube.x T.NoCube.g T.NoCube.k (by exact rfl) (pv 0)) (pa_exs (pe_exc1 PySem.F.excBase_ValueError T.NoFaces.x T.NoFaces.g T.NoFaces.k (by exact rfl) (pv 0)) (pa_exs (pe_exc1 PySem.F.excBase_ValueError T.NoLine.x T.NoLine.g T.NoLine.k (by exact rfl) (pv 0)) pa_exs0)))))))))), ?_⟩
  refine ⟨⟨_, rfl⟩, fun l1 H1 s1 e1 => ⟨by rw [List.length_map, e1.length]; exact (by decide : 7 ≤ sizeLine), fun p np => ?_⟩⟩
  have k1 := same_upd (o := .lst (l1.map V.ref)) np
  refine ⟨_, rfl, ⟨_, rfl⟩, fun l2 H2 s2 e2 => ⟨by rw [List.length_map, e2.length]; exact (by decide : 6 ≤ sizeLine), fun r nr => ?_⟩⟩
  have k2 := same_upd (o := .lst (l2.map V.ref)) nr
  refine ⟨p, r, _, _, rfl, rfl, k2 _ _ (s2 _ _ upd_same), upd_same, by rw [List.length_map, List.length_map, e1.length, e2.length]; exact (by decide : 13 ≤ sizeLine), fun u nu => ?_⟩
  have k3 := same_upd (o := .lst (l1.map V.ref ++ l2.map V.ref)) nu
  refine ⟨_, rfl, ⟨_, rfl⟩, fun l3 H3 s3 e3 => ⟨by rw [List.length_map, e3.length]; exact (by decide : 4 ≤ sizeLine), fun t nt => ?_⟩⟩
  have k4 := same_upd (o := .lst (l3.map V.ref)) nt
  refine ⟨u, t, _, _, rfl, rfl, k4 _ _ (s3 _ _ upd_same), upd_same, by rw [List.length_append, List.length_map, List.length_map, List.length_map, e1.length, e2.length, e3.length]; exact (by decide : 17 ≤ sizeLine), fun y ny => ?_⟩
  have k5 := same_upd (o := .lst (l1.map V.ref ++ l2.map V.ref ++ l3.map V.ref)) ny
  have f3 := e3.same (k4.trans k5)
  have t2 := ((k2.trans k3).trans s3).trans (k4.trans k5)
  have f2 := e2.same t2
  have t1 := (k1.trans s2).trans t2
  have f1 := e1.same t1
  refine q _ y (l1 ++ l2 ++ l3) (s1.trans t1) (((s1.trans (k1.trans s2)).trans ((k2.trans k3).trans s3)).trans k4 |>.free ny) ?_ ((f1.append f2).append f3)
  rw [upd_same, List.map_append, List.map_append]
theorem sc_l_caught : FnScope ["_law_text", "_law_e"] ["_law_text"] (defScope s_l_caught) :=
  ⟨rfl, rfl, rfl, by decide +kernel, rfl, by decide +kernel, by decide +kernel⟩
theorem ok_caught {f : Addr} {fd : FuncData} (F : Fun K "_law_caught" "_law_caught" s_l_caught f fd) (T : Txt K mg C tG tL) : FnOk P w K mg base CX0 1 f fd ["_law_text"] sp_text1 := by
  refine F.ok sc_l_caught (fun vs H Q E ⟨x, e, _⟩ => by rw [e]; rfl) (fun cdv A outer s H vs Q E hr h => ?_)
  obtain ⟨x, rfl, q⟩ := h
  refine ⟨_, (pss_cons (ps_tryT rfl rfl rfl sc_l_caught.nd takes0 (fun W pn xe tk _ => (pss_one (ps_raise rfl tk (SkE.pmk_own1 PySem.F.excBase_ValueError T.NoSums.x T.NoSums.g T.NoSums.k (raises_own T.NoSums.b T.NoSums.t) (by exact rfl) (pv 0)))))
  (HdT.plain ⟨rfl, by decide, .inl T.NoCaps.g⟩ (fun a cls pn => (pss_one (ps_ret pe_bl)))
  (HdT.named (i := 1) ⟨rfl, by decide, .inl T.TableError.g⟩ rfl rfl (fun a cls pn => (pss_one (ps_ret (pe_isN T T.NoSums (by decide) (pv 1) (pe_glob (by rfl) T.NoSums.g rfl) (by rfl) T.n_isinstance))))
  HdT.nil)))
  (pss_one (ps_ret pe_bl))), ?_⟩
  refine ⟨.str x, rfl, false, T.exm 0 1 (by decide) (by decide), (fun z => nomatch z), fun _ => ⟨true, T.exmT 0 (by decide), fun _ => ⟨rfl, fun a na => ?_⟩, (fun z => nomatch z)⟩⟩
  exact ⟨a, 0, rfl, by decide, ExAt.ofT upd_same, q _ (same_upd na)⟩
theorem sc_l_own : FnScope ["_law_text", "_law_e"] ["_law_text"] (defScope s_l_own) :=
  ⟨rfl, rfl, rfl, by decide +kernel, rfl, by decide +kernel, by decide +kernel⟩
theorem ok_own {f : Addr} {fd : FuncData} (F : Fun K "_law_own" "_law_own" s_l_own f fd) (T : Txt K mg C tG tL) : FnOk P w K mg base CX0 1 f fd ["_law_text"] sp_text1 := by
  refine F.ok sc_l_own (fun vs H Q E ⟨x, e, _⟩ => by rw [e]; rfl) (fun cdv A outer s H vs Q E hr h => ?_)
  obtain ⟨x, rfl, q⟩ := h
  refine ⟨_, (pss_cons (ps_tryT rfl rfl rfl sc_l_own.nd takes0 (fun W pn xe tk _ => (pss_one (ps_raise rfl tk (SkE.pmk_own1 PySem.F.excBase_ValueError T.Bounded.x T.Bounded.g T.Bounded.k (raises_own T.Bounded.b T.Bounded.t) (by exact rfl) (pv 0)))))
  (HdT.plain ⟨rfl, by decide, .inl T.TooMany.g⟩ (fun a cls pn => (pss_one (ps_ret pe_bl)))
  (HdT.named (i := 1) ⟨rfl, by decide, .inl T.Bounded.g⟩ rfl rfl (fun a cls pn => (pss_one (ps_ret (pe_callB (call_isXK (K := K) rfl) (by rfl) T.n_isinstance (by decide +kernel) (pa_cons (pv 1) (pa_cons (pe_bltn (v := .ty "ValueError") (by rfl) T.n_ValueError (by decide +kernel) rfl) pa_nil))))))
  HdT.nil)))
  (pss_one (ps_ret pe_bl))), ?_⟩
  refine ⟨.str x, rfl, false, T.exm 9 6 (by decide) (by decide), (fun z => nomatch z), fun _ => ⟨true, T.exm 9 9 (by decide) (by decide), fun _ => ⟨rfl, fun a na => ?_⟩, (fun z => nomatch z)⟩⟩
  exact ⟨.ref a, rfl, a, C 9, _, _, true, rfl, .ty _, ExAt.ofT upd_same, T.Bounded.c, kit_VE T.Bounded, q _ (same_upd na)⟩
end
end Kp17
set_option Elab.async false
set_option linter.all false
set_option maxRecDepth 100000
set_option maxHeartbeats 4000000
namespace Kp17
open PySem PySem.Spec PyProof.Rows L2 Vf
/-! ### a frame that is refused; the law itself -/
section
variable {P : Program} {w : World} {K : PySem.W.Frag} {mg : Str → Option Value} {base : Heap} {C : Nat → Addr} {tG tL : Tok}
theorem sc_Frame_init : FnScope ["self", "rows", "columns", "caps", "row_sums", "column_sums", "cell_caps"] ["self", "rows", "columns", "caps"] (defScope s_Frame_init) :=
  ⟨rfl, rfl, rfl, by decide +kernel, rfl, by decide +kernel, by decide +kernel⟩
theorem ok_init {f : Addr} {fd : FuncData} {dvs : List V} (F : FunD K "__init__" "Frame.__init__" (defArgs s_Frame_init) (defBody s_Frame_init) (defScope s_Frame_init) dvs [] f fd) (T : Txt K mg C tG tL) (c_wanted_sums : Cal P w K mg base (L2.CX P w) 4 "wanted_sums" ["thing"] (sp_wanted_sums K (C 0))) :
    FnOk P w K mg base (L2.CX P w) 5 f fd ["self", "rows", "columns", "caps"] (sp_init K (C 0)) := by
  refine F.ok sc_Frame_init (fun vs H Q E ⟨p, v, c, g, d, e, _⟩ => by rw [e]; rfl) (fun cdv A outer s H vs Q E hr h => ?_)
  obtain ⟨p, v, c, g, d, rfl, R, hd, q⟩ := h
  refine ⟨_, pss_cons (ps_set (i := 4) sc_Frame_init.nd rfl (by first | exact Or.inl rfl | exact Or.inr rfl) (pe_cal c_wanted_sums (hr.mono (by decide)) (by rfl) (passes_call (takes_of rfl rfl rfl rfl) (fun _ _ _ _ h => h)) (pa_cons (pv 1) pa_nil))) pss_never, ?_⟩
  exact ⟨v, rfl, v, d, rfl, R, fun _ H' s' => q H' s', fun e => by rw [hd] at e; cases e⟩
theorem sc_l_framed : FnScope ["_law_bad", "_law_e"] ["_law_bad"] (defScope s_l_framed) :=
  ⟨rfl, rfl, rfl, by decide +kernel, rfl, by decide +kernel, by decide +kernel⟩
/-- lists of truths, as data -/
theorem dp_bls {H : Hp} : ∀ bs : List Bool, DpAll K H (bs.map V.bl) (bs.map PyData.bool)
  | [] => .nil
  | b :: r => .cons (.bl b) (dp_bls r)
theorem shaped_bls (bs : List Bool) : SeqAt.shaped (.list (bs.map PyData.bool)) = true := by
  have h1 : ∀ l : List Bool, PyData.canLayAll0 (l.map PyData.bool) = true ∧ PyData.depthAll (l.map PyData.bool) = 0 := by
    intro l
    induction l with
    | nil => exact ⟨rfl, rfl⟩
    | cons b r ih =>
      refine ⟨?_, ?_⟩
      · show (PyData.canLay0 (.bool b) && PyData.canLayAll0 (r.map PyData.bool)) = true
        rw [ih.1]
        rfl
      · show max (PyData.depth (.bool b)) (PyData.depthAll (r.map PyData.bool)) = 0
        rw [ih.2]
        rfl
  show (PyData.canLayAll0 (bs.map PyData.bool) && decide (PyData.depthAll (bs.map PyData.bool) + 1 ≤ 64)) = true
  rw [(h1 bs).1, (h1 bs).2]
  rfl
theorem ok_framed {f fI CF : Addr} {fd fdI : FuncData} {ds : List Value} (F : Fun K "_law_framed" "_law_framed" s_l_framed f fd) (T : Txt K mg C tG tL) (M : Mk K CF fI) (gF : mg "Frame" = some (.ref CF)) (bI : Binds K fdI ["self", "rows", "columns", "caps"] ds) (dI : Vals [V.non] ds)
    (FI : FnOk P w K mg base (L2.CX P w) 5 fI fdI ["self", "rows", "columns", "caps"] (sp_init K (C 0))) (c_l_sorts : CalA P w K mg base 2 "_law_sorts" ["_law_e"] (sp_sorts C)) : FnOk P w K mg base CX0 7 f fd ["_law_bad"] (sp_framed K) := by
  refine F.ok sc_l_framed (fun vs H Q E ⟨v, d, e, _⟩ => by rw [e]; rfl) (fun cdv A outer s H vs Q E hr h => ?_)
  obtain ⟨v, d, rfl, R, hd, q⟩ := h
  refine ⟨_, (pss_cons (ps_tryT rfl rfl rfl sc_l_framed.nd takes0 (fun W pn xe tk _ => (pss_one (ps_expr (pe_makS M FI (hr.mono (by decide)) (by rfl) gF bI dI (fun σ => passAt tk σ) (pa_cons (pv 0) (pa_cons (pe_lst (pa_cons pe_int pa_nil)) pa_nil))))))
  (HdT.plain ⟨rfl, by decide, .inl T.NoCaps.g⟩ (fun a cls pn => (pss_one (ps_ret pe_bl)))
  (HdT.named (i := 1) ⟨rfl, by decide, .inl T.TableError.g⟩ rfl rfl (fun a cls pn => (pss_one (ps_ret (pe_cmpR (op_eqDK (K := K) rfl (show _ from hr.units)) (pe_calA c_l_sorts (by first | exact roomH_mark (hr.mono (by decide)) | exact hr.mono (by decide)) (by rfl) (pa_cons (pv 1) pa_nil)) (pe_op op_cat (pe_lst (pa_cons pe_bl pa_nil)) (pe_op op_rep (pe_lst (pa_cons pe_bl pa_nil)) pe_int)) (nomark _)))))
  HdT.nil)))
  (pss_one (ps_ret pe_bl))), ?_⟩
  refine ⟨v, rfl, (by show 1 ≤ sizeLine; decide), fun p np x dx nx ndx nex => ?_⟩
  have s0 := ((same_upd (o := .lst [V.int 0]) np).trans (same_upd (o := .own x) ndx)).trans (same_upd (H := upd (upd H p (.lst [.int 0])) dx (.own x)) (p := x) (o := .ins CF dx []) (by rw [upd_ne nex.symm]; exact nx))
  refine ⟨x, v, .ref p, .non, d, rfl, R.same s0, hd, fun H1 s1 => ⟨false, T.exm 0 1 (by decide) (by decide), (fun z => nomatch z), fun _ => ⟨true, T.exmT 0 (by decide), fun _ => ⟨rfl, fun a na => ?_⟩, (fun z => nomatch z)⟩⟩⟩
  refine ⟨.ref a, rfl, a, 0, rfl, by decide, ExAt.ofT upd_same, fun H2 p2 s2 np2 hp2 => ?_⟩
  refine ⟨(by show 1 ≤ sizeLine; decide), fun r nr => ⟨(by show 1 ≤ sizeLine; decide), fun u nu => ?_⟩⟩
  have k1 := same_upd (o := .lst [V.bl true]) nr
  have k2 := same_upd (o := .lst [V.bl false]) nu
  refine ⟨u, 16, [.bl false], rfl, rfl, upd_same, by decide, by decide, (by show 16 ≤ sizeLine; decide), fun y ny => ?_⟩
  have k3 := same_upd (H := upd (upd H2 r (.lst [V.bl true])) u (.lst [V.bl false])) (p := y) (o := .lst ((List.replicate (Int.toNat 16) [V.bl false]).flatten)) ny
  refine ⟨r, y, [.bl true], _, rfl, rfl, k3 _ _ (k2 _ _ upd_same), upd_same, (by show 17 ≤ sizeLine; decide), fun z nz => ?_⟩
  have k4 := same_upd (H := upd (upd (upd H2 r (.lst [V.bl true])) u (.lst [V.bl false])) y (.lst ((List.replicate (Int.toNat 16) [V.bl false]).flatten))) (p := z) (o := .lst ([V.bl true] ++ (List.replicate (Int.toNat 16) [V.bl false]).flatten)) nz
  have e2 := k4 _ _ (k3 _ _ (k2 _ _ (k1 _ _ hp2)))
  refine ⟨.list (((List.range 17).map fun j => decide (j = 0)).map PyData.bool), .list (((List.range 17).map fun j => decide (j = 0)).map PyData.bool), .lst (SqL.of e2) ?_, .lst (SqL.of upd_same) ?_, shaped_bls _, shaped_bls _, ?_⟩
  · exact dp_bls ((List.range 17).map fun j => decide (j = 0))
  · exact dp_bls ((List.range 17).map fun j => decide (j = 0))
  · rw [SeqAt.eqv_refl _ (SeqAt.canLay_of_shaped (shaped_bls _))]
    exact q _
end
end Kp17
set_option Elab.async false
set_option linter.all false
set_option maxRecDepth 100000
set_option maxHeartbeats 4000000
namespace Kp17
open PySem PySem.Spec PyProof.Rows L2 Vf
/-! ### the law's own body -/
section
variable {P : Program} {w : World} {K : PySem.W.Frag} {mg : Str → Option Value} {base : Heap} {C : Nat → Addr} {tG tL : Tok}
theorem sc_law : FnScope ["_law_script", "_law_tape_here", "_law_text", "_law_k", "_law_made_here", "_law_e", "_law_j", "_law_bad"] ["_law_script"] (defScope s_law) :=
  ⟨rfl, rfl, rfl, by decide +kernel, rfl, by decide +kernel, by decide +kernel⟩
theorem dec_eq (m i : Nat) : decide (V.int (0 + (m : Int)) = V.int (i : Int)) = decide (m = i) :=
  decide_eq_decide.mpr ⟨fun z => by have := V.int.inj z; omega, fun z => by rw [z, Int.zero_add]⟩
theorem ok_law {f : Addr} {fd : FuncData} (F : Fun K "law" "law" s_law f fd) (T : Txt K mg C tG tL) (c_l_cell_at : Cal P w K mg base CX0 1 "_law_cell_at" ["_law_script", "_law_k"] (sp_cell_at K)) (c_l_tape : Cal P w K mg base CX0 1 "_law_tape" ["_law_cell"] sp_tape)
    (c_l_digit : Cal P w K mg base CX0 1 "_law_digit" ["_law_tape_here", "_law_size"] sp_digit) (c_l_made : Cal P w K mg base CX0 1 "_law_made" ["_law_text"] (sp_made C)) (c_l_sorts : CalA P w K mg base 2 "_law_sorts" ["_law_e"] (sp_sorts C))
    (c_l_caught : Cal P w K mg base CX0 1 "_law_caught" ["_law_text"] sp_text1) (c_l_own : Cal P w K mg base CX0 1 "_law_own" ["_law_text"] sp_text1) (c_l_framed : Cal P w K mg base CX0 7 "_law_framed" ["_law_bad"] (sp_framed K)) : FnOk P w K mg base CX0 8 f fd ["_law_script"] (sp_law K) := by
  refine F.ok sc_law (fun vs H Q E ⟨a, ns, e, _⟩ => by rw [e]; rfl) (fun cdv A outer s H vs Q E hr h => ?_)
  obtain ⟨a, ns, rfl, hS, q⟩ := h
  refine ⟨_, (pss_cons (ps_set (i := 1) sc_law.nd rfl (by first | exact Or.inl rfl | exact Or.inr rfl) (pe_cal c_l_tape (hr.mono (by decide)) (by rfl) pass0 (pa_cons (pe_cal c_l_cell_at (hr.mono (by decide)) (by rfl) pass0 (pa_cons (pv 0) (pa_cons pe_int pa_nil))) pa_nil)))
  (pss_cons (ps_set (i := 2) sc_law.nd rfl (by first | exact Or.inl rfl | exact Or.inr rfl) (pe_join pe_str (pe_lc (own := [("_law_k", 3)]) (by rfl) sc_law.nd (pi_range1 (by rfl) T.n_range (pa_cons (pe_cal c_l_digit (hr.mono (by decide)) (by rfl) pass0 (pa_cons (pv 1) (pa_cons pe_int pa_nil))) pa_nil)) (blkOk_by (own := [("_law_k", 3)]) (N := ["_law_script", "_law_tape_here", "_law_text", "_law_k", "_law_made_here", "_law_e", "_law_j", "_law_bad"]) (sc := defScope s_law) (by decide +kernel)) (fun _ _ _ _ _ => (pg_name (i := 3) sc_law.nd rfl (by first | exact Or.inl rfl | exact Or.inr rfl))) (fun _ _ _ _ _ => pts_nil) (fun _ _ _ _ _ => (pe_ix ix_str pe_str (pe_cal c_l_digit (hr.mono (by decide)) (by rfl) pass0 (pa_cons (pv 1) (pa_cons pe_int pa_nil))) (fun _ _ => rfl))))))
  (pss_cons (ps_set (i := 4) sc_law.nd rfl (by first | exact Or.inl rfl | exact Or.inr rfl) (pe_cal c_l_made (hr.mono (by decide)) (by rfl) pass0 (pa_cons (pv 2) pa_nil)))
  (pss_cons (ps_for PassesOwn.never rfl (pi_enum (by rfl) T.n_enumerate (pa_cons (pv 4) pa_nil))
  (pg_tup rfl (pgs_cons (pg_name (i := 3) sc_law.nd rfl (by first | exact Or.inl rfl | exact Or.inr rfl)) (pgs_cons (pg_name (i := 5) sc_law.nd rfl (by first | exact Or.inl rfl | exact Or.inr rfl)) pgs_nil)))
  (pss_cons (ps_if (PW.pt (pw_or (pt_not (pt_val (pe_callB call_isX (by rfl) T.n_isinstance (by decide +kernel) (pa_cons (pv 5) (pa_cons (pe_glob (v := .ref _) (by rfl) T.TableError.g rfl) pa_nil))))) (pw_or1 (pt_not (pt_val (pe_callB call_isX (by rfl) T.n_isinstance (by decide +kernel) (pa_cons (pv 5) (pa_cons (pe_bltn (v := .ty "ValueError") (by rfl) T.n_ValueError (by decide +kernel) rfl) pa_nil))))))))
  (pss_one (ps_ret pe_bl))
  pss_nil)
  (pss_one (ps_if (pt_cmpR (op_neD hr.units) (pe_calA c_l_sorts (L2H.roomH_of (hr.mono (by decide))) (by rfl) (pa_cons (pv 5) pa_nil)) (pe_lc (own := [("_law_j", 6)]) (by rfl) sc_law.nd (pi_range1 (by rfl) T.n_range (pa_cons pe_int pa_nil)) (blkOk_by (own := [("_law_j", 6)]) (N := ["_law_script", "_law_tape_here", "_law_text", "_law_k", "_law_made_here", "_law_e", "_law_j", "_law_bad"]) (sc := defScope s_law) (by decide +kernel)) (fun _ _ _ _ _ => (pg_name (i := 6) sc_law.nd rfl (by first | exact Or.inl rfl | exact Or.inr rfl))) (fun _ _ _ _ _ => pts_nil) (fun _ _ _ _ _ => (pe_cmpR op_eq (pv 6) (pv 3) (nomark _)))) (nomark _))
  (pss_one (ps_ret pe_bl))
  pss_nil))))
  (pss_cons (ps_set (i := 7) sc_law.nd rfl (by first | exact Or.inl rfl | exact Or.inr rfl) (pe_ix (ix_listK (K := K) rfl) (pe_lst (pa_cons (pe_lst pa_nil) (pa_cons pe_non (pa_cons (pe_lst (pa_cons pe_bl pa_nil)) (pa_cons (pe_lst (pa_cons (pe_un un_neg pe_int) pa_nil)) (pa_cons (pv 2) pa_nil)))))) (pe_cal c_l_digit (hr.mono (by decide)) (by rfl) pass0 (pa_cons (pv 1) (pa_cons pe_int pa_nil))) (fun _ _ => rfl)))
  (pss_one (ps_ret (pe_and (pe_cal c_l_caught (hr.mono (by decide)) (by rfl) pass0 (pa_cons (pv 2) pa_nil)) (pe_and (pe_cal c_l_own (hr.mono (by decide)) (by rfl) pass0 (pa_cons (pv 2) pa_nil)) (pe_one (pe_cal c_l_framed (hr.mono (by decide)) (by rfl) pass0 (pa_cons (pv 7) pa_nil)))))))))))), ?_⟩
  refine ⟨.ref a, rfl, a, ns, 0, rfl, hS, _, rfl, fun H1 t n s1 nt ht => ?_⟩
  -- the text
  refine ⟨⟨_, rfl⟩, .ref t, rfl, t, n, 12, rfl, ht, by decide, by decide, fun d n' d0 d1 => ⟨d, rfl, by omega, by omega, fun D nD => ?_⟩⟩
  have hDt : D ≠ t := fun z => by rw [z, upd_same] at nD; cases nD
  refine lc_range (n := d.toNat) (fun i H' => Kp t (upd H1 t (.lst [.int n'])) H' ∧ ∃ ys : List Str, H' D = some (.lst (ys.map V.str)) ∧ ys.length = i ∧ (ys.map (·.length)).sum = i) ⟨(Kp.refl ⟨n', upd_same⟩).lay nD, [], upd_same, rfl, rfl⟩ (fun i H' hi p => ?_) (fun H' p => ?_)
  · obtain ⟨kp, ys, hy, hl, hsum⟩ := p
    obtain ⟨m, hm⟩ := kp.2
    refine ⟨rfl, .ref t, rfl, t, m, 10, rfl, hm, by decide, by decide, fun d2 n2 e0 e1 => ?_⟩
    have hj : d2.toNat < ((PySem.Str.ofString "abc xyz019").cps.toList).length := by
      have : ((PySem.Str.ofString "abc xyz019").cps.toList).length = 10 := by decide +kernel
      omega
    refine ⟨_, d2, _, rfl, rfl, (by decide +kernel), (congrArg (atI _) (show d2 = ((d2.toNat : Nat) : Int) by omega)).trans (atI_nat (List.getElem?_eq_getElem hj)), _, (upd_ne hDt).trans hy, ?_, ⟨fun b o e h => ?_, ?_⟩, ys ++ [_], by rw [upd_same, List.map_append]; rfl, by rw [List.length_append, hl]; rfl, ?_⟩
    · rw [List.length_map, hl]
      exact Nat.lt_of_lt_of_le (show i < 12 by omega) (by decide)
    · rw [upd_ne (ne_of_none e nD), upd_ne h]
      exact kp.1 b o e h
    · exact ⟨n2, by rw [upd_ne hDt.symm, upd_same]⟩
    · rw [List.map_append, List.sum_append, hsum]
      rfl
  obtain ⟨kp, ys, hy, hl, hsum⟩ := p
  refine ⟨_, D, ys, rfl, rfl, .inl (SqL.of hy), ?_, ?_⟩
  · rw [hsum, hl]
    have : (PySem.Str.ofString "").length = 0 := by decide +kernel
    rw [this]
    omega
  -- the exceptions made
  generalize Txt.join _ ys = txt
  refine ⟨.str txt, rfl, txt, rfl, fun H4 L as s4 nL hL hx => ?_⟩
  have hlen : as.length = 17 := by rw [hx.length]; rfl
  have kp4 := kp.same s4
  refine ⟨.ref L, rfl, L, as.map V.ref, rfl, SqL.of hL, for_enum (xs := as.map V.ref) (fun i σ H' => Same H4 H' ∧ ∃ v3 v5 v6, σ = [some (.ref a), some (.ref t), some (.str txt), v3, some (.ref L), v5, v6, none]) ⟨Same.refl _, none, none, none, rfl⟩ (fun i σ H' _ p => p.1.seq (SqL.of hL)) (fun i x U σ H' hxi p nU => ?_) (fun σ H' p => ?_)⟩
  · obtain ⟨s5, v3, v5, v6, rfl⟩ := p
    obtain ⟨b, hb, rfl⟩ : ∃ b, as[i]? = some b ∧ x = V.ref b := by
      rw [List.getElem?_map] at hxi
      cases e : as[i]? with
      | none => rw [e] at hxi; cases hxi
      | some b => rw [e] at hxi; exact ⟨b, rfl, (Option.some.inj hxi).symm⟩
    have hi : i < 17 := hlen ▸ (List.getElem?_eq_some_iff.mp hb).1
    obtain ⟨D', hD', hE⟩ := hx.get hb
    have eD : D' = C i := by
      rw [List.getElem?_map, List.getElem?_range hi] at hD'
      exact (Option.some.inj hD').symm
    rw [eD] at hE
    have s6 := s5.trans (same_upd (o := .tup [V.int (i : Nat), V.ref b]) nU)
    have hE6 := hE.same s6
    obtain ⟨nm, Fi⟩ := T.fs i hi
    have kT : PySem.W.kitOne K (.ref (C i)) (.ref (C 17)) = some true := by
      rw [kit_own Fi T.TableError.i T.TableError.t, decide_eq_true (p := C 17 = C 17) rfl, Bool.or_true]
    refine ⟨U, [.int (i : Nat), .ref b], rfl, SqT.of upd_same, rfl, .int (i : Nat), [.ref b], rfl, .ref b, [], rfl, rfl, ?_⟩
    refine ⟨.ref b, rfl, b, C i, _, _, true, rfl, .own _, hE6, Fi.c, kT, true, rfl, ?_⟩
    refine ⟨.ref b, rfl, b, C i, _, _, true, rfl, .ty _, hE6, Fi.c, kit_VE Fi, true, rfl, ?_⟩
    refine ⟨.ref b, rfl, b, i, rfl, hi, hE6, fun H7 p7 s7 np7 hp7 => ⟨17, rfl, by decide, by decide, fun D2 nD2 => ?_⟩⟩
    refine lc_range (n := 17) (fun m H' => Same H7 H' ∧ H' D2 = some (.lst (((List.range m).map fun j => decide (j = i)).map V.bl))) ⟨same_upd nD2, upd_same⟩ (fun m H' hm p => ?_) (fun H' p => ?_)
    · refine ⟨rfl, .int (0 + (m : Int)), rfl, .int (i : Nat), rfl, rfl, _, p.2, ?_, fun b o e => ?_, ?_⟩
      · rw [List.length_map, List.length_map, List.length_range]
        exact Nat.lt_of_lt_of_le hm (by decide)
      · rw [upd_ne (ne_of_none e nD2)]
        exact p.1 b o e
      · rw [upd_same, dec_eq, List.range_succ, List.map_append, List.map_append]
        rfl
    · refine ⟨.list (((List.range 17).map fun j => decide (j = i)).map PyData.bool), .list (((List.range 17).map fun j => decide (j = i)).map PyData.bool), .lst (SqL.of (p.1 _ _ hp7)) ?_, .lst (SqL.of p.2) ?_, shaped_bls _, shaped_bls _, _, rfl, ?_⟩
      · exact dp_bls ((List.range 17).map fun j => decide (j = i))
      · exact dp_bls ((List.range 17).map fun j => decide (j = i))
      · rw [SeqAt.eqv_refl _ (SeqAt.canLay_of_shaped (shaped_bls _))]
        exact ⟨(s6.trans s7).trans p.1, _, _, _, rfl⟩
  · obtain ⟨s5, v3, v5, v6, rfl⟩ := p
    have kp5 := kp4.same s5
    -- sums that are none
    refine ⟨Nat.zero_le _, fun p1 n1 => ⟨(by show 1 ≤ sizeLine; decide), fun p2 n2 => ⟨1, rfl, (by show 1 ≤ sizeLine; decide), fun p3 n3 => ⟨.str txt, rfl, (by show 5 ≤ sizeLine; decide), fun p4 n4 => ?_⟩⟩⟩⟩
    have k1 := same_upd (o := .lst []) n1
    have k2 := same_upd (o := .lst [V.bl true]) n2
    have k3 := same_upd (o := .lst [V.int (-1)]) n3
    have k4 := same_upd (o := .lst [V.ref p1, .non, .ref p2, .ref p3, .str txt]) n4
    have kA := (((kp5.same k1).same k2).same k3).same k4
    obtain ⟨m, hm⟩ := kA.2
    refine ⟨.ref t, rfl, t, m, 5, rfl, hm, by decide, by decide, fun d5 n5 e0 e1 => ?_⟩
    have tp5 : Tp H' t := kp5.2
    have nt_ : ∀ b, H' b = none → b ≠ t := fun b hb z => by
      obtain ⟨mm, hmm⟩ := tp5
      rw [z, hmm] at hb
      cases hb
    have hn2 := k1.free n2
    have hn3 := (k1.trans k2).free n3
    have hn4 := ((k1.trans k2).trans k3).free n4
    have g1 : (upd (upd (upd (upd (upd H' p1 (.lst [])) p2 (.lst [V.bl true])) p3 (.lst [V.int (-1)])) p4 (.lst [V.ref p1, .non, .ref p2, .ref p3, .str txt])) t (.lst [.int n5])) p1 = some (.lst []) := by
      rw [upd_ne (nt_ _ n1)]
      exact k4 _ _ (k3 _ _ (k2 _ _ upd_same))
    have g2 : (upd (upd (upd (upd (upd H' p1 (.lst [])) p2 (.lst [V.bl true])) p3 (.lst [V.int (-1)])) p4 (.lst [V.ref p1, .non, .ref p2, .ref p3, .str txt])) t (.lst [.int n5])) p2 = some (.lst [V.bl true]) := by
      rw [upd_ne (nt_ _ hn2)]
      exact k4 _ _ (k3 _ _ upd_same)
    have g3 : (upd (upd (upd (upd (upd H' p1 (.lst [])) p2 (.lst [V.bl true])) p3 (.lst [V.int (-1)])) p4 (.lst [V.ref p1, .non, .ref p2, .ref p3, .str txt])) t (.lst [.int n5])) p3 = some (.lst [V.int (-1)]) := by
      rw [upd_ne (nt_ _ hn3)]
      exact k4 _ _ upd_same
    have g4 : (upd (upd (upd (upd (upd H' p1 (.lst [])) p2 (.lst [V.bl true])) p3 (.lst [V.int (-1)])) p4 (.lst [V.ref p1, .non, .ref p2, .ref p3, .str txt])) t (.lst [.int n5])) p4 = some (.lst [V.ref p1, .non, .ref p2, .ref p3, .str txt]) := by
      rw [upd_ne (nt_ _ hn4)]
      exact upd_same
    obtain ⟨v, dd, ev, Rv, hbad⟩ : ∃ (v : V) (dd : Dt), ([V.ref p1, .non, .ref p2, .ref p3, .str txt] : List V)[d5.toNat]? = some v ∧ Rp K (upd (upd (upd (upd (upd H' p1 (.lst [])) p2 (.lst [V.bl true])) p3 (.lst [V.int (-1)])) p4 (.lst [V.ref p1, .non, .ref p2, .ref p3, .str txt])) t (.lst [.int n5])) v dd ∧ areCounts dd = false := by
      have hj : d5.toNat < 5 := by omega
      generalize d5.toNat = j at hj
      match j, hj with
      | 0, _ => exact ⟨_, .lst [], rfl, .lst (SqL.of g1) .nil, rfl⟩
      | 1, _ => exact ⟨_, .non, rfl, .non, rfl⟩
      | 2, _ => exact ⟨_, .lst [.bl true], rfl, .lst (SqL.of g2) (.cons (.bl true) .nil), rfl⟩
      | 3, _ => exact ⟨_, .lst [.int (-1)], rfl, .lst (SqL.of g3) (.cons (.int (-1)) .nil), rfl⟩
      | 4, _ => exact ⟨_, .str txt, rfl, .str txt, rfl⟩
    refine ⟨p4, _, d5, v, rfl, rfl, SqL.of g4, at_of (z := d5) (j := d5.toNat) (by omega) ev, ?_⟩
    exact ⟨.str txt, rfl, txt, rfl, fun H8 s8 => ⟨true, rfl, .str txt, rfl, txt, rfl, fun H9 s9 => ⟨true, rfl, v, rfl, v, dd, rfl, Rv.same (s8.trans s9), hbad, fun H10 => q H10⟩⟩⟩
end
end Kp17
set_option Elab.async false
set_option linter.all false
set_option maxRecDepth 100000
set_option maxHeartbeats 4000000
namespace Kp17
open PySem PySem.Spec PyProof.Rows L2 Vf
/-! ### what the top has written -/
structure ExcK (K : PySem.W.Frag) (nm : Str) (C TE : Addr) : Prop where
  g : PySem.W.nsIn K mainGlobals nm = some (some (.ref C))
  x : PySem.W.excIn K C veMro "ValueError.__new__" = true
  k : PySem.W.keepIn K (.ref C) = true
  t : PySem.W.typeIn K (.ref C) = some (.type "type")
  hg : PySem.W.findIn K (.ref C) "__getattribute__" = some (some (.builtin "BaseException.__getattribute__"))
  hk : PySem.W.findIn K (.ref C) "__getattr__" = some none
  hs : PySem.W.subIn K (.ref C) (.type "BaseException") = some true
  hd : PySem.W.hasDictIn K C = true
  ha : PySem.W.findIn K (.ref C) "__class__" = some (some (.builtin "object.__class__"))
  hm : PySem.W.mroIn K C (.type "object") = some true
  m : ∃ cd, PySem.W.clsIn K C = some cd ∧ cd.mro = .ref C :: .ref TE :: veMro
theorem ExcK.f {K : PySem.W.Frag} {nm : Str} {C TE : Addr} {h : Heap} {mg : Str → Option Value} (E : ExcK K nm C TE) (X : K.In h) (G : h.Ns mainGlobals mg) (hn : PySem.W.specialIn K (.builtin "object.__class__") "__get__" = some (some (.builtin "getset_descriptor.__get__")))
    (ht : PySem.W.takesIn K (.builtin "object.__class__") = some true) : ExcF K mg nm C TE := ⟨PySem.W.mg_of X G E.g, E.x, E.k, E.t, ⟨E.hg, E.hk, E.hs, E.hd, E.ha, hn, ht, E.hm⟩, E.m⟩
theorem inj_nodup {l : List Addr} {n : Nat} (h : l.Nodup) (e : l.length = n) : ∀ i j, i < n → j < n → l.getD i 0 = l.getD j 0 → i = j := fun i j hi hj z => by
  subst e
  rw [List.getD_eq_getElem?_getD, List.getD_eq_getElem?_getD, List.getElem?_eq_getElem hi, List.getElem?_eq_getElem hj] at z
  exact (List.getElem_inj h).mp z
theorem all_mk {l : PySem.W.OpenLaw} {w : World} {K : PySem.W.Frag} {h : Heap} {mg : Str → Option Value} {fa CF fI T0 : Addr} {q0 q1 q2 q3 q4 q5 q6 q7 q8 q9 q10 q11 q12 q13 q14 q15 q16 q17 : Addr} (X : K.In h) (G : h.Ns mainGlobals mg) (hfa : mg "law" = some (.ref fa)) (hG : ∃ t, mg "GREATEST" = some (.int 1000000000000 t)) {tL : Tok}
    {od0 an0 : Option Addr} {sl0 : Array (Option Value)} {oc0 kV0 dc0 pm0 cd0 ct0 : Value} {f0 : Addr}
    {od1 an1 : Option Addr} {sl1 : Array (Option Value)} {oc1 kV1 dc1 pm1 cd1 ct1 : Value} {f1 : Addr}
    {od2 an2 : Option Addr} {sl2 : Array (Option Value)} {oc2 kV2 dc2 pm2 cd2 ct2 : Value} {f2 : Addr}
    {od3 an3 : Option Addr} {sl3 : Array (Option Value)} {oc3 kV3 dc3 pm3 cd3 ct3 : Value} {f3 : Addr}
    {od4 an4 : Option Addr} {sl4 : Array (Option Value)} {oc4 kV4 dc4 pm4 cd4 ct4 : Value} {f4 : Addr}
    {od5 an5 : Option Addr} {sl5 : Array (Option Value)} {oc5 kV5 dc5 pm5 cd5 ct5 : Value} {f5 : Addr}
    {od6 an6 : Option Addr} {sl6 : Array (Option Value)} {oc6 kV6 dc6 pm6 cd6 ct6 : Value} {f6 : Addr}
    {od7 an7 : Option Addr} {sl7 : Array (Option Value)} {oc7 kV7 dc7 pm7 cd7 ct7 : Value} {f7 : Addr}
    {od8 an8 : Option Addr} {sl8 : Array (Option Value)} {oc8 kV8 dc8 pm8 cd8 ct8 : Value} {f8 : Addr}
    {od9 an9 : Option Addr} {sl9 : Array (Option Value)} {oc9 kV9 dc9 pm9 cd9 ct9 : Value} {f9 : Addr}
    {od10 an10 : Option Addr} {sl10 : Array (Option Value)} {oc10 kV10 dc10 pm10 cd10 ct10 : Value} {f10 : Addr}
    {od11 an11 : Option Addr} {sl11 : Array (Option Value)} {oc11 kV11 dc11 pm11 cd11 ct11 : Value} {f11 : Addr}
    {od12 an12 : Option Addr} {sl12 : Array (Option Value)} {oc12 kV12 dc12 pm12 cd12 ct12 : Value} {f12 : Addr}
    {od13 an13 : Option Addr} {sl13 : Array (Option Value)} {oc13 kV13 dc13 pm13 cd13 ct13 : Value} {f13 : Addr}
    {od14 an14 : Option Addr} {sl14 : Array (Option Value)} {oc14 kV14 dc14 pm14 cd14 ct14 : Value} {f14 : Addr}
    {od15 an15 : Option Addr} {sl15 : Array (Option Value)} {oc15 kV15 dc15 pm15 cd15 ct15 : Value} {f15 : Addr}
    {odI anI : Option Addr} {slI : Array (Option Value)} {ocI kVI dcI pmI cdI ctI : Value} {n0 : Nat} {o0 : Obj}
    (a0 : PySem.W.nsIn K mainGlobals "is_whole" = some (some (.ref f0))) (l0 : K.lookup f0 = some ⟨oc0, od0, .func (PySem.W.fnOf "is_whole" "is_whole" (defArgs s_is_whole) (defBody s_is_whole) (defScope s_is_whole) .none kV0 dc0 pm0 an0 cd0 ct0), sl0⟩) (c0 : PySem.W.codeIn K cd0 "is_whole" = true) (k0 : PySem.W.keepIn K (.ref f0) = true)
    (a1 : PySem.W.nsIn K mainGlobals "is_count" = some (some (.ref f1))) (l1 : K.lookup f1 = some ⟨oc1, od1, .func (PySem.W.fnOf "is_count" "is_count" (defArgs s_is_count) (defBody s_is_count) (defScope s_is_count) .none kV1 dc1 pm1 an1 cd1 ct1), sl1⟩) (c1 : PySem.W.codeIn K cd1 "is_count" = true) (k1 : PySem.W.keepIn K (.ref f1) = true)
    (a2 : PySem.W.nsIn K mainGlobals "is_list" = some (some (.ref f2))) (l2 : K.lookup f2 = some ⟨oc2, od2, .func (PySem.W.fnOf "is_list" "is_list" (defArgs s_is_list) (defBody s_is_list) (defScope s_is_list) .none kV2 dc2 pm2 an2 cd2 ct2), sl2⟩) (c2 : PySem.W.codeIn K cd2 "is_list" = true) (k2 : PySem.W.keepIn K (.ref f2) = true)
    (a3 : PySem.W.nsIn K mainGlobals "is_short_list" = some (some (.ref f3))) (l3 : K.lookup f3 = some ⟨oc3, od3, .func (PySem.W.fnOf "is_short_list" "is_short_list" (defArgs s_is_short_list) (defBody s_is_short_list) (defScope s_is_short_list) .none kV3 dc3 pm3 an3 cd3 ct3), sl3⟩) (c3 : PySem.W.codeIn K cd3 "is_short_list" = true) (k3 : PySem.W.keepIn K (.ref f3) = true)
    (a4 : PySem.W.nsIn K mainGlobals "are_counts" = some (some (.ref f4))) (l4 : K.lookup f4 = some ⟨oc4, od4, .func (PySem.W.fnOf "are_counts" "are_counts" (defArgs s_are_counts) (defBody s_are_counts) (defScope s_are_counts) .none kV4 dc4 pm4 an4 cd4 ct4), sl4⟩) (c4 : PySem.W.codeIn K cd4 "are_counts" = true) (k4 : PySem.W.keepIn K (.ref f4) = true)
    (a5 : PySem.W.nsIn K mainGlobals "wanted_sums" = some (some (.ref f5))) (l5 : K.lookup f5 = some ⟨oc5, od5, .func (PySem.W.fnOf "wanted_sums" "wanted_sums" (defArgs s_wanted_sums) (defBody s_wanted_sums) (defScope s_wanted_sums) .none kV5 dc5 pm5 an5 cd5 ct5), sl5⟩) (c5 : PySem.W.codeIn K cd5 "wanted_sums" = true) (k5 : PySem.W.keepIn K (.ref f5) = true)
    (a6 : PySem.W.nsIn K mainGlobals "_law_cell_at" = some (some (.ref f6))) (l6 : K.lookup f6 = some ⟨oc6, od6, .func (PySem.W.fnOf "_law_cell_at" "_law_cell_at" (defArgs s_l_cell_at) (defBody s_l_cell_at) (defScope s_l_cell_at) .none kV6 dc6 pm6 an6 cd6 ct6), sl6⟩) (c6 : PySem.W.codeIn K cd6 "_law_cell_at" = true) (k6 : PySem.W.keepIn K (.ref f6) = true)
    (a7 : PySem.W.nsIn K mainGlobals "_law_tape" = some (some (.ref f7))) (l7 : K.lookup f7 = some ⟨oc7, od7, .func (PySem.W.fnOf "_law_tape" "_law_tape" (defArgs s_l_tape) (defBody s_l_tape) (defScope s_l_tape) .none kV7 dc7 pm7 an7 cd7 ct7), sl7⟩) (c7 : PySem.W.codeIn K cd7 "_law_tape" = true) (k7 : PySem.W.keepIn K (.ref f7) = true)
    (a8 : PySem.W.nsIn K mainGlobals "_law_digit" = some (some (.ref f8))) (l8 : K.lookup f8 = some ⟨oc8, od8, .func (PySem.W.fnOf "_law_digit" "_law_digit" (defArgs s_l_digit) (defBody s_l_digit) (defScope s_l_digit) .none kV8 dc8 pm8 an8 cd8 ct8), sl8⟩) (c8 : PySem.W.codeIn K cd8 "_law_digit" = true) (k8 : PySem.W.keepIn K (.ref f8) = true)
    (a9 : PySem.W.nsIn K mainGlobals "_law_firsts" = some (some (.ref f9))) (l9 : K.lookup f9 = some ⟨oc9, od9, .func (PySem.W.fnOf "_law_firsts" "_law_firsts" (defArgs s_l_firsts) (defBody s_l_firsts) (defScope s_l_firsts) .none kV9 dc9 pm9 an9 cd9 ct9), sl9⟩) (c9 : PySem.W.codeIn K cd9 "_law_firsts" = true) (k9 : PySem.W.keepIn K (.ref f9) = true)
    (a10 : PySem.W.nsIn K mainGlobals "_law_sorts" = some (some (.ref f10))) (l10 : K.lookup f10 = some ⟨oc10, od10, .func (PySem.W.fnOf "_law_sorts" "_law_sorts" (defArgs s_l_sorts) (defBody s_l_sorts) (defScope s_l_sorts) .none kV10 dc10 pm10 an10 cd10 ct10), sl10⟩) (c10 : PySem.W.codeIn K cd10 "_law_sorts" = true) (k10 : PySem.W.keepIn K (.ref f10) = true)
    (a11 : PySem.W.nsIn K mainGlobals "_law_made" = some (some (.ref f11))) (l11 : K.lookup f11 = some ⟨oc11, od11, .func (PySem.W.fnOf "_law_made" "_law_made" (defArgs s_l_made) (defBody s_l_made) (defScope s_l_made) .none kV11 dc11 pm11 an11 cd11 ct11), sl11⟩) (c11 : PySem.W.codeIn K cd11 "_law_made" = true) (k11 : PySem.W.keepIn K (.ref f11) = true)
    (a12 : PySem.W.nsIn K mainGlobals "_law_caught" = some (some (.ref f12))) (l12 : K.lookup f12 = some ⟨oc12, od12, .func (PySem.W.fnOf "_law_caught" "_law_caught" (defArgs s_l_caught) (defBody s_l_caught) (defScope s_l_caught) .none kV12 dc12 pm12 an12 cd12 ct12), sl12⟩) (c12 : PySem.W.codeIn K cd12 "_law_caught" = true) (k12 : PySem.W.keepIn K (.ref f12) = true)
    (a13 : PySem.W.nsIn K mainGlobals "_law_own" = some (some (.ref f13))) (l13 : K.lookup f13 = some ⟨oc13, od13, .func (PySem.W.fnOf "_law_own" "_law_own" (defArgs s_l_own) (defBody s_l_own) (defScope s_l_own) .none kV13 dc13 pm13 an13 cd13 ct13), sl13⟩) (c13 : PySem.W.codeIn K cd13 "_law_own" = true) (k13 : PySem.W.keepIn K (.ref f13) = true)
    (a14 : PySem.W.nsIn K mainGlobals "_law_framed" = some (some (.ref f14))) (l14 : K.lookup f14 = some ⟨oc14, od14, .func (PySem.W.fnOf "_law_framed" "_law_framed" (defArgs s_l_framed) (defBody s_l_framed) (defScope s_l_framed) .none kV14 dc14 pm14 an14 cd14 ct14), sl14⟩) (c14 : PySem.W.codeIn K cd14 "_law_framed" = true) (k14 : PySem.W.keepIn K (.ref f14) = true)
    (a15 : PySem.W.nsIn K mainGlobals "law" = some (some (.ref f15))) (l15 : K.lookup f15 = some ⟨oc15, od15, .func (PySem.W.fnOf "law" "law" (defArgs s_law) (defBody s_law) (defScope s_law) .none kV15 dc15 pm15 an15 cd15 ct15), sl15⟩) (c15 : PySem.W.codeIn K cd15 "law" = true) (k15 : PySem.W.keepIn K (.ref f15) = true)
    (aF : PySem.W.nsIn K mainGlobals "Frame" = some (some (.ref CF))) (mk : PySem.W.makesIn K CF = true) (aI : PySem.W.findIn K (.ref CF) "__init__" = some (some (.ref fI))) (iI : PySem.W.isFn K (.ref fI) = true) (kF : PySem.W.keepIn K (.ref CF) = true)
    (lI : K.lookup fI = some ⟨ocI, odI, .func (PySem.W.fnOf "__init__" "Frame.__init__" (defArgs s_Frame_init) (defBody s_Frame_init) (defScope s_Frame_init) (.ref T0) kVI dcI pmI anI cdI ctI), slI⟩) (cI : PySem.W.codeIn K cdI "Frame.__init__" = true) (kI : PySem.W.keepIn K (.ref fI) = true)
    (lT : K.lookup T0 = some o0) (dT : o0.data = .seq ([Value.none] : List Value).toArray n0)
    (bt : PySem.W.nsIn K mainGlobals "TableError" = some (some (.ref q17))) (tt : PySem.W.typeIn K (.ref q17) = some (.type "type")) (ti : PySem.W.isClsIn K q17 = true) (tb : PySem.W.subIn K (.ref q17) (.type "BaseException") = some true)
    (e0 : ExcK K "NoSums" q0 q17)
    (e1 : ExcK K "NoCaps" q1 q17)
    (e2 : ExcK K "NoTable" q2 q17)
    (e3 : ExcK K "NoOrder" q3 q17)
    (e4 : ExcK K "NoColumns" q4 q17)
    (e5 : ExcK K "NoText" q5 q17)
    (e6 : ExcK K "TooMany" q6 q17)
    (e7 : ExcK K "NoNumber" q7 q17)
    (e8 : ExcK K "NoStep" q8 q17)
    (e9 : ExcK K "Bounded" q9 q17)
    (e10 : ExcK K "NoCell" q10 q17)
    (e11 : ExcK K "NoKind" q11 q17)
    (e12 : ExcK K "NoScores" q12 q17)
    (e13 : ExcK K "NoWhole" q13 q17)
    (e14 : ExcK K "NoCube" q14 q17)
    (e15 : ExcK K "NoFaces" q15 q17)
    (e16 : ExcK K "NoLine" q16 q17)
    (hn : PySem.W.specialIn K (.builtin "object.__class__") "__get__" = some (some (.builtin "getset_descriptor.__get__"))) (ht : PySem.W.takesIn K (.builtin "object.__class__") = some true)
    (nd : [q0, q1, q2, q3, q4, q5, q6, q7, q8, q9, q10, q11, q12, q13, q14, q15, q16, q17].Nodup) (gL : PySem.W.nsIn K mainGlobals "LONGEST" = some (some (.int 6 tL)))
    (z0 : PySem.W.nsIn K mainGlobals "isinstance" = some none) (z1 : PySem.W.nsIn K mainGlobals "len" = some none) (z2 : PySem.W.nsIn K mainGlobals "all" = some none) (z3 : PySem.W.nsIn K mainGlobals "range" = some none) (z4 : PySem.W.nsIn K mainGlobals "enumerate" = some none) (z5 : PySem.W.nsIn K mainGlobals "int" = some none) (z6 : PySem.W.nsIn K mainGlobals "bool" = some none) (z7 : PySem.W.nsIn K mainGlobals "list" = some none) (z8 : PySem.W.nsIn K mainGlobals "tuple" = some none) (z9 : PySem.W.nsIn K mainGlobals "ValueError" = some none) :
    ∃ fd : FuncData, (∀ (s : Shared) (v : Value), BindsTo s fd ⟨[v], []⟩ [("_law_script", v)]) ∧ ∀ base : Heap, K.In base → base.Ns mainGlobals mg → FnOk l.prog w K mg base CX0 8 fa fd ["_law_script"] (sp_law K) := by
  cases hfa.symm.trans (PySem.W.mg_of X G a15)
  obtain ⟨tG, hG⟩ := hG
  have T : Txt K mg (fun i => [q0, q1, q2, q3, q4, q5, q6, q7, q8, q9, q10, q11, q12, q13, q14, q15, q16, q17].getD i 0) tG tL := ⟨inj_nodup nd rfl, hG, PySem.W.mg_of X G gL, PySem.W.mg_none_of X G z0, PySem.W.mg_none_of X G z1, PySem.W.mg_none_of X G z2, PySem.W.mg_none_of X G z3, PySem.W.mg_none_of X G z4, PySem.W.mg_none_of X G z5, PySem.W.mg_none_of X G z6, PySem.W.mg_none_of X G z7, PySem.W.mg_none_of X G z8, PySem.W.mg_none_of X G z9, ⟨PySem.W.mg_of X G bt, tt, ti, tb⟩, e0.f X G hn ht, e1.f X G hn ht, e2.f X G hn ht, e3.f X G hn ht, e4.f X G hn ht, e5.f X G hn ht, e6.f X G hn ht, e7.f X G hn ht, e8.f X G hn ht, e9.f X G hn ht, e10.f X G hn ht, e11.f X G hn ht, e12.f X G hn ht, e13.f X G hn ht, e14.f X G hn ht, e15.f X G hn ht, e16.f X G hn ht⟩
  have F0 := fun_mk (st := s_is_whole) l0 c0 k0
  have b0 := F0.binds (ps := ["thing"]) fun _ _ _ _ _ _ us hl => match us, hl with | [_], _ => rfl
  have F1 := fun_mk (st := s_is_count) l1 c1 k1
  have b1 := F1.binds (ps := ["thing"]) fun _ _ _ _ _ _ us hl => match us, hl with | [_], _ => rfl
  have F2 := fun_mk (st := s_is_list) l2 c2 k2
  have b2 := F2.binds (ps := ["thing"]) fun _ _ _ _ _ _ us hl => match us, hl with | [_], _ => rfl
  have F3 := fun_mk (st := s_is_short_list) l3 c3 k3
  have b3 := F3.binds (ps := ["thing"]) fun _ _ _ _ _ _ us hl => match us, hl with | [_], _ => rfl
  have F4 := fun_mk (st := s_are_counts) l4 c4 k4
  have b4 := F4.binds (ps := ["thing"]) fun _ _ _ _ _ _ us hl => match us, hl with | [_], _ => rfl
  have F5 := fun_mk (st := s_wanted_sums) l5 c5 k5
  have b5 := F5.binds (ps := ["thing"]) fun _ _ _ _ _ _ us hl => match us, hl with | [_], _ => rfl
  have F6 := fun_mk (st := s_l_cell_at) l6 c6 k6
  have b6 := F6.binds (ps := ["_law_script", "_law_k"]) fun _ _ _ _ _ _ us hl => match us, hl with | [_, _], _ => rfl
  have F7 := fun_mk (st := s_l_tape) l7 c7 k7
  have b7 := F7.binds (ps := ["_law_cell"]) fun _ _ _ _ _ _ us hl => match us, hl with | [_], _ => rfl
  have F8 := fun_mk (st := s_l_digit) l8 c8 k8
  have b8 := F8.binds (ps := ["_law_tape_here", "_law_size"]) fun _ _ _ _ _ _ us hl => match us, hl with | [_, _], _ => rfl
  have F9 := fun_mk (st := s_l_firsts) l9 c9 k9
  have b9 := F9.binds (ps := ["_law_e"]) fun _ _ _ _ _ _ us hl => match us, hl with | [_], _ => rfl
  have F10 := fun_mk (st := s_l_sorts) l10 c10 k10
  have b10 := F10.binds (ps := ["_law_e"]) fun _ _ _ _ _ _ us hl => match us, hl with | [_], _ => rfl
  have F11 := fun_mk (st := s_l_made) l11 c11 k11
  have b11 := F11.binds (ps := ["_law_text"]) fun _ _ _ _ _ _ us hl => match us, hl with | [_], _ => rfl
  have F12 := fun_mk (st := s_l_caught) l12 c12 k12
  have b12 := F12.binds (ps := ["_law_text"]) fun _ _ _ _ _ _ us hl => match us, hl with | [_], _ => rfl
  have F13 := fun_mk (st := s_l_own) l13 c13 k13
  have b13 := F13.binds (ps := ["_law_text"]) fun _ _ _ _ _ _ us hl => match us, hl with | [_], _ => rfl
  have F14 := fun_mk (st := s_l_framed) l14 c14 k14
  have b14 := F14.binds (ps := ["_law_bad"]) fun _ _ _ _ _ _ us hl => match us, hl with | [_], _ => rfl
  have F15 := fun_mk (st := s_law) l15 c15 k15
  have FI : FunD K "__init__" "Frame.__init__" (defArgs s_Frame_init) (defBody s_Frame_init) (defScope s_Frame_init) [V.non] [] fI (PySem.W.fnOf "__init__" "Frame.__init__" (defArgs s_Frame_init) (defBody s_Frame_init) (defScope s_Frame_init) (.ref T0) kVI dcI pmI anI cdI ctI) :=
    ⟨⟨ocI, odI, .ref T0, kVI, dcI, pmI, anI, cdI, ctI, slI, rfl, lI, cI, .inr ⟨by simp, T0, _, [.none], n0, rfl, lT, dT, .cons rfl .nil⟩, .inl rfl⟩, kI⟩
  obtain ⟨ds, vI, bI⟩ := FI.binds1 (ps := ["self", "rows", "columns", "caps"]) 3 0 (by simp) rfl fun T kV doc pm an cdv ct us its h1 h2 => match us, its, h1, h2 with | [_, _, _], [_], _, _ => ⟨_, rfl, rfl⟩
  refine ⟨PySem.W.fnOf "law" "law" (defArgs s_law) (defBody s_law) (defScope s_law) .none kV15 dc15 pm15 an15 cd15 ct15, fun s v => .of_eq rfl, fun base _ _ => ?_⟩
  have c_is_whole : Cal l.prog w K mg base CX0 1 "is_whole" ["thing"] (sp_is_whole K) := ⟨_, _, PySem.W.mg_of X G a0, k0, b0, ok_is_whole F0 T⟩
  have c_is_count : Cal l.prog w K mg base CX0 2 "is_count" ["thing"] (sp_is_count K) := ⟨_, _, PySem.W.mg_of X G a1, k1, b1, ok_is_count F1 T c_is_whole⟩
  have c_is_list : Cal l.prog w K mg base CX0 1 "is_list" ["thing"] (sp_is_list K) := ⟨_, _, PySem.W.mg_of X G a2, k2, b2, ok_is_list F2 T⟩
  have c_is_short_list : Cal l.prog w K mg base CX0 2 "is_short_list" ["thing"] (sp_is_short_list K) := ⟨_, _, PySem.W.mg_of X G a3, k3, b3, ok_is_short_list F3 T c_is_list⟩
  have c_are_counts : Cal l.prog w K mg base CX0 3 "are_counts" ["thing"] (sp_are_counts K) := ⟨_, _, PySem.W.mg_of X G a4, k4, b4, ok_are_counts F4 T c_is_short_list c_is_count⟩
  have c_wanted_sums : Cal l.prog w K mg base (L2.CX l.prog w) 4 "wanted_sums" ["thing"] (sp_wanted_sums K q0) := ⟨_, _, PySem.W.mg_of X G a5, k5, b5, ok_wanted_sums F5 T c_are_counts⟩
  have c_l_cell_at : Cal l.prog w K mg base CX0 1 "_law_cell_at" ["_law_script", "_law_k"] (sp_cell_at K) := ⟨_, _, PySem.W.mg_of X G a6, k6, b6, ok_cell_at F6 T⟩
  have c_l_tape : Cal l.prog w K mg base CX0 1 "_law_tape" ["_law_cell"] sp_tape := ⟨_, _, PySem.W.mg_of X G a7, k7, b7, ok_tape F7 T⟩
  have c_l_digit : Cal l.prog w K mg base CX0 1 "_law_digit" ["_law_tape_here", "_law_size"] sp_digit := ⟨_, _, PySem.W.mg_of X G a8, k8, b8, ok_digit F8 T⟩
  have c_l_firsts : CalA l.prog w K mg base 1 "_law_firsts" ["_law_e"] (sp_firsts (fun i => [q0, q1, q2, q3, q4, q5, q6, q7, q8, q9, q10, q11, q12, q13, q14, q15, q16, q17].getD i 0)) := ⟨_, _, PySem.W.mg_of X G a9, k9, b9, ok_firsts F9 T⟩
  have c_l_sorts : CalA l.prog w K mg base 2 "_law_sorts" ["_law_e"] (sp_sorts (fun i => [q0, q1, q2, q3, q4, q5, q6, q7, q8, q9, q10, q11, q12, q13, q14, q15, q16, q17].getD i 0)) := ⟨_, _, PySem.W.mg_of X G a10, k10, b10, ok_sorts F10 T c_l_firsts⟩
  have c_l_made : Cal l.prog w K mg base CX0 1 "_law_made" ["_law_text"] (sp_made (fun i => [q0, q1, q2, q3, q4, q5, q6, q7, q8, q9, q10, q11, q12, q13, q14, q15, q16, q17].getD i 0)) := ⟨_, _, PySem.W.mg_of X G a11, k11, b11, ok_made F11 T⟩
  have c_l_caught : Cal l.prog w K mg base CX0 1 "_law_caught" ["_law_text"] sp_text1 := ⟨_, _, PySem.W.mg_of X G a12, k12, b12, ok_caught F12 T⟩
  have c_l_own : Cal l.prog w K mg base CX0 1 "_law_own" ["_law_text"] sp_text1 := ⟨_, _, PySem.W.mg_of X G a13, k13, b13, ok_own F13 T⟩
  have GI := ok_init (P := l.prog) (w := w) (base := base) FI T c_wanted_sums
  have c_l_framed : Cal l.prog w K mg base CX0 7 "_law_framed" ["_law_bad"] (sp_framed K) := ⟨_, _, PySem.W.mg_of X G a14, k14, b14, ok_framed F14 T ⟨mk, aI, iI, kF⟩ (PySem.W.mg_of X G aF) bI vI GI c_l_sorts⟩
  exact ok_law F15 T c_l_cell_at c_l_tape c_l_digit c_l_made c_l_sorts c_l_caught c_l_own c_l_framed
end Kp17
set_option Elab.async false
open PySem PySem.W PyProof.Rows
set_option maxRecDepth 100000 in
set_option maxHeartbeats 0 in
theorem PySem.Challenge.cw_exacttable_k17_refusals_apart_holds : PySem.Challenge.rw_exacttable_k17_refusals_apart.Holds := by
  w_on; o_law; k_head; (case hw => w_witness2)
  k_fill
  refine Vf.walk_ofG (l := PySem.Challenge.rw_exacttable_k17_refusals_apart) (n := 63) (k := 8) (x := "_law_script") (CX := fun _ => L2.CX0) (sp := fun w => Kp17.sp_law _) rfl (by decide) rfl ⟨rfl, by decide, by decide⟩ (fun w h Y => PySem.W.kIn_of Y) ?F (fun _ _ a ns _ _ _ hS => ⟨a, ns, rfl, hS, fun _ => rfl⟩) (fun _ _ _ _ _ h => h)
  case F =>
    intro w mg fa h KX G LL hmg
    refine' Kp17.all_mk KX G hmg (Vf.loose_int LL (List.mem_cons_self ..)) ?a0 ?l0 ?c0 ?k0 ?a1 ?l1 ?c1 ?k1 ?a2 ?l2 ?c2 ?k2 ?a3 ?l3 ?c3 ?k3 ?a4 ?l4 ?c4 ?k4 ?a5 ?l5 ?c5 ?k5 ?a6 ?l6 ?c6 ?k6 ?a7 ?l7 ?c7 ?k7 ?a8 ?l8 ?c8 ?k8 ?a9 ?l9 ?c9 ?k9 ?a10 ?l10 ?c10 ?k10 ?a11 ?l11 ?c11 ?k11 ?a12 ?l12 ?c12 ?k12 ?a13 ?l13 ?c13 ?k13 ?a14 ?l14 ?c14 ?k14 ?a15 ?l15 ?c15 ?k15 ?aF ?mk ?aI ?iI ?kF ?lI ?cI ?kI ?lT ?dT ?bt ?tt ?ti ?tb ?e0 ?e1 ?e2 ?e3 ?e4 ?e5 ?e6 ?e7 ?e8 ?e9 ?e10 ?e11 ?e12 ?e13 ?e14 ?e15 ?e16 ?hn ?ht ?nd ?gL ?z0 ?z1 ?z2 ?z3 ?z4 ?z5 ?z6 ?z7 ?z8 ?z9
    (case a0 => k_is)
    (case l0 => k_is)
    (case c0 => k_is)
    (case k0 => k_is)
    (case a1 => k_is)
    (case l1 => k_is)
    (case c1 => k_is)
    (case k1 => k_is)
    (case a2 => k_is)
    (case l2 => k_is)
    (case c2 => k_is)
    (case k2 => k_is)
    (case a3 => k_is)
    (case l3 => k_is)
    (case c3 => k_is)
    (case k3 => k_is)
    (case a4 => k_is)
    (case l4 => k_is)
    (case c4 => k_is)
    (case k4 => k_is)
    (case a5 => k_is)
    (case l5 => k_is)
    (case c5 => k_is)
    (case k5 => k_is)
    (case a6 => k_is)
    (case l6 => k_is)
    (case c6 => k_is)
    (case k6 => k_is)
    (case a7 => k_is)
    (case l7 => k_is)
    (case c7 => k_is)
    (case k7 => k_is)
    (case a8 => k_is)
    (case l8 => k_is)
    (case c8 => k_is)
    (case k8 => k_is)
    (case a9 => k_is)
    (case l9 => k_is)
    (case c9 => k_is)
    (case k9 => k_is)
    (case a10 => k_is)
    (case l10 => k_is)
    (case c10 => k_is)
    (case k10 => k_is)
    (case a11 => k_is)
    (case l11 => k_is)
    (case c11 => k_is)
    (case k11 => k_is)
    (case a12 => k_is)
    (case l12 => k_is)
    (case c12 => k_is)
    (case k12 => k_is)
    (case a13 => k_is)
    (case l13 => k_is)
    (case c13 => k_is)
    (case k13 => k_is)
    (case a14 => k_is)
    (case l14 => k_is)
    (case c14 => k_is)
    (case k14 => k_is)
    (case a15 => k_is)
    (case l15 => k_is)
    (case c15 => k_is)
    (case k15 => k_is)
    (case aF => k_is)
    (case mk => k_is)
    (case aI => k_is)
    (case iI => k_is)
    (case kF => k_is)
    (case lI => k_is)
    (case cI => k_is)
    (case kI => k_is)
    (case lT => k_is)
    (case dT => rfl)
    (case bt => k_is)
    (case tt => k_is)
    (case ti => k_is)
    (case tb => k_is)
    (case e0 => constructor; k_is; k_exc; k_is; k_is; k_is; k_is; k_is; k_is; k_is; k_is; exact ⟨_, by k_is, rfl⟩)
    (case e1 => constructor; k_is; k_exc; k_is; k_is; k_is; k_is; k_is; k_is; k_is; k_is; exact ⟨_, by k_is, rfl⟩)
    (case e2 => constructor; k_is; k_exc; k_is; k_is; k_is; k_is; k_is; k_is; k_is; k_is; exact ⟨_, by k_is, rfl⟩)
    (case e3 => constructor; k_is; k_exc; k_is; k_is; k_is; k_is; k_is; k_is; k_is; k_is; exact ⟨_, by k_is, rfl⟩)
    (case e4 => constructor; k_is; k_exc; k_is; k_is; k_is; k_is; k_is; k_is; k_is; k_is; exact ⟨_, by k_is, rfl⟩)
    (case e5 => constructor; k_is; k_exc; k_is; k_is; k_is; k_is; k_is; k_is; k_is; k_is; exact ⟨_, by k_is, rfl⟩)
    (case e6 => constructor; k_is; k_exc; k_is; k_is; k_is; k_is; k_is; k_is; k_is; k_is; exact ⟨_, by k_is, rfl⟩)
    (case e7 => constructor; k_is; k_exc; k_is; k_is; k_is; k_is; k_is; k_is; k_is; k_is; exact ⟨_, by k_is, rfl⟩)
    (case e8 => constructor; k_is; k_exc; k_is; k_is; k_is; k_is; k_is; k_is; k_is; k_is; exact ⟨_, by k_is, rfl⟩)
    (case e9 => constructor; k_is; k_exc; k_is; k_is; k_is; k_is; k_is; k_is; k_is; k_is; exact ⟨_, by k_is, rfl⟩)
    (case e10 => constructor; k_is; k_exc; k_is; k_is; k_is; k_is; k_is; k_is; k_is; k_is; exact ⟨_, by k_is, rfl⟩)
    (case e11 => constructor; k_is; k_exc; k_is; k_is; k_is; k_is; k_is; k_is; k_is; k_is; exact ⟨_, by k_is, rfl⟩)
    (case e12 => constructor; k_is; k_exc; k_is; k_is; k_is; k_is; k_is; k_is; k_is; k_is; exact ⟨_, by k_is, rfl⟩)
    (case e13 => constructor; k_is; k_exc; k_is; k_is; k_is; k_is; k_is; k_is; k_is; k_is; exact ⟨_, by k_is, rfl⟩)
    (case e14 => constructor; k_is; k_exc; k_is; k_is; k_is; k_is; k_is; k_is; k_is; k_is; exact ⟨_, by k_is, rfl⟩)
    (case e15 => constructor; k_is; k_exc; k_is; k_is; k_is; k_is; k_is; k_is; k_is; k_is; exact ⟨_, by k_is, rfl⟩)
    (case e16 => constructor; k_is; k_exc; k_is; k_is; k_is; k_is; k_is; k_is; k_is; k_is; exact ⟨_, by k_is, rfl⟩)
    (case hn => k_is)
    (case ht => k_is)
    (case nd => decide +kernel)
    (case gL => k_is)
    (case z0 => k_is)
    (case z1 => k_is)
    (case z2 => k_is)
    (case z3 => k_is)
    (case z4 => k_is)
    (case z5 => k_is)
    (case z6 => k_is)
    (case z7 => k_is)
    (case z8 => k_is)
    (case z9 => k_is)
