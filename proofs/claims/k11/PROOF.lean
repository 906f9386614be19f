import PyProof.Rows.All
import Wide.All
import OpenK.AllK
import Wide.FinOn
import HandS.ForMost
import HandS.ForExc
import HandS.ExcValue
import HandS.ExcIs
import HandS.IsInst
import HandS.HotCalls
import HandS.RaiseMore
import HandS.Wide
import HandS.EndBits
import HandS.Defaults
import PyProof.ReprRoads
import HandS.TupMul
import HandS.MakeKw
import HandS.Codes
import HandS.Star
import HandS.Zip
import HandS.Rev
import HandS.RevTup
import PyProof.ListStr
import HandS.Conv
import HandS.SortInts
import PyProof.Rows.SortShellAny
import HandS.Walk
import HandS.TupAny
import HandS.WideBits
import HandS.DictComp
import PySem.Challenge.RW_exacttable_k11_frames_told_back
set_option Elab.async false
set_option linter.all false
set_option maxRecDepth 100000
set_option maxHeartbeats 4000000
/-! Rules of my own over the hand layer: a caught exception that is tracked; several clauses, with and without a name; defs that may be called while an exception is handled. -/
namespace Vf
open PySem PySem.Spec PyProof.Rows L2

/-! ### an exception object by its class -/
def ExIs (h : Heap) (a : Addr) (cls : Value) : Prop := ∃ (oe : Obj) (vs : Array Value), h.get? a = some oe ∧ Zc cls none oe ∧ oe.data = .fields vs
def ExT (cls : Value) (a : Addr) : HO := .ext fun h => ExIs h a cls
def ExAt (H : Hp) (a D : Addr) : Prop := ∃ φ, H a = some (.ext φ) ∧ ∀ h, φ h → ExIs h a (.ref D)
theorem ExAt.ofT {H : Hp} {a D : Addr} (e : H a = some (ExT (.ref D) a)) : ExAt H a D := ⟨_, e, fun _ q => q⟩
theorem ExAt.ofO {H : Hp} {a D : Addr} (e : H a = some (ExO (.ref D) a)) : ExAt H a D := ⟨_, e, fun _ ⟨oe, vs, q1, q2, q3, _⟩ => ⟨oe, vs, q1, q2, q3⟩⟩
theorem ExAt.same {H H' : Hp} {a D : Addr} (e : ExAt H a D) (s : Same H H') : ExAt H' a D := by
  obtain ⟨φ, q, r⟩ := e
  exact ⟨φ, s _ _ q, r⟩
/-- isinstance of such an object -/
def rIsX (K : PySem.W.Frag) : List V → Hp → VK → Prop := fun xs H Q => ∃ (a D : Addr) (c : V) (cv : Value) (b : Bool), xs = [.ref a, c] ∧ ClsV c cv ∧ ExAt H a D ∧ ExcC K D ∧ PySem.W.kitOne K (.ref D) cv = some b ∧ Q (.bl b) H
theorem call_isX {X : Cx} : CallR X (.builtin "isinstance") (rIsX X.K) := by
  intro pins s σ H xs us Q I r h
  obtain ⟨a, D, c, cv, b, rfl, k, ⟨φ, ha, hφ⟩, C, e, q⟩ := h
  obtain ⟨u1, u2, rfl, r1, r2⟩ := vals2 r
  obtain rfl := k.eq r2
  cases (show u1 = Value.ref a from r1)
  obtain ⟨p, _, _⟩ := I.hok a _ ha
  obtain ⟨⟨oc, od, oda, osl⟩, vs, hg, ⟨z1, z2⟩, hv⟩ := hφ _ p
  dsimp only at z1 z2 hv
  subst z1 z2 hv
  exact PySem.W.kia_one (PySem.W.handS_kitx_exc C.hg C.hk C.hs C.hd C.ha C.hn C.ht C.hm) I.kIn ⟨hg, rfl, rfl, trivial⟩ e (fun z => nomatch z) fun tk => ⟨.bl b, H, I.tok tk, rfl, q⟩

/-! ### a new object that was not tracked is tracked from now on -/
theorem adopt {X : Cx} {pins : List (Addr × Obj)} {σ : L2.St} {H : Hp} {s : Shared} {a : Addr} {cls : Value} (I : Inv X pins σ H s) (he : ExIs s.heap a cls) (na : H a = none) (n0 : X.s_0.heap.get? a = none) (nL : a ≠ X.env.locals) (nP : ∀ p ∈ X.pn ++ pins, p.1 ≠ a) :
    Inv X pins σ (upd H a (ExT cls a)) s := by
  obtain ⟨oe, vs, ha, hz, hd⟩ := id he
  have nC : ∀ x c, X.env.cells.lookup x = some c → c ≠ a := fun x c e z => by
    obtain ⟨v, o, ho, hc⟩ := I.cell x c e
    rw [z, ha] at ho
    cases ho
    rw [hd] at hc
    cases hc
  have nb0 : ∀ b o, X.s_0.heap.get? b = some o → b ≠ a := fun b o e z => by
    rw [z, n0] at e
    cases e
  have nbH : ∀ b o, H b = some o → b ≠ a := fun b o e => ne_of_none e na
  refine ⟨I.ok, I.os, I.bare, ⟨I.base.keep, I.base.slot, fun b o e n hx => ?_, I.base.there, fun b xs e => ?_, fun b o u e => ?_, fun b ps e => ?_⟩, I.loc, I.cell, ?_, fun x c e => ?_, fun p hp => ?_, fun b u e => ?_, I.len⟩
  · rw [upd_ne (nb0 b o e)]
    exact I.base.free b o e n hx
  · have q := I.base.tups b xs e
    rw [upd_ne (nbH _ _ q)]
    exact q
  · have q := I.base.frzs b o u e
    rw [upd_ne (nbH _ _ q)]
    exact q
  · obtain ⟨m, q⟩ := I.base.tbls b ps e
    exact ⟨m, by rw [upd_ne (nbH _ _ q)]; exact q⟩
  · rw [upd_ne nL.symm]
    exact I.free
  · rw [upd_ne (nC x c e)]
    exact I.freeC x c e
  · obtain ⟨e1, e2, e3⟩ := I.pin p hp
    exact ⟨e1, by rw [upd_ne (nP p hp)]; exact e2, e3⟩
  · by_cases hb : b = a
    · subst hb
      rw [upd_same] at e
      cases e
      exact ⟨he, ⟨oe, ha⟩, fun h1 h2 ⟨o1, v1, g1, g2⟩ k => ⟨o1, v1, k _ g1, g2⟩⟩
    · rw [upd_ne hb] at e
      exact (I.hok b u e).stay (fun _ _ _ q => q) (fun c q => by rw [upd_ne (nbH _ _ q)]; exact q) fun c xs q => by rw [upd_ne (nbH _ _ q)]; exact q
theorem toSuite {X : Cx} {pins : List (Addr × Obj)} {σ : L2.St} {H : Hp} {s : Shared} (I : Inv X pins σ H s) (a : Addr) : Inv (X.suite a (X.pn ++ pins)) [] σ H s :=
  ⟨I.ok.suite _ _, I.os, I.bare, I.base, I.loc, I.cell, I.free, I.freeC, fun p hp => I.pin p (by rw [List.append_nil] at hp; exact hp), I.hok, I.len⟩
theorem offSuite {X : Cx} {pins pn' : List (Addr × Obj)} {σ : L2.St} {H : Hp} {s : Shared} {a : Addr} (I : Inv (X.suite a (X.pn ++ pins)) pn' σ H s) (ok : X.Ok) : Inv X pins σ H s :=
  ⟨ok, I.os, I.bare, I.base, I.loc, I.cell, I.free, I.freeC, fun p hp => I.pin p (List.mem_append_left _ hp), I.hok, I.len⟩

/-! ### try with any number of clauses -/
def sw (oi : Option Nat) (v : Option V) (σ : L2.St) : L2.St := match oi with
  | none => σ
  | some i => σ.set i v
def dw (oi : Option Nat) (D : Ends) : Ends := { nx := fun σ H => D.nx (sw oi none σ) H, rt := D.rt, bk := fun σ H => D.bk (sw oi none σ) H, ct := fun σ H => D.ct (sw oi none σ) H }
abbrev Cls1 := Value × Option Nat × (Addr → Value → TS)
def wT (K : PySem.W.Frag) (Wout : WX) (D : Ends) : List Cls1 → WX
  | [] => Wout
  | (c, oi, ts) :: r => fun cls d σ H => ∃ b, PySem.W.exmOne K cls c = some b ∧ (b = true → d = none ∧ ∀ a, H a = none → ts a cls (dw oi D) (sw oi (some (.ref a)) σ) (upd H a (ExT cls a))) ∧ (b = false → wT K Wout D r cls d σ H)
inductive HdT (X : Cx) : List ExceptHandler → List Cls1 → Prop
  | nil : HdT X [] []
  | plain {x : Str} {c : Value} {ts : Addr → Value → TS} {b₀ : Stmt} {su : List Stmt} {p1 p2 : Pos} {hds : List ExceptHandler} {l : List Cls1} (hc : Names X x c)
      (hsu : ∀ (a : Addr) (cls : Value) (pn : List (Addr × Obj)), PSs (X.suite a pn) (b₀ :: su) (ts a cls)) (r : HdT X hds l) : HdT X (.ExceptHandler (some (.Name x p1)) none (b₀ :: su) p2 :: hds) ((c, none, ts) :: l)
  | named {x n : Str} {i : Nat} {c : Value} {ts : Addr → Value → TS} {b₀ : Stmt} {su : List Stmt} {p1 p2 : Pos} {hds : List ExceptHandler} {l : List Cls1} (hc : Names X x c) (hi : X.N[i]? = some n) (hln : X.env.kindOf n = some .local)
      (hsu : ∀ (a : Addr) (cls : Value) (pn : List (Addr × Obj)), PSs (X.suite a pn) (b₀ :: su) (ts a cls)) (r : HdT X hds l) : HdT X (.ExceptHandler (some (.Name x p1)) (some n) (b₀ :: su) p2 :: hds) ((c, some i, ts) :: l)
theorem ps_tryT {X : Cx} {body : List Stmt} {h₀ : ExceptHandler} {hds : List ExceptHandler} {l : List Cls1} {pos : Pos} {tb : WX → TS} {Wout : WX} (hs : X.stack = X.env :: X.outer) (hf : X.env.frame = some X.env.locals) (hex : X.ex = []) (hN : X.N.Nodup) (tk : L2.Takes X Wout)
    (hb : ∀ (W : WX) (pn : List (Addr × Obj)) (xe : Value → Shared → Prop), L2.Takes (X.tr pn xe) W → PassesOwn (model X.prog X.w) X.A X.env xe → PSs (X.tr pn xe) body (tb W))
    (hh : HdT X (h₀ :: hds) l) : PS X (.Try body (h₀ :: hds) [] [] pos) (fun D σ H => tb (wT X.K Wout D l) D σ H) := by
  refine ⟨fun pins s σ H D I h => ?_⟩
  have ok := I.ok
  have hfr : X.A.frames = some (X.env :: X.outer) := ok.frames.trans (congrArg some hs)
  refine wpAny_Try_except (wpAny_mono ((hb (wT X.K Wout D l) (X.pn ++ pins) (fun e s₁ => wpAny (model X.prog X.w) X.A (noteFrame e X.env) (fun _ s₂ => wpAny (model X.prog X.w) X.A (setFlight e none) (fun _ s₃ =>
    wpAny (model X.prog X.w) X.A (handleBy e X.env (h₀ :: hds)) (SP X pins D) X.xe s₃) X.xe s₂) X.xe s₁) (fun u s' air => ?_) PassesOwn.looking).run [] s σ H D (I.toTry _) h) (fun f s1 hsp => ?_) (fun _ _ he => he))
  · obtain ⟨a, B, sI, pins', σ', H', cls, d, rfl, J', nb, up, sky, na, os, ag, wish⟩ := air
    have J : Inv X pins σ' H' sI := J'.ofTry ok
    rw [hs] at sky
    show wpAny (model X.prog X.w) X.A (noteFrame (.ref a) X.env) _ _ _
    refine L2.Sky.land Zc.steady hfr hf sky fun h3 fl3 up3 => ?_
    have J3 : Inv X pins σ' H' { s' with heap := h3 } := J.landed nb fl3.1 (up.trans up3) os ag
    obtain ⟨oe3, vs3, he3, hz3, hd3⟩ := fl3.there
    have nfr : a ∉ frs (X.env :: X.outer) := fun hm => by
      obtain ⟨_, o', e', hnf⟩ := fl3.2.2.1.mem hm
      rw [he3] at e'
      cases e'
      exact hnf _ hd3
    have nst : a ∉ frs X.stack := by rw [hs]; exact nfr
    have nL : a ≠ X.env.locals := fun z => nfr (List.mem_filterMap.mpr ⟨X.env, List.mem_cons_self, hf.trans (congrArg some z.symm)⟩)
    have Ba : B.get? a = none := fl3.2.1
    have nI : sI.heap.get? a = none := by
      cases q : sI.heap.get? a with
      | none => rfl
      | some o =>
        rw [nb a o q nst] at Ba
        cases Ba
    have n0 : X.s_0.heap.get? a = none := by
      cases q : X.s_0.heap.get? a with
      | none => rfl
      | some o =>
        obtain ⟨o', q'⟩ := J.base.there a o q (by rw [hex]; exact fun z => nomatch z)
        rw [nI] at q'
        cases q'
    have nP : ∀ p ∈ X.pn ++ pins, p.1 ≠ a := fun p hp z => by
      have q := (J.pin p hp).1
      rw [z, nI] at q
      cases q
    have S3 := toSuite J3 a
    have go : ∀ {hds' : List ExceptHandler} {l' : List Cls1}, HdT X hds' l' → wT X.K Wout D l' cls d σ' H' →
        wpAny (model X.prog X.w) X.A (handleBy (.ref a) X.env hds') (SP X pins D) X.xe { s' with heap := h3 } := by
      have LT : PySem.W.Looks (model X.prog X.w) h3 (typeOf (.ref a)) cls := fun A Q E s k q => wpAny_typeOf_ref (k _ _ he3) (by rw [hz3.1]; exact q)
      have test : ∀ {x : Str} {c : Value} {np : Pos} {Q : Value → Shared → Prop} {E : Value → Shared → Prop}, Names X x c → Q c { s' with heap := h3 } → wpAny (model X.prog X.w) (X.A.mark (some (.ref a))) (eval (.Name x np) X.env) Q E { s' with heap := h3 } := fun {x c np Q E} hc q => by
        obtain ⟨hg, hdbg, hm | ⟨hm, hv, hnn⟩⟩ := hc
        · exact ld_glob (X := X.suite a (X.pn ++ pins)) S3 hg hm q hdbg
        · exact ld_blt (X := X.suite a (X.pn ++ pins)) S3 hg hm hv q hnn hdbg
      have adopted : d = none → ∀ h4, L2.Inv X pins σ' H' { s' with heap := h4 } → HandSPX.FlyingZ B (X.env :: X.outer) a (Zc cls d) h4 → L2.Inv X pins σ' (upd H' a (ExT cls a)) { s' with heap := h4 } := fun ed h4 J4 fl4 => by
        obtain ⟨oe4, vs4, he4, hz4, hd4⟩ := fl4.there
        rw [ed] at hz4
        exact adopt J4 ⟨oe4, vs4, he4, hz4, hd4⟩ na n0 nL nP
      intro hds' l' hk
      induction hk with
      | nil =>
        intro w
        refine wpAny_handleBy_nil ?_
        obtain ⟨k1, k2, k3, oe, vs, T, oT, ts', he, hz, hd, h1, hr⟩ := id fl3
        unfold PySem.passOn
        refine wpAny_bind (wpAny_field he hd h1 ?_)
        rw [if_neg (show ¬ ((Value.ref T == Value.none) = true) from by simp)]
        have fin : wpAny (model X.prog X.w) X.A (setFlight (.ref a) X.env.frame) (fun _ s4 => wpAny (model X.prog X.w) X.A (throw (.ref a) : Sem Flow) (SP X pins D) X.xe s4) X.xe { s' with heap := h3 } := by
          rw [hf]
          refine HandSPX.setFlight_upZ fl3 fun h4 hh4 up4 => wpAny_throw (tk _ _ ?_)
          exact ⟨a, B, sI, pins, σ', H', cls, d, rfl, J, nb, (up.trans up3).trans up4, .inr (.inr (hs ▸ hh4)), na, os, ag, w⟩
        first
          | exact wpAny_bind (wpAny_pure (wpAny_bind fin))
          | exact wpAny_bind fin
      | @plain x c ts b₀ su p1 p2 hds2 l2 hc hsu r ih =>
        intro w
        obtain ⟨b, hb1, hyes, hno⟩ := w
        refine wpAny_handleBy_cons (codeAny_handlers_test ?_) (by intro q; cases q)
        refine test hc ((PySem.W.exm_one (M := model X.prog X.w) (J3.kIn) LT hb1).here ?_)
        cases b with
        | true =>
          refine codeAny_handlers_suite (HandSPX.lands_againZ fl3 fun h4 fl4 up4 => ?_)
          have J4 := adopted (hyes rfl).1 h4 (J.landed nb fl4.1 ((up.trans up3).trans up4) os ag) fl4
          refine wpAny_mono ((hsu a cls (X.pn ++ pins)).run [] _ _ _ _ (toSuite J4 a) ((hyes rfl).2 a na)) (fun f s6 q6 => ?_) (fun _ _ z => False.elim z)
          cases f with
          | next => exact let ⟨σ6, H6, S6, q⟩ := q6; ⟨_, _, offSuite S6 ok, q⟩
          | brk => exact let ⟨σ6, H6, S6, q⟩ := q6; ⟨_, _, offSuite S6 ok, q⟩
          | cont => exact let ⟨σ6, H6, S6, q⟩ := q6; ⟨_, _, offSuite S6 ok, q⟩
          | ret u => exact let ⟨v6, σ6, H6, S6, r6, q⟩ := q6; ⟨_, _, _, offSuite S6 ok, r6, q⟩
        | false =>
          show wpAny _ X.A (handleBy (.ref a) X.env hds2) _ _ _
          exact ih (hno rfl)
      | @named x n i c ts b₀ su p1 p2 hds2 l2 hc hi hln hsu r ih =>
        intro w
        obtain ⟨b, hb1, hyes, hno⟩ := w
        refine wpAny_handleBy_cons (codeAny_handlers_test ?_) (by intro q; cases q)
        refine test hc ((PySem.W.exm_one (M := model X.prog X.w) (J3.kIn) LT hb1).here ?_)
        cases b with
        | true =>
          refine codeAny_handlers_suite_as (HandSPX.lands_againZ fl3 fun h4 fl4 up4 => ?_)
          have J4 := adopted (hyes rfl).1 h4 (J.landed nb fl4.1 ((up.trans up3).trans up4) os ag) fl4
          refine store_ok (X := X.suite a (X.pn ++ pins)) (v := .ref a) (toSuite J4 a) hN hi (.inl hln) rfl (fun s5 S5 => ?_) (.inr hln)
          refine wpAny_mono ((hsu a cls (X.pn ++ pins)).run [] s5 _ _ _ S5 ((hyes rfl).2 a na)) (fun f s6 q6 => ?_) (fun _ _ z => False.elim z)
          have gone : ∀ {σ6 : L2.St} {H6 : Hp} {Q : Shared → Prop}, Inv (X.suite a (X.pn ++ pins)) [] σ6 H6 s6 → (∀ s7, Inv X pins (σ6.set i none) H6 s7 → Q s7) →
              wpAny (model X.prog X.w) X.A (do bindName X.env n .none; unbindBehindTheSuite X.env n p2) (fun _ s7 => Q s7) X.xe s6 := fun {σ6 H6 Q} S6 hq => gone_ok (offSuite S6 ok) hN hi hln hq
          cases f with
          | next => exact let ⟨σ6, H6, S6, q⟩ := q6; gone S6 fun s7 J7 => ⟨_, _, J7, q⟩
          | brk => exact let ⟨σ6, H6, S6, q⟩ := q6; gone S6 fun s7 J7 => ⟨_, _, J7, q⟩
          | cont => exact let ⟨σ6, H6, S6, q⟩ := q6; gone S6 fun s7 J7 => ⟨_, _, J7, q⟩
          | ret u => exact let ⟨v6, σ6, H6, S6, r6, q⟩ := q6; gone S6 fun s7 J7 => ⟨_, _, _, J7, r6, q⟩
        | false =>
          show wpAny _ X.A (handleBy (.ref a) X.env hds2) _ _ _
          exact ih (hno rfl)
    exact go hh wish
  · cases f with
    | next => exact let ⟨σ', H', J', q⟩ := hsp; wpAny_execs_nil ⟨σ', H', J'.ofTry ok, q⟩
    | brk => exact let ⟨σ', H', J', q⟩ := hsp; ⟨σ', H', J'.ofTry ok, q⟩
    | cont => exact let ⟨σ', H', J', q⟩ := hsp; ⟨σ', H', J'.ofTry ok, q⟩
    | ret u => exact let ⟨v, σ', H', J', r, q⟩ := hsp; ⟨v, σ', H', J'.ofTry ok, r, q⟩

/-! ### defs that run wherever they are called: no loop, nothing raised -/
structure FnA (P : Program) (w : World) (K : PySem.W.Frag) (mg : Str → Option Value) (base : Heap) (k : Nat) (f : Addr) (fd : FuncData) (ps : List Str) (sp : Sp) : Prop where
  len : ∀ vs H Q E, sp vs H Q E → vs.length = ps.length
  run : ∀ (A : Around) (outer : List Env) (s : Shared) (H : Hp) (args : Args) (us : List Value) (vs : List V) (Q : VK) (E : XK), L2H.RoomH k A → Env0 P w K mg base A outer s H → BindsTo s fd args (ps.zip us) → Vals vs us → sp vs H Q E →
    codeAny (model P w) A (.call (.ref f) args) (CR CX0 outer P w H s Q E) s
section
variable {P : Program} {w : World} {K : PySem.W.Frag} {mg : Str → Option Value} {base : Heap} {k : Nat} {f : Addr} {fd : FuncData} {ps N : List Str} {sp : Sp}
theorem FnA.ok (F : FnA P w K mg base k f fd ps sp) : FnOk P w K mg base CX0 k f fd ps sp := ⟨F.len, fun A outer s H args us vs Q E hr => F.run A outer s H args us vs Q E (L2H.roomH_of hr)⟩
/-- the context of such a def's body -/
def cxA (P : Program) (w : World) (K : PySem.W.Frag) (mg : Str → Option Value) (base : Heap) (N : List Str) (qual : Str) (scope : Scope) (f : Addr) (cd : Value) (A : Around) (outer : List Env) (s : Shared) (H : Hp) : Cx :=
  { cxOf CX0 P w K mg base N qual scope f cd A outer s H E0 with calm := false, xe := fun _ _ => False }
theorem fn_ofA {name qual : Str} {params : Arguments} {body : List Stmt} {scope : Scope} {dV kV doc pm cdv ct oc : Value} {an od : Option Addr} {osl : Array (Option Value)}
    (lk : K.lookup f = some ⟨oc, od, .func (PySem.W.fnOf name qual params body scope dV kV doc pm an cdv ct), osl⟩) (hcd : PySem.W.codeIn K cdv qual = true) (S : FnScope N ps scope) (len : ∀ vs H Q E, sp vs H Q E → vs.length = ps.length)
    (hbody : ∀ (A : Around) (outer : List Env) (s : Shared) (H : Hp) (vs : List V) (Q : VK) (E : XK), L2H.RoomH k (A.deeper (envOfC qual scope s.heap.objs.size f cdv)) → sp vs H Q E →
      ∃ t, PSs (cxA P w K mg base N qual scope f cdv A outer s H) body t ∧ t { nx := fun _ H' => Q .non H', rt := Q } (L2.start N vs) H) :
    FnA P w K mg base (k + 1) f (PySem.W.fnOf name qual params body scope dV kV doc pm an cdv ct) ps sp := by
  refine ⟨len, fun A outer s H args us vs Q E room e0 hb rv hsp => ?_⟩
  have kx : K.In s.heap := e0.mod.kin.keeps fun b o e => (e0.bs b o e).1
  have nolim : s.heap.NoLimit := e0.mod.nolimit.keeps fun b o e => (e0.bs b o e).1
  refine codeAny_call_function room.depth (kx _ _ lk) rfl S.co S.gen rfl (PySem.W.codeRec_of kx hcd) (hb _ _ _ _ (wpAny_newFunctionEnv_cells S.kind (fun ⟨n, v⟩ hy => ?_) fun env he s1 x => ?_))
  · rcases S.par n (List.of_mem_zip hy).1 with q | q
    · exact .inl q
    · exact .inr ⟨q, PySem.W.cellsFrom_some _ _ _ (.inl q)⟩
  subst he
  refine ⟨nolim.keeps x.toInCall.keep, codeAny_func ?_⟩
  obtain ⟨t, ht, hq⟩ := hbody A outer s H vs Q E (room.deeper _) hsp
  have I0 := inv_start (CX := CX0) (E := E0) (A := { A with handled := none }) S rfl (⟨e0.frames, e0.mod, e0.bs, e0.bsz, e0.funs, e0.frf, e0.hok, e0.bare⟩ : Env0 P w K mg base { A with handled := none } outer s H) (len _ _ _ _ hsp) rv x
  have I : Inv (cxA P w K mg base N qual scope f cdv A outer s H) [] (L2.start N vs) H s1 :=
    ⟨⟨I0.ok.mod, I0.ok.kind, I0.ok.glob, I0.ok.blt, I0.ok.above, I0.ok.inj, I0.ok.has, I0.ok.cab, (fun z => nomatch (show false = true from z)), Around.frames_deeper e0.frames, I0.ok.stk, I0.ok.exf, I0.ok.bs, I0.ok.bsz, I0.ok.noex, I0.ok.exfs, I0.ok.funs, I0.ok.frf⟩,
      I0.os, I0.bare, I0.base, I0.loc, I0.cell, I0.free, I0.freeC, I0.pin, I0.hok, I0.len⟩
  refine wpAny_mono (ht.run [] s1 (L2.start N vs) H _ I hq) (fun fl s' hs => ?_) fun e s' z => z.elim
  cases fl with
  | ret u => exact let ⟨v, σ', H', J, r2, q⟩ := hs; (⟨v, H', J.os, J.bare, J.base, J.hok, r2, q⟩ : CE outer P w H s Q u s')
  | next => exact let ⟨σ', H', J, q⟩ := hs; (⟨V.non, H', J.os, J.bare, J.base, J.hok, rfl, q⟩ : CE outer P w H s Q .none s')
  | brk => exact let ⟨_, _, _, q⟩ := hs; False.elim q
  | cont => exact let ⟨_, _, _, q⟩ := hs; False.elim q
theorem funOkA {x qual : Str} {st : Stmt} (F : Fun K x qual st f fd) (S : FnScope N ps (defScope st)) (len : ∀ vs H Q E, sp vs H Q E → vs.length = ps.length)
    (hbody : ∀ (cdv : Value) (A : Around) (outer : List Env) (s : Shared) (H : Hp) (vs : List V) (Q : VK) (E : XK), L2H.RoomH k (A.deeper (envOfC qual (defScope st) s.heap.objs.size f cdv)) → sp vs H Q E →
      ∃ t, PSs (cxA P w K mg base N qual (defScope st) f cdv A outer s H) (defBody st) t ∧ t { nx := fun _ H' => Q .non H', rt := Q } (L2.start N vs) H) : FnA P w K mg base (k + 1) f fd ps sp := by
  obtain ⟨oc, od, kV, doc, pm, an, cdv, ct, osl, rfl, lk, hcd⟩ := F.ex
  exact fn_ofA lk hcd S len fun A outer s H vs Q E => hbody cdv A outer s H vs Q E
end
/-- such a def called, anywhere -/
theorem pe_callA {X : Cx} {k : Nat} {f : Addr} {fd : FuncData} {ps : List Str} {sp : Sp} {x : Str} {q pos : Pos} {e : Expr} {es : List Expr} {t : TA} (F : FnA X.prog X.w X.K X.mg X.base k f fd ps sp) (hr : L2H.RoomH k X.A) (hg : Gl X x) (hm : X.mg x = some (.ref f)) (hk : PySem.W.keepIn X.K (.ref f) = true) (hb : Binds X.K fd ps [])
    (ha : PA X (e :: es) t) (hdb : (x == ("__debug__" : Str)) = false := by decide) (he : starEach (e :: es) X.env = (false, eval e X.env) :: starEach es X.env := by rfl) (hpl : (backTo pos (starEach es X.env)).any (·.1) = false := by rfl) :
    PE X (.Call (.Name x q) (e :: es) [] pos) (fun σ H Q => t σ H fun vs H1 => sp vs H1 Q E0) := by
  refine ⟨fun pins s σ H Q I h => ?_⟩
  refine wpAny_Call_Name_kw (ld_glob I hg hm (PySem.W.callWith_K (h₀ := X.base) I.ok.mod.kin hk (thn (ha.run pos pins s σ H _ I h) fun us s1 ⟨vs, H1, I1, r, q⟩ => ⟨I1.kIn, ?_⟩) he hpl) hdb)
  have b := hb s1 us I1.kIn (by rw [List.append_nil, ← r.length]; exact F.len _ _ _ _ q)
  rw [List.append_nil] at b
  refine wpAny_call (codeAny_mono (F.run X.A X.stack s1 H1 ⟨us, []⟩ us vs Q E0 hr I1.env0 b r q) fun r' s' hq => ?_)
  cases r' with
  | error e => exact False.elim hq
  | ok fl => cases fl with
    | ret u => exact I1.after hq
    | next => exact False.elim hq
    | brk => exact False.elim hq
    | cont => exact False.elim hq
theorem roomH_mark {k : Nat} {A : Around} {v : Option Value} (r : Room k A) : L2H.RoomH k (A.mark v) := ⟨r.dp, r.un⟩
end Vf
set_option Elab.async false
set_option linter.all false
set_option maxRecDepth 100000
set_option maxHeartbeats 4000000
/-! More rules of my own: callees by name, a list or a tuple walked, data, the program's exception classes, the end with loose names. -/
namespace Vf
open PySem PySem.Spec PyProof.Rows L2

/-! ### heaps -/
theorem same_upd {H : Hp} {p : Addr} {o : HO} (h : H p = none) : Same H (upd H p o) := fun b x e => by
  rw [upd_ne (ne_of_none e h)]
  exact e
theorem Same.seqT {K : PySem.W.Frag} {H H' : Hp} {a : Addr} {xs : List V} (e : Same H H') (h : SqT K H a xs) : SqT K H' a xs := by
  rcases h with (h | ⟨o, h⟩) | h
  · exact .inl (.inl (e _ _ h))
  · exact .inl (.inr ⟨o, e _ _ h⟩)
  · exact .inr h
/-- the tape: a list of one int -/
def Tp (H : Hp) (t : Addr) : Prop := ∃ n : Int, H t = some (.lst [.int n])
/-- all but the tape is as it was -/
def Kp (t : Addr) (H H' : Hp) : Prop := (∀ b o, H b = some o → b ≠ t → H' b = some o) ∧ Tp H' t
theorem Kp.refl {t : Addr} {H : Hp} (h : Tp H t) : Kp t H H := ⟨fun _ _ e _ => e, h⟩
theorem Kp.trans {t : Addr} {H H1 H2 : Hp} (a : Kp t H H1) (b : Kp t H1 H2) : Kp t H H2 := ⟨fun c o e n => b.1 c o (a.1 c o e n) n, b.2⟩
theorem Kp.same {t : Addr} {H H1 H2 : Hp} (a : Kp t H H1) (b : Same H1 H2) : Kp t H H2 := ⟨fun c o e n => b c o (a.1 c o e n), let ⟨n, e⟩ := a.2; ⟨n, b _ _ e⟩⟩
theorem Kp.ofSame {t : Addr} {H H1 : Hp} (a : Tp H t) (b : Same H H1) : Kp t H H1 := (Kp.refl a).same b
theorem Kp.lay {t p : Addr} {o : HO} {H H1 : Hp} (a : Kp t H H1) (n : H1 p = none) : Kp t H (upd H1 p o) := a.same (same_upd n)
theorem Kp.tape {t : Addr} {n : Int} {H H1 : Hp} (a : Kp t H H1) : Kp t H (upd H1 t (.lst [.int n])) := ⟨fun b o e h => by rw [upd_ne h]; exact a.1 b o e h, ⟨n, upd_same⟩⟩
theorem Kp.free {t : Addr} {H H' : Hp} (a : Kp t H H') (h : Tp H t) {l : Addr} (e : H' l = none) : H l = none := by
  cases q : H l with
  | none => rfl
  | some o =>
    by_cases z : l = t
    · obtain ⟨n, r⟩ := a.2
      rw [z, r] at e
      cases e
    · rw [a.1 l o q z] at e
      cases e

/-! ### readings may be weakened -/
theorem _root_.L2.PE.imp {X : Cx} {e : Expr} {t t' : TE} (h : PE X e t) (i : ∀ σ H Q, t' σ H Q → t σ H Q) : PE X e t' := ⟨fun pins s σ H Q I q => h.run pins s σ H Q I (i _ _ _ q)⟩
theorem _root_.L2.PA.imp {X : Cx} {e : List Expr} {t t' : TA} (h : PA X e t) (i : ∀ σ H Q, t' σ H Q → t σ H Q) : PA X e t' := ⟨fun pos pins s σ H Q I q => h.run pos pins s σ H Q I (i _ _ _ q)⟩
theorem _root_.L2.PSs.imp {X : Cx} {e : List Stmt} {t t' : TS} (h : PSs X e t) (i : ∀ σ H Q, t' σ H Q → t σ H Q) : PSs X e t' := ⟨fun pins s σ H Q I q => h.run pins s σ H Q I (i _ _ _ q)⟩

/-! ### callees by their names -/
structure Cal (P : Program) (w : World) (K : PySem.W.Frag) (mg : Str → Option Value) (base : Heap) (CX : CXT) (k : Nat) (x : Str) (ps : List Str) (sp : Sp) : Prop where
  ex : ∃ (f : Addr) (fd : FuncData), mg x = some (.ref f) ∧ PySem.W.keepIn K (.ref f) = true ∧ Binds K fd ps [] ∧ FnOk P w K mg base CX k f fd ps sp
structure CalA (P : Program) (w : World) (K : PySem.W.Frag) (mg : Str → Option Value) (base : Heap) (k : Nat) (x : Str) (ps : List Str) (sp : Sp) : Prop where
  ex : ∃ (f : Addr) (fd : FuncData), mg x = some (.ref f) ∧ PySem.W.keepIn K (.ref f) = true ∧ Binds K fd ps [] ∧ FnA P w K mg base k f fd ps sp
theorem CalA.cal {P : Program} {w : World} {K : PySem.W.Frag} {mg : Str → Option Value} {base : Heap} {k : Nat} {x : Str} {ps : List Str} {sp : Sp} (c : CalA P w K mg base k x ps sp) : Cal P w K mg base CX0 k x ps sp := by
  obtain ⟨f, fd, h1, h2, h3, h4⟩ := c.ex
  exact ⟨f, fd, h1, h2, h3, h4.ok⟩
def tCal (sp : Sp) (E : XK) (t : TA) : TE := fun σ H Q => t σ H fun vs H1 => sp vs H1 Q E
section
variable {X : Cx} {CX : CXT} {k : Nat} {ps : List Str} {sp : Sp} {x : Str} {p pos : Pos} {e : Expr} {es : List Expr} {t : TA}
theorem pe_cal {E : XK} (c : Cal X.prog X.w X.K X.mg X.base CX k x ps sp) (hr : Room k X.A) (hg : Gl X x) (hx : Passes CX X E) (ha : PA X (e :: es) t) (hdb : (x == ("__debug__" : Str)) = false := by decide)
    (he : starEach (e :: es) X.env = (false, eval e X.env) :: starEach es X.env := by rfl) (hpl : (backTo pos (starEach es X.env)).any (·.1) = false := by rfl) : PE X (.Call (.Name x p) (e :: es) [] pos) (tCal sp E t) := by
  obtain ⟨f, fd, h1, h2, h3, h4⟩ := c.ex
  exact (pe_call (dvs := []) h4 hr hg h1 h2 h3 .nil hx ha hdb he hpl).imp fun σ H Q q => by
    unfold tCall
    simp only [List.append_nil]
    exact q
theorem pe_calS {E : L2.St → XK} (c : Cal X.prog X.w X.K X.mg X.base CX k x ps sp) (hr : Room k X.A) (hg : Gl X x) (hx : ∀ σ, PassesAt CX X σ (E σ)) (ha : PA X (e :: es) t) (hdb : (x == ("__debug__" : Str)) = false := by decide)
    (he : starEach (e :: es) X.env = (false, eval e X.env) :: starEach es X.env := by rfl) (hpl : (backTo pos (starEach es X.env)).any (·.1) = false := by rfl) : PE X (.Call (.Name x p) (e :: es) [] pos) (tCallS sp E t) := by
  obtain ⟨f, fd, h1, h2, h3, h4⟩ := c.ex
  exact pe_callS h4 hr hg h1 h2 h3 hx ha hdb he hpl
theorem pe_calA (c : CalA X.prog X.w X.K X.mg X.base k x ps sp) (hr : L2H.RoomH k X.A) (hg : Gl X x) (ha : PA X (e :: es) t) (hdb : (x == ("__debug__" : Str)) = false := by decide)
    (he : starEach (e :: es) X.env = (false, eval e X.env) :: starEach es X.env := by rfl) (hpl : (backTo pos (starEach es X.env)).any (·.1) = false := by rfl) : PE X (.Call (.Name x p) (e :: es) [] pos) (tCal sp E0 t) := by
  obtain ⟨f, fd, h1, h2, h3, h4⟩ := c.ex
  exact pe_callA h4 hr hg h1 h2 h3 ha hdb he hpl
/-- an object made by an __init__ that may raise, the wish at the slots as they stand -/
theorem pe_makS {C f : Addr} {fd : FuncData} {dvs : List V} {ds : List Value} {E : L2.St → XK} (M : Mk X.K C f) (F : FnOk X.prog X.w X.K X.mg X.base CX k f fd ps sp) (hr : Room (k + 1) X.A) (hg : Gl X x) (hm : X.mg x = some (.ref C)) (hb : Binds X.K fd ps ds) (hd : Vals dvs ds)
    (hx : ∀ σ, PassesAt CX X σ (E σ)) (ha : PA X (e :: es) t) (hdb : (x == ("__debug__" : Str)) = false := by decide) (he : starEach (e :: es) X.env = (false, eval e X.env) :: starEach es X.env := by rfl) (hpl : (backTo pos (starEach es X.env)).any (·.1) = false := by rfl) :
    PE X (.Call (.Name x p) (e :: es) [] pos) (fun σ H Q => t σ H fun vs H1 => ∀ y dy, H1 y = none → H1 dy = none → dy ≠ y →
      sp (.ref y :: (vs ++ dvs)) (upd (upd H1 dy (.own y)) y (.ins C dy [])) (fun v H2 => v = .non ∧ Q (.ref y) H2) (E σ)) := by
  refine ⟨fun pins s σ H Q I h => ?_⟩
  refine wpAny_Call_Name_kw (ld_glob I hg hm (PySem.W.callWith_K (h₀ := X.base) I.ok.mod.kin M.kp (thn (ha.run pos pins s σ H _ I h) fun us s1 ⟨vs, H1, I1, r, q⟩ => ⟨I1.kIn, ?_⟩) he hpl) hdb)
  have hq := q (s1.heap.objs.size + 1) s1.heap.objs.size (I1.hok.fresh (Nat.le_succ _)) (I1.hok.fresh (Nat.le_refl _)) (Nat.ne_of_lt (Nat.lt_succ_self _))
  have J := Inv.made (C := C) I1
  have rr : Vals (V.ref (s1.heap.objs.size + 1) :: (vs ++ dvs)) (Value.ref (s1.heap.objs.size + 1) :: (us ++ ds)) := .cons rfl (r.append hd)
  have hl : (Value.ref (s1.heap.objs.size + 1) :: us ++ ds).length = ps.length := rr.length.symm.trans (F.len _ _ _ _ hq)
  refine wpAny_call (make_map (f := f) I1.kIn M.makes M.init (beq_iff_eq.mp M.fn) (codeAny_mono (F.run _ X.stack _ _ ⟨Value.ref (s1.heap.objs.size + 1) :: us, []⟩ (Value.ref (s1.heap.objs.size + 1) :: (us ++ ds)) _ _ (E σ) (hr.make C us [])
    (J.env0.make C us []) (hb _ (Value.ref (s1.heap.objs.size + 1) :: us) J.kIn hl) rr hq) fun r' s' hq' => ?_))
  cases r' with
  | error e => exact hx σ pins _ _ e s' J hq'
  | ok fl => cases fl with
    | ret u =>
      obtain ⟨v, H', I3, rv, rfl, q3⟩ := J.after hq'
      exact ⟨rv, ⟨V.ref (s1.heap.objs.size + 1), H', I3, rfl, q3⟩⟩
    | next => exact False.elim hq'
    | brk => exact False.elim hq'
    | cont => exact False.elim hq'
end

/-! ### a list or a tuple -/
def SqV (K : PySem.W.Frag) (H : Hp) (a : Addr) (xs : List V) : Prop := SqL K H a xs ∨ SqT K H a xs
theorem SqV.same {K : PySem.W.Frag} {H H' : Hp} {a : Addr} {xs : List V} (h : SqV K H a xs) (e : Same H H') : SqV K H' a xs := h.elim (fun q => .inl (e.seq q)) fun q => .inr (Same.seqT e q)
def iSeq (K : PySem.W.Frag) (tl : TE) : TI := fun σ H R => tl σ H fun x H1 => ∃ a, x = .ref a ∧ (((∃ xs, SqL K H1 a xs) ∧ R (Itl K a) H1) ∨ ((∃ xs, SqT K H1 a xs) ∧ R (Itt K a) H1))
theorem pi_seq {X : Cx} {tg l : Expr} {tl : TE} (hl : PE X l tl) : PI X tg l (iSeq X.K tl) := by
  refine ⟨fun pins s σ H R I h => thn (hl.run pins s σ H _ I h) fun v s1 ⟨x, H1, I1, r1, q1⟩ => ?_⟩
  obtain ⟨a, rfl, q⟩ := q1
  cases r1
  rcases q with ⟨⟨xs, hq⟩, q⟩ | ⟨⟨xs, hq⟩, q⟩
  · obtain ⟨its, rv, p, hz⟩ := I1.list hq
    refine wpAny_pyIter_list p.isList ⟨s1.heap.objs.size, [s1.heap.objs.size], _, _, H1, rfl, I1.kept (t' := s1.toks) fun b o e => Heap.get?_push_of_some _ e, turn_list a _, ⟨_, Heap.get?_push_size _ rfl, rfl, rfl⟩, fun b hb => ?_, q⟩
    obtain rfl : b = s1.heap.objs.size := by simpa using hb
    exact I1.fpOk (Nat.le_refl _) (I1.hok.fresh (Nat.le_refl _))
  · obtain ⟨its, rv, p, hz⟩ := I1.tuple hq
    refine wpAny_pyIter_tuple (show s1.heap.IsTuple a its.toArray from p) ⟨s1.heap.objs.size, [s1.heap.objs.size], _, _, H1, rfl, I1.kept (t' := s1.toks) fun b o e => Heap.get?_push_of_some _ e, turn_tuple a _, ⟨_, Heap.get?_push_size _ rfl, rfl, rfl⟩, fun b hb => ?_, q⟩
    obtain rfl : b = s1.heap.objs.size := by simpa using hb
    exact I1.fpOk (Nat.le_refl _) (I1.hok.fresh (Nat.le_refl _))
/-- a comprehension over either -/
theorem lc_seq {K : PySem.W.Frag} {a : Addr} {xs : List V} {g : TG} {tt : TT} {te : TE} {vs : List Nat} {σ : L2.St} {H1 : Hp} {Q : Addr → Hp → Prop} (h : SqV K H1 a xs) (Pv : Addr → Nat → Hp → Prop) (h0 : ∀ D, H1 D = none → Pv D 0 (upd H1 D (.lst [])))
    (hl : ∀ D i H, H1 D = none → i ≤ xs.length → Pv D i H → Same H1 H)
    (hs : ∀ D i x H, H1 D = none → xs[i]? = some x → Pv D i H → g x (wipe σ vs) H fun σ2 H2 => wipe σ2 vs = wipe σ vs ∧ tt σ2 H2 fun b H3 =>
      if b = true then te σ2 H3 fun y H4 => ∃ acc, H4 D = some (.lst acc) ∧ acc.length < sizeLine ∧ Pv D (i + 1) (upd H4 D (.lst (acc ++ [y]))) else Pv D (i + 1) H3) (hd : ∀ D H, H1 D = none → Pv D xs.length H → Q D H) :
    ((∃ xs, SqL K H1 a xs) ∧ ∀ D, H1 D = none → ∃ W : Nat → Nat → Hp → Prop, (∃ m, W 0 m (upd H1 D (.lst []))) ∧ ∀ i m H, W i m H →
      ((Itl K a).stop i H ∧ Q D H) ∨ ((Itl K a).go i H ∧ ∃ Nx : Hp → Prop, (∀ H', Nx H' → ∃ m', m' < m ∧ W (i + 1) m' H') ∧ ∀ x H', (Itl K a).yld i H x H' → g x (wipe σ vs) H' fun σ2 H2 => wipe σ2 vs = wipe σ vs ∧ tt σ2 H2 fun b H3 =>
        if b = true then te σ2 H3 fun y H4 => ∃ acc, H4 D = some (.lst acc) ∧ acc.length < sizeLine ∧ Nx (upd H4 D (.lst (acc ++ [y]))) else Nx H3)) ∨
    ((∃ xs, SqT K H1 a xs) ∧ ∀ D, H1 D = none → ∃ W : Nat → Nat → Hp → Prop, (∃ m, W 0 m (upd H1 D (.lst []))) ∧ ∀ i m H, W i m H →
      ((Itt K a).stop i H ∧ Q D H) ∨ ((Itt K a).go i H ∧ ∃ Nx : Hp → Prop, (∀ H', Nx H' → ∃ m', m' < m ∧ W (i + 1) m' H') ∧ ∀ x H', (Itt K a).yld i H x H' → g x (wipe σ vs) H' fun σ2 H2 => wipe σ2 vs = wipe σ vs ∧ tt σ2 H2 fun b H3 =>
        if b = true then te σ2 H3 fun y H4 => ∃ acc, H4 D = some (.lst acc) ∧ acc.length < sizeLine ∧ Nx (upd H4 D (.lst (acc ++ [y]))) else Nx H3)) := by
  rcases h with h | h
  · exact .inl ⟨⟨xs, h⟩, fun D nD => lc_list (xs := xs) (Pv D) (h0 D nD) (fun i H hi p => (hl D i H nD hi p).seq h) (fun i x H e p => hs D i x H nD e p) fun H p => hd D H nD p⟩
  · exact .inr ⟨⟨xs, h⟩, fun D nD => lc_tup (xs := xs) (Pv D) (h0 D nD) (fun i H hi p => Same.seqT (hl D i H nD hi p) h) (fun i x H e p => hs D i x H nD e p) fun H p => hd D H nD p⟩
/-- the same as an expression's rule -/
def MonoE (t : TE) : Prop := ∀ σ H (Q Q' : VK), (∀ x H1, Q x H1 → Q' x H1) → t σ H Q → t σ H Q'
theorem mono_var {i : Nat} : MonoE (tVar i) := fun _ _ _ _ h ⟨v, e, q⟩ => ⟨v, e, h _ _ q⟩
def tLcS (K : PySem.W.Frag) (tl : TE) (g : TG) (tt : TT) (te : TE) (vs : List Nat) : TE := fun σ H Q => tl σ H fun x H1 => ∃ (a : Addr) (xs : List V) (Pv : Addr → Nat → Hp → Prop), x = .ref a ∧ SqV K H1 a xs ∧ (∀ D, H1 D = none → Pv D 0 (upd H1 D (.lst []))) ∧
  (∀ D i H2, H1 D = none → i ≤ xs.length → Pv D i H2 → Same H1 H2) ∧
  (∀ D i x H2, H1 D = none → xs[i]? = some x → Pv D i H2 → g x (wipe σ vs) H2 fun σ2 H2 => wipe σ2 vs = wipe σ vs ∧ tt σ2 H2 fun b H3 =>
    if b = true then te σ2 H3 fun y H4 => ∃ acc, H4 D = some (.lst acc) ∧ acc.length < sizeLine ∧ Pv D (i + 1) (upd H4 D (.lst (acc ++ [y]))) else Pv D (i + 1) H3) ∧
  (∀ D H2, H1 D = none → Pv D xs.length H2 → Q (.ref D) H2)
theorem pe_lcS {X : Cx} {elt tg l : Expr} {ifs : List Expr} {scope : Scope} {own : List (Str × Nat)} {pos : Pos} {tl : TE} {g : TG} {tt : TT} {te : TE} (hc : X.calm = true) (hN : X.N.Nodup) (hl : PE X l tl) (mo : MonoE tl) (ok : BlkOk X.N X.env.scope scope own)
    (hg : ∀ (s : Shared) (H : Hp) (C : Addr) (cl : List (Str × Addr)) (fp : List Addr), PG (X.blk s H scope (compEnvC scope cl C X.env) fp) tg g) (ht : ∀ (s : Shared) (H : Hp) (C : Addr) (cl : List (Str × Addr)) (fp : List Addr), PTs (X.blk s H scope (compEnvC scope cl C X.env) fp) ifs tt)
    (he : ∀ (s : Shared) (H : Hp) (C : Addr) (cl : List (Str × Addr)) (fp : List Addr), PE (X.blk s H scope (compEnvC scope cl C X.env) fp) elt te) (hs : ∀ x, foldedSetIterable l X.env x = pure x := by intro _; rfl) :
    PE X (.ListComp elt [⟨tg, l, ifs, 0⟩] scope pos) (tLcS X.K tl g tt te (own.map (·.2))) := by
  refine (pe_lc hc hN (pi_seq hl) ok hg ht he hs).imp fun σ H Q q => mo _ _ _ _ (fun x H1 q => ?_) q
  obtain ⟨a, xs, Pv, rfl, hS, h0, hk, hst, hd⟩ := q
  exact ⟨a, rfl, lc_seq (g := g) (tt := tt) (te := te) (vs := own.map (·.2)) (σ := σ) (Q := fun D H2 => Q (.ref D) H2) hS Pv h0 hk hst hd⟩
/-- for i, x in enumerate(list) -/
theorem for_enum {K : PySem.W.Frag} {a : Addr} {xs : List V} {g : TG} {tb : TS} {D : Ends} {σ : L2.St} {H : Hp} (Pv : Nat → L2.St → Hp → Prop) (h0 : Pv 0 σ H) (hl : ∀ i σ H, i ≤ xs.length → Pv i σ H → SqL K H a xs)
    (hs : ∀ i x T σ H, xs[i]? = some x → Pv i σ H → H T = none → g (.ref T) σ (upd H T (.tup [.int (i : Nat), x])) fun σ2 H2 => tb { D with nx := Pv (i + 1), ct := Pv (i + 1), bk := D.nx } σ2 H2) (hd : ∀ σ H, Pv xs.length σ H → D.nx σ H) :
    ∃ W : Nat → Nat → L2.St → Hp → Prop, (∃ m, W 0 m σ H) ∧ ∀ i m σ H, W i m σ H →
      ((Ite K a).stop i H ∧ D.nx σ H) ∨ ((Ite K a).go i H ∧ ∃ N : L2.St → Hp → Prop, (∀ σ' H', N σ' H' → ∃ m', m' < m ∧ W (i + 1) m' σ' H') ∧ ∀ x H', (Ite K a).yld i H x H' → g x σ H' fun σ2 H2 => tb { D with nx := N, ct := N, bk := D.nx } σ2 H2) := by
  refine ⟨fun i m σ H => m = xs.length - i ∧ i ≤ xs.length ∧ Pv i σ H, ⟨xs.length, by simp, Nat.zero_le _, h0⟩, ?_⟩
  rintro i m σ H ⟨rfl, hi, p⟩
  have q := hl i σ H hi p
  by_cases hlt : i < xs.length
  · refine .inr ⟨⟨xs, xs[i], q, by simp [hlt]⟩, Pv (i + 1), fun σ' H' p' => ⟨xs.length - (i + 1), by omega, rfl, hlt, p'⟩, fun x H' y => ?_⟩
    obtain ⟨T, z, rfl, nT, rfl, f⟩ := y
    exact hs i z T σ H (f xs q) p nT
  · obtain rfl : i = xs.length := by omega
    exact .inl ⟨⟨xs, q, Nat.le_refl _⟩, hd σ H p⟩

/-! ### data: what a thing is, whatever it may be -/
inductive Dt where
  | non | bl (b : Bool) | int (i : Int) | str (s : Str) | lst (l : List Dt) | tup (l : List Dt) | dct (l : List (Key × Dt))
mutual
inductive Rp (K : PySem.W.Frag) (H : Hp) : V → Dt → Prop
  | non : Rp K H .non .non
  | bl (b : Bool) : Rp K H (.bl b) (.bl b)
  | int (i : Int) : Rp K H (.int i) (.int i)
  | str (x : Str) : Rp K H (.str x) (.str x)
  | lst {a : Addr} {xs : List V} {ds : List Dt} : SqL K H a xs → RpL K H xs ds → Rp K H (.ref a) (.lst ds)
  | tup {a : Addr} {xs : List V} {ds : List Dt} : SqT K H a xs → RpL K H xs ds → Rp K H (.ref a) (.tup ds)
  | dct {a : Addr} {kvs : List (Key × V)} {ds : List (Key × Dt)} : H a = some (.dK kvs) → RpD K H kvs ds → Rp K H (.ref a) (.dct ds)
inductive RpL (K : PySem.W.Frag) (H : Hp) : List V → List Dt → Prop
  | nil : RpL K H [] []
  | cons {v : V} {vs : List V} {d : Dt} {ds : List Dt} : Rp K H v d → RpL K H vs ds → RpL K H (v :: vs) (d :: ds)
inductive RpD (K : PySem.W.Frag) (H : Hp) : List (Key × V) → List (Key × Dt) → Prop
  | nil : RpD K H [] []
  | cons {k : Key} {v : V} {vs : List (Key × V)} {d : Dt} {ds : List (Key × Dt)} : Rp K H v d → RpD K H vs ds → RpD K H ((k, v) :: vs) ((k, d) :: ds)
end
section
variable {K : PySem.W.Frag} {H H' : Hp}
mutual
theorem Rp.same (s : Same H H') : ∀ {v : V} {d : Dt}, Rp K H v d → Rp K H' v d
  | _, _, .non => .non
  | _, _, .bl b => .bl b
  | _, _, .int i => .int i
  | _, _, .str x => .str x
  | _, _, .lst h r => .lst (s.seq h) (RpL.same s r)
  | _, _, .tup h r => .tup (Same.seqT s h) (RpL.same s r)
  | _, _, .dct h r => .dct (s _ _ h) (RpD.same s r)
theorem RpL.same (s : Same H H') : ∀ {v : List V} {d : List Dt}, RpL K H v d → RpL K H' v d
  | _, _, .nil => .nil
  | _, _, .cons h r => .cons (Rp.same s h) (RpL.same s r)
theorem RpD.same (s : Same H H') : ∀ {v : List (Key × V)} {d : List (Key × Dt)}, RpD K H v d → RpD K H' v d
  | _, _, .nil => .nil
  | _, _, .cons h r => .cons (Rp.same s h) (RpD.same s r)
end
theorem RpL.length : ∀ {v : List V} {d : List Dt}, RpL K H v d → v.length = d.length
  | _, _, .nil => rfl
  | _, _, .cons _ r => congrArg (· + 1) (RpL.length r)
theorem RpL.get : ∀ {v : List V} {d : List Dt} {i : Nat} {x : V}, RpL K H v d → v[i]? = some x → ∃ y, d[i]? = some y ∧ Rp K H x y
  | _, _, _, _, .nil, e => by simp at e
  | _, _, 0, _, .cons h _, e => by
    obtain rfl := Option.some.inj e
    exact ⟨_, rfl, h⟩
  | _, _, i + 1, x, .cons _ r, e => RpL.get (i := i) (x := x) r e
/-- the things that are lists or tuples -/
def Dt.items : Dt → Option (List Dt)
  | .lst l => some l
  | .tup l => some l
  | _ => none
theorem ty_list {a : Addr} {xs : List V} (h : SqL K H a xs) : TyX K H (.ref a) (.type "list") := by
  rcases h with (h | ⟨o, h⟩) | ⟨o, its, n, e, c, _⟩
  · exact .base (.lst h)
  · exact .base (.frz h)
  · exact .kList e c
theorem ty_tuple {a : Addr} {xs : List V} (h : SqT K H a xs) : TyX K H (.ref a) (.type "tuple") := by
  rcases h with (h | ⟨o, h⟩) | ⟨o, its, n, e, c, _⟩
  · exact .base (.tup h)
  · exact .fTuple h
  · exact .kTuple e c
/-- the name of a thing's class -/
def Dt.ty : Dt → String
  | .non => "NoneType"
  | .bl _ => "bool"
  | .int _ => "int"
  | .str _ => "str"
  | .lst _ => "list"
  | .tup _ => "tuple"
  | .dct _ => "dict"
theorem Rp.ty {v : V} {d : Dt} (r : Rp K H v d) : TyX K H v (.type d.ty) := by
  cases r with
  | non => exact .base .non
  | bl b => exact .base (.bl b)
  | int i => exact .base (.int i)
  | str x => exact .base (.str x)
  | lst h _ => exact ty_list h
  | tup h _ => exact ty_tuple h
  | dct h _ => exact .base (.dK h)
theorem Rp.items_some {v : V} {d : Dt} {l : List Dt} (r : Rp K H v d) (e : d.items = some l) : ∃ a xs, v = .ref a ∧ SqV K H a xs ∧ RpL K H xs l := by
  cases r with
  | lst h q =>
    obtain rfl := Option.some.inj e
    exact ⟨_, _, rfl, .inl h, q⟩
  | tup h q =>
    obtain rfl := Option.some.inj e
    exact ⟨_, _, rfl, .inr h, q⟩
  | _ => cases e
end
/-- isinstance of a thing, of one built-in class -/
def Dt.isInt : Dt → Bool
  | .bl _ => true
  | .int _ => true
  | _ => false
def Dt.isBool : Dt → Bool
  | .bl _ => true
  | _ => false
def Dt.isList : Dt → Bool
  | .lst _ => true
  | _ => false
def Dt.isTuple : Dt → Bool
  | .tup _ => true
  | _ => false
theorem isa_int : ∀ d : Dt, kitB d.ty "int" = some d.isInt
  | .non => show kitB "NoneType" "int" = some false by decide +kernel
  | .bl _ => show kitB "bool" "int" = some true by decide +kernel
  | .int _ => show kitB "int" "int" = some true by decide +kernel
  | .str _ => show kitB "str" "int" = some false by decide +kernel
  | .lst _ => show kitB "list" "int" = some false by decide +kernel
  | .tup _ => show kitB "tuple" "int" = some false by decide +kernel
  | .dct _ => show kitB "dict" "int" = some false by decide +kernel
theorem isa_bool : ∀ d : Dt, kitB d.ty "bool" = some d.isBool
  | .non => show kitB "NoneType" "bool" = some false by decide +kernel
  | .bl _ => show kitB "bool" "bool" = some true by decide +kernel
  | .int _ => show kitB "int" "bool" = some false by decide +kernel
  | .str _ => show kitB "str" "bool" = some false by decide +kernel
  | .lst _ => show kitB "list" "bool" = some false by decide +kernel
  | .tup _ => show kitB "tuple" "bool" = some false by decide +kernel
  | .dct _ => show kitB "dict" "bool" = some false by decide +kernel
theorem isa_list : ∀ d : Dt, kitB d.ty "list" = some d.isList
  | .non => show kitB "NoneType" "list" = some false by decide +kernel
  | .bl _ => show kitB "bool" "list" = some false by decide +kernel
  | .int _ => show kitB "int" "list" = some false by decide +kernel
  | .str _ => show kitB "str" "list" = some false by decide +kernel
  | .lst _ => show kitB "list" "list" = some true by decide +kernel
  | .tup _ => show kitB "tuple" "list" = some false by decide +kernel
  | .dct _ => show kitB "dict" "list" = some false by decide +kernel
theorem isa_tuple : ∀ d : Dt, kitB d.ty "tuple" = some d.isTuple
  | .non => show kitB "NoneType" "tuple" = some false by decide +kernel
  | .bl _ => show kitB "bool" "tuple" = some false by decide +kernel
  | .int _ => show kitB "int" "tuple" = some false by decide +kernel
  | .str _ => show kitB "str" "tuple" = some false by decide +kernel
  | .lst _ => show kitB "list" "tuple" = some false by decide +kernel
  | .tup _ => show kitB "tuple" "tuple" = some true by decide +kernel
  | .dct _ => show kitB "dict" "tuple" = some false by decide +kernel
theorem isa_seq {K : PySem.W.Frag} (d : Dt) : PySem.W.kitAny K (.type d.ty) [.type "list", .type "tuple"] = some d.items.isSome := by
  refine kitAny_cons (kit_ty (isa_list d)) (fun e => kitAny_cons (kit_ty (isa_tuple d)) (fun e2 => ?_) fun e2 => ?_) fun e => ?_
  · cases d <;> first | rfl | (cases e; done) | (cases e2; done)
  · cases d <;> first | rfl | cases e2
  · cases d <;> first | rfl | cases e

/-! ### the program's exception classes -/
abbrev veMro : List Value := [.type "ValueError", .type "Exception", .type "BaseException", .type "object"]
structure ExcF (K : PySem.W.Frag) (mg : Str → Option Value) (nm : Str) (C TE : Addr) : Prop where
  g : mg nm = some (.ref C)
  x : PySem.W.excIn K C veMro "ValueError.__new__" = true
  k : PySem.W.keepIn K (.ref C) = true
  t : PySem.W.typeIn K (.ref C) = some (.type "type")
  c : ExcC K C
  m : ∃ cd, PySem.W.clsIn K C = some cd ∧ cd.mro = .ref C :: .ref TE :: veMro
structure ExcB (K : PySem.W.Frag) (mg : Str → Option Value) (nm : Str) (TE : Addr) : Prop where
  g : mg nm = some (.ref TE)
  t : PySem.W.typeIn K (.ref TE) = some (.type "type")
  i : PySem.W.isClsIn K TE = true
  b : PySem.W.subIn K (.ref TE) (.type "BaseException") = some true
section
variable {K : PySem.W.Frag} {mg : Str → Option Value} {n n' : Str} {C D TE : Addr}
theorem ExcF.b (F : ExcF K mg n C TE) : PySem.W.subIn K (.ref C) (.type "BaseException") = some true := F.c.hs
theorem ExcF.is (F : ExcF K mg n C TE) : (PySem.W.clsIn K C).isSome = true := let ⟨cd, e, _⟩ := F.m; by rw [e]; rfl
theorem ExcF.sub (F : ExcF K mg n D TE) (v : Value) : PySem.W.subIn K (.ref D) v = some ((Value.ref D :: .ref TE :: veMro).contains v) := by
  obtain ⟨cd, e, m⟩ := F.m
  show PySem.W.mroIn K D v = _
  unfold PySem.W.mroIn
  rw [e, Option.bind_some, m]
  rfl
theorem kitCls_own (F : ExcF K mg n D TE) (h1 : (PySem.W.clsIn K C).isSome = true) (h2 : PySem.W.typeIn K (.ref C) = some (.type "type")) : PySem.W.kitCls K (.ref D) (.ref C) = some (decide (C = D) || decide (C = TE)) := by
  show (if ((PySem.W.clsIn K C).isSome && PySem.W.typeIn K (.ref C) == some (.type "type")) = true then PySem.W.subIn K (.ref D) (.ref C) else none) = _
  rw [h1, h2, if_pos (by rfl), F.sub]
  congr 1
  have e : ∀ a b : Addr, (Value.ref a == Value.ref b) = decide (a = b) := fun a b => by
    by_cases q : a = b
    · subst q
      simp
    · have : ¬ Value.ref a = Value.ref b := fun z => q (Value.ref.inj z)
      simp [q]
  rw [List.contains_cons, List.contains_cons, e, e, show veMro.contains (Value.ref C) = false from rfl, Bool.or_false]
theorem kit_own (F : ExcF K mg n D TE) (h1 : (PySem.W.clsIn K C).isSome = true) (h2 : PySem.W.typeIn K (.ref C) = some (.type "type")) : PySem.W.kitOne K (.ref D) (.ref C) = some (decide (C = D) || decide (C = TE)) := by
  unfold PySem.W.kitOne
  by_cases q : D = C
  · subst q
    simp
  · rw [if_neg (by simpa using fun z => q z)]
    exact kitCls_own F h1 h2
theorem exm_own (F : ExcF K mg n D TE) (h1 : (PySem.W.clsIn K C).isSome = true) (h2 : PySem.W.typeIn K (.ref C) = some (.type "type")) (h3 : PySem.W.subIn K (.ref C) (.type "BaseException") = some true) : PySem.W.exmOne K (.ref D) (.ref C) = some (decide (C = D) || decide (C = TE)) := by
  unfold PySem.W.exmOne
  rw [h3, if_pos (by rfl)]
  exact kitCls_own F h1 h2
theorem kit_VE (F : ExcF K mg n D TE) : PySem.W.kitOne K (.ref D) (.type "ValueError") = some true := by
  unfold PySem.W.kitOne
  rw [if_neg (by simp)]
  show (if PySem.W.kitMeta "ValueError" = true then PySem.W.subIn K (.ref D) (.type "ValueError") else none) = _
  rw [if_pos (by decide +kernel), F.sub]
  rfl
end
/-- isinstance(e, C) of an exception of one of these classes, C one of them -/
theorem pe_isC {X : Cx} {n : Str} {C TE : Addr} {i : Nat} {x : Str} {p p1 p2 pos : Pos} (G : ExcF X.K X.mg n C TE) (hne : C ≠ TE) (hv : PE X (.Name x p1) (tVar i)) (hc : PE X (.Name n p2) (tC (.ref C))) (hg : Gl X "isinstance") (hm : X.mg "isinstance" = none)
    (he : starEach [.Name x p1, .Name n p2] X.env = (false, eval (.Name x p1) X.env) :: starEach [.Name n p2] X.env := by rfl) (he2 : starEach [.Name n p2] X.env = (false, eval (.Name n p2) X.env) :: starEach [] X.env := by rfl) (hpl : (backTo pos (starEach [.Name n p2] X.env)).any (·.1) = false := by rfl) :
    PE X (.Call (.Name "isinstance" p) [.Name x p1, .Name n p2] [] pos) (fun σ H Q => ∃ (a D : Addr) (m : Str), σ[i]? = some (some (.ref a)) ∧ ExAt H a D ∧ ExcF X.K X.mg m D TE ∧ Q (.bl (decide (C = D))) H) := by
  refine (pe_callB call_isX hg hm (by decide +kernel) (pa_cons hv (pa_cons hc pa_nil he2) he) (by decide) (by decide) he hpl).imp fun σ H Q ⟨a, D, m, e, E, F, q⟩ => ?_
  exact ⟨_, e, a, D, _, _, _, rfl, .own C, E, F.c, kit_own F G.is G.t, by rw [decide_eq_false hne, Bool.or_false]; exact q⟩

/-! ### rules whose reading names the written part, for suites -/
theorem call_isXK {X : Cx} {K : PySem.W.Frag} (hK : X.K = K) : CallR X (.builtin "isinstance") (rIsX K) := hK ▸ call_isX
theorem op_eqDK {X : Cx} {K : PySem.W.Frag} (hK : X.K = K) (hu : X.A.units + 64 < cLine) : OpR X (compareOp .Eq) (rEqD K) := hK ▸ op_eqD hu
theorem op_neDK {X : Cx} {K : PySem.W.Frag} (hK : X.K = K) (hu : X.A.units + 64 < cLine) : OpR X (compareOp .NotEq) (rNeD K) := hK ▸ op_neD hu

/-! ### the end, the loose names told -/
theorem walk_ofG {l : PySem.W.OpenLaw} {n k : Nat} {q : Program} {loose : List Str} {lv : List (Str × PySem.W.WData)} {qp : Program} {YP : World → Heap → Prop} {d : DefRec} {K : Params → PySem.W.Frag} {CX : World → CXT} {sp : World → Sp} {x : Str}
    (hn : l.most = some n) (hn2 : n ≤ sizeLine) (hdf : d.params.defaults = []) (hr : Room k callerA) (hY : ∀ (w : World) (h : Heap), YP w h → (K w.params).In h)
    (F : ∀ (w : World) (mg : Str → Option Value) (fa : Addr) (h : Heap), (K w.params).In h → h.Ns mainGlobals mg → PySem.W.LooseAre lv mg h → mg d.name = some (.ref fa) →
      ∃ fd : FuncData, (∀ (s : Shared) (u : Value), BindsTo s fd ⟨[u], []⟩ [(x, u)]) ∧ ∀ base : Heap, (K w.params).In base → base.Ns mainGlobals mg → FnOk l.prog w (K w.params) mg base (CX w) k fa fd [x] (sp w))
    (hsp : ∀ (w : World) (H : Hp) (a : Addr) (ns : List Int), ns.length ≤ n → (∀ z ∈ ns, Builtin.Int.intBits z ≤ 1048576) → Only H → SqL (K w.params) H a (ns.map V.int) → sp w [.ref a] H (fun v _ => v = .bl true) fun _ _ _ => False)
    (hCX : ∀ (w : World) (H : Hp) (s : Shared) (e : Value) (s' : Shared), CX w [] H s (fun _ _ _ => False) e s' → False) :
    PySem.W.WalkO q loose (PySem.W.XL qp lv) YP l.row.toRowW d [] (fun f vs => PySem.call f vs) := by
  refine Att.attach_callB hn hdf fun w s₀ s₁ mg mb fa o pm cd doc a vs ns G Y ho hd hcd hmg hobj hints hlen hbits hg => ?_
  obtain ⟨fd, hb, hF⟩ := F w mg fa _ (hY w _ Y) G.T.g G.X.2 hmg
  exact law_call (hY w _ Y) G.T.g G.T.b G.T.builtins G.T.nolimit hg hobj hints (Nat.le_trans hlen hn2) hr hF hb (fun H hO hS => hsp w H a ns hlen hbits hO hS) fun H e s' => hCX w H s₁ e s'
theorem loose_int {lv : List (Str × PySem.W.WData)} {mg : Str → Option Value} {h : Heap} {x : Str} {i : Int} (L : PySem.W.LooseAre lv mg h) (hm : (x, PySem.W.WData.int i) ∈ lv) : ∃ t, mg x = some (.int i t) := by
  obtain ⟨v, e, r⟩ := L.val _ hm
  cases r
  exact ⟨_, e⟩
end Vf
set_option Elab.async false
set_option linter.all false
set_option maxRecDepth 100000
set_option maxHeartbeats 4000000
/-! repr of data: it asks that no repr is under way, so the defs that use it are promised with that in hand. -/
namespace Vf
open PySem PySem.Spec PyProof.Rows L2

/-! ### defs that may use repr -/
structure RoomG (k : Nat) (A : Around) : Prop where
  r : Room k A
  g : A.guards = some []
theorem RoomG.mono {j k : Nat} {A : Around} (h : RoomG k A) (e : j ≤ k) : RoomG j A := ⟨h.r.mono e, h.g⟩
theorem RoomG.deeper {k : Nat} {A : Around} (h : RoomG (k + 1) A) (env : Env) : RoomG k (A.deeper env) := ⟨h.r.deeper env, h.g⟩
structure FnG (P : Program) (w : World) (K : PySem.W.Frag) (mg : Str → Option Value) (base : Heap) (k : Nat) (f : Addr) (fd : FuncData) (ps : List Str) (sp : Sp) : Prop where
  len : ∀ vs H Q E, sp vs H Q E → vs.length = ps.length
  run : ∀ (A : Around) (outer : List Env) (s : Shared) (H : Hp) (args : Args) (us : List Value) (vs : List V) (Q : VK) (E : XK), RoomG k A → Env0 P w K mg base A outer s H → BindsTo s fd args (ps.zip us) → Vals vs us → sp vs H Q E →
    codeAny (model P w) A (.call (.ref f) args) (CR CX0 outer P w H s Q E) s
section
variable {P : Program} {w : World} {K : PySem.W.Frag} {mg : Str → Option Value} {base : Heap} {k : Nat} {f : Addr} {fd : FuncData} {ps N : List Str} {sp : Sp}
theorem fn_ofG {name qual : Str} {params : Arguments} {body : List Stmt} {scope : Scope} {dV kV doc pm cdv ct oc : Value} {an od : Option Addr} {osl : Array (Option Value)}
    (lk : K.lookup f = some ⟨oc, od, .func (PySem.W.fnOf name qual params body scope dV kV doc pm an cdv ct), osl⟩) (hcd : PySem.W.codeIn K cdv qual = true) (S : FnScope N ps scope) (len : ∀ vs H Q E, sp vs H Q E → vs.length = ps.length)
    (hbody : ∀ (A : Around) (outer : List Env) (s : Shared) (H : Hp) (vs : List V) (Q : VK) (E : XK), RoomG k (A.deeper (envOfC qual scope s.heap.objs.size f cdv)) → sp vs H Q E →
      ∃ t, PSs (cxOf CX0 P w K mg base N qual scope f cdv A outer s H E).nox body t ∧ t { nx := fun _ H' => Q .non H', rt := Q } (L2.start N vs) H) :
    FnG P w K mg base (k + 1) f (PySem.W.fnOf name qual params body scope dV kV doc pm an cdv ct) ps sp := by
  refine ⟨len, fun A outer s H args us vs Q E room e0 hb rv hsp => ?_⟩
  have kx : K.In s.heap := e0.mod.kin.keeps fun b o e => (e0.bs b o e).1
  have nolim : s.heap.NoLimit := e0.mod.nolimit.keeps fun b o e => (e0.bs b o e).1
  refine codeAny_call_function room.r.depth (kx _ _ lk) rfl S.co S.gen rfl (PySem.W.codeRec_of kx hcd) (hb _ _ _ _ (wpAny_newFunctionEnv_cells S.kind (fun ⟨n, v⟩ hy => ?_) fun env he s1 x => ?_))
  · rcases S.par n (List.of_mem_zip hy).1 with q | q
    · exact .inl q
    · exact .inr ⟨q, PySem.W.cellsFrom_some _ _ _ (.inl q)⟩
  subst he
  refine ⟨nolim.keeps x.toInCall.keep, codeAny_func ?_⟩
  obtain ⟨t, ht, hq⟩ := hbody A outer s H vs Q E (room.deeper _) hsp
  have I := inv_start (CX := CX0) (E := E) (A := A) S room.r.hd e0 (len _ _ _ _ hsp) rv x
  refine wpAny_mono (ht.nox.run [] s1 (L2.start N vs) H _ I hq) (fun fl s' hs => ?_) fun e s' z => z
  cases fl with
  | ret u => exact let ⟨v, σ', H', J, r2, q⟩ := hs; (⟨v, H', J.os, J.bare, J.base, J.hok, r2, q⟩ : CE outer P w H s Q u s')
  | next => exact let ⟨σ', H', J, q⟩ := hs; (⟨V.non, H', J.os, J.bare, J.base, J.hok, rfl, q⟩ : CE outer P w H s Q .none s')
  | brk => exact let ⟨_, _, _, q⟩ := hs; False.elim q
  | cont => exact let ⟨_, _, _, q⟩ := hs; False.elim q
theorem funOkG {x qual : Str} {st : Stmt} (F : Fun K x qual st f fd) (S : FnScope N ps (defScope st)) (len : ∀ vs H Q E, sp vs H Q E → vs.length = ps.length)
    (hbody : ∀ (cdv : Value) (A : Around) (outer : List Env) (s : Shared) (H : Hp) (vs : List V) (Q : VK) (E : XK), RoomG k (A.deeper (envOfC qual (defScope st) s.heap.objs.size f cdv)) → sp vs H Q E →
      ∃ t, PSs (cxOf CX0 P w K mg base N qual (defScope st) f cdv A outer s H E).nox (defBody st) t ∧ t { nx := fun _ H' => Q .non H', rt := Q } (L2.start N vs) H) : FnG P w K mg base (k + 1) f fd ps sp := by
  obtain ⟨oc, od, kV, doc, pm, an, cdv, ct, osl, rfl, lk, hcd⟩ := F.ex
  exact fn_ofG lk hcd S len fun A outer s H vs Q E => hbody cdv A outer s H vs Q E
end
structure CalG (P : Program) (w : World) (K : PySem.W.Frag) (mg : Str → Option Value) (base : Heap) (k : Nat) (x : Str) (ps : List Str) (sp : Sp) : Prop where
  ex : ∃ (f : Addr) (fd : FuncData), mg x = some (.ref f) ∧ PySem.W.keepIn K (.ref f) = true ∧ Binds K fd ps [] ∧ FnG P w K mg base k f fd ps sp
theorem pe_calG {X : Cx} {k : Nat} {ps : List Str} {sp : Sp} {x : Str} {p pos : Pos} {e : Expr} {es : List Expr} {t : TA} (c : CalG X.prog X.w X.K X.mg X.base k x ps sp) (hr : RoomG k X.A) (hg : Gl X x) (ha : PA X (e :: es) t) (hdb : (x == ("__debug__" : Str)) = false := by decide)
    (he : starEach (e :: es) X.env = (false, eval e X.env) :: starEach es X.env := by rfl) (hpl : (backTo pos (starEach es X.env)).any (·.1) = false := by rfl) : PE X (.Call (.Name x p) (e :: es) [] pos) (tCal sp E0 t) := by
  obtain ⟨f, fd, hm, hk, hb, F⟩ := c.ex
  refine ⟨fun pins s σ H Q I h => ?_⟩
  refine wpAny_Call_Name_kw (ld_glob I hg hm (PySem.W.callWith_K (h₀ := X.base) I.ok.mod.kin hk (thn (ha.run pos pins s σ H _ I h) fun us s1 ⟨vs, H1, I1, r, q⟩ => ⟨I1.kIn, ?_⟩) he hpl) hdb)
  have b := hb s1 us I1.kIn (by rw [List.append_nil, ← r.length]; exact F.len _ _ _ _ q)
  rw [List.append_nil] at b
  refine wpAny_call (codeAny_mono (F.run X.A X.stack s1 H1 ⟨us, []⟩ us vs Q E0 hr I1.env0 b r q) fun r' s' hq => ?_)
  cases r' with
  | error e => exact False.elim hq
  | ok fl => cases fl with
    | ret u => exact I1.after hq
    | next => exact False.elim hq
    | brk => exact False.elim hq
    | cont => exact False.elim hq

/-! ### the end for such a law -/
theorem law_callG {P : Program} {w : World} {K : PySem.W.Frag} {mg mb : Str → Option Value} {k : Nat} {fa a : Addr} {fd : FuncData} {x : Str} {sp : Sp} {s₁ : Shared} {vs : List Value} {ns : List Int}
    (KX : K.In s₁.heap) (hns : s₁.heap.Ns mainGlobals mg) (hb : s₁.heap.Ns builtinsNs mb) (hbb : ∀ x : Str, x ≠ "__name__" → mb x = bootBuiltins x) (hlim : s₁.heap.NoLimit) (hg : s₁.gens = #[])
    (ha : s₁.heap.get? a = some { cls := .type "list", data := .seq vs.toArray }) (hi : IntsAre vs ns) (hl : ns.length ≤ sizeLine) (hr : RoomG k callerA)
    (F : ∀ base : Heap, K.In base → base.Ns mainGlobals mg → FnG P w K mg base k fa fd [x] sp) (hbind : ∀ (s : Shared) (u : Value), BindsTo s fd ⟨[u], []⟩ [(x, u)])
    (hsp : ∀ H : Hp, Only H → SqL K H a (ns.map V.int) → sp [.ref a] H (fun v _ => v = .bl true) fun _ _ _ => False) :
    codeAny (model P w) callerA (.call (.ref fa) ⟨[.ref a], []⟩) (fun r s' => r = .ok (.ret (.bool true)) ∧ OldK s₁.heap s'.heap ∧ s'.os = s₁.os ∧ AllBare s'.gens) s₁ := by
  have rv := vals_ints hi
  have lv := hi.length
  have go : ∀ H : Hp, Only H → SqL K H a (ns.map V.int) → HOk P w H s₁.heap → (∀ b u, H b = some u → b = a ∧ K.lookup a = none) →
      codeAny (model P w) callerA (.call (.ref fa) ⟨[.ref a], []⟩) (fun r s' => r = .ok (.ret (.bool true)) ∧ OldK s₁.heap s'.heap ∧ s'.os = s₁.os ∧ AllBare s'.gens) s₁ := by
    intro H hO hS hok hA
    have dicts : ∀ {b : Addr} {o : Obj} {es : Array DictEntry} {ep : Nat}, s₁.heap.get? b = some o → o.data = .dict es ep → H b = none := fun {b o es ep} e d => by
      cases q : H b with
      | none => rfl
      | some u =>
        obtain ⟨rfl, _⟩ := hA b u q
        rw [ha] at e
        cases e
        exact nomatch (show Data.seq vs.toArray _ = Data.dict es ep from d)
    have ns' : ∀ {b : Addr} {m : Str → Option Value}, s₁.heap.Ns b m → (hidT s₁.heap H).Ns b m := fun {b m} ⟨o, es, ep, e, d, r⟩ => ⟨o, es, ep, hidT_get e (dicts e d), d, r⟩
    have kin : K.In (hidT s₁.heap H) := fun b o e => hidT_get (KX b o e) (by
      cases q : H b with
      | none => rfl
      | some u =>
        obtain ⟨rfl, z⟩ := hA b u q
        rw [z] at e
        cases e)
    have e0 : Env0 P w K mg (hidT s₁.heap H) callerA [] s₁ H := ⟨rfl, ⟨kin, ns' hns, ⟨mb, ns' hb, hbb⟩, let ⟨mc, h1, h2⟩ := hlim; ⟨mc, ns' h1, h2⟩⟩, fun b o e => of_hidT e, Nat.le_of_eq (hidT_size _ _), trivial, fun b z => absurd (show b ∈ ([] : List Addr) from z) (by simp), hok, .of_eq hg⟩
    refine codeAny_mono ((F _ kin (ns' hns)).run callerA [] s₁ H ⟨[.ref a], []⟩ [.ref a] [.ref a] _ _ hr e0 (hbind s₁ (.ref a)) (.cons rfl .nil) (hsp H hO hS)) fun r s' h => ?_
    cases r with
    | error e => exact False.elim h
    | ok fl => cases fl with
      | next => exact False.elim h
      | brk => exact False.elim h
      | cont => exact False.elim h
      | ret u =>
        obtain ⟨v, H', os, bare, un, hok', r', q⟩ := h
        obtain rfl : v = .bl true := q
        obtain rfl : u = Value.bool true := r'
        refine ⟨rfl, OldK.of_keep fun b o e => ?_, os, bare⟩
        cases q : H b with
        | none => exact un.keep b o e q (fun z => nomatch z) (fun z => nomatch z)
        | some u =>
          rcases hO b with z | ⟨ob, xs, z⟩
          · rw [q] at z
            cases z
          · have e1 := (hok b _ z).1
            rw [e] at e1
            cases e1
            exact (hok' b _ (un.frzs b _ _ z)).1
  cases hk : K.lookup a with
  | some o =>
    have e := KX a o hk
    rw [ha] at e
    cases e
    exact go (fun _ => none) (fun _ => .inl rfl) (.inr ⟨_, vs.toArray, _, hk, rfl, rfl, rfl, by rw [List.size_toArray, lv]; exact hl, by simpa using rv⟩) (fun b u z => nomatch z) fun b u z => nomatch z
  | none =>
    have at_ : ∀ b u, (if b = a then some (HO.frz { cls := .type "list", data := .seq vs.toArray } (.lst (ns.map V.int))) else none) = some u → b = a ∧ u = HO.frz { cls := .type "list", data := .seq vs.toArray } (.lst (ns.map V.int)) := fun b u z => by
      by_cases h : b = a
      · rw [if_pos h] at z
        exact ⟨h, (Option.some.inj z).symm⟩
      · rw [if_neg h] at z
        cases z
    refine go (fun b => if b = a then some (.frz { cls := .type "list", data := .seq vs.toArray } (.lst (ns.map V.int))) else none) (fun b => ?_) (.inl (.inr ⟨_, if_pos rfl⟩)) (fun b u z => ?_) fun b u z => ⟨(at_ b u z).1, hk⟩
    · by_cases h : b = a
      · exact .inr ⟨_, _, if_pos h⟩
      · exact .inl (if_neg h)
    · obtain ⟨rfl, rfl⟩ := at_ b u z
      exact ⟨ha, by rw [List.length_map]; exact hl, vs, _, rv, ha⟩
theorem walk_ofR {l : PySem.W.OpenLaw} {n k : Nat} {q : Program} {loose : List Str} {lv : List (Str × PySem.W.WData)} {qp : Program} {YP : World → Heap → Prop} {d : DefRec} {K : Params → PySem.W.Frag} {sp : World → Sp} {x : Str}
    (hn : l.most = some n) (hn2 : n ≤ sizeLine) (hdf : d.params.defaults = []) (hr : RoomG k callerA) (hY : ∀ (w : World) (h : Heap), YP w h → (K w.params).In h)
    (F : ∀ (w : World) (mg : Str → Option Value) (fa : Addr) (h : Heap), (K w.params).In h → h.Ns mainGlobals mg → PySem.W.LooseAre lv mg h → mg d.name = some (.ref fa) →
      ∃ fd : FuncData, (∀ (s : Shared) (u : Value), BindsTo s fd ⟨[u], []⟩ [(x, u)]) ∧ ∀ base : Heap, (K w.params).In base → base.Ns mainGlobals mg → FnG l.prog w (K w.params) mg base k fa fd [x] (sp w))
    (hsp : ∀ (w : World) (H : Hp) (a : Addr) (ns : List Int), ns.length ≤ n → Only H → SqL (K w.params) H a (ns.map V.int) → sp w [.ref a] H (fun v _ => v = .bl true) fun _ _ _ => False) :
    PySem.W.WalkO q loose (PySem.W.XL qp lv) YP l.row.toRowW d [] (fun f vs => PySem.call f vs) := by
  refine Att.attach_callB hn hdf fun w s₀ s₁ mg mb fa o pm cd doc a vs ns G Y ho hd hcd hmg hobj hints hlen hbits hg => ?_
  obtain ⟨fd, hb, hF⟩ := F w mg fa _ (hY w _ Y) G.T.g G.X.2 hmg
  exact law_callG (hY w _ Y) G.T.g G.T.b G.T.builtins G.T.nolimit hg hobj hints (Nat.le_trans hlen hn2) hr hF hb fun H hO hS => hsp w H a ns hlen hO hS

/-! ### repr -/
def rRepr (K : PySem.W.Frag) : List V → Hp → VK → Prop := fun xs H Q => ∃ (v : V) (d : PyData), xs = [v] ∧ Dp K H v d ∧ d.showable = true ∧ d.hasDict = false ∧ d.depth ≤ 60 ∧ d.shown.length ≤ sizeLine ∧ Q (.str d.shown) H
theorem call_repr {X : Cx} (hg : X.A.guards = some []) (hu : X.A.units + 64 < cLine) : CallR X (.builtin "repr") (rRepr X.K) := by
  intro pins s σ H xs us Q I r h
  obtain ⟨v, d, rfl, D, hs, hD, hd, hz, q⟩ := h
  obtain ⟨u, rfl, ru⟩ := vals1 r
  cases D with
  | non => cases ru; exact PySem.P.repr_of_none ⟨.str _, H, I.tok _, ⟨_, rfl⟩, q⟩
  | bl b =>
    cases ru
    exact PySem.P.repr_of_bool ⟨.str _, H, I.tok _, ⟨_, rfl⟩, q⟩
  | int i =>
    obtain ⟨t, rfl⟩ := ru
    exact PySem.P.repr_of_int (of_decide_eq_true hs) ⟨.str _, H, I.tok _, ⟨_, rfl⟩, q⟩
  | str x =>
    obtain ⟨t, rfl⟩ := ru
    exact PySem.P.repr_of_str ⟨.str _, H, I.tok _, ⟨_, rfl⟩, q⟩ hz
  | @lst a ys ds h1 h2 =>
    cases ru
    obtain ⟨as, R⟩ := Dp.reads I (.list ds) (.ref a) (.ref a) (.lst h1 h2) rfl
    exact repr_of_reads' R hs (fun z => by rw [hD] at z; cases z) hg (by omega) (fun b o e => e) (fun h' u tk k => ⟨.str _, H, I.kept (t' := tk) k, ⟨_, rfl⟩, q⟩) hz
  | @tup a ys ds h1 h2 =>
    cases ru
    obtain ⟨as, R⟩ := Dp.reads I (.tuple ds) (.ref a) (.ref a) (.tup h1 h2) rfl
    exact repr_of_reads' R hs (fun z => by rw [hD] at z; cases z) hg (by omega) (fun b o e => e) (fun h' u tk k => ⟨.str _, H, I.kept (t' := tk) k, ⟨_, rfl⟩, q⟩) hz

/-! ### data that is small enough to be shown -/
mutual
/-- numbers of at most sixty figures, no texts, no dicts; at most n things, d deep -/
def Nice : PyData → Bool
  | .none => true
  | .bool _ => true
  | .int i => decide (i.natAbs < 10 ^ 60)
  | .str _ => false
  | .list l => NiceL l
  | .tuple l => NiceL l
  | .dict _ => false
def NiceL : List PyData → Bool
  | [] => true
  | d :: r => Nice d && NiceL r
end
mutual
def nodes : PyData → Nat
  | .list l => 1 + nodesL l
  | .tuple l => 1 + nodesL l
  | _ => 1
def nodesL : List PyData → Nat
  | [] => 0
  | d :: r => nodes d + nodesL r
end
theorem textFrom_le : ∀ (ts : List Str) (k : Nat) (acc : Str), (textFrom k acc ts).length ≤ acc.length + piled ts
  | [], k, acc => by simp [textFrom, piled]
  | t :: r, k, acc => by
    have e : (acc ++ (if k > 0 then ", " else "" : String) ++ t).length ≤ acc.length + 2 + t.length := by
      rw [strLen_append, strLen_append]
      have : ((if k > 0 then ", " else "" : String) : Str).length ≤ 2 := by split <;> decide
      omega
    have ih := textFrom_le r (k + 1) (acc ++ (if k > 0 then ", " else "" : String) ++ t)
    show (textFrom (k + 1) _ r).length ≤ _
    rw [piled_cons]
    omega
theorem listText_le (ts : List Str) : (listText ts).length ≤ 2 + piled ts := by
  have h := textFrom_le ts 0 "["
  unfold listText
  rw [strLen_append]
  have e1 : (("[" : String) : Str).length = 1 := rfl
  have e2 : (("]" : String) : Str).length = 1 := rfl
  omega
theorem tupleText_le (ts : List Str) : (tupleText ts).length ≤ 3 + piled ts := by
  unfold tupleText
  rw [strLen_append, strLen_append]
  have e1 : (("(" : String) : Str).length = 1 := rfl
  have e3 : (((if ts.length == 1 then ",)" else ")" : String) : Str)).length ≤ 2 := by split <;> decide
  have e2 : (Str.join ", " ts).length ≤ piled ts := by
    cases ts with
    | nil => decide
    | cons t r =>
      have := join_length_add (t :: r) (by simp)
      omega
  omega
mutual
theorem nice_show : ∀ d : PyData, Nice d = true → d.showable = true ∧ d.hasDict = false ∧ d.shown.length + 2 ≤ 100 * nodes d
  | .none, _ => ⟨rfl, rfl, by decide⟩
  | .bool b, _ => ⟨rfl, rfl, by cases b <;> decide⟩
  | .int i, h => by
    have h : i.natAbs < 10 ^ 60 := of_decide_eq_true h
    refine ⟨?_, rfl, ?_⟩
    · refine decide_eq_true ?_
      by_cases z : i.natAbs = 0
      · rw [z]; decide
      · exact (Nat.log2_lt z).mpr (Nat.lt_of_lt_of_le h (by decide +kernel))
    · have e := int_text_length_le10 (k := 60) (by decide) h
      have e2 : (PyData.shown (.int i)).length = (toString i).length := by
        show (Str.ofString (toString i)).length = _
        rw [PySem.ofString_length]
      rw [e2]
      show _ ≤ 100 * 1
      omega
  | .str _, h => nomatch h
  | .list l, h => by
    obtain ⟨h1, h2, h3⟩ := nice_showL l h
    refine ⟨h1, h2, ?_⟩
    have := listText_le (PyData.shownAll l)
    show (listText (PyData.shownAll l)).length + 2 ≤ 100 * (1 + nodesL l)
    omega
  | .tuple l, h => by
    obtain ⟨h1, h2, h3⟩ := nice_showL l h
    refine ⟨h1, h2, ?_⟩
    have := tupleText_le (PyData.shownAll l)
    show (tupleText (PyData.shownAll l)).length + 2 ≤ 100 * (1 + nodesL l)
    omega
  | .dict _, h => nomatch h
theorem nice_showL : ∀ l : List PyData, NiceL l = true → PyData.showableAll l = true ∧ PyData.hasDictAll l = false ∧ piled (PyData.shownAll l) ≤ 100 * nodesL l
  | [], _ => ⟨rfl, rfl, by decide⟩
  | d :: r, h => by
    have h : (Nice d && NiceL r) = true := h
    rw [Bool.and_eq_true] at h
    obtain ⟨a1, a2, a3⟩ := nice_show d h.1
    obtain ⟨b1, b2, b3⟩ := nice_showL r h.2
    refine ⟨?_, ?_, ?_⟩
    · show (d.showable && PyData.showableAll r) = true
      rw [a1, b1]
      rfl
    · show (d.hasDict || PyData.hasDictAll r) = false
      rw [a2, b2]
      rfl
    · show piled (d.shown :: PyData.shownAll r) ≤ 100 * (nodes d + nodesL r)
      rw [piled_cons]
      omega
end
/-- what repr asks, of nice data of at most 1,000 things -/
theorem repr_ok {K : PySem.W.Frag} {H : Hp} {v : V} {d : PyData} {Q : VK} (D : Dp K H v d) (n : Nice d = true) (h : nodes d ≤ 1000) (hd : d.depth ≤ 60) (q : Q (.str d.shown) H) : rRepr K [v] H Q := by
  obtain ⟨h1, h2, h3⟩ := nice_show d n
  exact ⟨v, d, rfl, D, h1, h2, hd, by rw [sizeLine_eq]; omega, q⟩
end Vf
set_option Elab.async false
set_option linter.all false
set_option maxRecDepth 100000
set_option maxHeartbeats 4000000
namespace Vf
open PySem PySem.Spec PyProof.Rows L2
/-! ### a tuple times one is the tuple itself -/
theorem tuple_mul1 (l : Addr) (items : Array Value) (n : Nat) (dd : Option Addr) (sl : Array (Option Value)) (u : Tok) :
    Meets (Builtin.«tuple.__mul__» ⟨[.ref l, .int 1 u], []⟩) (fun _ R s => s.heap.get? l = some { cls := .type "tuple", dict := dd, data := .seq items n, slots := sl } ∧ R (.ok (.ret (Value.ref l))) s) :=
  .of_wp fun prog w A R s h => by
    obtain ⟨hp, g, d, tk, os⟩ := s
    obtain ⟨hl, h⟩ := h
    have f1 := AutoSeq1.idx_int
    wp_walk using wpAny_loadPart' hl
    exact ⟨_, rfl, h⟩
/-- a tuple times a number from 1 on -/
def rRepU (K : PySem.W.Frag) : R2 := fun x y H Q => ∃ l k xs, x = .ref l ∧ y = .int k ∧ SqT K H l xs ∧ xs ≠ [] ∧ 1 ≤ k ∧ k ≤ 1000 ∧ xs.length ≤ 1000 ∧ ∀ (H' : Hp) (p : Addr), Same H H' → SqT K H' p (List.replicate k.toNat xs).flatten → Q (.ref p) H'
theorem op_repU {X : Cx} : OpR X (binaryOp .Mult) (rRepU X.K) := by
  intro pins s σ H x y v u Q I rx ry h
  obtain ⟨l, k, xs, rfl, rfl, hT, hne, h1, h2, hz, q⟩ := h
  by_cases e : k = 1
  · subst e
    cases rx
    obtain ⟨t, rfl⟩ := ry
    obtain ⟨its, r, ⟨⟨cls, dd, data, sl⟩, ho, hc, n, hd⟩, hs⟩ := I.tuple hT
    simp only at hc hd
    subst hc hd
    refine wpAny_binaryOp_repeat_ref (T := "tuple") (U := "int") (by decide) ⟨_, ho, rfl⟩ (fun s' => typeIs_int s' 1 t) noFill_tuple_mul F.fills_int_mul F.slot_int_rmul repeat_tuple F.slot_int_index.lookup
      (call_meets F.slot_int_rmul (typeIs_int s 1 t) F.entry_int_rmul (F.args_int_rmul_2 _ _) (int_rmul_tuple 1 t l its.toArray n dd sl)
        ⟨ho, rfl, ⟨_, ho, rfl⟩, call_meets F.slot_tuple_mul ⟨_, ho, rfl⟩ F.entry_tuple_mul (F.args_tuple_mul_2 _ _) (tuple_mul1 l its.toArray n dd sl t) ⟨ho, ?_⟩⟩)
    refine ⟨.ref l, H, I, rfl, q H l (Same.refl _) ?_⟩
    have e2 : (List.replicate (Int.toNat 1) xs).flatten = xs := by simp
    rw [e2]
    exact hT
  · exact op_repT pins s σ H _ _ v u Q I rx ry ⟨l, k, xs, rfl, rfl, hT, hne, by omega, h2, hz, fun p np => q _ p (same_upd np) (SqT.of upd_same)⟩
/-! ### the rules that name the written part, with it as a letter -/
section
variable {X : Cx} {K : PySem.W.Frag}
def rTupOf (K : PySem.W.Frag) : List V → Hp → VK → Prop := fun xs H Q => ∃ p ys, xs = [.ref p] ∧ ((SqL K H p ys ∧ ∀ l, H l = none → Q (.ref l) (upd H l (.tup ys))) ∨ (SqT K H p ys ∧ Q (.ref p) H))
def rLstOf (K : PySem.W.Frag) : List V → Hp → VK → Prop := fun xs H Q => ∃ p ys, xs = [.ref p] ∧ (SqL K H p ys ∨ SqT K H p ys) ∧ ∀ l, H l = none → Q (.ref l) (upd H l (.lst ys))
def rLenOf (K : PySem.W.Frag) : List V → Hp → VK → Prop := fun xs H Q => ∃ p ys, xs = [.ref p] ∧ (SqL K H p ys ∨ SqT K H p ys) ∧ Q (.int ys.length) H
theorem tuple_ofK (hK : X.K = K) : CallR X (.type "tuple") (rTupOf K) := by subst hK; exact call_tuple_of
theorem list_ofK (hK : X.K = K) : CallR X (.type "list") (rLstOf K) := by subst hK; exact call_list_of
theorem len_ofK (hK : X.K = K) : CallR X (.builtin "len") (rLenOf K) := by subst hK; exact call_len_seq
theorem ix_listK (hK : X.K = K) : IxR X (rIxL K) := by subst hK; exact ix_list
theorem ix_tupK (hK : X.K = K) : IxR X (rIxT K) := by subst hK; exact ix_tup
theorem isiK (hK : X.K = K) : CallR X (.builtin "isinstance") (rIsi K) := by subst hK; exact call_isi
theorem isiTK (hK : X.K = K) : CallR X (.builtin "isinstance") (rIsiT K) := by subst hK; exact call_isiT
theorem sumK (hK : X.K = K) (hc : X.calm = true) : CallR X (.builtin "sum") (rSum K) := by subst hK; exact cr_sum hc
theorem allK (hK : X.K = K) (hc : X.calm = true) : CallR X (.builtin "all") (rAll K) := by subst hK; exact cr_all hc
theorem reprK (hK : X.K = K) (hg : X.A.guards = some []) (hu : X.A.units + 64 < cLine) : CallR X (.builtin "repr") (rRepr K) := by subst hK; exact call_repr hg hu
theorem repUK (hK : X.K = K) : OpR X (binaryOp .Mult) (rRepU K) := by subst hK; exact op_repU
end
/-! ### for over a list or a tuple -/
def tForS (K : PySem.W.Frag) (tl : TE) (g : TG) (tb : TS) : TS := fun D σ H => tl σ H fun x H1 => ∃ (a : Addr) (xs : List V) (Pv : Nat → L2.St → Hp → Prop), x = .ref a ∧ SqV K H1 a xs ∧ Pv 0 σ H1 ∧
  (∀ i σ2 H2, i ≤ xs.length → Pv i σ2 H2 → (SqL K H1 a xs → SqL K H2 a xs) ∧ (SqT K H1 a xs → SqT K H2 a xs)) ∧
  (∀ i x σ2 H2, xs[i]? = some x → Pv i σ2 H2 → g x σ2 H2 fun σ3 H3 => tb { D with nx := Pv (i + 1), ct := Pv (i + 1), bk := D.nx } σ3 H3) ∧ (∀ σ2 H2, Pv xs.length σ2 H2 → D.nx σ2 H2)
theorem ps_forS {X : Cx} {tg l : Expr} {body : List Stmt} {tl : TE} {g : TG} {tb : TS} {pos : Pos} (hp : PassesOwn (model X.prog X.w) X.A X.env X.xe) (hc : X.calm = true) (hl : PE X l tl) (mo : MonoE tl) (hg : PG X tg g) (hb : PSs X body tb)
    (hs : ∀ x, foldedSetIterable l X.env x = pure x := by intro _; rfl) : PS X (.For tg l body [] pos) (tForS X.K tl g tb) := by
  refine ⟨fun pins s σ H D I h => (ps_for hp hc (pi_seq hl) hg hb hs).run pins s σ H D I (mo _ _ _ _ (fun x H1 q => ?_) h)⟩
  obtain ⟨a, xs, Pv, rfl, hS, h0, hk, hst, hd⟩ := q
  refine ⟨a, rfl, ?_⟩
  rcases hS with hS | hS
  · exact .inl ⟨⟨xs, hS⟩, for_list (K := X.K) (a := a) (xs := xs) (g := g) (tb := tb) (D := D) Pv h0 (fun i σ2 H2 hi p => (hk i σ2 H2 hi p).1 hS) hst hd⟩
  · exact .inr ⟨⟨xs, hS⟩, for_tup (K := X.K) (a := a) (xs := xs) (g := g) (tb := tb) (D := D) Pv h0 (fun i σ2 H2 hi p => (hk i σ2 H2 hi p).2 hS) hst hd⟩
theorem Kp.put {t b : Addr} {o : HO} {H H1 : Hp} (a : Kp t H H1) (n : H b = none) (nt : b ≠ t) : Kp t H (upd H1 b o) := ⟨fun c u e h => by rw [upd_ne (ne_of_none e n)]; exact a.1 c u e h, let ⟨m, e⟩ := a.2; ⟨m, by rw [upd_ne nt.symm]; exact e⟩⟩
section
variable {K : PySem.W.Frag} {H H' : Hp}
mutual
theorem dp_same (s : Same H H') : ∀ {v : V} {d : PyData}, Dp K H v d → Dp K H' v d
  | _, _, .non => .non
  | _, _, .bl b => .bl b
  | _, _, .int i => .int i
  | _, _, .str x => .str x
  | _, _, .lst h r => .lst (s.seq h) (dp_sameL s r)
  | _, _, .tup h r => .tup (Same.seqT s h) (dp_sameL s r)
theorem dp_sameL (s : Same H H') : ∀ {v : List V} {d : List PyData}, DpAll K H v d → DpAll K H' v d
  | _, _, .nil => .nil
  | _, _, .cons h r => .cons (dp_same s h) (dp_sameL s r)
end
end
end Vf
set_option Elab.async false
set_option linter.all false
set_option maxRecDepth 100000
set_option maxHeartbeats 4000000
namespace Vf
open PySem PySem.Spec PyProof.Rows L2
/-! ### methods by their names -/
structure Mth (P : Program) (w : World) (K : PySem.W.Frag) (mg : Str → Option Value) (base : Heap) (CX : CXT) (k : Nat) (C : Addr) (m : Str) (ps : List Str) (sp : Sp) : Prop where
  cl : Cls K C
  ex : ∃ (f : Addr) (fd : FuncData), Meth K C m f ∧ Binds K fd ps [] ∧ FnOk P w K mg base CX k f fd ps sp
def tMth (C : Addr) (m : Str) (sp : Sp) (E : XK) (ta : TE) (t : TA) : TE := fun σ H Q => ta σ H fun x H1 => ∃ a dx fs, x = .ref a ∧ H1 a = some (.ins C dx fs) ∧ fs.lookup m = none ∧ t σ H1 fun vs H2 => sp (x :: vs) H2 Q E
section
variable {X : Cx} {CX : CXT} {k : Nat} {C : Addr} {m : Str} {ps : List Str} {sp : Sp} {E : XK} {o e : Expr} {es : List Expr} {ta : TE} {t : TA} {apos pos : Pos}
theorem pe_mth {pl : Sem Bool} (c : Mth X.prog X.w X.K X.mg X.base CX k C m ps sp) (hr : Room k X.A) (hx : Passes CX X E) (he : PE X o ta) (ha : PA X (e :: es) t)
    (hst : starEach (e :: es) X.env = (false, eval e X.env) :: starEach es X.env := by rfl) (hpl : (backTo pos (starEach es X.env)).any (·.1) = false := by rfl)
    (ht : eval (.Call (.Attribute o m apos) (e :: es) [] pos) X.env = (do
      let ov ← eval o X.env
      standAt apos.atName
      let (f, first) ← holding [ov] (getMethod ov m pl)
      callWith pos f first (backTo pos (starEach (e :: es) X.env)) (backToKw pos (keywordEach [] X.env))) := by rfl) :
    PE X (.Call (.Attribute o m apos) (e :: es) [] pos) (tMth C m sp E ta t) := by
  obtain ⟨f, fd, hm, hb, F⟩ := c.ex
  exact (pe_meth (dvs := []) (pl := pl) he c.cl hm F hr hb .nil hx ha hst hpl ht).imp fun σ H Q q => by
    unfold tMeth
    simp only [List.append_nil]
    exact q
theorem pe_mth0 {pl : Sem Bool} (c : Mth X.prog X.w X.K X.mg X.base CX k C m ps sp) (hr : Room k X.A) (hx : Passes CX X E) (he : PE X o ta)
    (ht : eval (.Call (.Attribute o m apos) [] [] pos) X.env = (do
      let ov ← eval o X.env
      standAt apos.atName
      let (f, first) ← holding [ov] (getMethod ov m pl)
      callWith pos f first (backTo pos (starEach [] X.env)) (backToKw pos (keywordEach [] X.env))) := by rfl) :
    PE X (.Call (.Attribute o m apos) [] [] pos) (tMth C m sp E ta tNil) := by
  obtain ⟨f, fd, hm, hb, F⟩ := c.ex
  exact (pe_meth0 (dvs := []) (pl := pl) he c.cl hm F hr hb .nil hx ht).imp fun σ H Q q => by
    unfold tMeth
    simp only [List.append_nil]
    exact q
end
theorem Same.put {H H1 : Hp} {b : Addr} {o : HO} (s : Same H H1) (n : H b = none) : Same H (upd H1 b o) := fun c u e => by
  rw [upd_ne (ne_of_none e n)]
  exact s c u e
end Vf
set_option Elab.async false
set_option linter.all false
set_option maxRecDepth 100000
set_option maxHeartbeats 4000000
/-! zip of any number of lists and tuples. -/
namespace Vf
open PySem PySem.Spec PyProof.Rows L2
/-- a part of a zip: is it a list's, its iterator, what that goes through -/
structure Pt where
  b : Bool
  it : Addr
  l : Addr
def Pt.ic (p : Pt) : String := match p.b with
  | true => "list_iterator"
  | false => "tuple_iterator"
def Pt.sc (p : Pt) : String := match p.b with
  | true => "list"
  | false => "tuple"
def Pt.At (p : Pt) (h : Heap) (i : Nat) : Prop := ∃ o, h.get? p.it = some o ∧ o.cls = .type p.ic ∧ o.data = .fields #[.ref p.l, .int i 0]
def Pt.Src (p : Pt) (h : Heap) (vs : List Value) : Prop := ∃ o, h.get? p.l = some o ∧ o.cls = .type p.sc ∧ ∃ n, o.data = .seq vs.toArray n
theorem Pt.At.move {p : Pt} {h h' : Heap} {i : Nat} (a : p.At h i) (f : ∀ o, h.get? p.it = some o → h'.get? p.it = some o) : p.At h' i := let ⟨o, e, r⟩ := a; ⟨o, f o e, r⟩
theorem Pt.Src.move {p : Pt} {h h' : Heap} {vs : List Value} (a : p.Src h vs) (f : ∀ o, h.get? p.l = some o → h'.get? p.l = some o) : p.Src h' vs := let ⟨o, e, r⟩ := a; ⟨o, f o e, r⟩
section
variable {prog : Program} {w : World} {A : Around} {E : Value → Shared → Prop} {s : Shared}
theorem Pt.next {p : Pt} {i : Nat} {vs : List Value} {x : Value} {Q : Value → Shared → Prop} (a : p.At s.heap i) (c : p.Src s.heap vs) (hx : vs[i]? = some x)
    (hQ : ∀ h', p.At h' (i + 1) → Heap.SameBut p.it s.heap h' → Q x { s with heap := h' }) : wpAny (model prog w) A (Builtin.SmallTypes.nextOf (.ref p.it)) Q E s := by
  obtain ⟨b, it, l⟩ := p
  have hx' : vs.toArray[i]? = some x := by simpa using hx
  cases b with
  | true => exact wpAny_nextOf_list_item a c hx' hQ
  | false => exact RZ.nextOf_tuple_item a c hx' hQ
theorem Pt.stop {p : Pt} {i : Nat} {vs : List Value} {Q : Value → Shared → Prop} (hh : A.handled = none) (a : p.At s.heap i) (c : p.Src s.heap vs) (hx : vs[i]? = none)
    (hE : ∀ h' e, Heap.ExtBut p.it s.heap h' → (∃ o, h'.get? e = some o ∧ o.cls = .type "StopIteration") → E (.ref e) { s with heap := h' }) : wpAny (model prog w) A (Builtin.SmallTypes.nextOf (.ref p.it)) Q E s := by
  obtain ⟨b, it, l⟩ := p
  have hx' : vs.toArray[i]? = none := by simpa using hx
  cases b with
  | true => exact wpAny_nextOf_list_end hh a c hx' hE
  | false => exact RZ.nextOf_tuple_end hh a c hx' hE
end
/-- all these are apart -/
structure ZAp (z TI TO : Addr) (ps : List Pt) : Prop where
  TIz : TI ≠ z
  TOz : TO ≠ z
  TITO : TI ≠ TO
  i : ∀ p ∈ ps, p.it ≠ z ∧ p.it ≠ TI ∧ p.it ≠ TO
  l : ∀ p ∈ ps, p.l ≠ z ∧ p.l ≠ TO ∧ ∀ q ∈ ps, p.l ≠ q.it
  nd : (ps.map (·.it)).Nodup
abbrev ZO (h : Heap) (z TI TO : Addr) (f0 : Value) (f1 : Bool) : Prop := h.get? z = some { cls := .type "zip", dict := none, data := .fields #[f0, .bool f1, .bool false, .ref TI, .ref TO], slots := #[] }
abbrev TupIs (h : Heap) (T : Addr) (ys : Array Value) : Prop := h.get? T = some { cls := .type "tuple", data := .seq ys }
def Own0 (f0 : Value) : Prop := f0 = .none ∨ ∃ T : Nat, f0 = rawInt T
section
variable {prog : Program} {w : World} {A : Around} {E : Value → Shared → Prop} {s : Shared} {z TI TO : Addr} {f0 : Value} {f1 : Bool}
theorem alive_any {a : Addr} {Q : Option Obj → Shared → Prop} (h : Q (s.heap.get? a) s) : wpAny (model prog w) A (loadIfAlive a) Q E s := fun _ _ _ => h
theorem owned_free {Q : Bool → Shared → Prop} (hz : ZO s.heap z TI TO f0 f1) (hf0 : Own0 f0) (ht : Q true s) (hf : ∀ h', ZO h' z TI TO f0 true → Heap.SameBut z s.heap h' → Q false { s with heap := h' }) :
    wpAny (model prog w) A (Builtin.SmallTypes.ownedTupleIsFree (.ref z)) Q E s := by
  unfold Builtin.SmallTypes.ownedTupleIsFree
  refine wpAny_bind (wpAny_field hz rfl (x := f0) rfl ?_)
  rcases hf0 with rfl | ⟨T, rfl⟩
  · exact wpAny_pure ht
  · show wpAny _ _ (loadIfAlive ((T : Int).toNat) >>= _) _ _ _
    refine wpAny_bind (alive_any ?_)
    cases s.heap.get? ((T : Int).toNat) with
    | none => exact wpAny_pure ht
    | some o =>
      simp only [Option.isNone_some, Bool.false_eq_true, if_false]
      refine wpAny_bind (wpAny_field hz rfl (x := .bool f1) rfl ?_)
      cases f1 with
      | true => exact wpAny_pure (hf s.heap hz (Heap.SameBut.refl _ _))
      | false => exact wpAny_bind (wpAny_setField_rec hz (by simp) fun h1 hz1 hs1 => wpAny_pure (hf h1 hz1 hs1))
/-- what a turn leaves as it was -/
def Still (z TO : Addr) (ps : List Pt) (h h' : Heap) : Prop := ∀ c o, c ≠ z → c ≠ TO → (∀ p ∈ ps, c ≠ p.it) → h.get? c = some o → h'.get? c = some o
theorem wp_putSeq {T : Addr} {ys : Array Value} {k : Nat} {x : Value} {Q : Unit → Shared → Prop} (hT : TupIs s.heap T ys) (hy : ys.size ≤ sizeLine) (h : ∀ h', TupIs h' T (ys.setIfInBounds k x) → Heap.SameBut T s.heap h' → Q () { s with heap := h' }) :
    wpAny (model prog w) A (updateSeq T fun q => q.setIfInBounds k x) Q E s := by
  refine wpAny_updateSeq hT rfl (h _ ?_ (Heap.SameBut.update ..)) hy (by rw [Array.size_setIfInBounds]; omega)
  exact (Heap.get?_update_self _ hT rfl).trans (by simp [Obj.mapSeq])
/-- the parts in the midst of a turn: d are a step on, r not yet -/
structure ZMid (z TI TO : Addr) (ps : List Pt) (i : Nat) (h0 : Heap) (d r : List Pt) (h : Heap) : Prop where
  on : ∀ p ∈ d, p.At h (i + 1)
  off : ∀ p ∈ r, p.At h i
  size : h.objs.size = h0.objs.size
  still : Still z TO ps h0 h
theorem ZMid.start {ps : List Pt} {i : Nat} {h0 h : Heap} (D : ZAp z TI TO ps) (hat : ∀ p ∈ ps, p.At h0 i) (sb : Heap.SameBut z h0 h) : ZMid z TI TO ps i h0 [] ps h :=
  ⟨fun _ m => (nomatch m), fun p m => (hat p m).move fun o e => sb.extBut _ _ (D.i p m).1 e, sb.1, fun c o c1 _ _ e => sb.extBut _ _ c1 e⟩
theorem ZMid.step {ps d r : List Pt} {p : Pt} {i : Nat} {h0 h h' : Heap} (D : ZAp z TI TO ps) (e : ps = d ++ p :: r) (M : ZMid z TI TO ps i h0 d (p :: r) h) (a : p.At h' (i + 1)) (sb : Heap.SameBut p.it h h') : ZMid z TI TO ps i h0 (d ++ [p]) r h' := by
  have nd := D.nd
  rw [e, List.map_append, List.map_cons, List.nodup_append] at nd
  obtain ⟨_, n2, n3⟩ := nd
  rw [List.nodup_cons] at n2
  refine ⟨fun q m => ?_, fun q m => (M.off q (List.mem_cons_of_mem _ m)).move fun o x => sb.extBut _ _ (fun y => n2.1 (y ▸ List.mem_map_of_mem m)) x, sb.1.trans M.size, fun c o c1 c2 c3 x => sb.extBut _ _ (c3 p (by rw [e]; simp)) (M.still c o c1 c2 c3 x)⟩
  rcases List.mem_append.mp m with m | m
  · exact (M.on q m).move fun o x => sb.extBut _ _ (n3 _ (List.mem_map_of_mem m) _ List.mem_cons_self) x
  · obtain rfl : q = p := by simpa using m
    exact a
theorem ZMid.over {ps d r : List Pt} {i : Nat} {h0 h h' : Heap} (D : ZAp z TI TO ps) (hd : ∀ p ∈ d, p ∈ ps) (hr : ∀ p ∈ r, p ∈ ps) (M : ZMid z TI TO ps i h0 d r h) (sb : Heap.SameBut TO h h') : ZMid z TI TO ps i h0 d r h' :=
  ⟨fun q m => (M.on q m).move fun o x => sb.extBut _ _ (D.i q (hd q m)).2.2 x, fun q m => (M.off q m).move fun o x => sb.extBut _ _ (D.i q (hr q m)).2.2 x, sb.1.trans M.size, fun c o c1 c2 c3 x => sb.extBut _ _ c2 (M.still c o c1 c2 c3 x)⟩
theorem ZMid.src {ps d r : List Pt} {p : Pt} {i : Nat} {h0 h : Heap} {vs : List Value} (D : ZAp z TI TO ps) (hp : p ∈ ps) (M : ZMid z TI TO ps i h0 d r h) (c : p.Src h0 vs) : p.Src h vs :=
  c.move fun o e => M.still _ _ (D.l p hp).1 (D.l p hp).2.1 (D.l p hp).2.2 e
theorem take_set {ys : List Value} {dv : List Value} {v : Value} (h : ys.take dv.length = dv) (hl : dv.length < ys.length) : (ys.set dv.length v).take (dv ++ [v]).length = dv ++ [v] := by
  rw [List.length_append, List.length_singleton, List.take_add_one, List.take_set_of_le (Nat.le_refl _), h, List.getElem?_set_self hl]
  rfl
theorem zip_item {ps : List Pt} {vals : List Value} {i : Nat} {ys : Array Value} {Q : Value → Shared → Prop} (D : ZAp z TI TO ps) (hz : ZO s.heap z TI TO f0 f1) (hf0 : Own0 f0) (hTI : TupIs s.heap TI (ps.map fun p => Value.ref p.it).toArray) (hTO : TupIs s.heap TO ys) (hys : ys.size = ps.length)
    (hne : ps ≠ []) (hsz : ps.length ≤ sizeLine) (hat : ∀ p ∈ ps, p.At s.heap i) (hv : Paired (fun p v => ∃ vs, p.Src s.heap vs ∧ vs[i]? = some v) ps vals)
    (hQ : ∀ h' g0 g1 ys', ZO h' z TI TO g0 g1 → Own0 g0 → TupIs h' TO ys' → ys'.size = ps.length → (∀ p ∈ ps, p.At h' (i + 1)) → TupIs h' s.heap.objs.size vals.toArray → h'.objs.size = s.heap.objs.size + 1 → Still z TO ps s.heap h' → Q (.ref s.heap.objs.size) { s with heap := h' }) :
    wpAny (model prog w) A (Builtin.«zip.__next__» ⟨[.ref z], []⟩) (fun fin s' => ∃ v, fin = .done (.ret v) ∧ Q v s') E s := by
  show wpAny _ _ (field (.ref z) 2 >>= _) _ _ _
  refine wpAny_bind (wpAny_field hz rfl (x := .bool false) rfl ?_)
  show wpAny _ _ (field (.ref z) 3 >>= _) _ _ _
  refine wpAny_bind (wpAny_field hz rfl (x := .ref TI) rfl ?_)
  refine wpAny_bind (wpAny_seqItems hTI rfl ?_)
  have hem : (ps.map fun p => Value.ref p.it).toArray.isEmpty = false := by
    cases ps with
    | nil => exact absurd rfl hne
    | cons p r => simp
  simp only [hem, Bool.false_eq_true, if_false]
  have hvl : ps.length = vals.length := Paired.length hv
  refine wpAny_bind (owned_free hz hf0 ?_ fun h1 hz1 hs1 => ?_)
  · simp only [if_true]
    refine wpAny_bind (wpAny_rule (wpAny_bind (wpAny_field hz rfl (x := .ref TO) rfl ?_)))
    refine wpAny_bind (wpAny_setField_rec hz (by simp) fun h1 hz1 hs1 => ?_)
    replace hz1 : ZO h1 z TI TO .ellipsis f1 := hz1
    refine wpAny_bind (wpAny_forIn_list _ (fun rest b s' => ∃ (d r : List Pt) (dv rv : List Value) (ya : Array Value), b = (none, ()) ∧ s' = { s with heap := s'.heap } ∧ ps = d ++ r ∧ vals = dv ++ rv ∧ d.length = dv.length ∧ Paired (fun p v => ∃ vs, p.Src s.heap vs ∧ vs[i]? = some v) r rv ∧
      rest = (r.map fun p => Value.ref p.it).zipIdx d.length ∧ ZO s'.heap z TI TO .ellipsis f1 ∧ TupIs s'.heap TO ya ∧ ya.size = ps.length ∧ ya.toList.take dv.length = dv ∧ ZMid z TI TO ps i s.heap d r s'.heap) _ ?turn ?fin _ _ ?start)
    case start => exact ⟨[], ps, [], vals, ys, rfl, rfl, rfl, rfl, rfl, hv, rfl, hz1, hs1.extBut _ _ D.TOz hTO, hys, rfl, ZMid.start D hat hs1⟩
    case turn =>
      rintro x rest b s' ⟨d, r, dv, rv, ya, rfl, es, ep, ev, el, pr, er, hz2, hT2, hya, htk, M⟩
      cases pr with
      | nil => simp at er
      | @cons p v r rv hp pr =>
        obtain ⟨vs, hsrc, hvi⟩ := hp
        rw [List.map_cons, List.zipIdx_cons] at er
        obtain ⟨rfl, rfl⟩ := List.cons.inj er
        have pm : p ∈ ps := by rw [ep]; simp
        refine wpAny_bind (wpAny_onRaise ?_)
        show wpAny _ _ (Builtin.SmallTypes.nextOf (.ref p.it) >>= _) _ _ _
        refine wpAny_bind (Pt.next (M.off p List.mem_cons_self) (M.src D pm hsrc) hvi fun h3 a3 s3 => wpAny_pure ?_)
        have M3 := M.step D ep a3 s3
        have hT3 : TupIs h3 TO ya := s3.extBut _ _ (D.i p pm).2.2.symm hT2
        refine wpAny_bind (wpAny_seqItems hT3 rfl ?_)
        refine wpAny_bind (wp_putSeq (s := { s' with heap := h3 }) hT3 (by rw [hya]; exact hsz) fun h4 hT4 s4 => ?_)
        refine wpAny_bind (wpAny_letGo (wpAny_pure ?_))
        refine ⟨d ++ [p], r, dv ++ [v], rv, _, rfl, by rw [es], by rw [ep]; simp, by rw [ev]; simp, by simp [el], pr, by rw [List.length_append]; rfl, ?_, hT4, by rw [Array.size_setIfInBounds]; exact hya, ?_, M3.over D (fun q m => ?_) (fun q m => by rw [ep]; simp [m]) s4⟩
        · exact s4.extBut _ _ D.TOz.symm (s3.extBut _ _ (D.i p pm).1.symm hz2)
        · rw [Array.toList_setIfInBounds, el]
          refine take_set htk ?_
          have : ya.toList.length = ps.length := hya
          rw [this, ep, List.length_append, el, List.length_cons]
          omega
        · rcases List.mem_append.mp m with m | m
          · rw [ep]; simp [m]
          · obtain rfl : q = p := by simpa using m
            exact pm
    case fin =>
      rintro b s' ⟨d, r, dv, rv, ya, rfl, es, ep, ev, el, pr, er, hz2, hT2, hya, htk, M⟩
      obtain rfl : r = [] := by
        cases r with
        | nil => rfl
        | cons p r => simp at er
      cases pr
      rw [List.append_nil] at ep ev
      subst ep ev
      refine wpAny_bind (wpAny_seqItems hT2 rfl ?_)
      have hyv : ya.toList = vals := by
        rw [← htk, List.take_of_length_le (by rw [← hvl, ← hya]; exact Nat.le_refl _)]
      refine wpAny_bind (wpAny_newTuple ?_ (by rw [hyv, ← hvl]; exact hsz))
      rw [hyv]
      show wpAny _ _ (Builtin.SmallTypes.ownedTupleHandOut (.ref z) (.ref s'.heap.objs.size) >>= _) _ _ _
      refine wpAny_bind ?_
      unfold Builtin.SmallTypes.ownedTupleHandOut
      have hz3 : ZO (s'.heap.push { cls := .type "tuple", data := .seq vals.toArray }) z TI TO .ellipsis f1 := Heap.get?_push_of_some _ hz2
      refine wpAny_bind (wpAny_setField_rec hz3 (by simp) fun h5 hz5 hs5 => ?_)
      replace hz5 : ZO h5 z TI TO (rawInt s'.heap.objs.size) f1 := hz5
      refine wpAny_setField_rec hz5 (by simp) fun h6 hz6 hs6 => ?_
      replace hz6 : ZO h6 z TI TO (rawInt s'.heap.objs.size) false := hz6
      have up : ∀ c o, c ≠ z → s'.heap.get? c = some o → h6.get? c = some o := fun c o c1 e => hs6.extBut _ _ c1 (hs5.extBut _ _ c1 (Heap.get?_push_of_some _ e))
      have zlt : z < s'.heap.objs.size := Heap.lt_size hz2
      have hT6 : TupIs h6 s'.heap.objs.size vals.toArray := hs6.extBut _ _ (Nat.ne_of_gt zlt) (hs5.extBut _ _ (Nat.ne_of_gt zlt) (Heap.get?_push_size _ rfl))
      have hsz6 : h6.objs.size = s'.heap.objs.size + 1 := by rw [hs6.1, hs5.1, Heap.size_push]
      have hq := hQ h6 _ _ ya hz6 (.inr ⟨_, rfl⟩) (up _ _ D.TOz hT2) hya (fun p m => (M.on p m).move fun o e => up _ o (D.i p m).1 e) (by rw [← M.size]; exact hT6) (by rw [hsz6, M.size]) fun c o c1 c2 c3 e => up c o c1 (M.still c o c1 c2 c3 e)
      rw [← M.size] at hq
      refine wpAny_pure ⟨_, rfl, ?_⟩
      rw [es]
      exact hq
  · simp only [Bool.false_eq_true, if_false]
    refine wpAny_bind (MeetsSeq2.wpAny_forIn_array _ (fun rest b s' => ∃ (d r : List Pt) (dv rv : List Value), b = (none, dv.toArray) ∧ s' = { s with heap := s'.heap } ∧ ps = d ++ r ∧ vals = dv ++ rv ∧ d.length = dv.length ∧ Paired (fun p v => ∃ vs, p.Src s.heap vs ∧ vs[i]? = some v) r rv ∧
      rest = (r.map fun p => Value.ref p.it) ∧ ZO s'.heap z TI TO f0 true ∧ TupIs s'.heap TO ys ∧ ZMid z TI TO ps i s.heap d r s'.heap) _ ?turn ?fin _ _ ?start)
    case start => exact ⟨[], ps, [], vals, rfl, rfl, rfl, rfl, rfl, hv, by simp, hz1, hs1.extBut _ _ D.TOz hTO, ZMid.start D hat hs1⟩
    case turn =>
      rintro x rest b s' ⟨d, r, dv, rv, rfl, es, ep, ev, el, pr, er, hz2, hT2, M⟩
      cases pr with
      | nil => simp at er
      | @cons p v r rv hp pr =>
        obtain ⟨vs, hsrc, hvi⟩ := hp
        rw [List.map_cons] at er
        obtain ⟨rfl, rfl⟩ := List.cons.inj er
        have pm : p ∈ ps := by rw [ep]; simp
        refine wpAny_bind (wpAny_holding ?_)
        show wpAny _ _ (Builtin.SmallTypes.nextOf (.ref p.it) >>= _) _ _ _
        refine wpAny_bind (Pt.next (M.off p List.mem_cons_self) (M.src D pm hsrc) hvi fun h3 a3 s3 => wpAny_pure (wpAny_pure ?_))
        exact ⟨d ++ [p], r, dv ++ [v], rv, by simp, by rw [es], by rw [ep]; simp, by rw [ev]; simp, by simp [el], pr, rfl, s3.extBut _ _ (D.i p pm).1.symm hz2, s3.extBut _ _ (D.i p pm).2.2.symm hT2, M.step D ep a3 s3⟩
    case fin =>
      rintro b s' ⟨d, r, dv, rv, rfl, es, ep, ev, el, pr, er, hz2, hT2, M⟩
      obtain rfl : r = [] := by
        cases r with
        | nil => rfl
        | cons p r => simp at er
      cases pr
      rw [List.append_nil] at ep ev
      subst ep ev
      refine wpAny_bind (wpAny_newTuple ?_ (by show vals.length ≤ sizeLine; rw [← hvl]; exact hsz))
      refine wpAny_pure ⟨_, rfl, ?_⟩
      have hp : TupIs (s'.heap.push { cls := .type "tuple", data := .seq vals.toArray }) s'.heap.objs.size vals.toArray := Heap.get?_push_size _ rfl
      have hq := hQ _ _ _ ys (Heap.get?_push_of_some _ hz2) hf0 (Heap.get?_push_of_some _ hT2) hys (fun p m => (M.on p m).move fun o e => Heap.get?_push_of_some _ e) (by rw [← M.size]; exact hp) (by rw [Heap.size_push, M.size]) fun c o c1 c2 c3 e => Heap.get?_push_of_some _ (M.still c o c1 c2 c3 e)
      rw [← M.size] at hq
      rw [es]
      exact hq
theorem zip_end {p : Pt} {r : List Pt} {i : Nat} {ys : Array Value} {vs : List Value} {Q : PySem.Fin → Shared → Prop} (D : ZAp z TI TO (p :: r)) (hz : ZO s.heap z TI TO f0 f1) (hf0 : Own0 f0) (hTI : TupIs s.heap TI ((p :: r).map fun p => Value.ref p.it).toArray) (hTO : TupIs s.heap TO ys)
    (ha : p.At s.heap i) (hc : p.Src s.heap vs)
    (hend : ∀ (s2 : Shared) (Q2 : Value → Shared → Prop) (E2 : Value → Shared → Prop), Still z TO (p :: r) s.heap s2.heap → p.At s2.heap i → p.Src s2.heap vs → (∀ h' e, Heap.ExtBut p.it s2.heap h' → (∃ o, h'.get? e = some o ∧ o.cls = .type "StopIteration") → E2 (.ref e) { s2 with heap := h' }) →
      wpAny (model prog w) A (Builtin.SmallTypes.nextOf (.ref p.it)) Q2 E2 s2)
    (hE : ∀ h' e, Still z TO (p :: r) s.heap h' → (∃ o, h'.get? e = some o ∧ o.cls = .type "StopIteration") → E (.ref e) { s with heap := h' }) :
    wpAny (model prog w) A (Builtin.«zip.__next__» ⟨[.ref z], []⟩) Q E s := by
  show wpAny _ _ (field (.ref z) 2 >>= _) _ _ _
  refine wpAny_bind (wpAny_field hz rfl (x := .bool false) rfl ?_)
  show wpAny _ _ (field (.ref z) 3 >>= _) _ _ _
  refine wpAny_bind (wpAny_field hz rfl (x := .ref TI) rfl ?_)
  refine wpAny_bind (wpAny_seqItems hTI rfl ?_)
  have hem : ((p :: r).map fun p => Value.ref p.it).toArray.isEmpty = false := by simp
  simp only [hem, Bool.false_eq_true, if_false]
  have pm : p ∈ p :: r := List.mem_cons_self
  have st : ∀ {h1 : Heap}, Heap.SameBut z s.heap h1 → Still z TO (p :: r) s.heap h1 := fun sb c o c1 _ _ e => sb.extBut _ _ c1 e
  refine wpAny_bind (owned_free hz hf0 ?_ fun h1 hz1 hs1 => ?_)
  · simp only [if_true]
    refine wpAny_bind (wpAny_rule (wpAny_bind (wpAny_field hz rfl (x := .ref TO) rfl ?_)))
    refine wpAny_bind (wpAny_setField_rec hz (by simp) fun h1 hz1 hs1 => ?_)
    replace hz1 : ZO h1 z TI TO .ellipsis f1 := hz1
    refine wpAny_bind ?_
    simp only [List.map_cons, List.zipIdx_cons, List.forIn_cons]
    refine wpAny_bind (wpAny_bind (wpAny_onRaise ?_))
    show wpAny _ _ (Builtin.SmallTypes.nextOf (.ref p.it) >>= _) _ _ _
    refine wpAny_bind (hend { s with heap := h1 } _ _ (st hs1) (ha.move fun o e => hs1.extBut _ _ (D.i p pm).1 e) (hc.move fun o e => hs1.extBut _ _ (D.l p pm).1 e) fun h2 e hx he => ?_)
    obtain ⟨oe, hoe, hce⟩ := he
    have hz2 : ZO h2 z TI TO .ellipsis f1 := hx _ _ (D.i p pm).1.symm hz1
    have hez : e ≠ z := fun x => by
      subst x
      rw [hz2] at hoe
      cases hoe
      simp at hce
    exact wpAny_setField_rec hz2 (by simp) fun h3 _ hs3 => hE h3 e (fun c o c1 c2 c3 x => hs3.extBut _ _ c1 (hx _ _ (c3 p pm) (hs1.extBut _ _ c1 x))) ⟨oe, hs3.extBut _ _ hez hoe, hce⟩
  · simp only [Bool.false_eq_true, if_false]
    refine wpAny_bind ?_
    rw [← Array.forIn_toList]
    simp only [List.map_cons, List.forIn_cons]
    refine wpAny_bind (wpAny_bind (wpAny_holding ?_))
    show wpAny _ _ (Builtin.SmallTypes.nextOf (.ref p.it) >>= _) _ _ _
    refine wpAny_bind (hend { s with heap := h1 } _ _ (st hs1) (ha.move fun o e => hs1.extBut _ _ (D.i p pm).1 e) (hc.move fun o e => hs1.extBut _ _ (D.l p pm).1 e) fun h2 e hx he => ?_)
    exact hE h2 e (fun c o c1 c2 c3 x => hx _ _ (c3 p pm) (hs1.extBut _ _ c1 x)) he
theorem pyNext_zip {ps : List Pt} {vals : List Value} {i : Nat} {ys : Array Value} {Q : Option Value → Shared → Prop} (D : ZAp z TI TO ps) (hz : ZO s.heap z TI TO f0 f1) (hf0 : Own0 f0) (hTI : TupIs s.heap TI (ps.map fun p => Value.ref p.it).toArray) (hTO : TupIs s.heap TO ys) (hys : ys.size = ps.length)
    (hne : ps ≠ []) (hsz : ps.length ≤ sizeLine) (hat : ∀ p ∈ ps, p.At s.heap i) (hv : Paired (fun p v => ∃ vs, p.Src s.heap vs ∧ vs[i]? = some v) ps vals)
    (hQ : ∀ h' g0 g1 ys', ZO h' z TI TO g0 g1 → Own0 g0 → TupIs h' TO ys' → ys'.size = ps.length → (∀ p ∈ ps, p.At h' (i + 1)) → TupIs h' s.heap.objs.size vals.toArray → h'.objs.size = s.heap.objs.size + 1 → Still z TO ps s.heap h' → Q (some (.ref s.heap.objs.size)) { s with heap := h' }) :
    wpAny (model prog w) A (pyNext (.ref z)) Q E s := by
  have hT : s.TypeIs (.ref z) "zip" := ⟨_, hz, rfl⟩
  unfold pyNext
  exact wpAny_bind (wpAny_attempt (wpAny_callSpecial?_slot (name := Str.ofString "__next__") hT F.slot_zip_next (wpAny_call_entry F.slot_zip_next hT F.entry_zip_next
    (zip_item D hz hf0 hTI hTO hys hne hsz hat hv fun h' g0 g1 y a1 a2 a3 a4 a5 a6 a7 a8 => wpAny_pure (hQ h' g0 g1 y a1 a2 a3 a4 a5 a6 a7 a8)) (F.args_zip_next_1 _))))
theorem pyNext_zipEnd {p : Pt} {r : List Pt} {i : Nat} {ys : Array Value} {vs : List Value} {Q : Option Value → Shared → Prop} (D : ZAp z TI TO (p :: r)) (hz : ZO s.heap z TI TO f0 f1) (hf0 : Own0 f0) (hTI : TupIs s.heap TI ((p :: r).map fun p => Value.ref p.it).toArray) (hTO : TupIs s.heap TO ys)
    (ha : p.At s.heap i) (hc : p.Src s.heap vs)
    (hend : ∀ (s2 : Shared) (Q2 : Value → Shared → Prop) (E2 : Value → Shared → Prop), Still z TO (p :: r) s.heap s2.heap → p.At s2.heap i → p.Src s2.heap vs → (∀ h' e, Heap.ExtBut p.it s2.heap h' → (∃ o, h'.get? e = some o ∧ o.cls = .type "StopIteration") → E2 (.ref e) { s2 with heap := h' }) →
      wpAny (model prog w) A.in1 (Builtin.SmallTypes.nextOf (.ref p.it)) Q2 E2 s2)
    (hQ : ∀ h', Still z TO (p :: r) s.heap h' → Q none { s with heap := h' }) : wpAny (model prog w) A (pyNext (.ref z)) Q E s := by
  have hT : s.TypeIs (.ref z) "zip" := ⟨_, hz, rfl⟩
  unfold pyNext
  refine wpAny_bind (wpAny_attempt (wpAny_callSpecial?_slot (name := Str.ofString "__next__") hT F.slot_zip_next (wpAny_call_entry F.slot_zip_next hT F.entry_zip_next
    (zip_end D hz hf0 hTI hTO ha hc hend fun h' e hk he => ?_) (F.args_zip_next_1 _))))
  obtain ⟨o, ho, hoc⟩ := he
  exact wpAny_bind (wpAny_isInstance (T := "StopIteration") (b := true) ⟨o, ho, hoc⟩ isSubtype_stop (wpAny_pure (hQ _ hk)))
theorem go_zip {tg : Expr} {T : Addr} {Q : Unit → Shared → Prop} (hz : ZO s.heap z TI TO f0 f1) (hQ : ∀ h' g0, ZO h' z TI TO g0 f1 → (g0 = f0 ∨ g0 = .none) → Heap.SameBut z s.heap h' → Q () { s with heap := h' }) :
    wpAny (model prog w) A (letOwnedTupleGo tg (.ref z) (.ref T)) Q E s := by
  have same : Q () s := hQ s.heap f0 hz (.inl rfl) (Heap.SameBut.refl _ _)
  unfold letOwnedTupleGo
  cases tg <;> first
    | exact wpAny_pure same
    | (refine wpAny_bind (wpAny_load hz ?_)
       show wpAny _ _ (if _ then _ else _) Q E s
       split
       · exact wpAny_bind (wpAny_rule (wpAny_setField_rec hz (by simp) fun h' hz' hs' => hQ h' _ hz' (.inr rfl) hs'))
       · exact wpAny_pure same)
theorem iter_zip {Q : Value → Shared → Prop} (hz : ZO s.heap z TI TO f0 f1) (h : Q (.ref z) s) : wpAny (model prog w) A (pyIter (.ref z)) Q E s := by
  have hT : s.TypeIs (.ref z) "zip" := ⟨_, hz, rfl⟩
  refine wpAny_pyIter_slot hT F.slot_zip_iter (wpAny_call_entry F.slot_zip_iter hT F.entry_zip_iter ?_ (F.args_zip_iter_1 _))
  show wpAny _ _ (ret (.ref z)) _ _ s
  exact wpAny_pure ⟨_, rfl, "zip", _, hT, F.slot_zip_next.lookup, h⟩
end
end Vf
set_option Elab.async false
set_option linter.all false
set_option maxRecDepth 100000
set_option maxHeartbeats 4000000
namespace Vf
open PySem PySem.Spec PyProof.Rows L2
theorem typeCall_zip (l : List Value) : checkTypeCall "zip" ⟨l, []⟩ = pure () := by kernel_rfl
theorem newCall_z1 (a : Value) : checkBuiltinCall "zip.__new__" ⟨.type "zip" :: [a], []⟩ = pure () := by kernel_rfl
theorem newCall_z2 (a b : Value) : checkBuiltinCall "zip.__new__" ⟨.type "zip" :: [a, b], []⟩ = pure () := by kernel_rfl
theorem newCall_z3 (a b c : Value) : checkBuiltinCall "zip.__new__" ⟨.type "zip" :: [a, b, c], []⟩ = pure () := by kernel_rfl
theorem newCall_z4 (a b c d : Value) : checkBuiltinCall "zip.__new__" ⟨.type "zip" :: [a, b, c, d], []⟩ = pure () := by kernel_rfl
theorem newCall_z5 (a b c d e : Value) : checkBuiltinCall "zip.__new__" ⟨.type "zip" :: [a, b, c, d, e], []⟩ = pure () := by kernel_rfl
theorem newCall_z6 (a b c d e f : Value) : checkBuiltinCall "zip.__new__" ⟨.type "zip" :: [a, b, c, d, e, f], []⟩ = pure () := by kernel_rfl
theorem newCall_zip : ∀ l : List Value, l ≠ [] → l.length ≤ 6 → checkBuiltinCall "zip.__new__" ⟨.type "zip" :: l, []⟩ = pure ()
  | [], h, _ => absurd rfl h
  | [a], _, _ => newCall_z1 a
  | [a, b], _, _ => newCall_z2 a b
  | [a, b, c], _, _ => newCall_z3 a b c
  | [a, b, c, d], _, _ => newCall_z4 a b c d
  | [a, b, c, d, e], _, _ => newCall_z5 a b c d e
  | [a, b, c, d, e, f], _, _ => newCall_z6 a b c d e f
  | a :: b :: c :: d :: e :: f :: g :: r, _, h => absurd h (by simp)
theorem args_oinit (o : Value) (l : List Value) : argsOk "object.__init__" ⟨o :: l, []⟩ := by
  unfold argsOk
  rw [signature?_of (id := "object.__init__") (n := ['_', '_', 't', 'i', 'n', 'i', '_', '_']) (o := ['t', 'c', 'e', 'j', 'b', 'o']) (by kernel_rfl) F.owner_object]
  kernel_rfl
end Vf
set_option Elab.async false
set_option linter.all false
set_option maxRecDepth 100000
set_option maxHeartbeats 4000000
/-! zip of any number of lists and tuples: the turns, the making, the rules. -/
namespace Vf
open PySem PySem.Spec PyProof.Rows L2
/-! ### the making -/
/-- the parts of a new zip: the iterators stand from n on -/
def ptsFrom : Nat → List (Bool × Addr) → List Pt
  | _, [] => []
  | n, q :: r => ⟨q.1, n, q.2⟩ :: ptsFrom (n + 1) r
theorem ptsFrom_length : ∀ (n : Nat) (ls : List (Bool × Addr)), (ptsFrom n ls).length = ls.length
  | _, [] => rfl
  | n, _ :: r => congrArg (· + 1) (ptsFrom_length (n + 1) r)
theorem ptsFrom_mem : ∀ {n : Nat} {ls : List (Bool × Addr)} {p : Pt}, p ∈ ptsFrom n ls → @LE.le Nat _ n p.it ∧ @LT.lt Nat _ p.it (n + ls.length) ∧ (p.b, p.l) ∈ ls
  | _, [], _, h => nomatch h
  | n, q :: r, p, h => by
    rcases List.mem_cons.mp h with rfl | h
    · exact ⟨Nat.le_refl _, by simp, by simp⟩
    · obtain ⟨h1, h2, h3⟩ := ptsFrom_mem h
      have e : (q :: r).length = r.length + 1 := rfl
      exact ⟨by omega, by rw [e]; omega, List.mem_cons_of_mem _ h3⟩
theorem ptsFrom_nodup : ∀ (n : Nat) (ls : List (Bool × Addr)), ((ptsFrom n ls).map (·.it)).Nodup
  | _, [] => List.nodup_nil
  | n, q :: r => by
    show (n :: (ptsFrom (n + 1) r).map (·.it)).Nodup
    rw [List.nodup_cons]
    refine ⟨fun h => ?_, ptsFrom_nodup (n + 1) r⟩
    obtain ⟨p, hp, e⟩ := List.mem_map.mp h
    have h1 := (ptsFrom_mem hp).1
    have e : p.it = n := e
    omega
theorem ptsFrom_append : ∀ (n : Nat) (d r : List (Bool × Addr)), ptsFrom n (d ++ r) = ptsFrom n d ++ ptsFrom (n + d.length) r
  | _, [], _ => rfl
  | n, q :: d, r => by
    show _ :: ptsFrom (n + 1) (d ++ r) = _ :: (ptsFrom (n + 1) d ++ _)
    rw [ptsFrom_append (n + 1) d r, List.length_cons]
    congr 3
    omega
theorem ptsFrom_src : ∀ (n : Nat) (ls : List (Bool × Addr)), (ptsFrom n ls).map (fun p => (p.b, p.l)) = ls
  | _, [] => rfl
  | n, q :: r => by
    show (q.1, q.2) :: _ = _
    rw [ptsFrom_src (n + 1) r]
def SrcB (h : Heap) (q : Bool × Addr) : Prop := ∃ vs, (Pt.mk q.1 0 q.2).Src h vs
section
variable {prog : Program} {w : World} {A : Around} {E : Value → Shared → Prop} {s : Shared}
theorem iter_src {q : Bool × Addr} {Q : Value → Shared → Prop} (h : SrcB s.heap q) (hQ : ∀ h', (Pt.mk q.1 s.heap.objs.size q.2).At h' 0 → h'.objs.size = s.heap.objs.size + 1 → (∀ c o, s.heap.get? c = some o → h'.get? c = some o) → Q (.ref s.heap.objs.size) { s with heap := h' }) :
    wpAny (model prog w) A (pyIter (.ref q.2)) Q E s := by
  obtain ⟨b, l⟩ := q
  obtain ⟨vs, hs⟩ := h
  cases b with
  | true => exact wpAny_pyIter_list hs (hQ _ ⟨_, Heap.get?_push_size _ rfl, rfl, rfl⟩ (Heap.size_push ..) fun _ _ e => Heap.get?_push_of_some _ e)
  | false => exact wpAny_pyIter_tuple hs (hQ _ ⟨_, Heap.get?_push_size _ rfl, rfl, rfl⟩ (Heap.size_push ..) fun _ _ e => Heap.get?_push_of_some _ e)
/-- what a new zip has -/
structure ZNew (n : Nat) (ls : List (Bool × Addr)) (h h' : Heap) : Prop where
  at_ : ∀ p ∈ ptsFrom n ls, p.At h' 0
  ti : TupIs h' (n + ls.length) ((ptsFrom n ls).map fun p => Value.ref p.it).toArray
  to : TupIs h' (n + ls.length + 1) (List.replicate ls.length Value.none).toArray
  zo : ZO h' (n + ls.length + 2) (n + ls.length) (n + ls.length + 1) .none false
  keep : ∀ c o, h.get? c = some o → h'.get? c = some o
theorem zip_new {ls : List (Bool × Addr)} {Q : Value → Shared → Prop} (hs : ∀ q ∈ ls, SrcB s.heap q) (hz : ls.length ≤ sizeLine) (hQ : ∀ h', ZNew s.heap.objs.size ls s.heap h' → Q (.ref (s.heap.objs.size + ls.length + 2)) { s with heap := h' }) :
    wpAny (model prog w) A (Builtin.«zip.__new__» ⟨.type "zip" :: ls.map (fun q => Value.ref q.2), []⟩) (fun fin s' => ∃ v, fin = .done (.ret v) ∧ Q v s') E s := by
  unfold Builtin.«zip.__new__» Builtin.SmallTypes.newClass
  have hsub := sub_zip
  wp_walk using wpAny_forIn_list _ (fun rest b s' => ∃ d r : List (Bool × Addr), ls = d ++ r ∧ rest = r.map (fun q => Value.ref q.2) ∧ b = ((ptsFrom s.heap.objs.size d).map fun p => Value.ref p.it).toArray ∧ s' = { s with heap := s'.heap } ∧ s'.heap.objs.size = s.heap.objs.size + d.length ∧ (∀ p ∈ ptsFrom s.heap.objs.size d, p.At s'.heap 0) ∧ ∀ c o, s.heap.get? c = some o → s'.heap.get? c = some o) _
  case turn =>
    rintro x rest b s' ⟨d, r, e, er, rfl, es, sz, ha, hk⟩
    cases r with
    | nil => simp at er
    | cons q r =>
      rw [List.map_cons] at er
      obtain ⟨rfl, rfl⟩ := List.cons.inj er
      refine wpAny_bind (wpAny_holding (iter_src (by
        obtain ⟨vs, hv⟩ := hs q (by rw [e]; simp)
        exact ⟨vs, hv.move fun o x => hk _ _ x⟩) fun h2 a2 z2 k2 => wpAny_pure ?_))
      refine ⟨d ++ [q], r, by rw [e]; simp, rfl, ?_, by rw [es], by rw [List.length_append, List.length_singleton, z2, sz, Nat.add_assoc], fun p hp => ?_, fun c o x => k2 _ _ (hk c o x)⟩
      · rw [ptsFrom_append, List.map_append, sz]
        simp [ptsFrom]
      · rw [ptsFrom_append] at hp
        rcases List.mem_append.mp hp with hp | hp
        · exact (ha p hp).move fun o x => k2 _ _ x
        · obtain rfl : p = _ := by simpa [ptsFrom] using hp
          rw [← sz]
          exact a2
  case fin =>
    rintro b s' ⟨d, r, e, er, rfl, es, sz, ha, hk⟩
    obtain rfl : r = [] := by
      cases r with
      | nil => rfl
      | cons q r => simp at er
    rw [List.append_nil] at e
    subst e
    obtain ⟨hp, g, dr, tk, os⟩ := s'
    simp only [Shared.mk.injEq] at es
    obtain ⟨-, rfl, rfl, rfl, rfl⟩ := es
    show wpAny _ _ (pure _) _ _ _
    refine wpAny_pure ?_
    have hl : (List.map (fun p => Value.ref p.it) (ptsFrom s.heap.objs.size ls)).length = ls.length := by rw [List.length_map, ptsFrom_length]
    have hn : List.map (fun _ : Value => Value.none) (List.map (fun p => Value.ref p.it) (ptsFrom s.heap.objs.size ls)) = List.replicate ls.length Value.none := by
      rw [List.map_const', hl]
    rw [List.toList_toArray, hn]
    refine wpAny_bind (wpAny_newTuple ?_ (by rw [hl]; exact hz))
    refine wpAny_bind (wpAny_newTuple ?_ (by rw [List.length_replicate]; exact hz))
    refine wpAny_bind ?_
    unfold Builtin.SmallTypes.newRecord
    refine wpAny_newObj_type (wpAny_pure ⟨_, rfl, ?_⟩) (show (5 : Nat) ≤ sizeLine + 2 by decide)
    have sz : hp.objs.size = s.heap.objs.size + ls.length := sz
    have z1 : (hp.push { cls := .type "tuple", data := .seq (List.map (fun p => Value.ref p.it) (ptsFrom s.heap.objs.size ls)).toArray }).objs.size = s.heap.objs.size + ls.length + 1 := by rw [Heap.size_push, sz]
    have z2 : ((hp.push { cls := .type "tuple", data := .seq (List.map (fun p => Value.ref p.it) (ptsFrom s.heap.objs.size ls)).toArray }).push { cls := .type "tuple", data := .seq (List.replicate ls.length Value.none).toArray }).objs.size = s.heap.objs.size + ls.length + 2 := by rw [Heap.size_push, z1]
    have up : ∀ {o1 o2 o3 : Obj} c o, hp.get? c = some o → (((hp.push o1).push o2).push o3).get? c = some o := fun c o e => Heap.get?_push_of_some _ (Heap.get?_push_of_some _ (Heap.get?_push_of_some _ e))
    show Q (.ref ((hp.push _).push _).objs.size) _
    refine (congrArg (fun n => Q (.ref n) _) z2.symm).mp (hQ _ ⟨fun p m => (ha p m).move fun o e => up _ _ e, ?_, ?_, ?_, fun c o e => up _ _ (hk c o e)⟩)
    · rw [← sz]
      exact Heap.get?_push_of_some _ (Heap.get?_push_of_some _ (Heap.get?_push_size _ rfl))
    · rw [← z1]
      exact Heap.get?_push_of_some _ (Heap.get?_push_size _ rfl)
    · rw [← z2, ← z1, ← sz]
      exact Heap.get?_push_size _ rfl
  case h => exact ⟨[], ls, rfl, rfl, rfl, rfl, rfl, fun _ h => (nomatch h), fun _ _ e => e⟩
theorem call_zip {ls : List (Bool × Addr)} {Q : Value → Shared → Prop} (hs : ∀ q ∈ ls, SrcB s.heap q) (hne : ls ≠ []) (hz : ls.length ≤ 6) (hQ : ∀ h', ZNew s.heap.objs.size ls s.heap h' → Q (.ref (s.heap.objs.size + ls.length + 2)) { s with heap := h' }) :
    wpAny (model prog w) A (call (.type "zip") (ls.map fun q => Value.ref q.2)) Q E s := by
  refine callType_new (S := fun _ R s' => s' = s ∧ ∀ h', ZNew s.heap.objs.size ls s.heap h' → R (.ok (.ret (.ref (s.heap.objs.size + ls.length + 2)))) { s with heap := h' }) F.called_zip (by decide) (typeCall_zip _) (newCall_zip _ (by simpa using hne) (by rw [List.length_map]; exact hz)) (fun obj => args_oinit obj _) F.entry_zip_new
    (.of_wp fun prog w A R s' h => ?_) ⟨rfl, fun h' N => ⟨⟨_, N.zo, rfl⟩, hQ h' N⟩⟩
  obtain ⟨rfl, h⟩ := h
  exact zip_new (Q := fun v s1 => R (.ok (.ret v)) s1) hs (Nat.le_trans hz (by decide)) h
end
/-! ### the turns -/
def SqB (K : PySem.W.Frag) (H : Hp) (q : Bool × Addr) (xs : List V) : Prop := match q.1 with
  | true => SqL K H q.2 xs
  | false => SqT K H q.2 xs
theorem SqB.same {K : PySem.W.Frag} {H H' : Hp} {q : Bool × Addr} {xs : List V} (s : Same H H') (h : SqB K H q xs) : SqB K H' q xs := by
  obtain ⟨b, a⟩ := q
  cases b with
  | true => exact s.seq h
  | false => exact Same.seqT s h
theorem SqV.toB {K : PySem.W.Frag} {H : Hp} {a : Addr} {xs : List V} (h : SqV K H a xs) : ∃ b, SqB K H (b, a) xs := h.elim (fun z => ⟨true, z⟩) fun z => ⟨false, z⟩
/-- these lists and tuples as they stand at each turn, the items in new tuples; alike in length -/
def ItN (K : PySem.W.Frag) (ls : List (Bool × Addr)) : It :=
  ⟨fun i H => ∃ xss : List (List V), Paired (SqB K H) ls xss ∧ ∀ xs ∈ xss, i < xs.length,
    fun i H v H' => ∃ T ys, v = .ref T ∧ H T = none ∧ H' = upd H T (.tup ys) ∧ ∀ xss, Paired (SqB K H) ls xss → Paired (fun (xs : List V) y => xs[i]? = some y) xss ys,
    fun i H => ∃ q r xs, ls = q :: r ∧ SqB K H q xs ∧ xs.length ≤ i⟩
theorem Paired.uniq {α β : Type} {G : α → β → Prop} (u : ∀ a b b', G a b → G a b' → b = b') : ∀ {l : List α} {m m' : List β}, Paired G l m → Paired G l m' → m = m'
  | _, _, _, .nil, .nil => rfl
  | _, _, _, .cons h r, .cons h' r' => by rw [u _ _ _ h h', Paired.uniq u r r']
section
variable {X : Cx} {pins : List (Addr × Obj)} {σ : L2.St} {H : Hp} {s : Shared}
theorem sqB_src (I : Inv X pins σ H s) {q : Bool × Addr} {n : Addr} {xs : List V} (h : SqB X.K H q xs) : ∃ us, Vals xs us ∧ (Pt.mk q.1 n q.2).Src s.heap us := by
  obtain ⟨b, a⟩ := q
  cases b with
  | true =>
    obtain ⟨its, rv, p, _⟩ := I.list h
    exact ⟨its, rv, p.isList⟩
  | false =>
    obtain ⟨its, rv, p, _⟩ := I.tuple h
    exact ⟨its, rv, p⟩
theorem sqB_inj (I : Inv X pins σ H s) {q : Bool × Addr} {xs ys : List V} (h : SqB X.K H q xs) (h' : SqB X.K H q ys) : xs = ys := by
  obtain ⟨b, a⟩ := q
  cases b with
  | true => exact I.list_inj h h'
  | false => exact I.tuple_inj h h'
/-- the items of a turn -/
theorem zip_vals (I : Inv X pins σ H s) {i : Nat} : ∀ {ps : List Pt} {xss : List (List V)}, Paired (SqB X.K H) (ps.map fun p => (p.b, p.l)) xss → (∀ xs ∈ xss, i < xs.length) →
    ∃ (ys : List V) (us : List Value), Vals ys us ∧ Paired (fun p v => ∃ vs, p.Src s.heap vs ∧ vs[i]? = some v) ps us ∧ Paired (fun (xs : List V) y => xs[i]? = some y) xss ys
  | [], _, .nil, _ => ⟨[], [], .nil, .nil, .nil⟩
  | p :: ps, _, .cons (b := xs) h r, hi => by
    obtain ⟨ys, us, r1, r2, r3⟩ := zip_vals I r fun x hx => hi x (List.mem_cons_of_mem _ hx)
    obtain ⟨vs, rv, hs⟩ := sqB_src (n := p.it) I h
    obtain ⟨u, hu, ru⟩ := rv.get (List.getElem?_eq_getElem (hi xs List.mem_cons_self))
    exact ⟨_ :: ys, u :: us, .cons ru r1, .cons ⟨vs, hs, hu⟩ r2, .cons (List.getElem?_eq_getElem _) r3⟩
end
theorem turn_zipN {P : Program} {w : World} {K : PySem.W.Frag} {tg : Expr} {z TI TO : Addr} {ps : List Pt} (D : ZAp z TI TO ps) (hsz : ps.length ≤ sizeLine) (hne : ps ≠ []) :
    Turn P w K tg (ItN K (ps.map fun p => (p.b, p.l))) (z :: TI :: TO :: ps.map (·.it)) z
      (fun i h => ∃ g0 g1 ys, ZO h z TI TO g0 g1 ∧ Own0 g0 ∧ TupIs h TI (ps.map fun p => Value.ref p.it).toArray ∧ TupIs h TO ys ∧ ys.size = ps.length ∧ ∀ p ∈ ps, p.At h i) where
  mem := List.mem_cons_self
  obj := fun i h st c hc => by
    obtain ⟨g0, g1, ys, hz, _, hTI, hTO, _, hat⟩ := st
    rcases List.mem_cons.mp hc with rfl | hc
    · exact ⟨_, hz, fun v q => nomatch q⟩
    rcases List.mem_cons.mp hc with rfl | hc
    · exact ⟨_, hTI, fun v q => nomatch q⟩
    rcases List.mem_cons.mp hc with rfl | hc
    · exact ⟨_, hTO, fun v q => nomatch q⟩
    obtain ⟨p, hp, rfl⟩ := List.mem_map.mp hc
    obtain ⟨o, e, _, d⟩ := hat p hp
    exact ⟨o, e, fun v q => by rw [d] at q; cases q⟩
  keep := fun i h h' st k => by
    obtain ⟨g0, g1, ys, hz, ho, hTI, hTO, hys, hat⟩ := st
    exact ⟨g0, g1, ys, k z (by simp) _ hz, ho, k TI (by simp) _ hTI, k TO (by simp) _ hTO, hys, fun p hp => (hat p hp).move fun o e => k _ (by simp; exact .inr (.inr (.inr ⟨p, hp, rfl⟩))) o e⟩
  item := by
    intro X hP hw hK hc i pins s σ H E I hf st hg
    subst hP hw hK
    obtain ⟨g0, g1, ya, hz, ho, hTI, hTO, hya, hat⟩ := st
    obtain ⟨xss, pr, hi⟩ := hg
    obtain ⟨ys, us, rv, hv, hy⟩ := zip_vals I pr hi
    have hus : ps.length = us.length := Paired.length hv
    have zlt : z < s.heap.objs.size := Heap.lt_size hz
    refine pyNext_zip D hz ho hTI hTO hya hne hsz hat hv fun h1 k0 k1 yb z1 o1 t1 y1 a1 T1 s1 st1 => ⟨_, rfl, go_zip (s := { s with heap := h1 }) z1 fun h2 m0 z2 o2 sb => ?_⟩
    have hT2 : TupIs h2 s.heap.objs.size us.toArray := (sb.2 _ (Nat.ne_of_gt zlt)).trans T1
    have new : ObjOk X.prog X.w (upd H s.heap.objs.size (.tup ys)) h2 s.heap.objs.size (.tup ys) := ⟨by rw [rv.length, ← hus]; exact hsz, us, rv, ⟨_, hT2, rfl, _, rfl⟩⟩
    have up : ∀ c o, c ∉ z :: TI :: TO :: ps.map (·.it) → s.heap.get? c = some o → h2.get? c = some o := fun c o hb e => by
      have hcz : c ≠ z := fun q => hb (by simp [q])
      exact (sb.2 c hcz).trans (st1 c o hcz (fun q => hb (by simp [q])) (fun p hp q => hb (by simp; exact .inr (.inr (.inr ⟨p, hp, q.symm⟩)))) e)
    have I1 : Inv X pins σ (upd H s.heap.objs.size (.tup ys)) { s with heap := h2 } := I.turnedNew (t' := s.toks) (ch := z :: TI :: TO :: ps.map (·.it)) up hf (Nat.le_refl _) new
    refine ⟨.ref s.heap.objs.size, _, I1, rfl, ⟨_, ys, rfl, I.hok.fresh (Nat.le_refl _), rfl, fun yss pr' => ?_⟩, ⟨m0, k1, yb, z2, ?_, ?_, ?_, y1, fun p hp => (a1 p hp).move fun o e => (sb.2 _ (D.i p hp).1).trans e⟩, fun c hcm => ?_⟩
    · obtain rfl : yss = xss := Paired.uniq (G := SqB X.K H) (fun a b b' h h' => sqB_inj I h h') pr' pr
      exact hy
    · rcases o2 with rfl | rfl
      · exact o1
      · exact .inl rfl
    · exact (sb.2 _ D.TIz).trans (st1 _ _ D.TIz D.TITO (fun p hp => (D.i p hp).2.1.symm) hTI)
    · exact (sb.2 _ D.TOz).trans t1
    · have hlt : c < s.heap.objs.size := by
        rcases List.mem_cons.mp hcm with rfl | hcm
        · exact zlt
        rcases List.mem_cons.mp hcm with rfl | hcm
        · exact Heap.lt_size hTI
        rcases List.mem_cons.mp hcm with rfl | hcm
        · exact Heap.lt_size hTO
        obtain ⟨p, hp, rfl⟩ := List.mem_map.mp hcm
        obtain ⟨o, e, _⟩ := hat p hp
        exact Heap.lt_size e
      rw [upd_ne (Nat.ne_of_lt hlt)]
      exact (hf c hcm).1
  done := by
    intro X hP hw hK hc i pins s σ H E I hf st hg
    subst hP hw hK
    obtain ⟨g0, g1, ya, hz, ho, hTI, hTO, hya, hat⟩ := st
    obtain ⟨q, r, xs, e, hq, hl⟩ := hg
    cases ps with
    | nil => exact absurd rfl hne
    | cons p ps =>
      obtain ⟨rfl, rfl⟩ := List.cons.inj e
      obtain ⟨vs, rv, hs⟩ := sqB_src (n := p.it) I hq
      have hx : vs[i]? = none := List.getElem?_eq_none (by rw [← rv.length]; exact hl)
      refine pyNext_zipEnd D hz ho hTI hTO (hat p List.mem_cons_self) hs (fun s2 Q2 E2 _ a c h => Pt.stop (show X.A.in1.handled = none from I.ok.hd hc) a c hx h) fun h' st' => ⟨rfl, I.turnedL (t' := s.toks) (ch := z :: TI :: TO :: (p :: ps).map (·.it)) (fun c o hb q => ?_) hf⟩
      exact st' c o (fun y => hb (by simp [y])) (fun y => hb (by simp [y])) (fun p' hp y => hb (List.mem_cons_of_mem _ (List.mem_cons_of_mem _ (List.mem_cons_of_mem _ (y ▸ List.mem_map_of_mem hp))))) q
  self := fun A i s Q E st h => let ⟨_, _, _, hz, _⟩ := st; iter_zip hz h
/-! ### the rules -/
theorem zap_new {n : Nat} {ls : List (Bool × Addr)} (h : ∀ q ∈ ls, q.2 < n) : ZAp (n + ls.length + 2) (n + ls.length) (n + ls.length + 1) (ptsFrom n ls) := by
  have key : ∀ p ∈ ptsFrom n ls, @LE.le Nat _ n p.it ∧ @LT.lt Nat _ p.it (n + ls.length) ∧ @LT.lt Nat _ p.l n := fun p hp => let ⟨a, b, c⟩ := ptsFrom_mem hp; ⟨a, b, h _ c⟩
  refine ⟨fun z => ?_, fun z => ?_, fun z => ?_, fun p hp => ⟨fun z => ?_, fun z => ?_, fun z => ?_⟩, fun p hp => ⟨fun z => ?_, fun z => ?_, fun q hq z => ?_⟩, ptsFrom_nodup n ls⟩
  · have z : n + ls.length = n + ls.length + 2 := z
    omega
  · have z : n + ls.length + 1 = n + ls.length + 2 := z
    omega
  · have z : n + ls.length = n + ls.length + 1 := z
    omega
  · have := key p hp
    have z : @Eq Nat p.it (n + ls.length + 2) := z
    omega
  · have := key p hp
    have z : @Eq Nat p.it (n + ls.length) := z
    omega
  · have := key p hp
    have z : @Eq Nat p.it (n + ls.length + 1) := z
    omega
  · have := key p hp
    have z : @Eq Nat p.l (n + ls.length + 2) := z
    omega
  · have := key p hp
    have z : @Eq Nat p.l (n + ls.length + 1) := z
    omega
  · have := key p hp
    have := key q hq
    have z : @Eq Nat p.l (q.it) := z
    omega
def ZipR (K : PySem.W.Frag) (ls : List (Bool × Addr)) (H : Hp) : Prop := ls ≠ [] ∧ ls.length ≤ 6 ∧ ∀ q ∈ ls, ∃ xs, SqB K H q xs
/-- a zip made, and its iterator -/
theorem zip_made {X : Cx} {tg : Expr} {pins : List (Addr × Obj)} {σ : L2.St} {H : Hp} {s : Shared} {R : It → Hp → Prop} {ls : List (Bool × Addr)} (I : Inv X pins σ H s) (h : ZipR X.K ls H) (q : R (ItN X.K ls) H) :
    wpAny (model X.prog X.w) X.A (call (.type "zip") (ls.map fun q => Value.ref q.2)) (fun v s1 => wpAny (model X.prog X.w) X.A (pyIter v) (PIE X pins σ tg R) X.xe s1) X.xe s := by
  obtain ⟨h1, h2, h3⟩ := h
  have src : ∀ q ∈ ls, SrcB s.heap q := fun q hq => by
    obtain ⟨xs, hx⟩ := h3 q hq
    obtain ⟨us, _, hs⟩ := sqB_src (n := 0) I hx
    exact ⟨us, hs⟩
  have low : ∀ q ∈ ls, q.2 < s.heap.objs.size := fun q hq => by
    obtain ⟨us, o, e, _⟩ := src q hq
    exact Heap.lt_size e
  have ne : ptsFrom s.heap.objs.size ls ≠ [] := fun z => h1 (by
    have := ptsFrom_length s.heap.objs.size ls
    rw [z] at this
    exact List.length_eq_zero_iff.mp this.symm)
  refine call_zip src h1 h2 fun h' N => iter_zip N.zo ?_
  have I2 : Inv X pins σ H { s with heap := h' } := I.kept (t' := s.toks) N.keep
  have T := turn_zipN (P := X.prog) (w := X.w) (K := X.K) (tg := tg) (zap_new low) (by rw [ptsFrom_length]; exact Nat.le_trans h2 (by decide)) ne
  rw [ptsFrom_src] at T
  refine ⟨_, _, _, _, H, rfl, I2, T, ⟨.none, false, _, N.zo, .inl rfl, N.ti, N.to, by rw [List.size_toArray, List.length_replicate, ptsFrom_length], N.at_⟩, fun b hb => ?_, q⟩
  have hle : @LE.le Nat _ s.heap.objs.size b := by
    rcases List.mem_cons.mp hb with rfl | hb
    · show s.heap.objs.size ≤ s.heap.objs.size + ls.length + 2
      omega
    rcases List.mem_cons.mp hb with rfl | hb
    · show s.heap.objs.size ≤ s.heap.objs.size + ls.length
      omega
    rcases List.mem_cons.mp hb with rfl | hb
    · show s.heap.objs.size ≤ s.heap.objs.size + ls.length + 1
      omega
    obtain ⟨p, hp, rfl⟩ := List.mem_map.mp hb
    exact (ptsFrom_mem hp).1
  exact I.fpOk hle (I.hok.fresh hle)
theorem refs_of : ∀ {ls : List (Bool × Addr)} {us : List Value}, Vals (ls.map fun q => V.ref q.2) us → us = ls.map fun q => Value.ref q.2
  | [], _, r => by cases r; rfl
  | q :: ls, _, r => by
    cases r with
    | cons h r => rw [List.map_cons, show _ = Value.ref q.2 from h, refs_of r]
def iZipN (K : PySem.W.Frag) (ta : TA) : TI := fun σ H R => ta σ H fun vs H1 => ∃ ls : List (Bool × Addr), vs = ls.map (fun q => V.ref q.2) ∧ ZipR K ls H1 ∧ R (ItN K ls) H1
theorem pi_zipN {X : Cx} {tg e : Expr} {es : List Expr} {ta : TA} {p pos : Pos} (hg : Gl X "zip") (hm : X.mg "zip" = none) (ha : PA X (e :: es) ta) (hs : starEach (e :: es) X.env = (false, eval e X.env) :: starEach es X.env := by rfl) (hpl : (backTo pos (starEach es X.env)).any (·.1) = false := by rfl) :
    PI X tg (.Call (.Name "zip" p) (e :: es) [] pos) (iZipN X.K ta) := by
  refine ⟨fun pins s σ H R I h => ?_⟩
  refine Call_ (ld_blt I hg hm PyProof.Rows.boot_zip (PyProof.Rows.callWith_type1 (thn (ha.run pos pins s σ H _ I h) fun us s1 ⟨vs, H1, I1, r1, ls, ev, hz, q⟩ => ?_) hs hpl))
  subst ev
  rw [refs_of r1]
  exact zip_made I1 hz q
def iZipS (K : PySem.W.Frag) (te : TE) : TI := fun σ H R => te σ H fun x H1 => ∃ (a : Addr) (ls : List (Bool × Addr)), x = .ref a ∧ (SqT K H1 a (ls.map fun q => V.ref q.2) ∨ SqL K H1 a (ls.map fun q => V.ref q.2)) ∧ ZipR K ls H1 ∧ R (ItN K ls) H1
theorem pi_zipS {X : Cx} {tg e : Expr} {te : TE} {p sp pos : Pos} (hg : Gl X "zip") (hm : X.mg "zip" = none) (he : PE X e te) (hs : starEach [.Starred e sp] X.env = [(true, eval e X.env)] := by rfl) :
    PI X tg (.Call (.Name "zip" p) [.Starred e sp] [] pos) (iZipS X.K te) := by
  refine ⟨fun pins s σ H R I h => ?_⟩
  refine Call_ (ld_blt I hg hm PyProof.Rows.boot_zip ?_)
  rw [hs]
  refine PySem.W.ks_call (P := fun _ => True) rfl (fun h _ => ?_) (PySem.W.ks_lone (thn (he.run pins s σ H _ I h) fun v s1 ⟨x, H1, I1, r1, a, ls, ev, hx, hz, q⟩ => ?_))
  · exact ⟨.machine, .inr (.inl rfl), fun _ _ _ _ _ q => wpAny_pure q⟩
  · subst ev
    obtain rfl : v = Value.ref a := r1
    exact StX.star_any I1 hx fun us s2 I2 rv => ⟨trivial, by rw [refs_of rv]; exact zip_made I2 hz q⟩
/-! ### walks -/
theorem lc_zipN {K : PySem.W.Frag} {ls : List (Bool × Addr)} {xss : List (List V)} {n : Nat} {g : TG} {tt : TT} {te : TE} {vs : List Nat} {σ : L2.St} {H1 : Hp} {D : Addr} {Qd : Hp → Prop} (hn : ∀ xs ∈ xss, xs.length = n) (hls : ls ≠ []) (Pv : Nat → Hp → Prop) (h0 : Pv 0 (upd H1 D (.lst []))) (hq : ∀ i H, i ≤ n → Pv i H → Paired (SqB K H) ls xss)
    (hs : ∀ i T ys H, i < n → Paired (fun (xs : List V) y => xs[i]? = some y) xss ys → Pv i H → H T = none → g (.ref T) (wipe σ vs) (upd H T (.tup ys)) fun σ2 H2 => wipe σ2 vs = wipe σ vs ∧ tt σ2 H2 fun b H3 =>
      if b = true then te σ2 H3 fun y H4 => ∃ acc, H4 D = some (.lst acc) ∧ acc.length < sizeLine ∧ Pv (i + 1) (upd H4 D (.lst (acc ++ [y]))) else Pv (i + 1) H3) (hd : ∀ H, Pv n H → Qd H) :
    ∃ W : Nat → Nat → Hp → Prop, (∃ m, W 0 m (upd H1 D (.lst []))) ∧ ∀ i m H, W i m H →
      ((ItN K ls).stop i H ∧ Qd H) ∨ ((ItN K ls).go i H ∧ ∃ Nx : Hp → Prop, (∀ H', Nx H' → ∃ m', m' < m ∧ W (i + 1) m' H') ∧ ∀ x H', (ItN K ls).yld i H x H' → g x (wipe σ vs) H' fun σ2 H2 => wipe σ2 vs = wipe σ vs ∧ tt σ2 H2 fun b H3 =>
        if b = true then te σ2 H3 fun y H4 => ∃ acc, H4 D = some (.lst acc) ∧ acc.length < sizeLine ∧ Nx (upd H4 D (.lst (acc ++ [y]))) else Nx H3) := by
  refine ⟨fun i m H => m = n - i ∧ i ≤ n ∧ Pv i H, ⟨n, by simp, Nat.zero_le _, h0⟩, ?_⟩
  rintro i m H ⟨rfl, hi, p⟩
  have pr := hq i H hi p
  by_cases hlt : i < n
  · refine .inr ⟨⟨xss, pr, fun xs hx => by rw [hn xs hx]; exact hlt⟩, Pv (i + 1), fun H' p' => ⟨n - (i + 1), by omega, rfl, hlt, p'⟩, fun x H' y => ?_⟩
    obtain ⟨T, ys, rfl, nT, rfl, f⟩ := y
    exact hs i T ys H hlt (f xss pr) p nT
  · obtain rfl : i = n := by omega
    cases pr with
    | nil => exact absurd rfl hls
    | cons h r => exact .inl ⟨⟨_, _, _, rfl, h, Nat.le_of_eq (hn _ List.mem_cons_self)⟩, hd H p⟩
theorem for_zipN {K : PySem.W.Frag} {ls : List (Bool × Addr)} {xss : List (List V)} {n : Nat} {g : TG} {tb : TS} {D : Ends} {σ : L2.St} {H : Hp} (hn : ∀ xs ∈ xss, xs.length = n) (hls : ls ≠ []) (Pv : Nat → L2.St → Hp → Prop) (h0 : Pv 0 σ H) (hq : ∀ i σ H, i ≤ n → Pv i σ H → Paired (SqB K H) ls xss)
    (hs : ∀ i T ys σ H, i < n → Paired (fun (xs : List V) y => xs[i]? = some y) xss ys → Pv i σ H → H T = none → g (.ref T) σ (upd H T (.tup ys)) fun σ2 H2 => tb { D with nx := Pv (i + 1), ct := Pv (i + 1), bk := D.nx } σ2 H2) (hd : ∀ σ H, Pv n σ H → D.nx σ H) :
    ∃ W : Nat → Nat → L2.St → Hp → Prop, (∃ m, W 0 m σ H) ∧ ∀ i m σ H, W i m σ H →
      ((ItN K ls).stop i H ∧ D.nx σ H) ∨ ((ItN K ls).go i H ∧ ∃ N : L2.St → Hp → Prop, (∀ σ' H', N σ' H' → ∃ m', m' < m ∧ W (i + 1) m' σ' H') ∧ ∀ x H', (ItN K ls).yld i H x H' → g x σ H' fun σ2 H2 => tb { D with nx := N, ct := N, bk := D.nx } σ2 H2) := by
  refine ⟨fun i m σ H => m = n - i ∧ i ≤ n ∧ Pv i σ H, ⟨n, by simp, Nat.zero_le _, h0⟩, ?_⟩
  rintro i m σ H ⟨rfl, hi, p⟩
  have pr := hq i σ H hi p
  by_cases hlt : i < n
  · refine .inr ⟨⟨xss, pr, fun xs hx => by rw [hn xs hx]; exact hlt⟩, Pv (i + 1), fun σ' H' p' => ⟨n - (i + 1), by omega, rfl, hlt, p'⟩, fun x H' y => ?_⟩
    obtain ⟨T, ys, rfl, nT, rfl, f⟩ := y
    exact hs i T ys σ H hlt (f xss pr) p nT
  · obtain rfl : i = n := by omega
    cases pr with
    | nil => exact absurd rfl hls
    | cons h r => exact .inl ⟨⟨_, _, _, rfl, h, Nat.le_of_eq (hn _ List.mem_cons_self)⟩, hd σ H p⟩
end Vf
set_option Elab.async false
set_option linter.all false
set_option maxRecDepth 100000
set_option maxHeartbeats 4000000
/-! list(reversed(a list)) -/
namespace Vf
open PySem PySem.Spec PyProof.Rows L2
abbrev RevAcc (its : Array Value) (acc : Array Value) : Prop := ItemsOf (fun i v => its[its.size - 1 - i]? = some v) acc its.size
section
variable {prog : Program} {w : World} {A : Around} {E : Value → Shared → Prop} {s : Shared} {I l S : Addr} {its : Array Value}
theorem ext_rev {R : Result → Shared → Prop} {r : Value} (hh : A.handled = none) (hI : s.heap.IsRevIter I l ((its.size : Int) - 1)) (hl : s.heap.IsList l its) (nI : l ≠ I) (SI : S ≠ I) (Sl : S ≠ l) (hn : its.size ≤ sizeLine) {c : Nat}
    (hS : s.heap.get? S = some { cls := .type "list", data := .seq #[] c }) (hR : ∀ h' tk acc c', (∀ b o, b ≠ S → b ≠ I → s.heap.get? b = some o → h'.get? b = some o) → h'.get? S = some { cls := .type "list", dict := none, data := .seq acc c', slots := #[] } → RevAcc its acc → R (.ok (.ret r)) { s with heap := h', toks := tk }) :
    wpAny (model prog w) A.in1 (Builtin.List.listExtendWith (.ref S) (.ref I) r)
      (fun fin s' => match fin with | .done f => R (.ok f) s' | .again c' => c'.quiet = true ∧ codeAny (model prog w) A c' R s') (fun e s' => R (.error e) s') s := by
  have Wk := (Walks.listRev (prog := prog) (w := w) (A := A.in1) hh I l nI its).toS
  have nf : S ∉ [I, l] := by simp [SI, Sl]
  have ty := Heap.IsRevIter.typeIs (s := s) hI
  have ns : Builtin.List.listSameRef (.ref S) (.ref I) = false := by simp [Builtin.List.listSameRef, SI]
  unfold Builtin.List.listExtendWith
  refine wpAny_bind (wpAny_typeOf ty ?_)
  rw [if_neg (by rw [ns]; decide)]
  refine wpAny_bind (wpAny_pyIter_revIter hI (wpAny_bind (wpAny_holding ?_)))
  unfold Builtin.List.listLengthHint
  refine wpAny_bind (wpAny_specialOf ty RT.nolen_lri ?_)
  show wpAny _ A.in1 (specialOf _ (Str.ofString "__length_hint__") >>= _) _ _ _
  refine wpAny_bind (wpAny_specialOf ty RT.hint_lri ?_)
  generalize hid : ("list_reverseiterator.__length_hint__" : String) = nm
  wp_delta
  rw [show splitId nm = some ("list_reverseiterator", "__length_hint__") by subst hid; decide +kernel]
  subst hid
  refine wpAny_bind (wpAny_isInstance (b := true) ty (by rw [isSubtype_type]; kernel_rfl) (wpAny_pure ?_))
  rw [if_neg (by decide)]
  have e0 : ((its.size : Nat) : Int) - 1 - ((0 : Nat) : Int) = (its.size : Int) - 1 := by omega
  refine wpAny_pure ⟨plainId_quiet F.plain_extend_loop _, codeAny_extend_loopS Wk hn _ nf _ its.size 0 _ _ _ rfl (Nat.zero_le _) ⟨Nat.zero_le _, (by rw [e0]; exact hI), hl⟩ hS (ItemsOf.nil _) fun s2 acc c2 mv hS2 hacc => ?_⟩
  rw [Moved.eq_with mv]
  refine hR s2.heap s2.toks acc c2 (fun b o b1 b2 e => mv.heap b o (fun m => ?_) e) hS2 hacc
  rcases List.mem_cons.mp m with z | m
  · exact b1 z
  · exact b2 (List.mem_singleton.mp m)
theorem init_rev {R : Result → Shared → Prop} (hh : A.handled = none) (hI : s.heap.IsRevIter I l ((its.size : Int) - 1)) (hl : s.heap.IsList l its) (nI : l ≠ I) (SI : S ≠ I) (Sl : S ≠ l) (hn : its.size ≤ sizeLine)
    (hS : s.heap.get? S = some { cls := .type "list", data := .seq #[] }) (hR : ∀ h' tk acc c', (∀ b o, b ≠ S → b ≠ I → s.heap.get? b = some o → h'.get? b = some o) → h'.get? S = some { cls := .type "list", dict := none, data := .seq acc c', slots := #[] } → RevAcc its acc → R (.ok (.ret .none)) { s with heap := h', toks := tk }) :
    wpAny (model prog w) A.in1 (Builtin.«list.__init__» ⟨[.ref S, .ref I], []⟩)
      (fun fin s' => match fin with | .done f => R (.ok f) s' | .again c' => c'.quiet = true ∧ codeAny (model prog w) A c' R s') (fun e s' => R (.error e) s') s := by
  show wpAny _ _ (do let old ← Builtin.List.listItems (.ref S); Builtin.List.listUpdate (.ref S) (fun _ => #[]); letGo old.toList.reverse; Builtin.List.listExtendWith (.ref S) (.ref I) .none) _ _ s
  refine wpAny_bind ?_
  unfold Builtin.List.listItems
  refine wpAny_bind (wpAny_seqItems hS rfl (wpAny_pure ?_))
  show wpAny _ _ (updateSeq S (fun _ => #[]) >>= fun _ => letGo (#[] : Array Value).toList.reverse >>= fun _ => Builtin.List.listExtendWith (.ref S) (.ref I) .none) _ _ s
  refine wpAny_bind (wpAny_updateSeq hS rfl (wpAny_bind (wpAny_letGo ?_)))
  have other : ∀ b o, b ≠ S → s.heap.get? b = some o → (s.heap.update S (Obj.mapSeq fun _ => (#[] : Array Value))).get? b = some o := fun b o hb e => (Heap.get?_update_other _ _ (Ne.symm hb)).trans e
  obtain ⟨ol, hol, cl⟩ := id hl
  refine ext_rev (s := { s with heap := s.heap.update S (Obj.mapSeq fun _ => (#[] : Array Value)) }) hh (hI.at fun o e => other I o SI.symm e) ⟨ol, other l ol Sl.symm hol, cl⟩ nI SI Sl hn (Heap.get?_update_self _ hS rfl) fun h' tk acc c' hk hS' hacc => hR h' tk acc c' (fun b o b1 b2 e => hk b o b1 b2 (other b o b1 e)) hS' hacc
theorem call_list_rev {Q : Value → Shared → Prop} (hh : A.handled = none) (hI : s.heap.IsRevIter I l ((its.size : Int) - 1)) (hl : s.heap.IsList l its) (nI : l ≠ I) (hn : its.size ≤ sizeLine)
    (hQ : ∀ h' tk acc c', (∀ b o, b ≠ I → s.heap.get? b = some o → h'.get? b = some o) → h'.get? s.heap.objs.size = some { cls := .type "list", dict := none, data := .seq acc c', slots := #[] } → RevAcc its acc → Q (.ref s.heap.objs.size) { s with heap := h', toks := tk }) :
    wpAny (model prog w) A (call (.type "list") [.ref I]) Q E s := by
  refine callType_codes (Q₁ := fun obj t => obj = .ref s.heap.objs.size ∧ t = { s with heap := s.heap.push { cls := .type "list", data := .seq #[] } }) F.called_list (F.typeCall_list_1 _) F.entry_list_init (code_list_new _ ⟨rfl, rfl⟩) fun obj t ht => ?_
  obtain ⟨rfl, rfl⟩ := ht
  have new : (s.heap.push { cls := .type "list", data := .seq #[] }).get? s.heap.objs.size = some { cls := .type "list", data := .seq #[] } := Heap.get?_push_size _ rfl
  obtain ⟨oi, hoi, _⟩ := id hI
  obtain ⟨ol, hol, _⟩ := id hl
  refine ⟨⟨_, new, rfl⟩, F.args_list_init_2 _ _, init_rev (A := A.in1) (s := { s with heap := s.heap.push { cls := .type "list", data := .seq #[] } }) hh (hI.at fun o e => Heap.get?_push_of_some _ e) (hl.push _) nI (Nat.ne_of_gt (Heap.lt_size hoi)) (Nat.ne_of_gt (Heap.lt_size hol)) hn new fun h' tk acc c' hk hS' hacc => ?_⟩
  exact ⟨rfl, hQ h' tk acc c' (fun b o b1 e => hk b o (Nat.ne_of_lt (Heap.lt_size e)) b1 (Heap.get?_push_of_some _ e)) hS' hacc⟩
end
def tLstRev (K : PySem.W.Frag) (te : TE) : TE := fun σ H Q => te σ H fun v H1 => ∃ (a : Addr) (xs : List V), v = .ref a ∧ SqL K H1 a xs ∧ ∀ q, H1 q = none → Q (.ref q) (upd H1 q (.lst xs.reverse))
theorem pe_lstRev {X : Cx} {e : Expr} {te : TE} {p p2 pos pos2 : Pos} (hc : X.calm = true) (hg : Gl X "list") (hm : X.mg "list" = none) (hg2 : Gl X "reversed") (hm2 : X.mg "reversed" = none) (he : PE X e te)
    (hs : starEach [e] X.env = (false, eval e X.env) :: starEach [] X.env := by rfl) (hs2 : starEach [.Call (.Name "reversed" p2) [e] [] pos2] X.env = (false, eval (.Call (.Name "reversed" p2) [e] [] pos2) X.env) :: starEach [] X.env := by rfl) :
    PE X (.Call (.Name "list" p) [.Call (.Name "reversed" p2) [e] [] pos2] [] pos) (tLstRev X.K te) := by
  refine ⟨fun pins s σ H Q I h => ?_⟩
  refine Call_ (ld_blt I hg hm Pv.boot_list (PyProof.Rows.callWith_type1 (args_cons (Call_ (ld_blt I hg2 hm2 PyProof.Rows.boot_reversed (PyProof.Rows.callWith_type1 (args_cons (thn (he.run pins s σ H _ I h) fun u t ⟨v, H1, I1, r1, q1⟩ => args_nil ?_) hs) hs rfl))) hs2) hs2 rfl))
  obtain ⟨a, xs, ev, hq, q⟩ := q1
  subst ev
  obtain rfl : u = Value.ref a := r1
  obtain ⟨vs, rv, pl, hz⟩ := I1.list hq
  have hl := pl.isList
  refine call_reversed_list hl (args_nil ?_)
  have I2 : Inv X pins σ H1 { t with heap := t.heap.push (revObj a ((vs.toArray.size : Int) - 1)) } := I1.kept (t' := t.toks) fun b o e => Heap.get?_push_of_some _ e
  obtain ⟨f0, f1, f2, f3, f4, f5⟩ := I1.fpOk (H' := H1) (b := t.heap.objs.size) (Nat.le_refl _) (I1.hok.fresh (Nat.le_refl _))
  obtain ⟨ol, hol, _⟩ := id hl
  refine call_list_rev (s := { t with heap := t.heap.push (revObj a ((vs.toArray.size : Int) - 1)) }) (I1.ok.hd hc) ⟨_, Heap.get?_push_size _ rfl, rfl, rfl⟩ (hl.push _) (Nat.ne_of_lt (Heap.lt_size hol)) (by rw [List.size_toArray, ← rv.length]; exact hz) fun h' tk acc c' hk hS' hacc => ?_
  have hn2 : H1 (t.heap.push (revObj a ((vs.toArray.size : Int) - 1))).objs.size = none := I2.hok.fresh (Nat.le_refl _)
  refine ⟨.ref _, upd H1 _ (.lst xs.reverse), ?_, rfl, q _ hn2⟩
  refine I2.turnedNew (t' := tk) (ch := [t.heap.objs.size]) (fun b o hb e => hk b o (fun z => hb (by simp [z])) e) (fun b hb => ?_) (Nat.le_refl _) ⟨by rw [List.length_reverse]; exact hz, acc.toList, c', RT.vals_rev rv hacc, ?_⟩
  · obtain rfl : b = t.heap.objs.size := by simpa using hb
    exact ⟨f0, f1, f2, f3, f4, f5⟩
  · rw [Array.toArray_toList]
    exact hS'
end Vf
namespace Vf
open PySem PySem.Spec PyProof.Rows L2
/-! ### sum of a list or a tuple of ints -/
theorem preSum_take (ns : List Int) : ∀ k : Nat, preSum (fun i => ns.getD i 0) k = (ns.take k).sum
  | 0 => rfl
  | k + 1 => by
    show preSum (fun i => ns.getD i 0) k + ns.getD k 0 = _
    rw [preSum_take ns k, List.take_add_one, List.sum_append, List.getD_eq_getElem?_getD]
    cases ns[k]? <;> simp
theorem ints_at : ∀ {vs : List Value} {ns : List Int} {i : Nat} {v : Value}, IntsAre vs ns → vs[i]? = some v → ∃ n, ns[i]? = some n ∧ ∃ t, v = .int n t
  | _, _, _, _, .nil, e => by simp at e
  | _, _, 0, _, .cons n t _, e => ⟨n, rfl, t, (Option.some.inj e).symm⟩
  | _, _, i + 1, v, .cons _ _ r, e => ints_at (i := i) (v := v) r e
theorem sum_tup {prog : Program} {w : World} {A : Around} {E : Value → Shared → Prop} {s : Shared} {l : Addr} {its : List Value} {ns : List Int} {Q : Value → Shared → Prop} (hh : A.handled = none) (hl : s.heap.IsTuple l its.toArray) (hi : IntsAre its ns)
    (h : ∀ h' tk t', (∀ b o, s.heap.get? b = some o → h'.get? b = some o) → Q (.int ns.sum t') { s with heap := h', toks := tk }) : wpAny (model prog w) A (call (.builtin "sum") [.ref l]) Q E s := by
  obtain ⟨ol, hol, _⟩ := id hl
  have nl : l ≠ s.heap.objs.size := Nat.ne_of_lt (Heap.lt_size hol)
  have len := hi.length
  refine call_sum_walkG (wpAny_pyIter_tuple hl ⟨s.heap.objs.size, [s.heap.objs.size, l], [s.heap.objs.size], _, _, _, (fun i => ns.getD i 0), rfl, Walks.tuple (A := A.in1) hh s.heap.objs.size l nl its.toArray, ⟨⟨_, Heap.get?_push_size _ rfl, rfl, rfl⟩, hl.push _⟩, fun b hb => ?_, fun i v e => ?_, fun h' tk t' hk => ?_⟩)
  · rw [Heap.size_push]
    rcases List.mem_cons.mp hb with rfl | hb
    · exact Nat.lt_succ_self _
    · obtain rfl : b = l := by simpa using hb
      exact Nat.lt_succ_of_lt (Heap.lt_size hol)
  · have e : its[i]? = some v := by simpa using e
    obtain ⟨n, hn, t, rfl⟩ := ints_at hi e
    exact ⟨t, by show _ = Value.int (ns.getD i 0) t; rw [List.getD_eq_getElem?_getD, hn]; rfl⟩
  · rw [preSum_take, List.take_of_length_le (by rw [List.size_toArray, len]; exact Nat.le_refl _)]
    exact h h' tk t' fun b o e => hk b o (fun z => by
      obtain rfl : b = s.heap.objs.size := by simpa using z
      exact absurd (Heap.lt_size e) (Nat.lt_irrefl _)) (Heap.get?_push_of_some _ e)
def rSumV (K : PySem.W.Frag) : List V → Hp → VK → Prop := fun vs H Q => ∃ (a : Addr) (ns : List Int), vs = [V.ref a] ∧ SqV K H a (ns.map V.int) ∧ Q (.int ns.sum) H
def rIxV (K : PySem.W.Frag) : R2 := fun x y H Q => ∃ p xs i v, x = .ref p ∧ y = .int i ∧ SqV K H p xs ∧ atI xs i = some v ∧ Q v H
section
variable {X : Cx} {K : PySem.W.Frag}
theorem sumVK (hK : X.K = K) (hc : X.calm = true) : CallR X (.builtin "sum") (rSumV K) := by
  subst hK
  intro pins s σ H vs us Q I r h
  obtain ⟨a, ns, rfl, hs, q⟩ := h
  rcases hs with hs | hs
  · exact cr_sum hc pins s σ H _ us Q I r ⟨a, ns, rfl, hs, q⟩
  · obtain ⟨its, rv, hl, _⟩ := I.tuple hs
    rw [Vals.ref1 r]
    exact sum_tup (I.ok.hd hc) hl rv.ints fun h' tk t' hk => ⟨.int _, H, I.kept hk, ⟨_, rfl⟩, q⟩
theorem ix_seqK (hK : X.K = K) : IxR X (rIxV K) := by
  subst hK
  intro value slice pins s σ H x y v u Q I rx ry h hs
  obtain ⟨p, xs, i, z, ex, ey, hq, he, q⟩ := h
  rcases hq with hq | hq
  · exact ix_list value slice pins s σ H x y v u Q I rx ry ⟨p, xs, i, z, ex, ey, hq, he, q⟩ hs
  · exact ix_tup value slice pins s σ H x y v u Q I rx ry ⟨p, xs, i, z, ex, ey, hq, he, q⟩ hs
end
theorem pe_lstRevK {X : Cx} {K : PySem.W.Frag} {e : Expr} {te : TE} {p p2 pos pos2 : Pos} (hK : X.K = K) (hc : X.calm = true) (hg : Gl X "list") (hm : X.mg "list" = none) (hg2 : Gl X "reversed") (hm2 : X.mg "reversed" = none) (he : PE X e te)
    (hs : starEach [e] X.env = (false, eval e X.env) :: starEach [] X.env := by rfl) (hs2 : starEach [.Call (.Name "reversed" p2) [e] [] pos2] X.env = (false, eval (.Call (.Name "reversed" p2) [e] [] pos2) X.env) :: starEach [] X.env := by rfl) :
    PE X (.Call (.Name "list" p) [.Call (.Name "reversed" p2) [e] [] pos2] [] pos) (tLstRev K te) := by
  subst hK
  exact pe_lstRev hc hg hm hg2 hm2 he hs hs2
theorem sl_listK {X : Cx} {K : PySem.W.Frag} (hK : X.K = K) : SlR X (rSlL K) := by subst hK; exact sl_list
/-! ### xs[i] op= e of a list -/
def rGetN (K : PySem.W.Frag) : V → V → Hp → VK → Prop := fun o i H Q => ∃ (p : Addr) (xs : List V) (j : Nat) (v : V), o = .ref p ∧ i = .int (j : Int) ∧ SqL K H p xs ∧ xs[j]? = some v ∧ Q v H
theorem get_listN {X : Cx} : PGet X (rGetN X.K) := by
  intro pins s σ H o i ov iv Q I r1 r2 h
  obtain ⟨p, xs, j, v, rfl, rfl, hq, hx, q⟩ := h
  obtain rfl : ov = Value.ref p := r1
  obtain ⟨t, rfl⟩ := r2
  obtain ⟨its, rv, pl, hz⟩ := I.list hq
  obtain ⟨u, hu, ru⟩ := rv.get hx
  have hj : j < xs.length := (List.getElem?_eq_some_iff.mp hx).1
  have ln := line63
  exact wpAny_getItem_list pl.isList (by omega) (by omega) (by rw [Int.toNat_natCast]; simpa using hu) ⟨v, H, I, ru, q⟩
/-! ### walks whose reading names the written part by a letter -/
section
variable {X : Cx} {K : PySem.W.Frag} {tg l : Expr} {tl : TE}
theorem pi_listK (hK : X.K = K) (hl : PE X l tl) : PI X tg l (iList K tl) := by subst hK; exact pi_list hl
theorem pi_seqK (hK : X.K = K) (hl : PE X l tl) : PI X tg l (iSeq K tl) := by subst hK; exact pi_seq hl
end
end Vf
set_option Elab.async false
set_option linter.all false
set_option maxRecDepth 100000
set_option maxHeartbeats 4000000
/-! sorted of a list or a tuple of ints -/
namespace Vf
open PySem PySem.Spec PyProof.Rows L2
section
variable {prog : Program} {w : World} {A : Around} {E : Value → Shared → Prop} {s : Shared}
/-- a tuple gathered into a new list -/
theorem collect_tup {t : Addr} {us : List Value} {R : List Value → Shared → Prop} (ht : s.heap.IsTuple t us.toArray) (hz : us.length ≤ sizeLine)
    (hR : R us { s with heap := (s.heap.push (seqObj "list" #[] 0)).update s.heap.objs.size (Obj.mapSeq (· ++ us.toArray)) }) : wpAny (model prog w) A (collect (.ref t)) R E s := by
  obtain ⟨ot, et, ct, k, dt⟩ := id ht
  unfold collect
  refine wpAny_bind (wpAny_runValue (codeAny_builtin PyProof.Rows.entry_proto_collect' ?_))
  show wpAny _ _ (do again (.builtin "list.__iadd__" ⟨[← newList [], .ref t], []⟩)) _ _ s
  refine wpAny_bind (wpAny_newList (wpAny_pure ⟨Code.quiet_builtin _ (by decide +kernel), codeAny_builtin PyProof.Rows.entry_list_iadd' ?_⟩))
  show wpAny _ _ (Builtin.List.listExtendWith (.ref s.heap.objs.size) (.ref t) (.ref s.heap.objs.size)) _ _ { s with heap := s.heap.push (seqObj "list" #[] 0) }
  unfold Builtin.List.listExtendWith
  have et2 : (s.heap.push (seqObj "list" #[] 0)).get? t = some ot := Heap.get?_push_of_some _ et
  refine wpAny_bind (wpAny_typeOf (T := "tuple") ⟨ot, et2, ct⟩ ?_)
  have hty : (Value.type "tuple" == Value.type "tuple") = true := by rfl
  rw [if_pos (by rw [hty]; simp)]
  refine wpAny_bind (listItems_at et2 dt ?_)
  refine wpAny_bind (listItems_at (n := 0) (xs := #[]) (Heap.get?_push_size _ rfl) rfl ?_)
  rw [if_neg (by simp)]
  refine wpAny_bind (listUpdate_at (n := 0) (xs := #[]) (Heap.get?_push_size _ rfl) rfl ?_ (Nat.zero_le _) ?_)
  rotate_left
  · show (#[] ++ us.toArray).size ≤ sizeLine + 1
    simp only [Array.size_append, List.size_toArray, List.length_nil]
    omega
  refine wpAny_pure ?_
  show wpAny (model prog w) A (do
      let y ← load s.heap.objs.size
      match y.data with
      | .seq ys _ => pure ys.toList
      | _ => unsupported "internal:collect") R E { s with heap := (s.heap.push (seqObj "list" #[] 0)).update s.heap.objs.size (Obj.mapSeq (· ++ us.toArray)) }
  refine wpAny_bind (wpAny_load (get?_update_seq (Heap.get?_push_size _ rfl) _) ?_)
  show wpAny _ _ (pure ((#[] : Array Value) ++ us.toArray).toList) R E _
  have e : ((#[] : Array Value) ++ us.toArray).toList = us := by simp
  rw [e]
  exact wpAny_pure hR
theorem sorted_tup {t : Addr} {us : List Value} {ns : List Int} {R : Value → Shared → Prop} (ht : s.heap.IsTuple t us.toArray) (hI : IntsAre us ns) (hz : us.length ≤ sizeLine)
    (hR : ∀ (out : Array Value) (ms : List Int), IntsAre out.toList ms → ms.Perm ns → ms.Pairwise (· ≤ ·) → R (.ref (s.heap.objs.size + 1)) { s with heap := sortedAll s.heap us out }) :
    wpAny (model prog w) A (call (.builtin "sorted") [.ref t]) R E s := by
  refine Calls.call_function_entry kind_sorted plain_sorted PyProof.Rows.entry_sorted (args_sorted1 _) ?_
  unfold Builtin.«sorted»
  refine wpAny_bind (m := checkCount "sorted" 1 1 _) (wpAny_pure ?_)
  refine wpAny_bind (collect_tup ht hz ?_)
  refine wpAny_bind (wpAny_newList ?_ hz)
  have sz : ((s.heap.push (seqObj "list" #[] 0)).update s.heap.objs.size (Obj.mapSeq (· ++ us.toArray))).objs.size = s.heap.objs.size + 1 := by rw [Heap.size_update, size_push']
  have at1 : (((s.heap.push (seqObj "list" #[] 0)).update s.heap.objs.size (Obj.mapSeq (· ++ us.toArray))).push (seqObj "list" us.toArray 0)).get? (s.heap.objs.size + 1) = some (seqObj "list" us.toArray 0) := by rw [← sz]; exact Heap.get?_push_size _ rfl
  show wpAny _ _ _ _ _ { s with heap := ((s.heap.push (seqObj "list" #[] 0)).update s.heap.objs.size (Obj.mapSeq (· ++ us.toArray))).push (seqObj "list" us.toArray 0) }
  rw [sz]
  refine wpAny_bind (wpAny_holding (wpAny_call_entry slot_list_sort ⟨_, at1, rfl⟩ PyProof.Rows.entry_list_sort (list_sort_treeAny at1 hI hz fun out ms a1 a2 a3 => ⟨_, rfl, ?_⟩) (args_list_sort _)))
  exact wpAny_pure ⟨_, rfl, hR out ms a1 a2 a3⟩
end
def rSortedV (K : PySem.W.Frag) : List V → Hp → VK → Prop := fun vs H Q => ∃ (a : Addr) (ns : List Int), vs = [V.ref a] ∧ SqV K H a (ns.map V.int) ∧ ∀ (ms : List Int) (p : Addr), ms.Perm ns → ms.Pairwise (· ≤ ·) → H p = none → Q (.ref p) (upd H p (.lst (ms.map V.int)))
theorem sortedVK {X : Cx} {K : PySem.W.Frag} (hK : X.K = K) : CallR X (.builtin "sorted") (rSortedV K) := by
  subst hK
  intro pins s σ H vs us Q I r h
  obtain ⟨a, ns, rfl, hs, q⟩ := h
  rcases hs with hs | hs
  · exact cr_sortedI pins s σ H _ us Q I r ⟨a, ns, rfl, hs, q⟩
  · obtain ⟨its, rv, hl, hz⟩ := I.tuple hs
    rw [Vals.ref1 r]
    have hz2 : its.length ≤ sizeLine := by rw [← rv.length]; exact hz
    refine sorted_tup hl rv.ints hz2 fun out ms h1 h2 h3 => ?_
    obtain ⟨ep, he⟩ := PyProof.Rows.sortedAll_at s.heap its out
    have hlen : (ms.map V.int).length ≤ sizeLine := by rw [List.length_map, h2.length_eq, ← rv.ints.length]; exact hz2
    exact ⟨.ref _, upd H (s.heap.objs.size + 1) (.lst (ms.map V.int)), I.laid (t' := s.toks) (fun _ _ => PyProof.Rows.sortedAll_old) (Nat.le_succ _) ⟨hlen, out.toList, ep, vals_of_ints h1, he⟩, rfl, q ms _ h2 h3 (I.hok.fresh (Nat.le_succ _))⟩
/-! ### methods of built-in types, the written part a letter -/
section
variable {X : Cx} {K : PySem.W.Frag} {T id : String} {name : Str} {o e : Expr} {es : List Expr} {to : TE} {t : TA} {r : V → List V → Hp → VK → Prop} {apos cpos : Pos}
theorem pe_bmK (hK : X.K = K) (pa : PlainAttrs T) (slot : Slot T name id) (hty : typeOf (.builtin id) = pure (.type "method_descriptor")) (hm : MtR X id r) (ho : PE X o to) (ha : PA X (e :: es) t)
    (h1 : attributeBase o name X.env (eval o X.env) = eval o X.env := by rfl)
    (h2 : ((backTo cpos (starEach (e :: es) X.env)).all (fun x => !x.1) && (backToKw cpos (keywordEach [] X.env)).all (fun x => x.1.isSome) && decide ((e :: es).length + ([] : List Keyword).length + (if ([] : List Keyword).isEmpty then 0 else 1) < 30)) = true := by rfl)
    (h3 : (apos.endLine == cpos.line) = true := by rfl) (h4 : starEach (e :: es) X.env = (false, eval e X.env) :: starEach es X.env := by rfl) (h5 : (backTo cpos (starEach es X.env)).any (·.1) = false := by rfl) :
    PE X (.Call (.Attribute o name apos) (e :: es) [] cpos) (tBM K T r to t) := by
  subst hK
  exact pe_bm pa slot hty hm ho ha h1 h2 h3 h4 h5
theorem mt_indexK (hK : X.K = K) : MtR X "list.index" (rIndex K) := by subst hK; exact mt_index
end
end Vf
set_option Elab.async false
set_option linter.all false
set_option maxRecDepth 100000
set_option maxHeartbeats 4000000
/-! walks by one word: a list or a tuple, a pair of such zipped; comprehensions with two clauses. -/
namespace Vf
open PySem PySem.Spec PyProof.Rows L2 RZ
section
variable {K : PySem.W.Frag} {a b : Addr} {xs ys : List V} {H1 : Hp}
theorem walk_zipT {n : Nat} (hn : n = min xs.length ys.length) : Walk (ItzT K a b) n (fun H => SqT K H a xs ∧ SqT K H b ys) (YPair (fun i => xs[i]?) (fun i => ys[i]?)) := by
  subst hn
  refine ⟨fun i _ hi q => ?_, fun _ q => ⟨xs, ys, q.1, q.2, by omega⟩, fun i H v H' _ q y => ?_⟩
  · have h1 : i < xs.length := by omega
    have h2 : i < ys.length := by omega
    exact ⟨xs, ys, xs[i], ys[i], q.1, q.2, by simp [h1], by simp [h2]⟩
  · obtain ⟨T, x, z, h1, h2, h3, h4, h5⟩ := y
    exact ⟨T, x, z, h1, h2, h3, h4 xs q.1, h5 ys q.2⟩
/-- what iSeq asks, by any walk over the items -/
theorem seq_of {R : It → Hp → Prop} (h : SqV K H1 a xs) (k : ∀ (J : It) (G : Hp → Prop), Walk J xs.length G (YAt xs) → (∀ H', Same H1 H' → G H') → R J H1) :
    ∃ a', V.ref a = .ref a' ∧ (((∃ xs, SqL K H1 a' xs) ∧ R (Itl K a') H1) ∨ ((∃ xs, SqT K H1 a' xs) ∧ R (Itt K a') H1)) := by
  rcases h with h | h
  · exact ⟨a, rfl, .inl ⟨⟨_, h⟩, k _ _ walk_list fun H' s => s.seq h⟩⟩
  · exact ⟨a, rfl, .inr ⟨⟨_, h⟩, k _ _ walk_tup fun H' s => Same.seqT s h⟩⟩
/-- the same, of a list or a tuple that was there ahead -/
theorem seq_at {H0 : Hp} {R : It → Hp → Prop} (h : SqV K H0 a xs) (s : Same H0 H1) (k : ∀ (J : It) (G : Hp → Prop), Walk J xs.length G (YAt xs) → (∀ H', Same H0 H' → G H') → R J H1) :
    ∃ a', V.ref a = .ref a' ∧ (((∃ xs, SqL K H1 a' xs) ∧ R (Itl K a') H1) ∨ ((∃ xs, SqT K H1 a' xs) ∧ R (Itt K a') H1)) := by
  rcases h with h | h
  · exact ⟨a, rfl, .inl ⟨⟨_, s.seq h⟩, k _ _ walk_list fun H' s => s.seq h⟩⟩
  · exact ⟨a, rfl, .inr ⟨⟨_, Same.seqT s h⟩, k _ _ walk_tup fun H' s => Same.seqT s h⟩⟩
/-- two lists, or two tuples -/
def SqV2 (K : PySem.W.Frag) (H : Hp) (a b : Addr) (xs ys : List V) : Prop := (SqL K H a xs ∧ SqL K H b ys) ∨ (SqT K H a xs ∧ SqT K H b ys)
theorem zip_of {R : It → Hp → Prop} (h : SqV2 K H1 a b xs ys) (k : ∀ (J : It) (G : Hp → Prop), Walk J (min xs.length ys.length) G (YPair (fun i => xs[i]?) (fun i => ys[i]?)) → (∀ H', Same H1 H' → G H') → R J H1) :
    ∃ a' b' xs ys, [V.ref a, V.ref b] = [.ref a', .ref b'] ∧ ((SqL K H1 a' xs ∧ SqL K H1 b' ys ∧ R (Itz K a' b') H1) ∨ (SqT K H1 a' xs ∧ SqT K H1 b' ys ∧ R (ItzT K a' b') H1)) := by
  rcases h with h | h
  · exact ⟨a, b, xs, ys, rfl, .inl ⟨h.1, h.2, k _ _ (walk_zip rfl) fun H' s => ⟨s.seq h.1, s.seq h.2⟩⟩⟩
  · exact ⟨a, b, xs, ys, rfl, .inr ⟨h.1, h.2, k _ _ (walk_zipT rfl) fun H' s => ⟨Same.seqT s h.1, Same.seqT s h.2⟩⟩⟩
/-- a slice of a list or a tuple -/
def rSlV (K : PySem.W.Frag) : V → Option Int → Option Int → Hp → VK → Prop := fun x lo hi H Q => ∃ a xs, x = .ref a ∧ SqV K H a xs ∧ ∀ (H' : Hp) (p : Addr), Same H H' → SqV2 K H' a p xs (cutV xs lo hi) → Q (.ref p) H'
theorem cut_whole {lo hi : Option Int} (h : HT.sIx xs.length 0 lo = 0 ∧ HT.sIx xs.length xs.length hi = xs.length) : cutV xs lo hi = xs := by
  unfold cutV
  rw [h.1, h.2, List.drop_zero, Nat.sub_zero, List.take_length]
theorem sl_seqK {X : Cx} (hK : X.K = K) : SlR X (rSlV K) := by
  subst hK
  intro pins s σ H x v vl vu lo hi sl Q I rx hs pl pu h
  refine (sl_list.or sl_tupA) pins s σ H x v vl vu lo hi sl Q I rx hs pl pu ?_
  obtain ⟨a, xs, rfl, hS, q⟩ := h
  rcases hS with hS | hS
  · exact .inl ⟨a, xs, rfl, hS, fun p np => q _ p (same_upd np) (.inl ⟨(same_upd np).seq hS, SqL.of upd_same⟩)⟩
  · exact .inr ⟨a, xs, rfl, hS, fun e => q _ a (Same.refl _) (.inr ⟨hS, by rw [cut_whole e]; exact hS⟩), fun _ p np => q _ p (same_upd np) (.inr ⟨Same.seqT (same_upd np) hS, SqT.of upd_same⟩)⟩
end
section
variable {J : It} {n : Nat} {G : Hp → Prop} {Y : Nat → Hp → V → Hp → Prop}
theorem lc2_in (w : Walk J n G Y) {g1 : TG} {tt1 : TT} {te : TE} {vs1 : List Nat} {σ2 : L2.St} {H4 : Hp} {D : Addr} {Nx : Hp → Prop} (Pv : Nat → Hp → Prop) (h0 : Pv 0 H4) (hG : ∀ i H, i ≤ n → Pv i H → G H)
    (hs : ∀ i x H H', i < n → Pv i H → Y i H x H' → g1 x (wipe σ2 vs1) H' fun σ3 H5 => wipe σ3 vs1 = wipe σ2 vs1 ∧ tt1 σ3 H5 fun b H6 =>
      if b = true then te σ3 H6 fun y H7 => ∃ acc, H7 D = some (.lst acc) ∧ acc.length < sizeLine ∧ Pv (i + 1) (upd H7 D (.lst (acc ++ [y]))) else Pv (i + 1) H6) (hd : ∀ H, Pv n H → Nx H) :
    ∃ W1 : Nat → Nat → Hp → Prop, (∃ m, W1 0 m H4) ∧ ∀ j k H, W1 j k H →
      (J.stop j H ∧ Nx H) ∨ (J.go j H ∧ ∃ Nx1 : Hp → Prop, (∀ H', Nx1 H' → ∃ k', k' < k ∧ W1 (j + 1) k' H') ∧ ∀ x H', J.yld j H x H' → g1 x (wipe σ2 vs1) H' fun σ3 H5 => wipe σ3 vs1 = wipe σ2 vs1 ∧ tt1 σ3 H5 fun b H6 =>
        if b = true then te σ3 H6 fun y H7 => ∃ acc, H7 D = some (.lst acc) ∧ acc.length < sizeLine ∧ Nx1 (upd H7 D (.lst (acc ++ [y]))) else Nx1 H6) := by
  refine ⟨fun i m H => m = n - i ∧ i ≤ n ∧ Pv i H, ⟨n, by simp, Nat.zero_le _, h0⟩, ?_⟩
  rintro i m H ⟨rfl, hi, p⟩
  have q := hG i H hi p
  by_cases hlt : i < n
  · exact .inr ⟨w.goes i H hlt q, Pv (i + 1), fun H' p' => ⟨n - (i + 1), by omega, rfl, hlt, p'⟩, fun x H' y => hs i x H H' hlt p (w.yields i H x H' hlt q y)⟩
  · have e : i = n := by omega
    subst e
    exact .inl ⟨w.stops H q, hd H p⟩
theorem lc2_it (w : Walk J n G Y) {g : TG} {tt : TT} {wi1 : TI} {g1 : TG} {tt1 : TT} {te : TE} {vs vs1 : List Nat} {σ : L2.St} {H1 : Hp} {D : Addr} {Qd : Hp → Prop} (Pv : Nat → Hp → Prop) (h0 : Pv 0 (upd H1 D (.lst []))) (hG : ∀ i H, i ≤ n → Pv i H → G H)
    (hs : ∀ i x H H', i < n → Pv i H → Y i H x H' → g x (wipe σ vs) H' fun σ2 H2 => wipe σ2 vs = wipe σ vs ∧ tt σ2 H2 fun b H3 =>
      if b = true then wi1 σ2 H3 fun J1 H4 => ∃ W1 : Nat → Nat → Hp → Prop, (∃ m, W1 0 m H4) ∧ ∀ j k H, W1 j k H →
        (J1.stop j H ∧ Pv (i + 1) H) ∨ (J1.go j H ∧ ∃ Nx1 : Hp → Prop, (∀ H', Nx1 H' → ∃ k', k' < k ∧ W1 (j + 1) k' H') ∧ ∀ x H', J1.yld j H x H' → g1 x (wipe σ2 vs1) H' fun σ3 H5 => wipe σ3 vs1 = wipe σ2 vs1 ∧ tt1 σ3 H5 fun b H6 =>
          if b = true then te σ3 H6 fun y H7 => ∃ acc, H7 D = some (.lst acc) ∧ acc.length < sizeLine ∧ Nx1 (upd H7 D (.lst (acc ++ [y]))) else Nx1 H6)
      else Pv (i + 1) H3) (hd : ∀ H, Pv n H → Qd H) :
    ∃ W : Nat → Nat → Hp → Prop, (∃ m, W 0 m (upd H1 D (.lst []))) ∧ ∀ i m H, W i m H →
      (J.stop i H ∧ Qd H) ∨ (J.go i H ∧ ∃ Nx : Hp → Prop, (∀ H', Nx H' → ∃ m', m' < m ∧ W (i + 1) m' H') ∧ ∀ x H', J.yld i H x H' → g x (wipe σ vs) H' fun σ2 H2 => wipe σ2 vs = wipe σ vs ∧ tt σ2 H2 fun b H3 =>
        if b = true then wi1 σ2 H3 fun J1 H4 => ∃ W1 : Nat → Nat → Hp → Prop, (∃ m, W1 0 m H4) ∧ ∀ j k H, W1 j k H →
          (J1.stop j H ∧ Nx H) ∨ (J1.go j H ∧ ∃ Nx1 : Hp → Prop, (∀ H', Nx1 H' → ∃ k', k' < k ∧ W1 (j + 1) k' H') ∧ ∀ x H', J1.yld j H x H' → g1 x (wipe σ2 vs1) H' fun σ3 H5 => wipe σ3 vs1 = wipe σ2 vs1 ∧ tt1 σ3 H5 fun b H6 =>
            if b = true then te σ3 H6 fun y H7 => ∃ acc, H7 D = some (.lst acc) ∧ acc.length < sizeLine ∧ Nx1 (upd H7 D (.lst (acc ++ [y]))) else Nx1 H6)
        else Nx H3) := by
  refine ⟨fun i m H => m = n - i ∧ i ≤ n ∧ Pv i H, ⟨n, by simp, Nat.zero_le _, h0⟩, ?_⟩
  rintro i m H ⟨rfl, hi, p⟩
  have q := hG i H hi p
  by_cases hlt : i < n
  · exact .inr ⟨w.goes i H hlt q, Pv (i + 1), fun H' p' => ⟨n - (i + 1), by omega, rfl, hlt, p'⟩, fun x H' y => hs i x H H' hlt p (w.yields i H x H' hlt q y)⟩
  · have e : i = n := by omega
    subst e
    exact .inl ⟨w.stops H q, hd H p⟩
end
end Vf
set_option Elab.async false
set_option linter.all false
set_option maxRecDepth 100000
set_option maxHeartbeats 4000000
/-! data off some cells that move; comprehensions that grow data. -/
namespace Vf
open PySem PySem.Spec PyProof.Rows L2 RZ
/-- all but S is as it was -/
def Kb (S : List Addr) (H H' : Hp) : Prop := ∀ b o, H b = some o → b ∉ S → H' b = some o
theorem Kb.refl {S : List Addr} {H : Hp} : Kb S H H := fun _ _ e _ => e
theorem Kb.trans {S : List Addr} {H H1 H2 : Hp} (a : Kb S H H1) (b : Kb S H1 H2) : Kb S H H2 := fun c o e n => b c o (a c o e n) n
theorem Kb.ofSame {S : List Addr} {H H1 : Hp} (s : Same H H1) : Kb S H H1 := fun c o e _ => s c o e
theorem Kb.same {S : List Addr} {H H1 H2 : Hp} (a : Kb S H H1) (s : Same H1 H2) : Kb S H H2 := a.trans (.ofSame s)
theorem Kb.mono {S S' : List Addr} {H H1 : Hp} (a : Kb S H H1) (h : ∀ x ∈ S, x ∈ S') : Kb S' H H1 := fun c o e n => a c o e fun z => n (h c z)
theorem Kb.cons {S : List Addr} {x : Addr} {H H1 : Hp} (a : Kb S H H1) : Kb (x :: S) H H1 := a.mono fun _ h => List.mem_cons_of_mem _ h
theorem Kb.put {S : List Addr} {p : Addr} {o : HO} {H H1 : Hp} (a : Kb S H H1) (n : H p = none) : Kb S H (upd H1 p o) := fun c u e h => by
  rw [upd_ne (ne_of_none e n)]; exact a c u e h
theorem Kb.set {S : List Addr} {p : Addr} {o : HO} {H H1 : Hp} (a : Kb S H H1) (h : p ∈ S) : Kb S H (upd H1 p o) := fun c u e n => by
  rw [upd_ne (fun z => n (by rw [z]; exact h))]; exact a c u e n
theorem Kb.drop {S : List Addr} {x : Addr} {H H1 : Hp} (a : Kb (x :: S) H H1) (n : H x = none) : Kb S H H1 := fun c o e h => a c o e fun z => by
  rcases List.mem_cons.mp z with z | z
  · rw [z, n] at e; cases e
  · exact h z
theorem Kb.toSame {H H1 : Hp} (a : Kb [] H H1) : Same H H1 := fun c o e => a c o e fun z => nomatch z
def RpO (S : List Addr) (K : PySem.W.Frag) (H : Hp) (v : V) (d : Dt) : Prop := ∀ H', Kb S H H' → Rp K H' v d
def RpLO (S : List Addr) (K : PySem.W.Frag) (H : Hp) (v : List V) (d : List Dt) : Prop := ∀ H', Kb S H H' → RpL K H' v d
section
variable {S : List Addr} {K : PySem.W.Frag} {H H1 : Hp}
theorem RpO.rp {v : V} {d : Dt} (r : RpO S K H v d) : Rp K H v d := r H .refl
theorem RpLO.rp {v : List V} {d : List Dt} (r : RpLO S K H v d) : RpL K H v d := r H .refl
theorem RpO.kb {v : V} {d : Dt} (r : RpO S K H v d) (k : Kb S H H1) : RpO S K H1 v d := fun H' k' => r H' (k.trans k')
theorem RpLO.kb {v : List V} {d : List Dt} (r : RpLO S K H v d) (k : Kb S H H1) : RpLO S K H1 v d := fun H' k' => r H' (k.trans k')
theorem RpO.less {S' : List Addr} {v : V} {d : Dt} (r : RpO S K H v d) (h : ∀ x ∈ S', x ∈ S) : RpO S' K H v d := fun H' k' => r H' (k'.mono h)
theorem RpLO.less {S' : List Addr} {v : List V} {d : List Dt} (r : RpLO S K H v d) (h : ∀ x ∈ S', x ∈ S) : RpLO S' K H v d := fun H' k' => r H' (k'.mono h)
theorem RpO.int (i : Int) : RpO S K H (.int i) (.int i) := fun _ _ => .int i
theorem RpO.bl (b : Bool) : RpO S K H (.bl b) (.bl b) := fun _ _ => .bl b
theorem RpO.non : RpO S K H .non .non := fun _ _ => .non
theorem RpO.str (z : Str) : RpO S K H (.str z) (.str z) := fun _ _ => .str z
theorem RpO.lst {p : Addr} {xs : List V} {l : List Dt} (hp : H p = some (.lst xs)) (n : p ∉ S) (r : RpLO S K H xs l) : RpO S K H (.ref p) (.lst l) := fun H' k => .lst (SqL.of (k _ _ hp n)) (r H' k)
theorem RpO.tup {p : Addr} {xs : List V} {l : List Dt} (hp : H p = some (.tup xs)) (n : p ∉ S) (r : RpLO S K H xs l) : RpO S K H (.ref p) (.tup l) := fun H' k => .tup (SqT.of (k _ _ hp n)) (r H' k)
theorem RpLO.nil : RpLO S K H [] [] := fun _ _ => .nil
theorem RpLO.cons {v : V} {d : Dt} {vs : List V} {ds : List Dt} (r : RpO S K H v d) (q : RpLO S K H vs ds) : RpLO S K H (v :: vs) (d :: ds) := fun H' k => .cons (r H' k) (q H' k)
theorem rpl_app : ∀ {vs vs' : List V} {ds ds' : List Dt}, RpL K H vs ds → RpL K H vs' ds' → RpL K H (vs ++ vs') (ds ++ ds')
  | _, _, _, _, .nil, r => r
  | _, _, _, _, .cons h q, r => .cons h (rpl_app q r)
theorem RpLO.append {vs vs' : List V} {ds ds' : List Dt} (r : RpLO S K H vs ds) (q : RpLO S K H vs' ds') : RpLO S K H (vs ++ vs') (ds ++ ds') := fun H' k => rpl_app (r H' k) (q H' k)
theorem RpLO.length {vs : List V} {ds : List Dt} (r : RpLO S K H vs ds) : vs.length = ds.length := r.rp.length
theorem rpl_get : ∀ {v : List V} {d : List Dt} {i : Nat} {y : Dt}, RpL K H v d → d[i]? = some y → ∃ x, v[i]? = some x ∧ Rp K H x y
  | _, _, _, _, .nil, e => by simp at e
  | _, _, 0, _, .cons h _, e => by
    obtain rfl := Option.some.inj e
    exact ⟨_, rfl, h⟩
  | _, _, i + 1, y, .cons _ r, e => rpl_get (i := i) (y := y) r e
theorem rpl_intsV : ∀ ns : List Int, RpL K H (ns.map V.int) (ns.map Dt.int)
  | [] => .nil
  | n :: ns => .cons (.int n) (rpl_intsV ns)
theorem RpLO.ints (ns : List Int) : RpLO S K H (ns.map V.int) (ns.map Dt.int) := fun _ _ => rpl_intsV ns
theorem rpl_ints : ∀ {xs : List V} {ns : List Int}, RpL K H xs (ns.map Dt.int) → xs = ns.map V.int
  | _, [], r => by cases r; rfl
  | _, n :: ns, r => by
    cases r with
    | cons h q =>
      cases h
      rw [rpl_ints q]; rfl
theorem rpl_bls : ∀ {xs : List V} {ns : List Bool}, RpL K H xs (ns.map Dt.bl) → xs = ns.map V.bl
  | _, [], r => by cases r; rfl
  | _, n :: ns, r => by
    cases r with
    | cons h q =>
      cases h
      rw [rpl_bls q]; rfl
/-- a list of ints at an address -/
theorem rp_intL {v : V} {ns : List Int} (r : Rp K H v (.lst (ns.map Dt.int))) : ∃ a, v = .ref a ∧ SqL K H a (ns.map V.int) := by
  cases r with
  | lst h q => exact ⟨_, rfl, by rw [← rpl_ints q]; exact h⟩
theorem rp_intT {v : V} {ns : List Int} (r : Rp K H v (.tup (ns.map Dt.int))) : ∃ a, v = .ref a ∧ SqT K H a (ns.map V.int) := by
  cases r with
  | tup h q => exact ⟨_, rfl, by rw [← rpl_ints q]; exact h⟩
theorem rp_lst {v : V} {l : List Dt} (r : Rp K H v (.lst l)) : ∃ a xs, v = .ref a ∧ SqL K H a xs ∧ RpL K H xs l := by
  cases r with
  | lst h q => exact ⟨_, _, rfl, h, q⟩
theorem rp_tup {v : V} {l : List Dt} (r : Rp K H v (.tup l)) : ∃ a xs, v = .ref a ∧ SqT K H a xs ∧ RpL K H xs l := by
  cases r with
  | tup h q => exact ⟨_, _, rfl, h, q⟩
end
theorem list_det {α : Type} {l ds : List α} (hl : l.length = ds.length) (h : ∀ (i : Nat) (d : α), l[i]? = some d → ds[i]? = some d) : l = ds := by
  refine List.ext_getElem hl fun i h1 h2 => ?_
  have := h i _ (List.getElem?_eq_getElem h1)
  rw [List.getElem?_eq_getElem h2] at this
  exact (Option.some.inj this).symm
theorem map_of {α β : Type} {f : α → β} {P : α → Prop} : ∀ {l : List β}, (∀ (j : Nat) (d : β), l[j]? = some d → ∃ c, d = f c ∧ P c) → ∃ m : List α, l = m.map f ∧ ∀ c ∈ m, P c
  | [], _ => ⟨[], rfl, fun _ z => nomatch z⟩
  | b :: l, h => by
    obtain ⟨m, e, hm⟩ := map_of (l := l) fun j d e => h (j + 1) d (by simpa using e)
    obtain ⟨c, rfl, hc⟩ := h 0 b rfl
    refine ⟨c :: m, by rw [e]; rfl, fun x hx => ?_⟩
    rcases List.mem_cons.mp hx with rfl | hx
    · exact hc
    · exact hm x hx
/-- a list at D that grows, its items data -/
def Grow (K : PySem.W.Frag) (S : List Addr) (Iv : Hp → Prop) (P : Nat → Dt → Prop) (D : Addr) (H1 : Hp) (i : Nat) (H' : Hp) : Prop :=
  Kb S H1 H' ∧ Iv H' ∧ ∃ (xs : List V) (l : List Dt), H' D = some (.lst xs) ∧ l.length = i ∧ (∀ (j : Nat) (d : Dt), l[j]? = some d → P j d) ∧ RpLO (D :: S) K H' xs l
section
variable {K : PySem.W.Frag} {S : List Addr} {Iv : Hp → Prop} {P : Nat → Dt → Prop} {D : Addr} {H1 H' H4 : Hp} {i : Nat}
theorem Grow.start (nD : H1 D = none) (iv : Iv (upd H1 D (.lst []))) : Grow K S Iv P D H1 0 (upd H1 D (.lst [])) := ⟨Kb.refl.put nD, iv, [], [], upd_same, rfl, (fun j d e => by simp at e), .nil⟩
theorem Grow.kb (g : Grow K S Iv P D H1 i H') : Kb S H1 H' := g.1
theorem Grow.iv (g : Grow K S Iv P D H1 i H') : Iv H' := g.2.1
theorem Grow.at_ (g : Grow K S Iv P D H1 i H') : ∃ xs, H' D = some (.lst xs) := let ⟨_, _, xs, _, e, _⟩ := g; ⟨xs, e⟩
theorem Grow.ne (g : Grow K S Iv P D H1 i H') {p : Addr} (n : H' p = none) : p ≠ D := fun z => by obtain ⟨xs, e⟩ := g.at_; rw [z, e] at n; cases n
theorem Grow.step (g : Grow K S Iv P D H1 i H') (nD : H1 D = none) (DS : D ∉ S) (hi : i < 1000) (kb4 : Kb S H' H4) {y : V} {d : Dt} (hp : P i d) (r4 : RpO (D :: S) K H4 y d) (iv : ∀ acc, Iv (upd H4 D (.lst acc))) :
    ∃ acc, H4 D = some (.lst acc) ∧ acc.length < sizeLine ∧ Grow K S Iv P D H1 (i + 1) (upd H4 D (.lst (acc ++ [y]))) := by
  obtain ⟨kb, iv', xs, l, hD, hl, hP, hR⟩ := g
  refine ⟨xs, kb4 _ _ hD DS, ?_, (kb.trans kb4).put nD, iv _, xs ++ [y], l ++ [d], upd_same, by rw [List.length_append, hl]; rfl, fun j d' e => ?_, ?_⟩
  · rw [hR.length, hl]
    exact Nat.lt_of_lt_of_le (show i < 1000 by omega) (by decide)
  · by_cases hj : j < l.length
    · rw [List.getElem?_append_left hj] at e
      exact hP j d' e
    · rw [List.getElem?_append_right (by omega)] at e
      have hj0 : j - l.length = 0 := by
        cases q : j - l.length with
        | zero => rfl
        | succ k => rw [q] at e; simp at e
      rw [hj0] at e
      obtain rfl := Option.some.inj e
      have : j = i := by omega
      subst this
      exact hp
  · have k5 : Kb (D :: S) H4 (upd H4 D (.lst (xs ++ [y]))) := Kb.refl.set List.mem_cons_self
    exact ((hR.kb kb4.cons).kb k5).append (.cons (r4.kb k5) .nil)
theorem Grow.fin (g : Grow K S Iv P D H1 i H') : ∃ (xs : List V) (l : List Dt), H' D = some (.lst xs) ∧ l.length = i ∧ (∀ (j : Nat) (d : Dt), l[j]? = some d → P j d) ∧ RpLO (D :: S) K H' xs l := g.2.2
/-- the items are told one by one -/
theorem Grow.det {ds : List Dt} (g : Grow K S Iv (fun i d => ds[i]? = some d) D H1 ds.length H') : ∃ xs : List V, H' D = some (.lst xs) ∧ RpLO (D :: S) K H' xs ds := by
  obtain ⟨xs, l, e, hl, hP, hR⟩ := g.fin
  obtain rfl := list_det hl hP
  exact ⟨xs, e, hR⟩
theorem Grow.detN {ds : List Dt} {n : Nat} (h : n = ds.length) (g : Grow K S Iv (fun i d => ds[i]? = some d) D H1 n H') : ∃ xs : List V, H' D = some (.lst xs) ∧ RpLO (D :: S) K H' xs ds := by
  subst h; exact g.det
end
/-! ### rules that name the written part by a letter -/
section
variable {X : Cx} {K : PySem.W.Frag}
theorem pg_tupK {es : List Expr} {k : Nat} {t : TGs} {n : Nat} {pos : Pos} (hK : X.K = K) (hc : X.calm = true) (h : PGs X es t) (hn : (assignEach es X.env).length = n := by rfl) (hst : (assignEach es X.env).findIdx? (·.1) = none := by rfl) : PG X (.Tuple es k pos) (gTup K n t) := by
  subst hK; exact pg_tup hc h hn hst
theorem op_inK (hK : X.K = K) : OpR X (compareOp .In) (rIn K false) := by subst hK; exact op_in_seq
theorem op_notInK (hK : X.K = K) : OpR X (compareOp .NotIn) (rIn K true) := by subst hK; exact op_notIn_seq
end
def _root_.Vf.Dt.isStr : Dt → Bool
  | .str _ => true
  | _ => false
theorem isa_str : ∀ d : Dt, kitB d.ty "str" = some d.isStr
  | .non => show kitB "NoneType" "str" = some false by decide +kernel
  | .bl _ => show kitB "bool" "str" = some false by decide +kernel
  | .int _ => show kitB "int" "str" = some false by decide +kernel
  | .str _ => show kitB "str" "str" = some true by decide +kernel
  | .lst _ => show kitB "list" "str" = some false by decide +kernel
  | .tup _ => show kitB "tuple" "str" = some false by decide +kernel
  | .dct _ => show kitB "dict" "str" = some false by decide +kernel
/-! ### readings closed under weaker wishes; walks by one word -/
def tmE (t : TE) : TE := fun σ H Q => ∃ Q0 : VK, t σ H Q0 ∧ ∀ x H1, Q0 x H1 → Q x H1
def tmA (t : TA) : TA := fun σ H Q => ∃ Q0 : List V → Hp → Prop, t σ H Q0 ∧ ∀ x H1, Q0 x H1 → Q x H1
theorem pe_mono {X : Cx} {e : Expr} {t : TE} (h : PE X e t) : PE X e (tmE t) := ⟨fun pins s σ H Q I ⟨Q0, q, k⟩ => thn (h.run pins s σ H Q0 I q) fun u s1 ⟨v, H1, I1, r1, q1⟩ => ⟨v, H1, I1, r1, k _ _ q1⟩⟩
theorem pa_mono {X : Cx} {e : List Expr} {t : TA} (h : PA X e t) : PA X e (tmA t) := ⟨fun pos pins s σ H Q I ⟨Q0, q, k⟩ => thn (h.run pos pins s σ H Q0 I q) fun u s1 ⟨v, H1, I1, r1, q1⟩ => ⟨v, H1, I1, r1, k _ _ q1⟩⟩
theorem pi_imp {X : Cx} {tg l : Expr} {t t' : TI} (h : PI X tg l t) (i : ∀ σ H R, t' σ H R → t σ H R) : PI X tg l t' := ⟨fun pins s σ H R I q => h.run pins s σ H R I (i _ _ _ q)⟩
def SeqAsk (K : PySem.W.Frag) (R : It → Hp → Prop) : VK := fun x H1 => ∃ (a : Addr) (xs : List V), x = .ref a ∧ SqV K H1 a xs ∧ ∀ (J : It) (G : Hp → Prop), Walk J xs.length G (YAt xs) → (∀ H', Same H1 H' → G H') → R J H1
def iSeqV (K : PySem.W.Frag) (tl : TE) : TI := fun σ H R => tl σ H (SeqAsk K R)
theorem pi_seqV {X : Cx} {K : PySem.W.Frag} {tg l : Expr} {tl : TE} (hK : X.K = K) (hl : PE X l tl) : PI X tg l (iSeqV K tl) := by
  subst hK
  refine pi_imp (pi_seq (pe_mono hl)) fun σ H R q => ⟨_, q, fun x H1 ⟨a, xs, e, h, k⟩ => ?_⟩
  subst e
  exact seq_of h k
/-- the same, of what was there in an earlier heap -/
def SeqAskW (K : PySem.W.Frag) (R : It → Hp → Prop) : VK := fun x H1 => ∃ (a : Addr) (xs : List V) (H0 : Hp), x = .ref a ∧ SqV K H0 a xs ∧ Same H0 H1 ∧ ∀ (J : It) (G : Hp → Prop), Walk J xs.length G (YAt xs) → (∀ H', Same H0 H' → G H') → R J H1
def iSeqW (K : PySem.W.Frag) (tl : TE) : TI := fun σ H R => tl σ H (SeqAskW K R)
theorem pi_seqW {X : Cx} {K : PySem.W.Frag} {tg l : Expr} {tl : TE} (hK : X.K = K) (hl : PE X l tl) : PI X tg l (iSeqW K tl) := by
  subst hK
  refine pi_imp (pi_seq (pe_mono hl)) fun σ H R q => ⟨_, q, fun x H1 ⟨a, xs, H0, e, h, s, k⟩ => ?_⟩
  subst e
  exact seq_at h s k
def ZipAsk (K : PySem.W.Frag) (R : It → Hp → Prop) : List V → Hp → Prop := fun vs H1 => ∃ (a b : Addr) (xs ys : List V), vs = [.ref a, .ref b] ∧ SqV2 K H1 a b xs ys ∧ ∀ (J : It) (G : Hp → Prop), Walk J (min xs.length ys.length) G (YPair (fun i => xs[i]?) (fun i => ys[i]?)) → (∀ H', Same H1 H' → G H') → R J H1
def iZipV (K : PySem.W.Frag) (ta : TA) : TI := fun σ H R => ta σ H (ZipAsk K R)
theorem pi_zipV {X : Cx} {K : PySem.W.Frag} {e e2 : Expr} {ta : TA} {p pos tpos : Pos} {elts : List Expr} {kk : Nat} (hK : X.K = K) (hg : Gl X "zip") (hm : X.mg "zip" = none) (ha : PA X [e, e2] ta)
    (hs : starEach [e, e2] X.env = (false, eval e X.env) :: starEach [e2] X.env := by rfl) (hpl : (backTo pos (starEach [e2] X.env)).any (·.1) = false := by rfl) : PI X (.Tuple elts kk tpos) (.Call (.Name "zip" p) [e, e2] [] pos) (iZipV K ta) := by
  subst hK
  refine pi_imp (pi_zipA hg hm (pa_mono ha) hs hpl) fun σ H R q => ⟨_, q, fun x H1 ⟨a, b, xs, ys, e, h, k⟩ => ?_⟩
  subst e
  exact zip_of h k
end Vf
set_option Elab.async false
set_option linter.all false
set_option maxRecDepth 100000
set_option maxHeartbeats 4000000
namespace Kp11
open PySem PySem.Spec PyProof.Rows L2 Vf
def topS (i : Nat) : Stmt := PySem.Challenge.pw_exacttable_k11_frames_told_back.main.body.getD i (.Pass ⟨0, 0, 0, 0⟩)
abbrev s_is_whole : Stmt := topS 3
abbrev s_is_count : Stmt := topS 4
abbrev s_is_place : Stmt := topS 5
abbrev s_is_list : Stmt := topS 6
abbrev s_is_short_list : Stmt := topS 7
abbrev s_are_counts : Stmt := topS 8
abbrev s_are_rows : Stmt := topS 9
abbrev s_is_cap : Stmt := topS 16
abbrev s_wanted_sums : Stmt := topS 17
abbrev s_wanted_caps : Stmt := topS 18
abbrev s_Frame_init : Stmt := inClass (topS 19) 0
abbrev s_Frame_rows : Stmt := inClass (topS 19) 1
abbrev s_Frame_columns : Stmt := inClass (topS 19) 2
abbrev s_Frame_caps : Stmt := inClass (topS 19) 3
abbrev s_Frame_cap : Stmt := inClass (topS 19) 4
abbrev s_l_cell_at : Stmt := topS 21
abbrev s_l_tape : Stmt := topS 22
abbrev s_l_digit : Stmt := topS 23
abbrev s_l_as : Stmt := topS 24
abbrev s_l_count : Stmt := topS 25
abbrev s_l_caps : Stmt := topS 26
abbrev s_l_made : Stmt := topS 27
abbrev s_l_told : Stmt := topS 28
abbrev s_law : Stmt := topS 29
/-! ### what the top has written -/
structure Txt (K : PySem.W.Frag) (mg : Str → Option Value) (C : Nat → Addr) (tG tL : Tok) : Prop where
  c_GREATEST : mg "GREATEST" = some (.int 1000000000000 tG)
  c_LONGEST : mg "LONGEST" = some (.int 6 tL)
  n_isinstance : mg "isinstance" = none
  n_len : mg "len" = none
  n_all : mg "all" = none
  n_range : mg "range" = none
  n_int : mg "int" = none
  n_bool : mg "bool" = none
  n_list : mg "list" = none
  n_tuple : mg "tuple" = none
  n_repr : mg "repr" = none
  n_max : mg "max" = none
  n_min : mg "min" = none
  NoSums : ExcF K mg "NoSums" (C 0) (C 17)
  NoCaps : ExcF K mg "NoCaps" (C 1) (C 17)
  NoCell : ExcF K mg "NoCell" (C 10) (C 17)
/-! ### the mirror of the checks -/
def isWhole : Dt → Bool
  | .int _ => true
  | _ => false
def isCount : Dt → Bool
  | .int i => decide (0 ≤ i) && decide (i ≤ 1000000000000)
  | _ => false
def isShort (d : Dt) : Bool := match d.items with
  | some l => decide (1 ≤ l.length) && decide (l.length ≤ 6)
  | none => false
def areCounts (d : Dt) : Bool := isShort d && (d.items.getD []).all isCount
theorem isWhole_eq (d : Dt) (e : d.isInt = true) : isWhole d = !d.isBool := by cases d <;> first | rfl | (cases e; done)
theorem isWhole_no (d : Dt) (e : ¬ d.isInt = true) : isWhole d = false := by cases d <;> first | rfl | (exact absurd rfl e)
theorem isCount_no (d : Dt) (e : ¬ isWhole d = true) : isCount d = false := by cases d <;> first | rfl | (exact absurd rfl e)
theorem isWhole_int (d : Dt) (e : isWhole d = true) : ∃ i, d = .int i := by cases d <;> first | exact ⟨_, rfl⟩ | (cases e; done)
theorem isCount_int (d : Dt) (e : isCount d = true) : ∃ i : Int, d = .int i ∧ 0 ≤ i ∧ i ≤ 1000000000000 := by
  cases d with
  | int i =>
    have h : (decide (0 ≤ i) && decide (i ≤ 1000000000000)) = true := e
    rw [Bool.and_eq_true, decide_eq_true_eq, decide_eq_true_eq] at h
    exact ⟨i, rfl, h.1, h.2⟩
  | _ => cases e
theorem all_counts : ∀ {l : List Dt}, l.all isCount = true → ∃ ns : List Int, l = ns.map Dt.int ∧ ∀ n ∈ ns, 0 ≤ n ∧ n ≤ 1000000000000
  | [], _ => ⟨[], rfl, fun _ h => by cases h⟩
  | d :: l, h => by
    rw [List.all_cons, Bool.and_eq_true] at h
    obtain ⟨i, rfl, h1, h2⟩ := isCount_int d h.1
    obtain ⟨ns, rfl, h3⟩ := all_counts h.2
    refine ⟨i :: ns, rfl, fun n hn => ?_⟩
    rcases List.mem_cons.mp hn with rfl | hn
    · exact ⟨h1, h2⟩
    · exact h3 n hn

/-! ### the promises -/
def sp_is_whole (K : PySem.W.Frag) : Sp := fun vs H Q _ => ∃ v d, vs = [v] ∧ Rp K H v d ∧ Q (.bl (isWhole d)) H
def sp_is_count (K : PySem.W.Frag) : Sp := fun vs H Q _ => ∃ v d, vs = [v] ∧ Rp K H v d ∧ Q (.bl (isCount d)) H
def sp_is_list (K : PySem.W.Frag) : Sp := fun vs H Q _ => ∃ v d, vs = [v] ∧ Rp K H v d ∧ ∀ H', Same H H' → Q (.bl d.items.isSome) H'
def sp_is_short_list (K : PySem.W.Frag) : Sp := fun vs H Q _ => ∃ v d, vs = [v] ∧ Rp K H v d ∧ ∀ H', Same H H' → Q (.bl (isShort d)) H'
def sp_are_counts (K : PySem.W.Frag) : Sp := fun vs H Q _ => ∃ v d, vs = [v] ∧ Rp K H v d ∧ ∀ H', Same H H' → Q (.bl (areCounts d)) H'
def sp_wanted_sums (K : PySem.W.Frag) (N0 : Addr) : Sp := fun vs H Q E => ∃ v d, vs = [v] ∧ Rp K H v d ∧ (areCounts d = false → ∀ H', Same H H' → E (.ref N0) none H') ∧
  (areCounts d = true → ∀ (ns : List Int) (H' : Hp) (p : Addr), d.items = some (ns.map Dt.int) → Same H H' → SqT K H' p (ns.map V.int) → Q (.ref p) H')
section
variable {P : Program} {w : World} {K : PySem.W.Frag} {mg : Str → Option Value} {base : Heap} {C : Nat → Addr} {tG tL : Tok}
theorem sc_is_whole : FnScope ["thing"] ["thing"] (defScope s_is_whole) :=
  ⟨rfl, rfl, rfl, by decide +kernel, rfl, by decide +kernel, by decide +kernel⟩
theorem ok_is_whole {f : Addr} {fd : FuncData} (F : Fun K "is_whole" "is_whole" s_is_whole f fd) (T : Txt K mg C tG tL) : FnOk P w K mg base CX0 1 f fd ["thing"] (sp_is_whole K) := by
  refine F.ok sc_is_whole (fun vs H Q E ⟨v, d, e, _⟩ => by rw [e]; rfl) (fun cdv A outer s H vs Q E hr h => ?_)
  obtain ⟨v, d, rfl, R, q⟩ := h
  refine ⟨_, (pss_one (ps_ret (pe_and (pe_callB (isiK (K := K) rfl) (by rfl) T.n_isinstance (by decide +kernel) (pa_cons (pv 0) (pa_cons (pe_bltn (v := .ty "int") (by rfl) T.n_int (by decide +kernel) rfl) pa_nil))) (pe_one (pe_not (pe_callB (isiK (K := K) rfl) (by rfl) T.n_isinstance (by decide +kernel) (pa_cons (pv 0) (pa_cons (pe_bltn (v := .ty "bool") (by rfl) T.n_bool (by decide +kernel) rfl) pa_nil)))))))), ?_⟩
  refine ⟨v, rfl, v, _, _, _, d.isInt, rfl, .ty _, R.ty, kit_ty (isa_int d), _, rfl, ite2 (fun e => ?_) (fun e => ?_)⟩
  · refine ⟨v, rfl, v, _, _, _, d.isBool, rfl, .ty _, R.ty, kit_ty (isa_bool d), _, rfl, ?_⟩
    rw [isWhole_eq d e] at q
    exact q
  · rw [isWhole_no d e] at q
    exact q
theorem sc_is_count : FnScope ["thing"] ["thing"] (defScope s_is_count) :=
  ⟨rfl, rfl, rfl, by decide +kernel, rfl, by decide +kernel, by decide +kernel⟩
theorem ok_is_count {f : Addr} {fd : FuncData} (F : Fun K "is_count" "is_count" s_is_count f fd) (T : Txt K mg C tG tL) (c_is_whole : Cal P w K mg base CX0 1 "is_whole" ["thing"] (sp_is_whole K)) : FnOk P w K mg base CX0 2 f fd ["thing"] (sp_is_count K) := by
  refine F.ok sc_is_count (fun vs H Q E ⟨v, d, e, _⟩ => by rw [e]; rfl) (fun cdv A outer s H vs Q E hr h => ?_)
  obtain ⟨v, d, rfl, R, q⟩ := h
  refine ⟨_, (pss_one (ps_ret (pe_and (pe_cal c_is_whole (hr.mono (by decide)) (by rfl) pass0 (pa_cons (pv 0) pa_nil)) (pe_one (pe_chain op_le op_le pe_int (pv 0) (pe_glob (v := .int 1000000000000) (by rfl) T.c_GREATEST ⟨_, rfl⟩)))))), ?_⟩
  refine ⟨v, rfl, v, d, rfl, R, _, rfl, ite2 (fun e => ?_) (fun e => ?_)⟩
  · obtain ⟨i, rfl⟩ := isWhole_int d e
    cases R
    refine ⟨.int i, rfl, 0, i, rfl, rfl, _, rfl, ite2 (fun e => ?_) (fun e => ?_)⟩
    · refine ⟨i, 1000000000000, rfl, rfl, ?_⟩
      have h : isCount (.int i) = decide (i ≤ 1000000000000) := by show (decide (0 ≤ i) && decide (i ≤ 1000000000000)) = _; rw [e, Bool.true_and]
      rw [h] at q
      exact q
    · have h : isCount (.int i) = false := by
        show (decide (0 ≤ i) && decide (i ≤ 1000000000000)) = _
        rw [Bool.eq_false_iff.mpr e, Bool.false_and]
      rw [h] at q
      exact q
  · rw [isCount_no d e] at q
    exact q
theorem sc_is_list : FnScope ["thing"] ["thing"] (defScope s_is_list) :=
  ⟨rfl, rfl, rfl, by decide +kernel, rfl, by decide +kernel, by decide +kernel⟩
theorem ok_is_list {f : Addr} {fd : FuncData} (F : Fun K "is_list" "is_list" s_is_list f fd) (T : Txt K mg C tG tL) : FnOk P w K mg base CX0 1 f fd ["thing"] (sp_is_list K) := by
  refine F.ok sc_is_list (fun vs H Q E ⟨v, d, e, _⟩ => by rw [e]; rfl) (fun cdv A outer s H vs Q E hr h => ?_)
  obtain ⟨v, d, rfl, R, q⟩ := h
  refine ⟨_, (pss_one (ps_ret (pe_callB (isiTK (K := K) rfl) (by rfl) T.n_isinstance (by decide +kernel) (pa_cons (pv 0) (pa_cons (pe_tup (pa_cons (pe_bltn (v := .ty "list") (by rfl) T.n_list (by decide +kernel) rfl) (pa_cons (pe_bltn (v := .ty "tuple") (by rfl) T.n_tuple (by decide +kernel) rfl) pa_nil))) pa_nil))))), ?_⟩
  refine ⟨v, rfl, (by show 2 ≤ sizeLine; decide), fun p np => ?_⟩
  exact ⟨v, p, _, _, _, _, rfl, upd_same, .cons (.ty "list") (.cons (.ty "tuple") .nil), (R.same (same_upd np)).ty, isa_seq d, q _ (same_upd np)⟩
theorem sc_is_short_list : FnScope ["thing"] ["thing"] (defScope s_is_short_list) :=
  ⟨rfl, rfl, rfl, by decide +kernel, rfl, by decide +kernel, by decide +kernel⟩
theorem ok_is_short_list {f : Addr} {fd : FuncData} (F : Fun K "is_short_list" "is_short_list" s_is_short_list f fd) (T : Txt K mg C tG tL) (c_is_list : Cal P w K mg base CX0 1 "is_list" ["thing"] (sp_is_list K)) : FnOk P w K mg base CX0 2 f fd ["thing"] (sp_is_short_list K) := by
  refine F.ok sc_is_short_list (fun vs H Q E ⟨v, d, e, _⟩ => by rw [e]; rfl) (fun cdv A outer s H vs Q E hr h => ?_)
  obtain ⟨v, d, rfl, R, q⟩ := h
  refine ⟨_, (pss_one (ps_ret (pe_and (pe_cal c_is_list (hr.mono (by decide)) (by rfl) pass0 (pa_cons (pv 0) pa_nil)) (pe_one (pe_chain op_le op_le pe_int (pe_callB (len_ofK (K := K) rfl) (by rfl) T.n_len (by decide +kernel) (pa_cons (pv 0) pa_nil)) (pe_glob (v := .int 6) (by rfl) T.c_LONGEST ⟨_, rfl⟩)))))), ?_⟩
  refine ⟨v, rfl, v, d, rfl, R, fun H1 s1 => ⟨_, rfl, ite2 (fun e => ?_) (fun e => ?_)⟩⟩
  · obtain ⟨l, el⟩ := Option.isSome_iff_exists.mp e
    obtain ⟨a, xs, rfl, hS, hR⟩ := R.items_some el
    have hlen := hR.length
    have hq : isShort d = (decide (1 ≤ l.length) && decide (l.length ≤ 6)) := by unfold isShort; rw [el]
    refine ⟨.ref a, rfl, a, xs, rfl, hS.same s1, 1, _, rfl, rfl, _, rfl, ite2 (fun e => ?_) (fun e => ?_)⟩
    · refine ⟨_, 6, rfl, rfl, ?_⟩
      have e1 : 1 ≤ l.length := by have := of_decide_eq_true e; omega
      have e2 : decide (((xs.length : Nat) : Int) ≤ 6) = decide (l.length ≤ 6) := by rw [hlen]; exact decide_eq_decide.mpr ⟨fun z => by omega, fun z => by omega⟩
      have q2 := q H1 s1
      rw [hq, decide_eq_true e1, Bool.true_and, ← e2] at q2
      exact q2
    · have e1 : ¬ 1 ≤ l.length := fun z => e (decide_eq_true (by omega))
      have q2 := q H1 s1
      rw [hq, decide_eq_false e1, Bool.false_and] at q2
      exact q2
  · have hq : isShort d = false := by
      unfold isShort
      cases z : d.items with
      | none => rfl
      | some l => rw [z] at e; exact absurd rfl e
    have q2 := q H1 s1
    rw [hq] at q2
    exact q2
theorem sc_are_counts : FnScope ["thing", "item"] ["thing"] (defScope s_are_counts) :=
  ⟨rfl, rfl, rfl, by decide +kernel, rfl, by decide +kernel, by decide +kernel⟩
theorem ok_are_counts {f : Addr} {fd : FuncData} (F : Fun K "are_counts" "are_counts" s_are_counts f fd) (T : Txt K mg C tG tL) (c_is_short_list : Cal P w K mg base CX0 2 "is_short_list" ["thing"] (sp_is_short_list K)) (c_is_count : Cal P w K mg base CX0 2 "is_count" ["thing"] (sp_is_count K)) :
    FnOk P w K mg base CX0 3 f fd ["thing"] (sp_are_counts K) := by
  refine F.ok sc_are_counts (fun vs H Q E ⟨v, d, e, _⟩ => by rw [e]; rfl) (fun cdv A outer s H vs Q E hr h => ?_)
  obtain ⟨v, d, rfl, R, q⟩ := h
  refine ⟨_, (pss_one (ps_ret (pe_and (pe_cal c_is_short_list (hr.mono (by decide)) (by rfl) pass0 (pa_cons (pv 0) pa_nil)) (pe_one (pe_callB (allK (K := K) rfl rfl) (by rfl) T.n_all (by decide +kernel) (pa_cons (pe_lcS (own := [("item", 1)]) (by rfl) sc_are_counts.nd (pv 0) mono_var (blkOk_by (own := [("item", 1)]) (N := ["thing", "item"]) (sc := defScope s_are_counts) (by decide +kernel)) (fun _ _ _ _ _ => (pg_name (i := 1) sc_are_counts.nd rfl (by first | exact Or.inl rfl | exact Or.inr rfl))) (fun _ _ _ _ _ => pts_nil) (fun _ _ _ _ _ => (pe_cal c_is_count (hr.mono (by decide)) (by rfl) pass0 (pa_cons (pv 1) pa_nil)))) pa_nil)))))), ?_⟩
  refine ⟨v, rfl, v, d, rfl, R, fun H1 s1 => ⟨_, rfl, ite2 (fun e => ?_) (fun e => ?_)⟩⟩
  · obtain ⟨l, el⟩ : ∃ l, d.items = some l := by
      cases z : d.items with
      | some l => exact ⟨l, rfl⟩
      | none =>
        unfold isShort at e
        rw [z] at e
        cases e
    obtain ⟨a, xs, rfl, hS, hR⟩ := (R.same s1).items_some el
    have hlen := hR.length
    have short : l.length ≤ 6 := by
      unfold isShort at e
      rw [el] at e
      have e : (decide (1 ≤ l.length) && decide (l.length ≤ 6)) = true := e
      rw [Bool.and_eq_true, decide_eq_true_eq, decide_eq_true_eq] at e
      exact e.2
    have hq : areCounts d = l.all isCount := by unfold areCounts; rw [e, el]; rfl
    refine ⟨.ref a, rfl, a, xs, (fun D i H' => Same H1 H' ∧ H' D = some (.lst (((l.take i).map isCount).map V.bl))), rfl, hS, (fun D nD => ⟨same_upd nD, upd_same⟩), (fun D i H' nD _ p => p.1), (fun D i x H' nD hx p => ?_), (fun D H' nD p => ?_)⟩
    · obtain ⟨y, hy, rxy⟩ := hR.get hx
      refine ⟨rfl, x, rfl, x, y, rfl, rxy.same p.1, _, p.2, ?_, ?_, ?_⟩
      · rw [List.length_map, List.length_map, List.length_take]
        exact Nat.lt_of_le_of_lt (Nat.le_trans (Nat.min_le_right _ _) short) (by decide)
      · exact fun b o e => by rw [upd_ne (ne_of_none e nD)]; exact p.1 b o e
      · rw [upd_same, List.take_add_one, hy]
        simp
    · rw [hlen, List.take_length] at p
      refine ⟨D, l.map isCount, rfl, .inl (.inl p.2), ?_⟩
      have q2 := q H' (s1.trans p.1)
      rw [hq] at q2
      rw [List.all_map]
      exact q2
  · have q2 := q H1 s1
    unfold areCounts at q2
    rw [Bool.eq_false_iff.mpr e, Bool.false_and] at q2
    exact q2
theorem sc_wanted_sums : FnScope ["thing"] ["thing"] (defScope s_wanted_sums) :=
  ⟨rfl, rfl, rfl, by decide +kernel, rfl, by decide +kernel, by decide +kernel⟩
theorem ok_wanted_sums {f : Addr} {fd : FuncData} (F : Fun K "wanted_sums" "wanted_sums" s_wanted_sums f fd) (T : Txt K mg C tG tL) (c_are_counts : Cal P w K mg base CX0 3 "are_counts" ["thing"] (sp_are_counts K)) : FnOk P w K mg base (L2.CX P w) 4 f fd ["thing"] (sp_wanted_sums K (C 0)) := by
  refine F.okX sc_wanted_sums (fun vs H Q E ⟨v, d, e, _⟩ => by rw [e]; rfl) (fun cdv A outer s H vs Q E hr h => ?_)
  obtain ⟨v, d, rfl, R, q1, q2⟩ := h
  refine ⟨_, (pss_cons (ps_if (pt_not (pt_val (pe_cal c_are_counts (hr.mono (by decide)) (by rfl) pass0 (pa_cons (pv 0) pa_nil))))
  (pss_one (ps_raise rfl (takes_of rfl rfl rfl rfl) (pmk_own PySem.F.excBase_ValueError T.NoSums.x T.NoSums.g T.NoSums.k (raises_own T.NoSums.b T.NoSums.t) (by exact rfl))))
  pss_nil)
  (pss_one (ps_ret (pe_callTy (tuple_ofK (K := K) rfl) (by rfl) T.n_tuple (by decide +kernel) (pa_cons (pv 0) pa_nil))))), ?_⟩
  refine ⟨v, rfl, v, d, rfl, R, fun H1 s1 => ⟨_, rfl, ?_⟩⟩
  cases e : areCounts d with
  | false => exact iteT (q1 e H1 s1)
  | true =>
    refine iteF ?_
    unfold areCounts at e
    rw [Bool.and_eq_true] at e
    obtain ⟨l, el⟩ : ∃ l, d.items = some l := by
      cases z : d.items with
      | some l => exact ⟨l, rfl⟩
      | none =>
        have e := e.1
        unfold isShort at e
        rw [z] at e
        cases e
    have ec := e.2
    rw [el] at ec
    obtain ⟨ns, rfl, hns⟩ := all_counts (l := l) ec
    obtain ⟨a, xs, rfl, hS, hR⟩ := (R.same s1).items_some el
    have ex : xs = ns.map V.int := by
      clear el ec hS q1 q2 e hns
      induction ns generalizing xs with
      | nil => cases hR; rfl
      | cons n ns ih =>
        cases hR with
        | cons h1 h2 =>
          cases h1
          rw [ih _ h2]
          rfl
    subst ex
    have ac : areCounts d = true := by unfold areCounts; rw [e.1, el]; exact ec
    refine ⟨.ref a, rfl, a, ns.map V.int, rfl, ?_⟩
    rcases hS with hS | hS
    · exact .inl ⟨hS, fun p np => q2 ac ns _ p el (s1.trans (same_upd np)) (SqT.of upd_same)⟩
    · exact .inr ⟨hS, q2 ac ns _ a el s1 hS⟩
end
end Kp11
set_option Elab.async false
set_option linter.all false
set_option maxRecDepth 100000
set_option maxHeartbeats 4000000
namespace Kp11
open PySem PySem.Spec PyProof.Rows L2 Vf
/-! ### caps, frames -/
def capV : Option Int → V
  | none => .non
  | some i => .int i
def isCap : Dt → Bool
  | .non => true
  | d => isCount d
def isCapRow (w : Nat) (d : Dt) : Bool := match d.items with
  | some l => decide (l.length = w) && l.all isCap
  | none => false
def isRow (w : Nat) (d : Dt) : Bool := match d.items with
  | some l => decide (l.length = w)
  | none => false
def areRows (h w : Nat) (d : Dt) : Bool := match d.items with
  | some l => decide (l.length = h) && l.all (isRow w)
  | none => false
theorem isRow_some {w : Nat} {d : Dt} (h : isRow w d = true) : ∃ l, d.items = some l ∧ l.length = w := by
  unfold isRow at h
  cases z : d.items with
  | none => rw [z] at h; cases h
  | some l => rw [z] at h; exact ⟨l, rfl, of_decide_eq_true h⟩
theorem isCapRow_row {w : Nat} {d : Dt} : isCapRow w d = (isRow w d && (d.items.getD []).all isCap) := by
  unfold isCapRow isRow
  cases z : d.items with
  | none => rfl
  | some l => rfl
theorem areRows_some {h w : Nat} {d : Dt} (e : areRows h w d = true) : ∃ l, d.items = some l ∧ l.length = h ∧ l.all (isRow w) = true := by
  unfold areRows at e
  cases z : d.items with
  | none => rw [z] at e; cases e
  | some l =>
    rw [z] at e
    have e : (decide (l.length = h) && l.all (isRow w)) = true := e
    rw [Bool.and_eq_true, decide_eq_true_eq] at e
    exact ⟨l, rfl, e⟩
theorem all_capRow {w : Nat} : ∀ l : List Dt, l.all (isCapRow w) = (l.all (isRow w) && (l.flatMap fun r => r.items.getD []).all isCap)
  | [] => rfl
  | d :: l => by
    rw [List.all_cons, List.all_cons, List.flatMap_cons, List.all_append, all_capRow l, isCapRow_row]
    cases isRow w d <;> cases (d.items.getD []).all isCap <;> cases l.all (isRow w) <;> rfl
def capsOk (d : Dt) (h w : Nat) : Bool := match d with
  | .non => true
  | _ => match d.items with
    | some l => decide (l.length = h) && l.all (isCapRow w)
    | none => false
def capInt : Dt → Option Int
  | .int i => some i
  | _ => none
def capsOf (d : Dt) (h w : Nat) : List (List (Option Int)) := match d with
  | .non => List.replicate h (List.replicate w none)
  | _ => (d.items.getD []).map fun r => (r.items.getD []).map capInt
def isPlace (n : Nat) : Dt → Bool
  | .int i => decide (0 ≤ i) && decide (i < n)
  | _ => false
theorem isCap_capV {K : PySem.W.Frag} {H : Hp} {v : V} {d : Dt} (r : Rp K H v d) (h : isCap d = true) : v = capV (capInt d) := by
  cases d with
  | non => cases r; rfl
  | int i => cases r; rfl
  | _ => cases h
theorem caps_row {K : PySem.W.Frag} {H : Hp} : ∀ {xs : List V} {l : List Dt}, RpL K H xs l → l.all isCap = true → xs = (l.map capInt).map capV
  | _, _, .nil, _ => rfl
  | _, _, .cons h r, e => by
    rw [List.all_cons, Bool.and_eq_true] at e
    rw [isCap_capV h e.1, caps_row r e.2]
    rfl
/-- tuples at ks that hold the rows ms -/
inductive RowsT (K : PySem.W.Frag) (H : Hp) : List Addr → List (List (Option Int)) → Prop
  | nil : RowsT K H [] []
  | cons {k : Addr} {ks : List Addr} {m : List (Option Int)} {ms : List (List (Option Int))} : SqT K H k (m.map capV) → RowsT K H ks ms → RowsT K H (k :: ks) (m :: ms)
section
variable {K : PySem.W.Frag} {H H' : Hp}
theorem RowsT.imp (f : ∀ k xs, SqT K H k xs → SqT K H' k xs) : ∀ {ks : List Addr} {ms : List (List (Option Int))}, RowsT K H ks ms → RowsT K H' ks ms
  | _, _, .nil => .nil
  | _, _, .cons h r => .cons (f _ _ h) (RowsT.imp f r)
theorem RowsT.same (s : Same H H') {ks : List Addr} {ms : List (List (Option Int))} (r : RowsT K H ks ms) : RowsT K H' ks ms := r.imp fun _ _ h => Same.seqT s h
theorem RowsT.length : ∀ {ks : List Addr} {ms : List (List (Option Int))}, RowsT K H ks ms → ks.length = ms.length
  | _, _, .nil => rfl
  | _, _, .cons _ r => congrArg (· + 1) (RowsT.length r)
theorem RowsT.get : ∀ {ks : List Addr} {ms : List (List (Option Int))} {i : Nat} {k : Addr}, RowsT K H ks ms → ks[i]? = some k → ∃ m, ms[i]? = some m ∧ SqT K H k (m.map capV)
  | _, _, _, _, .nil, e => by simp at e
  | _, _, 0, _, .cons h _, e => by
    obtain rfl := Option.some.inj e
    exact ⟨_, rfl, h⟩
  | _, _, i + 1, k, .cons _ r, e => RowsT.get (i := i) (k := k) r e
theorem RowsT.append {ks ks' : List Addr} {ms ms' : List (List (Option Int))} : RowsT K H ks ms → RowsT K H ks' ms' → RowsT K H (ks ++ ks') (ms ++ ms')
  | .nil, r => r
  | .cons h q, r => .cons h (RowsT.append q r)
theorem RowsT.rep {k : Addr} {m : List (Option Int)} (h : SqT K H k (m.map capV)) : ∀ n : Nat, RowsT K H (List.replicate n k) (List.replicate n m)
  | 0 => .nil
  | n + 1 => by rw [List.replicate_succ, List.replicate_succ]; exact .cons h (RowsT.rep h n)
/-- a change at a list or an instance leaves the tuples -/
theorem sqT_upd {k p : Addr} {xs : List V} {u o : HO} (h : SqT K H k xs) (hp : H p = some u) (n1 : ∀ ys, u ≠ .tup ys) (n2 : ∀ ob w, u ≠ .frz ob w) : SqT K (upd H p o) k xs := by
  rcases h with (h | ⟨ob, h⟩) | h
  · exact .inl (.inl (by rw [upd_ne (fun z => by rw [z, hp] at h; exact n1 _ (Option.some.inj h))]; exact h))
  · exact .inl (.inr ⟨ob, by rw [upd_ne (fun z => by rw [z, hp] at h; exact n2 _ _ (Option.some.inj h))]; exact h⟩)
  · exact .inr h
end
/-- lists at ls that hold the rows ms, none of them tracked in H -/
inductive RowsL (H H' : Hp) : List Addr → List (List (Option Int)) → Prop
  | nil : RowsL H H' [] []
  | cons {k : Addr} {ks : List Addr} {m : List (Option Int)} {ms : List (List (Option Int))} : H k = none → H' k = some (.lst (m.map capV)) → RowsL H H' ks ms → RowsL H H' (k :: ks) (m :: ms)
theorem RowsL.keep {H H1 H2 : Hp} : ∀ {ks : List Addr} {ms : List (List (Option Int))}, RowsL H H1 ks ms → (∀ b o, H b = none → H1 b = some (.lst o) → b ∈ ks → H2 b = some (.lst o)) → RowsL H H2 ks ms
  | _, _, .nil, _ => .nil
  | _, _, .cons h1 h2 r, f => .cons h1 (f _ _ h1 h2 List.mem_cons_self) (r.keep fun b o e1 e2 hb => f b o e1 e2 (List.mem_cons_of_mem _ hb))
theorem RowsL.append {H H' : Hp} {ks ks' : List Addr} {ms ms' : List (List (Option Int))} : RowsL H H' ks ms → RowsL H H' ks' ms' → RowsL H H' (ks ++ ks') (ms ++ ms')
  | .nil, r => r
  | .cons h1 h2 q, r => .cons h1 h2 (RowsL.append q r)
theorem RowsL.length {H H' : Hp} : ∀ {ks : List Addr} {ms : List (List (Option Int))}, RowsL H H' ks ms → ks.length = ms.length
  | _, _, .nil => rfl
  | _, _, .cons _ _ r => congrArg (· + 1) (RowsL.length r)
def ff (a b c : V) : List (Str × V) := putF "cell_caps" c (putF "column_sums" b (putF "row_sums" a []))
theorem n_rc : ¬ ("row_sums" : Str) = "column_sums" := by decide +kernel
theorem n_rk : ¬ ("row_sums" : Str) = "cell_caps" := by decide +kernel
theorem n_ck : ¬ ("column_sums" : Str) = "cell_caps" := by decide +kernel
theorem ff_r (a b c : V) : (ff a b c).lookup ("row_sums" : Str) = some a := by unfold ff; rw [lookup_putF, if_neg n_rk, lookup_putF, if_neg n_rc, lookup_putF, if_pos rfl]
theorem ff_c (a b c : V) : (ff a b c).lookup ("column_sums" : Str) = some b := by unfold ff; rw [lookup_putF, if_neg n_ck, lookup_putF, if_pos rfl]
theorem ff_k (a b c : V) : (ff a b c).lookup ("cell_caps" : Str) = some c := by unfold ff; rw [lookup_putF, if_pos rfl]
theorem ff_no (a b c : V) {m : Str} (h1 : ¬ m = "cell_caps") (h2 : ¬ m = "column_sums") (h3 : ¬ m = "row_sums") : (ff a b c).lookup m = none := by
  unfold ff
  rw [lookup_putF, if_neg h1, lookup_putF, if_neg h2, lookup_putF, if_neg h3]
  rfl
/-- the frame at p -/
structure FrameAt (K : PySem.W.Frag) (CF : Addr) (H : Hp) (p : Addr) (rs cs : List Int) (ms : List (List (Option Int))) : Prop where
  ex : ∃ (dx tr tc tk : Addr) (ks : List Addr), H p = some (.ins CF dx (ff (.ref tr) (.ref tc) (.ref tk))) ∧ SqT K H tr (rs.map V.int) ∧ SqT K H tc (cs.map V.int) ∧ SqT K H tk (ks.map V.ref) ∧ RowsT K H ks ms
  high : ms.length = rs.length
  wide : ∀ m ∈ ms, m.length = cs.length
theorem FrameAt.same {K : PySem.W.Frag} {CF : Addr} {H H' : Hp} {p : Addr} {rs cs : List Int} {ms : List (List (Option Int))} (F : FrameAt K CF H p rs cs ms) (s : Same H H') : FrameAt K CF H' p rs cs ms := by
  obtain ⟨dx, tr, tc, tk, ks, h1, h2, h3, h4, h5⟩ := F.ex
  exact ⟨⟨dx, tr, tc, tk, ks, s _ _ h1, Same.seqT s h2, Same.seqT s h3, Same.seqT s h4, h5.same s⟩, F.high, F.wide⟩
structure FrT (K : PySem.W.Frag) (mg : Str → Option Value) (CF : Addr) : Prop where
  g : mg "Frame" = some (.ref CF)
  cl : Cls K CF
  nr : NoAttr K CF "row_sums"
  nc : NoAttr K CF "column_sums"
  nk : NoAttr K CF "cell_caps"
def sp_is_place (K : PySem.W.Frag) : Sp := fun vs H Q _ => ∃ (v : V) (d : Dt) (n : Nat), vs = [v, .int n] ∧ Rp K H v d ∧ Q (.bl (isPlace n d)) H
def sp_is_cap (K : PySem.W.Frag) : Sp := fun vs H Q _ => ∃ v d, vs = [v] ∧ Rp K H v d ∧ Q (.bl (isCap d)) H
def sp_are_rows (K : PySem.W.Frag) : Sp := fun vs H Q _ => ∃ (v : V) (d : Dt) (h w : Nat), vs = [v, .int h, .int w] ∧ Rp K H v d ∧ h ≤ 6 ∧ ∀ H', Same H H' → Q (.bl (areRows h w d)) H'
def sp_wanted_caps (K : PySem.W.Frag) (N1 : Addr) : Sp := fun vs H Q E => ∃ (v : V) (d : Dt) (h w : Nat), vs = [v, .int h, .int w] ∧ Rp K H v d ∧ 1 ≤ h ∧ h ≤ 6 ∧ 1 ≤ w ∧ w ≤ 6 ∧ (capsOk d h w = false → ∀ H', Same H H' → E (.ref N1) none H') ∧
  (capsOk d h w = true → ∀ (H' : Hp) (p : Addr) (ks : List Addr), Same H H' → SqT K H' p (ks.map V.ref) → RowsT K H' ks (capsOf d h w) → Q (.ref p) H')
section
variable {P : Program} {w : World} {K : PySem.W.Frag} {mg : Str → Option Value} {base : Heap} {C : Nat → Addr} {tG tL : Tok}
theorem sc_is_place : FnScope ["thing", "many"] ["thing", "many"] (defScope s_is_place) :=
  ⟨rfl, rfl, rfl, by decide +kernel, rfl, by decide +kernel, by decide +kernel⟩
theorem ok_is_place {f : Addr} {fd : FuncData} (F : Fun K "is_place" "is_place" s_is_place f fd) (T : Txt K mg C tG tL) (c_is_whole : Cal P w K mg base CX0 1 "is_whole" ["thing"] (sp_is_whole K)) : FnOk P w K mg base CX0 2 f fd ["thing", "many"] (sp_is_place K) := by
  refine F.ok sc_is_place (fun vs H Q E ⟨v, d, n, e, _⟩ => by rw [e]; rfl) (fun cdv A outer s H vs Q E hr h => ?_)
  obtain ⟨v, d, n, rfl, R, q⟩ := h
  refine ⟨_, (pss_one (ps_ret (pe_and (pe_cal c_is_whole (hr.mono (by decide)) (by rfl) pass0 (pa_cons (pv 0) pa_nil)) (pe_one (pe_chain op_le op_lt pe_int (pv 0) (pv 1)))))), ?_⟩
  refine ⟨v, rfl, v, d, rfl, R, _, rfl, ite2 (fun e => ?_) (fun e => ?_)⟩
  · obtain ⟨i, rfl⟩ := isWhole_int d e
    cases R
    refine ⟨.int i, rfl, 0, i, rfl, rfl, _, rfl, ite2 (fun e => ?_) (fun e => ?_)⟩
    · refine ⟨.int n, rfl, i, n, rfl, rfl, ?_⟩
      have h : isPlace n (.int i) = decide (i < n) := by show (decide (0 ≤ i) && decide (i < n)) = _; rw [e, Bool.true_and]
      rw [h] at q
      exact q
    · have h : isPlace n (.int i) = false := by
        show (decide (0 ≤ i) && decide (i < n)) = _
        rw [Bool.eq_false_iff.mpr e, Bool.false_and]
      rw [h] at q
      exact q
  · have h : isPlace n d = false := by cases d <;> first | rfl | (exact absurd rfl e)
    rw [h] at q
    exact q
theorem sc_is_cap : FnScope ["thing"] ["thing"] (defScope s_is_cap) :=
  ⟨rfl, rfl, rfl, by decide +kernel, rfl, by decide +kernel, by decide +kernel⟩
theorem ok_is_cap {f : Addr} {fd : FuncData} (F : Fun K "is_cap" "is_cap" s_is_cap f fd) (T : Txt K mg C tG tL) (c_is_count : Cal P w K mg base CX0 2 "is_count" ["thing"] (sp_is_count K)) : FnOk P w K mg base CX0 3 f fd ["thing"] (sp_is_cap K) := by
  refine F.ok sc_is_cap (fun vs H Q E ⟨v, d, e, _⟩ => by rw [e]; rfl) (fun cdv A outer s H vs Q E hr h => ?_)
  obtain ⟨v, d, rfl, R, q⟩ := h
  refine ⟨_, (pss_one (ps_ret (pe_or (pe_cmpR op_isN (pv 0) pe_non (nomark _)) (pe_one (pe_cal c_is_count (hr.mono (by decide)) (by rfl) pass0 (pa_cons (pv 0) pa_nil)))))), ?_⟩
  refine ⟨v, rfl, rfl, _, rfl, ite2 (fun e => ?_) (fun e => ?_)⟩
  · obtain rfl := of_decide_eq_true e
    cases R
    exact q
  · have hn : d ≠ .non := fun z => by
      subst z
      cases R
      exact e (decide_eq_true rfl)
    refine ⟨v, rfl, v, d, rfl, R, ?_⟩
    have h : isCap d = isCount d := by cases d <;> first | rfl | (exact absurd rfl hn)
    rw [h] at q
    exact q
theorem sc_are_rows : FnScope ["thing", "height", "width", "row"] ["thing", "height", "width"] (defScope s_are_rows) :=
  ⟨rfl, rfl, rfl, by decide +kernel, rfl, by decide +kernel, by decide +kernel⟩
theorem ok_are_rows {f : Addr} {fd : FuncData} (F : Fun K "are_rows" "are_rows" s_are_rows f fd) (T : Txt K mg C tG tL) (c_is_list : Cal P w K mg base CX0 1 "is_list" ["thing"] (sp_is_list K)) :
    FnOk P w K mg base CX0 2 f fd ["thing", "height", "width"] (sp_are_rows K) := by
  refine F.ok sc_are_rows (fun vs H Q E ⟨v, d, h, n, e, _⟩ => by rw [e]; rfl) (fun cdv A outer s H vs Q E hr hh => ?_)
  obtain ⟨v, d, h, n, rfl, R, h6, q⟩ := hh
  refine ⟨_, (pss_cons (ps_if (PW.pt (pw_or (pt_not (pt_val (pe_cal c_is_list (hr.mono (by decide)) (by rfl) pass0 (pa_cons (pv 0) pa_nil)))) (pw_or1 (pt_cmpR op_ne (pe_callB (len_ofK (K := K) rfl) (by rfl) T.n_len (by decide +kernel) (pa_cons (pv 0) pa_nil)) (pv 1) (nomark _)))))
  (pss_one (ps_ret pe_bl))
  pss_nil)
  (pss_one (ps_ret (pe_callB (allK (K := K) rfl rfl) (by rfl) T.n_all (by decide +kernel) (pa_cons (pe_lcS (own := [("row", 3)]) (by rfl) sc_are_rows.nd (pv 0) mono_var (blkOk_by (own := [("row", 3)]) (N := ["thing", "height", "width", "row"]) (sc := defScope s_are_rows) (by decide +kernel)) (fun _ _ _ _ _ => (pg_name (i := 3) sc_are_rows.nd rfl (by first | exact Or.inl rfl | exact Or.inr rfl))) (fun _ _ _ _ _ => pts_nil) (fun _ _ _ _ _ => (pe_and (pe_cal c_is_list (hr.mono (by decide)) (by rfl) pass0 (pa_cons (pv 3) pa_nil)) (pe_one (pe_cmpR op_eq (pe_callB (len_ofK (K := K) rfl) (by rfl) T.n_len (by decide +kernel) (pa_cons (pv 3) pa_nil)) (pv 2) (nomark _)))))) pa_nil))))), ?_⟩
  refine ⟨v, rfl, v, d, rfl, R, fun H1 s1 => ⟨_, rfl, ?_⟩⟩
  have no : areRows h n d = false → ∀ H', Same H H' → Q (.bl false) H' := fun e H' s' => by have := q H' s'; rw [e] at this; exact this
  cases ed : d.items with
  | none => exact no (by unfold areRows; rw [ed]) H1 s1
  | some l =>
    obtain ⟨a, xs, rfl, hS, hR⟩ := (R.same s1).items_some ed
    have hlen := hR.length
    have hq : areRows h n d = (decide (l.length = h) && l.all (isRow n)) := by unfold areRows; rw [ed]
    refine ⟨.ref a, rfl, a, xs, rfl, hS, .int h, rfl, rfl, _, rfl, ite2 (fun e => ?_) (fun e => ?_)⟩
    · have en : ¬ l.length = h := fun z => by
        rw [decide_eq_true (by rw [hlen, z])] at e
        cases e
      rw [decide_eq_false en, Bool.false_and] at hq
      exact no hq H1 s1
    · have en : l.length = h := by
        cases z : decide (V.int ((xs.length : Nat) : Int) = V.int h) with
        | true =>
          have := V.int.inj (of_decide_eq_true z)
          omega
        | false =>
          rw [z] at e
          exact absurd rfl e
      rw [decide_eq_true en, Bool.true_and] at hq
      refine ⟨.ref a, rfl, a, xs, (fun D i H' => Same H1 H' ∧ H' D = some (.lst (((l.take i).map (isRow n)).map V.bl))), rfl, hS, (fun D nD => ⟨same_upd nD, upd_same⟩), (fun D i H' nD _ p => p.1), (fun D i x H' nD hx p => ?_), (fun D H2 nD p => ?_)⟩
      · obtain ⟨y, hy, rxy⟩ := hR.get hx
        have fin : ∀ H2, Same H' H2 → ∃ xs1, H2 D = some (.lst xs1) ∧ xs1.length < sizeLine ∧ Same H1 (upd H2 D (.lst (xs1 ++ [.bl (isRow n y)]))) ∧ upd H2 D (.lst (xs1 ++ [.bl (isRow n y)])) D = some (.lst (((l.take (i + 1)).map (isRow n)).map V.bl)) := fun H2 s2 => ⟨_, s2 _ _ p.2, by
            rw [List.length_map, List.length_map, List.length_take]
            exact Nat.lt_of_le_of_lt (Nat.le_trans (Nat.min_le_right _ _) (by omega : l.length ≤ 6)) (by decide), fun b o e => by rw [upd_ne (ne_of_none e nD)]; exact s2 _ _ (p.1 b o e), by
            rw [upd_same, List.take_add_one, hy]
            simp⟩
        refine ⟨rfl, x, rfl, x, y, rfl, rxy.same p.1, fun H2 s2 => ⟨_, rfl, ite2 (fun e => ?_) (fun e => ?_)⟩⟩
        · obtain ⟨ly, ely⟩ := Option.isSome_iff_exists.mp e
          obtain ⟨b, ys, rfl, hSb, hRb⟩ := (rxy.same (p.1.trans s2)).items_some ely
          have hb := hRb.length
          have ey : isRow n y = decide (V.int ((ys.length : Nat) : Int) = V.int n) := by
            unfold isRow
            rw [ely]
            exact decide_eq_decide.mpr ⟨fun z => by rw [hb, z], fun z => by have := V.int.inj z; omega⟩
          have fin := fin H2 s2
          rw [ey] at fin
          exact ⟨.ref b, rfl, b, ys, rfl, hSb, .int n, rfl, rfl, fin⟩
        · have ey : isRow n y = false := by
            unfold isRow
            cases z : y.items with
            | none => rfl
            | some l => rw [z] at e; exact absurd rfl e
          have fin := fin H2 s2
          rw [ey] at fin
          exact fin
      · rw [hlen, List.take_length] at p
        refine ⟨D, l.map (isRow n), rfl, .inl (.inl p.2), ?_⟩
        have q2 := q H2 (s1.trans p.1)
        rw [hq] at q2
        rw [List.all_map]
        exact q2
end
end Kp11
set_option Elab.async false
set_option linter.all false
set_option maxRecDepth 100000
set_option maxHeartbeats 4000000
namespace Kp11
open PySem PySem.Spec PyProof.Rows L2 Vf
/-! ### caps that are wanted, frames made and asked -/
open RZ
theorem capsOk_items {d : Dt} {h n : Nat} (e : d ≠ .non) : capsOk d h n = (match d.items with | some l => decide (l.length = h) && l.all (isCapRow n) | none => false) := by cases d <;> first | rfl | exact absurd rfl e
theorem capsOf_items {d : Dt} {h n : Nat} {l : List Dt} (e : d.items = some l) : capsOf d h n = l.map fun r => (r.items.getD []).map capInt := by
  cases d <;> first | (cases e; done) | (cases e; rfl)
theorem flat_single {α : Type} (x : α) : ∀ n : Nat, (List.replicate n [x]).flatten = List.replicate n x
  | 0 => rfl
  | n + 1 => by rw [List.replicate_succ, List.replicate_succ, List.flatten_cons, flat_single x n]; rfl
theorem rep_non (n : Nat) : List.replicate n V.non = (List.replicate n (none : Option Int)).map capV := by rw [List.map_replicate]; rfl
section
variable {P : Program} {w : World} {K : PySem.W.Frag} {mg : Str → Option Value} {base : Heap} {C : Nat → Addr} {tG tL : Tok}
theorem sc_wanted_caps : FnScope ["thing", "height", "width", "row", "item"] ["thing", "height", "width"] (defScope s_wanted_caps) :=
  ⟨rfl, rfl, rfl, by decide +kernel, rfl, by decide +kernel, by decide +kernel⟩
theorem ok_wanted_caps {f : Addr} {fd : FuncData} (F : Fun K "wanted_caps" "wanted_caps" s_wanted_caps f fd) (T : Txt K mg C tG tL) (c_are_rows : Cal P w K mg base CX0 2 "are_rows" ["thing", "height", "width"] (sp_are_rows K)) (c_is_cap : Cal P w K mg base CX0 3 "is_cap" ["thing"] (sp_is_cap K)) :
    FnOk P w K mg base (L2.CX P w) 5 f fd ["thing", "height", "width"] (sp_wanted_caps K (C 1)) := by
  refine F.okX sc_wanted_caps (fun vs H Q E ⟨v, d, h, n, e, _⟩ => by rw [e]; rfl) (fun cdv A outer s H vs Q E hr hh => ?_)
  obtain ⟨v, d, h, n, rfl, R, h1, h6, n1, n6, qE, qQ⟩ := hh
  refine ⟨_, (pss_cons (ps_if (pt_cmpR op_isN (pv 0) pe_non (nomark _))
  (pss_one (ps_ret (pe_op (repUK (K := K) rfl) (pe_tup (pa_cons (pe_op (repUK (K := K) rfl) (pe_tup (pa_cons pe_non pa_nil)) (pv 2)) pa_nil)) (pv 1))))
  pss_nil)
  (pss_cons (ps_if (PW.pt (pw_or (pt_not (pt_val (pe_cal c_are_rows (hr.mono (by decide)) (by rfl) pass0 (pa_cons (pv 0) (pa_cons (pv 1) (pa_cons (pv 2) pa_nil)))))) (pw_or1 (pt_not (pt_val (pe_callB (allK (K := K) rfl rfl) (by rfl) T.n_all (by decide +kernel) (pa_cons (pe_lc2 (own := [("row", 3), ("item", 4)]) (vs1 := [4]) (by rfl) sc_wanted_caps.nd (pi_seqV (K := K) rfl (pv 0)) (blkOk_by (own := [("row", 3), ("item", 4)]) (N := ["thing", "height", "width", "row", "item"]) (sc := defScope s_wanted_caps) (by decide +kernel)) (by decide) (fun _ _ _ _ _ => (pg_name (i := 3) sc_wanted_caps.nd rfl (by first | exact Or.inl rfl | exact Or.inr rfl))) (fun _ _ _ _ _ => pts_nil) (fun _ _ _ _ _ => (pi_seqW (K := K) rfl (pv 3))) (fun _ _ _ _ _ => (pg_name (i := 4) sc_wanted_caps.nd rfl (by first | exact Or.inl rfl | exact Or.inr rfl))) (fun _ _ _ _ _ => pts_nil) (fun _ _ _ _ _ => (pe_cal c_is_cap (hr.mono (by decide)) (by rfl) pass0 (pa_cons (pv 4) pa_nil)))) pa_nil)))))))
  (pss_one (ps_raise rfl (takes_of rfl rfl rfl rfl) (pmk_own PySem.F.excBase_ValueError T.NoCaps.x T.NoCaps.g T.NoCaps.k (raises_own T.NoCaps.b T.NoCaps.t) (by exact rfl))))
  pss_nil)
  (pss_one (ps_ret (pe_callTy (tuple_ofK (K := K) rfl) (by rfl) T.n_tuple (by decide +kernel) (pa_cons (pe_lc (own := [("row", 3)]) (by rfl) sc_wanted_caps.nd (pi_seqV (K := K) rfl (pv 0)) (blkOk_by (own := [("row", 3)]) (N := ["thing", "height", "width", "row", "item"]) (sc := defScope s_wanted_caps) (by decide +kernel)) (fun _ _ _ _ _ => (pg_name (i := 3) sc_wanted_caps.nd rfl (by first | exact Or.inl rfl | exact Or.inr rfl))) (fun _ _ _ _ _ => pts_nil) (fun _ _ _ _ _ => (pe_callTy (tuple_ofK (K := K) rfl) (by rfl) T.n_tuple (by decide +kernel) (pa_cons (pv 3) pa_nil)))) pa_nil)))))), ?_⟩
  refine ⟨v, rfl, rfl, _, rfl, ite2 (fun e => ?_) (fun e => ?_)⟩
  · obtain rfl := of_decide_eq_true e
    cases R
    refine ⟨(by show 1 ≤ sizeLine; decide), fun p np => ⟨.int n, rfl, p, n, [.non], rfl, rfl, SqT.of upd_same, (by simp), by omega, by omega, by simp, fun H1 p1 s1 hp1 => ?_⟩⟩
    refine ⟨(by show 1 ≤ sizeLine; decide), fun p2 np2 => ⟨.int h, rfl, p2, h, [.ref p1], rfl, rfl, SqT.of upd_same, (by simp), by omega, by omega, by simp, fun H3 p3 s3 hp3 => ?_⟩⟩
    rw [flat_single, Int.toNat_natCast] at hp1 hp3
    rw [rep_non] at hp1
    have s2 := same_upd (o := .tup [V.ref p1]) np2
    refine qQ rfl H3 p3 (List.replicate h p1) (((same_upd np).trans s1).trans (s2.trans s3)) ?_ (RowsT.rep (Same.seqT (s2.trans s3) hp1) h)
    rw [List.map_replicate]
    exact hp3
  · have hn : d ≠ .non := fun z => by
      subst z
      cases R
      exact e (decide_eq_true rfl)
    have hq := capsOk_items (h := h) (n := n) hn
    refine ⟨v, rfl, .int h, rfl, .int n, rfl, v, d, h, n, rfl, R, h6, fun H1 s1 => ⟨_, rfl, ?_⟩⟩
    cases er : areRows h n d with
    | false =>
      refine qE ?_ H1 s1
      rw [hq]
      unfold areRows at er
      cases ed : d.items with
      | none => rfl
      | some l =>
        rw [ed] at er
        have er : (decide (l.length = h) && l.all (isRow n)) = false := er
        show (decide (l.length = h) && l.all (isCapRow n)) = false
        rw [all_capRow, ← Bool.and_assoc, er, Bool.false_and]
    | true =>
      obtain ⟨l, ed, en, erow⟩ := areRows_some er
      rw [ed] at hq
      obtain ⟨a, xs, rfl, hS, hR⟩ := (R.same s1).items_some ed
      have hlen := hR.length
      have hq : capsOk d h n = (decide (l.length = h) && l.all (isCapRow n)) := hq
      rw [decide_eq_true en, Bool.true_and] at hq
      have lrow : ∀ y ∈ l, isRow n y = true := fun y hy => List.all_eq_true.mp erow y hy
      have cellsLen : ∀ i, ((l.take i).flatMap fun r => r.items.getD []).length ≤ (l.take i).length * n := fun i => by
        have : ∀ y ∈ l.take i, isRow n y = true := fun y hy => lrow y (List.mem_of_mem_take hy)
        generalize l.take i = lt at this
        clear erow lrow hlen hR hq ed en
        induction lt with
        | nil => simp
        | cons y lt ih =>
          obtain ⟨ly, e1, e2⟩ := isRow_some (this y List.mem_cons_self)
          have := ih fun z hz => this z (List.mem_cons_of_mem _ hz)
          rw [List.flatMap_cons, List.length_append, List.length_cons, Nat.succ_mul, e1]
          show ly.length + _ ≤ _
          omega
      refine ⟨.ref a, rfl, a, xs, rfl, hS, fun J G wk hG => fun D nD => ?_⟩
      refine lc2_it wk (fun i H' => Same H1 H' ∧ H' D = some (.lst ((((l.take i).flatMap fun r => r.items.getD []).map isCap).map V.bl))) ⟨same_upd nD, upd_same⟩ (fun i H' _ p => hG _ p.1) (fun i x H' H'' hi p y => ?_) (fun H2 p => ?_)
      · obtain ⟨rfl, hx⟩ := y
        obtain ⟨y, hy, rxy⟩ := hR.get hx
        obtain ⟨ly, ely, eln⟩ := isRow_some (lrow y (List.mem_of_getElem? hy))
        obtain ⟨b, ys, rfl, hSb, hRb⟩ := rxy.items_some ely
        have hb := hRb.length
        have hi6 : (l.take i).length ≤ 6 := by rw [List.length_take]; omega
        have cl := cellsLen i
        refine ⟨rfl, .ref b, rfl, b, ys, H1, rfl, hSb, p.1, fun J2 G2 wk2 hG2 => ?_⟩
        refine lc2_in wk2 (fun j H3 => Same H1 H3 ∧ H3 D = some (.lst (((((l.take i).flatMap fun r => r.items.getD []) ++ ly.take j).map isCap).map V.bl))) ⟨p.1, by rw [p.2, List.take_zero, List.append_nil]⟩ (fun j H3 _ p3 => hG2 _ p3.1) (fun j x H3 H4 hj p3 y3 => ?_) (fun H3 p3 => ?_)
        · obtain ⟨rfl, hx3⟩ := y3
          obtain ⟨z, hz, rz⟩ := hRb.get hx3
          refine ⟨rfl, x, rfl, x, z, rfl, rz.same p3.1, _, p3.2, ?_, fun b' o e' => ?_, ?_⟩
          · rw [List.length_map, List.length_map, List.length_append, List.length_take]
            have : (l.take i).length * n ≤ 6 * 6 := Nat.mul_le_mul hi6 n6
            exact Nat.lt_of_le_of_lt (show _ ≤ 100 by omega) (by decide)
          · rw [upd_ne (ne_of_none e' nD)]
            exact p3.1 b' o e'
          · rw [upd_same, List.take_add_one, hz]
            simp
        · refine ⟨p3.1, ?_⟩
          rw [p3.2, hb, List.take_length, List.take_add_one, hy, List.flatMap_append]
          simp [ely]
      · rw [hlen, List.take_length] at p
        refine ⟨D, (l.flatMap fun r => r.items.getD []).map isCap, rfl, .inl (.inl p.2), _, rfl, ?_⟩
        have ea : ((l.flatMap fun r => r.items.getD []).map isCap).all id = capsOk d h n := by rw [hq, List.all_map, all_capRow, erow, Bool.true_and]; rfl
        rw [ea]
        cases ec : capsOk d h n with
        | false => exact qE ec H2 (s1.trans p.1)
        | true =>
          rw [hq] at ec
          have hS2 := hS.same p.1
          have hR2 := hR.same p.1
          refine ⟨.ref a, rfl, a, xs, rfl, hS2, fun J3 G3 wk3 hG3 => fun D nD => ?_⟩
          refine lc_it wk3 (fun i H' => Same H2 H' ∧ ∃ ks : List Addr, H' D = some (.lst (ks.map V.ref)) ∧ RowsT K H' ks ((capsOf d h n).take i)) ⟨same_upd nD, [], upd_same, .nil⟩ (fun i H' _ p => hG3 _ p.1) (fun i x H9 H' hi p y => ?_) (fun H' p => ?_)
          · obtain ⟨rfl, hx⟩ := y
            obtain ⟨y, hy, rxy⟩ := hR2.get hx
            have yrow : isCapRow n y = true := List.all_eq_true.mp ec y (List.mem_of_getElem? hy)
            obtain ⟨sm, ks, hks, hrows⟩ := p
            obtain ⟨ly, ely⟩ : ∃ ly, y.items = some ly := by
              cases z : y.items with
              | some l => exact ⟨l, rfl⟩
              | none => unfold isCapRow at yrow; rw [z] at yrow; cases yrow
            have ycaps : ly.all isCap = true := by
              unfold isCapRow at yrow
              rw [ely] at yrow
              have yrow : (decide (ly.length = n) && ly.all isCap) = true := yrow
              rw [Bool.and_eq_true] at yrow
              exact yrow.2
            obtain ⟨b, ys, rfl, hSb, hRb⟩ := (rxy.same sm).items_some ely
            have eys := caps_row hRb ycaps
            have et : (capsOf d h n).take (i + 1) = (capsOf d h n).take i ++ [ly.map capInt] := by
              rw [capsOf_items ed, List.take_add_one, List.getElem?_map, hy]
              show _ ++ [(y.items.getD []).map capInt] = _
              rw [ely]
              rfl
            refine ⟨rfl, .ref b, rfl, b, ys, rfl, ?_⟩
            have small : (ks.map V.ref).length < sizeLine := by
              rw [List.length_map, hrows.length, List.length_take]
              refine Nat.lt_of_le_of_lt (Nat.min_le_right _ _) ?_
              rw [capsOf_items ed, List.length_map, en]
              exact Nat.lt_of_le_of_lt h6 (by decide)
            rcases hSb with hL | hT
            · refine .inl ⟨hL, fun l nl => ?_⟩
              have k1 := same_upd (o := .tup ys) nl
              refine ⟨_, k1 _ _ hks, small, fun b' o e' => ?_, ks ++ [l], by rw [upd_same, List.map_append]; rfl, ?_⟩
              · rw [upd_ne (ne_of_none e' nD)]
                exact k1 _ _ (sm b' o e')
              · rw [et]
                have g : ∀ k xs, SqT K (upd H' l (.tup ys)) k xs → SqT K (upd (upd H' l (.tup ys)) D (.lst (ks.map V.ref ++ [.ref l]))) k xs := fun k xs z => sqT_upd z (k1 _ _ hks) (fun _ z => nomatch z) fun _ _ z => nomatch z
                exact ((hrows.same k1).imp g).append (.cons (g _ _ (by rw [← eys]; exact SqT.of upd_same)) .nil)
            · refine .inr ⟨hT, _, hks, small, fun b' o e' => ?_, ks ++ [b], by rw [upd_same, List.map_append]; rfl, ?_⟩
              · rw [upd_ne (ne_of_none e' nD)]
                exact sm b' o e'
              · rw [et]
                have g : ∀ k xs, SqT K H' k xs → SqT K (upd H' D (.lst (ks.map V.ref ++ [.ref b]))) k xs := fun k xs z => sqT_upd z hks (fun _ z => nomatch z) fun _ _ z => nomatch z
                exact (hrows.imp g).append (.cons (g _ _ (by rw [← eys]; exact hT)) .nil)
          · obtain ⟨sm, ks, hks, hrows⟩ := p
            have ef : (capsOf d h n).take xs.length = capsOf d h n := by
              refine List.take_of_length_le ?_
              rw [capsOf_items ed, List.length_map, hlen]
              exact Nat.le_refl _
            rw [ef] at hrows
            refine ⟨D, ks.map V.ref, rfl, .inl ⟨SqL.of hks, fun l nl => ?_⟩⟩
            have k1 := same_upd (o := .tup (ks.map V.ref)) nl
            exact qQ (by rw [hq]; exact ec) _ l ks ((s1.trans p.1).trans (sm.trans k1)) (SqT.of upd_same) (hrows.same k1)
end
/-! ### the frame's own defs -/
def lenD (d : Dt) : Nat := (d.items.getD []).length
def sp_initF (K : PySem.W.Frag) (CF : Addr) (C : Nat → Addr) : Sp := fun vs H Q E => ∃ (p dx : Addr) (v c g : V) (d e m : Dt), vs = [.ref p, v, c, g] ∧ H p = some (.ins CF dx []) ∧ Rp K H v d ∧ Rp K H c e ∧ Rp K H g m ∧
  ((areCounts d && areCounts e) = false → ∀ H', Same H H' → E (.ref (C 0)) none H') ∧
  ((areCounts d && areCounts e) = true → capsOk m (lenD d) (lenD e) = false → ∀ H', Same H H' → E (.ref (C 1)) none H') ∧
  ((areCounts d && areCounts e) = true → capsOk m (lenD d) (lenD e) = true → ∀ (rs cs : List Int) (H' : Hp), d.items = some (rs.map Dt.int) → e.items = some (cs.map Dt.int) → (∀ b o, H b = some o → b ≠ p → H' b = some o) →
    FrameAt K CF H' p rs cs (capsOf m rs.length cs.length) → Q .non H')
def sp_rows (K : PySem.W.Frag) (CF : Addr) : Sp := fun vs H Q _ => ∃ (p : Addr) (rs cs : List Int) (ms : List (List (Option Int))), vs = [.ref p] ∧ FrameAt K CF H p rs cs ms ∧ ∀ l, H l = none → Q (.ref l) (upd H l (.lst (rs.map V.int)))
def sp_columns (K : PySem.W.Frag) (CF : Addr) : Sp := fun vs H Q _ => ∃ (p : Addr) (rs cs : List Int) (ms : List (List (Option Int))), vs = [.ref p] ∧ FrameAt K CF H p rs cs ms ∧ ∀ l, H l = none → Q (.ref l) (upd H l (.lst (cs.map V.int)))
def sp_caps (K : PySem.W.Frag) (CF : Addr) : Sp := fun vs H Q _ => ∃ (p : Addr) (rs cs : List Int) (ms : List (List (Option Int))), vs = [.ref p] ∧ FrameAt K CF H p rs cs ms ∧ rs.length ≤ 6 ∧ ∀ (H' : Hp) (D : Addr) (ls : List Addr), Same H H' → H D = none → H' D = some (.lst (ls.map V.ref)) → RowsL H H' ls ms → (∀ l ∈ ls, l ≠ D) → Q (.ref D) H'
def sp_cap (K : PySem.W.Frag) (CF : Addr) (C : Nat → Addr) : Sp := fun vs H Q E => ∃ (p : Addr) (rs cs : List Int) (ms : List (List (Option Int))) (v u : V) (d e : Dt), vs = [.ref p, v, u] ∧ FrameAt K CF H p rs cs ms ∧ Rp K H v d ∧ Rp K H u e ∧
  ((isPlace rs.length d && isPlace cs.length e) = false → E (.ref (C 10)) none H) ∧
  (∀ (i j : Nat) (m : List (Option Int)) (c : Option Int), d = .int i → e = .int j → ms[i]? = some m → m[j]? = some c → Q (capV c) H)
theorem counts_len {d : Dt} (h : areCounts d = true) : 1 ≤ lenD d ∧ lenD d ≤ 6 := by
  unfold areCounts at h
  rw [Bool.and_eq_true] at h
  have h := h.1
  unfold isShort at h
  unfold lenD
  cases z : d.items with
  | none => rw [z] at h; cases h
  | some l =>
    rw [z] at h
    have h : (decide (1 ≤ l.length) && decide (l.length ≤ 6)) = true := h
    rw [Bool.and_eq_true, decide_eq_true_eq, decide_eq_true_eq] at h
    exact h
theorem caps_shape {m : Dt} {h n : Nat} (e : capsOk m h n = true) : (capsOf m h n).length = h ∧ ∀ r ∈ capsOf m h n, r.length = n := by
  by_cases z : m = .non
  · subst z
    exact ⟨List.length_replicate, fun r hr => by rw [(List.mem_replicate.mp hr).2, List.length_replicate]⟩
  · rw [capsOk_items z] at e
    cases q : m.items with
    | none => rw [q] at e; cases e
    | some l =>
      rw [q] at e
      have e : (decide (l.length = h) && l.all (isCapRow n)) = true := e
      rw [Bool.and_eq_true, decide_eq_true_eq] at e
      rw [capsOf_items q]
      refine ⟨by rw [List.length_map]; exact e.1, fun r hr => ?_⟩
      obtain ⟨y, hy, rfl⟩ := List.mem_map.mp hr
      have hy := List.all_eq_true.mp e.2 y hy
      unfold isCapRow at hy
      cases q2 : y.items with
      | none => rw [q2] at hy; cases hy
      | some l2 =>
        rw [q2] at hy
        have hy : (decide (l2.length = n) && l2.all isCap) = true := hy
        rw [Bool.and_eq_true, decide_eq_true_eq] at hy
        show ((some l2).getD [] |>.map capInt).length = n
        rw [List.length_map]
        exact hy.1
section
variable {P : Program} {w : World} {K : PySem.W.Frag} {mg : Str → Option Value} {base : Heap} {C : Nat → Addr} {tG tL : Tok} {CF : Addr}
theorem sc_Frame_init : FnScope ["self", "rows", "columns", "caps", "row_sums", "column_sums", "cell_caps"] ["self", "rows", "columns", "caps"] (defScope s_Frame_init) :=
  ⟨rfl, rfl, rfl, by decide +kernel, rfl, by decide +kernel, by decide +kernel⟩
theorem ok_initF {f : Addr} {fd : FuncData} {dvs : List V} (F : FunD K "__init__" "Frame.__init__" (defArgs s_Frame_init) (defBody s_Frame_init) (defScope s_Frame_init) dvs [] f fd) (T : Txt K mg C tG tL) (FT : FrT K mg CF) (c_wanted_sums : Cal P w K mg base (L2.CX P w) 4 "wanted_sums" ["thing"] (sp_wanted_sums K (C 0)))
    (c_wanted_caps : Cal P w K mg base (L2.CX P w) 5 "wanted_caps" ["thing", "height", "width"] (sp_wanted_caps K (C 1))) : FnOk P w K mg base (L2.CX P w) 6 f fd ["self", "rows", "columns", "caps"] (sp_initF K CF C) := by
  refine F.ok sc_Frame_init (fun vs H Q E ⟨p, dx, v, c, g, d, e, m, z, _⟩ => by rw [z]; rfl) (fun cdv A outer s H vs Q E hr h => ?_)
  obtain ⟨p, dx, v, c, g, d, e, m, rfl, hp, Rv, Rc, Rg, q1, q2, q3⟩ := h
  refine ⟨_, (pss_cons (ps_set (i := 4) sc_Frame_init.nd rfl (by first | exact Or.inl rfl | exact Or.inr rfl) (pe_cal c_wanted_sums (hr.mono (by decide)) (by rfl) (passes_call (takes_of rfl rfl rfl rfl) (fun _ _ _ _ h => h)) (pa_cons (pv 1) pa_nil)))
  (pss_cons (ps_set (i := 5) sc_Frame_init.nd rfl (by first | exact Or.inl rfl | exact Or.inr rfl) (pe_cal c_wanted_sums (hr.mono (by decide)) (by rfl) (passes_call (takes_of rfl rfl rfl rfl) (fun _ _ _ _ h => h)) (pa_cons (pv 2) pa_nil)))
  (pss_cons (ps_set (i := 6) sc_Frame_init.nd rfl (by first | exact Or.inl rfl | exact Or.inr rfl) (pe_cal c_wanted_caps (hr.mono (by decide)) (by rfl) (passes_call (takes_of rfl rfl rfl rfl) (fun _ _ _ _ h => h)) (pa_cons (pv 3) (pa_cons (pe_callB (len_ofK (K := K) rfl) (by rfl) T.n_len (by decide +kernel) (pa_cons (pv 4) pa_nil)) (pa_cons (pe_callB (len_ofK (K := K) rfl) (by rfl) T.n_len (by decide +kernel) (pa_cons (pv 5) pa_nil)) pa_nil)))))
  (pss_cons (ps_fld (pv 0) (pv 4) rfl)
  (pss_cons (ps_fld (pv 0) (pv 5) rfl)
  (pss_one (ps_fld (pv 0) (pv 6) rfl))))))), ?_⟩
  refine ⟨v, rfl, v, d, rfl, Rv, fun hd H' s' => q1 (by rw [hd]; rfl) H' s', fun hd rs H1 tr el s1 htr => ?_⟩
  refine ⟨c, rfl, c, e, rfl, Rc.same s1, fun he H' s' => q1 (by rw [he, Bool.and_false]) H' (s1.trans s'), fun he cs H2 tc el2 s2 htc => ?_⟩
  have lr : rs.length = lenD d := by unfold lenD; rw [el]; simp
  have lc : cs.length = lenD e := by unfold lenD; rw [el2]; simp
  have b1 := counts_len hd
  have b2 := counts_len he
  refine ⟨g, rfl, .ref tr, rfl, tr, _, rfl, .inr (Same.seqT s2 htr), .ref tc, rfl, tc, _, rfl, .inr htc, ?_⟩
  refine ⟨g, m, rs.length, cs.length, by rw [List.length_map, List.length_map], Rg.same (s1.trans s2), by omega, by omega, by omega, by omega, fun hm H' s' => q2 (by rw [hd, he]; rfl) (by rw [← lr, ← lc]; exact hm) H' ((s1.trans s2).trans s'), fun hm H3 tk ks s3 htk hks => ?_⟩
  have sA := (s1.trans s2).trans s3
  have hp3 := sA _ _ hp
  refine ⟨_, rfl, _, rfl, p, CF, dx, _, rfl, hp3, FT.cl, FT.nr, (by show 0 < 1000; decide), ?_⟩
  refine ⟨_, rfl, _, rfl, p, CF, dx, _, rfl, upd_same, FT.cl, FT.nc, (by show 1 < 1000; decide), ?_⟩
  have l2 : (putF "column_sums" (.ref tc) (putF "row_sums" (.ref tr) [])).length < 1000 := Nat.lt_of_le_of_lt (length_putF _ _ _) (by show 1 + 1 < 1000; decide)
  refine ⟨_, rfl, _, rfl, p, CF, dx, _, rfl, upd_same, FT.cl, FT.nk, l2, ?_⟩
  rw [upd_upd, upd_upd]
  have g4 : ∀ k xs, SqT K H3 k xs → SqT K (upd H3 p (.ins CF dx (ff (.ref tr) (.ref tc) (.ref tk)))) k xs := fun k xs z => sqT_upd z hp3 (fun _ z => nomatch z) fun _ _ z => nomatch z
  have sh := caps_shape hm
  refine q3 (by rw [hd, he]; rfl) (by rw [← lr, ← lc]; exact hm) rs cs _ el el2 (fun b o e' nb => ?_) ⟨⟨dx, tr, tc, tk, ks, upd_same, g4 _ _ (Same.seqT (s2.trans s3) htr), g4 _ _ (Same.seqT s3 htc), g4 _ _ htk, hks.imp g4⟩, sh.1, sh.2⟩
  rw [upd_ne nb]
  exact sA _ _ e'
theorem sc_Frame_rows : FnScope ["self"] ["self"] (defScope s_Frame_rows) :=
  ⟨rfl, rfl, rfl, by decide +kernel, rfl, by decide +kernel, by decide +kernel⟩
theorem ok_rows {f : Addr} {fd : FuncData} (F : Fun K "rows" "Frame.rows" s_Frame_rows f fd) (T : Txt K mg C tG tL) (FT : FrT K mg CF) : FnOk P w K mg base CX0 1 f fd ["self"] (sp_rows K CF) := by
  refine F.ok sc_Frame_rows (fun vs H Q E ⟨p, rs, cs, ms, e, _⟩ => by rw [e]; rfl) (fun cdv A outer s H vs Q E hr h => ?_)
  obtain ⟨p, rs, cs, ms, rfl, FA, q⟩ := h
  obtain ⟨dx, tr, tc, tk, ks, h1, h2, h3, h4, h5⟩ := FA.ex
  refine ⟨_, (pss_one (ps_ret (pe_callTy (list_ofK (K := K) rfl) (by rfl) T.n_list (by decide +kernel) (pa_cons (pe_fld (pv 0) rfl) pa_nil)))), ?_⟩
  exact ⟨.ref p, rfl, p, CF, dx, _, _, rfl, h1, FT.cl, FT.nr, ff_r _ _ _, tr, _, rfl, .inr h2, fun l nl => q l nl⟩
theorem sc_Frame_columns : FnScope ["self"] ["self"] (defScope s_Frame_columns) :=
  ⟨rfl, rfl, rfl, by decide +kernel, rfl, by decide +kernel, by decide +kernel⟩
theorem ok_columns {f : Addr} {fd : FuncData} (F : Fun K "columns" "Frame.columns" s_Frame_columns f fd) (T : Txt K mg C tG tL) (FT : FrT K mg CF) : FnOk P w K mg base CX0 1 f fd ["self"] (sp_columns K CF) := by
  refine F.ok sc_Frame_columns (fun vs H Q E ⟨p, rs, cs, ms, e, _⟩ => by rw [e]; rfl) (fun cdv A outer s H vs Q E hr h => ?_)
  obtain ⟨p, rs, cs, ms, rfl, FA, q⟩ := h
  obtain ⟨dx, tr, tc, tk, ks, h1, h2, h3, h4, h5⟩ := FA.ex
  refine ⟨_, (pss_one (ps_ret (pe_callTy (list_ofK (K := K) rfl) (by rfl) T.n_list (by decide +kernel) (pa_cons (pe_fld (pv 0) rfl) pa_nil)))), ?_⟩
  exact ⟨.ref p, rfl, p, CF, dx, _, _, rfl, h1, FT.cl, FT.nc, ff_c _ _ _, tc, _, rfl, .inr h3, fun l nl => q l nl⟩
theorem sc_Frame_caps : FnScope ["self", "row"] ["self"] (defScope s_Frame_caps) :=
  ⟨rfl, rfl, rfl, by decide +kernel, rfl, by decide +kernel, by decide +kernel⟩
theorem ok_caps {f : Addr} {fd : FuncData} (F : Fun K "caps" "Frame.caps" s_Frame_caps f fd) (T : Txt K mg C tG tL) (FT : FrT K mg CF) : FnOk P w K mg base CX0 1 f fd ["self"] (sp_caps K CF) := by
  refine F.ok sc_Frame_caps (fun vs H Q E ⟨p, rs, cs, ms, e, _⟩ => by rw [e]; rfl) (fun cdv A outer s H vs Q E hr h => ?_)
  obtain ⟨p, rs, cs, ms, rfl, FA, h6, q⟩ := h
  obtain ⟨dx, tr, tc, tk, ks, h1, h2, h3, h4, h5⟩ := FA.ex
  have hlen := h5.length
  have high := FA.high
  refine ⟨_, (pss_one (ps_ret (pe_lc (own := [("row", 1)]) (by rfl) sc_Frame_caps.nd (pi_tup (pe_fld (pv 0) rfl)) (blkOk_by (own := [("row", 1)]) (N := ["self", "row"]) (sc := defScope s_Frame_caps) (by decide +kernel)) (fun _ _ _ _ _ => (pg_name (i := 1) sc_Frame_caps.nd rfl (by first | exact Or.inl rfl | exact Or.inr rfl))) (fun _ _ _ _ _ => pts_nil) (fun _ _ _ _ _ => (pe_callTy (list_ofK (K := K) rfl) (by rfl) T.n_list (by decide +kernel) (pa_cons (pv 1) pa_nil)))))), ?_⟩
  refine ⟨.ref p, rfl, p, CF, dx, _, _, rfl, h1, FT.cl, FT.nk, ff_k _ _ _, tk, rfl, ⟨_, h4⟩, fun D nD => ?_⟩
  refine lc_tup (K := K) (xs := ks.map V.ref) (fun i H' => Same H H' ∧ ∃ ls : List Addr, H' D = some (.lst (ls.map V.ref)) ∧ RowsL H H' ls (ms.take i) ∧ ∀ l ∈ ls, l ≠ D) ⟨same_upd nD, [], upd_same, .nil, fun _ z => nomatch z⟩ (fun i H' _ p => Same.seqT p.1 h4) (fun i x H' hx p => ?_) (fun H' p => ?_)
  · obtain ⟨sm, ls, hls, hrows, hne⟩ := p
    obtain ⟨k, hk, rfl⟩ : ∃ k, ks[i]? = some k ∧ x = V.ref k := by
      rw [List.getElem?_map] at hx
      cases e : ks[i]? with
      | none => rw [e] at hx; cases hx
      | some b => rw [e] at hx; exact ⟨b, rfl, (Option.some.inj hx).symm⟩
    obtain ⟨m, hm, hT⟩ := h5.get hk
    refine ⟨rfl, .ref k, rfl, k, _, rfl, .inr (Same.seqT sm hT), fun l nl => ?_⟩
    have nlD : l ≠ D := fun z => by rw [z, hls] at nl; cases nl
    have k1 := same_upd (o := .lst (m.map capV)) nl
    refine ⟨_, k1 _ _ hls, ?_, fun b o e => ?_, ls ++ [l], by rw [upd_same, List.map_append]; rfl, ?_, fun y hy => ?_⟩
    · rw [List.length_map, hrows.length, List.length_take]
      exact Nat.lt_of_le_of_lt (Nat.le_trans (Nat.min_le_right _ _) (by omega : ms.length ≤ 6)) (by decide)
    · rw [upd_ne (ne_of_none e nD)]
      exact k1 _ _ (sm b o e)
    · rw [List.take_add_one, hm]
      refine (hrows.keep fun b o e1 e2 hb => ?_).append (.cons (sm.free nl) ?_ .nil)
      · rw [upd_ne (hne b hb)]
        exact k1 _ _ e2
      · rw [upd_ne nlD, upd_same]
    · rcases List.mem_append.mp hy with z | z
      · exact hne y z
      · obtain rfl : y = l := by simpa using z
        exact nlD
  · obtain ⟨sm, ls, hls, hrows, hne⟩ := p
    rw [List.length_map, hlen, List.take_length] at hrows
    exact q H' D ls sm nD hls hrows hne
theorem sc_Frame_cap : FnScope ["self", "row", "column"] ["self", "row", "column"] (defScope s_Frame_cap) :=
  ⟨rfl, rfl, rfl, by decide +kernel, rfl, by decide +kernel, by decide +kernel⟩
theorem ok_cap {f : Addr} {fd : FuncData} (F : Fun K "cap" "Frame.cap" s_Frame_cap f fd) (T : Txt K mg C tG tL) (FT : FrT K mg CF) (c_is_place : Cal P w K mg base CX0 2 "is_place" ["thing", "many"] (sp_is_place K)) : FnOk P w K mg base (L2.CX P w) 3 f fd ["self", "row", "column"] (sp_cap K CF C) := by
  refine F.okX sc_Frame_cap (fun vs H Q E ⟨p, rs, cs, ms, v, u, d, e, z, _⟩ => by rw [z]; rfl) (fun cdv A outer s H vs Q E hr h => ?_)
  obtain ⟨p, rs, cs, ms, v, u, d, e, rfl, FA, Rv, Ru, qE, qQ⟩ := h
  obtain ⟨dx, tr, tc, tk, ks, h1, h2, h3, h4, h5⟩ := FA.ex
  refine ⟨_, (pss_cons (ps_if (PW.pt (pw_or (pt_not (pt_val (pe_cal c_is_place (hr.mono (by decide)) (by rfl) pass0 (pa_cons (pv 1) (pa_cons (pe_callB (len_ofK (K := K) rfl) (by rfl) T.n_len (by decide +kernel) (pa_cons (pe_fld (pv 0) rfl) pa_nil)) pa_nil))))) (pw_or1 (pt_not (pt_val (pe_cal c_is_place (hr.mono (by decide)) (by rfl) pass0 (pa_cons (pv 2) (pa_cons (pe_callB (len_ofK (K := K) rfl) (by rfl) T.n_len (by decide +kernel) (pa_cons (pe_fld (pv 0) rfl) pa_nil)) pa_nil))))))))
  (pss_one (ps_raise rfl (takes_of rfl rfl rfl rfl) (pmk_own PySem.F.excBase_ValueError T.NoCell.x T.NoCell.g T.NoCell.k (raises_own T.NoCell.b T.NoCell.t) (by exact rfl))))
  pss_nil)
  (pss_one (ps_ret (pe_ix (ix_tupK (K := K) rfl) (pe_ix (ix_tupK (K := K) rfl) (pe_fld (pv 0) rfl) (pv 1) (fun _ _ => rfl)) (pv 2) (fun _ _ => rfl))))), ?_⟩
  refine ⟨v, rfl, .ref p, rfl, p, CF, dx, _, _, rfl, h1, FT.cl, FT.nr, ff_r _ _ _, tr, _, rfl, .inr h2, v, d, rs.length, by rw [List.length_map], Rv, _, rfl, ?_⟩
  cases e1 : isPlace rs.length d with
  | false => exact qE (by rw [e1]; rfl)
  | true =>
    refine ⟨u, rfl, .ref p, rfl, p, CF, dx, _, _, rfl, h1, FT.cl, FT.nc, ff_c _ _ _, tc, _, rfl, .inr h3, u, e, cs.length, by rw [List.length_map], Ru, _, rfl, ?_⟩
    cases e2 : isPlace cs.length e with
    | false => exact qE (by rw [e1, e2]; rfl)
    | true =>
      obtain ⟨i, rfl, hi⟩ : ∃ i : Nat, d = .int i ∧ i < rs.length := by
        cases d with
        | int z =>
          have e1 : (decide (0 ≤ z) && decide (z < (rs.length : Nat))) = true := e1
          rw [Bool.and_eq_true, decide_eq_true_eq, decide_eq_true_eq] at e1
          exact ⟨z.toNat, by rw [Int.toNat_of_nonneg e1.1], by omega⟩
        | _ => cases e1
      obtain ⟨j, rfl, hj⟩ : ∃ i : Nat, e = .int i ∧ i < cs.length := by
        cases e with
        | int z =>
          have e2 : (decide (0 ≤ z) && decide (z < (cs.length : Nat))) = true := e2
          rw [Bool.and_eq_true, decide_eq_true_eq, decide_eq_true_eq] at e2
          exact ⟨z.toNat, by rw [Int.toNat_of_nonneg e2.1], by omega⟩
        | _ => cases e2
      cases Rv
      cases Ru
      have hik : i < ks.length := by rw [h5.length, FA.high]; exact hi
      obtain ⟨m, hm, hT⟩ := h5.get (List.getElem?_eq_getElem hik)
      have hjm : j < m.length := by rw [FA.wide m (List.mem_of_getElem? hm)]; exact hj
      refine ⟨.ref p, rfl, p, CF, dx, _, _, rfl, h1, FT.cl, FT.nk, ff_k _ _ _, .int i, rfl, tk, _, i, .ref ks[i], rfl, rfl, h4, atI_nat (by rw [List.getElem?_map, List.getElem?_eq_getElem hik]; rfl), ?_⟩
      exact ⟨.int j, rfl, ks[i], _, j, capV m[j], rfl, rfl, hT, atI_nat (by rw [List.getElem?_map, List.getElem?_eq_getElem hjm]; rfl), qQ i j m m[j] rfl rfl hm (List.getElem?_eq_getElem hjm)⟩
end
end Kp11
set_option Elab.async false
set_option linter.all false
set_option maxRecDepth 100000
set_option maxHeartbeats 4000000
namespace Kp11
open PySem PySem.Spec PyProof.Rows L2 Vf
/-! ### the law's own draws -/
def sp_cell_at (K : PySem.W.Frag) : Sp := fun vs H Q _ => ∃ (a : Addr) (ns : List Int) (k : Nat), vs = [.ref a, .int k] ∧ SqL K H a (ns.map V.int) ∧ Q (.int (ns.getD k 0)) H
def sp_tape : Sp := fun vs H Q _ => ∃ z : Int, vs = [.int z] ∧ ∀ (H' : Hp) (p : Addr) (n : Int), Same H H' → H p = none → H' p = some (.lst [.int n]) → Q (.ref p) H'
def sp_digit : Sp := fun vs H Q _ => ∃ (t : Addr) (n m : Int), vs = [.ref t, .int m] ∧ H t = some (.lst [.int n]) ∧ 0 < m ∧ m < 1000000000000000000000000 ∧ ∀ d n' : Int, 0 ≤ d → d < m → Q (.int d) (upd H t (.lst [.int n']))
section
variable {P : Program} {w : World} {K : PySem.W.Frag} {mg : Str → Option Value} {base : Heap} {C : Nat → Addr} {tG tL : Tok}
theorem sc_l_cell_at : FnScope ["_law_script", "_law_k"] ["_law_script", "_law_k"] (defScope s_l_cell_at) :=
  ⟨rfl, rfl, rfl, by decide +kernel, rfl, by decide +kernel, by decide +kernel⟩
theorem ok_cell_at {f : Addr} {fd : FuncData} (F : Fun K "_law_cell_at" "_law_cell_at" s_l_cell_at f fd) (T : Txt K mg C tG tL) : FnOk P w K mg base CX0 1 f fd ["_law_script", "_law_k"] (sp_cell_at K) := by
  refine F.ok sc_l_cell_at (fun vs H Q E ⟨a, ns, k, e, _⟩ => by rw [e]; rfl) (fun cdv A outer s H vs Q E hr h => ?_)
  obtain ⟨a, ns, k, rfl, hS, q⟩ := h
  refine ⟨_, (pss_cons (ps_if (pt_cmpR op_lt (pv 1) (pe_callB (len_ofK (K := K) rfl) (by rfl) T.n_len (by decide +kernel) (pa_cons (pv 0) pa_nil)) (nomark _))
  (pss_one (ps_ret (pe_ix (ix_listK (K := K) rfl) (pv 0) (pv 1) (fun _ _ => rfl))))
  pss_nil)
  (pss_one (ps_ret pe_int))), ?_⟩
  refine ⟨.int k, rfl, .ref a, rfl, a, _, rfl, .inl hS, k, _, rfl, rfl, _, rfl, ite2 (fun e => ?_) (fun e => ?_)⟩
  · have h : k < ns.length := by
      have := of_decide_eq_true e
      rw [List.length_map] at this
      omega
    refine ⟨.ref a, rfl, .int k, rfl, a, _, k, .int ns[k], rfl, rfl, hS, atI_nat (by rw [List.getElem?_map, List.getElem?_eq_getElem h]; rfl), ?_⟩
    rw [List.getD_eq_getElem?_getD, List.getElem?_eq_getElem h] at q
    exact q
  · have h : ns.length ≤ k := by
      rcases Nat.lt_or_ge k ns.length with z | z
      · exact absurd (decide_eq_true (by rw [List.length_map]; omega)) e
      · exact z
    rw [List.getD_eq_getElem?_getD, List.getElem?_eq_none h] at q
    exact q
theorem sc_l_digit : FnScope ["_law_tape_here", "_law_size", "_law_digit_here"] ["_law_tape_here", "_law_size"] (defScope s_l_digit) :=
  ⟨rfl, rfl, rfl, by decide +kernel, rfl, by decide +kernel, by decide +kernel⟩
theorem ok_digit {f : Addr} {fd : FuncData} (F : Fun K "_law_digit" "_law_digit" s_l_digit f fd) (T : Txt K mg C tG tL) : FnOk P w K mg base CX0 1 f fd ["_law_tape_here", "_law_size"] sp_digit := by
  refine F.ok sc_l_digit (fun vs H Q E ⟨t, n, m, e, _⟩ => by rw [e]; rfl) (fun cdv A outer s H vs Q E hr h => ?_)
  obtain ⟨t, n, m, rfl, ht, m0, m1, q⟩ := h
  refine ⟨_, (pss_cons (ps_set (i := 2) sc_l_digit.nd rfl (by first | exact Or.inl rfl | exact Or.inr rfl) (pe_op op_mod (pe_ix (ix_listK (K := K) rfl) (pv 0) pe_int (fun _ _ => rfl)) (pv 1)))
  (pss_cons (ps_asg (pe_op op_fdivW (pe_ix (ix_listK (K := K) rfl) (pv 0) pe_int (fun _ _ => rfl)) (pv 1)) (pg_sub (pv 0) pe_int set_list))
  (pss_one (ps_ret (pv 2))))), ?_⟩
  refine ⟨.ref t, rfl, t, _, 0, .int n, rfl, rfl, SqL.of ht, atI_nat (j := 0) rfl, .int m, rfl, n, m, rfl, rfl, m0, ?_⟩
  refine ⟨.ref t, rfl, t, _, 0, .int n, rfl, rfl, SqL.of ht, atI_nat (j := 0) rfl, .int m, rfl, n, m, rfl, rfl, wide_div m0 (b := 100) ?_ (by decide) (by decide), ?_⟩
  · have e : (2 : Nat) ^ 100 = 1267650600228229401496703205376 := by decide +kernel
    rw [e]
    omega
  · exact ⟨.ref t, rfl, t, _, 0, 0, rfl, rfl, ht, rfl, _, rfl, q _ _ (Int.emod_nonneg _ (by omega)) (Int.emod_lt_of_pos _ m0)⟩
theorem sc_l_tape : FnScope ["_law_cell", "_law_number", "_law_found", "_law_k"] ["_law_cell"] (defScope s_l_tape) :=
  ⟨rfl, rfl, rfl, by decide +kernel, rfl, by decide +kernel, by decide +kernel⟩
theorem ok_tape {f : Addr} {fd : FuncData} (F : Fun K "_law_tape" "_law_tape" s_l_tape f fd) (T : Txt K mg C tG tL) : FnOk P w K mg base CX0 1 f fd ["_law_cell"] sp_tape := by
  refine F.ok sc_l_tape (fun vs H Q E ⟨z, e, _⟩ => by rw [e]; rfl) (fun cdv A outer s H vs Q E hr h => ?_)
  obtain ⟨z, rfl, q⟩ := h
  have pw : CPow 10 18 := ⟨by decide, by decide, by decide⟩
  refine ⟨_, (pss_cons (ps_if (pt_cmpR op_ge (pv 0) (pe_op op_pow pe_int pe_int) (nomark _))
  (pss_one (ps_ret (pe_lst (pa_cons (pe_op op_sub (pv 0) (pe_op op_pow pe_int pe_int)) pa_nil))))
  pss_nil)
  (pss_cons (ps_set (i := 1) sc_l_tape.nd rfl (by first | exact Or.inl rfl | exact Or.inr rfl) (pe_op op_mod (pe_op op_add (pe_op op_mul (pe_op op_mod (pv 0) pe_int) pe_int) pe_int) pe_int))
  (pss_cons (ps_set (i := 2) sc_l_tape.nd rfl (by first | exact Or.inl rfl | exact Or.inr rfl) pe_int)
  (pss_cons (ps_for PassesOwn.never rfl (pi_range1 (by rfl) T.n_range (pa_cons pe_int pa_nil))
  (pg_name (i := 3) sc_l_tape.nd rfl (by first | exact Or.inl rfl | exact Or.inr rfl))
  (pss_cons (ps_set (i := 1) sc_l_tape.nd rfl (by first | exact Or.inl rfl | exact Or.inr rfl) (pe_op op_mod (pe_op op_add (pe_op op_add (pe_op op_mul (pv 1) pe_int) (pv 3)) pe_int) pe_int))
  (pss_one (ps_set (i := 2) sc_l_tape.nd rfl (by first | exact Or.inl rfl | exact Or.inr rfl) (pe_op op_add (pe_op op_mul (pv 2) pe_int) (pv 1))))))
  (pss_one (ps_ret (pe_lst (pa_cons (pv 2) pa_nil)))))))), ?_⟩
  refine ⟨.int z, rfl, 10, 18, rfl, rfl, pw, z, _, rfl, rfl, _, rfl, ite2 (fun e => ?_) (fun e => ?_)⟩
  · exact ⟨.int z, rfl, 10, 18, rfl, rfl, pw, z, _, rfl, rfl, (by show 1 ≤ sizeLine; decide), fun p np => q _ p _ (same_upd np) np upd_same⟩
  · refine ⟨.int z, rfl, z, _, rfl, rfl, (by show (0 : Int) < 2147483629; decide), _, _, rfl, rfl, .inr ⟨by decide, by decide⟩, _, _, rfl, rfl, _, _, rfl, rfl, (by show (0 : Int) < 2147483647; decide), ?_⟩
    refine ⟨32, rfl, by decide, by decide, for_range (n := 32) (fun i σ H' => H' = H ∧ ∃ (a b : Int) (v : Option V), σ = [some (.int z), some (.int a), some (.int b), v]) ⟨rfl, _, _, none, rfl⟩ (fun i σ H' hi p => ?_) (fun σ H' p => ?_)⟩
    · obtain ⟨rfl, a, b, v, rfl⟩ := p
      refine ⟨.int a, rfl, a, _, rfl, rfl, .inr ⟨by decide, by decide⟩, _, rfl, _, _, rfl, rfl, _, _, rfl, rfl, _, _, rfl, rfl, (by show (0 : Int) < 2147483647; decide), ?_⟩
      refine ⟨.int b, rfl, b, _, rfl, rfl, .inr ⟨by decide, by decide⟩, _, rfl, _, _, rfl, rfl, rfl, _, _, _, rfl⟩
    · obtain ⟨rfl, a, b, v, rfl⟩ := p
      exact ⟨.int b, rfl, (by show 1 ≤ sizeLine; decide), fun p np => q _ p _ (same_upd np) np upd_same⟩
end
end Kp11
set_option Elab.async false
set_option linter.all false
set_option maxRecDepth 100000
set_option maxHeartbeats 4000000
namespace Kp11
open PySem PySem.Spec PyProof.Rows L2 Vf
/-! ### the law's draws of numbers, caps and shapes -/
def sp_count : Sp := fun vs H Q _ => ∃ t : Addr, vs = [.ref t] ∧ Tp H t ∧ ∀ (c : Int) (H' : Hp), 0 ≤ c → c ≤ 1000000000000 → Kp t H H' → Q (.int c) H'
def capOk (c : Option Int) : Prop := ∀ i, c = some i → 0 ≤ i ∧ i ≤ 1000000000000
def sp_lcaps : Sp := fun vs H Q _ => ∃ (t : Addr) (h n : Nat), vs = [.ref t, .int h, .int n] ∧ Tp H t ∧ h ≤ 6 ∧ n ≤ 6 ∧ ∀ (H' : Hp) (D : Addr) (ls : List Addr) (ms : List (List (Option Int))), Kp t H H' → H D = none → H' D = some (.lst (ls.map V.ref)) → RowsL H H' ls ms →
  ms.length = h → (∀ m ∈ ms, m.length = n ∧ ∀ c ∈ m, capOk c) → (∀ l ∈ ls, l ≠ D) → Q (.ref D) H'
/-- rows at bs, each a list or a tuple, none of them tracked in H -/
inductive RowsV (H H' : Hp) : List Addr → List (List V) → Prop
  | nil : RowsV H H' [] []
  | cons {b : Addr} {bs : List Addr} {m : List V} {ms : List (List V)} : H b = none → (H' b = some (.lst m) ∨ H' b = some (.tup m)) → RowsV H H' bs ms → RowsV H H' (b :: bs) (m :: ms)
theorem RowsV.keep {H H1 H2 : Hp} : ∀ {ks : List Addr} {ms : List (List V)}, RowsV H H1 ks ms → (∀ b o, H b = none → H1 b = some o → b ∈ ks → H2 b = some o) → RowsV H H2 ks ms
  | _, _, .nil, _ => .nil
  | _, _, .cons h1 h2 r, f => .cons h1 (h2.elim (fun z => .inl (f _ _ h1 z List.mem_cons_self)) fun z => .inr (f _ _ h1 z List.mem_cons_self)) (r.keep fun b o e1 e2 hb => f b o e1 e2 (List.mem_cons_of_mem _ hb))
theorem RowsV.length {H H' : Hp} : ∀ {ks : List Addr} {ms : List (List V)}, RowsV H H' ks ms → ks.length = ms.length
  | _, _, .nil => rfl
  | _, _, .cons _ _ r => congrArg (· + 1) (RowsV.length r)
theorem RowsV.append {H H' : Hp} {ks ks' : List Addr} {ms ms' : List (List V)} : RowsV H H' ks ms → RowsV H H' ks' ms' → RowsV H H' (ks ++ ks') (ms ++ ms')
  | .nil, r => r
  | .cons h1 h2 q, r => .cons h1 h2 (RowsV.append q r)
theorem RowsV.get {H H' : Hp} : ∀ {ks : List Addr} {ms : List (List V)} {i : Nat} {k : Addr}, RowsV H H' ks ms → ks[i]? = some k → ∃ m, ms[i]? = some m ∧ H k = none ∧ (H' k = some (.lst m) ∨ H' k = some (.tup m))
  | _, _, _, _, .nil, e => by simp at e
  | _, _, 0, _, .cons h1 h2 _, e => by
    obtain rfl := Option.some.inj e
    exact ⟨_, rfl, h1, h2⟩
  | _, _, i + 1, k, .cons _ _ r, e => RowsV.get (i := i) (k := k) r e
theorem RowsV.set {H H' : Hp} {b : Addr} {m : List V} (h1 : H b = none) (h2 : H' b = some (.lst m) ∨ H' b = some (.tup m)) : ∀ {ks : List Addr} {ms : List (List V)} {i : Nat}, RowsV H H' ks ms → ms[i]? = some m → RowsV H H' (ks.set i b) ms
  | _, _, _, .nil, e => by simp at e
  | _, _, 0, .cons _ _ r, e => by
    obtain rfl := Option.some.inj e
    exact .cons h1 h2 r
  | _, _, i + 1, .cons g1 g2 r, e => .cons g1 g2 (RowsV.set (i := i) h1 h2 r e)
/-- lists at ls that hold the rows -/
inductive RowsQ (K : PySem.W.Frag) (H : Hp) : List Addr → List (List V) → Prop
  | nil : RowsQ K H [] []
  | cons {b : Addr} {bs : List Addr} {m : List V} {ms : List (List V)} : SqL K H b m → RowsQ K H bs ms → RowsQ K H (b :: bs) (m :: ms)
theorem RowsQ.get {K : PySem.W.Frag} {H : Hp} : ∀ {ks : List Addr} {ms : List (List V)} {i : Nat} {k : Addr}, RowsQ K H ks ms → ks[i]? = some k → ∃ m, ms[i]? = some m ∧ SqL K H k m
  | _, _, _, _, .nil, e => by simp at e
  | _, _, 0, _, .cons h1 _, e => by
    obtain rfl := Option.some.inj e
    exact ⟨_, rfl, h1⟩
  | _, _, i + 1, k, .cons _ r, e => RowsQ.get (i := i) (k := k) r e
theorem RowsQ.length {K : PySem.W.Frag} {H : Hp} : ∀ {ks : List Addr} {ms : List (List V)}, RowsQ K H ks ms → ks.length = ms.length
  | _, _, .nil => rfl
  | _, _, .cons _ r => congrArg (· + 1) (RowsQ.length r)
def sp_as (K : PySem.W.Frag) : Sp := fun vs H Q _ => ∃ (t R : Addr) (ls : List Addr) (ms : List (List V)), vs = [.ref t, .ref R] ∧ Tp H t ∧ SqL K H R (ls.map V.ref) ∧ RowsQ K H ls ms ∧ ls.length ≤ 6 ∧ R ≠ t ∧ (∀ l ∈ ls, l ≠ t) ∧
  ∀ (H' : Hp) (p : Addr) (bs : List Addr), Kp t H H' → H p = none → (H' p = some (.lst (bs.map V.ref)) ∨ H' p = some (.tup (bs.map V.ref))) → RowsV H H' bs ms → (∀ b ∈ bs, b ≠ p) → Q (.ref p) H'
theorem pow12 : (10 : Int) ^ (Int.toNat 12) = 1000000000000 := by decide +kernel
theorem cpow12 : CPow 10 12 := ⟨by decide, by decide, by decide⟩
section
variable {P : Program} {w : World} {K : PySem.W.Frag} {mg : Str → Option Value} {base : Heap} {C : Nat → Addr} {tG tL : Tok}
theorem sc_l_count : FnScope ["_law_tape_here", "_law_way"] ["_law_tape_here"] (defScope s_l_count) :=
  ⟨rfl, rfl, rfl, by decide +kernel, rfl, by decide +kernel, by decide +kernel⟩
theorem ok_count {f : Addr} {fd : FuncData} (F : Fun K "_law_count" "_law_count" s_l_count f fd) (T : Txt K mg C tG tL) (c_l_digit : Cal P w K mg base CX0 1 "_law_digit" ["_law_tape_here", "_law_size"] sp_digit) : FnOk P w K mg base CX0 2 f fd ["_law_tape_here"] sp_count := by
  refine F.ok sc_l_count (fun vs H Q E ⟨t, e, _⟩ => by rw [e]; rfl) (fun cdv A outer s H vs Q E hr h => ?_)
  obtain ⟨t, rfl, ⟨n, ht⟩, q⟩ := h
  refine ⟨_, (pss_cons (ps_set (i := 1) sc_l_count.nd rfl (by first | exact Or.inl rfl | exact Or.inr rfl) (pe_cal c_l_digit (hr.mono (by decide)) (by rfl) pass0 (pa_cons (pv 0) (pa_cons pe_int pa_nil))))
  (pss_cons (ps_if (pt_cmpR op_lt (pv 1) pe_int (nomark _))
  (pss_one (ps_ret (pe_ix (ix_listK (K := K) rfl) (pe_lst (pa_cons (pe_cal c_l_digit (hr.mono (by decide)) (by rfl) pass0 (pa_cons (pv 0) (pa_cons pe_int pa_nil))) (pa_cons (pe_op op_sub (pe_op op_pow pe_int pe_int) (pe_cal c_l_digit (hr.mono (by decide)) (by rfl) pass0 (pa_cons (pv 0) (pa_cons pe_int pa_nil)))) pa_nil))) (pv 1) (fun _ _ => rfl))))
  pss_nil)
  (pss_one (ps_ret (pe_cal c_l_digit (hr.mono (by decide)) (by rfl) pass0 (pa_cons (pv 0) (pa_cons (pe_ix (ix_listK (K := K) rfl) (pe_lst (pa_cons pe_int (pa_cons (pe_op op_add (pe_op op_pow pe_int pe_int) pe_int) pa_nil))) (pe_op op_sub (pv 1) pe_int) (fun _ _ => rfl)) pa_nil))))))), ?_⟩
  refine ⟨.ref t, rfl, t, n, 4, rfl, ht, by decide, by decide, fun wy n1 w0 w1 => ?_⟩
  have k1 : Kp t H (upd H t (.lst [.int n1])) := (Kp.refl ⟨n, ht⟩).tape
  refine ⟨.int wy, rfl, wy, 2, rfl, rfl, _, rfl, ite2 (fun e => ?_) (fun e => ?_)⟩
  · have e := of_decide_eq_true e
    refine ⟨.ref t, rfl, t, n1, 4, rfl, upd_same, by decide, by decide, fun d n2 d0 d1 => ⟨10, 12, rfl, rfl, cpow12, .ref t, rfl, t, n2, 3, rfl, upd_same, by decide, by decide, fun d2 n3 d20 d21 => ⟨_, _, rfl, rfl, (by show 2 ≤ sizeLine; decide), fun p np => ?_⟩⟩⟩
    rw [pow12]
    have k4 := ((k1.tape (n := n2)).tape (n := n3)).lay (o := .lst [V.int d, V.int (1000000000000 - d2)]) np
    rcases (show wy = 0 ∨ wy = 1 by omega) with rfl | rfl
    · exact ⟨.int 0, rfl, p, _, 0, .int d, rfl, rfl, SqL.of upd_same, atI_nat (j := 0) rfl, q d _ d0 (by omega) k4⟩
    · exact ⟨.int 1, rfl, p, _, 1, .int (1000000000000 - d2), rfl, rfl, SqL.of upd_same, atI_nat (j := 1) rfl, q _ _ (by omega) (by omega) k4⟩
  · have e : ¬ wy < 2 := fun z => e (decide_eq_true z)
    refine ⟨.ref t, rfl, 10, 12, rfl, rfl, cpow12, _, _, rfl, rfl, (by show 2 ≤ sizeLine; decide), fun p np => ?_⟩
    rw [pow12]
    have k2 := k1.lay (o := .lst [V.int 30, V.int (1000000000000 + 1)]) np
    have hpt : t ≠ p := fun z => by rw [← z, upd_same] at np; cases np
    have htp : (upd (upd H t (.lst [.int n1])) p (.lst [V.int 30, V.int (1000000000000 + 1)])) t = some (.lst [.int n1]) := by rw [upd_ne hpt, upd_same]
    rcases (show wy = 2 ∨ wy = 3 by omega) with rfl | rfl
    · exact ⟨.int 2, rfl, 2, 2, rfl, rfl, p, _, 0, .int 30, rfl, rfl, SqL.of upd_same, atI_nat (j := 0) rfl, t, n1, 30, rfl, htp, by decide, by decide, fun d n2 d0 d1 => q d _ d0 (by omega) k2.tape⟩
    · exact ⟨.int 3, rfl, 3, 2, rfl, rfl, p, _, 1, .int (1000000000000 + 1), rfl, rfl, SqL.of upd_same, atI_nat (j := 1) rfl, t, n1, _, rfl, htp, by decide, by decide, fun d n2 d0 d1 => q d _ d0 (by omega) k2.tape⟩
theorem sc_l_caps : FnScope ["_law_tape_here", "_law_many", "_law_wide", "_law_found", "_law_i", "_law_j"] ["_law_tape_here", "_law_many", "_law_wide"] (defScope s_l_caps) :=
  ⟨rfl, rfl, rfl, by decide +kernel, rfl, by decide +kernel, by decide +kernel⟩
theorem ok_lcaps {f : Addr} {fd : FuncData} (F : Fun K "_law_caps" "_law_caps" s_l_caps f fd) (T : Txt K mg C tG tL) (c_l_digit : Cal P w K mg base CX0 1 "_law_digit" ["_law_tape_here", "_law_size"] sp_digit) (c_l_count : Cal P w K mg base CX0 2 "_law_count" ["_law_tape_here"] sp_count) : FnOk P w K mg base CX0 3 f fd ["_law_tape_here", "_law_many", "_law_wide"] sp_lcaps := by
  refine F.ok sc_l_caps (fun vs H Q E ⟨t, h, n, e, _⟩ => by rw [e]; rfl) (fun cdv A outer s H vs Q E hr hh => ?_)
  obtain ⟨t, h, n, rfl, tp, h6, n6, q⟩ := hh
  refine ⟨_, (pss_cons (ps_set (i := 3) sc_l_caps.nd rfl (by first | exact Or.inl rfl | exact Or.inr rfl) (pe_lst pa_nil))
  (pss_cons (ps_for PassesOwn.never rfl (pi_range1 (by rfl) T.n_range (pa_cons (pv 1) pa_nil))
  (pg_name (i := 4) sc_l_caps.nd rfl (by first | exact Or.inl rfl | exact Or.inr rfl))
  (pss_one (ps_expr (pe_bm PySem.F.plainAttrs_list PySem.F.slot_list_append PySem.F.type_list_append mt_append (pv 3) (pa_cons (pe_lc (own := [("_law_j", 5)]) (by rfl) sc_l_caps.nd (pi_range1 (by rfl) T.n_range (pa_cons (pv 2) pa_nil)) (blkOk_by (own := [("_law_j", 5)]) (N := ["_law_tape_here", "_law_many", "_law_wide", "_law_found", "_law_i", "_law_j"]) (sc := defScope s_l_caps) (by decide +kernel)) (fun _ _ _ _ _ => (pg_name (i := 5) sc_l_caps.nd rfl (by first | exact Or.inl rfl | exact Or.inr rfl))) (fun _ _ _ _ _ => pts_nil) (fun _ _ _ _ _ => (pe_ifExp (pt_cmpR op_eq (pe_cal c_l_digit (hr.mono (by decide)) (by rfl) pass0 (pa_cons (pv 0) (pa_cons pe_int pa_nil))) pe_int (nomark _)) pe_non (pe_cal c_l_count (hr.mono (by decide)) (by rfl) pass0 (pa_cons (pv 0) pa_nil))))) pa_nil)))))
  (pss_one (ps_ret (pv 3))))), ?_⟩
  refine ⟨Nat.zero_le _, fun D nD => ?_⟩
  have hDt : D ≠ t := fun z => by obtain ⟨m, e⟩ := tp; rw [z, e] at nD; cases nD
  refine ⟨.int h, rfl, h, rfl, by omega, by omega, ?_⟩
  rw [Int.toNat_natCast]
  refine for_range (n := h) (fun i σ H' => ∃ v4 v5, σ = [some (.ref t), some (.int h), some (.int n), some (.ref D), v4, v5] ∧ Kp t H H' ∧ ∃ (ls : List Addr) (ms : List (List (Option Int))), H' D = some (.lst (ls.map V.ref)) ∧ RowsL H H' ls ms ∧ ms.length = i ∧ (∀ m ∈ ms, m.length = n ∧ ∀ c ∈ m, capOk c) ∧ ∀ l ∈ ls, l ≠ D)
    ⟨none, none, rfl, (Kp.refl tp).lay nD, [], [], upd_same, .nil, rfl, (fun _ z => nomatch z), (fun _ z => nomatch z)⟩ (fun i σ H' hi p => ?_) (fun σ H' p => ?_)
  · obtain ⟨v4, v5, rfl, kp, ls, ms, hD, hrows, hlen, hms, hne⟩ := p
    refine ⟨.ref D, rfl, .inl ⟨rfl, _, SqL.of hD⟩, .int n, rfl, n, rfl, by omega, by omega, fun E1 nE => ?_⟩
    rw [Int.toNat_natCast]
    have hE1t : E1 ≠ t := fun z => by obtain ⟨m, e⟩ := kp.2; rw [z, e] at nE; cases nE
    have hE1D : E1 ≠ D := fun z => by rw [z, hD] at nE; cases nE
    refine lc_range (n := n) (fun j H2 => Kp t H' H2 ∧ ∃ m : List (Option Int), H2 E1 = some (.lst (m.map capV)) ∧ m.length = j ∧ ∀ c ∈ m, capOk c) ⟨(Kp.refl kp.2).lay nE, [], upd_same, rfl, fun _ z => nomatch z⟩ (fun j H2 hj p2 => ?_) (fun H2 p2 => ?_)
    · obtain ⟨kp2, m, hm, ml, mc⟩ := p2
      obtain ⟨n2, ht2⟩ := kp2.2
      refine ⟨rfl, .ref t, rfl, t, n2, 3, rfl, ht2, by decide, by decide, fun d n3 d0 d1 => ⟨rfl, _, rfl, ite2 (fun e => ?_) (fun e => ?_)⟩⟩
      · refine ⟨_, (upd_ne hE1t).trans hm, ?_, ⟨fun b o e' h' => ?_, ⟨n3, by rw [upd_ne hE1t.symm, upd_same]⟩⟩, m ++ [none], by rw [upd_same, List.map_append]; rfl, by rw [List.length_append, ml]; rfl, fun c hc => ?_⟩
        · rw [List.length_map, ml]
          exact Nat.lt_of_lt_of_le (show j < 6 by omega) (by decide)
        · rw [upd_ne (ne_of_none e' nE), upd_ne h']
          exact kp2.1 b o e' h'
        · rcases List.mem_append.mp hc with z | z
          · exact mc c z
          · obtain rfl : c = none := by simpa using z
            exact fun i z => nomatch z
      · refine ⟨.ref t, rfl, t, rfl, ⟨n3, upd_same⟩, fun c H3 c0 c1 kp3 => ?_⟩
        have g : H3 E1 = some (.lst (m.map capV)) := kp3.1 _ _ ((upd_ne hE1t).trans hm) hE1t
        refine ⟨_, g, ?_, ⟨fun b o e' h' => ?_, ?_⟩, m ++ [some c], by rw [upd_same, List.map_append]; rfl, by rw [List.length_append, ml]; rfl, fun c2 hc => ?_⟩
        · rw [List.length_map, ml]
          exact Nat.lt_of_lt_of_le (show j < 6 by omega) (by decide)
        · rw [upd_ne (ne_of_none e' nE)]
          exact kp3.1 b o (by rw [upd_ne h']; exact kp2.1 b o e' h') h'
        · obtain ⟨n4, ht4⟩ := kp3.2
          exact ⟨n4, by rw [upd_ne hE1t.symm]; exact ht4⟩
        · rcases List.mem_append.mp hc with z | z
          · exact mc c2 z
          · obtain rfl : c2 = some c := by simpa using z
            exact fun i z => by cases z; exact ⟨c0, c1⟩
    · obtain ⟨kp2, m, hm, ml, mc⟩ := p2
      have hD2 : H2 D = some (.lst (ls.map V.ref)) := kp2.1 _ _ hD hDt
      have hl2 := hrows.length
      refine ⟨D, _, _, rfl, rfl, hD2, by rw [List.length_map, hl2, hlen]; exact Nat.lt_of_lt_of_le (show i < 6 by omega) (by decide), ?_⟩
      refine ⟨_, _, rfl, ⟨fun b o e' h' => ?_, ?_⟩, ls ++ [E1], ms ++ [m], by rw [upd_same, List.map_append]; rfl, ?_, by rw [List.length_append, hlen]; rfl, fun m' hm' => ?_, fun l hl => ?_⟩
      · rw [upd_ne (ne_of_none e' nD)]
        exact kp2.1 b o (kp.1 b o e' h') h'
      · obtain ⟨n4, ht4⟩ := kp2.2
        exact ⟨n4, by rw [upd_ne hDt.symm]; exact ht4⟩
      · refine (hrows.keep fun b o e1 e2 hb => ?_).append (.cons (kp.free tp nE) ?_ .nil)
        · rw [upd_ne (hne b hb)]
          exact kp2.1 b _ e2 fun z => by obtain ⟨m, e⟩ := tp; rw [z, e] at e1; cases e1
        · rw [upd_ne hE1D]
          exact hm
      · rcases List.mem_append.mp hm' with z | z
        · exact hms m' z
        · obtain rfl : m' = m := by simpa using z
          exact ⟨ml, mc⟩
      · rcases List.mem_append.mp hl with z | z
        · exact hne l z
        · obtain rfl : l = E1 := by simpa using z
          exact hE1D
  · obtain ⟨v4, v5, rfl, kp, ls, ms, hD, hrows, hlen, hms, hne⟩ := p
    exact ⟨.ref D, rfl, q H' D ls ms kp nD hD hrows hlen hms hne⟩
end
end Kp11
set_option Elab.async false
set_option linter.all false
set_option maxRecDepth 100000
set_option maxHeartbeats 4000000
namespace Kp11
open PySem PySem.Spec PyProof.Rows L2 Vf
/-! ### shapes of what is handed in -/
theorem ixN_nat {n j : Nat} (h : j < n) : ixN n (j : Int) = some j := by
  unfold ixN
  rw [if_pos (by omega), if_pos (by omega), Int.toNat_natCast]
theorem set_map_ref (bs : List Addr) (i : Nat) (b : Addr) : (bs.map V.ref).set i (.ref b) = (bs.set i b).map V.ref := by rw [List.map_set]
section
variable {P : Program} {w : World} {K : PySem.W.Frag} {mg : Str → Option Value} {base : Heap} {C : Nat → Addr} {tG tL : Tok}
theorem sc_l_as : FnScope ["_law_tape_here", "_law_rows", "_law_found", "_law_row", "_law_i"] ["_law_tape_here", "_law_rows"] (defScope s_l_as) :=
  ⟨rfl, rfl, rfl, by decide +kernel, rfl, by decide +kernel, by decide +kernel⟩
theorem ok_as {f : Addr} {fd : FuncData} (F : Fun K "_law_as" "_law_as" s_l_as f fd) (T : Txt K mg C tG tL) (c_l_digit : Cal P w K mg base CX0 1 "_law_digit" ["_law_tape_here", "_law_size"] sp_digit) : FnOk P w K mg base CX0 2 f fd ["_law_tape_here", "_law_rows"] (sp_as K) := by
  refine F.ok sc_l_as (fun vs H Q E ⟨t, R, ls, ms, e, _⟩ => by rw [e]; rfl) (fun cdv A outer s H vs Q E hr h => ?_)
  obtain ⟨t, R, ls, ms, rfl, tp, hR, hQ, h6, hRt, hlt, q⟩ := h
  have hlen := hQ.length
  refine ⟨_, (pss_cons (ps_setLc (i := 2) (own := [("_law_row", 3)]) (by rfl) sc_l_as.nd rfl rfl (sw_true rfl rfl rfl (by decide +kernel)) (pi_list (pv 1)) (blkOk_by (own := [("_law_row", 3)]) (N := ["_law_tape_here", "_law_rows", "_law_found", "_law_row", "_law_i"]) (sc := defScope s_l_as) (by decide +kernel)) (fun _ _ _ _ _ => (pg_name (i := 3) sc_l_as.nd rfl (by first | exact Or.inl rfl | exact Or.inr rfl))) (fun _ _ _ _ _ => pts_nil) (fun _ _ _ _ _ => (pe_callTy (list_ofK (K := K) rfl) (by rfl) T.n_list (by decide +kernel) (pa_cons (pv 3) pa_nil))))
  (pss_cons (ps_for PassesOwn.never rfl (pi_range1 (by rfl) T.n_range (pa_cons (pe_callB (len_ofK (K := K) rfl) (by rfl) T.n_len (by decide +kernel) (pa_cons (pv 2) pa_nil)) pa_nil))
  (pg_name (i := 4) sc_l_as.nd rfl (by first | exact Or.inl rfl | exact Or.inr rfl))
  (pss_one (ps_if (pt_cmpR op_eq (pe_cal c_l_digit (hr.mono (by decide)) (by rfl) pass0 (pa_cons (pv 0) (pa_cons pe_int pa_nil))) pe_int (nomark _))
  (pss_one (ps_asg (pe_callTy (tuple_ofK (K := K) rfl) (by rfl) T.n_tuple (by decide +kernel) (pa_cons (pe_ix (ix_listK (K := K) rfl) (pv 2) (pv 4) (fun _ _ => rfl)) pa_nil)) (pg_sub (pv 2) (pv 4) set_list)))
  pss_nil)))
  (pss_cons (ps_if (pt_cmpR op_eq (pe_cal c_l_digit (hr.mono (by decide)) (by rfl) pass0 (pa_cons (pv 0) (pa_cons pe_int pa_nil))) pe_int (nomark _))
  (pss_one (ps_ret (pe_callTy (tuple_ofK (K := K) rfl) (by rfl) T.n_tuple (by decide +kernel) (pa_cons (pv 2) pa_nil))))
  pss_nil)
  (pss_one (ps_ret (pv 2)))))), ?_⟩
  refine ⟨.ref R, rfl, R, rfl, ⟨_, hR⟩, fun D nD => ?_⟩
  have hDt : D ≠ t := fun z => by obtain ⟨m, e⟩ := tp; rw [z, e] at nD; cases nD
  refine lc_list (K := K) (xs := ls.map V.ref) (fun i H' => Same H H' ∧ ∃ bs : List Addr, H' D = some (.lst (bs.map V.ref)) ∧ RowsV H H' bs (ms.take i) ∧ ∀ b ∈ bs, b ≠ D) ⟨same_upd nD, [], upd_same, .nil, fun _ z => nomatch z⟩ (fun i H' _ p => p.1.seq hR) (fun i x H' hx p => ?_) (fun H' p => ?_)
  · obtain ⟨sm, bs, hbs, hrows, hne⟩ := p
    obtain ⟨k, hk, rfl⟩ : ∃ k, ls[i]? = some k ∧ x = V.ref k := by
      rw [List.getElem?_map] at hx
      cases e : ls[i]? with
      | none => rw [e] at hx; cases hx
      | some b => rw [e] at hx; exact ⟨b, rfl, (Option.some.inj hx).symm⟩
    obtain ⟨m, hm, hT⟩ := hQ.get hk
    refine ⟨rfl, .ref k, rfl, k, _, rfl, .inl (sm.seq hT), fun l nl => ?_⟩
    have nlD : l ≠ D := fun z => by rw [z, hbs] at nl; cases nl
    have k1 := same_upd (o := .lst m) nl
    have hl2 := hrows.length
    refine ⟨_, k1 _ _ hbs, ?_, fun b o e => ?_, bs ++ [l], by rw [upd_same, List.map_append]; rfl, ?_, fun y hy => ?_⟩
    · rw [List.length_map, hl2, List.length_take]
      exact Nat.lt_of_le_of_lt (Nat.le_trans (Nat.min_le_right _ _) (by omega : ms.length ≤ 6)) (by decide)
    · rw [upd_ne (ne_of_none e nD)]
      exact k1 _ _ (sm b o e)
    · rw [List.take_add_one, hm]
      refine (hrows.keep fun b o e1 e2 hb => ?_).append (.cons (sm.free nl) (.inl ?_) .nil)
      · rw [upd_ne (hne b hb)]
        exact k1 _ _ e2
      · rw [upd_ne nlD, upd_same]
    · rcases List.mem_append.mp hy with z | z
      · exact hne y z
      · obtain rfl : y = l := by simpa using z
        exact nlD
  obtain ⟨sm, bs0, hbs0, hrows0, hne0⟩ := p
  rw [List.length_map, hlen, List.take_length] at hrows0
  have hl0 := hrows0.length
  have back : ∀ b, H b = none → b ≠ t := fun b e z => by obtain ⟨m, e'⟩ := tp; rw [z, e'] at e; cases e
  refine ⟨.ref D, rfl, D, _, rfl, .inl (SqL.of hbs0), _, rfl, by rw [List.length_map]; omega, by rw [List.length_map]; omega, ?_⟩
  rw [List.length_map, Int.toNat_natCast]
  refine for_range (n := bs0.length) (fun i σ H2 => ∃ v4, σ = [some (.ref t), some (.ref R), some (.ref D), none, v4] ∧ Kp t H H2 ∧ ∃ bs : List Addr, H2 D = some (.lst (bs.map V.ref)) ∧ RowsV H H2 bs ms ∧ ∀ b ∈ bs, b ≠ D)
    ⟨none, rfl, Kp.ofSame tp sm, bs0, hbs0, hrows0, hne0⟩ (fun i σ H2 hi p => ?_) (fun σ H2 p => ?_)
  · obtain ⟨v4, rfl, kp, bs, hbs, hrows, hne⟩ := p
    have hlb := hrows.length
    have hib : i < bs.length := by omega
    obtain ⟨n, ht⟩ := kp.2
    refine ⟨.ref t, rfl, t, n, 2, rfl, ht, by decide, by decide, fun d n' d0 d1 => ⟨rfl, _, rfl, ite2 (fun e => ?_) (fun e => ?_)⟩⟩
    · have hD3 : (upd H2 t (.lst [.int n'])) D = some (.lst (bs.map V.ref)) := (upd_ne hDt).trans hbs
      have hix : (bs.map V.ref)[i]? = some (.ref bs[i]) := by rw [List.getElem?_map, List.getElem?_eq_getElem hib]; rfl
      obtain ⟨m, hm, hb0, hbv⟩ := hrows.get (List.getElem?_eq_getElem hib)
      have hbt : bs[i] ≠ t := back _ hb0
      have zi : (0 : Int) + (i : Nat) = (i : Nat) := Int.zero_add _
      refine ⟨.ref D, rfl, .int (0 + (i : Nat)), rfl, D, _, _, .ref bs[i], rfl, rfl, SqL.of hD3, by rw [zi]; exact atI_nat hix, bs[i], m, rfl, ?_⟩
      have hset : ∀ y : Addr, ixN (bs.map V.ref).length (0 + (i : Nat)) = some i := fun y => by rw [zi]; exact ixN_nat (by rw [List.length_map]; exact hib)
      rcases hbv with hL | hT
      · refine .inl ⟨SqL.of ((upd_ne hbt).trans hL), fun l nl => ?_⟩
        have nl2 : H2 l = none := by
          by_cases z : l = t
          · rw [z, upd_same] at nl; cases nl
          · rw [upd_ne z] at nl; exact nl
        have nlt : l ≠ t := fun z => by rw [z, upd_same] at nl; cases nl
        have nlD : l ≠ D := fun z => by rw [z, hD3] at nl; cases nl
        refine ⟨.ref D, rfl, .int (0 + (i : Nat)), rfl, D, _, _, i, rfl, rfl, (upd_ne nlD.symm).trans hD3, hset l, some (.int (0 + (i : Nat))), rfl, ⟨fun b o e' h' => ?_, ⟨n', ?_⟩⟩, bs.set i l, by rw [upd_same, set_map_ref], ?_, fun b hb => ?_⟩
        · have h3 := kp.1 b o e' h'
          rw [upd_ne (ne_of_none e' nD), upd_ne (ne_of_none h3 nl2), upd_ne h']
          exact h3
        · rw [upd_ne hDt.symm, upd_ne nlt.symm, upd_same]
        · refine RowsV.set (kp.free tp nl2) (.inr (by rw [upd_ne nlD, upd_same])) (hrows.keep fun b o e1 e2 hb => ?_) hm
          rw [upd_ne (hne b hb), upd_ne (ne_of_none e2 nl2), upd_ne (back b e1)]
          exact e2
        · rcases List.mem_or_eq_of_mem_set hb with z | z
          · exact hne b z
          · rw [z]; exact nlD
      · refine .inr ⟨SqT.of ((upd_ne hbt).trans hT), .ref D, rfl, .int (0 + (i : Nat)), rfl, D, _, _, i, rfl, rfl, hD3, hset D, some (.int (0 + (i : Nat))), rfl, ⟨fun b o e' h' => ?_, ⟨n', ?_⟩⟩, bs.set i bs[i], by rw [upd_same, set_map_ref], ?_, fun b hb => ?_⟩
        · rw [upd_ne (ne_of_none e' nD), upd_ne h']
          exact kp.1 b o e' h'
        · rw [upd_ne hDt.symm, upd_same]
        · refine RowsV.set hb0 (.inr ?_) (hrows.keep fun b o e1 e2 hb => ?_) hm
          · rw [upd_ne (hne _ (List.getElem_mem hib)), upd_ne hbt]
            exact hT
          · rw [upd_ne (hne b hb), upd_ne (back b e1)]
            exact e2
        · rcases List.mem_or_eq_of_mem_set hb with z | z
          · exact hne b z
          · rw [z]; exact hne _ (List.getElem_mem hib)
    · refine ⟨some (.int (0 + (i : Nat))), rfl, kp.tape, bs, (upd_ne hDt).trans hbs, hrows.keep fun b o e1 e2 hb => ?_, hne⟩
      rw [upd_ne (back b e1)]
      exact e2
  · obtain ⟨v4, rfl, kp, bs, hbs, hrows, hne⟩ := p
    obtain ⟨n, ht⟩ := kp.2
    refine ⟨.ref t, rfl, t, n, 2, rfl, ht, by decide, by decide, fun d n' d0 d1 => ⟨rfl, _, rfl, ite2 (fun e => ?_) (fun e => ?_)⟩⟩
    · have hD3 : (upd H2 t (.lst [.int n'])) D = some (.lst (bs.map V.ref)) := (upd_ne hDt).trans hbs
      refine ⟨.ref D, rfl, D, _, rfl, .inl ⟨SqL.of hD3, fun l nl => ?_⟩⟩
      have kp3 := (kp.tape (n := n')).lay (o := .tup (bs.map V.ref)) nl
      have nl2 : H2 l = none := by
        by_cases z : l = t
        · rw [z, upd_same] at nl; cases nl
        · rw [upd_ne z] at nl; exact nl
      refine q _ l bs kp3 (kp.free tp nl2) (.inr upd_same) (hrows.keep fun b o e1 e2 hb => ?_) fun b hb z => ?_
      · rw [upd_ne (ne_of_none e2 nl2), upd_ne (back b e1)]
        exact e2
      · obtain ⟨j, hj⟩ := List.mem_iff_getElem?.mp hb
        obtain ⟨m, _, _, hv⟩ := hrows.get hj
        rw [z, nl2] at hv
        rcases hv with hv | hv <;> cases hv
    · refine ⟨.ref D, rfl, q _ D bs kp.tape nD (.inl ((upd_ne hDt).trans hbs)) (hrows.keep fun b o e1 e2 hb => ?_) hne⟩
      rw [upd_ne (back b e1)]
      exact e2
end
end Kp11
set_option Elab.async false
set_option linter.all false
set_option maxRecDepth 100000
set_option maxHeartbeats 4000000
namespace Kp11
open PySem PySem.Spec PyProof.Rows L2 Vf
/-! ### what is due -/
def capD : Option Int → PyData
  | none => .none
  | some i => .int i
def capDt : Option Int → Dt
  | none => .non
  | some i => .int i
inductive RowsC (H : Hp) : List Addr → List (List (Option Int)) → Prop
  | nil : RowsC H [] []
  | cons {k : Addr} {ks : List Addr} {m : List (Option Int)} {ms : List (List (Option Int))} : H k = some (.lst (m.map capV)) → RowsC H ks ms → RowsC H (k :: ks) (m :: ms)
theorem RowsC.keep {H H' : Hp} : ∀ {ks : List Addr} {ms : List (List (Option Int))}, RowsC H ks ms → (∀ b ∈ ks, ∀ o, H b = some o → H' b = some o) → RowsC H' ks ms
  | _, _, .nil, _ => .nil
  | _, _, .cons h r, f => .cons (f _ List.mem_cons_self _ h) (r.keep fun b hb => f b (List.mem_cons_of_mem _ hb))
theorem RowsC.ofL {H H' : Hp} : ∀ {ks : List Addr} {ms : List (List (Option Int))}, RowsL H H' ks ms → RowsC H' ks ms
  | _, _, .nil => .nil
  | _, _, .cons _ h r => .cons h (RowsC.ofL r)
theorem RowsC.get {H : Hp} : ∀ {ks : List Addr} {ms : List (List (Option Int))} {i : Nat} {m : List (Option Int)}, RowsC H ks ms → ms[i]? = some m → ∃ k, ks[i]? = some k ∧ H k = some (.lst (m.map capV))
  | _, _, _, _, .nil, e => by simp at e
  | _, _, 0, _, .cons h _, e => by
    obtain rfl := Option.some.inj e
    exact ⟨_, rfl, h⟩
  | _, _, i + 1, m, .cons _ r, e => RowsC.get (i := i) (m := m) r e
theorem RowsC.there {H : Hp} : ∀ {ks : List Addr} {ms : List (List (Option Int))}, RowsC H ks ms → ∀ k ∈ ks, ∃ o, H k = some o
  | _, _, .nil, _, z => nomatch z
  | _, _, .cons h r, k, z => by
    rcases List.mem_cons.mp z with rfl | z
    · exact ⟨_, h⟩
    · exact r.there k z
theorem RowsC.q {K : PySem.W.Frag} {H : Hp} : ∀ {ks : List Addr} {ms : List (List (Option Int))}, RowsC H ks ms → RowsQ K H ks (ms.map (·.map capV))
  | _, _, .nil => .nil
  | _, _, .cons h r => .cons (SqL.of h) r.q
theorem RowsL.fresh {H H' : Hp} : ∀ {ks : List Addr} {ms : List (List (Option Int))}, RowsL H H' ks ms → ∀ k ∈ ks, H k = none
  | _, _, .nil, _, z => nomatch z
  | _, _, .cons h _ r, k, z => by
    rcases List.mem_cons.mp z with rfl | z
    · exact h
    · exact RowsL.fresh r k z
/-- the list of what is due, none of its objects in S -/
structure DueAt (H : Hp) (du : Addr) (rs cs : List Int) (ms : List (List (Option Int))) (S : List Addr) : Prop where
  ex : ∃ (a b c : Addr) (ls : List Addr), H du = some (.lst [.ref a, .ref b, .ref c]) ∧ H a = some (.lst (rs.map V.int)) ∧ H b = some (.lst (cs.map V.int)) ∧ H c = some (.lst (ls.map V.ref)) ∧ RowsC H ls ms ∧ ∀ x ∈ du :: a :: b :: c :: ls, x ∉ S
theorem DueAt.keep {H H' : Hp} {du : Addr} {rs cs : List Int} {ms : List (List (Option Int))} {S : List Addr} (D : DueAt H du rs cs ms S) (f : ∀ x o, x ∉ S → H x = some o → H' x = some o) : DueAt H' du rs cs ms S := by
  obtain ⟨a, b, c, ls, h1, h2, h3, h4, h5, h6⟩ := D.ex
  have g : ∀ x ∈ du :: a :: b :: c :: ls, ∀ o, H x = some o → H' x = some o := fun x hx o e => f x o (h6 x hx) e
  exact ⟨a, b, c, ls, g _ (by simp) _ h1, g _ (by simp) _ h2, g _ (by simp) _ h3, g _ (by simp) _ h4, h5.keep fun b hb o e => g b (by simp [hb]) o e, h6⟩
def dueD (rs cs : List Int) (ms : List (List (Option Int))) : PyData := .list [.list (rs.map PyData.int), .list (cs.map PyData.int), .list (ms.map fun m => .list (m.map capD))]
section
variable {K : PySem.W.Frag} {H : Hp}
theorem dp_ints : ∀ rs : List Int, DpAll K H (rs.map V.int) (rs.map PyData.int)
  | [] => .nil
  | r :: rs => .cons (.int r) (dp_ints rs)
theorem dp_cap : ∀ c : Option Int, Dp K H (capV c) (capD c)
  | none => .non
  | some i => .int i
theorem dp_caps : ∀ m : List (Option Int), DpAll K H (m.map capV) (m.map capD)
  | [] => .nil
  | c :: r => .cons (dp_cap c) (dp_caps r)
theorem dp_rows : ∀ {ls : List Addr} {ms : List (List (Option Int))}, RowsC H ls ms → DpAll K H (ls.map V.ref) (ms.map fun m => .list (m.map capD))
  | _, _, .nil => .nil
  | _, _, .cons h r => .cons (.lst (SqL.of h) (dp_caps _)) (dp_rows r)
theorem dp_due {du : Addr} {rs cs : List Int} {ms : List (List (Option Int))} {S : List Addr} (D : DueAt H du rs cs ms S) : Dp K H (.ref du) (dueD rs cs ms) := by
  obtain ⟨a, b, c, ls, h1, h2, h3, h4, h5, h6⟩ := D.ex
  exact .lst (SqL.of h1) (.cons (.lst (SqL.of h2) (dp_ints rs)) (.cons (.lst (SqL.of h3) (dp_ints cs)) (.cons (.lst (SqL.of h4) (dp_rows h5)) .nil)))
end
/-! small data is shown -/
theorem big60 : (1000000000000 : Nat) < 10 ^ 60 := by decide +kernel
theorem nice_int {i : Int} (h : 0 ≤ i ∧ i ≤ 1000000000000) : Nice (.int i) = true := decide_eq_true (Nat.lt_of_le_of_lt (show i.natAbs ≤ 1000000000000 by omega) big60)
theorem nice_ints : ∀ rs : List Int, (∀ r ∈ rs, 0 ≤ r ∧ r ≤ 1000000000000) → NiceL (rs.map PyData.int) = true ∧ nodesL (rs.map PyData.int) = rs.length ∧ PyData.depthAll (rs.map PyData.int) = 0
  | [], _ => ⟨rfl, rfl, rfl⟩
  | r :: rs, h => by
    obtain ⟨h1, h2, h3⟩ := nice_ints rs fun x hx => h x (List.mem_cons_of_mem _ hx)
    refine ⟨?_, ?_, ?_⟩
    · show (Nice (.int r) && NiceL (rs.map PyData.int)) = true
      rw [nice_int (h r List.mem_cons_self), h1]; rfl
    · show 1 + nodesL (rs.map PyData.int) = rs.length + 1
      omega
    · show max 0 (PyData.depthAll (rs.map PyData.int)) = 0
      rw [h3]; rfl
theorem nice_caps : ∀ m : List (Option Int), (∀ c ∈ m, capOk c) → NiceL (m.map capD) = true ∧ nodesL (m.map capD) = m.length ∧ PyData.depthAll (m.map capD) = 0
  | [], _ => ⟨rfl, rfl, rfl⟩
  | c :: m, h => by
    obtain ⟨h1, h2, h3⟩ := nice_caps m fun x hx => h x (List.mem_cons_of_mem _ hx)
    have hc := h c List.mem_cons_self
    refine ⟨?_, ?_, ?_⟩
    · show (Nice (capD c) && NiceL (m.map capD)) = true
      rw [h1]
      cases c with
      | none => rfl
      | some i => rw [show Nice (capD (some i)) = true from nice_int (hc i rfl)]; rfl
    · show nodes (capD c) + nodesL (m.map capD) = m.length + 1
      have : nodes (capD c) = 1 := by cases c <;> rfl
      omega
    · show max (PyData.depth (capD c)) (PyData.depthAll (m.map capD)) = 0
      rw [h3]
      cases c <;> rfl
theorem nice_rows : ∀ ms : List (List (Option Int)), (∀ m ∈ ms, m.length ≤ 6 ∧ ∀ c ∈ m, capOk c) → NiceL (ms.map fun m => .list (m.map capD)) = true ∧ nodesL (ms.map fun m => .list (m.map capD)) ≤ 7 * ms.length ∧ PyData.depthAll (ms.map fun m => .list (m.map capD)) ≤ 1
  | [], _ => ⟨rfl, Nat.zero_le _, Nat.zero_le _⟩
  | m :: ms, h => by
    obtain ⟨h1, h2, h3⟩ := nice_rows ms fun x hx => h x (List.mem_cons_of_mem _ hx)
    have hm := h m List.mem_cons_self
    obtain ⟨g1, g2, g3⟩ := nice_caps m hm.2
    refine ⟨?_, ?_, ?_⟩
    · show (NiceL (m.map capD) && NiceL (ms.map fun m => .list (m.map capD))) = true
      rw [g1, h1]; rfl
    · show (1 + nodesL (m.map capD)) + nodesL (ms.map fun m => .list (m.map capD)) ≤ 7 * (ms.length + 1)
      have := hm.1
      omega
    · show max (PyData.depthAll (m.map capD) + 1) (PyData.depthAll (ms.map fun m => .list (m.map capD))) ≤ 1
      rw [g3]
      omega
/-- sums and caps as this law draws them -/
structure Drawn (rs cs : List Int) (ms : List (List (Option Int))) : Prop where
  r1 : 1 ≤ rs.length
  r6 : rs.length ≤ 6
  c1 : 1 ≤ cs.length
  c6 : cs.length ≤ 6
  rb : ∀ r ∈ rs, 0 ≤ r ∧ r ≤ 1000000000000
  cb : ∀ r ∈ cs, 0 ≤ r ∧ r ≤ 1000000000000
  ml : ms.length = rs.length
  mb : ∀ m ∈ ms, m.length = cs.length ∧ ∀ c ∈ m, capOk c
theorem Drawn.rows {rs cs : List Int} {ms : List (List (Option Int))} (D : Drawn rs cs ms) : ∀ m ∈ ms, m.length ≤ 6 ∧ ∀ c ∈ m, capOk c := fun m hm => ⟨by rw [(D.mb m hm).1]; exact D.c6, (D.mb m hm).2⟩
theorem repr_due {K : PySem.W.Frag} {H : Hp} {v : V} {rs cs : List Int} {ms : List (List (Option Int))} {Q : VK} (D : Drawn rs cs ms) (d : Dp K H v (dueD rs cs ms)) (q : Q (.str (dueD rs cs ms).shown) H) : rRepr K [v] H Q := by
  obtain ⟨a1, a2, a3⟩ := nice_ints rs D.rb
  obtain ⟨b1, b2, b3⟩ := nice_ints cs D.cb
  obtain ⟨c1, c2, c3⟩ := nice_rows ms D.rows
  have r6 := D.r6
  have c6 := D.c6
  have ml := D.ml
  refine repr_ok d ?_ ?_ ?_ q
  · show (NiceL (rs.map PyData.int) && (NiceL (cs.map PyData.int) && (NiceL (ms.map fun m => .list (m.map capD)) && true))) = true
    rw [a1, b1, c1]; rfl
  · show 1 + ((1 + nodesL (rs.map PyData.int)) + ((1 + nodesL (cs.map PyData.int)) + ((1 + nodesL (ms.map fun m => .list (m.map capD))) + 0))) ≤ 1000
    omega
  · show max (PyData.depthAll (rs.map PyData.int) + 1) (max (PyData.depthAll (cs.map PyData.int) + 1) (max (PyData.depthAll (ms.map fun m => .list (m.map capD)) + 1) 0)) + 1 ≤ 60
    omega
/-! data that the program takes -/
theorem counts_ok {d : Dt} {rs : List Int} (e : d.items = some (rs.map Dt.int)) (h1 : 1 ≤ rs.length) (h6 : rs.length ≤ 6) (hb : ∀ r ∈ rs, 0 ≤ r ∧ r ≤ 1000000000000) : areCounts d = true := by
  unfold areCounts isShort
  rw [e]
  have g : (rs.map Dt.int).all isCount = true := by
    rw [List.all_map, List.all_eq_true]
    intro r hr
    have := hb r hr
    show (decide (0 ≤ r) && decide (r ≤ 1000000000000)) = true
    rw [decide_eq_true this.1, decide_eq_true this.2]; rfl
  show ((decide (1 ≤ (rs.map Dt.int).length) && decide ((rs.map Dt.int).length ≤ 6)) && (rs.map Dt.int).all isCount) = true
  rw [g, List.length_map, decide_eq_true h1, decide_eq_true h6]; rfl
theorem rp_ints {K : PySem.W.Frag} {H : Hp} : ∀ rs : List Int, RpL K H (rs.map V.int) (rs.map Dt.int)
  | [] => .nil
  | r :: rs => .cons (.int r) (rp_ints rs)
theorem rp_caps {K : PySem.W.Frag} {H : Hp} : ∀ m : List (Option Int), RpL K H (m.map capV) (m.map capDt)
  | [] => .nil
  | none :: m => .cons .non (rp_caps m)
  | some i :: m => .cons (.int i) (rp_caps m)
theorem capInt_capDt (c : Option Int) : capInt (capDt c) = c := by cases c <;> rfl
theorem caps_all (m : List (Option Int)) (h : ∀ c ∈ m, capOk c) : (m.map capDt).all isCap = true := by
  rw [List.all_map, List.all_eq_true]
  intro c hc
  cases c with
  | none => rfl
  | some i =>
    have := h _ hc i rfl
    show (decide (0 ≤ i) && decide (i ≤ 1000000000000)) = true
    rw [decide_eq_true this.1, decide_eq_true this.2]; rfl
/-- rows as they are handed in, as data -/
theorem rp_rowsV {K : PySem.W.Frag} {H H' : Hp} {n : Nat} : ∀ {bs : List Addr} {ms : List (List (Option Int))}, RowsV H H' bs (ms.map (·.map capV)) → (∀ m ∈ ms, m.length = n ∧ ∀ c ∈ m, capOk c) →
    ∃ ds : List Dt, RpL K H' (bs.map V.ref) ds ∧ ds.length = ms.length ∧ ds.all (isCapRow n) = true ∧ (ds.map fun r => (r.items.getD []).map capInt) = ms
  | _, [], r, _ => by cases r; exact ⟨[], .nil, rfl, rfl, rfl⟩
  | _, m :: ms, r, h => by
    cases r with
    | cons h1 h2 r =>
      obtain ⟨ds, g1, g2, g3, g4⟩ := rp_rowsV (K := K) r fun x hx => h x (List.mem_cons_of_mem _ hx)
      have hm := h m List.mem_cons_self
      obtain ⟨d, rd, ed⟩ : ∃ d : Dt, Rp K H' (.ref _) d ∧ d.items = some (m.map capDt) := by
        rcases h2 with z | z
        · exact ⟨.lst (m.map capDt), .lst (SqL.of z) (rp_caps m), rfl⟩
        · exact ⟨.tup (m.map capDt), .tup (SqT.of z) (rp_caps m), rfl⟩
      refine ⟨d :: ds, .cons rd g1, by rw [List.length_cons, List.length_cons, g2], ?_, ?_⟩
      · rw [List.all_cons, g3, Bool.and_true]
        unfold isCapRow
        rw [ed]
        show (decide ((m.map capDt).length = n) && (m.map capDt).all isCap) = true
        rw [caps_all m hm.2, List.length_map, decide_eq_true hm.1]; rfl
      · rw [List.map_cons, g4, ed]
        show ((m.map capDt).map capInt) :: ms = m :: ms
        rw [List.map_map]
        congr 1
        exact (List.map_congr_left fun c _ => capInt_capDt c).trans (List.map_id m)
theorem rp_some {K : PySem.W.Frag} {H H' : Hp} {p : Addr} {bs : List Addr} {h n : Nat} {ms : List (List (Option Int))} (hp : H' p = some (.lst (bs.map V.ref)) ∨ H' p = some (.tup (bs.map V.ref))) (r : RowsV H H' bs (ms.map (·.map capV))) (hl : ms.length = h) (hm : ∀ m ∈ ms, m.length = n ∧ ∀ c ∈ m, capOk c) :
    ∃ d : Dt, Rp K H' (.ref p) d ∧ capsOk d h n = true ∧ capsOf d h n = ms := by
  obtain ⟨ds, g1, g2, g3, g4⟩ := rp_rowsV (K := K) r hm
  obtain ⟨d, rd, ed⟩ : ∃ d : Dt, Rp K H' (.ref p) d ∧ d.items = some ds := by
    rcases hp with z | z
    · exact ⟨.lst ds, .lst (SqL.of z) g1, rfl⟩
    · exact ⟨.tup ds, .tup (SqT.of z) g1, rfl⟩
  refine ⟨d, rd, ?_, ?_⟩
  · rw [capsOk_items (fun z => by rw [z] at ed; cases ed), ed]
    show (decide (ds.length = h) && ds.all (isCapRow n)) = true
    rw [g3, decide_eq_true (by rw [g2, hl])]; rfl
  · rw [capsOf_items ed, g4]
/-- the frame stays where a list changes -/
theorem FrameAt.updL {K : PySem.W.Frag} {CF : Addr} {H : Hp} {p b : Addr} {rs cs : List Int} {ms : List (List (Option Int))} {xs : List V} {o : HO} (F : FrameAt K CF H p rs cs ms) (hb : H b = some (.lst xs)) : FrameAt K CF (upd H b o) p rs cs ms := by
  obtain ⟨dx, tr, tc, tk, ks, h1, h2, h3, h4, h5⟩ := F.ex
  have g : ∀ k ys, SqT K H k ys → SqT K (upd H b o) k ys := fun k ys z => sqT_upd z hb (fun _ z => nomatch z) fun _ _ z => nomatch z
  exact ⟨⟨dx, tr, tc, tk, ks, by rw [upd_ne (fun z => by rw [z, hb] at h1; cases h1)]; exact h1, g _ _ h2, g _ _ h3, g _ _ h4, h5.imp g⟩, F.high, F.wide⟩
end Kp11
set_option Elab.async false
set_option linter.all false
set_option maxRecDepth 100000
set_option maxHeartbeats 4000000
namespace Kp11
open PySem PySem.Spec PyProof.Rows L2 Vf
/-! ### a frame made, and what is due of it -/
def sp_made (K : PySem.W.Frag) (CF : Addr) : Sp := fun vs H Q _ => ∃ t : Addr, vs = [.ref t] ∧ Tp H t ∧ ∀ (H' : Hp) (p fr du : Addr) (rs cs : List Int) (ms : List (List (Option Int))), Kp t H H' → H' p = some (.tup [.ref fr, .ref du]) → FrameAt K CF H' fr rs cs ms → DueAt H' du rs cs ms [t] → Drawn rs cs ms → Q (.ref p) H'
theorem count_step {t R : Addr} {H1 H2 H3 : Hp} {rs : List Int} {c : Int} (nR : H1 R = none) (hRt : R ≠ t) (kp : Kp t H1 H2) (hr : H2 R = some (.lst (rs.map V.int))) (hl : rs.length < 6) (hb : ∀ r ∈ rs, 0 ≤ r ∧ r ≤ 1000000000000) (c0 : 0 ≤ c) (c1 : c ≤ 1000000000000) (kp3 : Kp t H2 H3) :
    ∃ acc, H3 R = some (.lst acc) ∧ acc.length < sizeLine ∧ (Kp t H1 (upd H3 R (.lst (acc ++ [V.int c]))) ∧ ∃ rs' : List Int, (upd H3 R (.lst (acc ++ [V.int c]))) R = some (.lst (rs'.map V.int)) ∧ rs'.length = rs.length + 1 ∧ ∀ r ∈ rs', 0 ≤ r ∧ r ≤ 1000000000000) := by
  refine ⟨_, kp3.1 _ _ hr hRt, by rw [List.length_map]; exact Nat.lt_of_lt_of_le hl (by decide), (kp.trans kp3).put nR hRt, rs ++ [c], by rw [upd_same, List.map_append]; rfl, by rw [List.length_append]; rfl, fun r hr => ?_⟩
  rcases List.mem_append.mp hr with z | z
  · exact hb r z
  · obtain rfl : r = c := by simpa using z
    exact ⟨c0, c1⟩
/-- what stands at an address of a list or a tuple handed in -/
def Hnd (H : Hp) (v : V) (R : Addr) (rs : List Int) : Prop := v = .ref R ∨ ∃ tu, v = .ref tu ∧ H tu = some (.tup (rs.map V.int))
theorem Hnd.kp {t R : Addr} {H H' : Hp} {v : V} {rs : List Int} (h : Hnd H v R rs) (tp : Tp H t) (k : Kp t H H') : Hnd H' v R rs := by
  rcases h with z | ⟨tu, z, e⟩
  · exact .inl z
  · exact .inr ⟨tu, z, k.1 _ _ e fun y => by obtain ⟨n, e'⟩ := tp; rw [y, e'] at e; cases e⟩
theorem Hnd.same {R : Addr} {H H' : Hp} {v : V} {rs : List Int} (h : Hnd H v R rs) (s : Same H H') : Hnd H' v R rs := by
  rcases h with z | ⟨tu, z, e⟩
  · exact .inl z
  · exact .inr ⟨tu, z, s _ _ e⟩
theorem Hnd.rp {K : PySem.W.Frag} {R : Addr} {H : Hp} {v : V} {rs : List Int} (h : Hnd H v R rs) (hR : H R = some (.lst (rs.map V.int))) : ∃ d : Dt, Rp K H v d ∧ d.items = some (rs.map Dt.int) := by
  rcases h with rfl | ⟨tu, rfl, e⟩
  · exact ⟨.lst _, .lst (SqL.of hR) (rp_ints rs), rfl⟩
  · exact ⟨.tup _, .tup (SqT.of e) (rp_ints rs), rfl⟩
theorem ints_inj {a b : List Int} (e : some (a.map Dt.int) = some (b.map Dt.int)) : a = b := by
  replace e := Option.some.inj e
  induction a generalizing b with
  | nil => cases b with
    | nil => rfl
    | cons y b => cases e
  | cons x a ih => cases b with
    | nil => cases e
    | cons y b =>
      rw [List.map_cons, List.map_cons] at e
      obtain ⟨e1, e2⟩ := List.cons.inj e
      rw [Dt.int.inj e1, ih e2]
theorem notS {H : Hp} {t R Cc x : Addr} {u v : HO} (nx : H x = none) (ht : Tp H t) (hR : H R = some u) (hC : H Cc = some v) : x ∉ [t, R, Cc] := fun z => by
  obtain ⟨n, e⟩ := ht
  rcases List.mem_cons.mp z with z | z
  · rw [z, e] at nx; cases nx
  · rcases List.mem_cons.mp z with z | z
    · rw [z, hR] at nx; cases nx
    · obtain rfl : x = Cc := by simpa using z
      rw [hC] at nx; cases nx
theorem init_use {K : PySem.W.Frag} {CF : Addr} {C : Nat → Addr} {H1 : Hp} {v0 v1 g : V} {R Cc x dx : Addr} {rs cs : List Int} {ms : List (List (Option Int))} {m : Dt} {Q : VK} {E : XK} (D : Drawn rs cs ms) (h0 : Hnd H1 v0 R rs) (h1 : Hnd H1 v1 Cc cs) (hR : H1 R = some (.lst (rs.map V.int))) (hC : H1 Cc = some (.lst (cs.map V.int)))
    (Rg : Rp K H1 g m) (ok : capsOk m rs.length cs.length = true) (of : capsOf m rs.length cs.length = ms) (nx : H1 x = none) (ndx : H1 dx = none) (ne : dx ≠ x) (q : ∀ H2, Same H1 H2 → FrameAt K CF H2 x rs cs ms → Q .non H2) :
    sp_initF K CF C [.ref x, v0, v1, g] (upd (upd H1 dx (.own x)) x (.ins CF dx [])) Q E := by
  have s1 : Same H1 (upd (upd H1 dx (.own x)) x (.ins CF dx [])) := (same_upd ndx).trans (same_upd (by rw [upd_ne ne.symm]; exact nx))
  obtain ⟨d0, R0, e0⟩ := (h0.same s1).rp (K := K) (s1 _ _ hR)
  obtain ⟨d1, R1, e1⟩ := (h1.same s1).rp (K := K) (s1 _ _ hC)
  have a0 := counts_ok e0 D.r1 D.r6 D.rb
  have a1 := counts_ok e1 D.c1 D.c6 D.cb
  have l0 : lenD d0 = rs.length := by unfold lenD; rw [e0]; simp
  have l1 : lenD d1 = cs.length := by unfold lenD; rw [e1]; simp
  refine ⟨x, dx, v0, v1, g, d0, d1, m, rfl, upd_same, R0, R1, Rg.same s1, (fun z => by rw [a0, a1] at z; cases z), (fun _ z => by rw [l0, l1, ok] at z; cases z), fun _ _ rs' cs' H2 g0 g1 kp FA => ?_⟩
  obtain rfl := ints_inj (e0.symm.trans g0)
  obtain rfl := ints_inj (e1.symm.trans g1)
  rw [of] at FA
  exact q H2 (fun b o e => kp b o (s1 _ _ e) (ne_of_none e nx)) FA
theorem FrameAt.kp {K : PySem.W.Frag} {CF t : Addr} {H H' : Hp} {p : Addr} {rs cs : List Int} {ms : List (List (Option Int))} (F : FrameAt K CF H p rs cs ms) (tp : Tp H t) (k : Kp t H H') : FrameAt K CF H' p rs cs ms := by
  obtain ⟨dx, tr, tc, tk, ks, h1, h2, h3, h4, h5⟩ := F.ex
  obtain ⟨n, e⟩ := tp
  have g : ∀ k ys, SqT K H k ys → SqT K H' k ys := fun b ys z => by
    rcases z with (z | ⟨ob, z⟩) | z
    · exact .inl (.inl (k.1 _ _ z fun y => by rw [y, e] at z; cases z))
    · exact .inl (.inr ⟨ob, k.1 _ _ z fun y => by rw [y, e] at z; cases z⟩)
    · exact .inr z
  exact ⟨⟨dx, tr, tc, tk, ks, k.1 _ _ h1 (fun y => by rw [y, e] at h1; cases h1), g _ _ h2, g _ _ h3, g _ _ h4, h5.imp g⟩, F.high, F.wide⟩
theorem none_rows (rs cs : List Int) (r1 : 1 ≤ rs.length) (r6 : rs.length ≤ 6) (c1 : 1 ≤ cs.length) (c6 : cs.length ≤ 6) (rb : ∀ r ∈ rs, 0 ≤ r ∧ r ≤ 1000000000000) (cb : ∀ r ∈ cs, 0 ≤ r ∧ r ≤ 1000000000000) : Drawn rs cs (List.replicate rs.length (List.replicate cs.length none)) :=
  ⟨r1, r6, c1, c6, rb, cb, List.length_replicate, fun m hm => by
    rw [(List.mem_replicate.mp hm).2]
    exact ⟨List.length_replicate, fun c hc => by rw [(List.mem_replicate.mp hc).2]; exact fun i z => nomatch z⟩⟩
theorem DueAt.less {H : Hp} {du : Addr} {rs cs : List Int} {ms : List (List (Option Int))} {S S' : List Addr} (D : DueAt H du rs cs ms S) (f : ∀ x ∈ S', x ∈ S) : DueAt H du rs cs ms S' := by
  obtain ⟨a, b, c, ls, h1, h2, h3, h4, h5, h6⟩ := D.ex
  exact ⟨a, b, c, ls, h1, h2, h3, h4, h5, fun x hx z => h6 x hx (f x z)⟩
theorem sqL_eq {K : PySem.W.Frag} {H H' : Hp} {p : Addr} {xs : List V} (e : H' p = H p) (h : SqL K H p xs) : SqL K H' p xs := by
  rcases h with (h | ⟨o, h⟩) | h
  · exact .inl (.inl (e.trans h))
  · exact .inl (.inr ⟨o, e.trans h⟩)
  · exact .inr h
theorem sqT_eq {K : PySem.W.Frag} {H H' : Hp} {p : Addr} {xs : List V} (e : H' p = H p) (h : SqT K H p xs) : SqT K H' p xs := by
  rcases h with (h | ⟨o, h⟩) | h
  · exact .inl (.inl (e.trans h))
  · exact .inl (.inr ⟨o, e.trans h⟩)
  · exact .inr h
theorem ne_ints_refs {rs : List Int} {a b c : Addr} (h : 1 ≤ rs.length) : rs.map V.int ≠ [V.ref a, .ref b, .ref c] := fun z => by
  cases rs with
  | nil => exact absurd h (by decide)
  | cons r rs => cases z
/-- what is handed in as caps, as data to be shown -/
theorem some_rows {K : PySem.W.Frag} {H H' : Hp} : ∀ {bs : List Addr} {ms : List (List (Option Int))}, RowsV H H' bs (ms.map (·.map capV)) → (∀ m ∈ ms, m.length ≤ 6 ∧ ∀ c ∈ m, capOk c) →
    ∃ ds : List PyData, DpAll K H' (bs.map V.ref) ds ∧ NiceL ds = true ∧ nodesL ds ≤ 7 * ms.length ∧ PyData.depthAll ds ≤ 1
  | _, [], r, _ => by cases r; exact ⟨[], .nil, rfl, Nat.zero_le _, Nat.zero_le _⟩
  | _, m :: ms, r, h => by
    cases r with
    | cons h1 h2 r =>
      obtain ⟨ds, g1, g2, g3, g4⟩ := some_rows (K := K) r fun x hx => h x (List.mem_cons_of_mem _ hx)
      have hm := h m List.mem_cons_self
      obtain ⟨n1, n2, n3⟩ := nice_caps m hm.2
      have fin : ∀ d : PyData, Nice d = NiceL (m.map capD) → nodes d = 1 + nodesL (m.map capD) → PyData.depth d = PyData.depthAll (m.map capD) + 1 → NiceL (d :: ds) = true ∧ nodesL (d :: ds) ≤ 7 * (m :: ms).length ∧ PyData.depthAll (d :: ds) ≤ 1 := fun d e1 e2 e3 => by
        refine ⟨?_, ?_, ?_⟩
        · show (Nice d && NiceL ds) = true
          rw [e1, n1, g2]; rfl
        · show nodes d + nodesL ds ≤ 7 * (ms.length + 1)
          have := hm.1
          omega
        · show max (PyData.depth d) (PyData.depthAll ds) ≤ 1
          omega
      rcases h2 with z | z
      · exact ⟨.list (m.map capD) :: ds, .cons (.lst (SqL.of z) (dp_caps m)) g1, fin _ rfl rfl rfl⟩
      · exact ⟨.tuple (m.map capD) :: ds, .cons (.tup (SqT.of z) (dp_caps m)) g1, fin _ rfl rfl rfl⟩
theorem some_data {K : PySem.W.Frag} {H H' : Hp} {p : Addr} {bs : List Addr} {ms : List (List (Option Int))} (hp : H' p = some (.lst (bs.map V.ref)) ∨ H' p = some (.tup (bs.map V.ref))) (r : RowsV H H' bs (ms.map (·.map capV))) (hm : ∀ m ∈ ms, m.length ≤ 6 ∧ ∀ c ∈ m, capOk c) (hl : ms.length ≤ 6) :
    ∃ d : PyData, Dp K H' (.ref p) d ∧ Nice d = true ∧ nodes d ≤ 1000 ∧ PyData.depth d ≤ 60 := by
  obtain ⟨ds, g1, g2, g3, g4⟩ := some_rows (K := K) r hm
  rcases hp with z | z
  · exact ⟨.list ds, .lst (SqL.of z) g1, g2, by show 1 + nodesL ds ≤ 1000; omega, by show PyData.depthAll ds + 1 ≤ 60; omega⟩
  · exact ⟨.tuple ds, .tup (SqT.of z) g1, g2, by show 1 + nodesL ds ≤ 1000; omega, by show PyData.depthAll ds + 1 ≤ 60; omega⟩
def twoD (rs cs : List Int) : PyData := .list [.list (rs.map PyData.int), .list (cs.map PyData.int)]
theorem lay_ints : ∀ rs : List Int, PyData.canLayAll0 (rs.map PyData.int) = true ∧ PyData.depthAll (rs.map PyData.int) = 0
  | [] => ⟨rfl, rfl⟩
  | r :: rs => by
    obtain ⟨h1, h2⟩ := lay_ints rs
    refine ⟨?_, ?_⟩
    · show (PyData.canLay0 (.int r) && PyData.canLayAll0 (rs.map PyData.int)) = true
      rw [h1]; rfl
    · show max (PyData.depth (.int r)) (PyData.depthAll (rs.map PyData.int)) = 0
      rw [h2]; rfl
theorem shaped_two (rs cs : List Int) : SeqAt.shaped (twoD rs cs) = true := by
  show ((PyData.canLayAll0 (rs.map PyData.int) && (PyData.canLayAll0 (cs.map PyData.int) && true)) && decide (max (PyData.depthAll (rs.map PyData.int) + 1) (max (PyData.depthAll (cs.map PyData.int) + 1) 0) + 1 ≤ 64)) = true
  rw [(lay_ints rs).1, (lay_ints cs).1, (lay_ints rs).2, (lay_ints cs).2]
  rfl
/-- what stands behind the frame's making -/
structure Mid11 (K : PySem.W.Frag) (CF t R Cc du fr : Addr) (rs cs : List Int) (ms : List (List (Option Int))) (H H' : Hp) : Prop where
  kp : Kp t H H'
  fa : FrameAt K CF H' fr rs cs ms
  da : DueAt H' du rs cs ms [t, R, Cc]
  dr : Drawn rs cs ms
  hR : H' R = some (.lst (rs.map V.int))
  hC : H' Cc = some (.lst (cs.map V.int))
section
variable {P : Program} {w : World} {K : PySem.W.Frag} {mg : Str → Option Value} {base : Heap} {C : Nat → Addr} {tG tL : Tok} {CF fI : Addr} {fdI : FuncData} {ds : List Value} {gU : List Value → List Value → List Value}
theorem sc_l_made : FnScope ["_law_tape_here", "_law_rows", "_law_i", "_law_columns", "_law_j", "_law_handed", "_law_due", "_law_row", "_law_way", "_law_frame", "_law_some", "_law_kept"] ["_law_tape_here"] (defScope s_l_made) :=
  ⟨rfl, rfl, rfl, by decide +kernel, rfl, by decide +kernel, by decide +kernel⟩
theorem ok_lmade {f : Addr} {fd : FuncData} (F : Fun K "_law_made" "_law_made" s_l_made f fd) (T : Txt K mg C tG tL) (FT : FrT K mg CF) (M : Mk K CF fI) (FI : FnOk P w K mg base (L2.CX P w) 6 fI fdI ["self", "rows", "columns", "caps"] (sp_initF K CF C))
    (bD : Binds K fdI ["self", "rows", "columns", "caps"] ds) (dD : Vals [V.non] ds) (bA : Binds K fdI ["self", "rows", "columns", "caps"] []) (kb : KBn K fdI ["self", "rows", "columns", "caps"] 3 ["caps"] gU (fun vs zs => vs ++ zs))
    (c_l_digit : Cal P w K mg base CX0 1 "_law_digit" ["_law_tape_here", "_law_size"] sp_digit) (c_l_count : Cal P w K mg base CX0 2 "_law_count" ["_law_tape_here"] sp_count) (c_l_caps : Cal P w K mg base CX0 3 "_law_caps" ["_law_tape_here", "_law_many", "_law_wide"] sp_lcaps) (c_l_as : Cal P w K mg base CX0 2 "_law_as" ["_law_tape_here", "_law_rows"] (sp_as K)) :
    FnG P w K mg base 8 f fd ["_law_tape_here"] (sp_made K CF) := by
  refine funOkG F sc_l_made (fun vs H Q E ⟨t, e, _⟩ => by rw [e]; rfl) (fun cdv A outer s H vs Q E hr h => ?_)
  obtain ⟨t, rfl, tp, q⟩ := h
  obtain ⟨n, ht⟩ := id tp
  refine ⟨_, (pss_cons (ps_setLc (i := 1) (own := [("_law_i", 2)]) (by rfl) sc_l_made.nd rfl rfl (sw_true rfl rfl rfl (by decide +kernel)) (pi_range1 (by rfl) T.n_range (pa_cons (pe_op op_add pe_int (pe_cal c_l_digit (hr.r.mono (by decide)) (by rfl) pass0 (pa_cons (pv 0) (pa_cons pe_int pa_nil)))) pa_nil)) (blkOk_by (own := [("_law_i", 2)]) (N := ["_law_tape_here", "_law_rows", "_law_i", "_law_columns", "_law_j", "_law_handed", "_law_due", "_law_row", "_law_way", "_law_frame", "_law_some", "_law_kept"]) (sc := defScope s_l_made) (by decide +kernel)) (fun _ _ _ _ _ => (pg_name (i := 2) sc_l_made.nd rfl (by first | exact Or.inl rfl | exact Or.inr rfl))) (fun _ _ _ _ _ => pts_nil) (fun _ _ _ _ _ => (pe_cal c_l_count (hr.r.mono (by decide)) (by rfl) pass0 (pa_cons (pv 0) pa_nil))))
  (pss_cons (ps_set (i := 3) sc_l_made.nd rfl (by first | exact Or.inl rfl | exact Or.inr rfl) (pe_lc (own := [("_law_j", 4)]) (by rfl) sc_l_made.nd (pi_range1 (by rfl) T.n_range (pa_cons (pe_op op_add pe_int (pe_cal c_l_digit (hr.r.mono (by decide)) (by rfl) pass0 (pa_cons (pv 0) (pa_cons pe_int pa_nil)))) pa_nil)) (blkOk_by (own := [("_law_j", 4)]) (N := ["_law_tape_here", "_law_rows", "_law_i", "_law_columns", "_law_j", "_law_handed", "_law_due", "_law_row", "_law_way", "_law_frame", "_law_some", "_law_kept"]) (sc := defScope s_l_made) (by decide +kernel)) (fun _ _ _ _ _ => (pg_name (i := 4) sc_l_made.nd rfl (by first | exact Or.inl rfl | exact Or.inr rfl))) (fun _ _ _ _ _ => pts_nil) (fun _ _ _ _ _ => (pe_cal c_l_count (hr.r.mono (by decide)) (by rfl) pass0 (pa_cons (pv 0) pa_nil)))))
  (pss_cons (ps_set (i := 5) sc_l_made.nd rfl (by first | exact Or.inl rfl | exact Or.inr rfl) (pe_lst (pa_cons (pe_ix (ix_listK (K := K) rfl) (pe_lst (pa_cons (pv 1) (pa_cons (pe_callTy (tuple_ofK (K := K) rfl) (by rfl) T.n_tuple (by decide +kernel) (pa_cons (pv 1) pa_nil)) pa_nil))) (pe_cal c_l_digit (hr.r.mono (by decide)) (by rfl) pass0 (pa_cons (pv 0) (pa_cons pe_int pa_nil))) (fun _ _ => rfl)) (pa_cons (pe_ix (ix_listK (K := K) rfl) (pe_lst (pa_cons (pv 3) (pa_cons (pe_callTy (tuple_ofK (K := K) rfl) (by rfl) T.n_tuple (by decide +kernel) (pa_cons (pv 3) pa_nil)) pa_nil))) (pe_cal c_l_digit (hr.r.mono (by decide)) (by rfl) pass0 (pa_cons (pv 0) (pa_cons pe_int pa_nil))) (fun _ _ => rfl)) pa_nil))))
  (pss_cons (ps_set (i := 6) sc_l_made.nd rfl (by first | exact Or.inl rfl | exact Or.inr rfl) (pe_lst (pa_cons (pe_callTy (list_ofK (K := K) rfl) (by rfl) T.n_list (by decide +kernel) (pa_cons (pv 1) pa_nil)) (pa_cons (pe_callTy (list_ofK (K := K) rfl) (by rfl) T.n_list (by decide +kernel) (pa_cons (pv 3) pa_nil)) (pa_cons (pe_lc (own := [("_law_row", 7)]) (by rfl) sc_l_made.nd (pi_list (pv 1)) (blkOk_by (own := [("_law_row", 7)]) (N := ["_law_tape_here", "_law_rows", "_law_i", "_law_columns", "_law_j", "_law_handed", "_law_due", "_law_row", "_law_way", "_law_frame", "_law_some", "_law_kept"]) (sc := defScope s_l_made) (by decide +kernel)) (fun _ _ _ _ _ => (pg_name (i := 7) sc_l_made.nd rfl (by first | exact Or.inl rfl | exact Or.inr rfl))) (fun _ _ _ _ _ => pts_nil) (fun _ _ _ _ _ => (pe_op op_rep (pe_lst (pa_cons pe_non pa_nil)) (pe_callB (len_ofK (K := K) rfl) (by rfl) T.n_len (by decide +kernel) (pa_cons (pv 3) pa_nil))))) pa_nil)))))
  (pss_cons (ps_set (i := 8) sc_l_made.nd rfl (by first | exact Or.inl rfl | exact Or.inr rfl) (pe_cal c_l_digit (hr.r.mono (by decide)) (by rfl) pass0 (pa_cons (pv 0) (pa_cons pe_int pa_nil))))
  (C8.pss_cut (ps_if (pt_cmpR op_eq (pv 8) pe_int (nomark _))
  (pss_one (ps_set (i := 9) sc_l_made.nd rfl (by first | exact Or.inl rfl | exact Or.inr rfl) (pe_make M FI (hr.r.mono (by decide)) (by rfl) FT.g bD dD passL (pa_cons (pe_ix (ix_listK (K := K) rfl) (pv 5) pe_int (fun _ _ => rfl)) (pa_cons (pe_ix (ix_listK (K := K) rfl) (pv 5) pe_int (fun _ _ => rfl)) pa_nil)))))
  (pss_one (ps_if (pt_cmpR op_eq (pv 8) pe_int (nomark _))
  (pss_one (ps_set (i := 9) sc_l_made.nd rfl (by first | exact Or.inl rfl | exact Or.inr rfl) (pe_make M FI (hr.r.mono (by decide)) (by rfl) FT.g bA .nil passL (pa_cons (pe_ix (ix_listK (K := K) rfl) (pv 5) pe_int (fun _ _ => rfl)) (pa_cons (pe_ix (ix_listK (K := K) rfl) (pv 5) pe_int (fun _ _ => rfl)) (pa_cons pe_non pa_nil))))))
  (pss_cons (ps_asg (pe_cal c_l_caps (hr.r.mono (by decide)) (by rfl) pass0 (pa_cons (pv 0) (pa_cons (pe_callB (len_ofK (K := K) rfl) (by rfl) T.n_len (by decide +kernel) (pa_cons (pv 1) pa_nil)) (pa_cons (pe_callB (len_ofK (K := K) rfl) (by rfl) T.n_len (by decide +kernel) (pa_cons (pv 3) pa_nil)) pa_nil)))) (pg_sub (pv 6) pe_int set_list))
  (pss_cons (ps_set (i := 10) sc_l_made.nd rfl (by first | exact Or.inl rfl | exact Or.inr rfl) (pe_cal c_l_as (hr.r.mono (by decide)) (by rfl) pass0 (pa_cons (pv 0) (pa_cons (pe_ix (ix_listK (K := K) rfl) (pv 6) pe_int (fun _ _ => rfl)) pa_nil))))
  (pss_cons (ps_set (i := 11) sc_l_made.nd rfl (by first | exact Or.inl rfl | exact Or.inr rfl) (pe_callB (reprK (K := K) rfl hr.g hr.r.units) (by rfl) T.n_repr (by decide +kernel) (pa_cons (pv 10) pa_nil)))
  (C8.pss_cut (ps_if (pt_cmpR op_eq (pv 8) pe_int (nomark _))
  (pss_one (ps_set (i := 9) sc_l_made.nd rfl (by first | exact Or.inl rfl | exact Or.inr rfl) (pe_make M FI (hr.r.mono (by decide)) (by rfl) FT.g bA .nil passL (pa_cons (pe_ix (ix_listK (K := K) rfl) (pv 5) pe_int (fun _ _ => rfl)) (pa_cons (pe_ix (ix_listK (K := K) rfl) (pv 5) pe_int (fun _ _ => rfl)) (pa_cons (pv 10) pa_nil))))))
  (pss_one (ps_set (i := 9) sc_l_made.nd rfl (by first | exact Or.inl rfl | exact Or.inr rfl) (pe_makeN M FI (hr.r.mono (by decide)) (by rfl) FT.g kb passL (pa_cons (pe_ix (ix_listK (K := K) rfl) (pv 5) pe_int (fun _ _ => rfl)) (pa_cons (pe_ix (ix_listK (K := K) rfl) (pv 5) pe_int (fun _ _ => rfl)) pa_nil)) (pk_cons (pv 10) pk_nil)))))
  (pss_cons (ps_if (pt_cmpR op_ne (pe_callB (reprK (K := K) rfl hr.g hr.r.units) (by rfl) T.n_repr (by decide +kernel) (pa_cons (pv 10) pa_nil)) (pv 11) (nomark _))
  (pss_one (ps_ret (pe_tup (pa_cons (pv 9) (pa_cons pe_non pa_nil)))))
  pss_nil)
  (pss_one (ps_forS PassesOwn.never rfl (pv 10) mono_var
  (pg_name (i := 7) sc_l_made.nd rfl (by first | exact Or.inl rfl | exact Or.inr rfl))
  (pss_one (ps_if (pt_val (pe_callB (isiK (K := K) rfl) (by rfl) T.n_isinstance (by decide +kernel) (pa_cons (pv 7) (pa_cons (pe_bltn (v := .ty "list") (by rfl) T.n_list (by decide +kernel) rfl) pa_nil))))
  (pss_one (ps_expr (pe_bm0 PySem.F.plainAttrs_list PySem.F.slot_list_clear PySem.F.type_list_clear mt_clear (pv 7))))
  pss_nil))))))))))))
  (pss_cons (ps_if (pt_cmpR (op_neDK (K := K) rfl hr.r.units) (pe_lst (pa_cons (pv 1) (pa_cons (pv 3) pa_nil))) (pe_slice sl_list (pv 6) po_none (po_some pe_int)) (nomark _))
  (pss_one (ps_ret (pe_tup (pa_cons (pv 9) (pa_cons pe_non pa_nil)))))
  pss_nil)
  (pss_cons (ps_expr (pe_bm0 PySem.F.plainAttrs_list PySem.F.slot_list_clear PySem.F.type_list_clear mt_clear (pv 1)))
  (pss_cons (ps_expr (pe_bm PySem.F.plainAttrs_list PySem.F.slot_list_append PySem.F.type_list_append mt_append (pv 3) (pa_cons pe_int pa_nil)))
  (pss_one (ps_ret (pe_tup (pa_cons (pv 9) (pa_cons (pv 6) pa_nil)))))))))))))), ?_⟩
  -- rows
  refine ⟨.ref t, rfl, t, n, 6, rfl, ht, by decide, by decide, fun d n1 d0 d1 => ⟨1, d, rfl, rfl, 1 + d, rfl, by omega, by omega, fun R nR => ?_⟩⟩
  have kp1 : Kp t H (upd H t (.lst [.int n1])) := (Kp.refl tp).tape
  have hRt : R ≠ t := fun z => by rw [z, upd_same] at nR; cases nR
  refine lc_range (n := (1 + d).toNat) (fun j H' => Kp t (upd H t (.lst [.int n1])) H' ∧ ∃ rs : List Int, H' R = some (.lst (rs.map V.int)) ∧ rs.length = j ∧ ∀ r ∈ rs, 0 ≤ r ∧ r ≤ 1000000000000) ⟨(Kp.refl ⟨n1, upd_same⟩).lay nR, [], upd_same, rfl, fun _ z => nomatch z⟩ (fun j H' hj p => ?_) (fun H2 p => ?_)
  · obtain ⟨kp, rs, hr', hl, hb⟩ := p
    refine ⟨rfl, .ref t, rfl, t, rfl, kp.2, fun c H3 c0 c1 kp3 => ?_⟩
    rw [← hl]
    exact count_step nR hRt kp hr' (by omega) hb c0 c1 kp3
  obtain ⟨kp2, rs, hR2, hrl, hrb⟩ := p
  have kp2 := kp1.trans kp2
  have nR0 : H R = none := kp1.free tp nR
  -- columns
  obtain ⟨n2, ht2⟩ := kp2.2
  refine ⟨.ref t, rfl, t, n2, 6, rfl, ht2, by decide, by decide, fun d' n3 d0' d1' => ⟨1, d', rfl, rfl, 1 + d', rfl, by omega, by omega, fun Cc nC => ?_⟩⟩
  have hCt : Cc ≠ t := fun z => by rw [z, upd_same] at nC; cases nC
  have kp3 : Kp t H2 (upd H2 t (.lst [.int n3])) := (Kp.refl kp2.2).tape
  have nC2 : H2 Cc = none := kp3.free kp2.2 nC
  have hCR : Cc ≠ R := fun z => by rw [z, hR2] at nC2; cases nC2
  refine lc_range (n := (1 + d').toNat) (fun j H' => Kp t (upd H2 t (.lst [.int n3])) H' ∧ ∃ cs : List Int, H' Cc = some (.lst (cs.map V.int)) ∧ cs.length = j ∧ ∀ r ∈ cs, 0 ≤ r ∧ r ≤ 1000000000000) ⟨(Kp.refl ⟨n3, upd_same⟩).lay nC, [], upd_same, rfl, fun _ z => nomatch z⟩ (fun j H' hj p => ?_) (fun H4 p => ?_)
  · obtain ⟨kp, rs, hr', hl, hb⟩ := p
    refine ⟨rfl, .ref t, rfl, t, rfl, kp.2, fun c H3 c0 c1 kp3 => ?_⟩
    rw [← hl]
    exact count_step nC hCt kp hr' (by omega) hb c0 c1 kp3
  obtain ⟨kp4', cs, hC4, hcl, hcb⟩ := p
  have kp24 : Kp t H2 H4 := kp3.trans kp4'
  have kp4 := kp2.trans kp24
  have nC0 : H Cc = none := kp2.free tp nC2
  have hR4 : H4 R = some (.lst (rs.map V.int)) := kp24.1 _ _ hR2 hRt
  -- handed
  have one : ∀ j : Nat, j < 2 → j = 0 ∨ j = 1 := fun j hj => by omega
  refine ⟨.ref R, rfl, .ref R, rfl, R, _, rfl, .inl ⟨SqL.of hR4, fun tu ntu => ⟨(by show 2 ≤ sizeLine; decide), fun p1 np1 => ?_⟩⟩⟩
  have k5 := (Kp.refl kp4.2).lay (o := .tup (rs.map V.int)) ntu
  have k6 := k5.lay (o := .lst [V.ref R, .ref tu]) np1
  have ntt : tu ≠ t := fun z => by obtain ⟨m, e⟩ := kp4.2; rw [z, e] at ntu; cases ntu
  have np1t : p1 ≠ t := fun z => by obtain ⟨m, e⟩ := k5.2; rw [z, e] at np1; cases np1
  have ntp : tu ≠ p1 := fun z => by rw [← z, upd_same] at np1; cases np1
  obtain ⟨m6, ht6⟩ := k6.2
  refine ⟨.ref t, rfl, t, m6, 2, rfl, ht6, by decide, by decide, fun e m7 e0 e1 => ?_⟩
  have k7 := k6.tape (n := m7)
  obtain ⟨v0, hv0, hn0⟩ : ∃ v, ([V.ref R, .ref tu] : List V)[e.toNat]? = some v ∧ Hnd (upd (upd (upd H4 tu (.tup (rs.map V.int))) p1 (.lst [V.ref R, .ref tu])) t (.lst [.int m7])) v R rs := by
    rcases one e.toNat (by omega) with z | z
    · rw [z]; exact ⟨_, rfl, .inl rfl⟩
    · rw [z]; exact ⟨_, rfl, .inr ⟨tu, rfl, by rw [upd_ne ntt, upd_ne ntp, upd_same]⟩⟩
  refine ⟨p1, _, e, v0, rfl, rfl, SqL.of ((upd_ne np1t).trans upd_same), at_of (z := e) (j := e.toNat) (by omega) hv0, ?_⟩
  generalize upd (upd (upd H4 tu (.tup (rs.map V.int))) p1 (.lst [V.ref R, .ref tu])) t (.lst [.int m7]) = H7 at k7 hn0 ⊢
  have hC7 := k7.1 _ _ hC4 hCt
  refine ⟨.ref Cc, rfl, .ref Cc, rfl, Cc, _, rfl, .inl ⟨SqL.of hC7, fun tv ntv => ⟨(by show 2 ≤ sizeLine; decide), fun p2 np2 => ?_⟩⟩⟩
  have k8 := (Kp.refl k7.2).lay (o := .tup (cs.map V.int)) ntv
  have k9 := k8.lay (o := .lst [V.ref Cc, .ref tv]) np2
  have nvt : tv ≠ t := fun z => by obtain ⟨m, e⟩ := k7.2; rw [z, e] at ntv; cases ntv
  have np2t : p2 ≠ t := fun z => by obtain ⟨m, e⟩ := k8.2; rw [z, e] at np2; cases np2
  have nvp : tv ≠ p2 := fun z => by rw [← z, upd_same] at np2; cases np2
  obtain ⟨m9, ht9⟩ := k9.2
  refine ⟨.ref t, rfl, t, m9, 2, rfl, ht9, by decide, by decide, fun e' m10 e0' e1' => ?_⟩
  have k10 := k9.tape (n := m10)
  obtain ⟨v1, hv1, hn1⟩ : ∃ v, ([V.ref Cc, .ref tv] : List V)[e'.toNat]? = some v ∧ Hnd (upd (upd (upd H7 tv (.tup (cs.map V.int))) p2 (.lst [V.ref Cc, .ref tv])) t (.lst [.int m10])) v Cc cs := by
    rcases one e'.toNat (by omega) with z | z
    · rw [z]; exact ⟨_, rfl, .inl rfl⟩
    · rw [z]; exact ⟨_, rfl, .inr ⟨tv, rfl, by rw [upd_ne nvt, upd_ne nvp, upd_same]⟩⟩
  refine ⟨p2, _, e', v1, rfl, rfl, SqL.of ((upd_ne np2t).trans upd_same), at_of (z := e') (j := e'.toNat) (by omega) hv1, (by show 2 ≤ sizeLine; decide), fun hd nhd => ?_⟩
  have hn0 := hn0.kp k7.2 k10
  have k11 := k10.lay (o := .lst [v0, v1]) nhd
  have hn0 := hn0.same (same_upd (o := .lst [v0, v1]) nhd)
  have hn1 := hn1.same (same_upd (o := .lst [v0, v1]) nhd)
  have hhd : (upd (upd (upd (upd H7 tv (.tup (cs.map V.int))) p2 (.lst [V.ref Cc, .ref tv])) t (.lst [.int m10])) hd (.lst [v0, v1])) hd = some (.lst [v0, v1]) := upd_same
  generalize upd (upd (upd (upd H7 tv (.tup (cs.map V.int))) p2 (.lst [V.ref Cc, .ref tv])) t (.lst [.int m10])) hd (.lst [v0, v1]) = H11 at k11 hn0 hn1 hhd ⊢
  have k411 := k7.trans k11
  have kp11 := kp4.trans k411
  have hR11 := k411.1 _ _ hR4 hRt
  have hC11 := k411.1 _ _ hC4 hCt
  have hhdt : hd ≠ t := fun z => by obtain ⟨m, e⟩ := k11.2; rw [← z, hhd] at e; cases e
  -- due
  refine ⟨.ref R, rfl, R, _, rfl, .inl (SqL.of hR11), fun a na => ?_⟩
  have sa := same_upd (o := .lst (rs.map V.int)) na
  refine ⟨.ref Cc, rfl, Cc, _, rfl, .inl (SqL.of (sa _ _ hC11)), fun b nb => ?_⟩
  have sb := same_upd (o := .lst (cs.map V.int)) nb
  have s13 := sa.trans sb
  have hR13 := s13 _ _ hR11
  have hC13 := s13 _ _ hC11
  have k13 := kp11.same s13
  have r1 : 1 ≤ rs.length := by omega
  have r6 : rs.length ≤ 6 := by omega
  have c1 : 1 ≤ cs.length := by omega
  have c6 : cs.length ≤ 6 := by omega
  refine ⟨.ref R, rfl, R, rfl, ⟨_, SqL.of hR13⟩, fun c nc => ?_⟩
  refine lc_list (K := K) (xs := rs.map V.int) (fun i H' => Same (upd (upd H11 a (.lst (rs.map V.int))) b (.lst (cs.map V.int))) H' ∧ ∃ ls : List Addr, H' c = some (.lst (ls.map V.ref)) ∧ RowsL (upd (upd H11 a (.lst (rs.map V.int))) b (.lst (cs.map V.int))) H' ls (List.replicate i (List.replicate cs.length none)) ∧ ∀ l ∈ ls, l ≠ c)
    ⟨same_upd nc, [], upd_same, .nil, fun _ z => nomatch z⟩ (fun i H' _ p => p.1.seq (SqL.of hR13)) (fun i x H' hx p => ?_) (fun H14 p => ?_)
  · obtain ⟨sm, ls, hls, hrows, hne⟩ := p
    refine ⟨rfl, (by show 1 ≤ sizeLine; decide), fun p np => ?_⟩
    have k1 := same_upd (o := .lst [V.non]) np
    have npc : c ≠ p := fun z => by rw [← z, hls] at np; cases np
    refine ⟨.ref Cc, rfl, Cc, _, rfl, .inl (SqL.of (k1 _ _ (sm _ _ hC13))), p, _, _, rfl, rfl, upd_same, by rw [List.length_map]; omega, by rw [List.length_map]; omega, ?_, fun l nl => ?_⟩
    · rw [List.length_map, Int.toNat_natCast]
      show 1 * cs.length ≤ sizeLine
      exact Nat.le_trans (by omega : 1 * cs.length ≤ 6) (by decide)
    have k2 := same_upd (o := .lst ((List.replicate (Int.toNat ((cs.map V.int).length : Nat)) [V.non]).flatten)) nl
    have nlc : l ≠ c := fun z => by rw [z, k1 _ _ hls] at nl; cases nl
    have hl2 := hrows.length
    have hix : i < rs.length := by
      have := (List.getElem?_eq_some_iff.mp hx).1
      rw [List.length_map] at this
      exact this
    refine ⟨_, k2 _ _ (k1 _ _ hls), ?_, fun b' o e' => ?_, ls ++ [l], by rw [upd_same, List.map_append]; rfl, ?_, fun y hy => ?_⟩
    · rw [List.length_map, hl2, List.length_replicate]
      exact Nat.lt_of_lt_of_le (show i < 6 by omega) (by decide)
    · rw [upd_ne (ne_of_none e' nc)]
      exact k2 _ _ (k1 _ _ (sm _ _ e'))
    · rw [List.replicate_succ']
      refine (hrows.keep fun b' o e1 e2 hb => ?_).append (.cons ((sm.trans k1).free nl) ?_ .nil)
      · rw [upd_ne (hne b' hb)]
        exact k2 _ _ (k1 _ _ e2)
      · rw [upd_ne nlc, upd_same, flat_single, Int.toNat_natCast, List.length_map, rep_non]
    · rcases List.mem_append.mp hy with z | z
      · exact hne y z
      · obtain rfl : y = l := by simpa using z
        exact nlc
  obtain ⟨sm14, ls, hls, hrows, hne⟩ := p
  rw [List.length_map] at hrows
  refine ⟨(by show 3 ≤ sizeLine; decide), fun du ndu => ?_⟩
  have sdu := same_upd (o := .lst [V.ref a, .ref b, .ref c]) ndu
  have s15 := (s13.trans sm14).trans sdu
  have k15 := kp11.same s15
  have da15 : DueAt (upd H14 du (.lst [V.ref a, .ref b, .ref c])) du rs cs (List.replicate rs.length (List.replicate cs.length none)) [t, R, Cc] := by
    refine ⟨a, b, c, ls, upd_same, sdu _ _ (sm14 _ _ (sb _ _ upd_same)), sdu _ _ (sm14 _ _ upd_same), sdu _ _ hls, (RowsC.ofL hrows).keep fun _ _ o e => sdu _ _ e, fun x hx => ?_⟩
    have t11 : Tp H11 t := k11.2
    have t13 := (kp11.same s13).2
    rcases List.mem_cons.mp hx with z | hx
    · rw [z]; exact notS ndu (kp11.same (s13.trans sm14)).2 (sm14 _ _ hR13) (sm14 _ _ hC13)
    · rcases List.mem_cons.mp hx with z | hx
      · rw [z]; exact notS na t11 hR11 hC11
      · rcases List.mem_cons.mp hx with z | hx
        · rw [z]; exact notS nb (kp11.same sa).2 (sa _ _ hR11) (sa _ _ hC11)
        · rcases List.mem_cons.mp hx with z | hx
          · rw [z]; exact notS nc t13 hR13 hC13
          · exact notS (RowsL.fresh hrows x hx) t13 hR13 hC13
  have hn0 := hn0.same s15
  have hn1 := hn1.same s15
  have hhd := s15 _ _ hhd
  have hR15 := s15 _ _ hR11
  have hC15 := s15 _ _ hC11
  have ndu0 : H du = none := (kp11.same (s13.trans sm14)).free tp ndu
  have ndut : du ≠ t := fun z => by rw [z, ht] at ndu0; cases ndu0
  generalize upd H14 du (.lst [V.ref a, .ref b, .ref c]) = H15 at s15 k15 da15 hn0 hn1 hhd hR15 hC15 ⊢
  -- which way
  obtain ⟨m15, ht15⟩ := k15.2
  refine ⟨.ref t, rfl, t, m15, 4, rfl, ht15, by decide, by decide, fun wy m16 w0 w1 => ?_⟩
  have k1516 : Kp t H15 (upd H15 t (.lst [.int m16])) := (Kp.refl k15.2).tape
  have k16 := k15.trans k1516
  have hn0 := hn0.kp k15.2 k1516
  have hn1 := hn1.kp k15.2 k1516
  have hhd := k1516.1 _ _ hhd hhdt
  have hR16 := k1516.1 _ _ hR15 hRt
  have hC16 := k1516.1 _ _ hC15 hCt
  have da16 : DueAt (upd H15 t (.lst [.int m16])) du rs cs (List.replicate rs.length (List.replicate cs.length none)) [t, R, Cc] := da15.keep fun x o hx e => k1516.1 x o e fun z => hx (by rw [z]; simp)
  generalize upd H15 t (.lst [.int m16]) = H16 at k16 hn0 hn1 hhd hR16 hC16 da16 ⊢
  refine ⟨fun σ' H' => ∃ (fr : Addr) (ms : List (List (Option Int))) (v7 v10 v11 : Option V), σ' = [some (.ref t), some (.ref R), none, some (.ref Cc), none, some (.ref hd), some (.ref du), v7, some (.int wy), some (.ref fr), v10, v11] ∧ Mid11 K CF t R Cc du fr rs cs ms H H', ?_, fun σ' H' mid => ?_⟩
  · have at0 : ∀ H', H' hd = some (.lst [v0, v1]) → SqL K H' hd [v0, v1] := fun H' e => SqL.of e
    refine ⟨.int wy, rfl, rfl, _, rfl, ite2 (fun _ => ?_) (fun _ => ?_)⟩
    · refine ⟨.ref hd, rfl, hd, _, 0, v0, rfl, rfl, at0 _ hhd, atI_nat (j := 0) rfl, .ref hd, rfl, hd, _, 1, v1, rfl, rfl, at0 _ hhd, atI_nat (j := 1) rfl, fun x dx nx ndx ne => ?_⟩
      have dr := none_rows rs cs r1 r6 c1 c6 hrb hcb
      exact init_use dr hn0 hn1 hR16 hC16 .non rfl rfl nx ndx ne fun H2 s2 FA => ⟨rfl, x, _, none, none, none, rfl, k16.same s2, FA, da16.keep fun _ _ _ e => s2 _ _ e, dr, s2 _ _ hR16, s2 _ _ hC16⟩
    refine ⟨.int wy, rfl, rfl, _, rfl, ite2 (fun _ => ?_) (fun _ => ?_)⟩
    · refine ⟨.ref hd, rfl, hd, _, 0, v0, rfl, rfl, at0 _ hhd, atI_nat (j := 0) rfl, .ref hd, rfl, hd, _, 1, v1, rfl, rfl, at0 _ hhd, atI_nat (j := 1) rfl, fun x dx nx ndx ne => ?_⟩
      have dr := none_rows rs cs r1 r6 c1 c6 hrb hcb
      exact init_use dr hn0 hn1 hR16 hC16 .non rfl rfl nx ndx ne fun H2 s2 FA => ⟨rfl, x, _, none, none, none, rfl, k16.same s2, FA, da16.keep fun _ _ _ e => s2 _ _ e, dr, s2 _ _ hR16, s2 _ _ hC16⟩
    -- caps are handed in
    refine ⟨.ref t, rfl, .ref R, rfl, R, _, rfl, .inl (SqL.of hR16), .ref Cc, rfl, Cc, _, rfl, .inl (SqL.of hC16), t, rs.length, cs.length, by rw [List.length_map, List.length_map], k16.2, r6, c6, fun H17 D ls2 ms k17 nD hD rowsL ml mb hneD => ?_⟩
    obtain ⟨a', b', c', ls', g1, g2, g3, g4, g5, g6⟩ := da16.ex
    have ndS : ∀ x, H16 x = none → x ∉ [t, R, Cc] := fun x e => notS e k16.2 hR16 hC16
    have hdu17 := k17.1 _ _ g1 ndut
    refine ⟨.ref du, rfl, du, _, 2, 2, rfl, rfl, hdu17, rfl, ?_⟩
    have hDdu : D ≠ du := fun z => by rw [z, g1] at nD; cases nD
    have hadu : a' ≠ du := fun z => by rw [z, g1] at g2; exact ne_ints_refs r1 (HO.lst.inj (Option.some.inj g2)).symm
    have hbdu : b' ≠ du := fun z => by rw [z, g1] at g3; exact ne_ints_refs c1 (HO.lst.inj (Option.some.inj g3)).symm
    have inS : ∀ x ∈ du :: a' :: b' :: c' :: ls', x ≠ t := fun x hx z => g6 x hx (by rw [z]; simp)
    have hl2 : ∀ l ∈ ls2, l ≠ du := fun l hl z => by have := RowsL.fresh rowsL l hl; rw [z, g1] at this; cases this
    have dr : Drawn rs cs ms := ⟨r1, r6, c1, c6, hrb, hcb, ml, mb⟩
    have rC : RowsC (upd H17 du (.lst ([V.ref a', .ref b', .ref c'].set 2 (.ref D)))) ls2 ms := (RowsC.ofL rowsL).keep fun l hl o e => by rw [upd_ne (hl2 l hl)]; exact e
    have hD18 : (upd H17 du (.lst ([V.ref a', .ref b', .ref c'].set 2 (.ref D)))) D = some (.lst (ls2.map V.ref)) := (upd_ne hDdu).trans hD
    have da18 : DueAt (upd H17 du (.lst ([V.ref a', .ref b', .ref c'].set 2 (.ref D)))) du rs cs ms [t, R, Cc] := by
      refine ⟨a', b', D, ls2, upd_same, (upd_ne hadu).trans (k17.1 _ _ g2 (inS _ (by simp))), (upd_ne hbdu).trans (k17.1 _ _ g3 (inS _ (by simp))), hD18, rC, fun x hx => ?_⟩
      rcases List.mem_cons.mp hx with z | hx
      · rw [z]; exact g6 du (by simp)
      · rcases List.mem_cons.mp hx with z | hx
        · rw [z]; exact g6 a' (by simp)
        · rcases List.mem_cons.mp hx with z | hx
          · rw [z]; exact g6 b' (by simp)
          · rcases List.mem_cons.mp hx with z | hx
            · rw [z]; exact ndS D nD
            · exact ndS x (RowsL.fresh rowsL x hx)
    have k18 : Kp t H (upd H17 du (.lst ([V.ref a', .ref b', .ref c'].set 2 (.ref D)))) := (k16.trans k17).put ndu0 ndut
    have Rdu : R ≠ du := fun z => g6 du (by simp) (by rw [← z]; simp)
    have Cdu : Cc ≠ du := fun z => g6 du (by simp) (by rw [← z]; simp)
    have hR18 : (upd H17 du (.lst ([V.ref a', .ref b', .ref c'].set 2 (.ref D)))) R = some (.lst (rs.map V.int)) := (upd_ne Rdu).trans (k17.1 _ _ hR16 hRt)
    have hC18 : (upd H17 du (.lst ([V.ref a', .ref b', .ref c'].set 2 (.ref D)))) Cc = some (.lst (cs.map V.int)) := (upd_ne Cdu).trans (k17.1 _ _ hC16 hCt)
    have hddu : hd ≠ du := fun z => by rw [z, g1] at hhd; cases hhd
    have hhd18 : (upd H17 du (.lst ([V.ref a', .ref b', .ref c'].set 2 (.ref D)))) hd = some (.lst [v0, v1]) := (upd_ne hddu).trans (k17.1 _ _ hhd hhdt)
    have hn18 : ∀ v X zs, Hnd H16 v X zs → Hnd (upd H17 du (.lst ([V.ref a', .ref b', .ref c'].set 2 (.ref D)))) v X zs := fun v X zs z => by
      rcases z.kp k16.2 k17 with z | ⟨tu, z, e⟩
      · exact .inl z
      · exact .inr ⟨tu, z, by rw [upd_ne (fun y => by rw [y, hdu17] at e; cases e)]; exact e⟩
    have hn0 := hn18 _ _ _ hn0
    have hn1 := hn18 _ _ _ hn1
    have hdu18 : (upd H17 du (.lst ([V.ref a', .ref b', .ref c'].set 2 (.ref D)))) du = some (.lst [V.ref a', .ref b', .ref D]) := upd_same
    generalize upd H17 du (.lst ([V.ref a', .ref b', .ref c'].set 2 (.ref D))) = H18 at rC hD18 da18 k18 hR18 hC18 hhd18 hn0 hn1 hdu18 ⊢
    have hDt2 : D ≠ t := fun z => ndS D nD (by rw [z]; simp)
    refine ⟨.ref t, rfl, .ref du, rfl, du, _, 2, .ref D, rfl, rfl, SqL.of hdu18, atI_nat (j := 2) rfl, t, D, ls2, ms.map (·.map capV), rfl, k18.2, SqL.of hD18, rC.q, by rw [rowsL.length, ml]; exact r6, hDt2, fun l hl z => ndS l (RowsL.fresh rowsL l hl) (by rw [z]; simp), fun H19 p bs k19 np hp rowsV hneb => ?_⟩
    obtain ⟨d, hDp, hnice, hnodes, hdep⟩ := some_data (K := K) hp rowsV dr.rows (by rw [ml]; exact r6)
    obtain ⟨sh1, sh2, sh3⟩ := nice_show d hnice
    have sh4 : d.shown.length ≤ sizeLine := by rw [sizeLine_eq]; omega
    refine ⟨.ref p, rfl, .ref p, d, rfl, hDp, sh1, sh2, hdep, sh4, ?_⟩
    have hhd19 := k19.1 _ _ hhd18 hhdt
    have hn0 := hn0.kp k18.2 k19
    have hn1 := hn1.kp k18.2 k19
    have hR19 := k19.1 _ _ hR18 hRt
    have hC19 := k19.1 _ _ hC18 hCt
    obtain ⟨md, Rm, okm, ofm⟩ := rp_some (K := K) hp rowsV ml mb
    refine ⟨fun σ' H' => ∃ fr : Addr, σ' = [some (.ref t), some (.ref R), none, some (.ref Cc), none, some (.ref hd), some (.ref du), none, some (.int wy), some (.ref fr), some (.ref p), some (.str d.shown)] ∧ Same H19 H' ∧ FrameAt K CF H' fr rs cs ms, ?_, fun σ' H20 mid => ?_⟩
    · refine ⟨.int wy, rfl, rfl, _, rfl, ite2 (fun _ => ?_) (fun _ => ?_)⟩
      · refine ⟨.ref hd, rfl, hd, _, 0, v0, rfl, rfl, at0 _ hhd19, atI_nat (j := 0) rfl, .ref hd, rfl, hd, _, 1, v1, rfl, rfl, at0 _ hhd19, atI_nat (j := 1) rfl, .ref p, rfl, fun x dx nx ndx ne => ?_⟩
        exact init_use dr hn0 hn1 hR19 hC19 Rm okm ofm nx ndx ne fun H2 s2 FA => ⟨rfl, x, rfl, s2, FA⟩
      · refine ⟨.ref hd, rfl, hd, _, 0, v0, rfl, rfl, at0 _ hhd19, atI_nat (j := 0) rfl, .ref hd, rfl, hd, _, 1, v1, rfl, rfl, at0 _ hhd19, atI_nat (j := 1) rfl, .ref p, rfl, rfl, rfl, fun x dx nx ndx ne => ?_⟩
        exact init_use dr hn0 hn1 hR19 hC19 Rm okm ofm nx ndx ne fun H2 s2 FA => ⟨rfl, x, rfl, s2, FA⟩
    · obtain ⟨fr, rfl, s20, FA⟩ := mid
      refine ⟨.ref p, rfl, .ref p, d, rfl, dp_same s20 hDp, sh1, sh2, hdep, sh4, .str d.shown, rfl, rfl, _, rfl, iteNS rfl ?_⟩
      have k20 := k19.same s20
      have hrows : ∀ b ∈ bs, H18 b = none ∧ b ≠ p ∧ ((∃ m, H20 b = some (.lst m)) ∨ ∃ m, H20 b = some (.tup m)) := fun b hb => by
        obtain ⟨j, hj⟩ := List.mem_iff_getElem?.mp hb
        obtain ⟨m, _, e1, e2⟩ := rowsV.get hj
        exact ⟨e1, hneb b hb, e2.elim (fun z => .inl ⟨m, s20 _ _ z⟩) fun z => .inr ⟨m, s20 _ _ z⟩⟩
      have hp20 : SqV K H20 p (bs.map V.ref) := hp.elim (fun z => .inl (SqL.of (s20 _ _ z))) fun z => .inr (SqT.of (s20 _ _ z))
      refine ⟨.ref p, rfl, p, bs.map V.ref, (fun i σ2 H2 => ∃ v7, σ2 = [some (.ref t), some (.ref R), none, some (.ref Cc), none, some (.ref hd), some (.ref du), v7, some (.int wy), some (.ref fr), some (.ref p), some (.str d.shown)] ∧ Kp t H18 H2 ∧ FrameAt K CF H2 fr rs cs ms ∧ H2 p = H20 p ∧ ∀ b ∈ bs, (∃ m, H2 b = some (.lst m)) ∨ ∃ m, H2 b = some (.tup m)), rfl, hp20,
        ⟨none, rfl, k20, FA, rfl, fun b hb => (hrows b hb).2.2⟩, (fun i σ2 H2 _ pv => ⟨sqL_eq pv.choose_spec.2.2.2.1, sqT_eq pv.choose_spec.2.2.2.1⟩), (fun i x σ2 H2 hx pv => ?_), (fun σ2 H2 pv => ?_)⟩
      · obtain ⟨v7, rfl, k2, FA2, ep, hb2⟩ := pv
        obtain ⟨b, hb, rfl⟩ : ∃ b, bs[i]? = some b ∧ x = V.ref b := by
          rw [List.getElem?_map] at hx
          cases e : bs[i]? with
          | none => rw [e] at hx; cases hx
          | some b => rw [e] at hx; exact ⟨b, rfl, (Option.some.inj hx).symm⟩
        have hbm := List.mem_of_getElem? hb
        obtain ⟨h18b, hbp, _⟩ := hrows b hbm
        have hbt : b ≠ t := fun z => by obtain ⟨n', e'⟩ := k18.2; rw [z, e'] at h18b; cases h18b
        rcases hb2 b hbm with ⟨m, hm⟩ | ⟨m, hm⟩
        · refine ⟨.ref b, rfl, .ref b, _, _, _, true, rfl, .ty _, ty_list (SqL.of hm), kit_ty (by decide +kernel), true, rfl, ?_⟩
          refine ⟨.ref b, rfl, .inl ⟨rfl, _, SqL.of hm⟩, b, m, rfl, rfl, hm, _, rfl, k2.put h18b hbt, FA2.updL hm, (upd_ne hbp.symm).trans ep, fun b' hb' => ?_⟩
          by_cases z : b' = b
          · rw [z]; exact .inl ⟨[], upd_same⟩
          · rw [upd_ne z]; exact hb2 b' hb'
        · refine ⟨.ref b, rfl, .ref b, _, _, _, false, rfl, .ty _, ty_tuple (SqT.of hm), kit_ty (by decide +kernel), false, rfl, ?_⟩
          exact ⟨_, rfl, k2, FA2, ep, hb2⟩
      · obtain ⟨v7, rfl, k2, FA2, ep, hb2⟩ := pv
        exact ⟨fr, ms, _, _, _, rfl, k18.trans k2, FA2, da18.keep fun x o hx e => k2.1 x o e fun z => hx (by rw [z]; simp), dr, k2.1 _ _ hR18 hRt, k2.1 _ _ hC18 hCt⟩
  · obtain ⟨fr, ms, v7, v10, v11, rfl, M1⟩ := mid
    obtain ⟨a', b', c', ls', g1, g2, g3, g4, g5, g6⟩ := M1.da.ex
    refine ⟨.ref R, rfl, .ref Cc, rfl, (by show 2 ≤ sizeLine; decide), fun p np => ?_⟩
    have k1 := same_upd (o := .lst [V.ref R, .ref Cc]) np
    refine ⟨.ref du, rfl, 2, rfl, du, _, rfl, SqL.of (k1 _ _ g1), fun p2 np2 => ?_⟩
    have k2 := same_upd (o := .lst (cutV [V.ref a', .ref b', .ref c'] none (some 2))) np2
    have kk := k1.trans k2
    have ecut : cutV [V.ref a', .ref b', .ref c'] none (some 2) = [V.ref a', .ref b'] := rfl
    refine ⟨twoD rs cs, twoD rs cs, .lst (SqL.of (k2 _ _ upd_same)) (.cons (.lst (SqL.of (kk _ _ M1.hR)) (dp_ints rs)) (.cons (.lst (SqL.of (kk _ _ M1.hC)) (dp_ints cs)) .nil)), .lst (SqL.of (by rw [upd_same, ecut])) (.cons (.lst (SqL.of (kk _ _ g2)) (dp_ints rs)) (.cons (.lst (SqL.of (kk _ _ g3)) (dp_ints cs)) .nil)), shaped_two rs cs, shaped_two rs cs, _, rfl, ?_⟩
    rw [SeqAt.eqv_refl _ (SeqAt.canLay_of_shaped (shaped_two rs cs))]
    have hR2 := kk _ _ M1.hR
    have hC2 := kk _ _ M1.hC
    refine ⟨.ref R, rfl, .inl ⟨rfl, _, SqL.of hR2⟩, R, _, rfl, rfl, hR2, ?_⟩
    have hC3 : (upd (upd (upd H' p (.lst [V.ref R, .ref Cc])) p2 (.lst (cutV [V.ref a', .ref b', .ref c'] none (some 2)))) R (.lst [])) Cc = some (.lst (cs.map V.int)) := (upd_ne hCR).trans hC2
    refine ⟨.ref Cc, rfl, .inl ⟨rfl, _, SqL.of hC3⟩, Cc, _, _, rfl, rfl, hC3, by rw [List.length_map]; exact Nat.lt_of_le_of_lt c6 (by decide), ?_⟩
    refine ⟨.ref fr, rfl, .ref du, rfl, (by show 2 ≤ sizeLine; decide), fun p3 np3 => ?_⟩
    have k3 := same_upd (o := .tup [V.ref fr, .ref du]) np3
    refine q _ p3 fr du rs cs ms ((((M1.kp.same kk).put nR0 hRt).put nC0 hCt).lay np3) upd_same ((((M1.fa.same kk).updL hR2).updL hC3).same k3) ?_ M1.dr
    refine DueAt.less (S := [t, R, Cc]) (M1.da.keep fun x o hx e => k3 _ _ ?_) fun x hx => by simpa using Or.inl (by simpa using hx)
    rw [upd_ne (fun z => hx (by rw [z]; simp)), upd_ne (fun z => hx (by rw [z]; simp))]
    exact kk _ _ e
end
end Kp11
set_option Elab.async false
set_option linter.all false
set_option maxRecDepth 100000
set_option maxHeartbeats 4000000
namespace Kp11
open PySem PySem.Spec PyProof.Rows L2 Vf
/-! ### what is told back -/
theorem due_show {rs cs : List Int} {ms : List (List (Option Int))} (D : Drawn rs cs ms) : (dueD rs cs ms).showable = true ∧ (dueD rs cs ms).hasDict = false ∧ (dueD rs cs ms).depth ≤ 60 ∧ (dueD rs cs ms).shown.length ≤ sizeLine := by
  obtain ⟨a1, a2, a3⟩ := nice_ints rs D.rb
  obtain ⟨b1, b2, b3⟩ := nice_ints cs D.cb
  obtain ⟨c1, c2, c3⟩ := nice_rows ms D.rows
  have r6 := D.r6
  have c6 := D.c6
  have ml := D.ml
  have n : Nice (dueD rs cs ms) = true := by
    show (NiceL (rs.map PyData.int) && (NiceL (cs.map PyData.int) && (NiceL (ms.map fun m => .list (m.map capD)) && true))) = true
    rw [a1, b1, c1]; rfl
  have h : nodes (dueD rs cs ms) ≤ 1000 := by
    show 1 + ((1 + nodesL (rs.map PyData.int)) + ((1 + nodesL (cs.map PyData.int)) + ((1 + nodesL (ms.map fun m => .list (m.map capD))) + 0))) ≤ 1000
    omega
  have dd : (dueD rs cs ms).depth ≤ 60 := by
    show max (PyData.depthAll (rs.map PyData.int) + 1) (max (PyData.depthAll (cs.map PyData.int) + 1) (max (PyData.depthAll (ms.map fun m => .list (m.map capD)) + 1) 0)) + 1 ≤ 60
    omega
  obtain ⟨h1, h2, h3⟩ := nice_show _ n
  exact ⟨h1, h2, dd, by rw [sizeLine_eq]; omega⟩
theorem cap_show {c : Option Int} (h : capOk c) : (capD c).showable = true ∧ (capD c).hasDict = false ∧ (capD c).depth ≤ 60 ∧ (capD c).shown.length ≤ sizeLine := by
  have n : Nice (capD c) = true := by
    cases c with
    | none => rfl
    | some i => exact nice_int (h i rfl)
  have d1 : nodes (capD c) = 1 := by cases c <;> rfl
  have d2 : (capD c).depth = 0 := by cases c <;> rfl
  obtain ⟨h1, h2, h3⟩ := nice_show _ n
  exact ⟨h1, h2, by omega, by rw [sizeLine_eq]; omega⟩
def sp_told (K : PySem.W.Frag) (CF : Addr) : Sp := fun vs H Q _ => ∃ (fr du : Addr) (rs cs : List Int) (ms : List (List (Option Int))) (S : List Addr), vs = [.ref fr, .ref du] ∧ FrameAt K CF H fr rs cs ms ∧ DueAt H du rs cs ms S ∧ Drawn rs cs ms ∧ ∀ H', Same H H' → Q (.bl true) H'
def sp_law (K : PySem.W.Frag) : Sp := fun vs H Q _ => ∃ (a : Addr) (ns : List Int), vs = [.ref a] ∧ SqL K H a (ns.map V.int) ∧ ∀ H' : Hp, Q (.bl true) H'
section
variable {P : Program} {w : World} {K : PySem.W.Frag} {mg : Str → Option Value} {base : Heap} {C : Nat → Addr} {tG tL : Tok} {CF : Addr}
theorem sc_l_told : FnScope ["_law_frame", "_law_due", "_law_told_here", "_law_i", "_law_j"] ["_law_frame", "_law_due"] (defScope s_l_told) :=
  ⟨rfl, rfl, rfl, by decide +kernel, rfl, by decide +kernel, by decide +kernel⟩
theorem ok_told {f : Addr} {fd : FuncData} (F : Fun K "_law_told" "_law_told" s_l_told f fd) (T : Txt K mg C tG tL) (c_Frame_rows : Mth P w K mg base CX0 1 CF "rows" ["self"] (sp_rows K CF)) (c_Frame_columns : Mth P w K mg base CX0 1 CF "columns" ["self"] (sp_columns K CF))
    (c_Frame_caps : Mth P w K mg base CX0 1 CF "caps" ["self"] (sp_caps K CF)) (c_Frame_cap : Mth P w K mg base (L2.CX P w) 3 CF "cap" ["self", "row", "column"] (sp_cap K CF C)) : FnG P w K mg base 4 f fd ["_law_frame", "_law_due"] (sp_told K CF) := by
  refine funOkG F sc_l_told (fun vs H Q E ⟨fr, du, rs, cs, ms, S, e, _⟩ => by rw [e]; rfl) (fun cdv A outer s H vs Q E hr h => ?_)
  obtain ⟨fr, du, rs, cs, ms, S, rfl, FA, DA, D, q⟩ := h
  refine ⟨_, (pss_cons (ps_set (i := 2) sc_l_told.nd rfl (by first | exact Or.inl rfl | exact Or.inr rfl) (pe_lst (pa_cons (pe_mth0 c_Frame_rows (hr.r.mono (by decide)) pass0 (pv 0)) (pa_cons (pe_mth0 c_Frame_columns (hr.r.mono (by decide)) pass0 (pv 0)) (pa_cons (pe_mth0 c_Frame_caps (hr.r.mono (by decide)) pass0 (pv 0)) pa_nil)))))
  (pss_cons (ps_if (pt_cmpR op_ne (pe_callB (reprK (K := K) rfl hr.g hr.r.units) (by rfl) T.n_repr (by decide +kernel) (pa_cons (pv 2) pa_nil)) (pe_callB (reprK (K := K) rfl hr.g hr.r.units) (by rfl) T.n_repr (by decide +kernel) (pa_cons (pv 1) pa_nil)) (nomark _))
  (pss_one (ps_ret pe_bl))
  pss_nil)
  (pss_cons (ps_for PassesOwn.never rfl (pi_range1 (by rfl) T.n_range (pa_cons (pe_callB (len_ofK (K := K) rfl) (by rfl) T.n_len (by decide +kernel) (pa_cons (pe_ix (ix_listK (K := K) rfl) (pv 1) pe_int (fun _ _ => rfl)) pa_nil)) pa_nil))
  (pg_name (i := 3) sc_l_told.nd rfl (by first | exact Or.inl rfl | exact Or.inr rfl))
  (pss_one (ps_for PassesOwn.never rfl (pi_range1 (by rfl) T.n_range (pa_cons (pe_callB (len_ofK (K := K) rfl) (by rfl) T.n_len (by decide +kernel) (pa_cons (pe_ix (ix_listK (K := K) rfl) (pv 1) pe_int (fun _ _ => rfl)) pa_nil)) pa_nil))
  (pg_name (i := 4) sc_l_told.nd rfl (by first | exact Or.inl rfl | exact Or.inr rfl))
  (pss_one (ps_if (pt_cmpR op_ne (pe_callB (reprK (K := K) rfl hr.g hr.r.units) (by rfl) T.n_repr (by decide +kernel) (pa_cons (pe_mth c_Frame_cap (hr.r.mono (by decide)) passL (pv 0) (pa_cons (pv 3) (pa_cons (pv 4) pa_nil))) pa_nil)) (pe_callB (reprK (K := K) rfl hr.g hr.r.units) (by rfl) T.n_repr (by decide +kernel) (pa_cons (pe_ix (ix_listK (K := K) rfl) (pe_ix (ix_listK (K := K) rfl) (pe_ix (ix_listK (K := K) rfl) (pv 1) pe_int (fun _ _ => rfl)) (pv 3) (fun _ _ => rfl)) (pv 4) (fun _ _ => rfl)) pa_nil)) (nomark _))
  (pss_one (ps_ret pe_bl))
  pss_nil)))))
  (pss_cons (ps_expr (pe_bm PySem.F.plainAttrs_list PySem.F.slot_list_append PySem.F.type_list_append mt_append (pe_ix (ix_listK (K := K) rfl) (pv 2) pe_int (fun _ _ => rfl)) (pa_cons pe_int pa_nil)))
  (pss_cons (ps_expr (pe_bm0 PySem.F.plainAttrs_list PySem.F.slot_list_clear PySem.F.type_list_clear mt_clear (pe_ix (ix_listK (K := K) rfl) (pv 2) pe_int (fun _ _ => rfl))))
  (pss_cons (ps_expr (pe_bm PySem.F.plainAttrs_list PySem.F.slot_list_append PySem.F.type_list_append mt_append (pe_ix (ix_listK (K := K) rfl) (pe_ix (ix_listK (K := K) rfl) (pv 2) pe_int (fun _ _ => rfl)) pe_int (fun _ _ => rfl)) (pa_cons pe_int pa_nil)))
  (pss_cons (ps_expr (pe_bm PySem.F.plainAttrs_list PySem.F.slot_list_append PySem.F.type_list_append mt_append (pe_ix (ix_listK (K := K) rfl) (pv 2) pe_int (fun _ _ => rfl)) (pa_cons (pe_lst pa_nil) pa_nil)))
  (pss_one (ps_ret pe_bl))))))))), ?_⟩
  obtain ⟨dx, tr, tc, tk, ks, f1, -, -, -, -⟩ := FA.ex
  have no1 : ∀ a b c : V, (ff a b c).lookup ("rows" : Str) = none := fun a b c => ff_no a b c (by decide +kernel) (by decide +kernel) (by decide +kernel)
  have no2 : ∀ a b c : V, (ff a b c).lookup ("columns" : Str) = none := fun a b c => ff_no a b c (by decide +kernel) (by decide +kernel) (by decide +kernel)
  have no3 : ∀ a b c : V, (ff a b c).lookup ("caps" : Str) = none := fun a b c => ff_no a b c (by decide +kernel) (by decide +kernel) (by decide +kernel)
  have no4 : ∀ a b c : V, (ff a b c).lookup ("cap" : Str) = none := fun a b c => ff_no a b c (by decide +kernel) (by decide +kernel) (by decide +kernel)
  refine ⟨.ref fr, rfl, fr, dx, _, rfl, f1, no1 _ _ _, fr, rs, cs, ms, rfl, FA, fun l1 n1 => ?_⟩
  have s1 := same_upd (o := .lst (rs.map V.int)) n1
  refine ⟨.ref fr, rfl, fr, dx, _, rfl, s1 _ _ f1, no2 _ _ _, fr, rs, cs, ms, rfl, FA.same s1, fun l2 n2 => ?_⟩
  have s2' := same_upd (o := .lst (cs.map V.int)) n2
  have s2 := s1.trans s2'
  refine ⟨.ref fr, rfl, fr, dx, _, rfl, s2 _ _ f1, no3 _ _ _, fr, rs, cs, ms, rfl, FA.same s2, D.r6, fun H3 Dd ls s3' nD hD rowsL hne => ⟨(by show 3 ≤ sizeLine; decide), fun p np => ?_⟩⟩
  have hl1 := s3' _ _ (s2' _ _ (upd_same (H := H) (a := l1) (o := .lst (rs.map V.int))))
  have hl2 := s3' _ _ (upd_same (H := upd H l1 (.lst (rs.map V.int))) (a := l2) (o := .lst (cs.map V.int)))
  have s3 := s2.trans s3'
  have sp := same_upd (o := .lst [V.ref l1, .ref l2, .ref Dd]) np
  have s4 := s3.trans sp
  have e21 : l1 ≠ l2 := ne_of_none upd_same n2
  have eD1 : l1 ≠ Dd := ne_of_none (s2' _ _ upd_same) nD
  have eD2 : l2 ≠ Dd := ne_of_none upd_same nD
  have ek : ∀ k ∈ ls, l1 ≠ k ∧ l2 ≠ k ∧ H k = none := fun k hk => by
    have := RowsL.fresh rowsL k hk
    exact ⟨ne_of_none (s2' _ _ upd_same) this, ne_of_none upd_same this, s2.free this⟩
  have rows4 : RowsC (upd H3 p (.lst [V.ref l1, .ref l2, .ref Dd])) ls ms := (RowsC.ofL rowsL).keep fun _ _ o e => sp _ _ e
  have da4 : DueAt (upd H3 p (.lst [V.ref l1, .ref l2, .ref Dd])) p rs cs ms [] := ⟨l1, l2, Dd, ls, upd_same, sp _ _ hl1, sp _ _ hl2, sp _ _ hD, rows4, fun _ _ z => nomatch z⟩
  have du4 := DA.keep fun x o _ e => s4 x o e
  have n20 := s1.free n2
  have nD0 := s2.free nD
  have epk : ∀ k ∈ ls, k ≠ p := fun k hk => by
    obtain ⟨o, e⟩ := (RowsC.ofL rowsL).there k hk
    exact ne_of_none e np
  have ep1 : l1 ≠ p := ne_of_none hl1 np
  have ep2 : l2 ≠ p := ne_of_none hl2 np
  have epD : Dd ≠ p := ne_of_none hD np
  have hl1 := sp _ _ hl1
  have hl2 := sp _ _ hl2
  have hD := sp _ _ hD
  have hp : (upd H3 p (.lst [V.ref l1, .ref l2, .ref Dd])) p = some (.lst [V.ref l1, .ref l2, .ref Dd]) := upd_same
  generalize upd H3 p (.lst [V.ref l1, .ref l2, .ref Dd]) = H4 at s4 rows4 da4 du4 hl1 hl2 hD hp ⊢
  obtain ⟨w1, w2, w3, w4⟩ := due_show D
  obtain ⟨a, b, c, lu, g1, g2, g3, g4, g5, -⟩ := du4.ex
  refine ⟨.ref p, rfl, .ref p, dueD rs cs ms, rfl, dp_due da4, w1, w2, w3, w4, .ref du, rfl, .ref du, dueD rs cs ms, rfl, dp_due du4, w1, w2, w3, w4, rfl, _, rfl, iteNS rfl ?_⟩
  refine ⟨.ref du, rfl, du, _, 0, .ref a, rfl, rfl, SqL.of g1, atI_nat (j := 0) rfl, a, _, rfl, .inl (SqL.of g2), _, rfl, by rw [List.length_map]; omega, by rw [List.length_map]; have := D.r6; omega, ?_⟩
  refine for_range (n := (rs.map V.int).length) (fun i σ H' => H' = H4 ∧ ∃ v3 v4, σ = [some (.ref fr), some (.ref du), some (.ref p), v3, v4]) ⟨rfl, none, none, rfl⟩ (fun i σ H' hi pv => ?_) (fun σ H' pv => ?_)
  · obtain ⟨rfl, v3, v4, rfl⟩ := pv
    refine ⟨.ref du, rfl, du, _, 1, .ref b, rfl, rfl, SqL.of g1, atI_nat (j := 1) rfl, b, _, rfl, .inl (SqL.of g3), _, rfl, by rw [List.length_map]; omega, by rw [List.length_map]; have := D.c6; omega, ?_⟩
    refine for_range (n := (cs.map V.int).length) (fun j σ H2 => H2 = H' ∧ ∃ v4, σ = [some (.ref fr), some (.ref du), some (.ref p), some (.int (0 + (i : Int))), v4]) ⟨rfl, _, rfl⟩ (fun j σ H2 hj pv => ?_) (fun σ H2 pv => ?_)
    · obtain ⟨rfl, v4, rfl⟩ := pv
      rw [List.length_map] at hi hj
      have hi2 : i < ms.length := by rw [D.ml]; exact hi
      have hmm := List.getElem?_eq_getElem hi2
      have hj2 : j < ms[i].length := by rw [(D.mb _ (List.mem_of_getElem? hmm)).1]; exact hj
      have hcc := List.getElem?_eq_getElem hj2
      obtain ⟨k, hk1, hk2⟩ := g5.get hmm
      obtain ⟨u1, u2, u3, u4⟩ := cap_show ((D.mb _ (List.mem_of_getElem? hmm)).2 _ (List.mem_of_getElem? hcc))
      refine ⟨.ref fr, rfl, fr, dx, _, rfl, s4 _ _ f1, no4 _ _ _, .int (0 + (i : Int)), rfl, .int (0 + (j : Int)), rfl, ?_⟩
      refine ⟨fr, rs, cs, ms, _, _, .int (0 + (i : Int)), .int (0 + (j : Int)), rfl, FA.same s4, .int _, .int _, fun z => ?_, fun i' j' m' c' e1 e2 hm hc => ?_⟩
      · have : isPlace rs.length (.int (0 + (i : Int))) = true := by
          show (decide (0 ≤ 0 + (i : Int)) && decide (0 + (i : Int) < rs.length)) = true
          rw [decide_eq_true (by omega), decide_eq_true (by omega)]; rfl
        have h2 : isPlace cs.length (.int (0 + (j : Int))) = true := by
          show (decide (0 ≤ 0 + (j : Int)) && decide (0 + (j : Int) < cs.length)) = true
          rw [decide_eq_true (by omega), decide_eq_true (by omega)]; rfl
        rw [this, h2] at z
        cases z
      · obtain rfl : i = i' := by have := Dt.int.inj e1; omega
        obtain rfl : j = j' := by have := Dt.int.inj e2; omega
        obtain rfl := Option.some.inj (hmm.symm.trans hm)
        obtain rfl := Option.some.inj (hcc.symm.trans hc)
        refine ⟨capV _, capD _, rfl, dp_cap _, u1, u2, u3, u4, .ref du, rfl, du, _, 2, .ref c, rfl, rfl, SqL.of g1, atI_nat (j := 2) rfl, .int (0 + (i : Int)), rfl, c, _, 0 + (i : Int), .ref k, rfl, rfl, SqL.of g4, at_of (j := i) (by omega) (by rw [List.getElem?_map, hk1]; rfl), ?_⟩
        refine ⟨.int (0 + (j : Int)), rfl, k, _, 0 + (j : Int), capV ms[i][j], rfl, rfl, SqL.of hk2, at_of (j := j) (by omega) (by rw [List.getElem?_map, hcc]; rfl), capV _, capD _, rfl, dp_cap _, u1, u2, u3, u4, rfl, _, rfl, iteNS rfl ?_⟩
        exact ⟨rfl, _, rfl⟩
    · obtain ⟨rfl, v4, rfl⟩ := pv
      exact ⟨rfl, _, _, rfl⟩
  · obtain ⟨rfl, v3, v4, rfl⟩ := pv
    obtain ⟨k0, ls', rfl⟩ : ∃ k0 ls', ls = k0 :: ls' := by
      cases ls with
      | nil =>
        have := rowsL.length
        have := D.ml
        have := D.r1
        simp at *
        omega
      | cons k0 ls' => exact ⟨k0, ls', rfl⟩
    obtain ⟨m0, hk0⟩ : ∃ m0 : List (Option Int), H' k0 = some (.lst (m0.map capV)) ∧ m0.length ≤ 6 := by
      cases rows4 with
      | cons h r => exact ⟨_, h, (D.rows _ List.mem_cons_self).1⟩
    obtain ⟨hk0, hm6⟩ := hk0
    obtain ⟨x1, x2, x3⟩ := ek k0 List.mem_cons_self
    have x4 := hne k0 List.mem_cons_self
    have x5 := epk k0 List.mem_cons_self
    -- append to the rows
    refine ⟨.ref p, rfl, p, _, 0, .ref l1, rfl, rfl, SqL.of hp, atI_nat (j := 0) rfl, .inl ⟨rfl, _, SqL.of hl1⟩, l1, _, _, rfl, rfl, hl1, by rw [List.length_map]; exact Nat.lt_of_le_of_lt D.r6 (by decide), ?_⟩
    have t1 := Same.put (H1 := H') s4 (o := .lst (rs.map V.int ++ [V.int 7])) n1
    have hp := (upd_ne (o := .lst (rs.map V.int ++ [V.int 7])) (H := H') ep1.symm).trans hp
    have hl2 := (upd_ne (o := .lst (rs.map V.int ++ [V.int 7])) (H := H') e21.symm).trans hl2
    have hD := (upd_ne (o := .lst (rs.map V.int ++ [V.int 7])) (H := H') eD1.symm).trans hD
    have hk0 := (upd_ne (o := .lst (rs.map V.int ++ [V.int 7])) (H := H') x1.symm).trans hk0
    generalize upd H' l1 (.lst (rs.map V.int ++ [V.int 7])) = H5 at t1 hp hl2 hD hk0 ⊢
    -- clear the columns
    refine ⟨.ref p, rfl, p, _, 1, .ref l2, rfl, rfl, SqL.of hp, atI_nat (j := 1) rfl, .inl ⟨rfl, _, SqL.of hl2⟩, l2, _, rfl, rfl, hl2, ?_⟩
    have t2 := Same.put t1 (o := .lst []) n20
    have hp := (upd_ne (o := .lst []) (H := H5) ep2.symm).trans hp
    have hD := (upd_ne (o := .lst []) (H := H5) eD2.symm).trans hD
    have hk0 := (upd_ne (o := .lst []) (H := H5) x2.symm).trans hk0
    generalize upd H5 l2 (.lst []) = H6 at t2 hp hD hk0 ⊢
    -- append to the first row of caps
    refine ⟨.ref p, rfl, p, _, 2, .ref Dd, rfl, rfl, SqL.of hp, atI_nat (j := 2) rfl, Dd, _, 0, .ref k0, rfl, rfl, SqL.of hD, atI_nat (j := 0) rfl, .inl ⟨rfl, _, SqL.of hk0⟩, k0, _, _, rfl, rfl, hk0, by rw [List.length_map]; exact Nat.lt_of_le_of_lt hm6 (by decide), ?_⟩
    have t3 := Same.put t2 (o := .lst (m0.map capV ++ [V.int 3])) x3
    have hp := (upd_ne (o := .lst (m0.map capV ++ [V.int 3])) (H := H6) x5.symm).trans hp
    have hD := (upd_ne (o := .lst (m0.map capV ++ [V.int 3])) (H := H6) x4.symm).trans hD
    generalize upd H6 k0 (.lst (m0.map capV ++ [V.int 3])) = H7 at t3 hp hD ⊢
    -- append to the caps
    refine ⟨.ref p, rfl, p, _, 2, .ref Dd, rfl, rfl, SqL.of hp, atI_nat (j := 2) rfl, .inl ⟨rfl, _, SqL.of hD⟩, Nat.zero_le _, fun l nl => ?_⟩
    have t4 := t3.trans (same_upd (o := .lst []) nl)
    have hD := (same_upd (o := .lst []) nl) _ _ hD
    refine ⟨Dd, _, _, rfl, rfl, hD, ?_, q _ (Same.put t4 nD0)⟩
    have := rowsL.length
    have := D.ml
    have := D.r6
    rw [List.length_map]
    exact Nat.lt_of_le_of_lt (show (k0 :: ls').length ≤ 6 by omega) (by decide)
theorem sc_law : FnScope ["_law_script", "_law_k", "_law_tape_here", "_law_made_here", "_law_turn", "_law_frame", "_law_due"] ["_law_script"] (defScope s_law) :=
  ⟨rfl, rfl, rfl, by decide +kernel, rfl, by decide +kernel, by decide +kernel⟩
theorem ok_law {f : Addr} {fd : FuncData} (F : Fun K "law" "law" s_law f fd) (T : Txt K mg C tG tL) (c_l_cell_at : Cal P w K mg base CX0 1 "_law_cell_at" ["_law_script", "_law_k"] (sp_cell_at K)) (c_l_tape : Cal P w K mg base CX0 1 "_law_tape" ["_law_cell"] sp_tape)
    (c_l_made : CalG P w K mg base 8 "_law_made" ["_law_tape_here"] (sp_made K CF)) (c_l_told : CalG P w K mg base 4 "_law_told" ["_law_frame", "_law_due"] (sp_told K CF)) : FnG P w K mg base 9 f fd ["_law_script"] (sp_law K) := by
  refine funOkG F sc_law (fun vs H Q E ⟨a, ns, e, _⟩ => by rw [e]; rfl) (fun cdv A outer s H vs Q E hr h => ?_)
  obtain ⟨a, ns, rfl, hS, q⟩ := h
  refine ⟨_, (pss_cons (ps_for PassesOwn.never rfl (pi_range1 (by rfl) T.n_range (pa_cons (pe_callB (call_max2 rfl) (by rfl) T.n_max (by decide +kernel) (pa_cons pe_int (pa_cons (pe_callB (call_min2 rfl) (by rfl) T.n_min (by decide +kernel) (pa_cons (pe_callB (len_ofK (K := K) rfl) (by rfl) T.n_len (by decide +kernel) (pa_cons (pv 0) pa_nil)) (pa_cons pe_int pa_nil))) pa_nil))) pa_nil))
  (pg_name (i := 1) sc_law.nd rfl (by first | exact Or.inl rfl | exact Or.inr rfl))
  (pss_cons (ps_set (i := 2) sc_law.nd rfl (by first | exact Or.inl rfl | exact Or.inr rfl) (pe_cal c_l_tape (hr.r.mono (by decide)) (by rfl) pass0 (pa_cons (pe_cal c_l_cell_at (hr.r.mono (by decide)) (by rfl) pass0 (pa_cons (pv 0) (pa_cons (pv 1) pa_nil))) pa_nil)))
  (pss_cons (ps_set (i := 3) sc_law.nd rfl (by first | exact Or.inl rfl | exact Or.inr rfl) (pe_lst (pa_cons (pe_calG c_l_made (hr.mono (by decide)) (by rfl) (pa_cons (pv 2) pa_nil)) (pa_cons (pe_calG c_l_made (hr.mono (by decide)) (by rfl) (pa_cons (pv 2) pa_nil)) pa_nil))))
  (pss_one (ps_for PassesOwn.never rfl (pi_range1 (by rfl) T.n_range (pa_cons pe_int pa_nil))
  (pg_name (i := 4) sc_law.nd rfl (by first | exact Or.inl rfl | exact Or.inr rfl))
  (pss_cons (ps_asg (pe_ix (ix_listK (K := K) rfl) (pv 3) (pe_op op_mod (pv 4) pe_int) (fun _ _ => rfl)) (pg_tup rfl (pgs_cons (pg_name (i := 5) sc_law.nd rfl (by first | exact Or.inl rfl | exact Or.inr rfl)) (pgs_cons (pg_name (i := 6) sc_law.nd rfl (by first | exact Or.inl rfl | exact Or.inr rfl)) pgs_nil))))
  (pss_one (ps_if (PW.pt (pw_or (pt_cmpR op_isN (pv 6) pe_non (nomark _)) (pw_or1 (pt_not (pt_val (pe_calG c_l_told (hr.mono (by decide)) (by rfl) (pa_cons (pv 5) (pa_cons (pv 6) pa_nil))))))))
  (pss_one (ps_ret pe_bl))
  pss_nil))))))))
  (pss_one (ps_ret pe_bl))), ?_⟩
  refine ⟨.ref a, rfl, a, _, rfl, .inl hS, _, _, rfl, _, _, rfl, _, rfl, ?_, ?_, ?_⟩
  · split <;> split <;> omega
  · split <;> split <;> omega
  generalize Int.toNat _ = n
  refine for_range (n := n) (fun i σ H' => Same H H' ∧ ∃ v1 v2 v3 v4 v5 v6, σ = [some (.ref a), v1, v2, v3, v4, v5, v6]) ⟨Same.refl _, none, none, none, none, none, none, rfl⟩ (fun i σ H0 hi pv => ?_) (fun σ H' pv => ?_)
  · obtain ⟨s0, v1, v2, v3, v4, v5, v6, rfl⟩ := pv
    refine ⟨.ref a, rfl, .int (0 + (i : Int)), rfl, a, ns, i, by rw [Int.zero_add], s0.seq hS, _, rfl, fun H1 t n s1 nt ht => ?_⟩
    have s01 := s0.trans s1
    have nt0 := s0.free nt
    refine ⟨.ref t, rfl, t, rfl, ⟨n, ht⟩, fun H2 p1 fr1 du1 rs1 cs1 ms1 k2 hp1 FA1 DA1 D1 => ?_⟩
    refine ⟨.ref t, rfl, t, rfl, k2.2, fun H3 p2 fr2 du2 rs2 cs2 ms2 k3 hp2 FA2 DA2 D2 => ⟨(by show 2 ≤ sizeLine; decide), fun L nL => ?_⟩⟩
    have hp1 := k3.1 _ _ hp1 fun z => by obtain ⟨m, e⟩ := k2.2; rw [z, e] at hp1; cases hp1
    have FA1 := FA1.kp k2.2 k3
    have DA1 := DA1.keep fun x o hx e => k3.1 x o e fun z => hx (by rw [z]; simp)
    have sL := same_upd (o := .lst [V.ref p1, .ref p2]) nL
    have s04 : Same H (upd H3 L (.lst [V.ref p1, .ref p2])) := fun b o e => sL _ _ ((k2.trans k3).1 _ _ (s01 _ _ e) (ne_of_none e nt0))
    have hL : (upd H3 L (.lst [V.ref p1, .ref p2])) L = some (.lst [V.ref p1, .ref p2]) := upd_same
    have hp1 := sL _ _ hp1
    have hp2 := sL _ _ hp2
    have FA1 := FA1.same sL
    have FA2 := FA2.same sL
    have DA1 := DA1.keep fun x o _ e => sL x o e
    have DA2 := DA2.keep fun x o _ e => sL x o e
    generalize upd H3 L (.lst [V.ref p1, .ref p2]) = H4 at s04 hL hp1 hp2 FA1 FA2 DA1 DA2 ⊢
    refine ⟨4, rfl, by decide, by decide, for_range (n := 4) (fun j σ H' => Same H4 H' ∧ ∃ v4 v5 v6, σ = [some (.ref a), some (.int (0 + (i : Int))), some (.ref t), some (.ref L), v4, v5, v6]) ⟨Same.refl _, _, _, _, rfl⟩ (fun j σ H5 hj pv => ?_) (fun σ H' pv => ?_)⟩
    · obtain ⟨s5, v4, v5, v6, rfl⟩ := pv
      obtain ⟨p, fr, du, rs, cs, ms, ev, hp, FA, DA, D⟩ : ∃ (p fr du : Addr) (rs cs : List Int) (ms : List (List (Option Int))), ([V.ref p1, .ref p2] : List V)[j % 2]? = some (.ref p) ∧ H4 p = some (.tup [.ref fr, .ref du]) ∧ FrameAt K CF H4 fr rs cs ms ∧ DueAt H4 du rs cs ms [t] ∧ Drawn rs cs ms := by
        rcases Nat.mod_two_eq_zero_or_one j with z | z
        · rw [z]; exact ⟨p1, fr1, du1, rs1, cs1, ms1, rfl, hp1, FA1, DA1, D1⟩
        · rw [z]; exact ⟨p2, fr2, du2, rs2, cs2, ms2, rfl, hp2, FA2, DA2, D2⟩
      refine ⟨.ref L, rfl, .int (0 + (j : Int)), rfl, _, 2, rfl, rfl, (by show (0 : Int) < 2; decide), L, _, _, .ref p, rfl, rfl, SqL.of (s5 _ _ hL), at_of (j := j % 2) (by omega) ev, ?_⟩
      refine ⟨p, _, rfl, SqT.of (s5 _ _ hp), rfl, .ref fr, _, rfl, .ref du, [], rfl, rfl, .ref du, rfl, rfl, _, rfl, ?_⟩
      refine ⟨.ref fr, rfl, .ref du, rfl, fr, du, rs, cs, ms, [t], rfl, FA.same s5, DA.keep fun x o _ e => s5 x o e, D, fun H6 s6 => ?_⟩
      exact ⟨true, rfl, s5.trans s6, _, _, _, rfl⟩
    · obtain ⟨s5, v4, v5, v6, rfl⟩ := pv
      exact ⟨s04.trans s5, _, _, _, _, _, _, rfl⟩
  · obtain ⟨s5, v1, v2, v3, v4, v5, v6, rfl⟩ := pv
    exact q H'
end
end Kp11
set_option Elab.async false
set_option linter.all false
set_option maxRecDepth 100000
set_option maxHeartbeats 4000000
namespace Kp11
open PySem PySem.Spec PyProof.Rows L2 Vf
/-! ### what the top has written -/
structure ExcK (K : PySem.W.Frag) (nm : Str) (C TE : Addr) : Prop where
  g : PySem.W.nsIn K mainGlobals nm = some (some (.ref C))
  x : PySem.W.excIn K C veMro "ValueError.__new__" = true
  k : PySem.W.keepIn K (.ref C) = true
  t : PySem.W.typeIn K (.ref C) = some (.type "type")
  hg : PySem.W.findIn K (.ref C) "__getattribute__" = some (some (.builtin "BaseException.__getattribute__"))
  hk : PySem.W.findIn K (.ref C) "__getattr__" = some none
  hs : PySem.W.subIn K (.ref C) (.type "BaseException") = some true
  hd : PySem.W.hasDictIn K C = true
  ha : PySem.W.findIn K (.ref C) "__class__" = some (some (.builtin "object.__class__"))
  hm : PySem.W.mroIn K C (.type "object") = some true
  m : ∃ cd, PySem.W.clsIn K C = some cd ∧ cd.mro = .ref C :: .ref TE :: veMro
theorem ExcK.f {K : PySem.W.Frag} {nm : Str} {C TE : Addr} {h : Heap} {mg : Str → Option Value} (E : ExcK K nm C TE) (X : K.In h) (G : h.Ns mainGlobals mg) (hn : PySem.W.specialIn K (.builtin "object.__class__") "__get__" = some (some (.builtin "getset_descriptor.__get__")))
    (ht : PySem.W.takesIn K (.builtin "object.__class__") = some true) : ExcF K mg nm C TE := ⟨PySem.W.mg_of X G E.g, E.x, E.k, E.t, ⟨E.hg, E.hk, E.hs, E.hd, E.ha, hn, ht, E.hm⟩, E.m⟩
structure FrK (K : PySem.W.Frag) (CF : Addr) : Prop where
  g : PySem.W.nsIn K mainGlobals "Frame" = some (some (.ref CF))
  pg : PySem.W.plainGet K CF Str.empty = true
  hd : PySem.W.hasDictIn K CF = true
  po : PySem.W.plainOver K CF = true
  sa : PySem.W.findIn K (.ref CF) "__setattr__" = some (some (.builtin "object.__setattr__"))
  nr : PySem.W.findIn K (.ref CF) "row_sums" = some none
  nc : PySem.W.findIn K (.ref CF) "column_sums" = some none
  nk : PySem.W.findIn K (.ref CF) "cell_caps" = some none

theorem all_mk {l : PySem.W.OpenLaw} {w : World} {K : PySem.W.Frag} {h : Heap} {mg : Str → Option Value} {fa CF fI T0 : Addr} {q0 q1 q10 q17 : Addr} (X : K.In h) (G : h.Ns mainGlobals mg) (hfa : mg "law" = some (.ref fa)) (hG : ∃ t, mg "GREATEST" = some (.int 1000000000000 t)) {tL : Tok}
    {od0 an0 : Option Addr} {sl0 : Array (Option Value)} {oc0 kV0 dc0 pm0 cd0 ct0 : Value} {f0 : Addr}
    {od1 an1 : Option Addr} {sl1 : Array (Option Value)} {oc1 kV1 dc1 pm1 cd1 ct1 : Value} {f1 : Addr}
    {od2 an2 : Option Addr} {sl2 : Array (Option Value)} {oc2 kV2 dc2 pm2 cd2 ct2 : Value} {f2 : Addr}
    {od3 an3 : Option Addr} {sl3 : Array (Option Value)} {oc3 kV3 dc3 pm3 cd3 ct3 : Value} {f3 : Addr}
    {od4 an4 : Option Addr} {sl4 : Array (Option Value)} {oc4 kV4 dc4 pm4 cd4 ct4 : Value} {f4 : Addr}
    {od5 an5 : Option Addr} {sl5 : Array (Option Value)} {oc5 kV5 dc5 pm5 cd5 ct5 : Value} {f5 : Addr}
    {od6 an6 : Option Addr} {sl6 : Array (Option Value)} {oc6 kV6 dc6 pm6 cd6 ct6 : Value} {f6 : Addr}
    {od7 an7 : Option Addr} {sl7 : Array (Option Value)} {oc7 kV7 dc7 pm7 cd7 ct7 : Value} {f7 : Addr}
    {od8 an8 : Option Addr} {sl8 : Array (Option Value)} {oc8 kV8 dc8 pm8 cd8 ct8 : Value} {f8 : Addr}
    {od9 an9 : Option Addr} {sl9 : Array (Option Value)} {oc9 kV9 dc9 pm9 cd9 ct9 : Value} {f9 : Addr}
    {od10 an10 : Option Addr} {sl10 : Array (Option Value)} {oc10 kV10 dc10 pm10 cd10 ct10 : Value} {f10 : Addr}
    {od11 an11 : Option Addr} {sl11 : Array (Option Value)} {oc11 kV11 dc11 pm11 cd11 ct11 : Value} {f11 : Addr}
    {od12 an12 : Option Addr} {sl12 : Array (Option Value)} {oc12 kV12 dc12 pm12 cd12 ct12 : Value} {f12 : Addr}
    {od13 an13 : Option Addr} {sl13 : Array (Option Value)} {oc13 kV13 dc13 pm13 cd13 ct13 : Value} {f13 : Addr}
    {od14 an14 : Option Addr} {sl14 : Array (Option Value)} {oc14 kV14 dc14 pm14 cd14 ct14 : Value} {f14 : Addr}
    {od15 an15 : Option Addr} {sl15 : Array (Option Value)} {oc15 kV15 dc15 pm15 cd15 ct15 : Value} {f15 : Addr}
    {od16 an16 : Option Addr} {sl16 : Array (Option Value)} {oc16 kV16 dc16 pm16 cd16 ct16 : Value} {f16 : Addr}
    {od17 an17 : Option Addr} {sl17 : Array (Option Value)} {oc17 kV17 dc17 pm17 cd17 ct17 : Value} {f17 : Addr}
    {od18 an18 : Option Addr} {sl18 : Array (Option Value)} {oc18 kV18 dc18 pm18 cd18 ct18 : Value} {f18 : Addr}
    {odI anI : Option Addr} {slI : Array (Option Value)} {ocI kVI dcI pmI cdI ctI : Value} {n0 : Nat} {o0 : Obj}
    {odM0 anM0 : Option Addr} {slM0 : Array (Option Value)} {ocM0 kVM0 dcM0 pmM0 cdM0 ctM0 : Value} {fM0 : Addr}
    {odM1 anM1 : Option Addr} {slM1 : Array (Option Value)} {ocM1 kVM1 dcM1 pmM1 cdM1 ctM1 : Value} {fM1 : Addr}
    {odM2 anM2 : Option Addr} {slM2 : Array (Option Value)} {ocM2 kVM2 dcM2 pmM2 cdM2 ctM2 : Value} {fM2 : Addr}
    {odM3 anM3 : Option Addr} {slM3 : Array (Option Value)} {ocM3 kVM3 dcM3 pmM3 cdM3 ctM3 : Value} {fM3 : Addr}
    (a0 : PySem.W.nsIn K mainGlobals "is_whole" = some (some (.ref f0))) (l0 : K.lookup f0 = some ⟨oc0, od0, .func (PySem.W.fnOf "is_whole" "is_whole" (defArgs s_is_whole) (defBody s_is_whole) (defScope s_is_whole) .none kV0 dc0 pm0 an0 cd0 ct0), sl0⟩) (c0 : PySem.W.codeIn K cd0 "is_whole" = true) (k0 : PySem.W.keepIn K (.ref f0) = true)
    (a1 : PySem.W.nsIn K mainGlobals "is_count" = some (some (.ref f1))) (l1 : K.lookup f1 = some ⟨oc1, od1, .func (PySem.W.fnOf "is_count" "is_count" (defArgs s_is_count) (defBody s_is_count) (defScope s_is_count) .none kV1 dc1 pm1 an1 cd1 ct1), sl1⟩) (c1 : PySem.W.codeIn K cd1 "is_count" = true) (k1 : PySem.W.keepIn K (.ref f1) = true)
    (a2 : PySem.W.nsIn K mainGlobals "is_list" = some (some (.ref f2))) (l2 : K.lookup f2 = some ⟨oc2, od2, .func (PySem.W.fnOf "is_list" "is_list" (defArgs s_is_list) (defBody s_is_list) (defScope s_is_list) .none kV2 dc2 pm2 an2 cd2 ct2), sl2⟩) (c2 : PySem.W.codeIn K cd2 "is_list" = true) (k2 : PySem.W.keepIn K (.ref f2) = true)
    (a3 : PySem.W.nsIn K mainGlobals "is_short_list" = some (some (.ref f3))) (l3 : K.lookup f3 = some ⟨oc3, od3, .func (PySem.W.fnOf "is_short_list" "is_short_list" (defArgs s_is_short_list) (defBody s_is_short_list) (defScope s_is_short_list) .none kV3 dc3 pm3 an3 cd3 ct3), sl3⟩) (c3 : PySem.W.codeIn K cd3 "is_short_list" = true) (k3 : PySem.W.keepIn K (.ref f3) = true)
    (a4 : PySem.W.nsIn K mainGlobals "are_counts" = some (some (.ref f4))) (l4 : K.lookup f4 = some ⟨oc4, od4, .func (PySem.W.fnOf "are_counts" "are_counts" (defArgs s_are_counts) (defBody s_are_counts) (defScope s_are_counts) .none kV4 dc4 pm4 an4 cd4 ct4), sl4⟩) (c4 : PySem.W.codeIn K cd4 "are_counts" = true) (k4 : PySem.W.keepIn K (.ref f4) = true)
    (a5 : PySem.W.nsIn K mainGlobals "wanted_sums" = some (some (.ref f5))) (l5 : K.lookup f5 = some ⟨oc5, od5, .func (PySem.W.fnOf "wanted_sums" "wanted_sums" (defArgs s_wanted_sums) (defBody s_wanted_sums) (defScope s_wanted_sums) .none kV5 dc5 pm5 an5 cd5 ct5), sl5⟩) (c5 : PySem.W.codeIn K cd5 "wanted_sums" = true) (k5 : PySem.W.keepIn K (.ref f5) = true)
    (a6 : PySem.W.nsIn K mainGlobals "is_place" = some (some (.ref f6))) (l6 : K.lookup f6 = some ⟨oc6, od6, .func (PySem.W.fnOf "is_place" "is_place" (defArgs s_is_place) (defBody s_is_place) (defScope s_is_place) .none kV6 dc6 pm6 an6 cd6 ct6), sl6⟩) (c6 : PySem.W.codeIn K cd6 "is_place" = true) (k6 : PySem.W.keepIn K (.ref f6) = true)
    (a7 : PySem.W.nsIn K mainGlobals "is_cap" = some (some (.ref f7))) (l7 : K.lookup f7 = some ⟨oc7, od7, .func (PySem.W.fnOf "is_cap" "is_cap" (defArgs s_is_cap) (defBody s_is_cap) (defScope s_is_cap) .none kV7 dc7 pm7 an7 cd7 ct7), sl7⟩) (c7 : PySem.W.codeIn K cd7 "is_cap" = true) (k7 : PySem.W.keepIn K (.ref f7) = true)
    (a8 : PySem.W.nsIn K mainGlobals "are_rows" = some (some (.ref f8))) (l8 : K.lookup f8 = some ⟨oc8, od8, .func (PySem.W.fnOf "are_rows" "are_rows" (defArgs s_are_rows) (defBody s_are_rows) (defScope s_are_rows) .none kV8 dc8 pm8 an8 cd8 ct8), sl8⟩) (c8 : PySem.W.codeIn K cd8 "are_rows" = true) (k8 : PySem.W.keepIn K (.ref f8) = true)
    (a9 : PySem.W.nsIn K mainGlobals "wanted_caps" = some (some (.ref f9))) (l9 : K.lookup f9 = some ⟨oc9, od9, .func (PySem.W.fnOf "wanted_caps" "wanted_caps" (defArgs s_wanted_caps) (defBody s_wanted_caps) (defScope s_wanted_caps) .none kV9 dc9 pm9 an9 cd9 ct9), sl9⟩) (c9 : PySem.W.codeIn K cd9 "wanted_caps" = true) (k9 : PySem.W.keepIn K (.ref f9) = true)
    (a10 : PySem.W.nsIn K mainGlobals "_law_cell_at" = some (some (.ref f10))) (l10 : K.lookup f10 = some ⟨oc10, od10, .func (PySem.W.fnOf "_law_cell_at" "_law_cell_at" (defArgs s_l_cell_at) (defBody s_l_cell_at) (defScope s_l_cell_at) .none kV10 dc10 pm10 an10 cd10 ct10), sl10⟩) (c10 : PySem.W.codeIn K cd10 "_law_cell_at" = true) (k10 : PySem.W.keepIn K (.ref f10) = true)
    (a11 : PySem.W.nsIn K mainGlobals "_law_tape" = some (some (.ref f11))) (l11 : K.lookup f11 = some ⟨oc11, od11, .func (PySem.W.fnOf "_law_tape" "_law_tape" (defArgs s_l_tape) (defBody s_l_tape) (defScope s_l_tape) .none kV11 dc11 pm11 an11 cd11 ct11), sl11⟩) (c11 : PySem.W.codeIn K cd11 "_law_tape" = true) (k11 : PySem.W.keepIn K (.ref f11) = true)
    (a12 : PySem.W.nsIn K mainGlobals "_law_digit" = some (some (.ref f12))) (l12 : K.lookup f12 = some ⟨oc12, od12, .func (PySem.W.fnOf "_law_digit" "_law_digit" (defArgs s_l_digit) (defBody s_l_digit) (defScope s_l_digit) .none kV12 dc12 pm12 an12 cd12 ct12), sl12⟩) (c12 : PySem.W.codeIn K cd12 "_law_digit" = true) (k12 : PySem.W.keepIn K (.ref f12) = true)
    (a13 : PySem.W.nsIn K mainGlobals "_law_count" = some (some (.ref f13))) (l13 : K.lookup f13 = some ⟨oc13, od13, .func (PySem.W.fnOf "_law_count" "_law_count" (defArgs s_l_count) (defBody s_l_count) (defScope s_l_count) .none kV13 dc13 pm13 an13 cd13 ct13), sl13⟩) (c13 : PySem.W.codeIn K cd13 "_law_count" = true) (k13 : PySem.W.keepIn K (.ref f13) = true)
    (a14 : PySem.W.nsIn K mainGlobals "_law_caps" = some (some (.ref f14))) (l14 : K.lookup f14 = some ⟨oc14, od14, .func (PySem.W.fnOf "_law_caps" "_law_caps" (defArgs s_l_caps) (defBody s_l_caps) (defScope s_l_caps) .none kV14 dc14 pm14 an14 cd14 ct14), sl14⟩) (c14 : PySem.W.codeIn K cd14 "_law_caps" = true) (k14 : PySem.W.keepIn K (.ref f14) = true)
    (a15 : PySem.W.nsIn K mainGlobals "_law_as" = some (some (.ref f15))) (l15 : K.lookup f15 = some ⟨oc15, od15, .func (PySem.W.fnOf "_law_as" "_law_as" (defArgs s_l_as) (defBody s_l_as) (defScope s_l_as) .none kV15 dc15 pm15 an15 cd15 ct15), sl15⟩) (c15 : PySem.W.codeIn K cd15 "_law_as" = true) (k15 : PySem.W.keepIn K (.ref f15) = true)
    (a16 : PySem.W.nsIn K mainGlobals "_law_made" = some (some (.ref f16))) (l16 : K.lookup f16 = some ⟨oc16, od16, .func (PySem.W.fnOf "_law_made" "_law_made" (defArgs s_l_made) (defBody s_l_made) (defScope s_l_made) .none kV16 dc16 pm16 an16 cd16 ct16), sl16⟩) (c16 : PySem.W.codeIn K cd16 "_law_made" = true) (k16 : PySem.W.keepIn K (.ref f16) = true)
    (a17 : PySem.W.nsIn K mainGlobals "_law_told" = some (some (.ref f17))) (l17 : K.lookup f17 = some ⟨oc17, od17, .func (PySem.W.fnOf "_law_told" "_law_told" (defArgs s_l_told) (defBody s_l_told) (defScope s_l_told) .none kV17 dc17 pm17 an17 cd17 ct17), sl17⟩) (c17 : PySem.W.codeIn K cd17 "_law_told" = true) (k17 : PySem.W.keepIn K (.ref f17) = true)
    (a18 : PySem.W.nsIn K mainGlobals "law" = some (some (.ref f18))) (l18 : K.lookup f18 = some ⟨oc18, od18, .func (PySem.W.fnOf "law" "law" (defArgs s_law) (defBody s_law) (defScope s_law) .none kV18 dc18 pm18 an18 cd18 ct18), sl18⟩) (c18 : PySem.W.codeIn K cd18 "law" = true) (k18 : PySem.W.keepIn K (.ref f18) = true)
    (fk : FrK K CF) (mk : PySem.W.makesIn K CF = true) (aI : PySem.W.findIn K (.ref CF) "__init__" = some (some (.ref fI))) (iI : PySem.W.isFn K (.ref fI) = true) (kF : PySem.W.keepIn K (.ref CF) = true)
    (lI : K.lookup fI = some ⟨ocI, odI, .func (PySem.W.fnOf "__init__" "Frame.__init__" (defArgs s_Frame_init) (defBody s_Frame_init) (defScope s_Frame_init) (.ref T0) kVI dcI pmI anI cdI ctI), slI⟩) (cI : PySem.W.codeIn K cdI "Frame.__init__" = true) (kI : PySem.W.keepIn K (.ref fI) = true)
    (lT : K.lookup T0 = some o0) (dT : o0.data = .seq ([Value.none] : List Value).toArray n0)
    (aM0 : PySem.W.findIn K (.ref CF) "rows" = some (some (.ref fM0))) (iM0 : PySem.W.isFn K (.ref fM0) = true) (lM0 : K.lookup fM0 = some ⟨ocM0, odM0, .func (PySem.W.fnOf "rows" "Frame.rows" (defArgs s_Frame_rows) (defBody s_Frame_rows) (defScope s_Frame_rows) .none kVM0 dcM0 pmM0 anM0 cdM0 ctM0), slM0⟩) (cM0 : PySem.W.codeIn K cdM0 "Frame.rows" = true) (kM0 : PySem.W.keepIn K (.ref fM0) = true)
    (aM1 : PySem.W.findIn K (.ref CF) "columns" = some (some (.ref fM1))) (iM1 : PySem.W.isFn K (.ref fM1) = true) (lM1 : K.lookup fM1 = some ⟨ocM1, odM1, .func (PySem.W.fnOf "columns" "Frame.columns" (defArgs s_Frame_columns) (defBody s_Frame_columns) (defScope s_Frame_columns) .none kVM1 dcM1 pmM1 anM1 cdM1 ctM1), slM1⟩) (cM1 : PySem.W.codeIn K cdM1 "Frame.columns" = true) (kM1 : PySem.W.keepIn K (.ref fM1) = true)
    (aM2 : PySem.W.findIn K (.ref CF) "caps" = some (some (.ref fM2))) (iM2 : PySem.W.isFn K (.ref fM2) = true) (lM2 : K.lookup fM2 = some ⟨ocM2, odM2, .func (PySem.W.fnOf "caps" "Frame.caps" (defArgs s_Frame_caps) (defBody s_Frame_caps) (defScope s_Frame_caps) .none kVM2 dcM2 pmM2 anM2 cdM2 ctM2), slM2⟩) (cM2 : PySem.W.codeIn K cdM2 "Frame.caps" = true) (kM2 : PySem.W.keepIn K (.ref fM2) = true)
    (aM3 : PySem.W.findIn K (.ref CF) "cap" = some (some (.ref fM3))) (iM3 : PySem.W.isFn K (.ref fM3) = true) (lM3 : K.lookup fM3 = some ⟨ocM3, odM3, .func (PySem.W.fnOf "cap" "Frame.cap" (defArgs s_Frame_cap) (defBody s_Frame_cap) (defScope s_Frame_cap) .none kVM3 dcM3 pmM3 anM3 cdM3 ctM3), slM3⟩) (cM3 : PySem.W.codeIn K cdM3 "Frame.cap" = true) (kM3 : PySem.W.keepIn K (.ref fM3) = true)
    (bt : PySem.W.nsIn K mainGlobals "TableError" = some (some (.ref q17))) (tt : PySem.W.typeIn K (.ref q17) = some (.type "type")) (ti : PySem.W.isClsIn K q17 = true) (tb : PySem.W.subIn K (.ref q17) (.type "BaseException") = some true)
    (e0 : ExcK K "NoSums" q0 q17)
    (e1 : ExcK K "NoCaps" q1 q17)
    (e10 : ExcK K "NoCell" q10 q17)
    (hn : PySem.W.specialIn K (.builtin "object.__class__") "__get__" = some (some (.builtin "getset_descriptor.__get__"))) (ht : PySem.W.takesIn K (.builtin "object.__class__") = some true)
    (gL : PySem.W.nsIn K mainGlobals "LONGEST" = some (some (.int 6 tL)))
    (z0 : PySem.W.nsIn K mainGlobals "isinstance" = some none) (z1 : PySem.W.nsIn K mainGlobals "len" = some none) (z2 : PySem.W.nsIn K mainGlobals "all" = some none) (z3 : PySem.W.nsIn K mainGlobals "range" = some none) (z4 : PySem.W.nsIn K mainGlobals "int" = some none) (z5 : PySem.W.nsIn K mainGlobals "bool" = some none) (z6 : PySem.W.nsIn K mainGlobals "list" = some none) (z7 : PySem.W.nsIn K mainGlobals "tuple" = some none) (z8 : PySem.W.nsIn K mainGlobals "repr" = some none) (z9 : PySem.W.nsIn K mainGlobals "max" = some none) (z10 : PySem.W.nsIn K mainGlobals "min" = some none) :
    ∃ fd : FuncData, (∀ (s : Shared) (v : Value), BindsTo s fd ⟨[v], []⟩ [("_law_script", v)]) ∧ ∀ base : Heap, K.In base → base.Ns mainGlobals mg → FnG l.prog w K mg base 9 fa fd ["_law_script"] (sp_law K) := by
  cases hfa.symm.trans (PySem.W.mg_of X G a18)
  obtain ⟨tG, hG⟩ := hG
  have T : Txt K mg (fun i => [q0, q1, 0, 0, 0, 0, 0, 0, 0, 0, q10, 0, 0, 0, 0, 0, 0, q17].getD i 0) tG tL := ⟨hG, PySem.W.mg_of X G gL, PySem.W.mg_none_of X G z0, PySem.W.mg_none_of X G z1, PySem.W.mg_none_of X G z2, PySem.W.mg_none_of X G z3, PySem.W.mg_none_of X G z4, PySem.W.mg_none_of X G z5, PySem.W.mg_none_of X G z6, PySem.W.mg_none_of X G z7, PySem.W.mg_none_of X G z8, PySem.W.mg_none_of X G z9, PySem.W.mg_none_of X G z10, e0.f X G hn ht, e1.f X G hn ht, e10.f X G hn ht⟩
  have FT : FrT K mg CF := ⟨PySem.W.mg_of X G fk.g, ⟨fk.pg, fk.hd, fk.po, fk.sa⟩, fk.nr, fk.nc, fk.nk⟩
  have F0 := fun_mk (st := s_is_whole) l0 c0 k0
  have b0 := F0.binds (ps := ["thing"]) fun _ _ _ _ _ _ us hl => match us, hl with | [_], _ => rfl
  have F1 := fun_mk (st := s_is_count) l1 c1 k1
  have b1 := F1.binds (ps := ["thing"]) fun _ _ _ _ _ _ us hl => match us, hl with | [_], _ => rfl
  have F2 := fun_mk (st := s_is_list) l2 c2 k2
  have b2 := F2.binds (ps := ["thing"]) fun _ _ _ _ _ _ us hl => match us, hl with | [_], _ => rfl
  have F3 := fun_mk (st := s_is_short_list) l3 c3 k3
  have b3 := F3.binds (ps := ["thing"]) fun _ _ _ _ _ _ us hl => match us, hl with | [_], _ => rfl
  have F4 := fun_mk (st := s_are_counts) l4 c4 k4
  have b4 := F4.binds (ps := ["thing"]) fun _ _ _ _ _ _ us hl => match us, hl with | [_], _ => rfl
  have F5 := fun_mk (st := s_wanted_sums) l5 c5 k5
  have b5 := F5.binds (ps := ["thing"]) fun _ _ _ _ _ _ us hl => match us, hl with | [_], _ => rfl
  have F6 := fun_mk (st := s_is_place) l6 c6 k6
  have b6 := F6.binds (ps := ["thing", "many"]) fun _ _ _ _ _ _ us hl => match us, hl with | [_, _], _ => rfl
  have F7 := fun_mk (st := s_is_cap) l7 c7 k7
  have b7 := F7.binds (ps := ["thing"]) fun _ _ _ _ _ _ us hl => match us, hl with | [_], _ => rfl
  have F8 := fun_mk (st := s_are_rows) l8 c8 k8
  have b8 := F8.binds (ps := ["thing", "height", "width"]) fun _ _ _ _ _ _ us hl => match us, hl with | [_, _, _], _ => rfl
  have F9 := fun_mk (st := s_wanted_caps) l9 c9 k9
  have b9 := F9.binds (ps := ["thing", "height", "width"]) fun _ _ _ _ _ _ us hl => match us, hl with | [_, _, _], _ => rfl
  have F10 := fun_mk (st := s_l_cell_at) l10 c10 k10
  have b10 := F10.binds (ps := ["_law_script", "_law_k"]) fun _ _ _ _ _ _ us hl => match us, hl with | [_, _], _ => rfl
  have F11 := fun_mk (st := s_l_tape) l11 c11 k11
  have b11 := F11.binds (ps := ["_law_cell"]) fun _ _ _ _ _ _ us hl => match us, hl with | [_], _ => rfl
  have F12 := fun_mk (st := s_l_digit) l12 c12 k12
  have b12 := F12.binds (ps := ["_law_tape_here", "_law_size"]) fun _ _ _ _ _ _ us hl => match us, hl with | [_, _], _ => rfl
  have F13 := fun_mk (st := s_l_count) l13 c13 k13
  have b13 := F13.binds (ps := ["_law_tape_here"]) fun _ _ _ _ _ _ us hl => match us, hl with | [_], _ => rfl
  have F14 := fun_mk (st := s_l_caps) l14 c14 k14
  have b14 := F14.binds (ps := ["_law_tape_here", "_law_many", "_law_wide"]) fun _ _ _ _ _ _ us hl => match us, hl with | [_, _, _], _ => rfl
  have F15 := fun_mk (st := s_l_as) l15 c15 k15
  have b15 := F15.binds (ps := ["_law_tape_here", "_law_rows"]) fun _ _ _ _ _ _ us hl => match us, hl with | [_, _], _ => rfl
  have F16 := fun_mk (st := s_l_made) l16 c16 k16
  have b16 := F16.binds (ps := ["_law_tape_here"]) fun _ _ _ _ _ _ us hl => match us, hl with | [_], _ => rfl
  have F17 := fun_mk (st := s_l_told) l17 c17 k17
  have b17 := F17.binds (ps := ["_law_frame", "_law_due"]) fun _ _ _ _ _ _ us hl => match us, hl with | [_, _], _ => rfl
  have F18 := fun_mk (st := s_law) l18 c18 k18
  have M0 := fun_mk (st := s_Frame_rows) lM0 cM0 kM0
  have mb0 := M0.binds (ps := ["self"]) fun _ _ _ _ _ _ us hl => match us, hl with | [_], _ => rfl
  have M1 := fun_mk (st := s_Frame_columns) lM1 cM1 kM1
  have mb1 := M1.binds (ps := ["self"]) fun _ _ _ _ _ _ us hl => match us, hl with | [_], _ => rfl
  have M2 := fun_mk (st := s_Frame_caps) lM2 cM2 kM2
  have mb2 := M2.binds (ps := ["self"]) fun _ _ _ _ _ _ us hl => match us, hl with | [_], _ => rfl
  have M3 := fun_mk (st := s_Frame_cap) lM3 cM3 kM3
  have mb3 := M3.binds (ps := ["self", "row", "column"]) fun _ _ _ _ _ _ us hl => match us, hl with | [_, _, _], _ => rfl
  have FI : FunD K "__init__" "Frame.__init__" (defArgs s_Frame_init) (defBody s_Frame_init) (defScope s_Frame_init) [V.non] [] fI (PySem.W.fnOf "__init__" "Frame.__init__" (defArgs s_Frame_init) (defBody s_Frame_init) (defScope s_Frame_init) (.ref T0) kVI dcI pmI anI cdI ctI) :=
    ⟨⟨ocI, odI, .ref T0, kVI, dcI, pmI, anI, cdI, ctI, slI, rfl, lI, cI, .inr ⟨by simp, T0, _, [.none], n0, rfl, lT, dT, .cons rfl .nil⟩, .inl rfl⟩, kI⟩
  obtain ⟨ds, dD, bD⟩ := FI.binds1 (ps := ["self", "rows", "columns", "caps"]) 3 0 (by simp) rfl fun T kV doc pm an cdv ct us its h1 h2 => match us, its, h1, h2 with | [_, _, _], [_], _, _ => ⟨_, rfl, rfl⟩
  obtain ⟨ds4, dA, bA⟩ := FI.binds1 (ps := ["self", "rows", "columns", "caps"]) 4 1 (by simp) rfl fun T kV doc pm an cdv ct us its h1 h2 => match us, its, h1, h2 with | [_, _, _, _], [_], _, _ => ⟨_, rfl, rfl⟩
  obtain rfl : ds4 = [] := by cases dA; rfl
  obtain ⟨itk, kb⟩ := FI.kbindsD (ps := ["self", "rows", "columns", "caps"]) 3 ["caps"] (fun us _ ws => us ++ ws) (by simp) (fun a _ b => a.append b) fun T kV doc pm an cdv ct us its ws h1 h2 h3 => match us, its, ws, h1, h2, h3 with | [_, _, _], [_], [_], _, _, _ => ⟨_, rfl, rfl⟩
  refine ⟨PySem.W.fnOf "law" "law" (defArgs s_law) (defBody s_law) (defScope s_law) .none kV18 dc18 pm18 an18 cd18 ct18, fun s v => .of_eq rfl, fun base _ _ => ?_⟩
  have c_is_whole : Cal l.prog w K mg base CX0 1 "is_whole" ["thing"] (sp_is_whole K) := ⟨_, _, PySem.W.mg_of X G a0, k0, b0, ok_is_whole F0 T⟩
  have c_is_count : Cal l.prog w K mg base CX0 2 "is_count" ["thing"] (sp_is_count K) := ⟨_, _, PySem.W.mg_of X G a1, k1, b1, ok_is_count F1 T c_is_whole⟩
  have c_is_list : Cal l.prog w K mg base CX0 1 "is_list" ["thing"] (sp_is_list K) := ⟨_, _, PySem.W.mg_of X G a2, k2, b2, ok_is_list F2 T⟩
  have c_is_short_list : Cal l.prog w K mg base CX0 2 "is_short_list" ["thing"] (sp_is_short_list K) := ⟨_, _, PySem.W.mg_of X G a3, k3, b3, ok_is_short_list F3 T c_is_list⟩
  have c_are_counts : Cal l.prog w K mg base CX0 3 "are_counts" ["thing"] (sp_are_counts K) := ⟨_, _, PySem.W.mg_of X G a4, k4, b4, ok_are_counts F4 T c_is_short_list c_is_count⟩
  have c_wanted_sums : Cal l.prog w K mg base (L2.CX l.prog w) 4 "wanted_sums" ["thing"] (sp_wanted_sums K q0) := ⟨_, _, PySem.W.mg_of X G a5, k5, b5, ok_wanted_sums F5 T c_are_counts⟩
  have c_is_place : Cal l.prog w K mg base CX0 2 "is_place" ["thing", "many"] (sp_is_place K) := ⟨_, _, PySem.W.mg_of X G a6, k6, b6, ok_is_place F6 T c_is_whole⟩
  have c_is_cap : Cal l.prog w K mg base CX0 3 "is_cap" ["thing"] (sp_is_cap K) := ⟨_, _, PySem.W.mg_of X G a7, k7, b7, ok_is_cap F7 T c_is_count⟩
  have c_are_rows : Cal l.prog w K mg base CX0 2 "are_rows" ["thing", "height", "width"] (sp_are_rows K) := ⟨_, _, PySem.W.mg_of X G a8, k8, b8, ok_are_rows F8 T c_is_list⟩
  have c_wanted_caps : Cal l.prog w K mg base (L2.CX l.prog w) 5 "wanted_caps" ["thing", "height", "width"] (sp_wanted_caps K q1) := ⟨_, _, PySem.W.mg_of X G a9, k9, b9, ok_wanted_caps F9 T c_are_rows c_is_cap⟩
  have GI := ok_initF (P := l.prog) (w := w) (base := base) FI T FT c_wanted_sums c_wanted_caps
  have c_Frame_rows : Mth l.prog w K mg base CX0 1 CF "rows" ["self"] (sp_rows K CF) := ⟨FT.cl, _, _, ⟨aM0, iM0, kM0⟩, mb0, ok_rows M0 T FT⟩
  have c_Frame_columns : Mth l.prog w K mg base CX0 1 CF "columns" ["self"] (sp_columns K CF) := ⟨FT.cl, _, _, ⟨aM1, iM1, kM1⟩, mb1, ok_columns M1 T FT⟩
  have c_Frame_caps : Mth l.prog w K mg base CX0 1 CF "caps" ["self"] (sp_caps K CF) := ⟨FT.cl, _, _, ⟨aM2, iM2, kM2⟩, mb2, ok_caps M2 T FT⟩
  have c_Frame_cap : Mth l.prog w K mg base (L2.CX l.prog w) 3 CF "cap" ["self", "row", "column"] (sp_cap K CF (fun i => [q0, q1, 0, 0, 0, 0, 0, 0, 0, 0, q10, 0, 0, 0, 0, 0, 0, q17].getD i 0)) := ⟨FT.cl, _, _, ⟨aM3, iM3, kM3⟩, mb3, ok_cap M3 T FT c_is_place⟩
  have c_l_cell_at : Cal l.prog w K mg base CX0 1 "_law_cell_at" ["_law_script", "_law_k"] (sp_cell_at K) := ⟨_, _, PySem.W.mg_of X G a10, k10, b10, ok_cell_at F10 T⟩
  have c_l_tape : Cal l.prog w K mg base CX0 1 "_law_tape" ["_law_cell"] sp_tape := ⟨_, _, PySem.W.mg_of X G a11, k11, b11, ok_tape F11 T⟩
  have c_l_digit : Cal l.prog w K mg base CX0 1 "_law_digit" ["_law_tape_here", "_law_size"] sp_digit := ⟨_, _, PySem.W.mg_of X G a12, k12, b12, ok_digit F12 T⟩
  have c_l_count : Cal l.prog w K mg base CX0 2 "_law_count" ["_law_tape_here"] sp_count := ⟨_, _, PySem.W.mg_of X G a13, k13, b13, ok_count F13 T c_l_digit⟩
  have c_l_caps : Cal l.prog w K mg base CX0 3 "_law_caps" ["_law_tape_here", "_law_many", "_law_wide"] sp_lcaps := ⟨_, _, PySem.W.mg_of X G a14, k14, b14, ok_lcaps F14 T c_l_digit c_l_count⟩
  have c_l_as : Cal l.prog w K mg base CX0 2 "_law_as" ["_law_tape_here", "_law_rows"] (sp_as K) := ⟨_, _, PySem.W.mg_of X G a15, k15, b15, ok_as F15 T c_l_digit⟩
  have c_l_made : CalG l.prog w K mg base 8 "_law_made" ["_law_tape_here"] (sp_made K CF) := ⟨_, _, PySem.W.mg_of X G a16, k16, b16, ok_lmade F16 T FT ⟨mk, aI, iI, kF⟩ GI bD dD bA kb c_l_digit c_l_count c_l_caps c_l_as⟩
  have c_l_told : CalG l.prog w K mg base 4 "_law_told" ["_law_frame", "_law_due"] (sp_told K CF) := ⟨_, _, PySem.W.mg_of X G a17, k17, b17, ok_told F17 T c_Frame_rows c_Frame_columns c_Frame_caps c_Frame_cap⟩
  exact ok_law F18 T c_l_cell_at c_l_tape c_l_made c_l_told
end Kp11
set_option Elab.async false
open PySem PySem.W PyProof.Rows
set_option maxRecDepth 100000 in
set_option maxHeartbeats 0 in
theorem PySem.Challenge.cw_exacttable_k11_frames_told_back_holds : PySem.Challenge.rw_exacttable_k11_frames_told_back.Holds := by
  w_on; o_law; k_head; (case hw => w_witness2)
  k_fill
  refine Vf.walk_ofR (l := PySem.Challenge.rw_exacttable_k11_frames_told_back) (n := 63) (k := 9) (x := "_law_script") (sp := fun w => Kp11.sp_law _) rfl (by decide) rfl ⟨⟨rfl, by decide, by decide⟩, rfl⟩ (fun w h Y => PySem.W.kIn_of Y) ?F (fun _ _ a ns _ _ hS => ⟨a, ns, rfl, hS, fun _ => rfl⟩)
  case F =>
    intro w mg fa h KX G LL hmg
    refine' Kp11.all_mk KX G hmg (Vf.loose_int LL (List.mem_cons_self ..)) ?a0 ?l0 ?c0 ?k0 ?a1 ?l1 ?c1 ?k1 ?a2 ?l2 ?c2 ?k2 ?a3 ?l3 ?c3 ?k3 ?a4 ?l4 ?c4 ?k4 ?a5 ?l5 ?c5 ?k5 ?a6 ?l6 ?c6 ?k6 ?a7 ?l7 ?c7 ?k7 ?a8 ?l8 ?c8 ?k8 ?a9 ?l9 ?c9 ?k9 ?a10 ?l10 ?c10 ?k10 ?a11 ?l11 ?c11 ?k11 ?a12 ?l12 ?c12 ?k12 ?a13 ?l13 ?c13 ?k13 ?a14 ?l14 ?c14 ?k14 ?a15 ?l15 ?c15 ?k15 ?a16 ?l16 ?c16 ?k16 ?a17 ?l17 ?c17 ?k17 ?a18 ?l18 ?c18 ?k18 ?fk ?mk ?aI ?iI ?kF ?lI ?cI ?kI ?lT ?dT ?aM0 ?iM0 ?lM0 ?cM0 ?kM0 ?aM1 ?iM1 ?lM1 ?cM1 ?kM1 ?aM2 ?iM2 ?lM2 ?cM2 ?kM2 ?aM3 ?iM3 ?lM3 ?cM3 ?kM3 ?bt ?tt ?ti ?tb ?e0 ?e1 ?e10 ?hn ?ht ?gL ?z0 ?z1 ?z2 ?z3 ?z4 ?z5 ?z6 ?z7 ?z8 ?z9 ?z10
    (case a0 => k_is)
    (case l0 => k_is)
    (case c0 => k_is)
    (case k0 => k_is)
    (case a1 => k_is)
    (case l1 => k_is)
    (case c1 => k_is)
    (case k1 => k_is)
    (case a2 => k_is)
    (case l2 => k_is)
    (case c2 => k_is)
    (case k2 => k_is)
    (case a3 => k_is)
    (case l3 => k_is)
    (case c3 => k_is)
    (case k3 => k_is)
    (case a4 => k_is)
    (case l4 => k_is)
    (case c4 => k_is)
    (case k4 => k_is)
    (case a5 => k_is)
    (case l5 => k_is)
    (case c5 => k_is)
    (case k5 => k_is)
    (case a6 => k_is)
    (case l6 => k_is)
    (case c6 => k_is)
    (case k6 => k_is)
    (case a7 => k_is)
    (case l7 => k_is)
    (case c7 => k_is)
    (case k7 => k_is)
    (case a8 => k_is)
    (case l8 => k_is)
    (case c8 => k_is)
    (case k8 => k_is)
    (case a9 => k_is)
    (case l9 => k_is)
    (case c9 => k_is)
    (case k9 => k_is)
    (case a10 => k_is)
    (case l10 => k_is)
    (case c10 => k_is)
    (case k10 => k_is)
    (case a11 => k_is)
    (case l11 => k_is)
    (case c11 => k_is)
    (case k11 => k_is)
    (case a12 => k_is)
    (case l12 => k_is)
    (case c12 => k_is)
    (case k12 => k_is)
    (case a13 => k_is)
    (case l13 => k_is)
    (case c13 => k_is)
    (case k13 => k_is)
    (case a14 => k_is)
    (case l14 => k_is)
    (case c14 => k_is)
    (case k14 => k_is)
    (case a15 => k_is)
    (case l15 => k_is)
    (case c15 => k_is)
    (case k15 => k_is)
    (case a16 => k_is)
    (case l16 => k_is)
    (case c16 => k_is)
    (case k16 => k_is)
    (case a17 => k_is)
    (case l17 => k_is)
    (case c17 => k_is)
    (case k17 => k_is)
    (case a18 => k_is)
    (case l18 => k_is)
    (case c18 => k_is)
    (case k18 => k_is)
    (case fk => constructor <;> k_is)
    (case mk => k_is)
    (case aI => k_is)
    (case iI => k_is)
    (case kF => k_is)
    (case lI => k_is)
    (case cI => k_is)
    (case kI => k_is)
    (case lT => k_is)
    (case dT => rfl)
    (case aM0 => k_is)
    (case iM0 => k_is)
    (case lM0 => k_is)
    (case cM0 => k_is)
    (case kM0 => k_is)
    (case aM1 => k_is)
    (case iM1 => k_is)
    (case lM1 => k_is)
    (case cM1 => k_is)
    (case kM1 => k_is)
    (case aM2 => k_is)
    (case iM2 => k_is)
    (case lM2 => k_is)
    (case cM2 => k_is)
    (case kM2 => k_is)
    (case aM3 => k_is)
    (case iM3 => k_is)
    (case lM3 => k_is)
    (case cM3 => k_is)
    (case kM3 => k_is)
    (case bt => k_is)
    (case tt => k_is)
    (case ti => k_is)
    (case tb => k_is)
    (case e0 => constructor; k_is; k_exc; k_is; k_is; k_is; k_is; k_is; k_is; k_is; k_is; exact ⟨_, by k_is, rfl⟩)
    (case e1 => constructor; k_is; k_exc; k_is; k_is; k_is; k_is; k_is; k_is; k_is; k_is; exact ⟨_, by k_is, rfl⟩)
    (case e10 => constructor; k_is; k_exc; k_is; k_is; k_is; k_is; k_is; k_is; k_is; k_is; exact ⟨_, by k_is, rfl⟩)
    (case hn => k_is)
    (case ht => k_is)
    (case gL => k_is)
    (case z0 => k_is)
    (case z1 => k_is)
    (case z2 => k_is)
    (case z3 => k_is)
    (case z4 => k_is)
    (case z5 => k_is)
    (case z6 => k_is)
    (case z7 => k_is)
    (case z8 => k_is)
    (case z9 => k_is)
    (case z10 => k_is)
