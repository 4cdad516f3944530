import PyProof.Rows.All
import Wide.All
import OpenK.AllK
import Wide.FinOn
import HandS.ForMost
import HandS.Exc
import HandS.ExcValue
import HandS.ExcField
import HandS.ExcIs
import HandS.IsInst
import HandS.Lambda
import HandS.EndTab
import HandS.Wide
import HandS.WideBits
import HandS.RaiseMore
import HandS.WordsList
import HandS.WordsExc
import HandS.ExcInit
import PyProof.ReprRoads
import HandS.EndBits
import HandS.FStrTup
import HandS.IterVal
import KE.KMathGC
import HandS.Gcd
import PyProof.Rows.RegReprOcc
import HandS.Conv
import HandS.Codes
import HandS.Style
import HandS.ForDict
import KE.KNestM
import PySem.Challenge.RW_oneflip_k40_room_of_stores
set_option Elab.async false
set_option linter.all false
set_option maxRecDepth 100000
set_option maxHeartbeats 2000000
/-! Errors that are caught and kept: an exception object behind its suite. -/
namespace OB
open PySem PySem.Spec PyProof.Rows L2

section kit
open PySem.W PySem.Calls
variable {prog : Program} {w : World} {A : Around} {E : Value → Shared → Prop} {s : Shared} {K : Frag} {x D : Addr} {ox : Obj} {od : Option Obj}
theorem cls_data (hc : (clsIn K D).isSome = true) {nm : Str} {a g : Value} (ha : findIn K (.ref D) nm = some (some a)) (hg : specialIn K a "__get__" = some (some g)) (ht : takesIn K a = some true) :
    findObj K D od nm = some (.bind g a) := by
  cases e : clsIn K D with
  | none => rw [e] at hc; cases hc
  | some cd =>
    unfold findObj
    simp [e, ha, hg, ht]
/-- the class of an exception with or without a dict of its own -/
theorem exc_class {Q : Option Value → Shared → Prop} (C : ExcC K D) (X : K.In s.heap) (I : InstAt s.heap x ox D od) (k : Q (some (.ref D)) { s with toks := s.toks + 1 }) :
    wpAny (model prog w) A (getAttr? (.ref x) "__class__") Q E s := by
  have found : findObj K D od "__class__" = some (.bind (.builtin "getset_descriptor.__get__") (.builtin "object.__class__")) :=
    cls_data (by obtain ⟨cd, e, _⟩ := any_some C.hd; simp [e]) C.ha C.hn C.ht
  obtain ⟨h0, g0, d0, t0, o0⟩ := s
  have ty0 := I.type (M := model prog w)
  have own := looks_findIn (M := model prog w) X C.hg
  have gat := looks_findIn (M := model prog w) X C.hk
  have fnd := looks_find (M := model prog w) X I found
  have isE : Looks (model prog w) h0 (isInstance (.ref x) (.type "BaseException")) true := ty0.andThen (looks_subIn X C.hs)
  have q2 : (Value.builtin "BaseException.__getattribute__" == Value.builtin "object.__getattribute__") = false := by decide +kernel
  have q1 : (onTheHeap (Value.ref D) && Value.builtin "BaseException.__getattribute__" == Value.builtin "object.__getattribute__") = false := by
    rw [q2, Bool.and_false]
  unfold getAttr? getAttrBy? getAttrBy
  refine wpAny_bind (wpAny_mkText (wpAny_bind (wpAny_attempt (wpAny_holding (wpAny_bind (ty0.at (wpAny_bind (own.at ?_))))))))
  dsimp only
  rw [q1]
  unfold getAttrByItsOwn hookBefore
  simp only [Bool.false_eq_true, if_false]
  refine wpAny_bind ?_
  rw [if_pos (show onTheHeap (Value.ref D) = true from rfl)]
  refine gat.at ?_
  refine wpAny_bind (wpAny_attempt (wpAny_holding ?_))
  unfold callGetattribute
  rw [if_neg (by decide)]
  unfold boundAndCalled
  rw [PySem.F.excAttr_ValueError.ga.bind (.ref x)]
  refine wpAny_bind (wpAny_pure ?_)
  refine wpAny_call (codeAny_call_builtin PySem.F.excAttr_ValueError.ga.plain PySem.F.entry_bexc_ga ?_)
  refine @check_slot (model prog w) _ _ ⟨h0, g0, d0, t0 + 1, o0⟩ "BaseException.__getattribute__" "BaseException" "__getattribute__" (.ref x) [.str "__class__" t0] [] _ (by decide +kernel) (by decide +kernel) isE
    (PySem.F.args_bexc_ga (.ref x) (.str "__class__" t0)) ?_
  unfold Builtin.«object.__getattribute__»
  refine wpAny_bind (wpAny_of_eq (a := ((Value.ref x : Value), [Value.str "__class__" t0])) (by first | rfl | (simp only [slotArgs]; rfl)) ?_)
  refine wpAny_bind (wpAny_pure (wpAny_bind (ty0.at (wpAny_bind (fnd.at ?_)))))
  dsimp only
  refine wpAny_bind (wpAny_holding (wpAny_call (class_get (s := ⟨h0, g0, d0, t0 + 1, o0⟩) (ox := ox) (od := od) X I C.hm ?_)))
  refine wpAny_pure ?_
  show wpAny _ _ (handedOut (.ref D)) _ _ _
  rw [handedOut_of (v := .ref D) rfl]
  first
    | exact wpAny_pure (wpAny_pure k)
    | exact wpAny_pure k
    | exact wpAny_pure (wpAny_bind (wpAny_pure (wpAny_pure k)))
theorem exc_kit (C : ExcC K D) : KitX K (.ref x) (.ref D) (fun h => InstAt h x ox D od) := by
  obtain ⟨cd, hcd, _⟩ := any_some C.hd
  unfold clsIn at hcd
  split at hcd
  · rename_i c1 d1 cd1 sl1 look
    refine ⟨fun _ _ _ I => I.type, fun M h X _ A' Q' E' s' keep q => ?_, fun h tp dd its n sl X htp => ?_, fun X I k => exc_class C X I k⟩
    · unfold isType loadHead
      exact wpAny_bind (wpAny_loadPart (keep _ _ (X _ _ look)) (wpAny_pure q))
    · cases e : (Value.ref D == Value.ref tp) with
      | false => rfl
      | true =>
        have e2 : D = tp := Value.ref.inj (beq_iff_eq.mp e)
        rw [← e2] at htp
        have z := (X _ _ look).symm.trans htp
        cases z
  · cases hcd
end kit

/-- an exception object that is kept: its class, its own dict -/
def ExA (cls : Value) (d : Option Addr) (a : Addr) : HO := .ext fun h => ∃ (oe : Obj) (vs : Array Value), h.get? a = some oe ∧ Zc cls d oe ∧ oe.data = .fields vs
theorem exA_ok {P : Program} {w : World} {H : Hp} {h : Heap} {a : Addr} {cls : Value} {d : Option Addr} {oe : Obj} {vs : Array Value} (e : h.get? a = some oe) (z : Zc cls d oe) (f : oe.data = .fields vs) : ObjOk P w H h a (ExA cls d a) :=
  ⟨⟨oe, vs, e, z, f⟩, ⟨oe, e⟩, fun _ _ ⟨o, v, q, r⟩ k => ⟨o, v, k o q, r⟩⟩
theorem exA_at {P : Program} {w : World} {H : Hp} {h : Heap} {a : Addr} {cls : Value} {d : Option Addr} (ok : HOk P w H h) (e : H a = some (ExA cls d a)) : ∃ (oe : Obj) (vs : Array Value), h.get? a = some oe ∧ Zc cls d oe ∧ oe.data = .fields vs := by
  have z : ObjOk P w H h a (ExA cls d a) := ok a _ e
  exact z.1

section
variable {X : Cx} {pins : List (Addr × Obj)} {σ : L2.St} {H : Hp} {s : Shared}
/-- an object that came behind the entry is tracked from now on -/
theorem track {a : Addr} {o : HO} (I : Inv X pins σ H s) (hn : H a = none) (h0 : X.s_0.heap.get? a = none) (nL : a ≠ X.env.locals) (nC : ∀ x c, X.env.cells.lookup x = some c → c ≠ a)
    (nP : ∀ p ∈ X.pn ++ pins, p.1 ≠ a) (new : ObjOk X.prog X.w (upd H a o) s.heap a o) : Inv X pins σ (upd H a o) s := by
  have ne : ∀ {b u}, X.s_0.heap.get? b = some u → b ≠ a := fun {b u} e z => by
    rw [z, h0] at e
    cases e
  refine ⟨I.ok, I.os, I.bare, ⟨I.base.keep, I.base.slot, fun b u e n hx => ?_, I.base.there, fun b xs e => ?_, fun b u v e => ?_, fun b ps e => ?_⟩, I.loc, I.cell, ?_, fun x c e => ?_, fun p hp => ?_, ?_, I.len⟩
  · rw [upd_ne (ne e)]
    exact I.base.free b u e n hx
  · have q := I.base.tups b xs e
    rw [upd_ne (ne_of_none q hn)]
    exact q
  · have q := I.base.frzs b u v e
    rw [upd_ne (ne_of_none q hn)]
    exact q
  · obtain ⟨m, q⟩ := I.base.tbls b ps e
    exact ⟨m, by rw [upd_ne (ne_of_none q hn)]; exact q⟩
  · rw [upd_ne (Ne.symm nL)]
    exact I.free
  · rw [upd_ne (nC x c e)]
    exact I.freeC x c e
  · obtain ⟨e, n, r1, r2, r3⟩ := I.pin p hp
    exact ⟨e, by rw [upd_ne (nP p hp)]; exact n, r1, r2, r3⟩
  · exact I.hok.laidN (fun _ _ e => e) hn new
end

/-- what 'except x as n: kept = n' wishes: behind it slot j holds the exception, which is tracked -/
def wKeep (K : PySem.W.Frag) (c : Value) (i j : Nat) (Wout : WX) (D : Ends) : WX := fun cls d σ H =>
  ∃ b, PySem.W.exmOne K cls c = some b ∧
    (b = true → ∀ a, H a = none → D.nx (((σ.set i (some (.ref a))).set j (some (.ref a))).set i none) (upd H a (ExA cls d a))) ∧ (b = false → Wout cls d σ H)

section
variable {X : Cx} {x n m : Str} {c : Value} {i j : Nat} {body : List Stmt} {np pos pos' p1 p2 p3 : Pos} {tb : WX → TS} {Wout : WX}
theorem ps_try_keep (hs : X.stack = X.env :: X.outer) (hf : X.env.frame = some X.env.locals) (hx : X.ex = []) (hN : X.N.Nodup) (hi : X.N[i]? = some n) (hln : X.env.kindOf n = some .local)
    (hj : X.N[j]? = some m) (hlm : X.env.scope.names.lookup m = some .local) (hc : Names X x c) (tk : Takes X Wout)
    (hb : ∀ (W : WX) (pn : List (Addr × Obj)) (xe : Value → Shared → Prop), Takes (X.tr pn xe) W → PassesOwn (model X.prog X.w) X.A X.env xe → PSs (X.tr pn xe) body (tb W))
    (hdn : (n == ("__debug__" : Str)) = false := by decide) (hcn : (n == ("__classdict__" : Str)) = false := by decide)
    (hsw : ∀ env : Env, swapsWith (.Name n p2) (some (.Name m p1)) p3.line env = pure false := by intro _; rfl) :
    PS X (.Try body [.ExceptHandler (some (.Name x np)) (some n) [.Assign [.Name m p1] (.Name n p2) p3] pos'] [] [] pos) (fun D σ H => tb (wKeep X.K c i j Wout D) D σ H) := by
  refine ⟨fun pins s σ H D I h => ?_⟩
  have okX := I.ok
  have frames : X.A.frames = some (X.env :: X.outer) := by rw [okX.frames, hs]
  have lj : Loc X.env.scope m := .inl hlm
  refine wpAny_Try_except ?_
  have run := (hb (wKeep X.K c i j Wout D) (X.pn ++ pins) (fun e s₁ => wpAny (model X.prog X.w) X.A (noteFrame e X.env)
    (fun _ s₂ => wpAny (model X.prog X.w) X.A (setFlight e none)
      (fun _ s₃ => wpAny (model X.prog X.w) X.A (handleBy e X.env [.ExceptHandler (some (.Name x np)) (some n) [.Assign [.Name m p1] (.Name n p2) p3] pos']) (SP X pins D) X.xe s₃) X.xe s₂) X.xe s₁)
    (fun u s' air => ?_) PassesOwn.looking).run [] s σ H D (I.toTry _) h
  · refine wpAny_mono run (fun f s1 end1 => ?_) (fun _ _ z => z)
    cases f with
    | next =>
      obtain ⟨σ1, H1, J1, q⟩ := end1
      exact wpAny_execs_nil ⟨σ1, H1, J1.ofTry okX, q⟩
    | ret u =>
      obtain ⟨v, σ1, H1, J1, r, q⟩ := end1
      exact ⟨v, σ1, H1, J1.ofTry okX, r, q⟩
    | brk =>
      obtain ⟨σ1, H1, J1, q⟩ := end1
      exact ⟨σ1, H1, J1.ofTry okX, q⟩
    | cont =>
      obtain ⟨σ1, H1, J1, q⟩ := end1
      exact ⟨σ1, H1, J1.ofTry okX, q⟩
  · obtain ⟨a, B, sI, pins1, σ1, H1, cls, d, rfl, J0, ground, up0, sky, na, os1, bare1, b, hb1, yes, no⟩ := air
    have J : Inv X pins σ1 H1 sI := J0.ofTry okX
    have skyX : Sky B (X.env :: X.outer) a (Zc cls d) X.env.locals s'.heap := by
      rw [← hs]
      exact sky
    have Ba : B.get? a = none := by
      rcases skyX with ⟨_, z, _⟩ | ⟨_, z, _⟩ | ⟨_, z, _⟩ <;> exact z
    show wpAny (model X.prog X.w) X.A (noteFrame (.ref a) X.env) _ _ _
    refine Sky.land Zc.steady frames hf skyX fun h3 fl3 up3 => ?_
    have J3 : Inv X pins σ1 H1 { s' with heap := h3 } := J.landed ground fl3.1 (up0.trans up3) os1 bare1
    obtain ⟨oe3, vs3, he3, hz3, hd3⟩ := fl3.there
    have off : a ∉ frs (X.env :: X.outer) := fun hm => by
      obtain ⟨_, o', e', hnf⟩ := fl3.2.2.1.mem hm
      rw [he3] at e'
      cases e'
      exact hnf _ hd3
    have sIa : sI.heap.get? a = none := by
      cases e : sI.heap.get? a with
      | none => rfl
      | some o =>
        have z := ground a o e (by rw [hs]; exact off)
        rw [Ba] at z
        cases z
    have s0a : X.s_0.heap.get? a = none := by
      cases e : X.s_0.heap.get? a with
      | none => rfl
      | some o =>
        obtain ⟨o', z⟩ := J.base.there a o e (by rw [hx]; exact fun z => nomatch z)
        rw [sIa] at z
        cases z
    have nL : a ≠ X.env.locals := fun z => off (List.mem_filterMap.mpr ⟨X.env, List.mem_cons_self, by rw [hf, z]⟩)
    have nF : a ∉ X.fs := fun hm => by
      obtain ⟨e, he, q⟩ := List.mem_filterMap.mp hm
      exact off (List.mem_filterMap.mpr ⟨e, List.mem_cons_of_mem _ he, q⟩)
    have nC : ∀ y k, X.env.cells.lookup y = some k → k ≠ a := fun y k e z => by
      obtain ⟨v, o, ho, _⟩ := J.cell y k e
      rw [z, sIa] at ho
      cases ho
    have nP : ∀ p ∈ X.pn ++ pins, p.1 ≠ a := fun p hp z => by
      have q := (J.pin p hp).1
      rw [z, sIa] at q
      cases q
    have S3 := J3.suite he3 hd3 na nL nF
    refine wpAny_handleBy_cons (codeAny_handlers_test ?_) (by intro q; cases q)
    have LT : PySem.W.Looks (model X.prog X.w) h3 (typeOf (.ref a)) cls := fun A Q E s k q => wpAny_typeOf_ref (k _ _ he3) (by rw [hz3.1]; exact q)
    have LM := PySem.W.exm_one (M := model X.prog X.w) (J3.kIn) LT hb1
    have named : ∀ {Q : Value → Shared → Prop} {E : Value → Shared → Prop}, Q c { s' with heap := h3 } →
        wpAny (model X.prog X.w) (X.A.mark (some (.ref a))) (eval (.Name x np) X.env) Q E { s' with heap := h3 } := fun {Q E} q => by
      obtain ⟨hg, hdbg, hm | ⟨hm, hv, hnn⟩⟩ := hc
      · exact ld_glob (X := X.suite a ((a, oe3) :: (X.pn ++ pins))) S3 hg hm q hdbg
      · exact ld_blt (X := X.suite a ((a, oe3) :: (X.pn ++ pins))) S3 hg hm hv q hnn hdbg
    refine named (LM.here ?_)
    cases b with
    | true =>
      refine codeAny_handlers_suite_as ?_
      refine HandSPX.lands_againZ fl3 fun h4 fl4 up4 => ?_
      have J4 : Inv X pins σ1 H1 { s' with heap := h4 } := J.landed ground fl4.1 ((up0.trans up3).trans up4) os1 bare1
      obtain ⟨oe4, vs4, he4, hz4, hd4⟩ := fl4.there
      have S4 := J4.suite he4 hd4 na nL nF
      refine store_ok (X := X.suite a ((a, oe4) :: (X.pn ++ pins))) (v := .ref a) S4 hN hi (.inl hln) rfl (fun s5 S5 => ?_) (.inr hln)
      have hiσ : i < σ1.length := by
        rw [J.len]
        exact (List.getElem?_eq_some_iff.mp hi).1
      have kept := pss_one (ps_set (X := X.suite a ((a, oe4) :: (X.pn ++ pins))) (pos := p3) (pos' := p1) hN hj lj (pe_var (X := X.suite a ((a, oe4) :: (X.pn ++ pins))) (pos := p2) hi (.inl hln) hdn hcn) (hsw _) (.inr hlm))
      refine wpAny_mono (kept.run [] s5 _ H1 { nx := fun σ' H' => H' = H1 ∧ σ' = (σ1.set i (some (.ref a))).set j (some (.ref a)), rt := fun _ _ => False, bk := fun _ _ => False, ct := fun _ _ => False } S5
        ⟨.ref a, by rw [List.getElem?_set_self hiσ], rfl, rfl⟩) (fun f s6 end6 => ?_) (fun _ _ z => False.elim z)
      cases f with
      | next =>
        obtain ⟨σ6, H6, S6, e6, e7⟩ := end6
        subst e6 e7
        have at6 := (S6.pin (a, oe4) (List.mem_append_left _ List.mem_cons_self)).1
        have J6 : Inv X pins _ H6 s6 := S6.unsuite okX
        have J7 := track (o := ExA cls d a) J6 na s0a nL nC nP (exA_ok at6 hz4 hd4)
        exact gone_ok J7 hN hi hln fun s8 J8 => ⟨_, _, J8, yes rfl a na⟩
      | ret u =>
        obtain ⟨_, _, _, _, _, z⟩ := end6
        exact z.elim
      | brk =>
        obtain ⟨_, _, _, z⟩ := end6
        exact z.elim
      | cont =>
        obtain ⟨_, _, _, z⟩ := end6
        exact z.elim
    | false =>
      show wpAny _ X.A (handleBy (.ref a) X.env []) _ _ _
      refine wpAny_handleBy_nil ?_
      obtain ⟨k1, k2, k3, oe, vs, T, oT, ts', he, hz, hd, h1, hr⟩ := id fl3
      unfold PySem.passOn
      refine wpAny_bind (wpAny_field he hd h1 ?_)
      rw [if_neg (by simp)]
      have out : wpAny (model X.prog X.w) X.A (setFlight (.ref a) X.env.frame) (fun _ s4 => wpAny (model X.prog X.w) X.A (throw (.ref a) : Sem Flow) (SP X pins D) X.xe s4) X.xe { s' with heap := h3 } := by
        rw [hf]
        refine HandSPX.setFlight_upZ fl3 fun h4 hh4 up4 => wpAny_throw (tk _ _ ?_)
        exact ⟨a, B, sI, pins, σ1, H1, cls, d, rfl, J, ground, (up0.trans up3).trans up4, .inr (.inr (by rw [hs]; exact hh4)), na, os1, bare1, no rfl⟩
      first
        | exact wpAny_bind (wpAny_pure (wpAny_bind out))
        | exact wpAny_bind out
end

/-- isinstance(e, c), e an exception that is kept -/
def rIsX (K : PySem.W.Frag) : List V → Hp → VK → Prop := fun xs H Q => ∃ (a D : Addr) (d : Option Addr) (c : V) (u : Value) (b : Bool), xs = [.ref a, c] ∧ ExcC K D ∧ H a = some (ExA (.ref D) d a) ∧ (∀ dd, d = some dd → ∃ fs, H dd = some (.xd fs)) ∧ ClsV c u ∧ PySem.W.kitOne K (.ref D) u = some b ∧ Q (.bl b) H
theorem inst_at {X : Cx} {pins : List (Addr × Obj)} {σ : L2.St} {H : Hp} {s : Shared} {a D : Addr} {d : Option Addr} (I : Inv X pins σ H s) (ha : H a = some (ExA (.ref D) d a)) (hd : ∀ dd, d = some dd → ∃ fs, H dd = some (.xd fs)) :
    ∃ oe od, PySem.W.InstAt s.heap a oe D od := by
  obtain ⟨oe, vs, e, ⟨z1, z2⟩, f⟩ := exA_at I.hok ha
  obtain ⟨oc, odd, oda, osl⟩ := oe
  dsimp only at z1 z2 f
  subst z1 z2 f
  cases odd with
  | none => exact ⟨_, none, e, rfl, rfl, trivial⟩
  | some dd =>
    obtain ⟨fs, hfs⟩ := hd dd rfl
    obtain ⟨mA, hns, _⟩ := (show ObjOk X.prog X.w H s.heap dd (.xd fs) from I.hok dd _ hfs)
    obtain ⟨od, ho, _⟩ := lookIn_ns hns
    exact ⟨_, some od, e, rfl, rfl, ho⟩
theorem call_isX {X : Cx} : CallR X (.builtin "isinstance") (rIsX X.K) := by
  intro pins s σ H xs us Q I r h
  obtain ⟨a, D, d, c, u, b, rfl, C, ha, hd, hc, e, q⟩ := h
  obtain ⟨u1, u2, rfl, r1, r2⟩ := vals2 r
  have e2 := hc.eq r2
  subst e2
  obtain rfl : u1 = Value.ref a := r1
  obtain ⟨oe, od, J⟩ := inst_at I ha hd
  exact PySem.W.kia_one (exc_kit C) I.kIn J e (fun z => nomatch z) fun tk => ⟨.bl b, H, I.tok tk, rfl, q⟩
theorem call_or {X : Cx} {f : Value} {r1 r2 : List V → Hp → VK → Prop} (h1 : CallR X f r1) (h2 : CallR X f r2) : CallR X f (fun xs H Q => r1 xs H Q ∨ r2 xs H Q) := by
  intro pins s σ H xs us Q I r h
  rcases h with h | h
  · exact h1 pins s σ H xs us Q I r h
  · exact h2 pins s σ H xs us Q I r h
/-- e.f of an exception that is kept -/
def tXa (K : PySem.W.Frag) (f : Str) (te : TE) : TE := fun σ H Q => te σ H fun x H1 => ∃ (a D dd : Addr) (fs : List (Str × V)) (v : V), x = .ref a ∧ XfC K D ∧ PySem.W.findIn K (.ref D) f = some none ∧ H1 a = some (ExA (.ref D) (some dd) a) ∧ H1 dd = some (.xd fs) ∧ fs.lookup f = some v ∧ Q v H1
theorem pe_xa {X : Cx} {e : Expr} {te : TE} {pos : Pos} {n : Str} (he : PE X e te) (hb : attributeBase e n X.env (eval e X.env) = eval e X.env := by rfl) : PE X (.Attribute e n pos) (tXa X.K n te) := by
  refine ⟨fun pins s σ H Q I h => ?_⟩
  refine attr_of hb (thn (he.run pins s σ H _ I h) fun u s1 got => ?_)
  obtain ⟨y, H1, I1, ry, a, D, dd, fs, v, rfl, T, hno, ha, hdd, hl, q⟩ := got
  obtain rfl : u = Value.ref a := ry
  obtain ⟨oe, vs, eo, ⟨z1, z2⟩, hd⟩ := exA_at I1.hok ha
  obtain ⟨mA, hns, hr⟩ := (show ObjOk X.prog X.w H1 s1.heap dd (.xd fs) from I1.hok dd _ hdd)
  obtain ⟨od, ho, lk⟩ := lookIn_ns hns
  obtain ⟨u, hu, ru⟩ := RelO.some_of (v := v) (o := mA n) (by rw [← hl]; exact hr n)
  have J : PySem.W.InstAt s1.heap a oe D (some od) := ⟨eo, z1, by unfold PySem.W.notCls; rw [hd] <;> rfl, by rw [z2]; exact ho⟩
  exact HandSPX.exc_get I1.kIn J T.ga T.gg T.exC (PySem.W.findObj_own T.hdC hno rfl (by rw [lk, hu])) (handed_of ru) ⟨v, H1, I1.tok _, ru, q⟩
end OB
/-! Lambdas handed to a def: with no parameter, or with one that has a written int as its default. -/
namespace OB
open PySem PySem.Spec PyProof.Rows L2 LamX

section kit
open PySem.W PySem.Calls
abbrev lFn (qual : Str) (params : Arguments) (body : Expr) (scope : Scope) (cl : List (Str × Addr)) (dV pm cdv ct : Value) : FuncData :=
  { name := "<lambda>", qualname := qual, params := params, body := .expr body, scope := scope, globals := mainGlobals, closure := cl, defaults := dV, kwdefaults := .none, doc := .none, pyModule := pm, annotations := none, code := cdv, closureTuple := ct, builtins := builtinsNs }
abbrev lObj (qual : Str) (params : Arguments) (body : Expr) (scope : Scope) (cl : List (Str × Addr)) (dV pm cdv ct : Value) : Obj :=
  { cls := .type "function", data := .func (lFn qual params body scope cl dV pm cdv ct) }
variable {M : Model} {A : Around} {E : Value → Shared → Prop} {s : Shared} {qual : Str} {params : Arguments} {body : Expr} {scope : Scope} {env : Env} {c P : Addr} {ps : Array Value} {pos : Pos} {firstLine : Nat} {mg : Str → Option Value}
  {clos : List (Str × Addr)} {Q : Value → Shared → Prop} {dV : Value}
/-- a lambda's object is made: the code object comes by hcode1 -/
theorem tail_by (hcl : closureFor scope env = pure clos) (hge0 : env.globals = mainGlobals) (hg : s.heap.Ns mainGlobals mg) (hgP : mainGlobals ≠ P) (hb : s.heap.BuiltinsAt mg P)
    {G : Value → Heap → Heap → Prop}
    (hG : ∀ cv h1 h2, G cv h1 h2 → Heap.ExtBut P h1 h2 ∧ h1.objs.size ≤ h2.objs.size)
    (code : ∀ (h1 : Heap) (tk1 : Tok) (Q1 : Value → Shared → Prop), (∀ b o, s.heap.get? b = some o → h1.get? b = some o) → s.heap.objs.size ≤ h1.objs.size →
      (∀ cv h2 tk, G cv h1 h2 → Q1 cv { s with heap := h2, toks := tk }) → wpAny M A (functionCode env pos firstLine "<lambda>" qual params scope (.expr body)) Q1 E { s with heap := h1, toks := tk1 })
    (h : ∀ cv ctv h1 h2 tk, (∀ b o, s.heap.get? b = some o → h1.get? b = some o) → s.heap.objs.size ≤ h1.objs.size → G cv h1 h2 →
      Q (.ref h2.objs.size) { s with heap := h2.push (lObj qual params body scope clos dV ((mg "__name__").getD .none) cv ctv), toks := tk }) :
    wpAny M A (makeTail "<lambda>" qual params (.expr body) scope env dV .none none pos firstLine) Q E s := by
  obtain ⟨bm, ob, hbm, hne0, _, hneP, hbo, hcls, hdict, hdata⟩ := hb
  have go : ∀ (ctv : Value) (h1 : Heap) (tk1 : Tok), (∀ b o, s.heap.get? b = some o → h1.get? b = some o) → s.heap.objs.size ≤ h1.objs.size →
      wpAny M A (functionCode env pos firstLine "<lambda>" qual params scope (.expr body) >>= fun cv => builtinsFor mainGlobals env.builtins >>= fun bi => nsGet mainGlobals "__name__" >>= fun nm => pure Value.none >>= fun doc =>
        newObj (.type "function") (.func { name := "<lambda>", qualname := qual, params := params, body := .expr body, scope := scope, globals := mainGlobals, closure := clos, closureTuple := ctv, code := cv, builtins := bi, defaults := dV, kwdefaults := .none, annotations := none, pyModule := nm.getD .none, doc := doc })) Q E { s with heap := h1, toks := tk1 } := by
    intro ctv h1 tk1 k1 z1
    refine wpAny_bind (code h1 tk1 _ k1 z1 fun cv h2 tk g => ?_)
    obtain ⟨x2, z2⟩ := hG cv h1 h2 g
    have hg2 := (hg.keeps k1).extBut x2 hgP
    refine wpAny_bind (wpAny_builtinsFor hg2 hbm hne0 (x2 _ _ hneP (k1 _ _ hbo)) hcls hdict hdata ?_)
    refine wpAny_bind (wpAny_nsGet hg2 ?_)
    exact wpAny_bind (wpAny_pure (wpAny_newObj_type (h cv ctv h1 h2 tk k1 z1 g) (by size_fits)))
  unfold makeTail
  rw [hcl, hge0]
  refine wpAny_bind (wpAny_pure ?_)
  cases clos with
  | nil => exact wpAny_bind (wpAny_pure (go .none s.heap s.toks (fun _ _ e => e) (Nat.le_refl _)))
  | cons q r =>
    refine wpAny_bind (wpAny_newTextTuple ?_)
    exact go _ _ s.toks (fun b o e => Heap.get?_push_of_some _ e) (by rw [Heap.size_push]; omega)
end kit

section
variable {X : Cx} {pins : List (Addr × Obj)} {σ : L2.St} {H : Hp} {s : Shared}
/-- what stands of a lambda's defaults: none, or a tuple of ints that nobody tracks -/
def DflAt (h : Heap) (H : Hp) (fs : List Addr) (dV : Value) : List Value → Prop
  | [] => dV = .none
  | ds => ∃ (T : Addr) (o : Obj) (n : Nat), dV = .ref T ∧ h.get? T = some o ∧ o.data = .seq ds.toArray n ∧ H T = none ∧ T ∉ fs
/-- a lambda is made from makeTail on -/
theorem lam_tail {T : List (Addr × Str)} {c P : Addr} {params : Arguments} {body : Expr} {scope : Scope} {pos : Pos} {dV : Value} {ds : List Value} {E : Value → Shared → Prop} {Q : Value → Shared → Prop} (I : Inv X pins σ H s) (TB : TabB X.base X.mg c P) (hcode : X.env.code = .ref c)
    (hm : (P, X.env.qual ++ "<lambda>") ∈ T) (hu : ∀ p ∈ T, p.1 = P → p.2 = X.env.qual ++ "<lambda>") (hT : Tabs T H) (hfree : ∀ y ∈ scope.names, y.2 = .free → ∃ c, X.env.cells.lookup y.1 = some c)
    (hd : DflAt s.heap H (X.env.locals :: X.fs) dV ds)
    (h : ∀ (f c' : Addr) (pm ctv : Value) (H1 : Hp) (s' : Shared), Inv X pins σ H1 s' → ExtN H H1 → Tabs T H1 → DflAt s'.heap H1 (X.env.locals :: X.fs) dV ds →
      s'.heap.get? f = some (lObj (X.env.qual ++ "<lambda>") params body scope (cloFrom X.env.cells scope.names []) dV pm (.ref c') ctv) → H1 f = none → f ≠ X.env.locals → f ∉ X.fs → H1 c' = some (CodeO c' (X.env.qual ++ "<lambda>")) → Q (.ref f) s') :
    wpAny (model X.prog X.w) X.A (makeTail "<lambda>" (X.env.qual ++ "<lambda>") params (.expr body) scope X.env dV .none none pos pos.line) Q E s := by
  obtain ⟨ps, hP, ht, ha⟩ := hT _ hm
  have bP : s.heap.BuiltinsAt X.mg P := TB.bm.keeps I.bk
  have hP' : s.heap.get? P = some { cls := .none, data := .fields ps } := I.hok P _ hP
  have nLoc : ∀ f, s.heap.objs.size ≤ f → f ≠ X.env.locals := fun f hf z => by
    have h1 := I.lt
    rw [← z] at h1
    exact Nat.lt_irrefl _ (Nat.lt_of_lt_of_le h1 hf)
  have CH := TB.code.keeps I.bk
  have later : ∀ {h1 : Heap} {H1 : Hp}, (∀ b o, s.heap.get? b = some o → H b = none → b ≠ P → h1.get? b = some o) → (∀ b o, s.heap.get? b = some o → H b = none → H1 b = none) → DflAt h1 H1 (X.env.locals :: X.fs) dV ds := fun {h1 H1} k1 k2 => by
    cases ds with
    | nil => exact hd
    | cons d r =>
      obtain ⟨Td, o, n, e1, e2, e3, e4, e5⟩ := hd
      refine ⟨Td, o, n, e1, k1 _ _ e2 e4 (fun z => ?_), e3, k2 _ _ e2 e4, e5⟩
      rw [z, hP] at e4
      cases e4
  cases hc : codeAmong pos ps.toList with
  | none =>
    refine tail_by (mg := X.mg) (P := P) (closure_ok hfree) I.ok.glob (I.mod.glob.keeps I.bk) TB.gP bP
      (G := fun cv h1 h2 => ∃ c', cv = .ref c' ∧ Heap.ExtBut P h1 h2 ∧ h1.objs.size ≤ c' ∧ c' < h2.objs.size ∧ h2.CodeRec (.ref c') (X.env.qual ++ "<lambda>") ∧ h2.get? P = some (PySem.W.tabObj (ps ++ #[rawInt pos.line, rawInt pos.col, .ref c'])))
      (fun cv h1 h2 ⟨c', _, x, l1, l2, _⟩ => ⟨x, Nat.le_trans l1 (Nat.le_of_lt l2)⟩) (fun h1 tk1 Q1 k1 z1 q1 => ?_) (fun cv ctv h1 h2 tk k1 z1 g => ?_)
    · exact wpAny_functionCodeX hcode ((CH.keeps k1).code (k1 _ _ hP') ht) ((CH.keeps k1).tab (k1 _ _ hP')) hc fun c' h2 tk hx hge hlt _ hrec htb _ => q1 (.ref c') h2 tk ⟨c', rfl, hx, hge, hlt, hrec, htb.2⟩
    · obtain ⟨c', rfl, hx, hge, hlt, hrec, htb⟩ := g
      obtain ⟨c2, oc, vs, t, e2, hoc, hdc, hv⟩ := hrec
      cases e2
      have hge' : s.heap.objs.size ≤ c' := Nat.le_trans z1 hge
      have hsz : s.heap.objs.size ≤ h2.objs.size := Nat.le_trans hge' (Nat.le_of_lt hlt)
      have nC : H c' = none := I.hok.fresh hge'
      have I1 := inv_table (t' := tk) (more := #[rawInt pos.line, rawInt pos.col, .ref c']) (h' := h2.push (lObj (X.env.qual ++ "<lambda>") params body scope (cloFrom X.env.cells scope.names []) dV ((X.mg "__name__").getD .none) (.ref c') ctv)) I hP
        (fun b o hb e => Heap.get?_push_of_some _ (hx b o hb (k1 _ _ e))) (Heap.get?_push_of_some _ htb) hge' ⟨oc, vs, t, Heap.get?_push_of_some _ hoc, hdc, hv⟩
      have hE : ExtN H (upd (upd H P (.tbl (ps ++ #[rawInt pos.line, rawInt pos.col, .ref c']))) c' (CodeO c' (X.env.qual ++ "<lambda>"))) := fun b o e n => by
        rw [upd_ne (ne_of_none e nC), upd_ne (fun z => n ps (Option.some.inj (e.symm.trans (by rw [z]; exact hP))))]
        exact e
      have eL : (ps ++ #[rawInt pos.line, rawInt pos.col, .ref c']).toList = ps.toList ++ [rawInt pos.line, rawInt pos.col, .ref c'] := by simp
      refine h h2.objs.size c' _ ctv _ _ I1 hE (fun p hp => ?_) (later (fun b o e n hb => Heap.get?_push_of_some _ (hx b o hb (k1 _ _ e))) fun b o e n => ?_) (Heap.get?_push_size _ rfl) ?_ (nLoc _ hsz) (I.nofs hsz) upd_same
      · by_cases hb : p.1 = P
        · rw [hu p hp hb, hb]
          refine ⟨_, by rw [upd_ne (ne_of_none hP nC), upd_same], by rw [eL]; exact PySem.TriplesOk_snoc _ _ _ _ ht, fun p' cv hcv => ?_⟩
          rw [eL] at hcv
          rcases among_app _ ht hcv with z | z
          · obtain ⟨c0, e1, e2⟩ := ha p' cv z
            exact ⟨c0, e1, hE _ _ e2 codeO_ne⟩
          · exact ⟨c', z, upd_same⟩
        · obtain ⟨ps', a1, a2, a3⟩ := hT p hp
          refine ⟨ps', by rw [upd_ne (ne_of_none a1 nC), upd_ne hb]; exact a1, a2, fun p' cv hcv => ?_⟩
          obtain ⟨c0, e1, e2⟩ := a3 p' cv hcv
          exact ⟨c0, e1, hE _ _ e2 codeO_ne⟩
      · rw [upd_ne (Nat.ne_of_lt (Nat.lt_of_lt_of_le (Heap.lt_size e) hge')), upd_ne (fun z => by rw [z, hP] at n; cases n)]
        exact n
      · rw [upd_ne (Nat.ne_of_gt hlt), upd_ne (Nat.ne_of_gt (Nat.lt_of_lt_of_le (Heap.lt_size hP') hsz))]
        exact I.hok.fresh hsz
  | some cv0 =>
    obtain ⟨c', e, hco⟩ := ha pos cv0 hc
    subst e
    refine tail_by (mg := X.mg) (P := P) (closure_ok hfree) I.ok.glob (I.mod.glob.keeps I.bk) TB.gP bP
      (G := fun cv h1 h2 => cv = .ref c' ∧ h2 = h1) (fun cv h1 h2 ⟨_, e⟩ => by rw [e]; exact ⟨fun _ _ _ e => e, Nat.le_refl _⟩) (fun h1 tk1 Q1 k1 z1 q1 => ?_) (fun cv ctv h1 h2 tk k1 z1 g => ?_)
    · exact wpAny_functionCode_hit hcode ((CH.keeps k1).code (k1 _ _ hP') ht) hc (q1 (.ref c') h1 tk1 ⟨rfl, rfl⟩)
    · obtain ⟨rfl, rfl⟩ := g
      have kk : ∀ b o, s.heap.get? b = some o → (h2.push (lObj (X.env.qual ++ "<lambda>") params body scope (cloFrom X.env.cells scope.names []) dV ((X.mg "__name__").getD .none) (.ref c') ctv)).get? b = some o := fun b o e => Heap.get?_push_of_some _ (k1 _ _ e)
      exact h h2.objs.size c' _ ctv H _ (I.kept (t' := tk) kk) (ExtN.refl H) hT (later (fun b o e _ _ => kk b o e) fun _ _ _ n => n) (Heap.get?_push_size _ rfl) (I.hok.fresh z1) (nLoc _ z1) (I.nofs z1) hco
end
end OB
namespace OB
open PySem PySem.Spec PyProof.Rows L2 LamX

/-- a lambda's names: captured ones, globals, and its parameters nm, which are no names of the def around -/
structure LamN (sc scope : Scope) (N nm : List Str) : Prop where
  kind : scope.kind = .function
  co : scope.isCoroutine = false
  gen : scope.isGenerator = false
  own : ∀ y ∈ scope.names, y.2 ≠ .cell ∧ (y.2 = .local → y.1 ∉ N)
  par : ∀ x ∈ nm, scope.names.lookup x = some .local
  free : ∀ y ∈ scope.names, y.2 = .free → sc.names.lookup y.1 = some .cell ∨ sc.names.lookup y.1 = some .free
def lamNB (sc scope : Scope) (N nm : List Str) : Bool :=
  decide (scope.kind = .function) && !scope.isCoroutine && !scope.isGenerator &&
    (scope.names.all fun y => !decide (y.2 = .cell) && (!decide (y.2 = .local) || decide (y.1 ∉ N)) && (!decide (y.2 = .free) || decide (sc.names.lookup y.1 = some .cell) || decide (sc.names.lookup y.1 = some .free))) &&
    nm.all fun x => decide (scope.names.lookup x = some .local)
theorem lamN_by {sc scope : Scope} {N nm : List Str} (h : lamNB sc scope N nm = true) : LamN sc scope N nm := by
  unfold lamNB at h
  simp only [Bool.and_eq_true, Bool.or_eq_true, Bool.not_eq_true', decide_eq_true_eq, decide_eq_false_iff_not, List.all_eq_true] at h
  obtain ⟨⟨⟨⟨h1, h2⟩, h3⟩, h4⟩, h5⟩ := h
  refine ⟨h1, h2, h3, fun y hy => ⟨(h4 y hy).1.1, fun e => ?_⟩, fun x hx => h5 x hx, fun y hy e => ?_⟩
  · rcases (h4 y hy).1.2 with z | z
    · exact absurd e z
    · exact z
  · rcases (h4 y hy).2 with (z | z) | z
    · exact absurd e z
    · exact .inl z
    · exact .inr z
theorem LamN.has {X : Cx} {scope : Scope} {N nm : List Str} (L : LamN X.env.scope scope N nm) (ok : X.Ok) : ∀ y ∈ scope.names, y.2 = .free → ∃ c, X.env.cells.lookup y.1 = some c := fun y hy e => by
  rcases L.free y hy e with k | k
  · exact ok.has _ (.inl k)
  · exact ok.has _ (.inr k)
section
variable {X : Cx} {pins : List (Addr × Obj)} {σ : L2.St} {H HZ : Hp} {s s1 : Shared}
theorem lam_start {A : Around} {outer : List Env} {E : XK} {scope : Scope} {f c' : Addr} {h₁ : Heap} {tk : Nat} {nm : List Str} {m1 : Str → Option Value} (I : Inv X pins σ H s) (L : LamN X.env.scope scope X.N nm) (e0 : Env0 X.prog X.w X.K X.mg X.base A outer s1 HZ) (hd : A.handled = none)
    (un : Un (frs X.stack) [] H HZ s.heap s1.heap) (hns : h₁.Ns s1.heap.objs.size m1) (kp : ∀ b o, s1.heap.get? b = some o → h₁.get? b = some o) :
    Inv (lamCx X A outer s1 HZ E scope f c') [] σ HZ { s1 with heap := h₁, toks := tk } := by
  have hfree := L.has I.ok
  have up : ∀ {y c}, (cloFrom X.env.cells scope.names []).lookup y = some c → X.env.cells.lookup y = some c := fun {y c} e => by
    rcases cloFrom_mem (PySem.mem_of_lookup e) with hm | ⟨h1, h2⟩
    · cases hm
    · obtain ⟨c1, hc⟩ := hfree _ h1 rfl
      have hc : X.env.cells.lookup y = some c1 := hc
      rw [hc] at h2
      have h3 : c = c1 := h2
      rw [h3]
      exact hc
  have down : ∀ {y}, scope.names.lookup y = some .free → ∃ c, (cloFrom X.env.cells scope.names []).lookup y = some c := fun {y} hl =>
    mem_lookup (cloFrom_has (cells := X.env.cells) (acc := []) (PySem.mem_of_lookup hl))
  have cellK : ∀ {c : Addr} {v : Option Value}, H c = none → s.heap.IsCell c v → h₁.IsCell c v := fun {c v} n ⟨o, ho, hd⟩ => by
    obtain ⟨sl, q⟩ := un.any ho n (by simp)
    exact ⟨_, kp _ _ q, hd⟩
  have noX : ∀ b : Addr, b ∉ (lamCx X A outer s1 HZ E scope f c').ex := fun b z => absurd (show b ∈ ([] : List Addr) from z) (by simp)
  refine ⟨⟨e0.mod, L.kind, rfl, rfl, Nat.le_refl _, fun y z c e1 e2 => I.ok.inj y z c (up e1) (up e2), fun y hy => ?_, fun y c z _ => ?_, fun _ => hd, Around.frames_deeper e0.frames, .inr ⟨rfl, rfl⟩, fun b z => absurd z (noX b), e0.bs, e0.bsz, fun b _ _ => noX b,
      fun b z => absurd z (noX b), e0.funs, e0.frf⟩,
    rfl, e0.bare, Un.kept kp, ⟨_, hns, fun i y v e1 e2 e3 => ?_⟩, fun y c e => ?_, e0.hok.fresh (Nat.le_refl _), fun y c e => ?_, fun q hq => absurd (show q ∈ ([] : List (Addr × Obj)) ++ [] from hq) (by simp), e0.hok.kept kp, I.len⟩
  · have hy : scope.names.lookup y = some .cell ∨ scope.names.lookup y = some .free := hy
    rcases hy with hy | hy
    · exact absurd rfl (L.own _ (PySem.mem_of_lookup hy)).1
    · exact down hy
  · have z : false = true := z
    cases z
  · have e3 : Vis scope y := e3
    have e1 : X.N[i]? = some y := e1
    rcases e3 with k | k | k
    · exact absurd (List.mem_of_getElem? e1) ((L.own _ (PySem.mem_of_lookup k)).2 rfl)
    · exact absurd rfl (L.own _ (PySem.mem_of_lookup k)).1
    · obtain ⟨m, hn, hl⟩ := I.loc
      have vis : Vis X.env.scope y := (L.free _ (PySem.mem_of_lookup k) rfl).elim (fun k => .inr (.inl k)) (fun k => .inr (.inr k))
      obtain ⟨w', r, q⟩ := hl i y v e1 e2 vis
      obtain ⟨c2, h2⟩ := down k
      refine ⟨w', r, .inr ⟨.inr k, c2, h2, ?_⟩⟩
      have c1 := up h2
      rcases q with ⟨k', _⟩ | ⟨_, c3, e', z⟩
      · have k' : X.env.scope.names.lookup y = some .local := k'
        rcases L.free _ (PySem.mem_of_lookup k) rfl with k2 | k2 <;> rw [show X.env.scope.names.lookup y = _ from k2] at k' <;> cases k'
      · rw [c1] at e'
        cases e'
        exact cellK (I.freeC y _ c1) z
  · obtain ⟨w', z⟩ := I.cell y c (up e)
    exact ⟨w', cellK (I.freeC y c (up e)) z⟩
  · obtain ⟨v, o, ho, hd⟩ := I.cell y c (up e)
    exact un.free c o ho (I.freeC y c (up e)) (by simp)
/-- how a lambda called with nothing binds its parameters nm to their defaults ds -/
def LamB (params : Arguments) (nm : List Str) (ds : List Value) : Prop :=
  ∀ (q : Str) (body : Expr) (scope : Scope) (cl : List (Str × Addr)) (dV pm cv ctv : Value) (M : Model) (A : Around) (E : Value → Shared → Prop) (s : Shared) (H : Hp) (fs : List Addr) (Q : List (Str × Value) → Shared → Prop),
    DflAt s.heap H fs dV ds → Q (nm.zip ds) s → wpAny M A (bindArgs (lFn q params body scope cl dV pm cv ctv) ⟨[], []⟩) Q E s
theorem lamB0 {params : Arguments} (h : ∀ (q : Str) (body : Expr) (scope : Scope) (cl : List (Str × Addr)) (pm cv ctv : Value), bindArgs (lFn q params body scope cl .none pm cv ctv) ⟨[], []⟩ = pure []) : LamB params [] [] :=
  fun q body scope cl dV pm cv ctv M A E s H fs Q hd hq => by
    have hd : dV = .none := hd
    rw [hd, h]
    exact wpAny_pure hq
theorem lamB1 {params : Arguments} {a : Str} {d : Value} (h : ∀ (q : Str) (body : Expr) (scope : Scope) (cl : List (Str × Addr)) (T : Addr) (pm cv ctv : Value), ∃ k, bindArgs (lFn q params body scope cl (.ref T) pm cv ctv) ⟨[], []⟩ = seqItems? (.ref T) >>= k ∧ k (some #[d]) = pure [(a, d)]) : LamB params [a] [d] :=
  fun q body scope cl dV pm cv ctv M A E s H fs Q hd hq => by
    obtain ⟨T, o, n, rfl, e2, e3, _⟩ := hd
    obtain ⟨k, e, ek⟩ := h q body scope cl T pm cv ctv
    rw [e]
    refine wpAny_bind (wpAny_seqItems e2 e3 ?_)
    rw [show (some [d].toArray : Option (Array Value)) = some #[d] from rfl, ek]
    exact wpAny_pure hq
/-- x(), in the def that got the lambda: Z is that def's context, entered at s -/
theorem pe_act {CXg : CXT} {Eg : XK} {Ng : List Str} {qg : Str} {sg : Scope} {g f c' : Addr} {cdg pm ctv dV : Value} {ds : List Value} {nm : List Str} {params : Arguments} {body : Expr} {scope : Scope} {k i : Nat} {a : Str} {pn : List (Addr × Obj)} {xe : Value → Shared → Prop} {W : WX} {tb : XK → TE} {p1 p2 : Pos}
    (I : Inv X pins σ H s) (L : LamN X.env.scope scope X.N nm) (hf : s.heap.get? f = some (lObj (X.env.qual ++ "<lambda>") params body scope (cloFrom X.env.cells scope.names []) dV pm (.ref c') ctv)) (hfn : H f = none) (hfr : f ∉ X.env.locals :: X.fs)
    (hbind : LamB params nm ds) (hds : DflAt s.heap H (X.env.locals :: X.fs) dV ds)
    (tk : Takes ((cxOf CXg X.prog X.w X.K X.mg X.base Ng qg sg g cdg X.A X.stack s H Eg).tr pn xe) W) (hr : Room (k + 1) (X.A.deeper (envOfC qg sg s.heap.objs.size g cdg)))
    (hbody : ∀ (A : Around) (outer : List Env) (s : Shared) (H : Hp) (E : XK), Room k (A.deeper (lamEnv X scope s.heap.objs.size f c')) → PE (lamCx X A outer s H E scope f c') body (tb E))
    (hN : Ng[i]? = some a) (hv : Vis sg a) (hd : (a == ("__debug__" : Str)) = false := by decide) (hcd : (a == ("__classdict__" : Str)) = false := by decide) :
    PE ((cxOf CXg X.prog X.w X.K X.mg X.base Ng qg sg g cdg X.A X.stack s H Eg).tr pn xe) (.Call (.Name a p1) [] [] p2)
      (fun σZ HZ Q => σZ[i]? = some (some (.ref f)) ∧ HZ c' = some (CodeO c' (X.env.qual ++ "<lambda>")) ∧ tb (fun cls d H' => W cls d σZ H') σ HZ Q) := by
  have nst : ∀ {b : Addr}, b ∉ X.env.locals :: X.fs → b ∉ frs X.stack := fun {b} h z => h (I.stkSub b z)
  refine ⟨fun pinsZ sZ σZ HZ Q IZ h => ?_⟩
  obtain ⟨hs, hc, ht⟩ := h
  refine wpAny_Call_Name_kw (thn ((pe_var (pos := p1) (i := i) hN hv hd hcd).run pinsZ sZ σZ HZ (fun v H1 => v = .ref f ∧ H1 = HZ) IZ ⟨.ref f, hs, rfl, rfl⟩) fun u s1 ⟨v, H1, I1, r1, q1⟩ => ?_)
  obtain ⟨ev, eH⟩ := q1
  subst ev
  rw [eH] at I1
  obtain rfl : u = Value.ref f := r1
  have keep1 : ∀ {b : Addr} {o : Obj}, s.heap.get? b = some o → H b = none → b ∉ X.env.locals :: X.fs → s1.heap.get? b = some o ∧ HZ b = none := fun {b o} e n nf =>
    ⟨I1.base.keep b _ e n (nst nf) (fun z => nomatch (show b ∈ ([] : List Addr) from z)), I1.base.free b _ e n (fun z => nomatch (show b ∈ ([] : List Addr) from z))⟩
  have of1 := (keep1 hf hfn hfr).1
  have ds1 : DflAt s1.heap HZ (X.env.locals :: X.fs) dV ds := by
    cases ds with
    | nil => exact hds
    | cons d r =>
      obtain ⟨T, o, n, e1, e2, e3, e4, e5⟩ := hds
      exact ⟨T, o, n, e1, (keep1 e2 e4 e5).1, e3, (keep1 e2 e4 e5).2, e5⟩
  refine PySem.W.callWith_F0 ⟨_, _, _, _, of1⟩ ?_
  have un : Un (frs X.stack) [] H HZ s.heap s1.heap := I1.base
  obtain ⟨⟨oc, vs, t, hoc, hdc, hvc⟩, _, _⟩ := I1.hok c' _ hc
  have rc : codeAny (model X.prog X.w) (X.A.deeper (envOfC qg sg s.heap.objs.size g cdg)) (.call (.ref f) ⟨[], []⟩) (CR (L2.CX X.prog X.w) (envOfC qg sg s.heap.objs.size g cdg :: X.stack) X.prog X.w HZ s1 Q fun cls d H' => W cls d σZ H') s1 := by
    refine PySem.W.kla_callFunE hr.depth of1 rfl L.co L.gen rfl ⟨c', oc, vs, t, rfl, hoc, hdc, hvc⟩ ?_
    refine hbind _ _ _ _ _ _ _ _ _ _ _ s1 HZ _ _ ds1 ?_
    refine wpAny_newFunctionEnv (fun y hy => (L.own y hy).1) (fun y hy => L.par _ (List.of_mem_zip (by simpa using hy)).1) (fun h₁ hns hsb => ⟨I1.nolimit.fresh _ hsb, ?_⟩) L.kind
    show codeAny _ _ (.expr body (lamEnv X scope s1.heap.objs.size f c')) _ _
    have kp : ∀ b o, s1.heap.get? b = some o → h₁.get? b = some o := fun b o e => hsb.extBut b o (Nat.ne_of_lt (Heap.lt_size e)) (Heap.get?_push_of_some _ e)
    have J : Inv (lamCx X (X.A.deeper (envOfC qg sg s.heap.objs.size g cdg)) (envOfC qg sg s.heap.objs.size g cdg :: X.stack) s1 HZ (fun cls d H' => W cls d σZ H') scope f c') [] σ HZ { s1 with heap := h₁, toks := s1.toks + (nm.zip ds).length } :=
      lam_start I L I1.env0 hr.hd un hns kp
    refine PySem.W.kla_codeExpr (wpAny_mono ((hbody _ _ s1 HZ _ (hr.deeper _)).run [] _ _ HZ Q J ht) (fun v s' hq => ?_) fun e s' hq => hq)
    obtain ⟨w', H', J', rv, q⟩ := hq
    exact ⟨w', H', J'.os, J'.bare, J'.base, J'.hok, rv, q⟩
  refine wpAny_call (codeAny_mono rc fun r s' hq => ?_)
  cases r with
  | error e => exact tk e s' (XE.of_call I1 (fun _ _ _ h => h) hq)
  | ok fl =>
    cases fl with
    | ret u => exact I1.after hq
    | next => exact False.elim hq
    | brk => exact False.elim hq
    | cont => exact False.elim hq
end
/-- a reading that grows with what is wanted -/
def MonoL (tl : XK → Hp → VK → Prop) : Prop := ∀ (E1 E2 : XK) (H : Hp) (Q1 Q2 : VK), (∀ c d H', E1 c d H' → E2 c d H') → (∀ v H', Q1 v H' → Q2 v H') → tl E1 H Q1 → tl E2 H Q2
/-- the def that calls what it got, beside other values vs; TT: what it makes of the lambda's reading -/
def Gives (X : Cx) (Ng : List Str) (x : Str) (sg : Scope) (g : Addr) (cdg : Value) (bg : List Stmt) (a : Str) (q : Str) (k : Nat) (TT : List V → (XK → Hp → VK → Prop) → Hp → VK → Prop) : Prop :=
  ∀ (f c' : Addr) (vs : List V) (s : Shared) (H : Hp) (Q : VK) (tl : XK → Hp → VK → Prop), Room k (X.A.deeper (envOfC x sg s.heap.objs.size g cdg)) →
    (∀ (W : WX) (pn : List (Addr × Obj)) (xe : Value → Shared → Prop) (p1 p2 : Pos), Takes ((cxOf L2.CX0 X.prog X.w X.K X.mg X.base Ng x sg g cdg X.A X.stack s H fun _ _ _ => False).tr pn xe) W →
      PE ((cxOf L2.CX0 X.prog X.w X.K X.mg X.base Ng x sg g cdg X.A X.stack s H fun _ _ _ => False).tr pn xe) (.Call (.Name a p1) [] [] p2) (fun σZ HZ Q => σZ[0]? = some (some (.ref f)) ∧ HZ c' = some (CodeO c' q) ∧ tl (fun cls d H' => W cls d σZ H') HZ Q)) →
    H c' = some (CodeO c' q) → MonoL tl → TT vs tl H Q →
    ∃ t, PSs (cxOf L2.CX0 X.prog X.w X.K X.mg X.base Ng x sg g cdg X.A X.stack s H fun _ _ _ => False).nox bg t ∧ t { nx := fun _ H' => Q .non H', rt := Q } (L2.start Ng (.ref f :: vs)) H
def tLam2 (T : List (Addr × Str)) (vs : List V) (TT : List V → (XK → Hp → VK → Prop) → Hp → VK → Prop) (t : XK → TE) : TE := fun σ H Q => Tabs T H ∧ ∀ H1, ExtN H H1 → Tabs T H1 → TT vs (fun E H' Q' => t E σ H' Q') H1 Q
section
variable {X : Cx}
/-- x(lambda: body, rest ..), rest written constants -/
theorem pe_lam {T : List (Addr × Str)} {vs : List V} {TT : List V → (XK → Hp → VK → Prop) → Hp → VK → Prop} {x a : Str} {g c P : Addr} {k : Nat} {pg : Arguments} {bg : List Stmt} {sg : Scope} {dV kV doc pm cdv ct oc : Value} {an od : Option Addr} {osl : Array (Option Value)} {Ng ps nm : List Str}
    {params : Arguments} {body : Expr} {rest : List Expr} {tr : TA} {dts : List Int} {scope : Scope} {t : XK → TE} {p lpos pos : Pos} (hg : Gl X x) (hm : X.mg x = some (.ref g)) (hk : PySem.W.keepIn X.K (.ref g) = true)
    (lk : X.K.lookup g = some ⟨oc, od, .func (PySem.W.fnOf x x pg bg sg dV kV doc pm an cdv ct), osl⟩) (hcg : PySem.W.codeIn X.K cdv x = true) (hb : L2.Binds X.K (PySem.W.fnOf x x pg bg sg dV kV doc pm an cdv ct) (a :: ps) []) (Sg : FnScope Ng (a :: ps) sg) (hNg : Ng[0]? = some a) (hva : Vis sg a)
    (hG : Gives X Ng x sg g cdv bg a (X.env.qual ++ "<lambda>") (k + 1) TT)
    (TB : TabB X.base X.mg c P) (hcode : X.env.code = .ref c) (hmT : (P, X.env.qual ++ "<lambda>") ∈ T) (hu : ∀ p ∈ T, p.1 = P → p.2 = X.env.qual ++ "<lambda>") (hr : Room (k + 2) X.A) (L : LamN X.env.scope scope X.N nm)
    (hdef : (dts = [] ∧ defaultsOf params X.env = ([], [])) ∨ ∃ n j dp, dts = [n] ∧ defaultsOf params X.env = ([eval (.Constant (.int n) j dp) X.env], []))
    (hbind : ∀ ds : List Value, Vals (dts.map V.int) ds → LamB params nm ds)
    (hmono : ∀ σ : L2.St, MonoL fun E H' Q' => t E σ H' Q') (hrest : PA X rest tr) (htr : ∀ σ H Q, tr σ H Q = Q vs H) (hvl : vs.length = ps.length)
    (hbody : ∀ (A : Around) (outer : List Env) (s : Shared) (H : Hp) (E : XK) (f c' : Addr), Room k (A.deeper (lamEnv X scope s.heap.objs.size f c')) → PE (lamCx X A outer s H E scope f c') body (t E))
    (he : starEach (.Lambda params body scope lpos :: rest) X.env = (false, eval (.Lambda params body scope lpos) X.env) :: starEach rest X.env := by rfl) (hpl : (backTo pos (starEach rest X.env)).any (·.1) = false := by rfl)
    (hdb : (x == ("__debug__" : Str)) = false := by decide) (hd : (a == ("__debug__" : Str)) = false := by decide) (hcd : (a == ("__classdict__" : Str)) = false := by decide) :
    PE X (.Call (.Name x p) (.Lambda params body scope lpos :: rest) [] pos) (tLam2 T vs TT t) := by
  refine ⟨fun pins s σ H Q I h => ?_⟩
  obtain ⟨hT, h⟩ := h
  refine wpAny_Call_Name_kw (ld_glob I hg hm ?_ hdb)
  refine PySem.W.callWith_K (h₀ := X.base) I.ok.mod.kin hk ?_ he hpl
  rw [he]
  show wpAny _ _ (spliced ((false, eval (.Lambda params body scope lpos) X.env) :: backTo pos (starEach rest X.env))) _ _ s
  -- from the making of the object on
  have go : ∀ (s0 : Shared) (dV : Value) (ds : List Value), Inv X pins σ H s0 → Vals (dts.map V.int) ds → DflAt s0.heap H (X.env.locals :: X.fs) dV ds →
      wpAny (model X.prog X.w) X.A (PySem.makeTail "<lambda>" (X.env.qual ++ "<lambda>") params (.expr body) scope X.env dV .none none lpos lpos.line)
        (fun u s1 => wpAny (model X.prog X.w) X.A (spliced (backTo pos (starEach rest X.env))) (fun us s2 => X.K.In s2.heap ∧ wpAny (model X.prog X.w) X.A (call (.ref g) ([] ++ u :: us)) (EP X pins σ Q) X.xe s2) X.xe s1) X.xe s0 := by
    intro s0 dV ds I0 rd hd0
    refine lam_tail I0 TB hcode hmT hu hT (L.has I0.ok) hd0 fun f c' pm' ctv H1 s' I1 eN T1 hd1 hf hfn hfL hfF hco => ?_
    obtain ⟨pl, hpl1, hpl2⟩ : ∃ pl : List (Addr × Obj), (∀ p ∈ pl, s'.heap.get? p.1 = some p.2 ∧ H1 p.1 = none ∧ p.1 ≠ X.env.locals ∧ p.1 ∉ X.fs ∧ ∀ v, p.2.data ≠ .cell v) ∧ (∀ h2 : Heap, (∀ p ∈ pl, h2.get? p.1 = some p.2) → DflAt h2 H1 (X.env.locals :: X.fs) dV ds) := by
      cases ds with
      | nil => exact ⟨[], (fun p hp => nomatch hp), fun _ _ => hd1⟩
      | cons d r =>
        obtain ⟨Td, o, n, e1, e2, e3, e4, e5⟩ := hd1
        refine ⟨[(Td, o)], fun p hp => ?_, fun h2 k => ⟨Td, o, n, e1, k _ List.mem_cons_self, e3, e4, e5⟩⟩
        obtain rfl : p = (Td, o) := by simpa using hp
        exact ⟨e2, e4, fun z => e5 (by rw [show Td = X.env.locals from z]; exact List.mem_cons_self), fun z => e5 (List.mem_cons_of_mem _ z), fun v z => by
          have z' : o.data = .cell v := z
          rw [e3] at z'
          cases z'⟩
    have J : Inv X (pins ++ ((f, _) :: pl)) σ H1 s' := I1.pins_of (pins' := pins ++ ((f, lObj (X.env.qual ++ "<lambda>") params body scope (cloFrom X.env.cells scope.names []) dV pm' (.ref c') ctv) :: pl)) fun p hp => by
      rcases List.mem_append.mp hp with hp | hp
      · exact I1.pin p (List.mem_append_right _ hp)
      · rcases List.mem_cons.mp hp with e | hp
        · rw [e]
          exact ⟨hf, hfn, hfL, hfF, fun v z => nomatch z⟩
        · exact hpl1 p hp
    refine thn (hrest.run pos _ s' σ H1 (fun vs' H' => vs' = vs ∧ H' = H1) J (by rw [htr]; exact ⟨rfl, rfl⟩)) fun us s2 ⟨vs', H2, I2, r2, e1, e2⟩ => ?_
    subst e1
    rw [e2] at I2
    have hf2 := (I2.pin (f, _) (List.mem_append_right _ (List.mem_append_right _ List.mem_cons_self))).1
    have hd2 : DflAt s2.heap H1 (X.env.locals :: X.fs) dV ds := hpl2 _ fun p hp => (I2.pin p (List.mem_append_right _ (List.mem_append_right _ (List.mem_cons_of_mem _ hp)))).1
    have I3 : Inv X pins σ H1 s2 := I2.unpinned
    refine ⟨I3.kIn, ?_⟩
    have rv : Vals (V.ref f :: vs') (Value.ref f :: us) := .cons rfl r2
    have hlen : (Value.ref f :: us).length = (a :: ps).length := by
      rw [← rv.length, List.length_cons, List.length_cons, hvl]
    have rc : codeAny (model X.prog X.w) X.A (.call (.ref g) ⟨.ref f :: us, []⟩) (CR L2.CX0 X.stack X.prog X.w H1 s2 Q fun _ _ _ => False) s2 := by
      refine run_ofS (N := Ng) (ps := a :: ps) (us := .ref f :: us) (vs := .ref f :: vs') lk hcg Sg hr I3.env0 (by have z := hb s2 (Value.ref f :: us) I3.kIn (by rw [List.append_nil]; exact hlen); rw [List.append_nil] at z; exact z) rv (by rw [List.length_cons, List.length_cons, hvl]) fun hr' => ?_
      obtain ⟨t', ht', hq'⟩ := hG f c' vs' s2 H1 Q (fun E H' Q' => t E σ H' Q') hr' (fun W pn xe p1 p2 tk => pe_act (i := 0) I3 L hf2 hfn (fun z => (List.mem_cons.mp z).elim hfL hfF) (hbind ds rd) hd2 tk hr' (fun A outer s H E hr2 => hbody A outer s H E f c' hr2) hNg hva hd hcd) hco (hmono σ) (h H1 eN T1)
      exact ⟨t', ht'.nox, hq'⟩
    refine wpAny_call (codeAny_mono rc fun r s3 hq => ?_)
    cases r with
    | error e => exact (show False from hq).elim
    | ok fl =>
      cases fl with
      | ret u => exact I3.after hq
      | next => exact False.elim hq
      | brk => exact False.elim hq
      | cont => exact False.elim hq
  refine Calls.spliced_cons ?_
  rw [PySem.arm_eval_Lambda]
  rcases hdef with ⟨rfl, hdef⟩ | ⟨n, j, dp, rfl, hdef⟩
  · rw [hdef]
    refine wpAny_bind (wpAny_pure (wpAny_bind (wpAny_holding (wpAny_pure ?_))))
    rw [PySem.makeFunction_eq]
    simp only [List.zip_nil_right, List.filterMap_nil, List.isEmpty_nil, if_true, pure_bind]
    exact go s .none [] I .nil rfl
  · rw [hdef]
    refine wpAny_bind (m := evalAll [eval (.Constant (.int n) j dp) X.env]) ?_
    unfold evalAll evalAll
    refine wpAny_bind (thn ((pe_int (X := X) (i := n) (j := j) (pos := dp)).run pins s σ H (fun v H' => v = .int n ∧ H' = H) I ⟨rfl, rfl⟩) fun u s1 ⟨v, H1, I1, r1, e1, e2⟩ => ?_)
    subst e1
    rw [e2] at I1
    refine wpAny_bind (wpAny_holding (wpAny_pure (wpAny_pure ?_)))
    refine wpAny_bind (wpAny_holding (wpAny_pure ?_))
    rw [PySem.makeFunction_eq]
    simp only [List.zip_nil_right, List.filterMap_nil, List.isEmpty_nil, List.isEmpty_cons, Bool.false_eq_true, if_true, if_false, pure_bind]
    refine wpAny_bind (wpAny_newTextTuple ?_)
    have sz : s1.heap.objs.size ≤ s1.heap.objs.size := Nat.le_refl _
    refine go _ (.ref s1.heap.objs.size) [u] (I1.kept (t' := s1.toks) fun b o e => Heap.get?_push_of_some _ e) (.cons r1 .nil) ⟨_, _, _, rfl, Heap.get?_push_size _ rfl, rfl, I1.hok.fresh sz, fun z => ?_⟩
    rcases List.mem_cons.mp z with z | z
    · exact Nat.lt_irrefl _ (show s1.heap.objs.size < s1.heap.objs.size by
        have q := I1.lt
        rw [← z] at q
        exact q)
    · exact I1.nofs sz z
end
end OB
/-! What a law draws from: a list of a list of ints, how many draws were made, what is left of a great one. -/
namespace OB
open PySem PySem.Spec PyProof.Rows L2
/-- the lot stands at p, its ints at b; at most n draws were made -/
def Orch (H : Hp) (p b : Addr) (n : Nat) : Prop := ∃ (ns : List Int) (t l : Int), H p = some (.lst [.ref b, .int t, .int l]) ∧ H b = some (.lst (ns.map V.int)) ∧ 0 ≤ t ∧ t ≤ n
theorem Orch.ne {H : Hp} {p b : Addr} {n : Nat} (o : Orch H p b n) : p ≠ b := by
  obtain ⟨ns, t, l, h1, h2, _⟩ := o
  refine ne_of h1 h2 fun z => ?_
  injection z with z
  cases ns with
  | nil => cases z
  | cons a r =>
    injection z with z _
    cases z
theorem Orch.keep {H H' : Hp} {p b : Addr} {n : Nat} (o : Orch H p b n) (hp : ∀ u, H p = some u → H' p = some u) (hb : ∀ u, H b = some u → H' b = some u) : Orch H' p b n := by
  obtain ⟨ns, t, l, h1, h2, h3⟩ := o
  exact ⟨ns, t, l, hp _ h1, hb _ h2, h3⟩
theorem Orch.same {H H' : Hp} {p b : Addr} {n : Nat} (o : Orch H p b n) (s : Same H H') : Orch H' p b n := o.keep (fun u => s p u) fun u => s b u
theorem Orch.mono {H : Hp} {p b : Addr} {n m : Nat} (o : Orch H p b n) (h : n ≤ m) : Orch H p b m := by
  obtain ⟨ns, t, l, h1, h2, h3, h4⟩ := o
  exact ⟨ns, t, l, h1, h2, h3, by omega⟩
theorem Orch.pn {H : Hp} {p b : Addr} {n : Nat} (o : Orch H p b n) : ∃ u, H p = some u := by
  obtain ⟨ns, t, l, h1, h2, h3, h4⟩ := o
  exact ⟨_, h1⟩
theorem Orch.bn {H : Hp} {p b : Addr} {n : Nat} (o : Orch H p b n) : ∃ u, H b = some u := by
  obtain ⟨ns, t, l, h1, h2, h3, h4⟩ := o
  exact ⟨_, h2⟩
/-- all that was tracked is as it was, but what stands at p -/
def But (p : Addr) (H H' : Hp) : Prop := ∀ q o, H q = some o → q ≠ p → H' q = some o
theorem But.refl {p : Addr} {H : Hp} : But p H H := fun _ _ h _ => h
theorem But.of {p : Addr} {H H' : Hp} (s : Same H H') : But p H H' := fun q o h _ => s q o h
theorem But.trans {p : Addr} {H H1 H2 : Hp} (a : But p H H1) (b : But p H1 H2) : But p H H2 := fun q o h n => b q o (a q o h n) n
theorem same_new {H : Hp} {l : Addr} {o : HO} (h : H l = none) : Same H (upd H l o) := fun b u e => by
  rw [upd_ne (ne_of_none e h)]
  exact e
theorem but_at {H : Hp} {p : Addr} {o : HO} : But p H (upd H p o) := fun q u e n => by
  rw [upd_ne n]
  exact e
/-- a draw from many: some number below many; the lot goes on -/
def spDraw : Sp := fun vs H Q _ => ∃ (p b : Addr) (n : Nat) (many : Int), vs = [.ref p, .int many] ∧ Orch H p b n ∧ n < 1000000 ∧ 0 < many ∧ many.natAbs < 2 ^ 9000 ∧
  ∀ (r : Int) (H' : Hp), 0 ≤ r → r < many → Orch H' p b (n + 1) → But p H H' → Q (.int r) H'
/-- the lot is made of a list of ints -/
def spLot (K : PySem.W.Frag) : Sp := fun vs H Q _ => ∃ (a : Addr) (ns : List Int), vs = [.ref a] ∧ SqL K H a (ns.map V.int) ∧ ns.length ≤ 63 ∧
  ∀ (p b : Addr) (H' : Hp), H p = none → H b = none → Orch H' p b 0 → Same H H' → Q (.ref p) H'
theorem mix1 {x t A B m : Int} (hm : 0 < m) (hm2 : m < 2 ^ 31) (ht : 0 ≤ t) (ht2 : t ≤ 1000000) (hA : 0 ≤ A) (hA2 : A ≤ 1000000) (hB : 0 ≤ B) (hB2 : B ≤ 1000000) : (x % m + A * t + B).natAbs < 2 ^ 64 := by
  have h1 := Int.emod_nonneg x (by omega : m ≠ 0)
  have h2 := Int.emod_lt_of_pos x hm
  have h3 : A * t ≤ 1000000 * 1000000 := Int.mul_le_mul hA2 ht2 ht (by decide)
  have h4 : 0 ≤ A * t := Int.mul_nonneg hA ht
  omega
theorem mix2 {x t A B C m : Int} (hm : 0 < m) (hm2 : m < 2 ^ 31) (ht : 0 ≤ t) (ht2 : t ≤ 1000000) (hA : 0 ≤ A) (hA2 : A ≤ 1000000) (hB : 0 ≤ B) (hB2 : B ≤ 1000000) (hC : 0 ≤ C) (hC2 : C ≤ 1000000) : (x % m * (2 * t + C) + A * t * t + B).natAbs < 2 ^ 64 := by
  have h1 := Int.emod_nonneg x (by omega : m ≠ 0)
  have h2 := Int.emod_lt_of_pos x hm
  have h3 : A * t ≤ 1000000 * 1000000 := Int.mul_le_mul hA2 ht2 ht (by decide)
  have h4 : 0 ≤ A * t := Int.mul_nonneg hA ht
  have h5 : A * t * t ≤ 1000000 * 1000000 * 1000000 := Int.mul_le_mul h3 ht2 ht (by decide)
  have h6 : 0 ≤ A * t * t := Int.mul_nonneg h4 ht
  have h7 : x % m * (2 * t + C) ≤ 2 ^ 31 * 3000000 := Int.mul_le_mul (by omega) (by omega) (by omega) (by decide)
  have h8 : 0 ≤ x % m * (2 * t + C) := Int.mul_nonneg h1 (by omega)
  omega
theorem mod_lim {x m : Int} (hm : 0 < m) (hm2 : m < 2 ^ 31) : -(2 ^ 64) < x % m ∧ x % m < 2 ^ 64 := by
  have h1 := Int.emod_nonneg x (by omega : m ≠ 0)
  have h2 := Int.emod_lt_of_pos x hm
  omega
theorem dp_ints {K : PySem.W.Frag} {H : Hp} : ∀ ns : List Int, DpAll K H (ns.map V.int) (ns.map PyData.int)
  | [] => .nil
  | n :: r => .cons (.int n) (dp_ints r)
theorem lay_ints : ∀ ns : List Int, PyData.canLayAll0 (ns.map PyData.int) = true
  | [] => by simp [PyData.canLayAll0]
  | n :: r => by simp [PyData.canLayAll0, PyData.canLay0, lay_ints r]
theorem deep_ints : ∀ ns : List Int, PyData.depthAll (ns.map PyData.int) ≤ 1
  | [] => by simp [PyData.depthAll]
  | n :: r => by
    have h := deep_ints r
    simp [PyData.depthAll, PyData.depth]
    omega
theorem shaped_ints (ns : List Int) : SeqAt.shaped (.list (ns.map PyData.int)) = true := by
  have h := deep_ints ns
  unfold SeqAt.shaped
  rw [Bool.and_eq_true]
  refine ⟨by simp [PyData.canLay0, lay_ints], decide_eq_true ?_⟩
  simp [PyData.depth]
  omega
theorem eqv_nil (ns : List Int) : PyData.eqv (.list (ns.map PyData.int)) (.list []) = decide (ns = []) := by
  cases ns with
  | nil => simp [PyData.eqv, PyData.eqvAll]
  | cons n r => simp [PyData.eqv, PyData.eqvAll]

/-! ### kinds of values: is it an integer -/
/-- x is of a kind of which isinstance(x, int) and not isinstance(x, bool) is b -/
def IsI (K : PySem.W.Frag) (H : Hp) (x : V) (b : Bool) : Prop := ∃ (n : String) (b1 b2 : Bool), TyX K H x (.type n) ∧ kitB n "int" = some b1 ∧ kitB n "bool" = some b2 ∧ b = (b1 && !b2)
section
variable {K : PySem.W.Frag} {H : Hp}
theorem isI_int (i : Int) : IsI K H (.int i) true := ⟨"int", true, false, .base (.int i), by decide +kernel, by decide +kernel, rfl⟩
theorem isI_non : IsI K H .non false := ⟨"NoneType", false, false, .base .non, by decide +kernel, by decide +kernel, rfl⟩
theorem isI_bl (b : Bool) : IsI K H (.bl b) false := ⟨"bool", true, true, .base (.bl b), by decide +kernel, by decide +kernel, rfl⟩
theorem isI_str (x : Str) : IsI K H (.str x) false := ⟨"str", false, false, .base (.str x), by decide +kernel, by decide +kernel, rfl⟩
theorem isI_lst {a : Addr} {xs : List V} (e : H a = some (.lst xs)) : IsI K H (.ref a) false := ⟨"list", false, false, .base (.lst e), by decide +kernel, by decide +kernel, rfl⟩
theorem isI_tup {a : Addr} {xs : List V} (e : H a = some (.tup xs)) : IsI K H (.ref a) false := ⟨"tuple", false, false, .base (.tup e), by decide +kernel, by decide +kernel, rfl⟩
theorem isI_dK {a : Addr} {kvs : List (Key × V)} (e : H a = some (.dK kvs)) : IsI K H (.ref a) false := ⟨"dict", false, false, .base (.dK e), by decide +kernel, by decide +kernel, rfl⟩
theorem isI_true {x : V} (h : IsI K H x true) : ∃ i, x = .int i := by
  obtain ⟨n, b1, b2, ty, e1, e2, e3⟩ := h
  have c1 : b1 = true := by
    cases b1
    · simp at e3
    · rfl
  have c2 : b2 = false := by
    cases b2
    · rfl
    · simp [c1] at e3
  subst c1 c2
  have no : ∀ {m : String}, kitB m "int" ≠ some true ∨ kitB m "bool" ≠ some false → n = m → False := fun h e => by
    subst e
    exact h.elim (fun z => z e1) fun z => z e2
  cases ty with
  | base h =>
    cases h with
    | int i => exact ⟨i, rfl⟩
    | non => exact (no (m := "NoneType") (.inl (by decide +kernel)) rfl).elim
    | bl b => exact (no (m := "bool") (.inr (by decide +kernel)) rfl).elim
    | str b => exact (no (m := "str") (.inl (by decide +kernel)) rfl).elim
    | flt b => exact (no (m := "float") (.inl (by decide +kernel)) rfl).elim
    | lst e => exact (no (m := "list") (.inl (by decide +kernel)) rfl).elim
    | frz e => exact (no (m := "list") (.inl (by decide +kernel)) rfl).elim
    | tup e => exact (no (m := "tuple") (.inl (by decide +kernel)) rfl).elim
    | dK e => exact (no (m := "dict") (.inl (by decide +kernel)) rfl).elim
    | dT e => exact (no (m := "dict") (.inl (by decide +kernel)) rfl).elim
  | byt b => exact (no (m := "bytes") (.inl (by decide +kernel)) rfl).elim
  | set e => exact (no (m := "set") (.inl (by decide +kernel)) rfl).elim
  | kList e c => exact (no (m := "list") (.inl (by decide +kernel)) rfl).elim
  | kTuple e c => exact (no (m := "tuple") (.inl (by decide +kernel)) rfl).elim
  | kDict e c => exact (no (m := "dict") (.inl (by decide +kernel)) rfl).elim
  | fTuple e => exact (no (m := "tuple") (.inl (by decide +kernel)) rfl).elim
  | fDict e => exact (no (m := "dict") (.inl (by decide +kernel)) rfl).elim
end
/-- a bound: an int or none -/
def oV : Option Int → V
  | none => .non
  | some i => .int i
def loOk (lo : Option Int) (i : Int) : Bool := match lo with
  | none => true
  | some l => decide (l ≤ i)
def hiOk (hi : Option Int) (i : Int) : Bool := match hi with
  | none => true
  | some h => decide (i ≤ h)
/-- an int within bounds -/
def inB (lo hi : Option Int) : V → Bool
  | .int i => loOk lo i && hiOk hi i
  | _ => false
def spIsInt (K : PySem.W.Frag) : Sp := fun vs H Q _ => ∃ (x : V) (b : Bool), vs = [x] ∧ IsI K H x b ∧ Q (.bl b) H
def spWithin (K : PySem.W.Frag) : Sp := fun vs H Q _ => ∃ (x : V) (lo hi : Option Int) (b : Bool), vs = [x, oV lo, oV hi] ∧ IsI K H x b ∧ Q (.bl (b && inB lo hi x)) H
/-- what raises the error at C, with its part, else returns None -/
def RaisesP (C : Addr) (part : Str) (E : XK) (H : Hp) : Prop := ∀ d, H d = none → E (.ref C) (some d) (upd H d (.xd [(("part" : Str), .str part)]))
def spNeedNumber (K : PySem.W.Frag) (C : Addr) : Sp := fun vs H Q E => ∃ (x : V) (part : Str) (lo hi : Option Int) (b : Bool), vs = [x, .str part, oV lo, oV hi] ∧ IsI K H x b ∧
  ((b && inB lo hi x) = true → Q .non H) ∧ ((b && inB lo hi x) = false → RaisesP C part E H)
def spNeedWord (K : PySem.W.Frag) (C : Addr) : Sp := fun vs H Q E => ∃ (x : V) (part : Str) (b : Bool), vs = [x, .str part] ∧ IsI K H x b ∧
  ((b && inB (some 0) none x) = true → Q .non H) ∧ ((b && inB (some 0) none x) = false → RaisesP C part E H)
/-- where nothing is raised the promise holds among calm ones -/
theorem calm_of {P : Program} {w : World} {K : PySem.W.Frag} {mg : Str → Option Value} {base : Heap} {k : Nat} {f : Addr} {fd : FuncData} {ps : List Str} {sp : Sp} (F : FnOk P w K mg base (L2.CX P w) k f fd ps sp) :
    FnOk P w K mg base CX0 k f fd ps (fun vs H Q _ => sp vs H Q fun _ _ _ => False) :=
  ⟨fun vs H Q E h => F.len vs H Q _ h, fun A outer s H args us vs Q E hr he hb hv hs => codeAny_mono (F.run A outer s H args us vs Q _ hr he hb hv hs) fun r s' hq => by
    cases r with
    | error e =>
      obtain ⟨_, _, _, _, _, _, _, _, _, _, _, _, z⟩ := hq
      exact z.elim
    | ok fl => cases fl <;> exact hq⟩
theorem iteB {b : Bool} {A B : Prop} (h1 : b = true → A) (h2 : b = false → B) : if b = true then A else B := by
  cases b with
  | true => exact iteT (h1 rfl)
  | false => exact iteF (h2 rfl)
end OB
set_option exponentiation.threshold 100000
/-! Own errors with one field, raised. -/
namespace OB
open PySem PySem.Spec PyProof.Rows L2
/-- a def of the text, as it stands behind the top -/
structure Df (K : PySem.W.Frag) (mg : Str → Option Value) (x : Str) (st : Stmt) (ps : List Str) (f : Addr) (fd : FuncData) : Prop where
  F : Fun K x x st f fd
  g : mg x = some (.ref f)
  b : Binds K fd ps []
/-- __init__(self, f): self.f = f of an own error -/
def spInit1 (K : PySem.W.Frag) (f : Str) : Sp := fun vs H Q _ => ∃ (a C : Addr) (v : V), vs = [.ref a, v] ∧ OexC K C ∧ PySem.W.findIn K (.ref C) f = some none ∧ H a = some (exo a C none) ∧
  ∀ dx, H dx = none → dx ≠ a → Q .non (upd (upd H dx (exd dx [(f, v)])) a (exo a C (some dx)))
section
variable {P : Program} {w : World} {K : PySem.W.Frag} {mg : Str → Option Value} {base : Heap}
theorem ok_init1 {qual : Str} {st : Stmt} {fI : Addr} {fd : FuncData} {f : Str} {p1 p2 p3 p4 : Pos} (F : Fun K "__init__" qual st fI fd) (S : FnScope ["self", f] ["self", f] (defScope st))
    (hb : defBody st = [.Assign [.Attribute (.Name "self" p1) f p2] (.Name f p3) p4])
    (hv : Vis (defScope st) f) (hs : Vis (defScope st) "self") (hd : (f == ("__debug__" : Str)) = false := by decide) (hcd : (f == ("__classdict__" : Str)) = false := by decide)
    (hsw : ∀ env : Env, swapsWith (.Name f p3) (some (.Attribute (.Name "self" p1) f p2)) p4.line env = pure false := by intro _; rfl) :
    FnOk P w K mg base CX0 1 fI fd ["self", f] (spInit1 K f) := by
  refine F.ok S (fun vs H Q E h => ?_) (fun cdv A outer s H vs Q E hr h => ?_)
  · obtain ⟨a, C, v, rfl, _⟩ := h
    rfl
  · obtain ⟨a, C, v, rfl, T, no, ha, k⟩ := h
    rw [hb]
    refine ⟨_, pss_one (ps_ost (pe_var (i := 0) rfl hs) (pe_var (i := 1) rfl hv hd hcd) (hsw _)), ?_⟩
    exact ⟨v, rfl, .ref a, rfl, a, C, rfl, T, no, .inl ⟨ha, fun dx n ne => k dx n ne⟩⟩
/-- an own error class with one field, as the top leaves it -/
structure Err (P : Program) (w : World) (K : PySem.W.Frag) (mg : Str → Option Value) (base : Heap) (x f : Str) (C fI : Addr) (fd : FuncData) : Prop where
  T : OexC K C
  iC : PySem.W.findIn K (.ref C) "__init__" = some (some (.ref fI))
  tI : PySem.W.typeIn K (.ref fI) = some (.type "function")
  F : FnOk P w K mg base CX0 1 fI fd ["self", f] (spInit1 K f)
  b : Binds K fd ["self", f] []
  g : mg x = some (.ref C)
  no : PySem.W.findIn K (.ref C) f = some none
theorem del_back {H : Hp} {a d : Addr} {o1 o2 o3 o4 : HO} (ha : H a = none) (n : d ≠ a) : upd (del (upd (upd (upd H a o1) d o2) a o3) a) d o4 = upd H d o4 := by
  funext b
  by_cases e : b = d
  · rw [e, upd_same, upd_same]
  · rw [upd_ne e, upd_ne e]
    by_cases e2 : b = a
    · rw [e2, del_same, ha]
    · rw [del_ne e2, upd_ne e2, upd_ne e, upd_ne e2]
end
/-- raise X(e) -/
def tRaise1 (K : PySem.W.Frag) (C : Addr) (f : Str) (W : WX) (te : TE) : TS := fun _ σ H => tMkO C (spInit1 K f) [] (tCons te tNil) σ H fun cls d H' => W cls d σ H'
theorem raise1_of {K : PySem.W.Frag} {C : Addr} {f : Str} {W : WX} {σ : L2.St} {H1 : Hp} {v : V} (T : OexC K C) (no : PySem.W.findIn K (.ref C) f = some none) (h : ∀ d, H1 d = none → W (.ref C) (some d) σ (upd H1 d (.xd [(f, v)]))) :
    tNil σ H1 fun xs H2 => (v :: xs).length ≤ 1000 ∧ ∀ a, H2 a = none → spInit1 K f (.ref a :: ((v :: xs) ++ [])) (upd H2 a (exo a C none))
      (fun u H3 => u = .non ∧ ∃ (d : Addr) (fs : List (Str × V)), H3 a = some (exo a C (some d)) ∧ H3 d = some (exd d fs) ∧ H2 d = none ∧ W (.ref C) (some d) σ (upd (del H3 a) d (.xd fs))) (fun _ _ _ => False) := by
  refine ⟨by show 1 ≤ 1000; decide, fun a ha => ⟨a, C, v, rfl, T, no, upd_same, fun dx nd ne => ?_⟩⟩
  rw [upd_ne ne] at nd
  refine ⟨rfl, dx, [(f, v)], upd_same, ?_, nd, ?_⟩
  · rw [upd_ne ne, upd_same]
  · rw [del_back ha ne]
    exact h dx nd
theorem ps_raise1 {X : Cx} {W : WX} {x f : Str} {C fI : Addr} {fd : FuncData} {e : Expr} {te : TE} {p p2 pos : Pos} (hc : X.calm = true) (tk : Takes X W) (R : Err X.prog X.w X.K X.mg X.base x f C fI fd) (hr : Room 2 X.A) (hg : Gl X x) (he : PE X e te)
    (hx : Passes CX0 X (fun _ _ _ => False) := by exact pass0) (hs : starEach [e] X.env = [(false, eval e X.env)] := by rfl) (hdb : (x == ("__debug__" : Str)) = false := by decide) :
    PS X (.Raise (some (.Call (.Name x p) [e] [] p2)) none pos) (tRaise1 X.K C f W te) :=
  ps_raise (pos := pos) hc tk (pmk_oex (p := p) (pos := p2) R.T R.iC R.tI R.F hr R.b .nil hx hg R.g (pa_cons he pa_nil hs) hdb hs)
section
variable {X : Cx}
/-- 1 << k -/
theorem op_oneN : OpR X (binaryOp .LShift) (fun x y H Q => ∃ k : Nat, x = .int 1 ∧ y = .int (k : Int) ∧ k ≤ 1000000 ∧ Q (.int ((2 ^ k : Nat) : Int)) H) := by
  intro pins s σ H x y v u Q I rx ry h
  obtain ⟨k, rfl, rfl, c, q⟩ := h
  refine op_shl pins s σ H _ _ v u Q I rx ry ⟨_, _, rfl, rfl, ⟨Int.natCast_nonneg _, by omega, by decide⟩, ?_⟩
  have e : (1 : Int) * 2 ^ ((k : Int)).toNat = ((2 ^ k : Nat) : Int) := by
    rw [Int.one_mul, Int.toNat_natCast, Int.natCast_pow]
    rfl
  show Q (.int ((1 : Int) * 2 ^ ((k : Int)).toNat)) H
  rw [e]
  exact q
end
theorem pow_lt9 {i : Nat} (h : i ≤ 8000) : ((2 ^ i : Nat) : Int).natAbs < 2 ^ 9000 := by
  rw [Int.natAbs_natCast]
  exact Nat.pow_lt_pow_right (by decide) (by omega)
section
variable {X : Cx} {CX : CXT} {k : Nat} {f : Addr} {fd : FuncData} {ps ks : List Str} {sp : Sp} {E : XK} {x : Str} {p pos : Pos} {kws : List Keyword} {tk : TA} {g : List Value → List Value → List Value} {gV : List V → List V → List V}
/-- f(k = v, ..): keywords alone -/
theorem pe_callKo (F : FnOk X.prog X.w X.K X.mg X.base CX k f fd ps sp) (hr : Room k X.A) (hg : Gl X x) (hm : X.mg x = some (.ref f)) (hk : PySem.W.keepIn X.K (.ref f) = true) (hb : KBinds X.K fd ps ks g gV) (hx : Passes CX X E)
    (hkw : PK X kws tk) (hall : (backToKw pos (keywordEach kws X.env)).all (·.1.isSome) = true := by rfl) (hks : (backToKw pos (keywordEach kws X.env)).filterMap (·.1) = ks := by rfl)
    (hdb : (x == ("__debug__" : Str)) = false := by decide)
    (hpl : ((backTo pos (starEach [] X.env)).any (·.1) || (backToKw pos (keywordEach kws X.env)).any (·.1.isNone)) = false := by rfl) :
    PE X (.Call (.Name x p) [] kws pos) (tCallK sp gV E tNil tk) := by
  refine ⟨fun pins s σ H Q I h => ?_⟩
  refine wpAny_Call_Name_kw (ld_glob I hg hm ?_ hdb)
  refine PySem.W.callWith_KW0 (h₀ := X.base) I.ok.mod.kin hk hall ?_ hpl
  refine thn (hkw.run pos pins s σ H _ I h) fun ws s2 ⟨zs, H2, I2, rz, q2⟩ => ⟨I2.kIn, ?_⟩
  rw [hks]
  exact run_fnk (us := []) F hr hb hx I2 .nil rz q2
end
/-- how the keywords of a def without defaults bind -/
theorem kbinds {K : PySem.W.Frag} {x qual : Str} {st : Stmt} {f : Addr} {fd : FuncData} {ps ks : List Str} {g : List Value → List Value → List Value} {gV : List V → List V → List V} (F : Fun K x qual st f fd)
    (h : ∀ (kV doc pm : Value) (an : Option Addr) (cdv ct : Value) (us ws : List Value), (g us ws).length = ps.length → bindArgs (PySem.W.fnOf x qual (defArgs st) (defBody st) (defScope st) .none kV doc pm an cdv ct) ⟨us, ks.zip ws⟩ = pure (ps.zip (g us ws)))
    (r : ∀ {vs : List V} {us : List Value} {zs : List V} {ws : List Value}, Vals vs us → Vals zs ws → Vals (gV vs zs) (g us ws)) : KBinds K fd ps ks g gV := by
  obtain ⟨oc, od, kV, doc, pm, an, cdv, ct, osl, rfl, lk, hcd⟩ := F.ex
  exact ⟨fun s us ws _ hl => .of_eq (h kV doc pm an cdv ct us ws hl), r⟩
theorem inB_nat (m : Nat) : inB (some 0) none (.int (m : Int)) = true := by
  show (decide ((0 : Int) ≤ (m : Int)) && true) = true
  rw [decide_eq_true (Int.natCast_nonneg m)]
  rfl
/-- isinstance asks by the table of classes -/
theorem kit_sub {K : PySem.W.Frag} {t : Value} {C : Addr} {b : Bool} (h1 : PySem.W.isClsIn K C = true) (h2 : PySem.W.typeIn K (.ref C) = some (.type "type")) (self : PySem.W.subIn K (.ref C) (.ref C) = some true) (h : PySem.W.subIn K t (.ref C) = some b) :
    PySem.W.kitOne K t (.ref C) = some b := by
  unfold PySem.W.kitOne
  by_cases e : (t == Value.ref C) = true
  · rw [if_pos e]
    have e2 : t = Value.ref C := beq_iff_eq.mp e
    subst e2
    rw [self] at h
    exact h
  · rw [if_neg e]
    have h1' : (PySem.W.clsIn K C).isSome = true := h1
    show (if ((PySem.W.clsIn K C).isSome && PySem.W.typeIn K (.ref C) == some (.type "type")) = true then PySem.W.subIn K t (.ref C) else none) = some b
    rw [h1', h2]
    exact h
end OB
/-! Promises of defs where it is known that no repr is under way: there repr of a list or a tuple is its text. -/
namespace OB
open PySem PySem.Spec PyProof.Rows L2 LamX
/-- what FnOk promises, asked only where no repr is under way -/
structure FnG (P : Program) (w : World) (K : PySem.W.Frag) (mg : Str → Option Value) (base : Heap) (CX : CXT) (k : Nat) (f : Addr) (fd : FuncData) (ps : List Str) (sp : Sp) : Prop where
  len : ∀ vs H Q E, sp vs H Q E → vs.length = ps.length
  run : ∀ (A : Around) (outer : List Env) (s : Shared) (H : Hp) (args : Args) (us : List Value) (vs : List V) (Q : VK) (E : XK), A.guards = some [] → Room k A → Env0 P w K mg base A outer s H → BindsTo s fd args (ps.zip us) → Vals vs us → sp vs H Q E →
    codeAny (model P w) A (.call (.ref f) args) (CR CX outer P w H s Q E) s
section
variable {P : Program} {w : World} {K : PySem.W.Frag} {mg : Str → Option Value} {base : Heap} {CX : CXT} {k : Nat} {f : Addr} {fd : FuncData} {ps : List Str} {sp : Sp}
theorem FnG.of (F : FnOk P w K mg base CX k f fd ps sp) : FnG P w K mg base CX k f fd ps sp := ⟨F.len, fun A outer s H args us vs Q E _ => F.run A outer s H args us vs Q E⟩
theorem fnG_of {name qual : Str} {params : Arguments} {body : List Stmt} {scope : Scope} {dV kV doc pm cdv ct oc : Value} {an od : Option Addr} {osl : Array (Option Value)} {N : List Str}
    (lk : K.lookup f = some ⟨oc, od, .func (PySem.W.fnOf name qual params body scope dV kV doc pm an cdv ct), osl⟩) (hcd : PySem.W.codeIn K cdv qual = true) (S : FnScope N ps scope) (len : ∀ vs H Q E, sp vs H Q E → vs.length = ps.length)
    (hbody : ∀ (A : Around) (outer : List Env) (s : Shared) (H : Hp) (vs : List V) (Q : VK) (E : XK), A.guards = some [] → Room k (A.deeper (envOfC qual scope s.heap.objs.size f cdv)) → sp vs H Q E →
      ∃ t, PSs (cxOf CX P w K mg base N qual scope f cdv A outer s H E) body t ∧ t { nx := fun _ H' => Q .non H', rt := Q } (L2.start N vs) H) :
    FnG P w K mg base CX (k + 1) f (PySem.W.fnOf name qual params body scope dV kV doc pm an cdv ct) ps sp :=
  ⟨len, fun A outer s H args us vs Q E hgd hr e0 hb r hsp => run_ofS lk hcd S hr e0 hb r (len _ _ _ _ hsp) fun hr' => hbody A outer s H vs Q E hgd hr' hsp⟩
theorem okG {x qual : Str} {st : Stmt} {N : List Str} (F : Fun K x qual st f fd) (S : FnScope N ps (defScope st)) (len : ∀ vs H Q E, sp vs H Q E → vs.length = ps.length)
    (hbody : ∀ (cdv : Value) (A : Around) (outer : List Env) (s : Shared) (H : Hp) (vs : List V) (Q : VK) (E : XK), A.guards = some [] → Room k (A.deeper (envOfC qual (defScope st) s.heap.objs.size f cdv)) → sp vs H Q E →
      ∃ t, PSs (cxOf CX0 P w K mg base N qual (defScope st) f cdv A outer s H E).nox (defBody st) t ∧ t { nx := fun _ H' => Q .non H', rt := Q } (L2.start N vs) H) : FnG P w K mg base CX0 (k + 1) f fd ps sp := by
  obtain ⟨oc, od, kV, doc, pm, an, cdv, ct, osl, rfl, lk, hcd⟩ := F.ex
  refine fnG_of lk hcd S len fun A outer s H vs Q E hgd hr hsp => ?_
  obtain ⟨t, h, q⟩ := hbody cdv A outer s H vs Q E hgd hr hsp
  exact ⟨t, h.nox, q⟩
end
section
variable {X : Cx} {CX : CXT} {k : Nat} {f : Addr} {fd : FuncData} {ps : List Str} {sp : Sp} {E : XK} {x : Str} {p pos : Pos} {e : Expr} {es : List Expr} {t : TA} {ds : List Value} {dvs : List V}
theorem run_fnG {pins : List (Addr × Obj)} {σ : L2.St} {H : Hp} {s : Shared} {Q : VK} {us : List Value} {vs : List V} (F : FnG X.prog X.w X.K X.mg X.base CX k f fd ps sp) (hgd : X.A.guards = some []) (hr : Room k X.A) (hb : L2.Binds X.K fd ps ds) (hd : Vals dvs ds) (hx : Passes CX X E)
    (I : Inv X pins σ H s) (r : Vals vs us) (h : sp (vs ++ dvs) H Q E) : wpAny (model X.prog X.w) X.A (call (.ref f) us) (EP X pins σ Q) X.xe s := by
  have r2 : Vals (vs ++ dvs) (us ++ ds) := r.append hd
  have hl : (us ++ ds).length = ps.length := r2.length ▸ F.len _ _ _ _ h
  refine wpAny_call (codeAny_mono (F.run X.A X.stack s H ⟨us, []⟩ (us ++ ds) (vs ++ dvs) Q E hgd hr I.env0 (hb s us I.kIn hl) r2 h) fun res s' hq => ?_)
  match res, hq with
  | .error _, hq => exact hx pins σ H s _ s' I hq
  | .ok (.ret _), hq => exact I.after hq
/-- f(e, ..), f promised where no repr is under way -/
theorem pe_callG (F : FnG X.prog X.w X.K X.mg X.base CX k f fd ps sp) (hgd : X.A.guards = some []) (hr : Room k X.A) (hg : Gl X x) (hm : X.mg x = some (.ref f)) (hk : PySem.W.keepIn X.K (.ref f) = true) (hb : L2.Binds X.K fd ps ds) (hd : Vals dvs ds) (hx : Passes CX X E)
    (ha : PA X (e :: es) t) (hdb : (x == ("__debug__" : Str)) = false := by decide) (he : starEach (e :: es) X.env = (false, eval e X.env) :: starEach es X.env := by rfl) (hpl : (backTo pos (starEach es X.env)).any (·.1) = false := by rfl) :
    PE X (.Call (.Name x p) (e :: es) [] pos) (tCall sp dvs E t) :=
  ⟨fun pins s σ H Q I h => wpAny_Call_Name_kw (ld_glob I hg hm (PySem.W.callWith_K (h₀ := X.base) I.ok.mod.kin hk (thn (ha.run pos pins s σ H _ I h) fun us s1 ⟨vs, H1, I1, r, q⟩ => ⟨I1.kIn, run_fnG F hgd hr hb hd hx I1 r q⟩) he hpl) hdb)⟩
/-- repr(x), x data of lists and tuples -/
def rReprD (K : PySem.W.Frag) : List V → Hp → VK → Prop := fun xs H Q => ∃ (a : Addr) (d : PyData), xs = [.ref a] ∧ Dp K H (.ref a) d ∧ d.showable = true ∧ d.canLay0 = true ∧ d.depth ≤ 60 ∧ d.shown.length ≤ sizeLine ∧ Q (.str d.shown) H
theorem call_reprD (hgd : X.A.guards = some []) (hu : X.A.units + 64 < cLine) : CallR X (.builtin "repr") (rReprD X.K) := by
  intro pins s σ H xs us Q I r h
  obtain ⟨a, d, rfl, hd, hs, hl, hdp, hz, q⟩ := h
  cases r with
  | cons r rr =>
    cases rr
    obtain ⟨as, rd⟩ := Dp.reads I d _ _ hd r
    cases r
    refine repr_of_reads' rd hs (PyData.noDict_hsm (PyData.hasDict_of_canLay d hl)) hgd (by omega) (fun _ _ e => e) (fun h' u tk hk => ?_) hz
    exact ⟨.str d.shown, H, I.kept hk, ⟨_, rfl⟩, q⟩
end
end OB
/-! The law's own call, its promise asked only where no repr is under way. -/
namespace OB
open PySem PySem.Spec PyProof.Rows L2 LamX
section
variable {P : Program} {w : World} {K : PySem.W.Frag} {mg mb : Str → Option Value} {CX : CXT} {k : Nat} {fa a : Addr} {cs : List (Addr × Addr)} {fd : FuncData} {x : Str} {sp : Sp} {s₁ : Shared} {vs : List Value} {ns : List Int}
/-- what is tracked as the law begins: its script, where it is no part of the text's own objects, and the tables of its lambdas -/
def top (K : PySem.W.Frag) (a : Addr) (vs : List Value) (ns : List Int) (T : List Addr) : Hp := fun b =>
  if b = a then (if K.lookup a = none then some (.frz { cls := .type "list", data := .seq vs.toArray } (.lst (ns.map V.int))) else none) else if b ∈ T then some (.tbl #[]) else none
theorem top_some {T : List Addr} {b : Addr} {u : HO} (h : top K a vs ns T b = some u) :
    (b = a ∧ K.lookup a = none ∧ u = .frz { cls := .type "list", data := .seq vs.toArray } (.lst (ns.map V.int))) ∨ (b ≠ a ∧ b ∈ T ∧ u = .tbl #[]) := by
  unfold top at h
  by_cases e : b = a
  · rw [if_pos e] at h
    by_cases n : K.lookup a = none
    · rw [if_pos n] at h
      exact .inl ⟨e, n, (Option.some.inj h).symm⟩
    · rw [if_neg n] at h
      cases h
  · rw [if_neg e] at h
    by_cases m : b ∈ T
    · rw [if_pos m] at h
      exact .inr ⟨e, m, (Option.some.inj h).symm⟩
    · rw [if_neg m] at h
      cases h
theorem top_none {T : List Addr} {b : Addr} (h1 : b = a → K.lookup a ≠ none) (h2 : b ∉ T) : top K a vs ns T b = none := by
  cases e : top K a vs ns T b with
  | none => rfl
  | some u =>
    rcases top_some e with ⟨q, n, _⟩ | ⟨_, m, _⟩
    · exact absurd n (h1 q)
    · exact absurd m h2
theorem law_callG (KX : K.In s₁.heap) (hns : s₁.heap.Ns mainGlobals mg) (hb : s₁.heap.Ns builtinsNs mb) (hbb : ∀ x : Str, x ≠ "__name__" → mb x = bootBuiltins x) (hlim : s₁.heap.NoLimit) (hg : s₁.gens = #[])
    (hT : ∀ p ∈ cs, s₁.heap.get? p.2 = some { cls := .none, data := .fields #[] }) (nT : ∀ p ∈ cs, K.lookup p.2 = none) (C : ∀ p ∈ cs, PySem.W.CodeHd s₁.heap p.1 p.2)
    (hbm : ∃ (bm : Addr) (ob : Obj), mg "__builtins__" = some (.ref bm) ∧ bm ≠ builtinsNs ∧ s₁.heap.get? bm = some ob ∧ ob.cls = .type "module" ∧ ob.dict = some builtinsNs ∧ ob.data = .plain)
    (ha : s₁.heap.get? a = some { cls := .type "list", data := .seq vs.toArray }) (hi : IntsAre vs ns) (hl : ns.length ≤ sizeLine) (hr : Room k callerA)
    (F : ∀ base : Heap, K.In base → base.Ns mainGlobals mg → (∀ p ∈ cs, TabB base mg p.1 p.2) → FnG P w K mg base CX k fa fd [x] sp) (hbind : ∀ (s : Shared) (u : Value), BindsTo s fd ⟨[u], []⟩ [(x, u)])
    (hsp : ∀ H : Hp, (∀ p ∈ cs, H p.2 = some (.tbl #[])) → SqL K H a (ns.map V.int) → sp [.ref a] H (fun v _ => v = .bl true) fun _ _ _ => False)
    (hCX : ∀ H e s', CX [] H s₁ (fun _ _ _ => False) e s' → False) :
    codeAny (model P w) callerA (.call (.ref fa) ⟨[.ref a], []⟩) (fun r s' => r = .ok (.ret (.bool true)) ∧ OldK s₁.heap s'.heap ∧ s'.os = s₁.os ∧ AllBare s'.gens) s₁ := by
  have rv := vals_ints hi
  obtain ⟨T, eT⟩ : ∃ T, T = cs.map (·.2) := ⟨_, rfl⟩
  have inT : ∀ p ∈ cs, p.2 ∈ T := fun p hp => eT ▸ List.mem_map.mpr ⟨p, hp, rfl⟩
  have ofT : ∀ b ∈ T, ∃ p ∈ cs, p.2 = b := fun b h => List.mem_map.mp (eT ▸ h)
  have tab : ∀ b ∈ T, s₁.heap.get? b = some { cls := .none, data := .fields #[] } := fun b h => by
    obtain ⟨p, hp, rfl⟩ := ofT b h
    exact hT p hp
  have aT : a ∉ T := fun z => by
    have q := (tab a z).symm.trans ha
    have q := congrArg Obj.data (Option.some.inj q)
    cases q
  obtain ⟨H, eH⟩ : ∃ H, H = top K a vs ns T := ⟨_, rfl⟩
  have some_ : ∀ {b u}, H b = some u → (b = a ∧ K.lookup a = none ∧ u = .frz { cls := .type "list", data := .seq vs.toArray } (.lst (ns.map V.int))) ∨ (b ≠ a ∧ b ∈ T ∧ u = .tbl #[]) := fun h => top_some (by rw [eH] at h; exact h)
  have hH : ∀ p ∈ cs, H p.2 = some (.tbl #[]) := fun p hp => by
    have ne : p.2 ≠ a := fun z => aT (z ▸ inT p hp)
    rw [eH]
    unfold top
    rw [if_neg ne, if_pos (inT p hp)]
  have hok : HOk P w H s₁.heap := fun b u z => by
    rcases some_ z with ⟨rfl, _, rfl⟩ | ⟨_, m, rfl⟩
    · exact ⟨ha, by rw [List.length_map]; exact hl, vs, _, rv, ha⟩
    · exact tab b m
  have hS : SqL K H a (ns.map V.int) := by
    cases hk : K.lookup a with
    | none =>
      refine .inl (.inr ⟨{ cls := .type "list", data := .seq vs.toArray }, ?_⟩)
      rw [eH]
      unfold top
      rw [if_pos rfl, if_pos hk]
    | some o =>
      have e := (KX a o hk).symm.trans ha
      cases e
      exact .inr ⟨_, vs.toArray, _, hk, rfl, rfl, rfl, by rw [List.size_toArray, hi.length]; exact hl, by simpa using rv⟩
  -- what is no list and no empty table is not tracked
  have bare : ∀ {b : Addr} {o : Obj}, s₁.heap.get? b = some o → (∀ vs n, o.data ≠ .seq vs n) → o.data ≠ .fields #[] → H b = none := fun {b o} e h1 h2 => by
    cases q : H b with
    | none => rfl
    | some u =>
      rcases some_ q with ⟨rfl, _, _⟩ | ⟨_, m, _⟩
      · cases e.symm.trans ha
        exact (h1 _ _ rfl).elim
      · cases e.symm.trans (tab b m)
        exact (h2 rfl).elim
  have under : ∀ {b : Addr} {o : Obj}, s₁.heap.get? b = some o → H b = none → (hidT s₁.heap H).get? b = some o := fun e n => hidT_get e n
  have names : ∀ {b : Addr} {m : Str → Option Value}, s₁.heap.Ns b m → (hidT s₁.heap H).Ns b m := fun {b m} ⟨o, es, ep, e, d, r⟩ =>
    ⟨o, es, ep, under e (bare e (fun vs n z => by rw [d] at z; cases z) fun z => by rw [d] at z; cases z), d, r⟩
  have hKb : K.In (hidT s₁.heap H) := fun b o e => under (KX b o e) (by
    cases q : H b with
    | none => rfl
    | some u =>
      rcases some_ q with ⟨rfl, n, _⟩ | ⟨_, m, _⟩
      · rw [n] at e
        cases e
      · obtain ⟨p, hp, rfl⟩ := ofT b m
        rw [nT p hp] at e
        cases e)
  have hM : L2.Mod K mg (hidT s₁.heap H) := ⟨hKb, names hns, ⟨mb, names hb, hbb⟩, let ⟨mc, h1, h2⟩ := hlim; ⟨mc, names h1, h2⟩⟩
  have TB : ∀ p ∈ cs, TabB (hidT s₁.heap H) mg p.1 p.2 := fun p hp => by
    have hTp := hT p hp
    refine ⟨?_, ?_, fun z => ?_⟩
    · obtain ⟨o, us, file, tf, flags, tg, inF, text, tt, e1, r1, r2, r3, rest⟩ := C p hp
      exact ⟨o, us, file, tf, flags, tg, inF, text, tt, under e1 (bare e1 (fun vs n z => by rw [r2] at z; cases z) fun z => by
        rw [r2] at z
        cases z
        simp at r3), r1, r2, r3, rest⟩
    · obtain ⟨bm, ob, b1, b2, b3, b4, b5, b6⟩ := hbm
      refine ⟨bm, ob, b1, b2, fun q => ?_, fun q => ?_, under b3 (bare b3 (fun vs n z => by rw [b6] at z; cases z) fun z => by rw [b6] at z; cases z), b4, b5, b6⟩
      · obtain ⟨o, es, ep, e, hd, _⟩ := hns
        rw [q, e] at b3
        cases b3
        rw [hd] at b6
        cases b6
      · rw [q, hTp] at b3
        cases b3
        cases b6
    · obtain ⟨o, es, ep, e, hd, _⟩ := hns
      rw [z, hTp] at e
      cases e
      cases hd
  have e0 : Env0 P w K mg (hidT s₁.heap H) callerA [] s₁ H := ⟨rfl, hM, fun b o e => of_hidT e, Nat.le_of_eq (hidT_size _ _), trivial, fun b hb => absurd (show b ∈ ([] : List Addr) from hb) (by simp), hok, .of_eq hg⟩
  refine codeAny_mono ((F _ hKb (names hns) TB).run callerA [] s₁ H ⟨[.ref a], []⟩ [.ref a] [.ref a] _ _ rfl hr e0 (hbind s₁ (.ref a)) (.cons rfl .nil) (hsp H hH hS)) fun r s' h => ?_
  match r, h with
  | .error e, h => exact (hCX H e s' h).elim
  | .ok (.ret u), h =>
    obtain ⟨v, H', os, bs, un, hok', r', q⟩ := h
    have q : v = .bl true := q
    subst q
    obtain rfl : u = Value.bool true := r'
    have key : ∀ b o, b ∉ T → s₁.heap.get? b = some o → s'.heap.get? b = some o := fun b o nb e => by
      cases q : H b with
      | none => exact un.keep b o e q (by intro z; exact absurd (show b ∈ ([] : List Addr) from z) (by simp)) (by simp)
      | some u =>
        rcases some_ q with ⟨rfl, _, rfl⟩ | ⟨_, m, _⟩
        · obtain ⟨e1, _⟩ := hok b _ q
          obtain ⟨e2, _⟩ := hok' b _ (un.frzs b _ _ q)
          rw [e] at e1
          cases e1
          exact e2
        · exact absurd m nb
    have grown : ∀ p ∈ cs, ∃ more : Array Value, s'.heap.get? p.2 = some { cls := .none, data := .fields more } := fun p hp => by
      obtain ⟨more, z⟩ := un.tbls p.2 #[] (hH p hp)
      exact ⟨_, hok' p.2 _ z⟩
    refine ⟨rfl, ⟨fun b o e => ?_, fun b o e => ?_⟩, os, bs⟩
    · by_cases m : b ∈ T
      · obtain ⟨p, hp, rfl⟩ := ofT b m
        obtain ⟨more, hm⟩ := grown p hp
        rw [hT p hp] at e
        cases e
        exact .inr (.inl ⟨((C p hp).tab (hT p hp)).isCodeTable, rfl, #[], more, rfl, by rw [Array.empty_append]; exact hm⟩)
      · exact .inl (key b o m e)
    · by_cases m : b ∈ T
      · obtain ⟨p, hp, rfl⟩ := ofT b m
        obtain ⟨more, hm⟩ := grown p hp
        exact ⟨_, hm⟩
      · exact ⟨o, key b o m e⟩
/-- what is known of the law's promise at the head's heap -/
def LawG (l : PySem.W.OpenLaw) (w : World) (K : PySem.W.Frag) (CX : CXT) (k n : Nat) (x : Str) (mg : Str → Option Value) (fa : Addr) (h : Heap) : Prop :=
  ∃ (fd : FuncData) (cs : List (Addr × Addr)) (sp : Sp), ((∀ p ∈ cs, h.get? p.2 = some { cls := .none, data := .fields #[] }) ∧ (∀ p ∈ cs, K.lookup p.2 = none) ∧ (∀ p ∈ cs, PySem.W.CodeHd h p.1 p.2)) ∧ (∀ (s : Shared) (u : Value), BindsTo s fd ⟨[u], []⟩ [(x, u)]) ∧
    (∀ (H : Hp) (a : Addr) (ns : List Int), ns.length ≤ n → (∀ z ∈ ns, Builtin.Int.intBits z ≤ 1048576) → (∀ p ∈ cs, H p.2 = some (.tbl #[])) → SqL K H a (ns.map V.int) → sp [.ref a] H (fun v _ => v = .bl true) fun _ _ _ => False) ∧
    ∀ base : Heap, K.In base → base.Ns mainGlobals mg → (∀ p ∈ cs, TabB base mg p.1 p.2) → FnG l.prog w K mg base CX k fa fd [x] sp
end
theorem walk_G {l : PySem.W.OpenLaw} {n k : Nat} {q : Program} {loose : List Str} {XP : (Str → Option Value) → Heap → Prop} {YP : World → Heap → Prop} {d : DefRec} {K : Params → PySem.W.Frag} {CX : World → CXT} {x : Str}
    (hn : l.most = some n) (hn2 : n ≤ sizeLine) (hdf : d.params.defaults = []) (hr : Room k callerA) (hY : ∀ (w : World) (h : Heap), YP w h → (K w.params).In h)
    (F : ∀ (w : World) (mg : Str → Option Value) (fa : Addr) (h : Heap), YP w h → (K w.params).In h → h.Ns mainGlobals mg → mg d.name = some (.ref fa) → LawG l w (K w.params) (CX w) k n x mg fa h)
    (hCX : ∀ (w : World) (H : Hp) (s : Shared) (e : Value) (s' : Shared), CX w [] H s (fun _ _ _ => False) e s' → False) :
    PySem.W.WalkO q loose XP YP l.row.toRowW d [] (fun f vs => PySem.call f vs) := by
  refine Att.attach_callB hn hdf fun w s₀ s₁ mg mb fa o pm cd doc a vs ns G Y ho hd hcd hmg hobj hints hlen hbits hg => ?_
  have KX := hY w _ Y
  obtain ⟨fd, cs, sp, ⟨hT, nT, C⟩, hb, hsp, hF⟩ := F w mg fa _ Y KX G.T.g hmg
  exact law_callG KX G.T.g G.T.b G.T.builtins G.T.nolimit hg hT nT C G.T.bmain hobj hints (Nat.le_trans hlen hn2) hr hF hb (fun H hH hS => hsp H a ns hlen hbits hH hS) fun H e s' => hCX w H s₁ e s'
end OB
/-! repr of a list or a tuple of ints. -/
namespace OB
open PySem PySem.Spec PyProof.Rows L2
theorem shown_ints : ∀ ns : List Int, PyData.shownAll (ns.map PyData.int) = ns.map fun n => Str.ofString (toString n)
  | [] => by simp [PyData.shownAll]
  | n :: r => by simp [PyData.shownAll, PyData.shown, shown_ints r]
theorem show_ints : ∀ ns : List Int, (∀ n ∈ ns, n.natAbs.log2 < 1920) → PyData.showableAll (ns.map PyData.int) = true
  | [], _ => by simp [PyData.showableAll]
  | n :: r, h => by
    have h1 := h n List.mem_cons_self
    have h2 := show_ints r fun x hx => h x (List.mem_cons_of_mem _ hx)
    simp [PyData.showableAll, PyData.showable, h2, h1]
theorem piled_ints : ∀ ns : List Int, (∀ n ∈ ns, n.natAbs.log2 < 1920) → piled (ns.map fun n => Str.ofString (toString n)) ≤ 1923 * ns.length
  | [], _ => Nat.zero_le _
  | n :: r, h => by
    have h1 := int_text_len_1921 (h n List.mem_cons_self)
    have h2 := piled_ints r fun x hx => h x (List.mem_cons_of_mem _ hx)
    rw [List.map_cons, piled_cons, List.length_cons]
    omega
theorem list_len (ts : List Str) : (listText ts).length ≤ piled ts + 2 := by
  have one : (("[" : String) : Str).length = 1 := rfl
  have two : (("]" : String) : Str).length = 1 := rfl
  unfold listText
  rw [strLen_append, two]
  cases ts with
  | nil =>
    show (("[" : String) : Str).length + 1 ≤ _
    rw [one]
    exact Nat.le_add_left _ _
  | cons t r =>
    show (textFrom 1 ((("[" : String) : Str) ++ t) r).length + 1 ≤ _
    rw [textFrom_length_pos r 1 _ (by decide), strLen_append, one, piled_cons]
    omega
theorem depth_ints (ns : List Int) : PyData.depthAll (ns.map PyData.int) ≤ 1 := deep_ints ns
/-- the text of a list, of a tuple of ints -/
def tl (ns : List Int) : Str := PyData.shown (.list (ns.map PyData.int))
def tt (ns : List Int) : Str := PyData.shown (.tuple (ns.map PyData.int))
theorem tl_len {ns : List Int} (h : ∀ n ∈ ns, n.natAbs.log2 < 1920) (hl : ns.length ≤ 1000) : (tl ns).length ≤ sizeLine := by
  have a := piled_ints ns h
  have b := list_len (ns.map fun n => Str.ofString (toString n))
  show (listText (PyData.shownAll (ns.map PyData.int))).length ≤ sizeLine
  rw [shown_ints, sizeLine_eq]
  omega
theorem tt_len {ns : List Int} (h : ∀ n ∈ ns, n.natAbs.log2 < 1920) (hl : ns.length ≤ 1000) : (tt ns).length ≤ sizeLine := by
  have a := piled_ints ns h
  have b := fmt_text (ns.map fun n => Str.ofString (toString n))
  show (tupleText (PyData.shownAll (ns.map PyData.int))).length ≤ sizeLine
  rw [shown_ints, sizeLine_eq]
  omega
section
variable {X : Cx}
def rReprI (K : PySem.W.Frag) : List V → Hp → VK → Prop := fun xs H Q => ∃ (a : Addr) (ns : List Int), xs = [.ref a] ∧ (∀ n ∈ ns, n.natAbs.log2 < 1920) ∧ ns.length ≤ 1000 ∧ ((SqL K H a (ns.map V.int) ∧ Q (.str (tl ns)) H) ∨ (SqT K H a (ns.map V.int) ∧ Q (.str (tt ns)) H))
theorem call_reprI (hgd : X.A.guards = some []) (hu : X.A.units + 64 < cLine) : CallR X (.builtin "repr") (rReprI X.K) := by
  intro pins s σ H xs us Q I r h
  obtain ⟨a, ns, rfl, hs, hl, q⟩ := h
  have sh := show_ints ns hs
  have d := depth_ints ns
  rcases q with ⟨hq, q⟩ | ⟨hq, q⟩
  · refine call_reprD hgd hu pins s σ H _ us Q I r ⟨a, .list (ns.map PyData.int), rfl, Dp.lst hq (dp_ints ns), by simp [PyData.showable, sh], by simp [PyData.canLay0, lay_ints], ?_, tl_len hs hl, q⟩
    show PyData.depthAll (ns.map PyData.int) + 1 ≤ 60
    omega
  · refine call_reprD hgd hu pins s σ H _ us Q I r ⟨a, .tuple (ns.map PyData.int), rfl, Dp.tup hq (dp_ints ns), by simp [PyData.showable, sh], by simp [PyData.canLay0, lay_ints], ?_, tt_len hs hl, q⟩
    show PyData.depthAll (ns.map PyData.int) + 1 ≤ 60
    omega
end
end OB
/-! What a reader of errors told, call by call, in a list that grows; things that stay meanwhile. -/
namespace OB
open PySem PySem.Spec PyProof.Rows L2 LamX
/-- a list that begins with a reference, or a table: what may change -/
def refL : HO → Bool
  | .lst (.ref _ :: _) => true
  | .tbl _ => true
  | _ => false
def Keep (H H' : Hp) : Prop := ∀ q o, H q = some o → refL o = false → H' q = some o
section
variable {H H' H1 H2 : Hp}
theorem Keep.refl : Keep H H := fun _ _ h _ => h
theorem Keep.trans (a : Keep H H1) (b : Keep H1 H2) : Keep H H2 := fun q o h n => b q o (a q o h n) n
theorem Keep.ext (e : ExtN H H') : Keep H H' := fun q o h n => e q o h fun ps z => by
  subst z
  cases n
theorem Keep.same (s : Same H H') : Keep H H' := fun q o h _ => s q o h
theorem Keep.but {p : Addr} (b : But p H H') (hp : ∃ x r, H p = some (.lst (.ref x :: r))) : Keep H H' := fun q o h n => b q o h fun z => by
  obtain ⟨x, r, hp⟩ := hp
  rw [z, hp] at h
  cases h
  cases n
theorem orch_ref {p b : Addr} {n : Nat} (o : Orch H p b n) : ∃ x r, H p = some (.lst (.ref x :: r)) := by
  obtain ⟨ns, t, l, h1, _⟩ := o
  exact ⟨_, _, h1⟩
theorem orch_extN {p b : Addr} {n : Nat} (o : Orch H p b n) (e : ExtN H H') : Orch H' p b n := by
  obtain ⟨ns, t, l, h1, h2, h3⟩ := o
  exact ⟨ns, t, l, e _ _ h1 (fun _ z => nomatch z), e _ _ h2 (fun _ z => nomatch z), h3⟩
theorem tabs_butN {T : List (Addr × Str)} {p : Addr} {xs : List V} (t : Tabs T H) (b : But p H H') (hp : H p = some (.lst xs)) : Tabs T H' := fun x hx => by
  obtain ⟨ps, h1, h2, h3⟩ := t x hx
  have n1 : x.1 ≠ p := fun z => by
    rw [z, hp] at h1
    cases h1
  refine ⟨ps, b _ _ h1 n1, h2, fun pos cv hc => ?_⟩
  obtain ⟨c, e1, e2⟩ := h3 pos cv hc
  have n2 : c ≠ p := fun z => by
    rw [z, hp] at e2
    have e2 := Option.some.inj e2
    cases e2
  exact ⟨c, e1, b _ _ e2 n2⟩
theorem tabs_orchN {T : List (Addr × Str)} {p b : Addr} {n : Nat} (t : Tabs T H) (B : But p H H') (o : Orch H p b n) : Tabs T H' := by
  obtain ⟨ns, x, y, hp, _⟩ := o
  exact tabs_butN t B hp
/-- things that stay -/
def Fix (A : List (Addr × HO)) (H : Hp) : Prop := ∀ a ∈ A, H a.1 = some a.2 ∧ refL a.2 = false
theorem Fix.nil : Fix [] H := fun a h => absurd h List.not_mem_nil
theorem Fix.cons {A : List (Addr × HO)} {a : Addr} {o : HO} (h : H a = some o) (n : refL o = false) (f : Fix A H) : Fix ((a, o) :: A) H := fun x hx => by
  rcases List.mem_cons.mp hx with e | e
  · rw [e]
    exact ⟨h, n⟩
  · exact f x e
theorem Fix.keep {A : List (Addr × HO)} (f : Fix A H) (k : Keep H H') : Fix A H' := fun a ha => ⟨k _ _ (f a ha).1 (f a ha).2, (f a ha).2⟩
theorem Fix.get {A : List (Addr × HO)} (f : Fix A H) {a : Addr} {o : HO} (h : (a, o) ∈ A) : H a = some o := (f _ h).1
theorem Fix.app {A B : List (Addr × HO)} (f : Fix A H) (g : Fix B H) : Fix (A ++ B) H := fun a ha => by
  rcases List.mem_append.mp ha with e | e
  · exact f a e
  · exact g a e
/-- what the reader told: a kind and a part, or None -/
def Ent (H : Hp) (v : V) : Option (Str × Str) → Prop
  | none => v = .non
  | some k => ∃ t, v = .ref t ∧ H t = some (.tup [.str k.1, .str k.2])
def Res (H : Hp) : List V → List (Option (Str × Str)) → Prop
  | [], [] => True
  | v :: r, k :: ks => Ent H v k ∧ Res H r ks
  | _, _ => False
theorem Ent.keep {v : V} {k : Option (Str × Str)} (e : Ent H v k) (q : Keep H H') : Ent H' v k := by
  cases k with
  | none => exact e
  | some k =>
    obtain ⟨t, rfl, h⟩ := e
    exact ⟨t, rfl, q _ _ h rfl⟩
theorem Res.keep (q : Keep H H') : ∀ {vs : List V} {ks : List (Option (Str × Str))}, Res H vs ks → Res H' vs ks
  | [], [], _ => trivial
  | _ :: _, _ :: _, ⟨a, b⟩ => ⟨a.keep q, Res.keep q b⟩
theorem Res.snoc {v : V} {k : Option (Str × Str)} (e : Ent H v k) : ∀ {vs : List V} {ks : List (Option (Str × Str))}, Res H vs ks → Res H (vs ++ [v]) (ks ++ [k])
  | [], [], _ => ⟨e, trivial⟩
  | _ :: _, _ :: _, ⟨a, b⟩ => ⟨a, Res.snoc e b⟩
theorem Res.length : ∀ {vs : List V} {ks : List (Option (Str × Str))}, Res H vs ks → vs.length = ks.length
  | [], [], _ => rfl
  | _ :: _, _ :: _, ⟨_, b⟩ => congrArg (· + 1) (Res.length b)
def entD : Option (Str × Str) → PyData
  | none => .none
  | some k => .tuple [.str k.1, .str k.2]
theorem Ent.dp {K : PySem.W.Frag} {v : V} {k : Option (Str × Str)} (e : Ent H v k) : Dp K H v (entD k) := by
  cases k with
  | none =>
    have e : v = .non := e
    rw [e]
    exact .non
  | some k =>
    obtain ⟨t, rfl, h⟩ := e
    exact Dp.tup (SqT.of h) (.cons (.str _) (.cons (.str _) .nil))
theorem Res.dp {K : PySem.W.Frag} : ∀ {vs : List V} {ks : List (Option (Str × Str))}, Res H vs ks → DpAll K H vs (ks.map entD)
  | [], [], _ => .nil
  | _ :: _, _ :: _, ⟨a, b⟩ => .cons a.dp (Res.dp b)
/-- between two calls of the reader -/
structure St (T : List (Addr × Str)) (p b h : Addr) (A : List (Addr × HO)) (n : Nat) (H : Hp) (vs : List V) (ks : List (Option (Str × Str))) : Prop where
  tabs : Tabs T H
  orch : Orch H p b n
  at' : H h = some (.lst vs)
  hp : h ≠ p
  hb : h ≠ b
  fix : Fix A H
  res : Res H vs ks
  first : ∃ x r, vs = .ref x :: r
variable {T : List (Addr × Str)} {p b h : Addr} {A : List (Addr × HO)} {n m : Nat} {vs : List V} {ks : List (Option (Str × Str))}
theorem St.ext (s : St T p b h A n H vs ks) (e : ExtN H H') (t : Tabs T H') : St T p b h A n H' vs ks :=
  ⟨t, orch_extN s.orch e, e _ _ s.at' (fun _ z => nomatch z), s.hp, s.hb, s.fix.keep (.ext e), s.res.keep (.ext e), s.first⟩
theorem St.but (s : St T p b h A n H vs ks) (B : But p H H') (O : Orch H' p b m) : St T p b h A m H' vs ks :=
  ⟨tabs_orchN s.tabs B s.orch, O, B _ _ s.at' s.hp, s.hp, s.hb, s.fix.keep (.but B (orch_ref s.orch)), s.res.keep (.but B (orch_ref s.orch)), s.first⟩
theorem St.add {v : V} {k : Option (Str × Str)} (s : St T p b h A n H vs ks) (e : Ent H v k) : St T p b h A n (upd H h (.lst (vs ++ [v]))) (vs ++ [v]) (ks ++ [k]) := by
  obtain ⟨x, r, ev⟩ := s.first
  have B : But h H (upd H h (.lst (vs ++ [v]))) := but_at
  have kp : Keep H (upd H h (.lst (vs ++ [v]))) := .but B ⟨x, r, by rw [s.at', ev]⟩
  refine ⟨tabs_butN s.tabs B s.at', s.orch.keep (fun u hu => B _ _ hu (fun z => s.hp z.symm)) (fun u hu => B _ _ hu (fun z => s.hb z.symm)), upd_same, s.hp, s.hb, s.fix.keep kp, (s.res.keep kp).snoc (e.keep kp), x, r ++ [v], by rw [ev]; rfl⟩
theorem St.begin {t h : Addr} {k : Str × Str} (hT : Tabs T H) (O : Orch H p b n) (F : Fix A H) (e : Ent H (.ref t) (some k)) (hh : H h = none) : St T p b h A n (upd H h (.lst [.ref t])) [.ref t] [some k] := by
  have S := same_new (o := .lst [.ref t]) hh
  obtain ⟨u, hu⟩ := O.pn
  obtain ⟨u2, hu2⟩ := O.bn
  exact ⟨hT.ext S, O.same S, upd_same, (ne_of_none hu hh).symm, (ne_of_none hu2 hh).symm, F.keep (.same S), ⟨e.keep (.same S), trivial⟩, t, [], rfl⟩
end
end OB
/-! A call of a variable that holds one of some defs, all of which keep one promise. -/
namespace OB
open PySem PySem.Spec PyProof.Rows L2
def AskOk (P : Program) (w : World) (K : PySem.W.Frag) (mg : Str → Option Value) (base : Heap) (CX : CXT) (k : Nat) (f : Addr) (sp : Sp) : Prop :=
  ∃ (fd : FuncData) (ps : List Str), FnOk P w K mg base CX k f fd ps sp ∧ L2.Binds K fd ps [] ∧ PySem.W.keepIn K (.ref f) = true
theorem askOk_of {P : Program} {w : World} {K : PySem.W.Frag} {mg : Str → Option Value} {base : Heap} {CX : CXT} {j k : Nat} {f : Addr} {fd : FuncData} {ps : List Str} {sp sp' : Sp} (F : FnOk P w K mg base CX j f fd ps sp') (h : ∀ vs H Q E, sp vs H Q E → sp' vs H Q E) (hj : j ≤ k)
    (b : L2.Binds K fd ps []) (kp : PySem.W.keepIn K (.ref f) = true) : AskOk P w K mg base CX k f sp :=
  ⟨fd, ps, ⟨fun vs H Q E z => F.len _ _ _ _ (h _ _ _ _ z), fun A outer s H args us vs Q E hr e0 hb r hs => F.run A outer s H args us vs Q E (hr.mono hj) e0 hb r (h _ _ _ _ hs)⟩, b, kp⟩
section
variable {X : Cx} {CX : CXT} {k i : Nat} {L : List Addr} {sp : Sp} {E : L2.St → XK} {x : Str} {p pos : Pos} {e : Expr} {es : List Expr} {t : TA}
def tCallVs (L : List Addr) (i : Nat) (sp : Sp) (E : L2.St → XK) (t : TA) : TE := fun σ H Q => ∃ f ∈ L, σ[i]? = some (some (.ref f)) ∧ t σ H fun vs H1 => sp vs H1 Q (E σ)
theorem pe_callVs (F : ∀ f ∈ L, AskOk X.prog X.w X.K X.mg X.base CX k f sp) (hr : Room k X.A) (hx : ∀ σ, PassesAt CX X σ (E σ)) (hN : X.N[i]? = some x) (hv : Vis X.env.scope x) (ha : PA X (e :: es) t)
    (hd : (x == ("__debug__" : Str)) = false := by decide) (hcd : (x == ("__classdict__" : Str)) = false := by decide)
    (he : starEach (e :: es) X.env = (false, eval e X.env) :: starEach es X.env := by rfl) (hpl : (backTo pos (starEach es X.env)).any (·.1) = false := by rfl) : PE X (.Call (.Name x p) (e :: es) [] pos) (tCallVs L i sp E t) := by
  refine ⟨fun pins s σ H Q I h => ?_⟩
  obtain ⟨f, hf, hs, h⟩ := h
  obtain ⟨fd, ps, G, b, kp⟩ := F f hf
  refine wpAny_Call_Name_kw (thn ((pe_var (pos := p) (i := i) hN hv hd hcd).run pins s σ H (fun v H1 => v = .ref f ∧ H1 = H) I ⟨.ref f, hs, rfl, rfl⟩) fun u s1 ⟨v, H1, I1, r1, ev, eH⟩ => ?_)
  subst ev
  rw [eH] at I1
  cases r1
  refine PySem.W.callWith_K (h₀ := X.base) I.ok.mod.kin kp (thn (ha.run pos pins s1 σ H _ I1 h) fun us s2 ⟨vs, H2, I2, r, q⟩ => ⟨I2.kIn, ?_⟩) he hpl
  exact run_fnS G hr b (hx σ) I2 r q
end
end OB
/-! Ones of a number, pairs of neighbours below it. -/
namespace M04
theorem two_pos (k : Nat) : 0 < 2 ^ k := Nat.pow_pos (by decide)
def cnt (n : Nat) : Nat → Nat
  | 0 => 0
  | k + 1 => cnt n k + n / 2 ^ k % 2
theorem cnt_low (n k : Nat) : cnt n (k + 1) = n % 2 + cnt (n / 2) k := by
  induction k with
  | zero =>
    show 0 + n / 2 ^ 0 % 2 = n % 2 + 0
    rw [Nat.pow_zero, Nat.div_one]
    omega
  | succ k ih =>
    show cnt n (k + 1) + n / 2 ^ (k + 1) % 2 = n % 2 + (cnt (n / 2) k + n / 2 / 2 ^ k % 2)
    rw [ih, Nat.div_div_eq_div_mul, Nat.pow_succ, Nat.mul_comm 2]
    omega
def pc (n : Nat) : Nat := cnt n n
theorem cnt_zero (k : Nat) : cnt 0 k = 0 := by
  induction k with
  | zero => rfl
  | succ k ih =>
    show cnt 0 k + 0 / 2 ^ k % 2 = 0
    rw [ih, Nat.zero_div]
theorem cnt_more {n k : Nat} (h : n < 2 ^ k) : cnt n (k + 1) = cnt n k := by
  show cnt n k + n / 2 ^ k % 2 = cnt n k
  rw [Nat.div_eq_of_lt h]
  rfl
theorem cnt_up {n k : Nat} (h : n < 2 ^ k) (m : Nat) : cnt n (k + m) = cnt n k := by
  induction m with
  | zero => rfl
  | succ m ih =>
    have h2 : n < 2 ^ (k + m) := Nat.lt_of_lt_of_le h (Nat.pow_le_pow_right (by decide) (Nat.le_add_right k m))
    exact (cnt_more h2).trans ih
theorem cnt_pc {n k : Nat} (h : n < 2 ^ k) : cnt n k = pc n := by
  unfold pc
  have h2 : n < 2 ^ n := Nat.lt_two_pow_self
  by_cases c : k ≤ n
  · have e := cnt_up h (n - k)
    rw [show k + (n - k) = n by omega] at e
    exact e.symm
  · have e := cnt_up h2 (k - n)
    rw [show n + (k - n) = k by omega] at e
    exact e
theorem pc_half (n : Nat) : pc n = n % 2 + pc (n / 2) := by
  have h : n < 2 ^ (n + 1) := Nat.lt_trans Nat.lt_two_pow_self (Nat.pow_lt_pow_right (by decide) (Nat.lt_succ_self n))
  have h2 : n / 2 < 2 ^ n := by
    rw [Nat.pow_succ] at h
    omega
  rw [← cnt_pc h, cnt_low, cnt_pc h2]
theorem pc_two (n : Nat) : pc (2 * n) = pc n := by
  rw [pc_half, show 2 * n % 2 = 0 by omega, show 2 * n / 2 = n by omega, Nat.zero_add]
theorem pc_odd (n : Nat) : pc (2 * n + 1) = pc n + 1 := by
  rw [pc_half, show (2 * n + 1) % 2 = 1 by omega, show (2 * n + 1) / 2 = n by omega, Nat.add_comm]
theorem pc_zero : pc 0 = 0 := rfl
/-- the ones of all words below n -/
def E : Nat → Nat
  | 0 => 0
  | n + 1 => E n + pc n
theorem E_two (m : Nat) : E (2 * m) = 2 * E m + m := by
  induction m with
  | zero => rfl
  | succ m ih =>
    show E (2 * m) + pc (2 * m) + pc (2 * m + 1) = 2 * (E m + pc m) + (m + 1)
    rw [ih, pc_two, pc_odd]
    omega
theorem E_odd (m : Nat) : E (2 * m + 1) = E m + E (m + 1) + m := by
  show E (2 * m) + pc (2 * m) = E m + (E m + pc m) + m
  rw [E_two, pc_two]
  omega
theorem E_even (m : Nat) : E (2 * m + 2) = 2 * E (m + 1) + m + 1 := E_two (m + 1)
def T (b : Nat) : Nat := b * 2 ^ b / 2
theorem T_succ (b : Nat) : T (b + 1) = (b + 1) * 2 ^ b := by
  unfold T
  rw [Nat.pow_succ, ← Nat.mul_assoc, Nat.mul_div_cancel _ (by decide)]
theorem T_two (b : Nat) : 2 * T b = b * 2 ^ b := by
  cases b with
  | zero => rfl
  | succ b => rw [T_succ, Nat.pow_succ, Nat.mul_comm 2, Nat.mul_assoc]
theorem pc_pow (q b : Nat) : pc (q * 2 ^ b) = pc q := by
  induction b with
  | zero => rw [Nat.pow_zero, Nat.mul_one]
  | succ b ih => rw [Nat.pow_succ, ← Nat.mul_assoc, Nat.mul_comm, pc_two, ih]
theorem E_pow (q b : Nat) : E (q * 2 ^ b + 2 ^ b) = E (q * 2 ^ b) + pc q * 2 ^ b + T b := by
  induction b with
  | zero =>
    show E (q * 1 + 1) = E (q * 1) + pc q * 1 + 0
    rw [Nat.mul_one, Nat.mul_one]
    rfl
  | succ b ih =>
    have e1 : q * 2 ^ (b + 1) = 2 * (q * 2 ^ b) := by rw [Nat.pow_succ, ← Nat.mul_assoc, Nat.mul_comm]
    have e2 : 2 ^ (b + 1) = 2 * 2 ^ b := by rw [Nat.pow_succ, Nat.mul_comm]
    rw [e1, e2, ← Nat.mul_add, E_two, E_two, ih, T_succ, Nat.mul_add, Nat.mul_add, T_two, Nat.add_mul]
    have e3 : pc q * (2 * 2 ^ b) = 2 * (pc q * 2 ^ b) := by rw [← Nat.mul_assoc, Nat.mul_comm (pc q), Nat.mul_assoc]
    rw [e3]
    omega
/-- the bits of n below c, descending -/
def D (n : Nat) : Nat → List Nat
  | 0 => []
  | c + 1 => if n / 2 ^ c % 2 = 1 then c :: D n c else D n c
def S : List Nat → Nat → Nat → Nat
  | [], _, acc => acc
  | b :: r, a, acc => S r (a + 1) (acc + a * 2 ^ b + T b)
theorem S_is (n c : Nat) : S (D n c) (pc (n / 2 ^ c)) (E (n / 2 ^ c * 2 ^ c)) = E n := by
  induction c with
  | zero =>
    show E (n / 2 ^ 0 * 2 ^ 0) = E n
    rw [Nat.pow_zero, Nat.div_one, Nat.mul_one]
  | succ c ih =>
    have e : n / 2 ^ (c + 1) = n / 2 ^ c / 2 := by rw [Nat.pow_succ, Nat.div_div_eq_div_mul]
    have e2 : n / 2 ^ (c + 1) * 2 ^ (c + 1) = 2 * (n / 2 ^ c / 2) * 2 ^ c := by
      rw [e, Nat.pow_succ, Nat.mul_comm (2 ^ c), ← Nat.mul_assoc, Nat.mul_comm _ 2]
    unfold D
    by_cases h : n / 2 ^ c % 2 = 1
    · rw [if_pos h, e2, e]
      show S (D n c) (pc (n / 2 ^ c / 2) + 1) (E (2 * (n / 2 ^ c / 2) * 2 ^ c) + pc (n / 2 ^ c / 2) * 2 ^ c + T c) = E n
      have p1 : pc (n / 2 ^ c / 2) + 1 = pc (n / 2 ^ c) := by rw [pc_half (n / 2 ^ c), h, Nat.add_comm]
      have p2 : pc (n / 2 ^ c / 2) = pc (2 * (n / 2 ^ c / 2)) := (pc_two _).symm
      have p3 : 2 * (n / 2 ^ c / 2) * 2 ^ c + 2 ^ c = n / 2 ^ c * 2 ^ c := by
        have z : n / 2 ^ c = 2 * (n / 2 ^ c / 2) + 1 := by omega
        conv => rhs; rw [z]
        rw [Nat.add_mul, Nat.one_mul]
      rw [p1, p2, ← E_pow, p3]
      exact ih
    · rw [if_neg h, e2, e]
      have z : 2 * (n / 2 ^ c / 2) = n / 2 ^ c := by omega
      have p1 : pc (n / 2 ^ c / 2) = pc (n / 2 ^ c) := by
        have q := pc_two (n / 2 ^ c / 2)
        rw [z] at q
        exact q.symm
      rw [z, p1]
      exact ih
theorem S_all {n c : Nat} (h : n < 2 ^ c) : S (D n c) 0 0 = E n := by
  have e := S_is n c
  rw [Nat.div_eq_of_lt h, Nat.zero_mul] at e
  exact e
theorem E_two_pow (p : Nat) : E (2 * 2 ^ p) = (p + 1) * 2 ^ p := by
  have e := E_pow 0 (p + 1)
  rw [Nat.zero_mul, Nat.zero_add, T_succ] at e
  have e2 : 2 ^ (p + 1) = 2 * 2 ^ p := by rw [Nat.pow_succ, Nat.mul_comm]
  rw [e2] at e
  rw [e]
  show 0 + 0 * _ + _ = _
  rw [Nat.zero_mul]
  omega
/-- the bits of n below c, ascending -/
theorem D_rev (n c : Nat) : (D n c).reverse = (List.range c).filter fun i => decide (n / 2 ^ i % 2 = 1) := by
  induction c with
  | zero => rfl
  | succ c ih =>
    rw [List.range_succ, List.filter_append, ← ih]
    show (if n / 2 ^ c % 2 = 1 then c :: D n c else D n c).reverse = _
    by_cases h : n / 2 ^ c % 2 = 1
    · rw [if_pos h, List.reverse_cons]
      simp [h]
    · rw [if_neg h]
      simp [h]
theorem D_lt {n c b : Nat} (h : b ∈ D n c) : b < c := by
  have e : b ∈ (D n c).reverse := List.mem_reverse.mpr h
  rw [D_rev] at e
  exact List.mem_range.mp (List.mem_filter.mp e).1
theorem D_len (n c : Nat) : (D n c).length ≤ c := by
  rw [← List.length_reverse, D_rev]
  exact Nat.le_trans (List.length_filter_le _ _) (by rw [List.length_range]; exact Nat.le_refl _)
/-! ### signs -/
/-- the signs of n to the base 2, the lowest first -/
def R (n : Nat) : List Nat := ((Nat.toDigits 2 n).map fun c => c.toNat).reverse
theorem R_small {n : Nat} (h : n < 2) : R n = [48 + n] := by
  unfold R
  rw [Nat.toDigits_of_lt_base h]
  have e : n = 0 ∨ n = 1 := by omega
  rcases e with rfl | rfl <;> rfl
theorem R_big {n : Nat} (h : 2 ≤ n) : R n = (48 + n % 2) :: R (n / 2) := by
  unfold R
  rw [Nat.toDigits_of_base_le (by decide) h, List.map_append, List.reverse_append]
  have e : n % 2 = 0 ∨ n % 2 = 1 := by omega
  rcases e with z | z <;> rw [z] <;> rfl
theorem R_facts : ∀ n : Nat, n < 2 ^ (R n).length ∧ (∀ i, i < (R n).length → (R n)[i]? = some (48 + n / 2 ^ i % 2)) := by
  intro n
  induction n using Nat.strongRecOn with
  | ind n ih =>
    by_cases h : n < 2
    · rw [R_small h]
      refine ⟨by show n < 2 ^ 1; omega, fun i hi => ?_⟩
      have hi : i < 1 := hi
      have e : i = 0 := by omega
      subst e
      show some (48 + n) = some (48 + n / 2 ^ 0 % 2)
      rw [Nat.pow_zero, Nat.div_one, Nat.mod_eq_of_lt h]
    · have h2 : 2 ≤ n := by omega
      obtain ⟨a, b⟩ := ih (n / 2) (by omega)
      rw [R_big h2]
      refine ⟨?_, fun i hi => ?_⟩
      · show n < 2 ^ ((R (n / 2)).length + 1)
        rw [Nat.pow_succ]
        omega
      · cases i with
        | zero =>
          show some (48 + n % 2) = some (48 + n / 2 ^ 0 % 2)
          rw [Nat.pow_zero, Nat.div_one]
        | succ i =>
          show (R (n / 2))[i]? = _
          rw [b i (by have hi : i + 1 < (R (n / 2)).length + 1 := hi; omega), Nat.div_div_eq_div_mul, Nat.pow_succ, Nat.mul_comm 2]
theorem R_len {n k : Nat} (hk : 0 < k) (h : n < 2 ^ k) : (R n).length ≤ k := by
  induction k generalizing n with
  | zero => exact absurd hk (by decide)
  | succ k ih =>
    by_cases c : n < 2
    · rw [R_small c]
      exact Nat.succ_le_succ (Nat.zero_le _)
    · rw [R_big (by omega)]
      rw [Nat.pow_succ] at h
      have hk2 : 0 < k := by
        cases k with
        | zero =>
          rw [Nat.pow_zero] at h
          omega
        | succ k => exact Nat.succ_pos k
      exact Nat.succ_le_succ (ih hk2 (by omega))
theorem R_count (n : Nat) : (R n).countP (fun c => decide (c = 49)) = pc n := by
  induction n using Nat.strongRecOn with
  | ind n ih =>
    by_cases h : n < 2
    · rw [R_small h]
      have e : n = 0 ∨ n = 1 := by omega
      rcases e with rfl | rfl <;> rfl
    · rw [R_big (by omega), List.countP_cons, ih (n / 2) (by omega), pc_half n]
      have e : n % 2 = 0 ∨ n % 2 = 1 := by omega
      rcases e with z | z <;> rw [z] <;> simp <;> omega
theorem cnt_le (n k : Nat) : cnt n k ≤ k := by
  induction k with
  | zero => exact Nat.le_refl _
  | succ k ih =>
    show cnt n k + n / 2 ^ k % 2 ≤ k + 1
    omega
theorem pc_le {n k : Nat} (h : n < 2 ^ k) : pc n ≤ k := by
  rw [← cnt_pc h]
  exact cnt_le n k
theorem E_le {n k : Nat} (h : n ≤ 2 ^ k) : E n ≤ n * k := by
  induction n with
  | zero => exact Nat.zero_le _
  | succ n ih =>
    have a := ih (Nat.le_of_succ_le h)
    have b := pc_le (n := n) (k := k) (Nat.lt_of_succ_le h)
    show E n + pc n ≤ (n + 1) * k
    rw [Nat.add_mul, Nat.one_mul]
    omega
theorem E_lt {n : Nat} (h : n < 2 ^ 402) : E n < 2 ^ 500 := by
  refine Nat.lt_of_le_of_lt (E_le (Nat.le_of_lt h)) ?_
  have a : n * 402 ≤ 2 ^ 402 * 402 := Nat.mul_le_mul_right _ (Nat.le_of_lt h)
  exact Nat.lt_of_le_of_lt a (by decide)
end M04
set_option maxHeartbeats 1000000
namespace M07
def gray (n : Nat) : Nat := n ^^^ (n >>> 1)
theorem gray_bit (n i : Nat) : (gray n).testBit i = (n.testBit i ^^ n.testBit (i + 1)) := by
  unfold gray
  rw [Nat.testBit_xor, Nat.testBit_shiftRight, Nat.add_comm 1 i]
theorem tele (p s : Nat) : (p ^^^ (p >>> s)) ^^^ ((p ^^^ (p >>> s)) >>> s) = p ^^^ (p >>> (2 * s)) := by
  apply Nat.eq_of_testBit_eq
  intro i
  simp only [Nat.testBit_xor, Nat.testBit_shiftRight]
  rw [show 2 * s + i = s + (s + i) by omega]
  cases p.testBit i <;> cases p.testBit (s + i) <;> cases p.testBit (s + (s + i)) <;> rfl
theorem xor_zero_eq {a b : Nat} (h : a ^^^ b = 0) : a = b := by
  apply Nat.eq_of_testBit_eq
  intro i
  have z : (a ^^^ b).testBit i = (0 : Nat).testBit i := by rw [h]
  rw [Nat.testBit_xor, Nat.zero_testBit] at z
  cases e1 : a.testBit i <;> cases e2 : b.testBit i <;> rw [e1, e2] at z <;> first | rfl | cases z
theorem half_zero {q : Nat} (h : q = q >>> 1) : q = 0 := by
  rw [Nat.shiftRight_eq_div_pow] at h
  omega
theorem gray_end {p s : Nat} (h : gray p < 2 ^ s) : p ^^^ (p >>> s) = p := by
  have e : (p >>> s) ^^^ ((p >>> s) >>> 1) = 0 := by
    have z : gray p >>> s = 0 := by
      rw [Nat.shiftRight_eq_div_pow]
      exact Nat.div_eq_of_lt h
    rw [← z]
    unfold gray
    apply Nat.eq_of_testBit_eq
    intro i
    simp only [Nat.testBit_xor, Nat.testBit_shiftRight]
    rw [show s + (1 + i) = 1 + (s + i) by omega]
  have e3 : p >>> s = 0 := half_zero (xor_zero_eq e)
  rw [e3, Nat.xor_zero]
theorem one_bit (x i : Nat) : decide (x / 2 ^ i % 2 = 1) = x.testBit i := (Nat.testBit_eq_decide_div_mod_eq).symm
theorem next_mod (x i : Nat) : x % 2 ^ (i + 1) = x % 2 ^ i + (if x.testBit i = true then 2 ^ i else 0) := by
  rw [Nat.pow_succ, Nat.mod_mul, ← one_bit]
  have h := Nat.mod_two_eq_zero_or_one (x / 2 ^ i)
  rcases h with h | h <;> simp [h]
/-- the lowest bit that is 0 -/
def Low (p low : Nat) : Prop := (∀ j, j < low → p.testBit j = true) ∧ p.testBit low = false
theorem low_mod {p low : Nat} (h : Low p low) : p % 2 ^ (low + 1) = 2 ^ low - 1 := by
  apply Nat.eq_of_testBit_eq
  intro i
  rw [Nat.testBit_mod_two_pow, Nat.testBit_two_pow_sub_one]
  by_cases h1 : i < low
  · rw [h.1 i h1, decide_eq_true h1, decide_eq_true (show i < low + 1 by omega)]
    rfl
  · by_cases h2 : i = low
    · subst h2
      rw [h.2]
      simp
    · rw [decide_eq_false (show ¬ i < low + 1 by omega), decide_eq_false h1]
      rfl
theorem two_pos (k : Nat) : 0 < 2 ^ k := Nat.two_pow_pos k
theorem low_p {p low : Nat} (h : Low p low) (i : Nat) : p.testBit i = if i < low + 1 then decide (i < low) else (p / 2 ^ (low + 1)).testBit (i - (low + 1)) := by
  have e := Nat.div_add_mod p (2 ^ (low + 1))
  rw [low_mod h] at e
  have l : 2 ^ low - 1 < 2 ^ (low + 1) := by
    have a := two_pos low
    rw [Nat.pow_succ]
    omega
  conv => lhs; rw [← e]
  rw [Nat.testBit_two_pow_mul_add _ l, Nat.testBit_two_pow_sub_one]
theorem low_s {p low : Nat} (h : Low p low) (i : Nat) : (p + 1).testBit i = if i < low + 1 then decide (low = i) else (p / 2 ^ (low + 1)).testBit (i - (low + 1)) := by
  have e := Nat.div_add_mod p (2 ^ (low + 1))
  rw [low_mod h] at e
  have a := two_pos low
  have l : 2 ^ low < 2 ^ (low + 1) := by
    rw [Nat.pow_succ]
    omega
  have e2 : p + 1 = 2 ^ (low + 1) * (p / 2 ^ (low + 1)) + 2 ^ low := by omega
  conv => lhs; rw [e2]
  rw [Nat.testBit_two_pow_mul_add _ l, Nat.testBit_two_pow]
theorem gray_next {p low : Nat} (h : Low p low) : gray (p + 1) = gray p ^^^ 2 ^ low := by
  apply Nat.eq_of_testBit_eq
  intro i
  rw [Nat.testBit_xor, gray_bit, gray_bit, low_p h, low_p h, low_s h, low_s h, Nat.testBit_two_pow]
  by_cases h1 : i < low
  · simp only [show i < low + 1 by omega, show i + 1 < low + 1 by omega, if_true]
    by_cases h2 : i + 1 < low
    · simp [h1, h2, show ¬ low = i by omega, show ¬ low = i + 1 by omega]
    · have h3 : low = i + 1 := by omega
      simp [h3]
  · by_cases h2 : i = low
    · subst h2
      simp
    · simp [show ¬ i < low + 1 by omega, show ¬ i + 1 < low + 1 by omega, show ¬ low = i by omega]
theorem xor_pow {x k : Nat} : x ^^^ 2 ^ k = if x.testBit k = true then x - 2 ^ k else x + 2 ^ k := by
  have split : x = 2 ^ (k + 1) * (x / 2 ^ (k + 1)) + ((if x.testBit k = true then 2 ^ k else 0) + x % 2 ^ k) := by
    have e := Nat.div_add_mod x (2 ^ (k + 1))
    rw [next_mod] at e
    omega
  have m := Nat.mod_lt x (two_pos k)
  have l1 : 2 ^ k + x % 2 ^ k < 2 ^ (k + 1) := by
    rw [Nat.pow_succ]
    omega
  have bits : ∀ (q r : Nat) (i : Nat), r < 2 ^ k → (2 ^ (k + 1) * q + (2 ^ k + r)).testBit i = ((2 ^ (k + 1) * q + r) ^^^ 2 ^ k).testBit i := by
    intro q r i hr
    have l2 : 2 ^ k + r < 2 ^ (k + 1) := by
      rw [Nat.pow_succ]
      omega
    have l3 : r < 2 ^ (k + 1) := by
      rw [Nat.pow_succ]
      omega
    rw [Nat.testBit_xor, Nat.testBit_two_pow_mul_add _ l2, Nat.testBit_two_pow_mul_add _ l3, Nat.testBit_two_pow]
    have er : 2 ^ k + r = 2 ^ k * 1 + r := by omega
    rw [er, Nat.testBit_two_pow_mul_add _ hr]
    by_cases h1 : i < k + 1
    · simp only [h1, if_true]
      by_cases h2 : i < k
      · simp [h2, show ¬ k = i by omega]
      · have h3 : i = k := by omega
        subst h3
        simp [Nat.testBit_lt_two_pow hr]
    · simp [h1, show ¬ k = i by omega]
  cases hb : x.testBit k with
  | true =>
    rw [hb] at split
    simp only [if_true] at split
    have e : 2 ^ (k + 1) * (x / 2 ^ (k + 1)) + x % 2 ^ k = x - 2 ^ k := by omega
    simp only [if_true]
    rw [← e]
    apply Nat.eq_of_testBit_eq
    intro i
    have b := bits (x / 2 ^ (k + 1)) (x % 2 ^ k) i m
    rw [← split] at b
    rw [Nat.testBit_xor, b, Nat.testBit_xor]
    cases (2 ^ (k + 1) * (x / 2 ^ (k + 1)) + x % 2 ^ k).testBit i <;> cases (2 ^ k).testBit i <;> rfl
  | false =>
    rw [hb] at split
    simp only [Bool.false_eq_true, if_false, Nat.zero_add] at split
    simp only [Bool.false_eq_true, if_false]
    have e : 2 ^ (k + 1) * (x / 2 ^ (k + 1)) + (2 ^ k + x % 2 ^ k) = x + 2 ^ k := by omega
    rw [← e]
    apply Nat.eq_of_testBit_eq
    intro i
    rw [bits (x / 2 ^ (k + 1)) (x % 2 ^ k) i m, ← split]
theorem gray_lt {n k : Nat} (h : n < 2 ^ k) : gray n < 2 ^ k := by
  unfold gray
  refine Nat.xor_lt_two_pow h ?_
  rw [Nat.shiftRight_eq_div_pow]
  exact Nat.lt_of_le_of_lt (Nat.div_le_self _ _) h
theorem gray_mod {n k : Nat} (h : n < 2 ^ k) : gray n % 2 ^ k = gray n := Nat.mod_eq_of_lt (gray_lt h)
end M07
namespace M39
def ch : Nat → Nat → Nat
  | _, 0 => 1
  | 0, _ + 1 => 0
  | n + 1, k + 1 => ch n k + ch n (k + 1)
theorem ch_zero (n : Nat) : ch n 0 = 1 := by cases n <;> rfl
theorem ch_succ (n k : Nat) : ch (n + 1) (k + 1) = ch n k + ch n (k + 1) := rfl
theorem ch_above : ∀ (n k : Nat), n < k → ch n k = 0
  | _, 0, h => by omega
  | 0, k + 1, _ => rfl
  | n + 1, k + 1, h => by rw [ch_succ, ch_above n k (by omega), ch_above n (k + 1) (by omega)]
theorem ch_A : ∀ (n k : Nat), (k + 1) * ch (n + 1) (k + 1) = (n + 1) * ch n k
  | 0, 0 => rfl
  | 0, k + 1 => by
    rw [ch_succ, ch_above 0 (k + 1) (by omega), ch_above 0 (k + 1 + 1) (by omega)]
    simp
  | n + 1, 0 => by
    have := ch_A n 0
    rw [ch_zero] at this
    rw [ch_succ, ch_zero]
    simp only [Nat.zero_add, Nat.one_mul, Nat.mul_one] at this ⊢
    omega
  | n + 1, j + 1 => by
    have a := ch_A n (j + 1)
    have b := ch_A n j
    have c := ch_succ n j
    rw [ch_succ (n + 1) (j + 1), Nat.mul_add, a]
    have e : (j + 1 + 1) * ch (n + 1) (j + 1) = ch (n + 1) (j + 1) + (n + 1) * ch n j := by rw [← b, Nat.succ_mul]; omega
    have e2 : (n + 1 + 1) * ch (n + 1) (j + 1) = ch (n + 1) (j + 1) + (n + 1) * ch n j + (n + 1) * ch n (j + 1) := by
      rw [Nat.succ_mul]
      have : (n + 1) * ch (n + 1) (j + 1) = (n + 1) * ch n j + (n + 1) * ch n (j + 1) := by rw [c, Nat.mul_add]
      omega
    omega
theorem ch_B (n k : Nat) : (k + 1) * ch n (k + 1) = (n - k) * ch n k := by
  by_cases h : k ≤ n
  · have a := ch_A n k
    rw [ch_succ, Nat.mul_add] at a
    have e : (n + 1) * ch n k = (k + 1) * ch n k + (n - k) * ch n k := by
      rw [← Nat.add_mul]
      congr 1
      omega
    omega
  · rw [ch_above n (k + 1) (by omega), ch_above n k (by omega)]
    simp
theorem ch_self : ∀ n, ch n n = 1
  | 0 => rfl
  | n + 1 => by rw [ch_succ, ch_self n, ch_above n (n + 1) (by omega)]
def fact : Nat → Nat
  | 0 => 1
  | n + 1 => (n + 1) * fact n
theorem fact_pos : ∀ n, 0 < fact n
  | 0 => by decide
  | n + 1 => Nat.mul_pos (by omega) (fact_pos n)
theorem ch_C (n : Nat) : ∀ k, k ≤ n → ch n k * fact k * fact (n - k) = fact n
  | 0, _ => by rw [ch_zero]; simp [fact]
  | k + 1, h => by
    have ih := ch_C n k (by omega)
    have b := ch_B n k
    obtain ⟨m, hm⟩ : ∃ m, n - k = m + 1 := ⟨n - k - 1, by omega⟩
    have e1 : n - (k + 1) = m := by omega
    rw [hm] at ih b
    rw [e1, ← ih]
    show ch n (k + 1) * ((k + 1) * fact k) * fact m = ch n k * fact k * ((m + 1) * fact m)
    have : ch n (k + 1) * ((k + 1) * fact k) = (m + 1) * ch n k * fact k := by
      rw [← b, ← Nat.mul_assoc, Nat.mul_comm (ch n (k + 1))]
    rw [this]
    simp only [Nat.mul_assoc, Nat.mul_comm, Nat.mul_left_comm]
theorem ch_sym {n k : Nat} (h : k ≤ n) : ch n (n - k) = ch n k := by
  have a := ch_C n k h
  have b := ch_C n (n - k) (by omega)
  have e : n - (n - k) = k := by omega
  rw [e] at b
  have p := fact_pos k
  have q := fact_pos (n - k)
  have e2 : ch n (n - k) * (fact k * fact (n - k)) = ch n k * (fact k * fact (n - k)) := by
    rw [← Nat.mul_assoc (ch n k), a, ← b, Nat.mul_assoc, Nat.mul_comm (fact k)]
  exact Nat.eq_of_mul_eq_mul_right (Nat.mul_pos p q) e2
open PySem in
theorem fp_ch (n : Nat) : ∀ k : Nat, k ≤ n → Builtin.Math.fallingProduct (n : Int) k = ((ch n k * fact k : Nat) : Int)
  | 0, _ => by rw [PySem.W.mc_fp_zero, ch_zero]; rfl
  | k + 1, h => by
    rw [PySem.W.mc_fp_succ, fp_ch n k (by omega)]
    have b := ch_B n k
    have e : (n : Int) - (k : Int) = ((n - k : Nat) : Int) := by omega
    rw [e, ← Int.natCast_mul]
    congr 1
    show ch n k * fact k * (n - k) = ch n (k + 1) * ((k + 1) * fact k)
    rw [← Nat.mul_assoc, Nat.mul_comm (ch n (k + 1)), b]
    simp only [Nat.mul_assoc, Nat.mul_comm, Nat.mul_left_comm]
theorem comb_ch (a b : Nat) : PySem.W.mcComb (a : Int) (b : Int) = ((ch a b : Nat) : Int) := by
  by_cases h : a < b
  · rw [PySem.W.mcComb_above (by omega), ch_above a b h]
    rfl
  · obtain ⟨m, hm, hma⟩ : ∃ m : Nat, min (b : Int) ((a : Int) - (b : Int)) = (m : Int) ∧ (m = b ∨ m = a - b) := by
      by_cases c : b ≤ a - b
      · exact ⟨b, by omega, .inl rfl⟩
      · exact ⟨a - b, by omega, .inr rfl⟩
    have hle : m ≤ a := by omega
    rw [PySem.W.mcComb_at (Int.natCast_nonneg b) (by omega) hm, Int.toNat_natCast, fp_ch a m hle, fp_ch m m (Nat.le_refl _), ch_self, Nat.one_mul]
    have e : ch a m = ch a b := by
      rcases hma with z | z
      · rw [z]
      · rw [z, ch_sym (by omega)]
    rw [e, Int.natCast_mul]
    exact Int.mul_ediv_cancel _ (by have := fact_pos m; omega)
/-- the row goes on -/
theorem row_next (n k : Nat) (h : k ≤ n) : ((ch n k : Nat) : Int) * ((n : Int) - (k : Int)) / ((k : Int) + 1) = ((ch n (k + 1) : Nat) : Int) := by
  have b := ch_B n k
  have e : (n : Int) - (k : Int) = ((n - k : Nat) : Int) := by omega
  have e2 : ((k : Int) + 1) = ((k + 1 : Nat) : Int) := by omega
  rw [e, e2, ← Int.natCast_mul, Nat.mul_comm, ← b, Int.natCast_mul]
  exact Int.mul_ediv_cancel_left _ (by omega)
def S (n : Nat) : Nat → Nat
  | 0 => 1
  | r + 1 => S n r + ch n (r + 1)
theorem S_succ (n r : Nat) : S n (r + 1) = S n r + ch n (r + 1) := rfl
theorem S_next (n : Nat) : ∀ r, S (n + 1) (r + 1) = S n r + S n (r + 1)
  | 0 => by
    show 1 + ch (n + 1) 1 = 1 + (1 + ch n 1)
    rw [ch_succ, ch_zero]
  | r + 1 => by
    rw [S_succ (n + 1), S_next n r, ch_succ, S_succ n (r + 1), S_succ n r]
    omega
theorem S_all : ∀ n, S n n = 2 ^ n
  | 0 => rfl
  | n + 1 => by
    rw [S_next, S_succ n n, ch_above n (n + 1) (by omega), S_all n, Nat.pow_succ]
    omega
theorem S_mono (n : Nat) {a b : Nat} (h : a ≤ b) : S n a ≤ S n b := by
  induction b with
  | zero => rw [Nat.le_zero.mp h]; exact Nat.le_refl _
  | succ b ih =>
    by_cases e : a = b + 1
    · rw [e]; exact Nat.le_refl _
    · rw [S_succ]
      exact Nat.le_trans (ih (by omega)) (Nat.le_add_right _ _)
/-- how many flips are enough, and no fewer -/
def Lst (bits values r : Nat) : Prop := values ≤ S bits r ∧ ∀ q, q < r → S bits q < values
theorem Lst.eq {bits values r s : Nat} (a : Lst bits values r) (b : Lst bits values s) : r = s := by
  rcases Nat.lt_trichotomy r s with h | h | h
  · have := b.2 r h
    have := a.1
    omega
  · exact h
  · have := a.2 s h
    have := b.1
    omega
theorem Lst.le {bits values r s : Nat} (a : Lst bits values r) (h : values ≤ S bits s) : r ≤ s := by
  by_cases c : r ≤ s
  · exact c
  · have := a.2 s (by omega)
    omega
theorem step_in {bits values f : Nat} (h : values ≤ 2 ^ bits) (c : S bits f < values) : f < bits := by
  by_cases d : f < bits
  · exact d
  · have := S_mono bits (show bits ≤ f by omega)
    rw [S_all] at this
    omega
/-- the ball about 0 -/
def ball (bits r : Nat) : List Nat := (List.range (2 ^ bits)).filter fun x => decide (M04.pc x ≤ r)
theorem nodup_le {l1 l2 : List Nat} (h1 : l1.Nodup) (h : ∀ x ∈ l1, x ∈ l2) : l1.length ≤ l2.length := by
  induction l1 generalizing l2 with
  | nil => exact Nat.zero_le _
  | cons a r ih =>
    have n := List.nodup_cons.mp h1
    have ha := h a List.mem_cons_self
    have := ih (l2 := l2.erase a) n.2 fun x hx => by
      refine (List.mem_erase_of_ne ?_).mpr (h x (List.mem_cons_of_mem _ hx))
      intro z
      exact n.1 (z ▸ hx)
    rw [List.length_erase_of_mem ha] at this
    have := List.length_pos_of_mem ha
    rw [List.length_cons]
    omega
theorem ball_len : ∀ bits, bits ≤ 4 → ∀ r, r ≤ 4 → (ball bits r).length ≤ S bits r := by decide +kernel
end M39
/-! math.comb of two small numbers from 0 on. -/
namespace OB
open PySem PySem.Spec PyProof.Rows L2
def rComb : List V → Hp → VK → Prop := fun vs H Q => ∃ a b : Nat, vs = [.int (a : Int), .int (b : Int)] ∧ a < 2 ^ 60 ∧ b ≤ 9000 ∧ Q (.int ((M39.ch a b : Nat) : Int)) H
theorem cr_comb {X : Cx} : CallR X (.builtin "math.comb") rComb := by
  intro pins s σ H vs us Q I r h
  obtain ⟨a, b, rfl, ha, hb, q⟩ := h
  obtain ⟨t, u, rfl⟩ := Vals.int2 r
  exact PySem.W.mc_comb_v (Int.natCast_nonneg a) (Int.natCast_nonneg b) (by omega) (.inl (by omega)) (M39.comb_ch a b) ⟨.int _, H, I.tok _, ⟨_, rfl⟩, q⟩
end OB
namespace M40
open M39
/-- so many changes a store has: lots of cells, each with other contents -/
def T (c x : Nat) : Nat → Nat
  | 0 => 0
  | k + 1 => T c x k + ch c (k + 1) * x ^ (k + 1)
theorem T_succ (c x k : Nat) : T c x (k + 1) = T c x k + ch c (k + 1) * x ^ (k + 1) := rfl
theorem T_mono (c x : Nat) {a b : Nat} (h : a ≤ b) : T c x a ≤ T c x b := by
  induction b with
  | zero => rw [Nat.le_zero.mp h]; exact Nat.le_refl _
  | succ b ih =>
    by_cases e : a = b + 1
    · rw [e]; exact Nat.le_refl _
    · rw [T_succ]
      exact Nat.le_trans (ih (by omega)) (Nat.le_add_right _ _)
theorem T_next (c x : Nat) : ∀ k, T (c + 1) x (k + 1) = T c x (k + 1) + x * (1 + T c x k)
  | 0 => by
    show 0 + ch (c + 1) 1 * x ^ 1 = 0 + ch c 1 * x ^ 1 + x * (1 + 0)
    have e : ch (c + 1) 1 = 1 + ch c 1 := by rw [ch_succ, ch_zero]
    rw [e, Nat.pow_one, Nat.add_mul]
    omega
  | k + 1 => by
    rw [T_succ (c + 1), T_next c x k, T_succ c x (k + 1), ch_succ, Nat.add_mul]
    have e : x * (1 + T c x (k + 1)) = x * (1 + T c x k) + ch c (k + 1) * x ^ (k + 1 + 1) := by
      rw [T_succ, ← Nat.add_assoc, Nat.mul_add, Nat.pow_succ x (k + 1), Nat.mul_comm x (ch c (k + 1) * x ^ (k + 1)), Nat.mul_assoc]
    rw [e]
    omega
theorem T_all (x : Nat) : ∀ c, 1 + T c x c = (1 + x) ^ c
  | 0 => rfl
  | c + 1 => by
    rw [T_next, T_succ c x c, ch_above c (c + 1) (by omega), Nat.zero_mul, Nat.add_zero, Nat.pow_succ, ← T_all x c, Nat.mul_comm x]
    have e : (1 + T c x c) * (1 + x) = (1 + T c x c) + (1 + T c x c) * x := by rw [Nat.mul_add, Nat.mul_one]
    omega
theorem T_lt (x : Nat) {c k : Nat} (h : k ≤ c) : T c x k < (1 + x) ^ c := by
  have := T_mono c x h
  have := T_all x c
  omega
theorem ch_pow (c : Nat) : ∀ k, ch c k ≤ c ^ k
  | 0 => by rw [ch_zero]; exact Nat.le_refl _
  | k + 1 => by
    have b := ch_B c k
    have ih := ch_pow c k
    have h1 : ch c (k + 1) ≤ (k + 1) * ch c (k + 1) := Nat.le_mul_of_pos_left _ (by omega)
    have h2 : (c - k) * ch c k ≤ c * c ^ k := Nat.mul_le_mul (by omega) ih
    rw [Nat.pow_succ, Nat.mul_comm (c ^ k)]
    omega
theorem T_geo {c x y : Nat} (hy : c * x ≤ y) (h2 : 2 ≤ y) : ∀ k, T c x k + 2 ≤ 2 * y ^ k
  | 0 => by
    show 0 + 2 ≤ 2 * y ^ 0
    rw [Nat.pow_zero]
    decide
  | k + 1 => by
    have ih := T_geo hy h2 k
    have h1 : ch c (k + 1) * x ^ (k + 1) ≤ y ^ (k + 1) := Nat.le_trans (by rw [Nat.mul_comm (ch c (k + 1)), Nat.mul_comm]; exact Nat.mul_le_mul_right _ (ch_pow c (k + 1))) (by rw [← Nat.mul_pow]; exact Nat.pow_le_pow_left hy _)
    have h3 : 2 * y ^ k ≤ y ^ (k + 1) := by
      rw [Nat.pow_succ, Nat.mul_comm (y ^ k)]
      exact Nat.mul_le_mul_right _ h2
    rw [T_succ]
    omega
/-- so many bits more are enough -/
def En (n leads e : Nat) : Prop := leads < 2 ∨ leads + 2 * 2 ^ e ≤ (n + e) * 2 ^ e + 2
def Lea (n leads e : Nat) : Prop := En n leads e ∧ ∀ q, q < e → ¬ En n leads q
theorem Lea.eq {n leads r s : Nat} (a : Lea n leads r) (b : Lea n leads s) : r = s := by
  rcases Nat.lt_trichotomy r s with h | h | h
  · exact absurd a.1 (b.2 r h)
  · exact h
  · exact absurd b.1 (a.2 s h)
theorem Lea.le {n leads r s : Nat} (a : Lea n leads r) (h : En n leads s) : r ≤ s := by
  by_cases c : r ≤ s
  · exact c
  · exact absurd h (a.2 s (by omega))
/-- as many as values are, are enough twice -/
theorem en_twice {n leads : Nat} (h1 : 1 ≤ n) (h : leads < 2 ^ n) : En n leads n := by
  by_cases e : n = 1
  · subst e
    exact .inl h
  · refine .inr ?_
    have : 4 * 2 ^ n ≤ (n + n) * 2 ^ n := Nat.mul_le_mul_right _ (by omega)
    omega
/-- the entry of a store is enough -/
theorem en_entry {n leads e : Nat} (h1 : 1 ≤ n) (h2 : 2 ≤ e) (h : leads ≤ 2 ^ e) : En n leads e := by
  refine .inr ?_
  have : 3 * 2 ^ e ≤ (n + e) * 2 ^ e := Nat.mul_le_mul_right _ (by omega)
  omega
end M40
namespace K40
open PySem PySem.Spec PyProof.Rows L2 OB SkE
def top (i : Nat) : Stmt := PySem.Challenge.pw_oneflip_k40_room_of_stores.main.body.getD i (.Pass ⟨0, 0, 0, 0⟩)
abbrev s_initN : Stmt := inClass (top 3) 0
abbrev s_initS : Stmt := inClass (top 4) 0
abbrev s_initM : Stmt := inClass (top 5) 0
abbrev s_initT : Stmt := inClass (top 6) 0
abbrev s_Store : Stmt := inClass (top 26) 0
abbrev s_is_integer : Stmt := top 9
abbrev s_is_within : Stmt := top 10
abbrev s_need_number : Stmt := top 11
abbrev s_fewest_enough : Stmt := top 20
abbrev s__are_enough : Stmt := top 21
abbrev s_most_rows : Stmt := top 27
abbrev s_changes_of : Stmt := top 29
abbrev s_store_least : Stmt := top 30
abbrev s_spare_bits : Stmt := top 31
abbrev s__need_room : Stmt := top 32
abbrev s__law_shed : Stmt := top 34
abbrev s__law_stack : Stmt := top 35
abbrev s__law_any : Stmt := top 36
abbrev s__law_digits : Stmt := top 37
abbrev s__law_by_trial : Stmt := top 38
abbrev s__law_changes : Stmt := top 39
abbrev s__law_least : Stmt := top 40
abbrev s__law_bits : Stmt := top 41
abbrev s__law_drawn : Stmt := top 42
abbrev s__law_room_right : Stmt := top 43
abbrev s__law_heard : Stmt := top 44
abbrev s__law_refused_right : Stmt := top 45
abbrev s_law : Stmt := top 46
/-- the built-in names that the module leaves as they are -/
structure Blt (mg : Str → Option Value) : Prop where
  g_MOST_CELLS : ∃ t, mg "MOST_CELLS" = some (.int 256 t)
  g_MOST_SIZE : ∃ t, mg "MOST_SIZE" = some (.int 48 t)
  g_MOST_ROWS : ∃ t, mg "MOST_ROWS" = some (.int 8 t)
  g_comb : mg "comb" = some (.builtin "math.comb")
  n_isinstance : mg "isinstance" = none
  n_int : mg "int" = none
  n_bool : mg "bool" = none
  n_len : mg "len" = none
  n_abs : mg "abs" = none
  n_range : mg "range" = none
  n_repr : mg "repr" = none
  n_min : mg "min" = none
section
variable {P : Program} {w : World} {K : PySem.W.Frag} {mg : Str → Option Value} {base : Heap}
/-! ### checks -/
theorem sc_is_integer : FnScope ["value"] ["value"] (defScope s_is_integer) := ⟨rfl, rfl, rfl, by decide +kernel, rfl, by decide +kernel, by decide +kernel⟩
theorem ok_is_integer {f : Addr} {fd : FuncData} (F : Fun K "is_integer" "is_integer" s_is_integer f fd) (T : Blt mg) : FnOk P w K mg base CX0 1 f fd ["value"] (spIsInt K) := by
  refine F.ok sc_is_integer (fun vs H Q E h => ?_) (fun cdv A outer s H vs Q E hr h => ?_)
  · obtain ⟨x, b, rfl, _⟩ := h
    rfl
  · obtain ⟨x, b, rfl, ⟨n, b1, b2, ty, e1, e2, e3⟩, k⟩ := h
    refine ⟨_, (pss_one (ps_ret (pe_and (pe_callB call_isi (by rfl) T.n_isinstance (by decide +kernel) (pa_cons (pv 0) (pa_cons (pe_bltn (v := .ty "int") (by rfl) T.n_int (by decide +kernel) rfl) pa_nil))) (pe_one (pe_not (pe_callB call_isi (by rfl) T.n_isinstance (by decide +kernel) (pa_cons (pv 0) (pa_cons (pe_bltn (v := .ty "bool") (by rfl) T.n_bool (by decide +kernel) rfl) pa_nil)))))))), ?_⟩
    refine ⟨x, rfl, x, .ty "int", .type n, .type "int", b1, rfl, .ty _, ty, kit_ty e1, b1, rfl, ?_⟩
    refine iteB (fun c => ?_) (fun c => ?_)
    · refine ⟨x, rfl, x, .ty "bool", .type n, .type "bool", b2, rfl, .ty _, ty, kit_ty e2, b2, rfl, ?_⟩
      rw [c] at e3
      rw [show (!b2) = b by rw [e3, Bool.true_and]]
      exact k
    · rw [c] at e3
      rw [show false = b by rw [e3, Bool.false_and]]
      exact k
theorem sc_is_within : FnScope ["value", "least", "most"] ["value", "least", "most"] (defScope s_is_within) := ⟨rfl, rfl, rfl, by decide +kernel, rfl, by decide +kernel, by decide +kernel⟩
theorem within_end {lo hi : Option Int} {x : V} {b : Bool} {Q : VK} {H : Hp} (hI : IsI K H x b) (k : Q (.bl (b && inB lo hi x)) H) (hb : b = true) : ∃ i, x = .int i ∧ Q (.bl (loOk lo i && hiOk hi i)) H := by
  subst hb
  obtain ⟨i, rfl⟩ := isI_true hI
  exact ⟨i, rfl, k⟩
theorem ok_is_within {f f1 : Addr} {fd fd1 : FuncData} (F : Fun K "is_within" "is_within" s_is_within f fd) (D_is_integer : Df K mg "is_integer" s_is_integer ["value"] f1 fd1) (T : Blt mg) : FnOk P w K mg base CX0 2 f fd ["value", "least", "most"] (spWithin K) := by
  have G_is_integer : FnOk P w K mg base CX0 1 f1 fd1 ["value"] (spIsInt K) := ok_is_integer D_is_integer.F T
  refine F.ok sc_is_within (fun vs H Q E h => ?_) (fun cdv A outer s H vs Q E hr h => ?_)
  · obtain ⟨x, lo, hi, b, rfl, _⟩ := h
    rfl
  · obtain ⟨x, lo, hi, b, rfl, hI, k⟩ := h
    refine ⟨_, (pss_cons (ps_if (pt_not (pt_val (pe_call G_is_integer (hr.mono (by decide)) (by rfl) D_is_integer.g D_is_integer.F.kp D_is_integer.b .nil pass0 (pa_cons (pv 0) pa_nil)))) (pss_one (ps_ret pe_bl)) pss_nil)
  (pss_one (ps_ret (pe_and (pe_or (pe_cmpR op_isN (pv 1) pe_non (nomark _)) (pe_one (pe_cmpR op_le (pv 1) (pv 0) (nomark _)))) (pe_one (pe_or (pe_cmpR op_isN (pv 2) pe_non (nomark _)) (pe_one (pe_cmpR op_le (pv 0) (pv 2) (nomark _))))))))), ?_⟩
    refine ⟨x, rfl, x, b, rfl, hI, b, rfl, ?_⟩
    cases b with
    | false => exact iteT k
    | true =>
      obtain ⟨i, rfl, k'⟩ := within_end hI k rfl
      clear k
      have k := k'
      clear k'
      refine iteF ?_
      refine ⟨_, rfl, rfl, _, rfl, ?_⟩
      cases lo with
      | none =>
        refine iteT ?_
        refine ⟨_, rfl, iteT ?_⟩
        refine ⟨_, rfl, rfl, _, rfl, ?_⟩
        cases hi with
        | none => exact iteT k
        | some h => exact iteF ⟨_, rfl, _, rfl, _, _, rfl, rfl, k⟩
      | some l =>
        refine iteF ?_
        refine ⟨_, rfl, _, rfl, _, _, rfl, rfl, _, rfl, ?_⟩
        refine iteB (fun c => ?_) (fun c => ?_)
        · refine ⟨_, rfl, rfl, _, rfl, ?_⟩
          have e : loOk (some l) i = true := c
          rw [e, Bool.true_and] at k
          cases hi with
          | none => exact iteT k
          | some h => exact iteF ⟨_, rfl, _, rfl, _, _, rfl, rfl, k⟩
        · have e : loOk (some l) i = false := c
          rw [e, Bool.false_and] at k
          exact k
/-! ### what raises -/
theorem sc_need_number : FnScope ["value", "part", "least", "most"] ["value", "part", "least", "most"] (defScope s_need_number) := ⟨rfl, rfl, rfl, by decide +kernel, rfl, by decide +kernel, by decide +kernel⟩
theorem ok_need_number {f f1 f2 C fI : Addr} {fd fd1 fd2 fdI : FuncData} (F : Fun K "need_number" "need_number" s_need_number f fd) (D_is_within : Df K mg "is_within" s_is_within ["value", "least", "most"] f2 fd2) (D_is_integer : Df K mg "is_integer" s_is_integer ["value"] f1 fd1) (T : Blt mg)
    (R_BadNumber : Err P w K mg base "BadNumber" "part" C fI fdI) : FnOk P w K mg base (L2.CX P w) 4 f fd ["value", "part", "least", "most"] (spNeedNumber K C) := by
  have G_is_within : FnOk P w K mg base CX0 2 f2 fd2 ["value", "least", "most"] (spWithin K) := ok_is_within D_is_within.F D_is_integer T
  refine F.okX sc_need_number (fun vs H Q E h => ?_) (fun cdv A outer s H vs Q E hr h => ?_)
  · obtain ⟨x, part, lo, hi, b, rfl, _⟩ := h
    rfl
  · obtain ⟨x, part, lo, hi, b, rfl, hI, k1, k2⟩ := h
    refine ⟨_, (pss_one (ps_if (pt_not (pt_val (pe_call G_is_within (hr.mono (by decide)) (by rfl) D_is_within.g D_is_within.F.kp D_is_within.b .nil pass0 (pa_cons (pv 0) (pa_cons (pv 2) (pa_cons (pv 3) pa_nil)))))) (pss_one (ps_raise1 rfl (takes_of rfl rfl rfl rfl) R_BadNumber (hr.mono (by decide)) (by rfl) (pv 1))) pss_nil)), ?_⟩
    refine ⟨x, rfl, _, rfl, _, rfl, x, lo, hi, b, rfl, hI, _, rfl, ?_⟩
    refine iteB (fun c => ?_) (fun c => ?_)
    · have c' : (b && inB lo hi x) = false := by
        cases e : (b && inB lo hi x) with
        | false => rfl
        | true => rw [e] at c; cases c
      refine ⟨.str part, rfl, ?_⟩
      refine raise1_of (W := fun cls d _ H => E cls d H) R_BadNumber.T R_BadNumber.no ?_
      exact fun d hd => k2 c' d hd
    · have c' : (b && inB lo hi x) = true := by
        cases e : (b && inB lo hi x) with
        | true => rfl
        | false => rw [e] at c; cases c
      exact k1 c'
end
end K40
namespace K40
open PySem PySem.Spec PyProof.Rows L2 OB SkE
section
variable {P : Program} {w : World} {K : PySem.W.Frag} {mg : Str → Option Value} {base : Heap}
theorem cut60 (ns : List Int) : cutV (ns.map V.int) none (some 60) = (ns.take 60).map V.int := by
  unfold cutV
  have a : HT.sIx (ns.map V.int).length 0 none = 0 := rfl
  rw [a, List.drop_zero, Nat.sub_zero, List.map_take]
  have e : HT.sIx (ns.map V.int).length (ns.map V.int).length (some 60) = min 60 (ns.map V.int).length := HT.sIx_nat _ _ 60
  rw [e]
  by_cases h : (ns.map V.int).length ≤ 60
  · rw [Nat.min_eq_right h, List.take_length, List.take_of_length_le h]
  · rw [Nat.min_eq_left (by omega)]
theorem take_more {α : Type} {l : List α} {i : Nat} {x : α} (h : l[i]? = some x) : l.take (i + 1) = l.take i ++ [x] := by
  rw [List.take_add_one, h]
  rfl
theorem sc__law_shed : FnScope ["script", "cell"] ["script"] (defScope s__law_shed) := ⟨rfl, rfl, rfl, by decide +kernel, rfl, by decide +kernel, by decide +kernel⟩
abbrev N__law_shed : List Str := ["script", "cell"]
theorem ok__law_shed {f : Addr} {fd : FuncData} (F : Fun K "_law_shed" "_law_shed" s__law_shed f fd) (T : Blt mg) : FnOk P w K mg base CX0 1 f fd ["script"] (spLot K) := by
  refine F.ok sc__law_shed (fun vs H Q E h => ?_) (fun cdv A outer s H vs Q E hr h => ?_)
  · obtain ⟨a, ns, rfl, _⟩ := h
    rfl
  · obtain ⟨a, ns, rfl, hS, hl, k⟩ := h
    refine ⟨_, (pss_one (ps_ret (pe_lst (pa_cons (pe_lc (own := [("cell", 1)]) (g := (gName 1)) (tt := tYes) rfl sc__law_shed.nd (pi_list (pe_slice sl_list (pv 0) po_none (po_some pe_int))) (blkOk_by (N := N__law_shed) (own := [("cell", 1)]) (sc := defScope s__law_shed) (by decide +kernel)) (fun _ _ _ _ _ => (pg_name (i := 1) sc__law_shed.nd rfl (Or.inl rfl))) (fun _ _ _ _ _ => pts_nil) (fun _ _ _ _ _ => (pe_callTy call_int1 (by rfl) T.n_int (by decide +kernel) (pa_cons (pv 1) pa_nil)))) (pa_cons pe_int (pa_cons pe_int pa_nil)))))), ?_⟩
    refine ⟨_, rfl, _, rfl, a, _, rfl, hS, fun c hc => ?_⟩
    have e1 : cutV (ns.map V.int) none (some 60) = (ns.take 60).map V.int := cut60 ns
    rw [e1]
    have S0 : Same H (upd H c (.lst ((ns.take 60).map V.int))) := same_new hc
    refine ⟨c, rfl, ⟨_, .inl (.inl upd_same)⟩, fun b hb => ?_⟩
    have ncb : c ≠ b := ne_of_none upd_same hb
    refine lc_list (K := K) (a := c) (xs := (ns.take 60).map V.int) (fun i H' => Same (upd H c (.lst ((ns.take 60).map V.int))) H' ∧ H' b = some (.lst (((ns.take 60).map V.int).take i)))
      ⟨same_new hb, upd_same⟩ (fun i H' _ h => h.1.seq (.inl (.inl upd_same))) ?_ ?_
    · rintro i y H' hy ⟨S1, h1⟩
      obtain ⟨z, hz, rfl⟩ : ∃ z, (ns.take 60)[i]? = some z ∧ y = V.int z := by
        rw [List.getElem?_map] at hy
        cases e : (ns.take 60)[i]? with
        | none => rw [e] at hy; cases hy
        | some z => rw [e] at hy; exact ⟨z, rfl, (Option.some.inj hy).symm⟩
      refine ⟨rfl, _, rfl, .inl ⟨_, rfl, _, h1, ?_, ?_, ?_⟩⟩
      · refine small1000 ?_
        rw [List.length_take, List.length_map, List.length_take]
        omega
      · intro q o e
        have nb : q ≠ b := ne_of_none e hb
        rw [upd_ne nb]
        exact S1 q o e
      · rw [upd_same, ← List.map_take, ← List.map_take, take_more hz, List.map_append]
        rfl
    · rintro H' ⟨S1, h1⟩
      rw [List.take_length] at h1
      refine ⟨(by show 3 ≤ sizeLine; decide), fun p hp => ?_⟩
      have S2 : Same H H' := S0.trans S1
      have hb0 : H b = none := S0.free hb
      refine k p b _ (S2.free hp) hb0 ⟨ns.take 60, 0, 0, upd_same, ?_, Int.le_refl _, Int.le_refl _⟩ (S2.trans (same_new hp))
      rw [upd_ne (ne_of_none h1 hp)]
      exact h1
theorem sc__law_stack : FnScope ["shed", "many", "rest", "turn", "cell", "mixed"] ["shed", "many"] (defScope s__law_stack) := ⟨rfl, rfl, rfl, by decide +kernel, rfl, by decide +kernel, by decide +kernel⟩
theorem ok__law_stack {f : Addr} {fd : FuncData} (F : Fun K "_law_stack" "_law_stack" s__law_stack f fd) (T : Blt mg) : FnOk P w K mg base CX0 1 f fd ["shed", "many"] spDraw := by
  refine F.ok sc__law_stack (fun vs H Q E h => ?_) (fun cdv A outer s H vs Q E hr h => ?_)
  · obtain ⟨p, b, n, many, rfl, _⟩ := h
    rfl
  · obtain ⟨p, b, n, many, rfl, O, hn, hm, hm2, k⟩ := h
    obtain ⟨ns, t, l, hp, hb, ht, htn⟩ := id O
    have npb : p ≠ b := O.ne
    refine ⟨_, (pss_cons (ps_if (pt_cmpR op_gt (pe_ix ix_list (pv 0) pe_int (fun _ _ => rfl)) pe_int (nomark _)) (pss_cons (ps_set (i := 2) sc__law_stack.nd rfl (Or.inl rfl) (pe_callTy call_int1 (by rfl) T.n_int (by decide +kernel) (pa_cons (pe_ix ix_list (pv 0) pe_int (fun _ _ => rfl)) pa_nil)))
  (pss_cons (ps_asg (pe_op op_fdivW (pv 2) (pv 1)) (pg_sub (pv 0) pe_int set_list))
  (pss_one (ps_ret (pe_op op_mod (pe_callTy call_int1 (by rfl) T.n_int (by decide +kernel) (pa_cons (pv 2) pa_nil)) (pv 1)))))) pss_nil)
  (pss_cons (ps_set (i := 3) sc__law_stack.nd rfl (Or.inl rfl) (pe_ix ix_list (pv 0) pe_int (fun _ _ => rfl)))
  (pss_cons (ps_asg (pe_op op_add (pv 3) pe_int) (pg_sub (pv 0) pe_int set_list))
  (pss_cons (ps_set (i := 4) sc__law_stack.nd rfl (Or.inl rfl) (pe_op op_add (pe_op op_mul pe_int (pv 3)) pe_int))
  (C8.pss_cut (ps_if (pt_cmpR (op_neD hr.units) (pe_ix ix_list (pv 0) pe_int (fun _ _ => rfl)) (pe_lst pa_nil) (nomark _)) (pss_one (ps_set (i := 4) sc__law_stack.nd rfl (Or.inl rfl) (pe_ix ix_list (pe_ix ix_list (pv 0) pe_int (fun _ _ => rfl)) (pe_op op_mod (pe_callTy call_int1 (by rfl) T.n_int (by decide +kernel) (pa_cons (pv 3) pa_nil)) (pe_callB call_len_seq (by rfl) T.n_len (by decide +kernel) (pa_cons (pe_ix ix_list (pv 0) pe_int (fun _ _ => rfl)) pa_nil))) (fun _ _ => rfl)))) pss_nil)
  (pss_cons (ps_if (PW.pt (pw_and (pt_cmpR op_lt (pv 3) (pe_callB call_len_seq (by rfl) T.n_len (by decide +kernel) (pa_cons (pe_ix ix_list (pv 0) pe_int (fun _ _ => rfl)) pa_nil)) (nomark _)) (pw_and1 (pt_cmpR op_ge (pe_callB call_abs (by rfl) T.n_abs (by decide +kernel) (pa_cons (pv 4) pa_nil)) (pe_op op_pow pe_int pe_int) (nomark _))))) (pss_cons (ps_set (i := 2) sc__law_stack.nd rfl (Or.inl rfl) (pe_op op_add (pe_op op_mul pe_int (pe_op op_sub (pe_callB call_abs (by rfl) T.n_abs (by decide +kernel) (pa_cons (pe_callTy call_int1 (by rfl) T.n_int (by decide +kernel) (pa_cons (pv 4) pa_nil)) pa_nil)) (pe_op op_pow pe_int pe_int))) (pe_callTy call_int1 (by rfl) T.n_int (by decide +kernel) (pa_cons (pe_cmpR op_lt (pv 4) pe_int (nomark _)) pa_nil))))
  (pss_cons (ps_asg (pe_op op_fdivW (pv 2) (pv 1)) (pg_sub (pv 0) pe_int set_list))
  (pss_one (ps_ret (pe_op op_mod (pe_callTy call_int1 (by rfl) T.n_int (by decide +kernel) (pa_cons (pv 2) pa_nil)) (pv 1)))))) pss_nil)
  (pss_cons (ps_set (i := 5) sc__law_stack.nd rfl (Or.inl rfl) (pe_op op_mod (pe_callTy call_int1 (by rfl) T.n_int (by decide +kernel) (pa_cons (pe_op op_pow (pe_op op_add (pe_op op_add (pe_op op_mod (pe_callTy call_int1 (by rfl) T.n_int (by decide +kernel) (pa_cons (pv 4) pa_nil)) pe_int) (pe_op op_mul pe_int (pv 3))) pe_int) pe_int) pa_nil)) pe_int))
  (pss_cons (ps_set (i := 5) sc__law_stack.nd rfl (Or.inl rfl) (pe_op op_mod (pe_callTy call_int1 (by rfl) T.n_int (by decide +kernel) (pa_cons (pe_op op_pow (pe_op op_add (pe_op op_add (pe_op op_mul (pv 5) (pe_op op_add (pe_op op_mul pe_int (pv 3)) pe_int)) (pe_op op_mul (pe_op op_mul pe_int (pv 3)) (pv 3))) pe_int) pe_int) pa_nil)) pe_int))
  (pss_one (ps_ret (pe_op op_mod (pe_callTy call_int1 (by rfl) T.n_int (by decide +kernel) (pa_cons (pe_op op_fdiv (pv 5) pe_int) pa_nil)) (pv 1)))))))))))), ?_⟩
    -- quay[2] > 0
    refine ⟨_, rfl, p, _, _, _, rfl, rfl, SqL.of hp, rfl, _, _, rfl, rfl, _, rfl, ?_⟩
    refine ite2 (fun c => ?_) (fun c => ?_)
    · -- left = int(quay[2]); quay[2] = left // many; return int(left) % many
      refine ⟨_, rfl, p, _, _, _, rfl, rfl, SqL.of hp, rfl, .inl ⟨_, rfl, ?_⟩⟩
      refine ⟨_, rfl, _, rfl, _, _, rfl, rfl, wide_div hm hm2 (by decide) (by decide), _, rfl, p, _, _, _, rfl, rfl, hp, rfl, ?_⟩
      refine ⟨_, rfl, .inl ⟨_, rfl, _, rfl, _, _, rfl, rfl, hm, ?_⟩⟩
      refine k _ _ (Int.emod_nonneg _ (by omega)) (Int.emod_lt_of_pos _ hm) ⟨ns, t, _, upd_same, ?_, ht, by omega⟩ but_at
      rw [upd_ne npb.symm]
      exact hb
    · -- turn = quay[1]; quay[1] = turn + 1; cell = A * turn + B
      refine ⟨_, rfl, p, _, _, _, rfl, rfl, SqL.of hp, rfl, ?_⟩
      refine ⟨_, rfl, _, _, rfl, rfl, _, rfl, p, _, _, _, rfl, rfl, hp, rfl, ?_⟩
      refine ⟨_, rfl, _, _, rfl, rfl, .inl ⟨by decide, by decide⟩, _, _, rfl, rfl, ?_⟩
      -- quay[0] != []
      refine ⟨fun σ' H' => ∃ c0 : Int, σ' = [some (.ref p), some (.int many), none, some (.int t), some (.int c0), none] ∧ H' p = some (.lst [.ref b, .int (t + 1), .int l]) ∧ H' b = some (.lst (ns.map V.int)) ∧ But p H H', ?_, ?_⟩
      rotate_left
      · rintro σ' H' ⟨c0, rfl, hp2, hb2, S2⟩
        have ht2 : t ≤ 1000000 := by omega
        have fin : ∀ r : Int, 0 ≤ r → r < many → Q (.int r) H' := fun r h1 h2 => k r H' h1 h2 ⟨ns, t + 1, l, hp2, hb2, by omega, by omega⟩ S2
        have end_ : ∀ x : Int, Q (.int (x % many)) H' := fun x => fin _ (Int.emod_nonneg _ (by omega)) (Int.emod_lt_of_pos _ hm)
        refine ⟨_, rfl, _, rfl, p, _, _, _, rfl, rfl, SqL.of hp2, rfl, b, _, rfl, .inl (SqL.of hb2), _, _, rfl, rfl, _, rfl, ?_⟩
        refine ite2 (fun c1 => ?_) (fun c1 => ?_)
        · refine ⟨_, rfl, _, rfl, _, _, rfl, rfl, ⟨by decide, by decide, by decide⟩, _, _, rfl, rfl, _, rfl, ?_⟩
          refine ite2 (fun c2 => ?_) (fun c2 => ?_)
          · refine ⟨_, rfl, .inl ⟨_, rfl, _, rfl, _, _, rfl, rfl, ⟨by decide, by decide, by decide⟩, _, _, rfl, rfl, _, _, rfl, rfl, .inl ⟨by decide, by decide⟩, ?_⟩⟩
            refine ⟨_, rfl, _, _, rfl, rfl, .inr ⟨_, rfl, _, _, rfl, rfl, ?_⟩⟩
            refine ⟨_, rfl, _, rfl, _, _, rfl, rfl, wide_div hm hm2 (by decide) (by decide), _, rfl, p, _, _, _, rfl, rfl, hp2, rfl, ?_⟩
            refine ⟨_, rfl, .inl ⟨_, rfl, _, rfl, _, _, rfl, rfl, hm, ?_⟩⟩
            refine k _ _ (Int.emod_nonneg _ (by omega)) (Int.emod_lt_of_pos _ hm) ⟨ns, t + 1, _, upd_same, ?_, by omega, by omega⟩ (S2.trans but_at)
            rw [upd_ne npb.symm]
            exact hb2
          · refine ⟨_, rfl, .inl ⟨_, rfl, _, _, rfl, rfl, (by show (0 : Int) < _; decide), _, rfl, _, _, rfl, rfl, .inl ⟨by decide, by decide⟩, _, _, rfl, rfl, _, _, rfl, rfl, _, _, rfl, rfl, ⟨by decide, by decide, mix1 (by decide) (by decide) ht ht2 (by decide) (by decide) (by decide) (by decide)⟩, .inl ⟨_, rfl, _, _, rfl, rfl, (by show (0 : Int) < _; decide), ?_⟩⟩⟩
            refine ⟨_, rfl, _, rfl, _, _, rfl, rfl, .inl ⟨by decide, by decide⟩, _, _, rfl, rfl, _, _, rfl, rfl, .inl (mod_lim (by decide) (by decide)), _, rfl, _, _, rfl, rfl, .inl ⟨by decide, by decide⟩, _, rfl, _, _, rfl, rfl, .inr ⟨by omega, by omega⟩, _, _, rfl, rfl, _, _, rfl, rfl, _, _, rfl, rfl,
              ⟨by decide, by decide, mix2 (by decide) (by decide) ht ht2 (by decide) (by decide) (by decide) (by decide) (by decide) (by decide)⟩, .inl ⟨_, rfl, _, _, rfl, rfl, (by show (0 : Int) < _; decide), ?_⟩⟩
            exact ⟨_, rfl, _, _, rfl, rfl, ⟨by decide, by decide⟩, .inl ⟨_, rfl, _, rfl, _, _, rfl, rfl, hm, end_ _⟩⟩
        · refine ⟨_, rfl, .inl ⟨_, rfl, _, _, rfl, rfl, (by show (0 : Int) < _; decide), _, rfl, _, _, rfl, rfl, .inl ⟨by decide, by decide⟩, _, _, rfl, rfl, _, _, rfl, rfl, _, _, rfl, rfl, ⟨by decide, by decide, mix1 (by decide) (by decide) ht ht2 (by decide) (by decide) (by decide) (by decide)⟩, .inl ⟨_, rfl, _, _, rfl, rfl, (by show (0 : Int) < _; decide), ?_⟩⟩⟩
          refine ⟨_, rfl, _, rfl, _, _, rfl, rfl, .inl ⟨by decide, by decide⟩, _, _, rfl, rfl, _, _, rfl, rfl, .inl (mod_lim (by decide) (by decide)), _, rfl, _, _, rfl, rfl, .inl ⟨by decide, by decide⟩, _, rfl, _, _, rfl, rfl, .inr ⟨by omega, by omega⟩, _, _, rfl, rfl, _, _, rfl, rfl, _, _, rfl, rfl,
            ⟨by decide, by decide, mix2 (by decide) (by decide) ht ht2 (by decide) (by decide) (by decide) (by decide) (by decide) (by decide)⟩, .inl ⟨_, rfl, _, _, rfl, rfl, (by show (0 : Int) < _; decide), ?_⟩⟩
          exact ⟨_, rfl, _, _, rfl, rfl, ⟨by decide, by decide⟩, .inl ⟨_, rfl, _, rfl, _, _, rfl, rfl, hm, end_ _⟩⟩
      refine ⟨_, rfl, p, _, _, _, rfl, rfl, SqL.of upd_same, rfl, Nat.zero_le _, fun l0 hl0 => ?_⟩
      have hp1 : (upd (upd H p (.lst [.ref b, .int (t + 1), .int l])) l0 (.lst [])) p = some (.lst [.ref b, .int (t + 1), .int l]) := by
        rw [upd_ne (ne_of_none upd_same hl0), upd_same]
      have hb1 : (upd (upd H p (.lst [.ref b, .int (t + 1), .int l])) l0 (.lst [])) b = some (.lst (ns.map V.int)) := by
        have e : (upd H p (.lst [.ref b, .int (t + 1), .int l])) b = some (.lst (ns.map V.int)) := by
          rw [upd_ne npb.symm]
          exact hb
        rw [upd_ne (ne_of_none e hl0)]
        exact e
      have S1 : But p H (upd (upd H p (.lst [.ref b, .int (t + 1), .int l])) l0 (.lst [])) := but_at.trans (But.of (same_new hl0))
      refine ⟨.list (ns.map PyData.int), .list [], Dp.lst (SqL.of hb1) (dp_ints ns), Dp.lst (SqL.of upd_same) .nil, shaped_ints ns, shaped_ints [], _, rfl, ?_⟩
      rw [eqv_nil]
      refine ite2 (fun c => ?_) (fun c => ?_)
      · have c : ns ≠ [] := by simpa using c
        have hl : 0 < ns.length := List.length_pos_iff.mpr c
        have hl2 : (0 : Int) < ((ns.map V.int).length : Nat) := by
          rw [List.length_map]
          omega
        have h1 := Int.emod_nonneg t (show (((ns.map V.int).length : Nat) : Int) ≠ 0 by omega)
        have h2 := Int.emod_lt_of_pos t hl2
        obtain ⟨j, hj⟩ : ∃ j : Nat, t % (((ns.map V.int).length : Nat) : Int) = (j : Int) := ⟨_, (Int.toNat_of_nonneg h1).symm⟩
        have hj2 : j < ns.length := by
          rw [List.length_map] at hj h2
          omega
        have hx : (ns.map V.int)[j]? = some (V.int ns[j]) := by
          rw [List.getElem?_map, List.getElem?_eq_getElem hj2]
          rfl
        refine ⟨_, rfl, p, _, _, _, rfl, rfl, SqL.of hp1, rfl, ?_⟩
        refine ⟨_, rfl, .inl ⟨_, rfl, _, rfl, p, _, _, _, rfl, rfl, SqL.of hp1, rfl, b, _, rfl, .inl (SqL.of hb1), _, _, rfl, rfl, hl2, ?_⟩⟩
        exact ⟨b, _, _, V.int ns[j], rfl, rfl, SqL.of hb1, at_of hj hx, ns[j], rfl, hp1, hb1, S1⟩
      · exact ⟨_, rfl, hp1, hb1, S1⟩
end
end K40
namespace K40
open PySem PySem.Spec PyProof.Rows L2 OB SkE
def Bad (K : PySem.W.Frag) (H : Hp) (x : V) (lo hi : Option Int) : Prop := ∃ b, IsI K H x b ∧ (b && inB lo hi x) = false
theorem yes_no {b : Bool} {A : Prop} (h : b = true) (z : b = false) : A := by
  rw [h] at z
  cases z
theorem in_yes {lo hi : Int} {k : Nat} (h1 : lo ≤ (k : Int)) (h2 : (k : Int) ≤ hi) : (true && inB (some lo) (some hi) (.int (k : Int))) = true := by
  show (true && (decide (lo ≤ (k : Int)) && decide ((k : Int) ≤ hi))) = true
  rw [decide_eq_true h1, decide_eq_true h2]
  rfl
/-- cells, size, most, or what is wrong with them -/
def spR (K : PySem.W.Frag) (CN : Addr) (ans : Nat → Nat → Nat → VK → Hp → Prop) : Sp := fun vs H Q E => ∃ x y z : V, vs = [x, y, z] ∧
  ((Bad K H x (some 1) (some 256) ∧ RaisesP CN "cells" E H) ∨ ∃ c : Nat, x = .int (c : Int) ∧ 1 ≤ c ∧ c ≤ 256 ∧
  ((Bad K H y (some 1) (some 48) ∧ RaisesP CN "size" E H) ∨ ∃ s : Nat, y = .int (s : Int) ∧ 1 ≤ s ∧ s ≤ 48 ∧
  ((Bad K H z (some 1) (some ((min 8 c : Nat) : Int)) ∧ RaisesP CN "most" E H) ∨ ∃ k : Nat, z = .int (k : Int) ∧ 1 ≤ k ∧ k ≤ min 8 c ∧ ans c s k Q H)))
def aRoom : Nat → Nat → Nat → VK → Hp → Prop := fun _ _ _ Q H => Q .non H
def aChanges : Nat → Nat → Nat → VK → Hp → Prop := fun c s k Q H => Q (.int ((M40.T c (2 ^ s - 1) k : Nat) : Int)) H
def aLeast : Nat → Nat → Nat → VK → Hp → Prop := fun c s k Q H => ∀ e, M40.Lea (c * s) (M40.T c (2 ^ s - 1) k) e → Q (.int ((c * s + e : Nat) : Int)) H
/-- how many bits tell a place -/
def pl (c : Nat) : Nat := Builtin.Int.intBits ((c : Int) - 1)
def aSpare : Nat → Nat → Nat → VK → Hp → Prop := fun c s k Q H => ∀ e H', M40.Lea (c * s) (M40.T c (2 ^ s - 1) k) e → Same H H' → Q (.int (((c * s + 1 + k * (pl c + s) : Nat) : Int) - ((c * s + e : Nat) : Int))) H'
def spMost : Sp := fun vs H Q _ => ∃ c : Nat, vs = [.int c] ∧ Q (.int ((min 8 c : Nat) : Int)) H
def spEnough : Sp := fun vs H Q _ => ∃ n leads e : Nat, vs = [.int ((2 ^ n : Nat) : Int), .int leads, .int ((n + e : Nat) : Int)] ∧ n ≤ 13000 ∧ e ≤ 13000 ∧ leads < 2 ^ 13000 ∧ ∀ b : Bool, (b = true ↔ M40.En n leads e) → Q (.bl b) H
def spFewest : Sp := fun vs H Q _ => ∃ n leads : Nat, vs = [.int ((2 ^ n : Nat) : Int), .int leads] ∧ 1 ≤ n ∧ n ≤ 12500 ∧ leads < 2 ^ n ∧ ∀ e, M40.Lea n leads e → Q (.int ((n + e : Nat) : Int)) H
theorem lg {x b : Nat} (h : x < 2 ^ b) : ((x : Int)).natAbs.log2 ≤ b := by
  rw [Int.natAbs_natCast]
  by_cases e : x = 0
  · rw [e]
    exact Nat.zero_le _
  · exact Nat.le_of_lt ((Nat.log2_lt e).mpr h)
theorem mulW {x y a b : Nat} (hx : x < 2 ^ a) (hy : y < 2 ^ b) (h : a + b < 1000000) : CMulW (x : Int) (y : Int) := by
  have := lg hx
  have := lg hy
  show ((x : Int)).natAbs.log2 + ((y : Int)).natAbs.log2 < 1000000
  omega
theorem two_lt (a : Nat) : 2 ^ a < 2 ^ (a + 1) := by
  rw [Nat.pow_succ]
  have := M07.two_pos a
  omega
theorem bits_pow (n : Nat) : Builtin.Int.intBits (((2 ^ n : Nat) : Int) - 1) = n := by
  have e : (((2 ^ n : Nat) : Int) - 1) = ((2 ^ n - 1 : Nat) : Int) := by
    have := M07.two_pos n
    omega
  rw [e]
  unfold Builtin.Int.intBits
  rw [Int.natAbs_natCast]
  by_cases h : 2 ^ n - 1 = 0
  · have : n = 0 := by
      by_cases z : n = 0
      · exact z
      · have : 2 ^ 1 ≤ 2 ^ n := Nat.pow_le_pow_right (by decide) (by omega)
        omega
    subst this
    rfl
  · rw [if_neg (by simpa using h)]
    have p := M07.two_pos n
    have h1 : (2 ^ n - 1).log2 < n := (Nat.log2_lt h).mpr (by omega)
    have h2 : n - 1 ≤ (2 ^ n - 1).log2 := (Nat.le_log2 h).mpr (by
      obtain ⟨m, rfl⟩ : ∃ m, n = m + 1 := ⟨n - 1, by omega⟩
      rw [Nat.pow_succ, Nat.add_sub_cancel]
      have := M07.two_pos m
      omega)
    omega
theorem en_of {n l e : Nat} (h : ¬ l < 2) : (2 ^ n * l + 2 * (2 ^ (n + e) - 2 ^ n) ≤ (n + e) * 2 ^ (n + e)) ↔ M40.En n l e := by
  have p := M07.two_pos n
  have q := M07.two_pos e
  rw [Nat.pow_add]
  have le : 2 ^ n ≤ 2 ^ n * 2 ^ e := Nat.le_mul_of_pos_right _ q
  have e1 : 2 ^ n * (l + 2 * 2 ^ e) = 2 ^ n * l + 2 * (2 ^ n * 2 ^ e) := by
    rw [Nat.mul_add, Nat.mul_left_comm]
  have e2 : 2 ^ n * ((n + e) * 2 ^ e + 2) = (n + e) * (2 ^ n * 2 ^ e) + 2 * 2 ^ n := by
    rw [Nat.mul_add, Nat.mul_left_comm, Nat.mul_comm (2 ^ n) 2]
  constructor
  · intro z
    refine .inr (Nat.le_of_mul_le_mul_left ?_ p)
    rw [e1, e2]
    omega
  · rintro (z | z)
    · exact absurd z h
    · have z := Nat.mul_le_mul_left (2 ^ n) z
      rw [e1, e2] at z
      omega
section
variable {P : Program} {w : World} {K : PySem.W.Frag} {mg : Str → Option Value} {base : Heap}
theorem sc_most_rows : FnScope ["cells"] ["cells"] (defScope s_most_rows) := ⟨rfl, rfl, rfl, by decide +kernel, rfl, by decide +kernel, by decide +kernel⟩
theorem ok_most_rows {f : Addr} {fd : FuncData} (F : Fun K "most_rows" "most_rows" s_most_rows f fd) (T : Blt mg) : FnOk P w K mg base CX0 1 f fd ["cells"] spMost := by
  obtain ⟨tR, gR⟩ := T.g_MOST_ROWS
  refine F.ok sc_most_rows (fun vs H Q E h => ?_) (fun cdv A outer s H vs Q E hr h => ?_)
  · obtain ⟨c, rfl, _⟩ := h
    rfl
  · obtain ⟨c, rfl, k⟩ := h
    refine ⟨_, (pss_one (ps_ret (pe_callB (call_min2 rfl) (by rfl) T.n_min (by decide +kernel) (pa_cons (pe_glob (v := .int 8) rfl gR ⟨_, rfl⟩) (pa_cons (pv 0) pa_nil))))), ?_⟩
    refine ⟨_, rfl, _, _, rfl, ?_⟩
    have e : (if (c : Int) < 8 then (c : Int) else 8) = ((min 8 c : Nat) : Int) := by
      by_cases z : (c : Int) < 8
      · rw [if_pos z]; omega
      · rw [if_neg z]; omega
    rw [e]
    exact k
theorem sc__need_room : FnScope ["cells", "size", "most"] ["cells", "size", "most"] (defScope s__need_room) := ⟨rfl, rfl, rfl, by decide +kernel, rfl, by decide +kernel, by decide +kernel⟩
theorem ok__need_room {f f1 f2 CN : Addr} {fd fd1 fd2 : FuncData} (F : Fun K "_need_room" "_need_room" s__need_room f fd) (T : Blt mg) (D_need_number : Df K mg "need_number" s_need_number ["value", "part", "least", "most"] f1 fd1) (G_need_number : FnOk P w K mg base (L2.CX P w) 4 f1 fd1 ["value", "part", "least", "most"] (spNeedNumber K CN))
    (D_most_rows : Df K mg "most_rows" s_most_rows ["cells"] f2 fd2) : FnOk P w K mg base (L2.CX P w) 6 f fd ["cells", "size", "most"] (spR K CN aRoom) := by
  have G_most_rows : FnOk P w K mg base CX0 1 f2 fd2 ["cells"] spMost := ok_most_rows D_most_rows.F T
  obtain ⟨tC, gC⟩ := T.g_MOST_CELLS
  obtain ⟨tS, gS⟩ := T.g_MOST_SIZE
  refine F.okX sc__need_room (fun vs H Q E h => ?_) (fun cdv A outer s H vs Q E hr h => ?_)
  · obtain ⟨x, y, z, rfl, _⟩ := h
    rfl
  · obtain ⟨x, y, z, rfl, h⟩ := h
    refine ⟨_, (pss_cons (ps_expr (pe_callS G_need_number (hr.mono (by decide)) (by rfl) D_need_number.g D_need_number.F.kp D_need_number.b (fun σ => passAt (takes_of rfl rfl rfl rfl) σ) (pa_cons (pv 0) (pa_cons pe_str (pa_cons pe_int (pa_cons (pe_glob (v := .int 256) rfl gC ⟨_, rfl⟩) pa_nil))))))
  (pss_cons (ps_expr (pe_callS G_need_number (hr.mono (by decide)) (by rfl) D_need_number.g D_need_number.F.kp D_need_number.b (fun σ => passAt (takes_of rfl rfl rfl rfl) σ) (pa_cons (pv 1) (pa_cons pe_str (pa_cons pe_int (pa_cons (pe_glob (v := .int 48) rfl gS ⟨_, rfl⟩) pa_nil))))))
  (pss_one (ps_expr (pe_callS G_need_number (hr.mono (by decide)) (by rfl) D_need_number.g D_need_number.F.kp D_need_number.b (fun σ => passAt (takes_of rfl rfl rfl rfl) σ) (pa_cons (pv 2) (pa_cons pe_str (pa_cons pe_int (pa_cons (pe_call G_most_rows (hr.mono (by decide)) (by rfl) D_most_rows.g D_most_rows.F.kp D_most_rows.b .nil pass0 (pa_cons (pv 0) pa_nil)) pa_nil))))))))), ?_⟩
    rcases h with ⟨⟨b, hI, hb⟩, kx⟩ | ⟨c, rfl, c1, c2, h⟩
    · exact ⟨_, rfl, _, "cells", some 1, some 256, b, rfl, hI, fun z => yes_no z hb, fun _ => kx⟩
    refine ⟨_, rfl, _, "cells", some 1, some 256, true, rfl, isI_int _, fun _ => ?_, fun z => yes_no (in_yes (by omega) (by omega)) z⟩
    rcases h with ⟨⟨b, hI, hb⟩, kx⟩ | ⟨s', rfl, s1, s2, h⟩
    · exact ⟨_, rfl, _, "size", some 1, some 48, b, rfl, hI, fun z => yes_no z hb, fun _ => kx⟩
    refine ⟨_, rfl, _, "size", some 1, some 48, true, rfl, isI_int _, fun _ => ?_, fun z => yes_no (in_yes (by omega) (by omega)) z⟩
    refine ⟨_, rfl, _, rfl, c, rfl, ?_⟩
    rcases h with ⟨⟨b, hI, hb⟩, kx⟩ | ⟨k', rfl, k1, k2, k⟩
    · exact ⟨_, "most", some 1, some ((min 8 c : Nat) : Int), b, rfl, hI, fun z => yes_no z hb, fun _ => kx⟩
    exact ⟨_, "most", some 1, some ((min 8 c : Nat) : Int), true, rfl, isI_int _, fun _ => k, fun z => yes_no (in_yes (by omega) (by omega)) z⟩
theorem sc__are_enough : FnScope ["states", "leads", "bits", "words"] ["states", "leads", "bits"] (defScope s__are_enough) := ⟨rfl, rfl, rfl, by decide +kernel, rfl, by decide +kernel, by decide +kernel⟩
theorem ok__are_enough {f : Addr} {fd : FuncData} (F : Fun K "_are_enough" "_are_enough" s__are_enough f fd) (T : Blt mg) : FnOk P w K mg base CX0 1 f fd ["states", "leads", "bits"] spEnough := by
  refine F.ok sc__are_enough (fun vs H Q E h => ?_) (fun cdv A outer s H vs Q E hr h => ?_)
  · obtain ⟨n, l, e, rfl, _⟩ := h
    rfl
  · obtain ⟨n, l, e, rfl, hn, he, hl, k⟩ := h
    refine ⟨_, (pss_cons (ps_set (i := 3) sc__are_enough.nd rfl (Or.inl rfl) (pe_op op_oneN pe_int (pv 2)))
  (pss_cons (ps_if (pt_cmpR op_gt (pv 0) (pv 3) (nomark _)) (pss_one (ps_ret pe_bl)) pss_nil)
  (pss_one (ps_ret (pe_or (pe_cmpR op_lt (pv 1) pe_int (nomark _)) (pe_one (pe_cmpR op_le (pe_op op_add (pe_op op_mulW (pv 0) (pv 1)) (pe_op op_mulW pe_int (pe_op op_sub (pv 3) (pv 0)))) (pe_op op_mulW (pv 2) (pv 3)) (nomark _)))))))), ?_⟩
    refine ⟨_, rfl, n + e, rfl, rfl, by omega, ?_⟩
    refine ⟨_, rfl, _, rfl, _, _, rfl, rfl, _, rfl, ?_⟩
    have le : 2 ^ n ≤ 2 ^ (n + e) := Nat.pow_le_pow_right (by decide) (by omega)
    refine ite2 (fun c => absurd (of_decide_eq_true c) (by omega)) (fun _ => ?_)
    refine ⟨_, rfl, _, _, rfl, rfl, _, rfl, ?_⟩
    refine ite2 (fun c => ?_) (fun c => ?_)
    · have c : l < 2 := by
        have := of_decide_eq_true c
        omega
      exact k true ⟨fun _ => .inl c, fun _ => rfl⟩
    · have c : ¬ l < 2 := fun z => c (decide_eq_true (by omega))
      have ew : ((2 ^ (n + e) : Nat) : Int) - ((2 ^ n : Nat) : Int) = ((2 ^ (n + e) - 2 ^ n : Nat) : Int) := by omega
      have b1 : 2 ^ (n + e) < 2 ^ 26001 := Nat.lt_of_le_of_lt (Nat.pow_le_pow_right (by decide) (show n + e ≤ 26000 from Nat.add_le_add hn he)) (two_lt 26000)
      have b2 : 2 ^ n < 2 ^ 13001 := Nat.lt_of_le_of_lt (Nat.pow_le_pow_right (by decide) hn) (two_lt 13000)
      refine ⟨_, rfl, _, rfl, _, _, rfl, rfl, mulW b2 hl (by decide), _, rfl, _, rfl, _, _, rfl, rfl, _, _, rfl, rfl, ?_, _, _, rfl, rfl, _, rfl, _, rfl, _, _, rfl, rfl, mulW (a := 15) (Nat.lt_of_le_of_lt (Nat.add_le_add hn he) (by decide)) b1 (by decide), _, _, rfl, rfl, ?_⟩
      · rw [ew]
        exact mulW (x := 2) (a := 2) (by decide) (Nat.lt_of_le_of_lt (Nat.sub_le _ _) b1) (by decide)
      · refine k _ ?_
        rw [← en_of c, decide_eq_true_eq]
        show ((2 ^ n : Nat) : Int) * (l : Int) + 2 * (((2 ^ (n + e) : Nat) : Int) - ((2 ^ n : Nat) : Int)) ≤ ((n + e : Nat) : Int) * ((2 ^ (n + e) : Nat) : Int) ↔ _
        rw [ew]
        constructor
        · intro z
          exact_mod_cast z
        · intro z
          exact_mod_cast z
theorem sc_fewest_enough : FnScope ["states", "leads", "bits"] ["states", "leads"] (defScope s_fewest_enough) := ⟨rfl, rfl, rfl, by decide +kernel, rfl, by decide +kernel, by decide +kernel⟩
theorem ok_fewest_enough {f f1 : Addr} {fd fd1 : FuncData} (F : Fun K "fewest_enough" "fewest_enough" s_fewest_enough f fd) (T : Blt mg) (D__are_enough : Df K mg "_are_enough" s__are_enough ["states", "leads", "bits"] f1 fd1) : FnOk P w K mg base CX0 2 f fd ["states", "leads"] spFewest := by
  have G__are_enough : FnOk P w K mg base CX0 1 f1 fd1 ["states", "leads", "bits"] spEnough := ok__are_enough D__are_enough.F T
  refine F.ok sc_fewest_enough (fun vs H Q E h => ?_) (fun cdv A outer s H vs Q E hr h => ?_)
  · obtain ⟨n, l, rfl, _⟩ := h
    rfl
  · obtain ⟨n, l, rfl, n1, n2, hl, k⟩ := h
    refine ⟨_, (pss_cons (ps_set (i := 2) sc_fewest_enough.nd rfl (Or.inl rfl) (pe_bits (pe_op op_sub (pv 0) pe_int)))
  (pss_cons (ps_while PassesOwn.never (pt_not (pt_val (pe_call G__are_enough (hr.mono (by decide)) (by rfl) D__are_enough.g D__are_enough.F.kp D__are_enough.b .nil pass0 (pa_cons (pv 0) (pa_cons (pv 1) (pa_cons (pv 2) pa_nil)))))) (pss_one (ps_aug (i := 2) sc_fewest_enough.nd rfl (.inl rfl) pe_int ip_add)))
  (pss_one (ps_ret (pv 2))))), ?_⟩
    refine ⟨_, rfl, _, _, rfl, rfl, _, rfl, ?_⟩
    dsimp only
    rw [bits_pow]
    refine while_by (fun σ H' => H' = H ∧ ∃ e : Nat, (∀ q, q < e → ¬ M40.En n l q) ∧ e ≤ n ∧ σ = [some (.int ((2 ^ n : Nat) : Int)), some (.int (l : Int)), some (.int ((n + e : Nat) : Int))])
      (fun σ _ => match σ with
        | [_, _, some (.int b)] => 2 * n - b.toNat
        | _ => 0) ⟨rfl, 0, fun q z => absurd z (Nat.not_lt_zero q), Nat.zero_le _, rfl⟩ ?_ ?_
    · rintro σ H' ⟨rfl, e, he, hen, rfl⟩
      refine ⟨_, rfl, _, rfl, _, rfl, n, l, e, rfl, by omega, by omega, Nat.lt_of_lt_of_le hl (Nat.pow_le_pow_right (by decide) (by omega)), fun b hb => ?_⟩
      refine ⟨_, rfl, ?_⟩
      cases b with
      | true => exact iteF ⟨_, rfl, k e ⟨hb.mp rfl, he⟩⟩
      | false =>
        have no : ¬ M40.En n l e := fun z => Bool.noConfusion (hb.mpr z)
        have ne : e ≠ n := fun z => no (by rw [z]; exact M40.en_twice n1 hl)
        refine iteT ⟨_, rfl, _, _, rfl, rfl, ⟨rfl, e + 1, fun q hq => ?_, by omega, ?_⟩, ?_⟩
        · by_cases z : q = e
          · rw [z]; exact no
          · exact he q (by omega)
        · show [some (V.int ((2 ^ n : Nat) : Int)), some (V.int (l : Int)), some (V.int (((n + e : Nat) : Int) + 1))] = _
          rw [show ((n + e : Nat) : Int) + 1 = ((n + (e + 1) : Nat) : Int) by omega]
        · show 2 * n - (((n + e : Nat) : Int) + 1).toNat < 2 * n - ((n + e : Nat) : Int).toNat
          omega
    · rintro σ H1 Q1 Q2 hQ ⟨a1, a2, a3, a4, a5, a6, n', l', e', hv, h1, h2, h3, hd⟩
      exact ⟨a1, a2, a3, a4, a5, a6, n', l', e', hv, h1, h2, h3, fun b hb => let ⟨c, ec, q⟩ := hd b hb; ⟨c, ec, hQ _ _ q⟩⟩
theorem sc_changes_of : FnScope ["cells", "size", "most", "changes", "contents", "many"] ["cells", "size", "most"] (defScope s_changes_of) := ⟨rfl, rfl, rfl, by decide +kernel, rfl, by decide +kernel, by decide +kernel⟩
theorem ok_changes_of {f f1 CN : Addr} {fd fd1 : FuncData} (F : Fun K "changes_of" "changes_of" s_changes_of f fd) (T : Blt mg) (D__need_room : Df K mg "_need_room" s__need_room ["cells", "size", "most"] f1 fd1) (G__need_room : FnOk P w K mg base (L2.CX P w) 6 f1 fd1 ["cells", "size", "most"] (spR K CN aRoom)) :
    FnOk P w K mg base (L2.CX P w) 7 f fd ["cells", "size", "most"] (spR K CN aChanges) := by
  refine F.okX sc_changes_of (fun vs H Q E h => ?_) (fun cdv A outer s H vs Q E hr h => ?_)
  · obtain ⟨x, y, z, rfl, _⟩ := h
    rfl
  · obtain ⟨x, y, z, rfl, h⟩ := h
    refine ⟨_, (pss_cons (ps_expr (pe_callS G__need_room (hr.mono (by decide)) (by rfl) D__need_room.g D__need_room.F.kp D__need_room.b (fun σ => passAt (takes_of rfl rfl rfl rfl) σ) (pa_cons (pv 0) (pa_cons (pv 1) (pa_cons (pv 2) pa_nil)))))
  (pss_cons (ps_set (i := 3) sc_changes_of.nd rfl (Or.inl rfl) pe_int)
  (pss_cons (ps_set (i := 4) sc_changes_of.nd rfl (Or.inl rfl) pe_int)
  (pss_cons (ps_for (passes_of rfl) rfl (pi_range2 (by rfl) T.n_range (pa_cons pe_int (pa_cons (pe_op op_add (pv 2) pe_int) pa_nil))) (pg_name (i := 5) sc_changes_of.nd rfl (Or.inl rfl)) (pss_cons (ps_set (i := 4) sc_changes_of.nd rfl (Or.inl rfl) (pe_op op_mulW (pv 4) (pe_op op_sub (pe_op op_oneN pe_int (pv 1)) pe_int)))
  (pss_one (ps_set (i := 3) sc_changes_of.nd rfl (Or.inl rfl) (pe_op op_add (pv 3) (pe_op op_mulW (pe_callBfun cr_comb (by rfl) T.g_comb (pa_cons (pv 0) (pa_cons (pv 5) pa_nil))) (pv 4)))))))
  (pss_one (ps_ret (pv 3))))))), ?_⟩
    rcases h with ⟨hx, kx⟩ | ⟨c, rfl, c1, c2, h⟩
    · exact ⟨_, rfl, _, rfl, _, rfl, _, _, _, rfl, .inl ⟨hx, kx⟩⟩
    rcases h with ⟨hx, kx⟩ | ⟨s', rfl, s1, s2, h⟩
    · exact ⟨_, rfl, _, rfl, _, rfl, _, _, _, rfl, .inr ⟨c, rfl, c1, c2, .inl ⟨hx, kx⟩⟩⟩
    rcases h with ⟨hx, kx⟩ | ⟨k', rfl, k1, k2, k⟩
    · exact ⟨_, rfl, _, rfl, _, rfl, _, _, _, rfl, .inr ⟨c, rfl, c1, c2, .inr ⟨s', rfl, s1, s2, .inl ⟨hx, kx⟩⟩⟩⟩
    refine ⟨_, rfl, _, rfl, _, rfl, _, _, _, rfl, .inr ⟨c, rfl, c1, c2, .inr ⟨s', rfl, s1, s2, .inr ⟨k', rfl, k1, k2, ?_⟩⟩⟩⟩
    unfold aRoom
    have k8 : k' ≤ 8 := Nat.le_trans k2 (Nat.min_le_left _ _)
    refine ⟨_, rfl, _, _, rfl, rfl, ?_⟩
    refine ⟨_, _, rfl, ⟨by decide, by decide, by omega, by omega⟩, ?_⟩
    rw [show ((k' : Int) + 1 - 1).toNat = k' by omega]
    have px := M07.two_pos s'
    have ex : ((2 ^ s' : Nat) : Int) - 1 = ((2 ^ s' - 1 : Nat) : Int) := by omega
    have bx : 2 ^ s' - 1 < 2 ^ 49 := Nat.lt_of_le_of_lt (Nat.sub_le _ _) (Nat.lt_of_le_of_lt (Nat.pow_le_pow_right (by decide) s2) (two_lt 48))
    refine for_range (lo := 1) (n := k') (fun i σ H' => H' = H ∧ ∃ u : Option V, σ = [some (.int (c : Int)), some (.int (s' : Int)), some (.int (k' : Int)), some (.int ((M40.T c (2 ^ s' - 1) i : Nat) : Int)), some (.int (((2 ^ s' - 1) ^ i : Nat) : Int)), u]) ?_ ?_ ?_
    · refine ⟨rfl, none, ?_⟩
      rw [Nat.pow_zero]
      rfl
    · rintro i σ H1 hi ⟨rfl, u, rfl⟩
      have bp : ∀ j, j ≤ 8 → (2 ^ s' - 1) ^ j < 2 ^ 393 := fun j hj => by
        have h1 : (2 ^ s' - 1) ^ j ≤ (2 ^ 49) ^ j := Nat.pow_le_pow_left (Nat.le_of_lt bx) j
        have h2 : (2 ^ 49) ^ j ≤ (2 ^ 49) ^ 8 := Nat.pow_le_pow_right (by decide) hj
        exact Nat.lt_of_le_of_lt (Nat.le_trans h1 h2) (by decide)
      have bc : M39.ch c (i + 1) < 2 ^ 65 := by
        have h1 := M40.ch_pow c (i + 1)
        have h2 : c ^ (i + 1) ≤ 256 ^ (i + 1) := Nat.pow_le_pow_left c2 _
        have h3 : 256 ^ (i + 1) ≤ 256 ^ 8 := Nat.pow_le_pow_right (by decide) (Nat.le_trans hi k8)
        exact Nat.lt_of_le_of_lt (Nat.le_trans h1 (Nat.le_trans h2 h3)) (by decide)
      have em : (((2 ^ s' - 1) ^ i : Nat) : Int) * ((2 ^ s' - 1 : Nat) : Int) = (((2 ^ s' - 1) ^ (i + 1) : Nat) : Int) := by
        rw [← Int.natCast_mul, Nat.pow_succ]
      refine ⟨_, rfl, _, rfl, s', rfl, rfl, by omega, _, _, rfl, rfl, _, _, rfl, rfl, ?_, ?_⟩
      · rw [ex]
        exact mulW (bp i (Nat.le_trans (Nat.le_of_lt hi) k8)) bx (by decide)
      dsimp only
      rw [ex, em]
      refine ⟨_, rfl, _, rfl, _, rfl, c, i + 1, ?_, Nat.lt_of_le_of_lt c2 (by decide), Nat.le_trans hi (Nat.le_trans k8 (by decide)), _, rfl, _, _, rfl, rfl, mulW bc (bp (i + 1) (Nat.le_trans hi k8)) (by decide), _, _, rfl, rfl, ?_⟩
      · rw [show (1 : Int) + (i : Int) = ((i + 1 : Nat) : Int) by omega]
      · dsimp only
        rw [← Int.natCast_mul, ← Int.natCast_add, ← M40.T_succ]
        exact ⟨rfl, _, rfl⟩
    · rintro σ H1 ⟨rfl, u, rfl⟩
      exact ⟨_, rfl, k⟩
theorem sc_store_least : FnScope ["cells", "size", "most", "leads"] ["cells", "size", "most"] (defScope s_store_least) := ⟨rfl, rfl, rfl, by decide +kernel, rfl, by decide +kernel, by decide +kernel⟩
theorem ok_store_least {f f1 f2 f3 CN : Addr} {fd fd1 fd2 fd3 : FuncData} (F : Fun K "store_least" "store_least" s_store_least f fd) (T : Blt mg) (D_changes_of : Df K mg "changes_of" s_changes_of ["cells", "size", "most"] f1 fd1) (G_changes_of : FnOk P w K mg base (L2.CX P w) 7 f1 fd1 ["cells", "size", "most"] (spR K CN aChanges))
    (D_fewest_enough : Df K mg "fewest_enough" s_fewest_enough ["states", "leads"] f2 fd2) (D__are_enough : Df K mg "_are_enough" s__are_enough ["states", "leads", "bits"] f3 fd3) : FnOk P w K mg base (L2.CX P w) 8 f fd ["cells", "size", "most"] (spR K CN aLeast) := by
  have G_fewest_enough : FnOk P w K mg base CX0 2 f2 fd2 ["states", "leads"] spFewest := ok_fewest_enough D_fewest_enough.F T D__are_enough
  refine F.okX sc_store_least (fun vs H Q E h => ?_) (fun cdv A outer s H vs Q E hr h => ?_)
  · obtain ⟨x, y, z, rfl, _⟩ := h
    rfl
  · obtain ⟨x, y, z, rfl, h⟩ := h
    refine ⟨_, (pss_cons (ps_set (i := 3) sc_store_least.nd rfl (Or.inl rfl) (pe_callS G_changes_of (hr.mono (by decide)) (by rfl) D_changes_of.g D_changes_of.F.kp D_changes_of.b (fun σ => passAt (takes_of rfl rfl rfl rfl) σ) (pa_cons (pv 0) (pa_cons (pv 1) (pa_cons (pv 2) pa_nil)))))
  (pss_one (ps_ret (pe_call G_fewest_enough (hr.mono (by decide)) (by rfl) D_fewest_enough.g D_fewest_enough.F.kp D_fewest_enough.b .nil pass0 (pa_cons (pe_op op_oneN pe_int (pe_op op_mul (pv 0) (pv 1))) (pa_cons (pv 3) pa_nil)))))), ?_⟩
    rcases h with ⟨hx, kx⟩ | ⟨c, rfl, c1, c2, h⟩
    · exact ⟨_, rfl, _, rfl, _, rfl, _, _, _, rfl, .inl ⟨hx, kx⟩⟩
    rcases h with ⟨hx, kx⟩ | ⟨s', rfl, s1, s2, h⟩
    · exact ⟨_, rfl, _, rfl, _, rfl, _, _, _, rfl, .inr ⟨c, rfl, c1, c2, .inl ⟨hx, kx⟩⟩⟩
    rcases h with ⟨hx, kx⟩ | ⟨k', rfl, k1, k2, k⟩
    · exact ⟨_, rfl, _, rfl, _, rfl, _, _, _, rfl, .inr ⟨c, rfl, c1, c2, .inr ⟨s', rfl, s1, s2, .inl ⟨hx, kx⟩⟩⟩⟩
    refine ⟨_, rfl, _, rfl, _, rfl, _, _, _, rfl, .inr ⟨c, rfl, c1, c2, .inr ⟨s', rfl, s1, s2, .inr ⟨k', rfl, k1, k2, ?_⟩⟩⟩⟩
    unfold aChanges
    have px := M07.two_pos s'
    have ecs : ((c : Int) * (s' : Int)) = ((c * s' : Nat) : Int) := by rw [Int.natCast_mul]
    have cs1 : 1 ≤ c * s' := Nat.mul_pos c1 s1
    have cs2 : c * s' ≤ 12288 := Nat.mul_le_mul c2 s2
    have lt : M40.T c (2 ^ s' - 1) k' < 2 ^ (c * s') := by
      have := M40.T_lt (2 ^ s' - 1) (Nat.le_trans k2 (Nat.min_le_right 8 c))
      rw [show 1 + (2 ^ s' - 1) = 2 ^ s' by omega, ← Nat.pow_mul, Nat.mul_comm s' c] at this
      exact this
    refine ⟨_, rfl, _, rfl, _, _, rfl, rfl, .inl ⟨by omega, by omega⟩, c * s', rfl, congrArg V.int ecs, by omega, _, rfl, c * s', _, rfl, cs1, by omega, lt, fun e he => ?_⟩
    exact k e he
end
end K40
namespace K40
open PySem PySem.Spec PyProof.Rows L2 OB SkE
/-- the class of stores, as the top has made it -/
structure StoreC (K : PySem.W.Frag) (mg : Str → Option Value) (C fI : Addr) : Prop where
  cl : Cls K C
  n1 : NoAttr K C "cells"
  n2 : NoAttr K C "size"
  n3 : NoAttr K C "most"
  n4 : NoAttr K C "place_bits"
  n5 : NoAttr K C "bits"
  g : mg "Store" = some (.ref C)
  mkS : Mk K C fI
def spInitS (C : Addr) : Sp := fun vs H Q _ => ∃ (p dx : Addr) (c s k : Nat), vs = [.ref p, .int c, .int s, .int k] ∧ 1 ≤ c ∧ c ≤ 256 ∧ 1 ≤ s ∧ s ≤ 48 ∧ 1 ≤ k ∧ k ≤ min 8 c ∧ H p = some (.ins C dx []) ∧
  ∀ (fs : List (Str × V)) (H' : Hp), H' p = some (.ins C dx fs) → fs.lookup ("bits" : Str) = some (.int ((c * s + 1 + k * (pl c + s) : Nat) : Int)) → (∀ b o, H b = some o → b ≠ p → H' b = some o) → Q .non H'
theorem putF_len (f : Str) (v : V) : ∀ fs : List (Str × V), (putF f v fs).length ≤ fs.length + 1
  | [] => Nat.le_refl _
  | (g, u) :: r => by
    show (if g = f then (g, v) :: r else (g, u) :: putF f v r).length ≤ _
    by_cases h : g = f
    · rw [if_pos h]
      exact Nat.le_succ _
    · rw [if_neg h]
      exact Nat.succ_le_succ (putF_len f v r)
theorem putF_small {f : Str} {v : V} {fs : List (Str × V)} (h : fs.length + 1 < 1000) : (putF f v fs).length < 1000 := Nat.lt_of_le_of_lt (putF_len f v fs) h
section
variable {P : Program} {w : World} {K : PySem.W.Frag} {mg : Str → Option Value} {base : Heap}
theorem sc_Store_init : FnScope ["self", "cells", "size", "most"] ["self", "cells", "size", "most"] (defScope s_Store) := ⟨rfl, rfl, rfl, by decide +kernel, rfl, by decide +kernel, by decide +kernel⟩
theorem ok_Store_init {f f1 f2 f3 C CS fS : Addr} {fd fd1 fd2 fd3 fdS : FuncData} (F : Fun K "__init__" "Store.__init__" s_Store f fd) (T : Blt mg) (ZS : StoreC K mg C f) (D_is_within : Df K mg "is_within" s_is_within ["value", "least", "most"] f1 fd1) (D_is_integer : Df K mg "is_integer" s_is_integer ["value"] f2 fd2)
    (D_most_rows : Df K mg "most_rows" s_most_rows ["cells"] f3 fd3) (R_BadStore : Err P w K mg base "BadStore" "part" CS fS fdS) : FnOk P w K mg base (L2.CX P w) 4 f fd ["self", "cells", "size", "most"] (spInitS C) := by
  have G_is_within : FnOk P w K mg base CX0 2 f1 fd1 ["value", "least", "most"] (spWithin K) := ok_is_within D_is_within.F D_is_integer T
  have G_most_rows : FnOk P w K mg base CX0 1 f3 fd3 ["cells"] spMost := ok_most_rows D_most_rows.F T
  obtain ⟨tC, gC⟩ := T.g_MOST_CELLS
  obtain ⟨tS, gS⟩ := T.g_MOST_SIZE
  refine F.okX sc_Store_init (fun vs H Q E h => ?_) (fun cdv A outer s H vs Q E hr h => ?_)
  · obtain ⟨p, dx, c, s, k, rfl, _⟩ := h
    rfl
  · obtain ⟨p, dx, c, s', k', rfl, c1, c2, s1, s2, k1, k2, hp, k⟩ := h
    refine ⟨_, (pss_cons (ps_if (pt_not (pt_val (pe_call G_is_within (hr.mono (by decide)) (by rfl) D_is_within.g D_is_within.F.kp D_is_within.b .nil pass0 (pa_cons (pv 1) (pa_cons pe_int (pa_cons (pe_glob (v := .int 256) rfl gC ⟨_, rfl⟩) pa_nil)))))) (pss_one (ps_raise1 rfl (takes_of rfl rfl rfl rfl) R_BadStore (hr.mono (by decide)) (by rfl) pe_str)) pss_nil)
  (pss_cons (ps_if (pt_not (pt_val (pe_call G_is_within (hr.mono (by decide)) (by rfl) D_is_within.g D_is_within.F.kp D_is_within.b .nil pass0 (pa_cons (pv 2) (pa_cons pe_int (pa_cons (pe_glob (v := .int 48) rfl gS ⟨_, rfl⟩) pa_nil)))))) (pss_one (ps_raise1 rfl (takes_of rfl rfl rfl rfl) R_BadStore (hr.mono (by decide)) (by rfl) pe_str)) pss_nil)
  (pss_cons (ps_if (pt_not (pt_val (pe_call G_is_within (hr.mono (by decide)) (by rfl) D_is_within.g D_is_within.F.kp D_is_within.b .nil pass0 (pa_cons (pv 3) (pa_cons pe_int (pa_cons (pe_call G_most_rows (hr.mono (by decide)) (by rfl) D_most_rows.g D_most_rows.F.kp D_most_rows.b .nil pass0 (pa_cons (pv 1) pa_nil)) pa_nil)))))) (pss_one (ps_raise1 rfl (takes_of rfl rfl rfl rfl) R_BadStore (hr.mono (by decide)) (by rfl) pe_str)) pss_nil)
  (pss_cons (ps_fld (pv 0) (pv 1) rfl)
  (pss_cons (ps_fld (pv 0) (pv 2) rfl)
  (pss_cons (ps_fld (pv 0) (pv 3) rfl)
  (pss_cons (ps_fld (pv 0) (pe_bits (pe_op op_sub (pv 1) pe_int)) rfl)
  (pss_one (ps_fld (pv 0) (pe_op op_add (pe_op op_add (pe_op op_mul (pv 1) (pv 2)) pe_int) (pe_op op_mul (pv 3) (pe_op op_add (pe_fld (pv 0) rfl) (pv 2)))) rfl))))))))), ?_⟩
    have k8 : k' ≤ 8 := Nat.le_trans k2 (Nat.min_le_left _ _)
    have ok : ∀ {lo hi : Int} {x : Nat} {A B : Prop}, lo ≤ (x : Int) → (x : Int) ≤ hi → B → if (!(true && inB (some lo) (some hi) (.int (x : Int)))) = true then A else B := fun {lo hi x A B} h1 h2 h => by
      rw [in_yes h1 h2]
      exact iteF h
    refine ⟨_, rfl, _, some 1, some 256, true, rfl, isI_int _, _, rfl, ?_⟩
    refine ok (by omega) (by omega) ?_
    refine ⟨_, rfl, _, some 1, some 48, true, rfl, isI_int _, _, rfl, ?_⟩
    refine ok (by omega) (by omega) ?_
    refine ⟨_, rfl, _, rfl, c, rfl, _, some 1, some ((min 8 c : Nat) : Int), true, rfl, isI_int _, _, rfl, ?_⟩
    refine ok (by omega) (by omega) ?_
    refine ⟨_, rfl, _, rfl, p, C, dx, [], rfl, hp, ZS.cl, ZS.n1, (by show 0 < 1000; decide), ?_⟩
    refine ⟨_, rfl, _, rfl, p, C, dx, _, rfl, upd_same, ZS.cl, ZS.n2, putF_small (by decide), ?_⟩
    refine ⟨_, rfl, _, rfl, p, C, dx, _, rfl, upd_same, ZS.cl, ZS.n3, ?_, ?_⟩
    · exact Nat.lt_of_le_of_lt (putF_len _ _ _) (Nat.succ_lt_succ (Nat.lt_of_le_of_lt (putF_len _ _ _) (by decide)))
    have l3 : ∀ {v1 v2 v3 : V}, (putF "most" v3 (putF "size" v2 (putF "cells" v1 []))).length ≤ 3 := fun {v1 v2 v3} => by
      refine Nat.le_trans (putF_len _ _ _) (Nat.succ_le_succ (Nat.le_trans (putF_len _ _ _) (Nat.succ_le_succ (Nat.le_trans (putF_len _ _ _) (by decide)))))
    refine ⟨_, rfl, _, _, rfl, rfl, _, rfl, _, rfl, p, C, dx, _, rfl, upd_same, ZS.cl, ZS.n4, Nat.lt_of_le_of_lt l3 (by decide), ?_⟩
    refine ⟨_, rfl, _, rfl, _, _, rfl, rfl, .inl ⟨by omega, by omega⟩, _, _, rfl, rfl, _, rfl, _, rfl, p, C, dx, _, _, rfl, upd_same, ZS.cl, ZS.n4, (by rw [lookup_putF, if_pos rfl]), _, rfl, _, _, rfl, rfl, _, _, rfl, rfl, .inl ⟨by omega, by omega⟩, _, _, rfl, rfl, _, rfl, p, C, dx, _, rfl, upd_same, ZS.cl, ZS.n5, ?_, ?_⟩
    · exact Nat.lt_of_le_of_lt (putF_len _ _ _) (Nat.lt_of_le_of_lt (Nat.succ_le_succ l3) (by decide))
    refine k _ _ upd_same ?_ fun b o e nb => ?_
    · rw [lookup_putF, if_pos rfl]
      show some (V.int ((c : Int) * (s' : Int) + 1 + (k' : Int) * (((pl c : Nat) : Int) + (s' : Int)))) = _
      rw [Int.natCast_add, Int.natCast_add, Int.natCast_mul, Int.natCast_mul, Int.natCast_add]
      rfl
    · rw [upd_ne nb, upd_ne nb, upd_ne nb, upd_ne nb, upd_ne nb]
      exact e
theorem sc_spare_bits : FnScope ["cells", "size", "most", "least"] ["cells", "size", "most"] (defScope s_spare_bits) := ⟨rfl, rfl, rfl, by decide +kernel, rfl, by decide +kernel, by decide +kernel⟩
theorem ok_spare_bits {f f1 fI C CN : Addr} {fd fd1 fdI : FuncData} (F : Fun K "spare_bits" "spare_bits" s_spare_bits f fd) (T : Blt mg) (ZS : StoreC K mg C fI) (D_store_least : Df K mg "store_least" s_store_least ["cells", "size", "most"] f1 fd1) (G_store_least : FnOk P w K mg base (L2.CX P w) 8 f1 fd1 ["cells", "size", "most"] (spR K CN aLeast))
    (bI : L2.Binds K fdI ["self", "cells", "size", "most"] []) (GX_Store : FnOk P w K mg base (L2.CX P w) 4 fI fdI ["self", "cells", "size", "most"] (spInitS C)) : FnOk P w K mg base (L2.CX P w) 9 f fd ["cells", "size", "most"] (spR K CN aSpare) := by
  have G_Store := calm_of GX_Store
  refine F.okX sc_spare_bits (fun vs H Q E h => ?_) (fun cdv A outer s H vs Q E hr h => ?_)
  · obtain ⟨x, y, z, rfl, _⟩ := h
    rfl
  · obtain ⟨x, y, z, rfl, h⟩ := h
    refine ⟨_, (pss_cons (ps_set (i := 3) sc_spare_bits.nd rfl (Or.inl rfl) (pe_callS G_store_least (hr.mono (by decide)) (by rfl) D_store_least.g D_store_least.F.kp D_store_least.b (fun σ => passAt (takes_of rfl rfl rfl rfl) σ) (pa_cons (pv 0) (pa_cons (pv 1) (pa_cons (pv 2) pa_nil)))))
  (pss_one (ps_ret (pe_op op_sub (pe_fld (pe_make ZS.mkS G_Store (hr.mono (by decide)) (by rfl) ZS.g bI .nil pass0 (pa_cons (pv 0) (pa_cons (pv 1) (pa_cons (pv 2) pa_nil)))) rfl) (pv 3))))), ?_⟩
    rcases h with ⟨hx, kx⟩ | ⟨c, rfl, c1, c2, h⟩
    · exact ⟨_, rfl, _, rfl, _, rfl, _, _, _, rfl, .inl ⟨hx, kx⟩⟩
    rcases h with ⟨hx, kx⟩ | ⟨s', rfl, s1, s2, h⟩
    · exact ⟨_, rfl, _, rfl, _, rfl, _, _, _, rfl, .inr ⟨c, rfl, c1, c2, .inl ⟨hx, kx⟩⟩⟩
    rcases h with ⟨hx, kx⟩ | ⟨k', rfl, k1, k2, k⟩
    · exact ⟨_, rfl, _, rfl, _, rfl, _, _, _, rfl, .inr ⟨c, rfl, c1, c2, .inr ⟨s', rfl, s1, s2, .inl ⟨hx, kx⟩⟩⟩⟩
    refine ⟨_, rfl, _, rfl, _, rfl, _, _, _, rfl, .inr ⟨c, rfl, c1, c2, .inr ⟨s', rfl, s1, s2, .inr ⟨k', rfl, k1, k2, ?_⟩⟩⟩⟩
    intro e he
    refine ⟨_, rfl, _, rfl, _, rfl, ?_⟩
    intro x dx nx ndx nex
    refine ⟨x, dx, c, s', k', rfl, c1, c2, s1, s2, k1, k2, upd_same, fun fs H1 h1 h2 kp => ⟨rfl, ?_⟩⟩
    refine ⟨x, C, dx, _, _, rfl, h1, ZS.cl, ZS.n5, h2, _, rfl, _, _, rfl, rfl, ?_⟩
    refine k e H1 he fun b o eb => ?_
    refine kp b o ?_ (ne_of_none eb nx)
    rw [upd_ne (ne_of_none eb nx), upd_ne (ne_of_none eb ndx)]
    exact eb
end
end K40
namespace K40
open PySem PySem.Spec PyProof.Rows L2 OB SkE
/-- one of some things, drawn -/
def spOne : Sp := fun vs H Q _ => ∃ (p b l : Addr) (n : Nat) (xs : List V), vs = [.ref p, .ref l] ∧ Orch H p b n ∧ n < 1000000 ∧ H l = some (.lst xs) ∧ l ≠ p ∧ 0 < xs.length ∧ xs.length ≤ 1000 ∧
  ∀ (j : Nat) (x : V) (H' : Hp), xs[j]? = some x → Orch H' p b (n + 1) → But p H H' → Q x H'
def nv (ns : List Nat) : List V := ns.map fun (x : Nat) => V.int (x : Int)
theorem nv_len (ns : List Nat) : (nv ns).length = ns.length := List.length_map _
theorem nv_more (ns : List Nat) (x : Nat) : nv (ns ++ [x]) = nv ns ++ [V.int (x : Int)] := by
  unfold nv
  rw [List.map_append]
  rfl
theorem nv_at {ns : List Nat} {i x : Nat} (h : ns[i]? = some x) : (nv ns)[i]? = some (V.int (x : Int)) := by
  unfold nv
  rw [List.getElem?_map, h]
  rfl
def dg (st s j : Nat) : Nat := st / 2 ^ (s * j) % 2 ^ s
def spDigits : Sp := fun vs H Q _ => ∃ st c s : Nat, vs = [.int st, .int c, .int s] ∧ c * s ≤ 6 ∧ c ≤ 6 ∧ s ≤ 6 ∧ ∀ (q : Addr) (H' : Hp), H q = none → Same H H' → H' q = some (.lst (nv ((List.range c).map (dg st s)))) → Q (.ref q) H'
def BT (c s k m : Nat) : Nat := ((List.range m).filter fun i => decide (((List.range c).filter fun j => decide (dg (i + 1) s j ≠ 0)).length ≤ k)).length
def spTrial : Sp := fun vs H Q _ => ∃ c s k : Nat, vs = [.int c, .int s, .int k] ∧ c * s ≤ 6 ∧ c ≤ 6 ∧ s ≤ 6 ∧ ∀ H', Same H H' → Q (.int ((BT c s k (2 ^ (c * s) - 1) : Nat) : Int)) H'
theorem bt_is : ∀ q ∈ [(1, 3), (2, 2), (3, 1), (2, 3), (3, 2), (4, 1), (6, 1), (1, 6)], ∀ k, k ≤ 6 → k ≤ q.1 → BT q.1 q.2 k (2 ^ (q.1 * q.2) - 1) = M40.T q.1 (2 ^ q.2 - 1) k := by decide +kernel
def spChL : Sp := fun vs H Q _ => ∃ c s k : Nat, vs = [.int c, .int s, .int k] ∧ c ≤ 256 ∧ s ≤ 48 ∧ k ≤ 8 ∧ k ≤ c ∧ ∀ H', Same H H' → Q (.int ((M40.T c (2 ^ s - 1) k : Nat) : Int)) H'
def spLeL : Sp := fun vs H Q _ => ∃ c s k : Nat, vs = [.int c, .int s, .int k] ∧ 1 ≤ c ∧ c ≤ 256 ∧ 1 ≤ s ∧ s ≤ 48 ∧ k ≤ 8 ∧ k ≤ c ∧ ∀ e H', M40.Lea (c * s) (M40.T c (2 ^ s - 1) k) e → Same H H' → Q (.int ((c * s + e : Nat) : Int)) H'
def spBitL : Sp := fun vs H Q _ => ∃ c s k : Nat, vs = [.int c, .int s, .int k] ∧ 1 ≤ c ∧ c ≤ 256 ∧ s ≤ 48 ∧ k ≤ 8 ∧ Q (.int ((c * s + 1 + k * (pl c + s) : Nat) : Int)) H
theorem pl_facts {c : Nat} (h : 1 ≤ c) : c ≤ 2 ^ pl c ∧ ∀ q, q < pl c → 2 ^ q < c := by
  have e : ((c : Int) - 1) = ((c - 1 : Nat) : Int) := by omega
  unfold pl
  rw [e]
  unfold Builtin.Int.intBits
  rw [Int.natAbs_natCast]
  by_cases z : c - 1 = 0
  · rw [if_pos (by simpa using z)]
    exact ⟨by rw [Nat.pow_zero]; omega, fun q hq => absurd hq (Nat.not_lt_zero q)⟩
  · rw [if_neg (by simpa using z)]
    refine ⟨?_, fun q hq => ?_⟩
    · have := Nat.lt_log2_self (n := c - 1)
      omega
    · have h1 := Nat.log2_self_le z
      have h2 : 2 ^ q ≤ 2 ^ (c - 1).log2 := Nat.pow_le_pow_right (by decide) (by omega)
      omega
theorem lead_small {c s k : Nat} (h1 : 1 ≤ c) (hs : 1 ≤ s) : M40.T c (2 ^ s - 1) k + 2 ≤ 2 ^ (1 + k * (pl c + s)) := by
  have p := M07.two_pos s
  have a : c * (2 ^ s - 1) ≤ 2 ^ (pl c + s) := by
    rw [Nat.pow_add]
    exact Nat.mul_le_mul (pl_facts h1).1 (Nat.sub_le _ _)
  have b : 2 ≤ 2 ^ (pl c + s) := Nat.le_trans (by decide : 2 ≤ 2 ^ 1) (Nat.pow_le_pow_right (by decide) (by omega))
  have g := M40.T_geo a b k
  rw [← Nat.pow_mul, Nat.mul_comm (pl c + s) k] at g
  rw [Nat.pow_add]
  exact g
section
variable {P : Program} {w : World} {K : PySem.W.Frag} {mg : Str → Option Value} {base : Heap}
theorem sc__law_any : FnScope ["shed", "some"] ["shed", "some"] (defScope s__law_any) := ⟨rfl, rfl, rfl, by decide +kernel, rfl, by decide +kernel, by decide +kernel⟩
theorem ok__law_any {f f1 : Addr} {fd fd1 : FuncData} (F : Fun K "_law_any" "_law_any" s__law_any f fd) (T : Blt mg) (D__law_stack : Df K mg "_law_stack" s__law_stack ["shed", "many"] f1 fd1) : FnOk P w K mg base CX0 2 f fd ["shed", "some"] spOne := by
  have G__law_stack : FnOk P w K mg base CX0 1 f1 fd1 ["shed", "many"] spDraw := ok__law_stack D__law_stack.F T
  refine F.ok sc__law_any (fun vs H Q E h => ?_) (fun cdv A outer s H vs Q E hr h => ?_)
  · obtain ⟨p, b, l, n, xs, rfl, _⟩ := h
    rfl
  · obtain ⟨p, b, l, n, xs, rfl, O, hn, hl, nlp, h0, h1, k⟩ := h
    refine ⟨_, (pss_one (ps_ret (pe_ix ix_list (pv 1) (pe_call G__law_stack (hr.mono (by decide)) (by rfl) D__law_stack.g D__law_stack.F.kp D__law_stack.b .nil pass0 (pa_cons (pv 0) (pa_cons (pe_callB call_len_seq (by rfl) T.n_len (by decide +kernel) (pa_cons (pv 1) pa_nil)) pa_nil))) (fun _ _ => rfl)))), ?_⟩
    refine ⟨_, rfl, _, rfl, _, rfl, l, xs, rfl, .inl (SqL.of hl), p, b, n, _, rfl, O, hn, by omega, ?_, fun r H' r0 r1 O' B' => ?_⟩
    · show (xs.length : Int).natAbs < 2 ^ 9000
      rw [Int.natAbs_natCast]
      exact Nat.lt_of_le_of_lt h1 (by decide)
    · obtain ⟨j, rfl⟩ := Int.eq_ofNat_of_zero_le r0
      have hj : j < xs.length := by omega
      exact ⟨l, xs, _, xs[j], rfl, rfl, SqL.of (B' l _ hl nlp), atI_nat (List.getElem?_eq_getElem hj), k j _ H' (List.getElem?_eq_getElem hj) O' B'⟩
theorem sc__law_digits : FnScope ["state", "cells", "size", "cell"] ["state", "cells", "size"] (defScope s__law_digits) := ⟨rfl, rfl, rfl, by decide +kernel, rfl, by decide +kernel, by decide +kernel⟩
abbrev N__law_digits : List Str := ["state", "cells", "size", "cell"]
theorem ok__law_digits {f : Addr} {fd : FuncData} (F : Fun K "_law_digits" "_law_digits" s__law_digits f fd) (T : Blt mg) : FnOk P w K mg base CX0 1 f fd ["state", "cells", "size"] spDigits := by
  refine F.ok sc__law_digits (fun vs H Q E h => ?_) (fun cdv A outer s H vs Q E hr h => ?_)
  · obtain ⟨st, c, s', rfl, _⟩ := h
    rfl
  · obtain ⟨st, c, s', rfl, h6, hc, hs, k⟩ := h
    refine ⟨_, (pss_one (ps_ret (pe_lc (own := [("cell", 3)]) (g := (gName 3)) (tt := tYes) rfl sc__law_digits.nd (pi_range1 (by rfl) T.n_range (pa_cons (pv 1) pa_nil)) (blkOk_by (N := N__law_digits) (own := [("cell", 3)]) (sc := defScope s__law_digits) (by decide +kernel)) (fun _ _ _ _ _ => (pg_name (i := 3) sc__law_digits.nd rfl (Or.inl rfl))) (fun _ _ _ _ _ => pts_nil) (fun _ _ _ _ _ => (pe_op op_mod (pe_callTy call_int1 (by rfl) T.n_int (by decide +kernel) (pa_cons (pe_op op_fdivW (pv 0) (pe_op op_oneN pe_int (pe_op op_mul (pv 2) (pv 3)))) pa_nil)) (pe_op op_oneN pe_int (pv 2))))))), ?_⟩
    refine ⟨_, rfl, _, rfl, by omega, by omega, fun D hD => ?_⟩
    rw [Int.toNat_natCast]
    refine lc_range (n := c) (fun i H' => Same H H' ∧ H' D = some (.lst (nv ((List.range i).map (dg st s'))))) ⟨same_new hD, upd_same⟩ ?_ ?_
    · rintro i H1 hi ⟨S1, h1⟩
      have em : (s' : Int) * (0 + (i : Int)) = ((s' * i : Nat) : Int) := by rw [Int.zero_add, Int.natCast_mul]
      have le : s' * i ≤ 36 := Nat.mul_le_mul hs (show i ≤ 6 by omega)
      have p1 := M07.two_pos (s' * i)
      have p2 := M07.two_pos s'
      refine ⟨rfl, _, rfl, _, rfl, _, rfl, _, _, rfl, rfl, .inl ⟨by omega, by omega⟩, s' * i, rfl, congrArg V.int em, by omega, _, _, rfl, rfl, wide_div (b := 37) (by omega) ?_ (by decide) (by decide), .inl ⟨_, rfl, _, rfl, s', rfl, rfl, by omega, _, _, rfl, rfl, by omega, _, h1, ?_, fun a o e => ?_, ?_⟩⟩
      · rw [Int.natAbs_natCast]
        exact Nat.lt_of_le_of_lt (Nat.pow_le_pow_right (by decide) le) (by decide)
      · rw [nv_len, List.length_map, List.length_range]
        exact small1000 (by omega)
      · rw [upd_ne (ne_of_none e hD)]
        exact S1 a o e
      · rw [upd_same, List.range_succ, List.map_append, List.map_cons, List.map_nil, nv_more]
        show some (HO.lst (nv ((List.range i).map (dg st s')) ++ [V.int ((st : Int) / ((2 ^ (s' * i) : Nat) : Int) % ((2 ^ s' : Nat) : Int))])) = _
        rw [← Int.natCast_ediv, ← Int.natCast_emod]
        rfl
    · rintro H1 ⟨S1, h1⟩
      exact k D H1 hD S1 h1
theorem sc__law_by_trial : FnScope ["cells", "size", "most", "total", "state", "content"] ["cells", "size", "most"] (defScope s__law_by_trial) := ⟨rfl, rfl, rfl, by decide +kernel, rfl, by decide +kernel, by decide +kernel⟩
abbrev N__law_by_trial : List Str := ["cells", "size", "most", "total", "state", "content"]
theorem ok__law_by_trial {f f1 : Addr} {fd fd1 : FuncData} (F : Fun K "_law_by_trial" "_law_by_trial" s__law_by_trial f fd) (T : Blt mg) (D__law_digits : Df K mg "_law_digits" s__law_digits ["state", "cells", "size"] f1 fd1) : FnOk P w K mg base CX0 2 f fd ["cells", "size", "most"] spTrial := by
  have G__law_digits : FnOk P w K mg base CX0 1 f1 fd1 ["state", "cells", "size"] spDigits := ok__law_digits D__law_digits.F T
  refine F.ok sc__law_by_trial (fun vs H Q E h => ?_) (fun cdv A outer s H vs Q E hr h => ?_)
  · obtain ⟨c, s', k', rfl, _⟩ := h
    rfl
  · obtain ⟨c, s', k', rfl, h6, hc, hs, k⟩ := h
    refine ⟨_, (pss_cons (ps_set (i := 3) sc__law_by_trial.nd rfl (Or.inl rfl) pe_int)
  (pss_cons (ps_for PassesOwn.never rfl (pi_range2 (by rfl) T.n_range (pa_cons pe_int (pa_cons (pe_op op_oneN pe_int (pe_op op_mul (pv 0) (pv 1))) pa_nil))) (pg_name (i := 4) sc__law_by_trial.nd rfl (Or.inl rfl)) (pss_one (ps_set (i := 3) sc__law_by_trial.nd rfl (Or.inl rfl) (pe_op op_add (pv 3) (pe_callTy call_int1 (by rfl) T.n_int (by decide +kernel) (pa_cons (pe_cmpR op_le (pe_callB call_len_seq (by rfl) T.n_len (by decide +kernel) (pa_cons (pe_lc (own := [("content", 5)]) (g := (gName 5)) rfl sc__law_by_trial.nd (pi_list (pe_call G__law_digits (hr.mono (by decide)) (by rfl) D__law_digits.g D__law_digits.F.kp D__law_digits.b .nil pass0 (pa_cons (pv 4) (pa_cons (pv 0) (pa_cons (pv 1) pa_nil))))) (blkOk_by (N := N__law_by_trial) (own := [("content", 5)]) (sc := defScope s__law_by_trial) (by decide +kernel)) (fun _ _ _ _ _ => (pg_name (i := 5) sc__law_by_trial.nd rfl (Or.inl rfl))) (fun _ _ _ _ _ => (pts_one (pt_cmpR op_ne (pv 5) pe_int (nomark _)))) (fun _ _ _ _ _ => (pv 5))) pa_nil)) (pv 2) (nomark _)) pa_nil))))))
  (pss_one (ps_ret (pv 3))))), ?_⟩
    have ecs : ((c : Int) * (s' : Int)) = ((c * s' : Nat) : Int) := by rw [Int.natCast_mul]
    have p1 := M07.two_pos (c * s')
    have p64 : 2 ^ (c * s') ≤ 64 := Nat.le_trans (Nat.pow_le_pow_right (by decide) h6) (by decide)
    refine ⟨_, rfl, _, rfl, _, _, rfl, rfl, .inl ⟨by omega, by omega⟩, c * s', rfl, congrArg V.int ecs, by omega, _, _, rfl, ⟨by decide, by decide, by omega, by omega⟩, ?_⟩
    rw [show (((2 ^ (c * s') : Nat) : Int) - 1).toNat = 2 ^ (c * s') - 1 by omega]
    refine for_range (lo := 1) (n := 2 ^ (c * s') - 1) (fun i σ H' => Same H H' ∧ ∃ u v : Option V, σ = [some (.int (c : Int)), some (.int (s' : Int)), some (.int (k' : Int)), some (.int ((BT c s' k' i : Nat) : Int)), u, v]) ?_ ?_ ?_
    · exact ⟨fun _ _ e => e, none, none, rfl⟩
    · rintro i σ H1 hi ⟨S1, u, v, rfl⟩
      refine ⟨_, rfl, _, rfl, _, rfl, _, rfl, i + 1, c, s', ?_, h6, hc, hs, fun q H2 hq S2 h2 => ⟨q, rfl, ⟨_, SqL.of h2⟩, fun D hD => ?_⟩⟩
      · rw [show (1 : Int) + (i : Int) = ((i + 1 : Nat) : Int) by omega]
        rfl
      refine lc_list (K := K) (a := q) (xs := nv ((List.range c).map (dg (i + 1) s'))) (fun m H' => Same H2 H' ∧ H' D = some (.lst (nv (((List.range m).map (dg (i + 1) s')).filter fun x => decide (x ≠ 0))))) ⟨same_new hD, upd_same⟩ (fun m H' _ h => SqL.of (h.1 _ _ h2)) ?_ ?_
      · rintro m y H3 hy ⟨S3, h3⟩
        have hm : m < c := by
          have := (List.getElem?_eq_some_iff.mp hy).1
          rw [nv_len, List.length_map, List.length_range] at this
          exact this
        have ey : y = V.int ((dg (i + 1) s' m : Nat) : Int) := by
          have z := nv_at (ns := (List.range c).map (dg (i + 1) s')) (i := m) (x := dg (i + 1) s' m) (by rw [List.getElem?_map, List.getElem?_range hm]; rfl)
          rw [z] at hy
          exact (Option.some.inj hy).symm
        subst ey
        have ll : (((List.range m).map (dg (i + 1) s')).filter fun x => decide (x ≠ 0)).length ≤ m := by
          have := List.length_filter_le (fun x => decide (x ≠ 0)) ((List.range m).map (dg (i + 1) s'))
          rw [List.length_map, List.length_range] at this
          exact this
        refine ⟨rfl, _, rfl, rfl, _, rfl, ?_⟩
        have ed : (!decide (V.int ((dg (i + 1) s' m : Nat) : Int) = V.int 0)) = decide (dg (i + 1) s' m ≠ 0) := by
          by_cases z : dg (i + 1) s' m = 0
          · rw [z]; decide
          · rw [decide_eq_true z, decide_eq_false (fun y => z (by have := V.int.inj y; omega))]
            rfl
        rw [ed]
        refine ite2 (fun z => ?_) (fun z => ?_)
        · have z := of_decide_eq_true z
          refine ⟨_, rfl, _, h3, small1000 (by rw [nv_len]; omega), fun a o e => ?_, ?_⟩
          · rw [upd_ne (ne_of_none e hD)]
            exact S3 a o e
          · rw [upd_same, List.range_succ, List.map_append, List.map_cons, List.map_nil, List.filter_append, List.filter_cons_of_pos (by simpa using z), List.filter_nil, nv_more]
        · have z : ¬ dg (i + 1) s' m ≠ 0 := fun y => z (decide_eq_true y)
          refine ⟨S3, ?_⟩
          rw [List.range_succ, List.map_append, List.map_cons, List.map_nil, List.filter_append, List.filter_cons_of_neg (by simpa using z), List.filter_nil, List.append_nil]
          exact h3
      · rintro H3 ⟨S3, h3⟩
        rw [nv_len, List.length_map, List.length_range] at h3
        refine ⟨D, _, rfl, .inl (SqL.of h3), _, rfl, _, _, rfl, rfl, .inr ⟨_, rfl, _, _, rfl, rfl, ?_⟩⟩
        refine ⟨(S1.trans S2).trans S3, some (.int (1 + (i : Int))), v, ?_⟩
        have el : (nv (((List.range c).map (dg (i + 1) s')).filter fun x => decide (x ≠ 0))).length = ((List.range c).filter fun j => decide (dg (i + 1) s' j ≠ 0)).length := by
          rw [nv_len, List.filter_map, List.length_map]
          rfl
        have et : ((BT c s' k' i : Nat) : Int) + (if decide (((nv (((List.range c).map (dg (i + 1) s')).filter fun x => decide (x ≠ 0))).length : Int) ≤ (k' : Int)) = true then 1 else 0) = ((BT c s' k' (i + 1) : Nat) : Int) := by
          rw [el]
          have e2 : BT c s' k' (i + 1) = BT c s' k' i + if ((List.range c).filter fun j => decide (dg (i + 1) s' j ≠ 0)).length ≤ k' then 1 else 0 := by
            unfold BT
            rw [List.range_succ, List.filter_append, List.length_append]
            congr 1
            by_cases z : ((List.range c).filter fun j => decide (dg (i + 1) s' j ≠ 0)).length ≤ k'
            · rw [if_pos z, List.filter_cons, if_pos (decide_eq_true z)]
              rfl
            · rw [if_neg z, List.filter_cons, if_neg (by rw [decide_eq_true_eq]; exact z)]
              rfl
          rw [e2]
          by_cases z : ((List.range c).filter fun j => decide (dg (i + 1) s' j ≠ 0)).length ≤ k'
          · rw [if_pos z, if_pos (decide_eq_true (Int.ofNat_le.mpr z))]
            omega
          · rw [if_neg z, if_neg (by rw [decide_eq_true_eq]; omega)]
            omega
        show [some (V.int (c : Int)), some (V.int (s' : Int)), some (V.int (k' : Int)), some (V.int (((BT c s' k' i : Nat) : Int) + (if decide (((nv (((List.range c).map (dg (i + 1) s')).filter fun x => decide (x ≠ 0))).length : Int) ≤ (k' : Int)) = true then 1 else 0))), some (V.int (1 + (i : Int))), v] = _
        rw [et]
    · rintro σ H1 ⟨S1, u, v, rfl⟩
      exact ⟨_, rfl, k H1 S1⟩
end
end K40
namespace K40
open PySem PySem.Spec PyProof.Rows L2 OB SkE
section
variable {P : Program} {w : World} {K : PySem.W.Frag} {mg : Str → Option Value} {base : Heap}
theorem sc__law_changes : FnScope ["cells", "size", "most", "total", "lots", "contents", "many"] ["cells", "size", "most"] (defScope s__law_changes) := ⟨rfl, rfl, rfl, by decide +kernel, rfl, by decide +kernel, by decide +kernel⟩
theorem ok__law_changes {f : Addr} {fd : FuncData} (F : Fun K "_law_changes" "_law_changes" s__law_changes f fd) (T : Blt mg) : FnOk P w K mg base CX0 1 f fd ["cells", "size", "most"] spChL := by
  refine F.ok sc__law_changes (fun vs H Q E h => ?_) (fun cdv A outer s H vs Q E hr h => ?_)
  · obtain ⟨c, s', k', rfl, _⟩ := h
    rfl
  · obtain ⟨c, s', k', rfl, c2, s2, k8, kc, k⟩ := h
    refine ⟨_, (pss_cons (ps_asg (pe_tup (pa_cons pe_int (pa_cons pe_int (pa_cons pe_int pa_nil)))) (pg_tup (by rfl) (pgs_cons (pg_name (i := 3) sc__law_changes.nd rfl (Or.inl rfl)) (pgs_cons (pg_name (i := 4) sc__law_changes.nd rfl (Or.inl rfl)) (pgs_cons (pg_name (i := 5) sc__law_changes.nd rfl (Or.inl rfl)) pgs_nil)))))
  (pss_cons (ps_for PassesOwn.never rfl (pi_range2 (by rfl) T.n_range (pa_cons pe_int (pa_cons (pe_op op_add (pv 2) pe_int) pa_nil))) (pg_name (i := 6) sc__law_changes.nd rfl (Or.inl rfl)) (pss_cons (ps_par (i := 4) (j := 5) (by rfl) sc__law_changes.nd rfl rfl (by decide) rfl rfl (pa_cons (pe_op op_fdiv (pe_op op_mulW (pv 4) (pe_op op_add (pe_op op_sub (pv 0) (pv 6)) pe_int)) (pv 6)) (pa_cons (pe_op op_mulW (pv 5) (pe_op op_sub (pe_op op_oneN pe_int (pv 1)) pe_int)) pa_nil)) (by rfl))
  (pss_one (ps_set (i := 3) sc__law_changes.nd rfl (Or.inl rfl) (pe_op op_add (pv 3) (pe_op op_mulW (pv 4) (pv 5)))))))
  (pss_one (ps_ret (pv 3))))), ?_⟩
    refine ⟨(by show 3 ≤ sizeLine; decide), fun t ht => ⟨t, _, rfl, SqT.of upd_same, rfl, _, _, rfl, _, _, rfl, _, _, rfl, rfl, ?_⟩⟩
    have S0 := same_new (o := .tup [.int 0, .int 1, .int 1]) ht
    refine ⟨_, rfl, _, _, rfl, rfl, _, _, rfl, ⟨by decide, by decide, by omega, by omega⟩, ?_⟩
    rw [show ((k' : Int) + 1 - 1).toNat = k' by omega]
    have px := M07.two_pos s'
    have ex : ((2 ^ s' : Nat) : Int) - 1 = ((2 ^ s' - 1 : Nat) : Int) := by omega
    have bx : 2 ^ s' - 1 < 2 ^ 49 := Nat.lt_of_le_of_lt (Nat.sub_le _ _) (Nat.lt_of_le_of_lt (Nat.pow_le_pow_right (by decide) s2) (two_lt 48))
    refine for_range (lo := 1) (n := k') (fun i σ H' => H' = upd H t (.tup [.int 0, .int 1, .int 1]) ∧ ∃ u : Option V, σ = [some (.int (c : Int)), some (.int (s' : Int)), some (.int (k' : Int)), some (.int ((M40.T c (2 ^ s' - 1) i : Nat) : Int)), some (.int ((M39.ch c i : Nat) : Int)), some (.int (((2 ^ s' - 1) ^ i : Nat) : Int)), u]) ?_ ?_ ?_
    · refine ⟨rfl, none, ?_⟩
      rw [Nat.pow_zero, M39.ch_zero]
      rfl
    · rintro i σ H1 hi ⟨rfl, u, rfl⟩
      have bp : ∀ j, j ≤ 8 → (2 ^ s' - 1) ^ j < 2 ^ 393 := fun j hj => by
        have h1 : (2 ^ s' - 1) ^ j ≤ (2 ^ 49) ^ j := Nat.pow_le_pow_left (Nat.le_of_lt bx) j
        have h2 : (2 ^ 49) ^ j ≤ (2 ^ 49) ^ 8 := Nat.pow_le_pow_right (by decide) hj
        exact Nat.lt_of_le_of_lt (Nat.le_trans h1 h2) (by decide)
      have bc : ∀ j, j ≤ 8 → M39.ch c j < 2 ^ 65 := fun j hj => by
        have h1 := M40.ch_pow c j
        have h2 : c ^ j ≤ 256 ^ j := Nat.pow_le_pow_left c2 _
        have h3 : 256 ^ j ≤ 256 ^ 8 := Nat.pow_le_pow_right (by decide) hj
        exact Nat.lt_of_le_of_lt (Nat.le_trans h1 (Nat.le_trans h2 h3)) (by decide)
      have em : (((2 ^ s' - 1) ^ i : Nat) : Int) * ((2 ^ s' - 1 : Nat) : Int) = (((2 ^ s' - 1) ^ (i + 1) : Nat) : Int) := by
        rw [← Int.natCast_mul, Nat.pow_succ]
      have ec : (c : Int) - (1 + (i : Int)) + 1 = ((c - i : Nat) : Int) := by omega
      have er : ((M39.ch c i : Nat) : Int) * ((c - i : Nat) : Int) / (1 + (i : Int)) = ((M39.ch c (i + 1) : Nat) : Int) := by
        have := M39.row_next c i (by omega)
        rw [show (c : Int) - (i : Int) = ((c - i : Nat) : Int) by omega, Int.add_comm] at this
        exact this
      have m1 : CMulW ((M39.ch c i : Nat) : Int) ((c : Int) - (1 + (i : Int)) + 1) := by
        rw [ec]
        exact mulW (bc i (by omega)) (Nat.lt_of_le_of_lt (Nat.sub_le _ _) (Nat.lt_of_le_of_lt c2 (show 256 < 2 ^ 9 by decide))) (by decide)
      have m2 : CMulW (((2 ^ s' - 1) ^ i : Nat) : Int) (((2 ^ s' : Nat) : Int) - 1) := by
        rw [ex]
        exact mulW (bp i (by omega)) bx (by decide)
      have m3 : CMulW ((M39.ch c (i + 1) : Nat) : Int) (((2 ^ s' - 1) ^ (i + 1) : Nat) : Int) := mulW (bc (i + 1) (by omega)) (bp (i + 1) (by omega)) (by decide)
      refine ⟨_, rfl, _, rfl, _, rfl, _, _, rfl, rfl, _, _, rfl, rfl, _, _, rfl, rfl, m1, _, rfl, _, _, rfl, rfl, ⟨by omega, by omega⟩, _, rfl, _, rfl, s', rfl, rfl, by omega, _, _, rfl, rfl, _, _, rfl, rfl, m2, _, _, rfl, ?_⟩
      dsimp only
      rw [ec, er, ex, em]
      refine ⟨_, rfl, _, rfl, _, rfl, _, _, rfl, rfl, m3, _, _, rfl, rfl, ?_⟩
      dsimp only
      rw [← Int.natCast_mul, ← Int.natCast_add, ← M40.T_succ]
      exact ⟨rfl, _, rfl⟩
    · rintro σ H1 ⟨rfl, u, rfl⟩
      exact ⟨_, rfl, k _ S0⟩
theorem sc__law_bits : FnScope ["cells", "size", "most", "place"] ["cells", "size", "most"] (defScope s__law_bits) := ⟨rfl, rfl, rfl, by decide +kernel, rfl, by decide +kernel, by decide +kernel⟩
theorem ok__law_bits {f : Addr} {fd : FuncData} (F : Fun K "_law_bits" "_law_bits" s__law_bits f fd) (T : Blt mg) : FnOk P w K mg base CX0 1 f fd ["cells", "size", "most"] spBitL := by
  refine F.ok sc__law_bits (fun vs H Q E h => ?_) (fun cdv A outer s H vs Q E hr h => ?_)
  · obtain ⟨c, s', k', rfl, _⟩ := h
    rfl
  · obtain ⟨c, s', k', rfl, c1, c2, s2, k8, k⟩ := h
    refine ⟨_, (pss_cons (ps_set (i := 3) sc__law_bits.nd rfl (Or.inl rfl) pe_int)
  (pss_cons (ps_while PassesOwn.never (pt_cmpR op_lt (pe_op op_oneN pe_int (pv 3)) (pv 0) (nomark _)) (pss_one (ps_set (i := 3) sc__law_bits.nd rfl (Or.inl rfl) (pe_op op_add (pv 3) pe_int))))
  (pss_one (ps_ret (pe_op op_add (pe_op op_add (pe_op op_mul (pv 0) (pv 1)) pe_int) (pe_op op_mul (pv 2) (pe_op op_add (pv 3) (pv 1)))))))), ?_⟩
    obtain ⟨pf1, pf2⟩ := pl_facts c1
    have pl8 : pl c ≤ 8 := by
      by_cases z : pl c ≤ 8
      · exact z
      · have := pf2 8 (by omega)
        omega
    refine while_by (fun σ H' => H' = H ∧ ∃ j : Nat, j ≤ pl c ∧ σ = [some (.int (c : Int)), some (.int (s' : Int)), some (.int (k' : Int)), some (.int (j : Int))])
      (fun σ _ => match σ with
        | [_, _, _, some (.int b)] => pl c - b.toNat
        | _ => 0) ⟨rfl, 0, Nat.zero_le _, rfl⟩ ?_ ?_
    · rintro σ H' ⟨rfl, j, hj, rfl⟩
      refine ⟨_, rfl, j, rfl, rfl, by omega, _, rfl, _, _, rfl, rfl, _, rfl, ?_⟩
      refine ite2 (fun z => ?_) (fun z => ?_)
      · have z : 2 ^ j < c := Int.ofNat_lt.mp (of_decide_eq_true z)
        have hlt : j < pl c := by
          by_cases y : j < pl c
          · exact y
          · have := Nat.pow_le_pow_right (show 0 < 2 by decide) (show pl c ≤ j by omega)
            omega
        refine ⟨_, rfl, _, _, rfl, rfl, ⟨rfl, j + 1, hlt, rfl⟩, ?_⟩
        show pl c - ((j : Int) + 1).toNat < pl c - (j : Int).toNat
        omega
      · have z : ¬ 2 ^ j < c := fun y => z (decide_eq_true (Int.ofNat_lt.mpr y))
        have ej : j = pl c := by
          by_cases y : j < pl c
          · exact absurd (pf2 j y) z
          · omega
        subst ej
        refine ⟨_, rfl, _, rfl, _, _, rfl, rfl, .inl ⟨by omega, by omega⟩, _, _, rfl, rfl, _, rfl, _, rfl, _, rfl, _, _, rfl, rfl, _, _, rfl, rfl, .inl ⟨by omega, by omega⟩, _, _, rfl, rfl, ?_⟩
        have k := k
        rw [Int.natCast_add, Int.natCast_add, Int.natCast_mul, Int.natCast_mul, Int.natCast_add] at k
        exact k
    · rintro σ H1 Q1 Q2 hQ ⟨a1, a2, a3, a4, a5, a6, a7, a8, a9, a10, a11, a12, a13, a14, q⟩
      exact ⟨a1, a2, a3, a4, a5, a6, a7, a8, a9, a10, a11, a12, a13, a14, hQ _ _ q⟩
theorem sc__law_least : FnScope ["cells", "size", "most", "extra", "leads"] ["cells", "size", "most"] (defScope s__law_least) := ⟨rfl, rfl, rfl, by decide +kernel, rfl, by decide +kernel, by decide +kernel⟩
theorem ok__law_least {f f1 : Addr} {fd fd1 : FuncData} (F : Fun K "_law_least" "_law_least" s__law_least f fd) (T : Blt mg) (D__law_changes : Df K mg "_law_changes" s__law_changes ["cells", "size", "most"] f1 fd1) : FnOk P w K mg base CX0 2 f fd ["cells", "size", "most"] spLeL := by
  have G__law_changes : FnOk P w K mg base CX0 1 f1 fd1 ["cells", "size", "most"] spChL := ok__law_changes D__law_changes.F T
  refine F.ok sc__law_least (fun vs H Q E h => ?_) (fun cdv A outer s H vs Q E hr h => ?_)
  · obtain ⟨c, s', k', rfl, _⟩ := h
    rfl
  · obtain ⟨c, s', k', rfl, c1, c2, s1, s2, k8, kc, k⟩ := h
    refine ⟨_, (pss_cons (ps_par (i := 3) (j := 4) (by rfl) sc__law_least.nd rfl rfl (by decide) rfl rfl (pa_cons pe_int (pa_cons (pe_call G__law_changes (hr.mono (by decide)) (by rfl) D__law_changes.g D__law_changes.F.kp D__law_changes.b .nil pass0 (pa_cons (pv 0) (pa_cons (pv 1) (pa_cons (pv 2) pa_nil)))) pa_nil)) (by rfl))
  (pss_cons (ps_while PassesOwn.never (PW.pt (pw_and (pt_cmpR op_gt (pv 4) pe_int (nomark _)) (pw_and1 (pt_cmpR op_gt (pe_op op_sub (pv 4) pe_int) (pe_op op_mulW (pe_op op_sub (pe_op op_add (pe_op op_mul (pv 0) (pv 1)) (pv 3)) pe_int) (pe_op op_oneN pe_int (pv 3))) (nomark _))))) (pss_one (ps_set (i := 3) sc__law_least.nd rfl (Or.inl rfl) (pe_op op_add (pv 3) pe_int))))
  (pss_one (ps_ret (pe_op op_add (pe_op op_mul (pv 0) (pv 1)) (pv 3)))))), ?_⟩
    refine ⟨_, rfl, _, rfl, _, rfl, c, s', k', rfl, c2, s2, k8, kc, fun H1 S1 => ⟨_, _, rfl, ?_⟩⟩
    have px := M07.two_pos s'
    have ecs : ((c : Int) * (s' : Int)) = ((c * s' : Nat) : Int) := by rw [Int.natCast_mul]
    have cs1 : 1 ≤ c * s' := Nat.mul_pos c1 s1
    have cs2 : c * s' ≤ 12288 := Nat.mul_le_mul c2 s2
    have lt : M40.T c (2 ^ s' - 1) k' < 2 ^ (c * s') := by
      have := M40.T_lt (2 ^ s' - 1) kc
      rw [show 1 + (2 ^ s' - 1) = 2 ^ s' by omega, ← Nat.pow_mul, Nat.mul_comm s' c] at this
      exact this
    generalize M40.T c (2 ^ s' - 1) k' = l at lt k ⊢
    refine while_by (fun σ H' => H' = H1 ∧ ∃ e : Nat, (∀ q, q < e → ¬ M40.En (c * s') l q) ∧ e ≤ c * s' ∧ σ = [some (.int (c : Int)), some (.int (s' : Int)), some (.int (k' : Int)), some (.int (e : Int)), some (.int (l : Int))])
      (fun σ _ => match σ with
        | [_, _, _, some (.int b), _] => c * s' - b.toNat
        | _ => 0) ⟨rfl, 0, fun q z => absurd z (Nat.not_lt_zero q), Nat.zero_le _, rfl⟩ ?_ ?_
    · rintro σ H' ⟨rfl, e, he, hen, rfl⟩
      have pe := M07.two_pos e
      have ee : (c * s' + e) * 2 ^ e + 2 < l + 2 * 2 ^ e ↔ ((c : Int) * (s' : Int) + (e : Int) - 2) * ((2 ^ e : Nat) : Int) < (l : Int) - 2 := by
        have e1 : ((c : Int) * (s' : Int) + (e : Int) - 2) * ((2 ^ e : Nat) : Int) = (((c * s' + e) * 2 ^ e : Nat) : Int) - 2 * ((2 ^ e : Nat) : Int) := by
          rw [ecs, Int.sub_mul, ← Int.natCast_add, ← Int.natCast_mul]
        rw [e1]
        generalize (c * s' + e) * 2 ^ e = A
        generalize 2 ^ e = B
        omega
      have on : M40.En (c * s') l e → [some (V.int (c : Int)), some (V.int (s' : Int)), some (V.int (k' : Int)), some (V.int (e : Int)), some (V.int (l : Int))] = [some (V.int (c : Int)), some (V.int (s' : Int)), some (V.int (k' : Int)), some (V.int (e : Int)), some (V.int (l : Int))] ∧ Q (.int ((c : Int) * (s' : Int) + (e : Int))) H' := fun h => ⟨rfl, by
        have := k e H' ⟨h, he⟩ S1
        rw [Int.natCast_add, ← ecs] at this
        exact this⟩
      refine ⟨_, rfl, _, _, rfl, rfl, _, rfl, ?_⟩
      refine ite2 (fun z => ?_) (fun z => ?_)
      · refine ⟨_, rfl, _, _, rfl, rfl, _, rfl, _, rfl, _, _, rfl, rfl, .inl ⟨by omega, by omega⟩, _, rfl, _, _, rfl, rfl, _, _, rfl, rfl, _, rfl, e, rfl, rfl, by omega, _, _, rfl, rfl, ?_, _, _, rfl, rfl, _, rfl, ?_⟩
        · rw [ecs]
          show (((c * s' : Nat) : Int) + (e : Int) - 2).natAbs.log2 + (((2 ^ e : Nat) : Int)).natAbs.log2 < 1000000
          have a1 : (((c * s' : Nat) : Int) + (e : Int) - 2).natAbs.log2 ≤ 15 := by
            have : (((c * s' : Nat) : Int) + (e : Int) - 2).natAbs < 2 ^ 15 := by
              have : (2 : Nat) ^ 15 = 32768 := by decide
              omega
            have := lg (x := (((c * s' : Nat) : Int) + (e : Int) - 2).natAbs) this
            rw [Int.natAbs_natCast] at this
            exact this
          have a2 : (((2 ^ e : Nat) : Int)).natAbs.log2 ≤ e + 1 := lg (two_lt e)
          omega
        · refine ite2 (fun y => ?_) (fun y => ?_)
          · have y := ee.mpr (of_decide_eq_true y)
            have no : ¬ M40.En (c * s') l e := fun h => by
              rcases h with h | h
              · have := of_decide_eq_true z
                omega
              · omega
            have ne : e ≠ c * s' := fun h => no (by rw [h]; exact M40.en_twice cs1 lt)
            refine ⟨_, rfl, _, _, rfl, rfl, ⟨rfl, e + 1, fun q hq => ?_, by omega, rfl⟩, ?_⟩
            · by_cases h : q = e
              · rw [h]; exact no
              · exact he q (by omega)
            · show c * s' - ((e : Int) + 1).toNat < c * s' - ((e : Int)).toNat
              omega
          · have y : ¬ ((c * s' + e) * 2 ^ e + 2 < l + 2 * 2 ^ e) := fun h => y (decide_eq_true (ee.mp h))
            exact ⟨_, rfl, _, rfl, _, _, rfl, rfl, .inl ⟨by omega, by omega⟩, _, rfl, _, _, rfl, rfl, (on (.inr (by omega))).2⟩
      · have z : l < 2 := by
          by_cases h : l < 2
          · exact h
          · exact absurd (decide_eq_true (by omega)) z
        exact ⟨_, rfl, _, rfl, _, _, rfl, rfl, .inl ⟨by omega, by omega⟩, _, rfl, _, _, rfl, rfl, (on (.inl z)).2⟩
    · rintro σ H1 Q1 Q2 hQ ⟨a1, a2, a3, a4, a5, a6, a7, a8, q⟩
      refine ⟨a1, a2, a3, a4, a5, a6, a7, a8, ?_⟩
      cases a7 with
      | false => exact hQ _ _ q
      | true =>
        obtain ⟨b0, b1, b2, b3, b4, b5, b6, b7, b8, b9, b10, b11, b12, b13, b14, b15, b16, b17, b18, b19, b20, b21, b22, b23, b24, b25, b26, b27, b28, b29, b30, b31, b32, b33, b34, b35, b36, b37, b38, b39, b40, b41, q⟩ := q
        exact ⟨b0, b1, b2, b3, b4, b5, b6, b7, b8, b9, b10, b11, b12, b13, b14, b15, b16, b17, b18, b19, b20, b21, b22, b23, b24, b25, b26, b27, b28, b29, b30, b31, b32, b33, b34, b35, b36, b37, b38, b39, b40, b41, hQ _ _ q⟩
end
end K40
namespace K40
open PySem PySem.Spec PyProof.Rows L2 OB SkE
def rotA {α : Type} : List α → List α → List α
  | [], [a, b, c] => [b, c, a]
  | _, _ => []
theorem rotA_vals {vs : List V} {us : List Value} {zs : List V} {ws : List Value} (g : Vals vs us) (h : Vals zs ws) : Vals (rotA vs zs) (rotA us ws) := by
  cases g with
  | cons _ _ => exact .nil
  | nil =>
    cases h with
    | nil => exact .nil
    | cons a r =>
      cases r with
      | nil => exact .nil
      | cons b r =>
        cases r with
        | nil => exact .nil
        | cons c r =>
          cases r with
          | nil => exact .cons b (.cons c (.cons a .nil))
          | cons d r => exact .nil
def rotB {α : Type} : List α → List α → List α
  | [], [a, b, c] => [c, a, b]
  | _, _ => []
theorem rotB_vals {vs : List V} {us : List Value} {zs : List V} {ws : List Value} (g : Vals vs us) (h : Vals zs ws) : Vals (rotB vs zs) (rotB us ws) := by
  cases g with
  | cons _ _ => exact .nil
  | nil =>
    cases h with
    | nil => exact .nil
    | cons a r =>
      cases r with
      | nil => exact .nil
      | cons b r =>
        cases r with
        | nil => exact .nil
        | cons c r =>
          cases r with
          | nil => exact .cons c (.cons a (.cons b .nil))
          | cons d r => exact .nil
def rotC {α : Type} : List α → List α → List α
  | [], [a, b, c] => [b, a, c]
  | _, _ => []
theorem rotC_vals {vs : List V} {us : List Value} {zs : List V} {ws : List Value} (g : Vals vs us) (h : Vals zs ws) : Vals (rotC vs zs) (rotC us ws) := by
  cases g with
  | cons _ _ => exact .nil
  | nil =>
    cases h with
    | nil => exact .nil
    | cons a r =>
      cases r with
      | nil => exact .nil
      | cons b r =>
        cases r with
        | nil => exact .nil
        | cons c r =>
          cases r with
          | nil => exact .cons b (.cons a (.cons c .nil))
          | cons d r => exact .nil
def Ok3 (c s k : Nat) : Prop := 1 ≤ c ∧ c ≤ 256 ∧ 1 ≤ s ∧ s ≤ 48 ∧ 1 ≤ k ∧ k ≤ min 8 c
def spDrawn : Sp := fun vs H Q _ => ∃ (p b : Addr) (n : Nat), vs = [.ref p] ∧ Orch H p b n ∧ n + 10 < 1000000 ∧ ∀ (q : Addr) (c s k : Nat) (H' : Hp), Ok3 c s k → H' q = some (.tup [.int (c : Int), .int (s : Int), .int (k : Int)]) → Orch H' p b (n + 10) → But p H H' → Q (.ref q) H'
def spRoomL : Sp := fun vs H Q _ => ∃ c s k : Nat, vs = [.int c, .int s, .int k] ∧ Ok3 c s k ∧ ∀ H', Same H H' → Q (.bl true) H'
theorem lay_ints : ∀ ns : List Int, PyData.canLayAll0 (ns.map PyData.int) = true
  | [] => rfl
  | z :: r => by
    show (PyData.canLay0 (.int z) && PyData.canLayAll0 (r.map PyData.int)) = true
    rw [lay_ints r]
    rfl
theorem same_text {x : V} : (!decide (x = x)) = false := by simp
section
variable {P : Program} {w : World} {K : PySem.W.Frag} {mg : Str → Option Value} {base : Heap}
theorem sc__law_drawn : FnScope ["shed", "cells", "size"] ["shed"] (defScope s__law_drawn) := ⟨rfl, rfl, rfl, by decide +kernel, rfl, by decide +kernel, by decide +kernel⟩
theorem ok__law_drawn {f f1 f2 : Addr} {fd fd1 fd2 : FuncData} (F : Fun K "_law_drawn" "_law_drawn" s__law_drawn f fd) (T : Blt mg) (D__law_stack : Df K mg "_law_stack" s__law_stack ["shed", "many"] f1 fd1) (D__law_any : Df K mg "_law_any" s__law_any ["shed", "some"] f2 fd2) : FnOk P w K mg base CX0 3 f fd ["shed"] spDrawn := by
  have G__law_stack : FnOk P w K mg base CX0 1 f1 fd1 ["shed", "many"] spDraw := ok__law_stack D__law_stack.F T
  have G__law_any : FnOk P w K mg base CX0 2 f2 fd2 ["shed", "some"] spOne := ok__law_any D__law_any.F T D__law_stack
  refine F.ok sc__law_drawn (fun vs H Q E h => ?_) (fun cdv A outer s H vs Q E hr h => ?_)
  · obtain ⟨p, b, n, rfl, _⟩ := h
    rfl
  · obtain ⟨p, b, n, rfl, O, hn, k⟩ := h
    refine ⟨_, (pss_cons (ps_set (i := 1) sc__law_drawn.nd rfl (Or.inl rfl) (pe_call G__law_any (hr.mono (by decide)) (by rfl) D__law_any.g D__law_any.F.kp D__law_any.b .nil pass0 (pa_cons (pv 0) (pa_cons (pe_lst (pa_cons pe_int (pa_cons pe_int (pa_cons pe_int (pa_cons pe_int (pa_cons (pe_op op_add pe_int (pe_call G__law_stack (hr.mono (by decide)) (by rfl) D__law_stack.g D__law_stack.F.kp D__law_stack.b .nil pass0 (pa_cons (pv 0) (pa_cons pe_int pa_nil)))) (pa_cons (pe_op op_add pe_int (pe_call G__law_stack (hr.mono (by decide)) (by rfl) D__law_stack.g D__law_stack.F.kp D__law_stack.b .nil pass0 (pa_cons (pv 0) (pa_cons pe_int pa_nil)))) (pa_cons pe_int pa_nil)))))))) pa_nil))))
  (pss_cons (ps_set (i := 2) sc__law_drawn.nd rfl (Or.inl rfl) (pe_call G__law_any (hr.mono (by decide)) (by rfl) D__law_any.g D__law_any.F.kp D__law_any.b .nil pass0 (pa_cons (pv 0) (pa_cons (pe_lst (pa_cons pe_int (pa_cons pe_int (pa_cons (pe_op op_add pe_int (pe_call G__law_stack (hr.mono (by decide)) (by rfl) D__law_stack.g D__law_stack.F.kp D__law_stack.b .nil pass0 (pa_cons (pv 0) (pa_cons pe_int pa_nil)))) (pa_cons (pe_op op_add pe_int (pe_call G__law_stack (hr.mono (by decide)) (by rfl) D__law_stack.g D__law_stack.F.kp D__law_stack.b .nil pass0 (pa_cons (pv 0) (pa_cons pe_int pa_nil)))) (pa_cons pe_int pa_nil)))))) pa_nil))))
  (pss_one (ps_ret (pe_tup (pa_cons (pv 1) (pa_cons (pv 2) (pa_cons (pe_op op_add pe_int (pe_call G__law_stack (hr.mono (by decide)) (by rfl) D__law_stack.g D__law_stack.F.kp D__law_stack.b .nil pass0 (pa_cons (pv 0) (pa_cons (pe_callB (call_min2 rfl) (by rfl) T.n_min (by decide +kernel) (pa_cons pe_int (pa_cons (pv 1) pa_nil))) pa_nil)))) pa_nil)))))))), ?_⟩
    refine ⟨_, rfl, _, rfl, p, b, n, 9, rfl, O, by omega, by decide, by decide, fun a1 H1 a10 a11 O1 B1 => ⟨_, _, rfl, rfl, ?_⟩⟩
    refine ⟨_, rfl, p, b, _, 256, rfl, O1, by omega, by decide, by decide, fun a2 H2 a20 a21 O2 B2 => ⟨_, _, rfl, rfl, (by show 7 ≤ sizeLine; decide), fun l hl => ?_⟩⟩
    obtain ⟨w2, hw2⟩ := O2.pn
    have nl : l ≠ p := (ne_of_none hw2 hl).symm
    have S2 := same_new (o := .lst [.int 1, .int 2, .int 3, .int 8, .int (1 + a1), .int (1 + a2), .int 256]) hl
    refine ⟨p, b, l, _, _, rfl, O2.same S2, by omega, upd_same, nl, by show 0 < 7; decide, by show 7 ≤ 1000; decide, fun j x H3 hj O3 B3 => ?_⟩
    obtain ⟨c, rfl, c1, c2⟩ : ∃ c : Nat, x = .int (c : Int) ∧ 1 ≤ c ∧ c ≤ 256 := by
      match j, hj with
      | 0, e => cases e; exact ⟨1, rfl, by decide, by decide⟩
      | 1, e => cases e; exact ⟨2, rfl, by decide, by decide⟩
      | 2, e => cases e; exact ⟨3, rfl, by decide, by decide⟩
      | 3, e => cases e; exact ⟨8, rfl, by decide, by decide⟩
      | 4, e => cases e; exact ⟨(1 + a1).toNat, by rw [Int.toNat_of_nonneg (by omega)], by omega, by omega⟩
      | 5, e => cases e; exact ⟨(1 + a2).toNat, by rw [Int.toNat_of_nonneg (by omega)], by omega, by omega⟩
      | 6, e => cases e; exact ⟨256, rfl, by decide, by decide⟩
      | j + 7, e => cases e
    have B03 : But p H H3 := B1.trans (B2.trans ((But.of S2).trans B3))
    clear hj
    refine ⟨_, rfl, _, rfl, p, b, _, 8, rfl, O3, by omega, by decide, by decide, fun a4 H4 a40 a41 O4 B4 => ⟨_, _, rfl, rfl, ?_⟩⟩
    refine ⟨_, rfl, p, b, _, 48, rfl, O4, by omega, by decide, by decide, fun a5 H5 a50 a51 O5 B5 => ⟨_, _, rfl, rfl, (by show 5 ≤ sizeLine; decide), fun l5 hl5 => ?_⟩⟩
    obtain ⟨w5, hw5⟩ := O5.pn
    have n5 : l5 ≠ p := (ne_of_none hw5 hl5).symm
    have S5 := same_new (o := .lst [.int 1, .int 2, .int (1 + a4), .int (1 + a5), .int 48]) hl5
    refine ⟨p, b, l5, _, _, rfl, O5.same S5, by omega, upd_same, n5, by show 0 < 5; decide, by show 5 ≤ 1000; decide, fun j y H6 hj O6 B6 => ?_⟩
    obtain ⟨s', rfl, s1, s2⟩ : ∃ s' : Nat, y = .int (s' : Int) ∧ 1 ≤ s' ∧ s' ≤ 48 := by
      match j, hj with
      | 0, e => cases e; exact ⟨1, rfl, by decide, by decide⟩
      | 1, e => cases e; exact ⟨2, rfl, by decide, by decide⟩
      | 2, e => cases e; exact ⟨(1 + a4).toNat, by rw [Int.toNat_of_nonneg (by omega)], by omega, by omega⟩
      | 3, e => cases e; exact ⟨(1 + a5).toNat, by rw [Int.toNat_of_nonneg (by omega)], by omega, by omega⟩
      | 4, e => cases e; exact ⟨48, rfl, by decide, by decide⟩
      | j + 5, e => cases e
    have B06 : But p H H6 := B03.trans (B4.trans (B5.trans ((But.of S5).trans B6)))
    clear hj
    have em : (if (c : Int) < 8 then (c : Int) else 8) = ((min 8 c : Nat) : Int) := by
      by_cases z : (c : Int) < 8
      · rw [if_pos z]; omega
      · rw [if_neg z]; omega
    refine ⟨_, rfl, _, rfl, _, rfl, _, rfl, _, _, rfl, p, b, _, ((min 8 c : Nat) : Int), ?_, O6, by omega, by omega, ?_, fun r H7 r0 r1 O7 B7 => ⟨_, _, rfl, rfl, (by show 3 ≤ sizeLine; decide), fun t ht => ?_⟩⟩
    · rw [em]
      rfl
    · rw [Int.natAbs_natCast]
      exact Nat.lt_of_le_of_lt (show min 8 c ≤ 8 from Nat.min_le_left _ _) (by decide)
    obtain ⟨r, rfl⟩ := Int.eq_ofNat_of_zero_le r0
    refine k t c s' (1 + r) _ ⟨c1, c2, s1, s2, by omega, by omega⟩ ?_ ((O7.same (same_new ht)).mono (by omega)) (B06.trans (B7.trans (But.of (same_new ht))))
    rw [upd_same, Int.natCast_add]
    rfl
theorem sc__law_room_right : FnScope ["cells", "size", "most", "told", "least", "due", "again"] ["cells", "size", "most"] (defScope s__law_room_right) := ⟨rfl, rfl, rfl, by decide +kernel, rfl, by decide +kernel, by decide +kernel⟩
theorem ok__law_room_right {f f1 f2 f3 f4 f5 f6 CN : Addr} {fd fd1 fd2 fd3 fd4 fd5 fd6 : FuncData} (F : Fun K "_law_room_right" "_law_room_right" s__law_room_right f fd) (T : Blt mg)
    (D_changes_of : Df K mg "changes_of" s_changes_of ["cells", "size", "most"] f1 fd1) (GX_changes_of : FnOk P w K mg base (L2.CX P w) 7 f1 fd1 ["cells", "size", "most"] (spR K CN aChanges))
    (D_store_least : Df K mg "store_least" s_store_least ["cells", "size", "most"] f2 fd2) (GX_store_least : FnOk P w K mg base (L2.CX P w) 8 f2 fd2 ["cells", "size", "most"] (spR K CN aLeast))
    (D_spare_bits : Df K mg "spare_bits" s_spare_bits ["cells", "size", "most"] f3 fd3) (GX_spare_bits : FnOk P w K mg base (L2.CX P w) 9 f3 fd3 ["cells", "size", "most"] (spR K CN aSpare))
    (D__law_changes : Df K mg "_law_changes" s__law_changes ["cells", "size", "most"] f4 fd4) (D__law_least : Df K mg "_law_least" s__law_least ["cells", "size", "most"] f5 fd5) (D__law_bits : Df K mg "_law_bits" s__law_bits ["cells", "size", "most"] f6 fd6) :
    FnG P w K mg base CX0 11 f fd ["cells", "size", "most"] spRoomL := by
  have G_changes_of := calm_of GX_changes_of
  have G_store_least := calm_of GX_store_least
  have G_spare_bits := calm_of GX_spare_bits
  have G__law_changes : FnOk P w K mg base CX0 1 f4 fd4 ["cells", "size", "most"] spChL := ok__law_changes D__law_changes.F T
  have G__law_least : FnOk P w K mg base CX0 2 f5 fd5 ["cells", "size", "most"] spLeL := ok__law_least D__law_least.F T D__law_changes
  have G__law_bits : FnOk P w K mg base CX0 1 f6 fd6 ["cells", "size", "most"] spBitL := ok__law_bits D__law_bits.F T
  have kb_changes_of : KBinds K fd1 ["cells", "size", "most"] ["most", "cells", "size"] (fun us ws => rotA us ws) (fun us ws => rotA us ws) := kbinds D_changes_of.F (fun _ _ _ _ _ _ us ws hl => by
      rcases us with _ | ⟨a, us⟩
      · rcases ws with _ | ⟨x, _ | ⟨y, _ | ⟨z, _ | ⟨t, ws⟩⟩⟩⟩ <;> first | rfl | (exact absurd hl (by decide)) | (exact absurd (show 0 = 3 from hl) (by decide))
      · exact absurd (show 0 = 3 from hl) (by decide)) fun a b => rotA_vals a b
  have kb_store_least : KBinds K fd2 ["cells", "size", "most"] ["size", "most", "cells"] (fun us ws => rotB us ws) (fun us ws => rotB us ws) := kbinds D_store_least.F (fun _ _ _ _ _ _ us ws hl => by
      rcases us with _ | ⟨a, us⟩
      · rcases ws with _ | ⟨x, _ | ⟨y, _ | ⟨z, _ | ⟨t, ws⟩⟩⟩⟩ <;> first | rfl | (exact absurd hl (by decide)) | (exact absurd (show 0 = 3 from hl) (by decide))
      · exact absurd (show 0 = 3 from hl) (by decide)) fun a b => rotB_vals a b
  have kb_spare_bits : KBinds K fd3 ["cells", "size", "most"] ["size", "cells", "most"] (fun us ws => rotC us ws) (fun us ws => rotC us ws) := kbinds D_spare_bits.F (fun _ _ _ _ _ _ us ws hl => by
      rcases us with _ | ⟨a, us⟩
      · rcases ws with _ | ⟨x, _ | ⟨y, _ | ⟨z, _ | ⟨t, ws⟩⟩⟩⟩ <;> first | rfl | (exact absurd hl (by decide)) | (exact absurd (show 0 = 3 from hl) (by decide))
      · exact absurd (show 0 = 3 from hl) (by decide)) fun a b => rotC_vals a b
  refine okG F sc__law_room_right (fun vs H Q E h => ?_) (fun cdv A outer s H vs Q E hgd hr h => ?_)
  · obtain ⟨c, s', k', rfl, _⟩ := h
    rfl
  · obtain ⟨c, s', k', rfl, ⟨c1, c2, s1, s2, k1, k2⟩, k⟩ := h
    refine ⟨_, (pss_cons (ps_set (i := 3) sc__law_room_right.nd rfl (Or.inl rfl) (pe_lst (pa_cons (pe_call G_changes_of (hr.mono (by decide)) (by rfl) D_changes_of.g D_changes_of.F.kp D_changes_of.b .nil pass0 (pa_cons (pv 0) (pa_cons (pv 1) (pa_cons (pv 2) pa_nil)))) (pa_cons (pe_call G_store_least (hr.mono (by decide)) (by rfl) D_store_least.g D_store_least.F.kp D_store_least.b .nil pass0 (pa_cons (pv 0) (pa_cons (pv 1) (pa_cons (pv 2) pa_nil)))) (pa_cons (pe_call G_spare_bits (hr.mono (by decide)) (by rfl) D_spare_bits.g D_spare_bits.F.kp D_spare_bits.b .nil pass0 (pa_cons (pv 0) (pa_cons (pv 1) (pa_cons (pv 2) pa_nil)))) pa_nil)))))
  (pss_cons (ps_set (i := 4) sc__law_room_right.nd rfl (Or.inl rfl) (pe_call G__law_least (hr.mono (by decide)) (by rfl) D__law_least.g D__law_least.F.kp D__law_least.b .nil pass0 (pa_cons (pv 0) (pa_cons (pv 1) (pa_cons (pv 2) pa_nil)))))
  (pss_cons (ps_set (i := 5) sc__law_room_right.nd rfl (Or.inl rfl) (pe_lst (pa_cons (pe_call G__law_changes (hr.mono (by decide)) (by rfl) D__law_changes.g D__law_changes.F.kp D__law_changes.b .nil pass0 (pa_cons (pv 0) (pa_cons (pv 1) (pa_cons (pv 2) pa_nil)))) (pa_cons (pv 4) (pa_cons (pe_op op_sub (pe_call G__law_bits (hr.mono (by decide)) (by rfl) D__law_bits.g D__law_bits.F.kp D__law_bits.b .nil pass0 (pa_cons (pv 0) (pa_cons (pv 1) (pa_cons (pv 2) pa_nil)))) (pv 4)) pa_nil)))))
  (pss_cons (ps_if (PW.pt (pw_or (pt_cmpR op_ne (pe_callB (call_reprI hgd hr.units) (by rfl) T.n_repr (by decide +kernel) (pa_cons (pv 3) pa_nil)) (pe_callB (call_reprI hgd hr.units) (by rfl) T.n_repr (by decide +kernel) (pa_cons (pv 5) pa_nil)) (nomark _)) (pw_or1 (pt_cmpR op_lt (pe_ix ix_list (pv 5) pe_int (fun _ _ => rfl)) pe_int (nomark _))))) (pss_one (ps_ret pe_bl)) pss_nil)
  (pss_cons (ps_set (i := 6) sc__law_room_right.nd rfl (Or.inl rfl) (pe_lst (pa_cons (pe_callKo G_changes_of (hr.mono (by decide)) (by rfl) D_changes_of.g D_changes_of.F.kp kb_changes_of pass0 (pk_cons (pv 2) (pk_cons (pv 0) (pk_cons (pv 1) pk_nil)))) (pa_cons (pe_callKo G_store_least (hr.mono (by decide)) (by rfl) D_store_least.g D_store_least.F.kp kb_store_least pass0 (pk_cons (pv 1) (pk_cons (pv 2) (pk_cons (pv 0) pk_nil)))) (pa_cons (pe_callKo G_spare_bits (hr.mono (by decide)) (by rfl) D_spare_bits.g D_spare_bits.F.kp kb_spare_bits pass0 (pk_cons (pv 1) (pk_cons (pv 0) (pk_cons (pv 2) pk_nil)))) pa_nil)))))
  (pss_one (ps_ret (pe_cmpR (op_eqD hr.units) (pv 6) (pv 3) (nomark _))))))))), ?_⟩
    refine ⟨_, rfl, _, rfl, _, rfl, _, _, _, rfl, .inr ⟨c, rfl, c1, c2, .inr ⟨s', rfl, s1, s2, .inr ⟨k', rfl, k1, k2, ?_⟩⟩⟩⟩
    refine ⟨_, rfl, _, rfl, _, rfl, _, _, _, rfl, .inr ⟨c, rfl, c1, c2, .inr ⟨s', rfl, s1, s2, .inr ⟨k', rfl, k1, k2, fun e he => ?_⟩⟩⟩⟩
    refine ⟨_, rfl, _, rfl, _, rfl, _, _, _, rfl, .inr ⟨c, rfl, c1, c2, .inr ⟨s', rfl, s1, s2, .inr ⟨k', rfl, k1, k2, fun e' H1 he' S1 => ?_⟩⟩⟩⟩
    obtain rfl := he.eq he'
    refine ⟨(by show 3 ≤ sizeLine; decide), fun l hl => ?_⟩
    have cs1 : 1 ≤ c * s' := Nat.mul_pos c1 s1
    have cs2 : c * s' ≤ 12288 := Nat.mul_le_mul c2 s2
    have k8 : k' ≤ 8 := Nat.le_trans k2 (Nat.min_le_left _ _)
    have kc : k' ≤ c := Nat.le_trans k2 (Nat.min_le_right _ _)
    obtain ⟨pf1, pf2⟩ := pl_facts c1
    have pl8 : pl c ≤ 8 := by
      by_cases z : pl c ≤ 8
      · exact z
      · have := pf2 8 (by omega)
        omega
    have ent : 1 + k' * (pl c + s') ≤ 449 := by
      have : k' * (pl c + s') ≤ 8 * 56 := Nat.mul_le_mul k8 (by omega)
      omega
    have small := lead_small (k := k') c1 s1
    have k56 : 1 ≤ k' * (pl c + s') := Nat.mul_pos k1 (by omega)
    have hle : e ≤ 1 + k' * (pl c + s') := he.le (M40.en_entry cs1 (by omega) (by omega))
    have tl1 : M40.T c (2 ^ s' - 1) k' < 2 ^ 449 := by
      have : 2 ^ (1 + k' * (pl c + s')) ≤ 2 ^ 449 := Nat.pow_le_pow_right (by decide) ent
      exact Nat.lt_of_lt_of_le (by omega) this
    have lgs : ∀ z ∈ [((M40.T c (2 ^ s' - 1) k' : Nat) : Int), ((c * s' + e : Nat) : Int), ((c * s' + 1 + k' * (pl c + s') : Nat) : Int) - ((c * s' + e : Nat) : Int)], z.natAbs.log2 < 1920 := by
      intro z hz
      rcases List.mem_cons.mp hz with h | hz
      · rw [h]
        exact Nat.lt_of_le_of_lt (lg tl1) (by decide)
      have b15 : (2 : Nat) ^ 15 = 32768 := by decide
      clear tl1 small
      rcases List.mem_cons.mp hz with h | hz
      · rw [h]
        exact Nat.lt_of_le_of_lt (lg (b := 15) (by omega)) (by decide)
      rcases List.mem_cons.mp hz with h | hz
      · have e1 : ((c * s' + 1 + k' * (pl c + s') : Nat) : Int) - ((c * s' + e : Nat) : Int) = ((1 + k' * (pl c + s') - e : Nat) : Int) := by omega
        rw [h, e1]
        exact Nat.lt_of_le_of_lt (lg (b := 15) (by omega)) (by decide)
      · exact absurd hz List.not_mem_nil
    have nneg : ¬ (((c * s' + 1 + k' * (pl c + s') : Nat) : Int) - ((c * s' + e : Nat) : Int) < 0) := by omega
    clear tl1 small
    have S2 := same_new (o := .lst [.int ((M40.T c (2 ^ s' - 1) k' : Nat) : Int), .int ((c * s' + e : Nat) : Int), .int (((c * s' + 1 + k' * (pl c + s') : Nat) : Int) - ((c * s' + e : Nat) : Int))]) hl
    refine ⟨_, rfl, _, rfl, _, rfl, c, s', k', rfl, c1, c2, s1, s2, k8, kc, fun e2 H3 he2 S3 => ?_⟩
    obtain rfl := he.eq he2
    refine ⟨_, rfl, _, rfl, _, rfl, c, s', k', rfl, c2, s2, k8, kc, fun H4 S4 => ?_⟩
    refine ⟨_, rfl, _, rfl, _, rfl, _, rfl, c, s', k', rfl, c1, c2, s2, k8, _, rfl, _, _, rfl, rfl, (by show 3 ≤ sizeLine; decide), fun l2 hl2 => ?_⟩
    have S5 := same_new (o := .lst [.int ((M40.T c (2 ^ s' - 1) k' : Nat) : Int), .int ((c * s' + e : Nat) : Int), .int (((c * s' + 1 + k' * (pl c + s') : Nat) : Int) - ((c * s' + e : Nat) : Int))]) hl2
    have h5 := (S3.trans (S4.trans S5)) _ _ (upd_same (H := H1) (a := l) (o := .lst [.int ((M40.T c (2 ^ s' - 1) k' : Nat) : Int), .int ((c * s' + e : Nat) : Int), .int (((c * s' + 1 + k' * (pl c + s') : Nat) : Int) - ((c * s' + e : Nat) : Int))]))
    have SA := S1.trans (S2.trans (S3.trans (S4.trans S5)))
    refine ⟨_, rfl, l, [((M40.T c (2 ^ s' - 1) k' : Nat) : Int), ((c * s' + e : Nat) : Int), ((c * s' + 1 + k' * (pl c + s') : Nat) : Int) - ((c * s' + e : Nat) : Int)], rfl, lgs, (by show 3 ≤ 1000; decide), .inl ⟨SqL.of h5, ?_⟩⟩
    refine ⟨_, rfl, l2, [((M40.T c (2 ^ s' - 1) k' : Nat) : Int), ((c * s' + e : Nat) : Int), ((c * s' + 1 + k' * (pl c + s') : Nat) : Int) - ((c * s' + e : Nat) : Int)], rfl, lgs, (by show 3 ≤ 1000; decide), .inl ⟨SqL.of upd_same, ?_⟩⟩
    refine ⟨rfl, _, rfl, ?_⟩
    rw [same_text]
    refine iteF ?_
    refine ⟨_, rfl, l2, _, 2, V.int (((c * s' + 1 + k' * (pl c + s') : Nat) : Int) - ((c * s' + e : Nat) : Int)), rfl, rfl, SqL.of upd_same, rfl, _, _, rfl, rfl, _, rfl, ?_⟩
    refine ite2 (fun z => absurd (of_decide_eq_true z) nneg) (fun _ => ?_)
    -- again
    refine ⟨_, rfl, _, rfl, _, rfl, _, _, _, rfl, .inr ⟨c, rfl, c1, c2, .inr ⟨s', rfl, s1, s2, .inr ⟨k', rfl, k1, k2, ?_⟩⟩⟩⟩
    refine ⟨_, rfl, _, rfl, _, rfl, _, _, _, rfl, .inr ⟨c, rfl, c1, c2, .inr ⟨s', rfl, s1, s2, .inr ⟨k', rfl, k1, k2, fun e3 he3 => ?_⟩⟩⟩⟩
    obtain rfl := he.eq he3
    refine ⟨_, rfl, _, rfl, _, rfl, _, _, _, rfl, .inr ⟨c, rfl, c1, c2, .inr ⟨s', rfl, s1, s2, .inr ⟨k', rfl, k1, k2, fun e4 H6 he4 S6 => ?_⟩⟩⟩⟩
    obtain rfl := he.eq he4
    refine ⟨(by show 3 ≤ sizeLine; decide), fun l3 hl3 => ?_⟩
    have S7 := same_new (o := .lst [.int ((M40.T c (2 ^ s' - 1) k' : Nat) : Int), .int ((c * s' + e : Nat) : Int), .int (((c * s' + 1 + k' * (pl c + s') : Nat) : Int) - ((c * s' + e : Nat) : Int))]) hl3
    refine ⟨_, rfl, _, rfl, _, _, Dp.lst (SqL.of upd_same) (dp_ints [((M40.T c (2 ^ s' - 1) k' : Nat) : Int), ((c * s' + e : Nat) : Int), ((c * s' + 1 + k' * (pl c + s') : Nat) : Int) - ((c * s' + e : Nat) : Int)]), Dp.lst (SqL.of ((S6.trans S7) _ _ h5)) (dp_ints [((M40.T c (2 ^ s' - 1) k' : Nat) : Int), ((c * s' + e : Nat) : Int), ((c * s' + 1 + k' * (pl c + s') : Nat) : Int) - ((c * s' + e : Nat) : Int)]), shaped_ints _, shaped_ints _, ?_⟩
    rw [SeqAt.eqv_refl _ (show PyData.canLay0 (.list (List.map PyData.int [((M40.T c (2 ^ s' - 1) k' : Nat) : Int), ((c * s' + e : Nat) : Int), ((c * s' + 1 + k' * (pl c + s') : Nat) : Int) - ((c * s' + e : Nat) : Int)])) = true from lay_ints _)]
    exact k _ (SA.trans (S6.trans S7))
end
end K40
set_option maxHeartbeats 4000000
namespace K40
open PySem PySem.Spec PyProof.Rows L2 OB SkE LamX
/-- what the law's reader of errors asks of an error's class -/
structure ErrR (K : PySem.W.Frag) (CF C : Addr) : Prop where
  xf : XfC K C
  ec : ExcC K C
  ex : PySem.W.exmOne K (.ref C) (.ref CF) = some true
  no : PySem.W.findIn K (.ref C) "part" = some none
structure Kinds (K : PySem.W.Frag) (mg : Str → Option Value) (CF CN CM CT : Addr) : Prop where
  gF : mg "FlipError" = some (.ref CF)
  gN : mg "BadNumber" = some (.ref CN)
  gM : mg "Misfit" = some (.ref CM)
  gT : mg "TooMany" = some (.ref CT)
  rN : ErrR K CF CN
  rM : ErrR K CF CM
  kNN : PySem.W.kitOne K (.ref CN) (.ref CN) = some true
  kNM : PySem.W.kitOne K (.ref CN) (.ref CM) = some false
  kMN : PySem.W.kitOne K (.ref CM) (.ref CN) = some false
  kMM : PySem.W.kitOne K (.ref CM) (.ref CM) = some true
  zN : PySem.W.kitOne K (.type "NoneType") (.ref CN) = some false
  zM : PySem.W.kitOne K (.type "NoneType") (.ref CM) = some false
  zT : PySem.W.kitOne K (.type "NoneType") (.ref CT) = some false
def TTheard (CN CM : Addr) : List V → (XK → Hp → VK → Prop) → Hp → VK → Prop := fun vs tl H Q => vs = [] ∧
  tl (fun cls d H' => ∃ (dd : Addr) (part : Str), d = some dd ∧ H' dd = some (.xd [(("part" : Str), .str part)]) ∧
    ((cls = .ref CN ∧ ∀ p H'', Same H' H'' → H'' p = some (.tup [.str "number", .str part]) → Q (.ref p) H'') ∨ (cls = .ref CM ∧ ∀ p H'', Same H' H'' → H'' p = some (.tup [.str "misfit", .str part]) → Q (.ref p) H''))) H fun _ H' => ∀ H'', Same H' H'' → Q .non H''
section
theorem sc__law_heard : FnScope ["ask", "caught", "error", "word", "is_so"] ["ask"] (defScope s__law_heard) := ⟨rfl, rfl, rfl, by decide +kernel, rfl, by decide +kernel, by decide +kernel⟩
theorem heard_gives {X : Cx} {g CF CN CM CT : Addr} {cdg : Value} {q : Str} {kk : Nat} (Z : Kinds X.K X.mg CF CN CM CT) (T : Blt X.mg) : Gives X ["ask", "caught", "error", "word", "is_so"] "_law_heard" (defScope s__law_heard) g cdg (defBody s__law_heard) "ask" q kk (TTheard CN CM) := by
  intro f c' vs s H Q tl hr act hc mono h
  obtain ⟨rfl, h⟩ := h
  have g_FlipError := Z.gF
  have g_BadNumber := Z.gN
  have g_Misfit := Z.gM
  have g_TooMany := Z.gT
  refine ⟨_, (pss_cons (ps_set (i := 1) sc__law_heard.nd rfl (Or.inl rfl) pe_non)
  (pss_cons (ps_try_keep (i := 2) (j := 1) (Wout := fun _ _ _ _ => False) rfl rfl rfl sc__law_heard.nd rfl rfl rfl rfl ⟨by rfl, by decide, .inl g_FlipError⟩ L2.takes0 (fun W pn xe tk _ => (pss_one (ps_expr (act W pn xe _ _ tk)))))
  (pss_cons (ps_for PassesOwn.never rfl (pi_list (pe_lst (pa_cons (pe_tup (pa_cons pe_str (pa_cons (pe_callB (call_or call_isX call_isi) (by rfl) T.n_isinstance (by decide +kernel) (pa_cons (pv 1) (pa_cons (pe_glob (v := .ref _) (by rfl) g_BadNumber rfl) pa_nil))) pa_nil))) (pa_cons (pe_tup (pa_cons pe_str (pa_cons (pe_callB (call_or call_isX call_isi) (by rfl) T.n_isinstance (by decide +kernel) (pa_cons (pv 1) (pa_cons (pe_glob (v := .ref _) (by rfl) g_Misfit rfl) pa_nil))) pa_nil))) pa_nil)))) (pg_tup (by rfl) (pgs_cons (pg_name (i := 3) sc__law_heard.nd rfl (Or.inl rfl)) (pgs_cons (pg_name (i := 4) sc__law_heard.nd rfl (Or.inl rfl)) pgs_nil))) (pss_one (ps_if (pt_val (pv 4)) (pss_one (ps_ret (pe_tup (pa_cons (pv 3) (pa_cons (pe_xa (pv 1)) pa_nil))))) pss_nil)))
  (pss_cons (ps_if (pt_val (pe_callB (call_or call_isX call_isi) (by rfl) T.n_isinstance (by decide +kernel) (pa_cons (pv 1) (pa_cons (pe_glob (v := .ref _) (by rfl) g_TooMany rfl) pa_nil)))) (pss_one (ps_ret (pe_tup (pa_cons (pe_xa (pv 1)) (pa_cons (pe_xa (pv 1)) pa_nil))))) pss_nil)
  (pss_one (ps_ret (pe_ifExp (pt_cmpR op_isN (pv 1) pe_non (nomark _)) pe_non (pe_tup (pa_cons pe_str (pa_cons pe_non pa_nil)))))))))), ?_⟩
  refine ⟨rfl, hc, ?_⟩
  refine mono _ _ _ _ _ ?_ ?_ h
  rotate_left
  · intro v H' k
    refine ⟨_, rfl, .inr ⟨.non, .ref CN, .type "NoneType", .ref CN, false, rfl, .own CN, .base .non, Z.zN, (by show 2 ≤ sizeLine; decide), fun t1 ht1 => ⟨_, rfl, .inr ⟨.non, .ref CM, .type "NoneType", .ref CM, false, rfl, .own CM, .base .non, Z.zM, (by show 2 ≤ sizeLine; decide), fun t2 ht2 => ⟨(by show 2 ≤ sizeLine; decide), fun l hl => ?_⟩⟩⟩⟩⟩
    have S1 : Same H' (upd H' t1 (.tup [.str "number", .bl false])) := same_new ht1
    have S2 := same_new (o := .tup [.str "misfit", .bl false]) ht2
    have S3 := same_new (o := .lst [.ref t1, .ref t2]) hl
    have h1 := S3 _ _ (S2 _ _ (upd_same (H := H') (a := t1) (o := .tup [.str "number", .bl false])))
    have h2 := S3 _ _ (upd_same (H := upd H' t1 (.tup [.str "number", .bl false])) (a := t2) (o := .tup [.str "misfit", .bl false]))
    refine ⟨l, rfl, ⟨_, SqL.of upd_same⟩, ?_⟩
    refine for_list (xs := [.ref t1, .ref t2]) (fun i σ H1 => Same (upd (upd (upd H' t1 (.tup [.str "number", .bl false])) t2 (.tup [.str "misfit", .bl false])) l (.lst [.ref t1, .ref t2])) H1 ∧ ∃ u v : Option V, σ = [some (.ref f), some .non, none, u, v]) ⟨fun _ _ e => e, none, none, rfl⟩ (fun i σ H1 _ h => SqL.of (h.1 _ _ upd_same)) ?_ ?_
    · rintro i x σ H1 hx ⟨S4, u, v, rfl⟩
      match i, hx with
      | 0, e =>
        cases e
        refine ⟨t1, _, rfl, SqT.of (S4 _ _ h1), rfl, _, _, rfl, _, _, rfl, rfl, ?_⟩
        exact ⟨_, rfl, _, rfl, iteF ⟨S4, _, _, rfl⟩⟩
      | 1, e =>
        cases e
        refine ⟨t2, _, rfl, SqT.of (S4 _ _ h2), rfl, _, _, rfl, _, _, rfl, rfl, ?_⟩
        exact ⟨_, rfl, _, rfl, iteF ⟨S4, _, _, rfl⟩⟩
      | i + 2, e => cases e
    · rintro σ H1 ⟨S4, u, v, rfl⟩
      refine ⟨_, rfl, .inr ⟨.non, .ref CT, .type "NoneType", .ref CT, false, rfl, .own CT, .base .non, Z.zT, _, rfl, ?_⟩⟩
      exact iteF ⟨_, rfl, rfl, _, rfl, k _ (S1.trans (S2.trans (S3.trans S4)))⟩
  · rintro cls d H' ⟨dd, part, rfl, hd, ⟨rfl, k⟩ | ⟨rfl, k⟩⟩
    · refine ⟨true, Z.rN.ex, fun _ a ha => ?_, fun z => nomatch z⟩
      have nad : dd ≠ a := ne_of_none hd ha
      have hd1 : (upd H' a (ExA (.ref CN) (some dd) a)) dd = some (.xd [(("part" : Str), .str part)]) := by
        rw [upd_ne nad]
        exact hd
      have S0 := same_new (o := ExA (.ref CN) (some dd) a) ha
      refine ⟨_, rfl, .inl ⟨a, CN, some dd, .ref CN, .ref CN, true, rfl, Z.rN.ec, upd_same, (fun z e => by cases e; exact ⟨_, hd1⟩), .own CN, Z.kNN, (by show 2 ≤ sizeLine; decide), fun t1 ht1 => ?_⟩⟩
      have S1 := same_new (o := .tup [.str "number", .bl true]) ht1
      refine ⟨_, rfl, .inl ⟨a, CN, some dd, .ref CM, .ref CM, false, rfl, Z.rN.ec, S1 _ _ upd_same, (fun z e => by cases e; exact ⟨_, S1 _ _ hd1⟩), .own CM, Z.kNM, (by show 2 ≤ sizeLine; decide), fun t2 ht2 => ⟨(by show 2 ≤ sizeLine; decide), fun l hl => ?_⟩⟩⟩
      have S2 := same_new (o := .tup [.str "misfit", .bl false]) ht2
      have S3 := same_new (o := .lst [.ref t1, .ref t2]) hl
      have S23 := S2.trans S3
      have h1 := S23 _ _ (upd_same (H := upd H' a (ExA (.ref CN) (some dd) a)) (a := t1) (o := .tup [.str "number", .bl true]))
      have ha3 := S23 _ _ (S1 _ _ (upd_same (H := H') (a := a) (o := ExA (.ref CN) (some dd) a)))
      have hd3 := S23 _ _ (S1 _ _ hd1)
      refine ⟨l, rfl, ⟨_, SqL.of upd_same⟩, ?_⟩
      refine for_list (xs := [.ref t1, .ref t2]) (fun i σ H1 => i = 0 ∧ H1 = (upd (upd (upd (upd H' a (ExA (.ref CN) (some dd) a)) t1 (.tup [.str "number", .bl true])) t2 (.tup [.str "misfit", .bl false])) l (.lst [.ref t1, .ref t2])) ∧ σ = [some (.ref f), some (.ref a), none, none, none]) ⟨rfl, rfl, rfl⟩ (fun i σ H1 _ h => by rw [h.2.1]; exact SqL.of upd_same) ?_ ?_
      · rintro i x σ H1 hx ⟨rfl, rfl, rfl⟩
        cases hx
        refine ⟨t1, _, rfl, SqT.of h1, rfl, _, _, rfl, _, _, rfl, rfl, ?_⟩
        refine ⟨_, rfl, _, rfl, iteT ?_⟩
        exact ⟨_, rfl, _, rfl, a, CN, dd, _, _, rfl, Z.rN.xf, Z.rN.no, ha3, hd3, rfl, (by show 2 ≤ sizeLine; decide), fun p hp => k p _ (S0.trans (S1.trans (S23.trans (same_new hp)))) upd_same⟩
      · rintro σ H1 ⟨z, _⟩
        cases z
    · refine ⟨true, Z.rM.ex, fun _ a ha => ?_, fun z => nomatch z⟩
      have nad : dd ≠ a := ne_of_none hd ha
      have hd1 : (upd H' a (ExA (.ref CM) (some dd) a)) dd = some (.xd [(("part" : Str), .str part)]) := by
        rw [upd_ne nad]
        exact hd
      have S0 := same_new (o := ExA (.ref CM) (some dd) a) ha
      refine ⟨_, rfl, .inl ⟨a, CM, some dd, .ref CN, .ref CN, false, rfl, Z.rM.ec, upd_same, (fun z e => by cases e; exact ⟨_, hd1⟩), .own CN, Z.kMN, (by show 2 ≤ sizeLine; decide), fun t1 ht1 => ?_⟩⟩
      have S1 := same_new (o := .tup [.str "number", .bl false]) ht1
      refine ⟨_, rfl, .inl ⟨a, CM, some dd, .ref CM, .ref CM, true, rfl, Z.rM.ec, S1 _ _ upd_same, (fun z e => by cases e; exact ⟨_, S1 _ _ hd1⟩), .own CM, Z.kMM, (by show 2 ≤ sizeLine; decide), fun t2 ht2 => ⟨(by show 2 ≤ sizeLine; decide), fun l hl => ?_⟩⟩⟩
      have S2 := same_new (o := .tup [.str "misfit", .bl true]) ht2
      have S3 := same_new (o := .lst [.ref t1, .ref t2]) hl
      have S23 := S2.trans S3
      have h1 := S23 _ _ (upd_same (H := upd H' a (ExA (.ref CM) (some dd) a)) (a := t1) (o := .tup [.str "number", .bl false]))
      have h2 := S3 _ _ (upd_same (H := upd (upd H' a (ExA (.ref CM) (some dd) a)) t1 (.tup [.str "number", .bl false])) (a := t2) (o := .tup [.str "misfit", .bl true]))
      have ha3 := S23 _ _ (S1 _ _ (upd_same (H := H') (a := a) (o := ExA (.ref CM) (some dd) a)))
      have hd3 := S23 _ _ (S1 _ _ hd1)
      refine ⟨l, rfl, ⟨_, SqL.of upd_same⟩, ?_⟩
      refine for_list (xs := [.ref t1, .ref t2]) (fun i σ H1 => i ≤ 1 ∧ H1 = (upd (upd (upd (upd H' a (ExA (.ref CM) (some dd) a)) t1 (.tup [.str "number", .bl false])) t2 (.tup [.str "misfit", .bl true])) l (.lst [.ref t1, .ref t2])) ∧ ∃ u v : Option V, σ = [some (.ref f), some (.ref a), none, u, v]) ⟨Nat.zero_le _, rfl, none, none, rfl⟩ (fun i σ H1 _ h => by rw [h.2.1]; exact SqL.of upd_same) ?_ ?_
      · rintro i x σ H1 hx ⟨hi, rfl, u, v, rfl⟩
        match i, hx with
        | 0, e =>
          cases e
          refine ⟨t1, _, rfl, SqT.of h1, rfl, _, _, rfl, _, _, rfl, rfl, ?_⟩
          exact ⟨_, rfl, _, rfl, iteF ⟨Nat.le_refl _, rfl, _, _, rfl⟩⟩
        | 1, e =>
          cases e
          refine ⟨t2, _, rfl, SqT.of h2, rfl, _, _, rfl, _, _, rfl, rfl, ?_⟩
          refine ⟨_, rfl, _, rfl, iteT ?_⟩
          exact ⟨_, rfl, _, rfl, a, CM, dd, _, _, rfl, Z.rM.xf, Z.rM.no, ha3, hd3, rfl, (by show 2 ≤ sizeLine; decide), fun p hp => k p _ (S0.trans (S1.trans (S23.trans (same_new hp)))) upd_same⟩
        | i + 2, e => cases e
      · rintro σ H1 ⟨z, _⟩
        exact absurd (show 2 ≤ 1 from z) (by decide)
end
def LQ : Str := (envOfC "_law_refused_right" (defScope s__law_refused_right) 0 0 .none).qual ++ "<lambda>"
def rMin2 : List V → Hp → VK → Prop := fun xs H Q => ∃ i j, xs = [V.int i, V.int j] ∧ Q (V.int (if j < i then j else i)) H
def aAny : Nat → Nat → Nat → VK → Hp → Prop := fun _ _ _ Q H => ∀ v H', Same H H' → Q v H'
section
variable {K : PySem.W.Frag} {CN : Addr} {L : List Addr} {vs : List V} {H : Hp} {Q1 Q2 : VK} {E1 E2 : XK}
theorem r_mono (hE : ∀ c d H, E1 c d H → E2 c d H) (hQ : ∀ v H, Q1 v H → Q2 v H) (h : spR K CN aAny vs H Q1 E1) : spR K CN aAny vs H Q2 E2 := by
  obtain ⟨x, y, z, e, h⟩ := h
  refine ⟨x, y, z, e, ?_⟩
  rcases h with ⟨hb, r⟩ | ⟨c, e1, h1, h2, h⟩
  · exact .inl ⟨hb, fun d hd => hE _ _ _ (r d hd)⟩
  refine .inr ⟨c, e1, h1, h2, ?_⟩
  rcases h with ⟨hb, r⟩ | ⟨s, e1, h1, h2, h⟩
  · exact .inl ⟨hb, fun d hd => hE _ _ _ (r d hd)⟩
  refine .inr ⟨s, e1, h1, h2, ?_⟩
  rcases h with ⟨hb, r⟩ | ⟨k, e1, h1, h2, q⟩
  · exact .inl ⟨hb, fun d hd => hE _ _ _ (r d hd)⟩
  · exact .inr ⟨k, e1, h1, h2, fun v H' S => hQ _ _ (q v H' S)⟩
theorem mono_1 : ∀ σ : L2.St, MonoL fun E H' Q' => (tCallVs L 6 (spR K CN aAny) (WE fun cls d _ H => E cls d H) (tCons (tVar 1) (tCons (tVar 2) (tCons (tVar 4) tNil)))) σ H' Q' := by
  rintro σ E1 E2 H Q1 Q2 hE hQ ⟨f, hf, ef, a1, b1, a2, b2, a3, b3, h⟩
  exact ⟨f, hf, ef, a1, b1, a2, b2, a3, b3, r_mono (fun c d H => hE c d H) (fun v H => hQ v H) h⟩
theorem mono_2 : ∀ σ : L2.St, MonoL fun E H' Q' => (tCallVs L 6 (spR K CN aAny) (WE fun cls d _ H => E cls d H) (tCons (tVar 3) (tCons (tVar 2) (tCons (tVar 4) tNil)))) σ H' Q' := by
  rintro σ E1 E2 H Q1 Q2 hE hQ ⟨f, hf, ef, a1, b1, a2, b2, a3, b3, h⟩
  exact ⟨f, hf, ef, a1, b1, a2, b2, a3, b3, r_mono (fun c d H => hE c d H) (fun v H => hQ v H) h⟩
theorem mono_3 : ∀ σ : L2.St, MonoL fun E H' Q' => (tCallVs L 6 (spR K CN aAny) (WE fun cls d _ H => E cls d H) (tCons (tVar 3) (tCons (tC (V.int 3)) (tCons (tVar 4) tNil)))) σ H' Q' := by
  rintro σ E1 E2 H Q1 Q2 hE hQ ⟨f, hf, ef, a1, b1, a3, b3, h⟩
  exact ⟨f, hf, ef, a1, b1, a3, b3, r_mono (fun c d H => hE c d H) (fun v H => hQ v H) h⟩
theorem mono_4 : ∀ σ : L2.St, MonoL fun E H' Q' => (tCallVs L 6 (spR K CN aAny) (WE fun cls d _ H => E cls d H) (tCons (tVar 3) (tCons (tC (V.int 3)) (tCons (tCB rMin2 (tCons (tC (V.int 8)) (tCons (tVar 3) tNil))) tNil)))) σ H' Q' := by
  rintro σ E1 E2 H Q1 Q2 hE hQ ⟨f, hf, ef, a1, b1, a3, b3, i, j, e, h⟩
  exact ⟨f, hf, ef, a1, b1, a3, b3, i, j, e, r_mono (fun c d H => hE c d H) (fun v H => hQ v H) h⟩
end
/-- what stays, but for one list and the tables -/
def Kp (p : Addr) (H H' : Hp) : Prop := ∀ q o, H q = some o → q ≠ p → (∀ ps, o ≠ .tbl ps) → H' q = some o
theorem Kp.refl {p : Addr} {H : Hp} : Kp p H H := fun _ _ e _ _ => e
theorem Kp.trans {p : Addr} {H H1 H2 : Hp} (a : Kp p H H1) (b : Kp p H1 H2) : Kp p H H2 := fun q o e n t => b q o (a q o e n t) n t
theorem Kp.same {p : Addr} {H H' : Hp} (s : Same H H') : Kp p H H' := fun q o e _ _ => s q o e
theorem Kp.ext {p : Addr} {H H' : Hp} (s : ExtN H H') : Kp p H H' := fun q o e _ t => s q o e t
theorem Kp.upd {p : Addr} {H : Hp} {o : HO} : Kp p H (upd H p o) := fun q u e n _ => by
  rw [upd_ne n]
  exact e
theorem res_tup {H H' : Hp} (h : ∀ t xs, H t = some (.tup xs) → H' t = some (.tup xs)) : ∀ {vs : List V} {ks : List (Option (Str × Str))}, Res H vs ks → Res H' vs ks
  | [], [], _ => trivial
  | v :: r, none :: ks, ⟨a, b⟩ => ⟨a, res_tup h b⟩
  | v :: r, some k :: ks, ⟨⟨t, e, ht⟩, b⟩ => ⟨⟨t, e, h _ _ ht⟩, res_tup h b⟩
/-- what was heard so far, in the list at h -/
structure Lp (Pt h : Addr) (H0 H : Hp) (vs : List V) (ks : List (Option (Str × Str))) : Prop where
  kp : Kp h H0 H
  tabs : Tabs [(Pt, LQ)] H
  at' : H h = some (.lst vs)
  res : Res H vs ks
theorem Lp.step {Pt h : Addr} {H0 H Ha Hb : Hp} {vs : List V} {ks : List (Option (Str × Str))} {v : V} {k : Option (Str × Str)} (s : Lp Pt h H0 H vs ks) (ea : ExtN H Ha) (Ta : Tabs [(Pt, LQ)] Ha) (S : Same Ha Hb) (e : Ent Hb v k) :
    Hb h = some (.lst vs) ∧ Lp Pt h H0 (upd Hb h (.lst (vs ++ [v]))) (vs ++ [v]) (ks ++ [k]) := by
  have hb := S _ _ (ea _ _ s.at' fun _ z => nomatch z)
  have Tb := Ta.ext S
  have nt : ∀ {t : Addr} {xs : List V}, Hb t = some (.tup xs) → t ≠ h := fun {t xs} e z => by
    rw [z, hb] at e
    cases e
  refine ⟨hb, (s.kp.trans (.ext ea)).trans ((Kp.same S).trans .upd), tabs_butN Tb but_at hb, upd_same, ?_⟩
  have r1 : Res Hb vs ks := res_tup (fun t xs z => S _ _ (ea _ _ z fun _ y => nomatch y)) s.res
  refine Res.snoc ?_ (res_tup (fun t xs z => by rw [upd_ne (nt z)]; exact z) r1)
  cases k with
  | none => exact e
  | some k =>
    obtain ⟨t, ev, ht⟩ := e
    exact ⟨t, ev, by rw [upd_ne (nt ht)]; exact ht⟩
theorem res_app {H : Hp} {us : List V} {js : List (Option (Str × Str))} (g : Res H us js) : ∀ {vs : List V} {ks : List (Option (Str × Str))}, Res H vs ks → Res H (vs ++ us) (ks ++ js)
  | [], [], _ => g
  | _ :: _, _ :: _, ⟨a, b⟩ => ⟨a, res_app g b⟩
def due4 : List (Option (Str × Str)) := [some ("number", "cells"), some ("number", "size"), some ("number", "most"), none]
def rep4 : Nat → List (Option (Str × Str))
  | 0 => []
  | i + 1 => rep4 i ++ due4
def spRefused (Pt : Addr) : Sp := fun vs H Q _ => ∃ (p b : Addr) (n : Nat), vs = [.ref p] ∧ Orch H p b n ∧ n + 40 < 1000000 ∧ Tabs [(Pt, LQ)] H ∧ ∀ H' : Hp, Q (.bl true) H'
section
variable {P : Program} {w : World} {K : PySem.W.Frag} {mg : Str → Option Value} {base : Heap}
abbrev N__law_refused_right : List Str := ["shed", "cells", "size", "few", "most", "heard", "ask"]
theorem sc__law_refused_right : FnScope ["shed", "cells", "size", "few", "most", "heard", "ask"] ["shed"] (defScope s__law_refused_right) := ⟨rfl, rfl, rfl, by decide +kernel, rfl, by decide +kernel, by decide +kernel⟩
theorem ok__law_refused_right {f f1 f2 f3 f4 f5 f6 CF CN CM CT c Pt : Addr} {fd1 fd2 fd3 fd4 fd5 fd6 : FuncData} {oc kV doc pm ct : Value} {od an : Option Addr} {osl : Array (Option Value)} (T : Blt mg)
    (lk : K.lookup f = some ⟨oc, od, .func (PySem.W.fnOf "_law_refused_right" "_law_refused_right" (defArgs s__law_refused_right) (defBody s__law_refused_right) (defScope s__law_refused_right) .none kV doc pm an (.ref c) ct), osl⟩) (hcd : PySem.W.codeIn K (.ref c) "_law_refused_right" = true)
    (TB : TabB base mg c Pt) (Z : Kinds K mg CF CN CM CT)
    (D__law_stack : Df K mg "_law_stack" s__law_stack ["shed", "many"] f1 fd1) (D__law_any : Df K mg "_law_any" s__law_any ["shed", "some"] f2 fd2) (D__law_heard : Df K mg "_law_heard" s__law_heard ["ask"] f3 fd3)
    (D_changes_of : Df K mg "changes_of" s_changes_of ["cells", "size", "most"] f4 fd4) (GX_changes_of : FnOk P w K mg base (L2.CX P w) 7 f4 fd4 ["cells", "size", "most"] (spR K CN aChanges))
    (D_store_least : Df K mg "store_least" s_store_least ["cells", "size", "most"] f5 fd5) (GX_store_least : FnOk P w K mg base (L2.CX P w) 8 f5 fd5 ["cells", "size", "most"] (spR K CN aLeast))
    (D_spare_bits : Df K mg "spare_bits" s_spare_bits ["cells", "size", "most"] f6 fd6) (GX_spare_bits : FnOk P w K mg base (L2.CX P w) 9 f6 fd6 ["cells", "size", "most"] (spR K CN aSpare)) :
    FnOk P w K mg base CX0 16 f (PySem.W.fnOf "_law_refused_right" "_law_refused_right" (defArgs s__law_refused_right) (defBody s__law_refused_right) (defScope s__law_refused_right) .none kV doc pm an (.ref c) ct) ["shed"] (spRefused Pt) := by
  have G__law_stack : FnOk P w K mg base CX0 1 f1 fd1 ["shed", "many"] spDraw := ok__law_stack D__law_stack.F T
  have G__law_any : FnOk P w K mg base CX0 2 f2 fd2 ["shed", "some"] spOne := ok__law_any D__law_any.F T D__law_stack
  have imp : ∀ {ans : Nat → Nat → Nat → VK → Hp → Prop}, (∀ c s k Q H, aAny c s k Q H → ans c s k Q H) → ∀ vs H Q E, spR K CN aAny vs H Q E → spR K CN ans vs H Q E := fun {ans} h vs H Q E z => by
    obtain ⟨x, y, z, e, z1⟩ := z
    refine ⟨x, y, z, e, z1.imp_right ?_⟩
    rintro ⟨c, e1, h1, h2, z1⟩
    refine ⟨c, e1, h1, h2, z1.imp_right ?_⟩
    rintro ⟨s, e1, h1, h2, z1⟩
    refine ⟨s, e1, h1, h2, z1.imp_right ?_⟩
    rintro ⟨k, e1, h1, h2, z1⟩
    exact ⟨k, e1, h1, h2, h _ _ _ _ _ z1⟩
  have asks : ∀ g ∈ [f4, f5, f6], AskOk P w K mg base (L2.CX P w) 9 g (spR K CN aAny) := fun g hg => by
    rcases List.mem_cons.mp hg with e | hg
    · rw [e]
      exact askOk_of GX_changes_of (imp fun c s k Q H z => z _ _ fun _ _ e => e) (by decide) D_changes_of.b D_changes_of.F.kp
    rcases List.mem_cons.mp hg with e | hg
    · rw [e]
      exact askOk_of GX_store_least (imp fun c s k Q H z => fun e _ => z _ _ fun _ _ e => e) (by decide) D_store_least.b D_store_least.F.kp
    · rw [List.mem_singleton.mp hg]
      exact askOk_of GX_spare_bits (imp fun c s k Q H z => fun e H' _ S => z _ _ S) (by decide) D_spare_bits.b D_spare_bits.F.kp
  obtain ⟨ocH, odH, kVH, docH, pmH, anH, cdvH, ctH, oslH, eH, lkH, hcH⟩ := D__law_heard.F.ex
  subst eH
  have bind0 : ∀ {pr : Arguments}, (∀ (q : Str) (body : Expr) (scope : Scope) (cl : List (Str × Addr)) (pm cv ctv : Value), bindArgs (lFn q pr body scope cl .none pm cv ctv) ⟨[], []⟩ = pure []) → ∀ ds : List Value, Vals (([] : List Int).map V.int) ds → LamB pr [] ds := fun h ds rd => by
    cases rd
    exact lamB0 h
  refine fn_of lk hcd sc__law_refused_right (fun vs H Q E h => ?_) fun A outer s H vs Q E hr h => ?_
  · obtain ⟨p, b, n, rfl, _⟩ := h
    rfl
  · obtain ⟨p, b, n, rfl, O, hn, TA, q⟩ := h
    have t0 : ∃ t, PSs (cxOf CX0 P w K mg base ["shed", "cells", "size", "few", "most", "heard", "ask"] "_law_refused_right" (defScope s__law_refused_right) f (.ref c) A outer s H E).nox (defBody s__law_refused_right) t ∧ t { nx := fun _ H' => Q .non H', rt := Q } (L2.start ["shed", "cells", "size", "few", "most", "heard", "ask"] [.ref p]) H := by
      refine ⟨_, (pss_cons (ps_set (i := 1) sc__law_refused_right.nd rfl (Or.inr rfl) (pe_call G__law_any (hr.mono (by decide)) (by rfl) D__law_any.g D__law_any.F.kp D__law_any.b .nil pass0 (pa_cons (pv 0) (pa_cons (pe_lst (pa_cons pe_int (pa_cons (pe_un un_neg pe_int) (pa_cons pe_int (pa_cons pe_non (pa_cons pe_bl (pa_cons pe_str (pa_cons (pe_lst (pa_cons pe_int pa_nil)) pa_nil)))))))) pa_nil))))
  (pss_cons (ps_set (i := 2) sc__law_refused_right.nd rfl (Or.inr rfl) (pe_call G__law_any (hr.mono (by decide)) (by rfl) D__law_any.g D__law_any.F.kp D__law_any.b .nil pass0 (pa_cons (pv 0) (pa_cons (pe_lst (pa_cons pe_int (pa_cons (pe_un un_neg pe_int) (pa_cons pe_int (pa_cons pe_non (pa_cons pe_bl (pa_cons pe_str (pa_cons (pe_lst (pa_cons pe_int pa_nil)) pa_nil)))))))) pa_nil))))
  (pss_cons (ps_set (i := 3) sc__law_refused_right.nd rfl (Or.inr rfl) (pe_op op_add pe_int (pe_call G__law_stack (hr.mono (by decide)) (by rfl) D__law_stack.g D__law_stack.F.kp D__law_stack.b .nil pass0 (pa_cons (pv 0) (pa_cons pe_int pa_nil)))))
  (pss_cons (ps_set (i := 4) sc__law_refused_right.nd rfl (Or.inr rfl) (pe_call G__law_any (hr.mono (by decide)) (by rfl) D__law_any.g D__law_any.F.kp D__law_any.b .nil pass0 (pa_cons (pv 0) (pa_cons (pe_lst (pa_cons pe_int (pa_cons (pe_un un_neg pe_int) (pa_cons (pe_op op_add (pe_callB (call_min2 rfl) (by rfl) T.n_min (by decide +kernel) (pa_cons pe_int (pa_cons (pv 3) pa_nil))) pe_int) (pa_cons pe_non (pa_cons pe_bl (pa_cons pe_str (pa_cons (pe_lst (pa_cons pe_int pa_nil)) (pa_cons pe_int pa_nil))))))))) pa_nil))))
  (pss_cons (ps_set (i := 5) sc__law_refused_right.nd rfl (Or.inl rfl) (pe_lst pa_nil))
  (pss_cons (ps_for PassesOwn.never rfl (pi_tup (pe_tup (pa_cons (pe_glob (v := .ref _) (by rfl) D_changes_of.g rfl) (pa_cons (pe_glob (v := .ref _) (by rfl) D_store_least.g rfl) (pa_cons (pe_glob (v := .ref _) (by rfl) D_spare_bits.g rfl) pa_nil))))) (pg_name (i := 6) sc__law_refused_right.nd rfl (Or.inr rfl)) (pss_cons (ps_expr (pe_bm PySem.F.plainAttrs_list PySem.F.slot_list_append PySem.F.type_list_append mt_append (pv 5) (pa_cons (pe_lam (T := [(Pt, LQ)]) (vs := []) (TT := TTheard CN CM) (k := 10) (nm := []) (dts := []) (t := fun E => tCallVs [f4, f5, f6] 6 (spR K CN aAny) (WE fun cls d _ H => E cls d H) (tCons (tVar 1) (tCons (tVar 2) (tCons (tVar 4) tNil)))) (by rfl) D__law_heard.g D__law_heard.F.kp lkH hcH D__law_heard.b sc__law_heard rfl (Or.inl rfl) (heard_gives Z T) TB rfl List.mem_cons_self (fun p hp _ => congrArg Prod.snd (List.mem_singleton.mp hp)) (hr.mono (by decide)) (lamN_by (sc := defScope s__law_refused_right) (N := N__law_refused_right) (by decide +kernel)) (.inl ⟨rfl, rfl⟩) (bind0 fun _ _ _ _ _ _ _ => rfl) mono_1 pa_nil (fun _ _ _ => rfl) rfl (fun A outer s H E f c' hr2 => pe_callVs asks (hr2.mono (by decide)) (fun σ => passAt (takes_of rfl rfl rfl rfl) σ) rfl (by first | exact .inl rfl | exact .inr (.inl rfl) | exact .inr (.inr rfl)) (pa_cons (pv 1) (pa_cons (pv 2) (pa_cons (pv 4) pa_nil))))) pa_nil)))
  (pss_cons (ps_expr (pe_bm PySem.F.plainAttrs_list PySem.F.slot_list_append PySem.F.type_list_append mt_append (pv 5) (pa_cons (pe_lam (T := [(Pt, LQ)]) (vs := []) (TT := TTheard CN CM) (k := 10) (nm := []) (dts := []) (t := fun E => tCallVs [f4, f5, f6] 6 (spR K CN aAny) (WE fun cls d _ H => E cls d H) (tCons (tVar 3) (tCons (tVar 2) (tCons (tVar 4) tNil)))) (by rfl) D__law_heard.g D__law_heard.F.kp lkH hcH D__law_heard.b sc__law_heard rfl (Or.inl rfl) (heard_gives Z T) TB rfl List.mem_cons_self (fun p hp _ => congrArg Prod.snd (List.mem_singleton.mp hp)) (hr.mono (by decide)) (lamN_by (sc := defScope s__law_refused_right) (N := N__law_refused_right) (by decide +kernel)) (.inl ⟨rfl, rfl⟩) (bind0 fun _ _ _ _ _ _ _ => rfl) mono_2 pa_nil (fun _ _ _ => rfl) rfl (fun A outer s H E f c' hr2 => pe_callVs asks (hr2.mono (by decide)) (fun σ => passAt (takes_of rfl rfl rfl rfl) σ) rfl (by first | exact .inl rfl | exact .inr (.inl rfl) | exact .inr (.inr rfl)) (pa_cons (pv 3) (pa_cons (pv 2) (pa_cons (pv 4) pa_nil))))) pa_nil)))
  (pss_cons (ps_expr (pe_bm PySem.F.plainAttrs_list PySem.F.slot_list_append PySem.F.type_list_append mt_append (pv 5) (pa_cons (pe_lam (T := [(Pt, LQ)]) (vs := []) (TT := TTheard CN CM) (k := 10) (nm := []) (dts := []) (t := fun E => tCallVs [f4, f5, f6] 6 (spR K CN aAny) (WE fun cls d _ H => E cls d H) (tCons (tVar 3) (tCons (tC (V.int 3)) (tCons (tVar 4) tNil)))) (by rfl) D__law_heard.g D__law_heard.F.kp lkH hcH D__law_heard.b sc__law_heard rfl (Or.inl rfl) (heard_gives Z T) TB rfl List.mem_cons_self (fun p hp _ => congrArg Prod.snd (List.mem_singleton.mp hp)) (hr.mono (by decide)) (lamN_by (sc := defScope s__law_refused_right) (N := N__law_refused_right) (by decide +kernel)) (.inl ⟨rfl, rfl⟩) (bind0 fun _ _ _ _ _ _ _ => rfl) mono_3 pa_nil (fun _ _ _ => rfl) rfl (fun A outer s H E f c' hr2 => pe_callVs asks (hr2.mono (by decide)) (fun σ => passAt (takes_of rfl rfl rfl rfl) σ) rfl (by first | exact .inl rfl | exact .inr (.inl rfl) | exact .inr (.inr rfl)) (pa_cons (pv 3) (pa_cons pe_int (pa_cons (pv 4) pa_nil))))) pa_nil)))
  (pss_one (ps_expr (pe_bm PySem.F.plainAttrs_list PySem.F.slot_list_append PySem.F.type_list_append mt_append (pv 5) (pa_cons (pe_lam (T := [(Pt, LQ)]) (vs := []) (TT := TTheard CN CM) (k := 10) (nm := []) (dts := []) (t := fun E => tCallVs [f4, f5, f6] 6 (spR K CN aAny) (WE fun cls d _ H => E cls d H) (tCons (tVar 3) (tCons (tC (V.int 3)) (tCons (tCB rMin2 (tCons (tC (V.int 8)) (tCons (tVar 3) tNil))) tNil)))) (by rfl) D__law_heard.g D__law_heard.F.kp lkH hcH D__law_heard.b sc__law_heard rfl (Or.inl rfl) (heard_gives Z T) TB rfl List.mem_cons_self (fun p hp _ => congrArg Prod.snd (List.mem_singleton.mp hp)) (hr.mono (by decide)) (lamN_by (sc := defScope s__law_refused_right) (N := N__law_refused_right) (by decide +kernel)) (.inl ⟨rfl, rfl⟩) (bind0 fun _ _ _ _ _ _ _ => rfl) mono_4 pa_nil (fun _ _ _ => rfl) rfl (fun A outer s H E f c' hr2 => pe_callVs asks (hr2.mono (by decide)) (fun σ => passAt (takes_of rfl rfl rfl rfl) σ) rfl (by first | exact .inl rfl | exact .inr (.inl rfl) | exact .inr (.inr rfl)) (pa_cons (pv 3) (pa_cons pe_int (pa_cons (pe_callB (call_min2 rfl) (by rfl) T.n_min (by decide +kernel) (pa_cons pe_int (pa_cons (pv 3) pa_nil))) pa_nil))))) pa_nil))))))))
  (pss_one (ps_ret (pe_cmpR (op_eqD hr.units) (pv 5) (pe_op op_rep (pe_lst (pa_cons (pe_tup (pa_cons pe_str (pa_cons pe_str pa_nil))) (pa_cons (pe_tup (pa_cons pe_str (pa_cons pe_str pa_nil))) (pa_cons (pe_tup (pa_cons pe_str (pa_cons pe_str pa_nil))) (pa_cons pe_non pa_nil))))) pe_int) (nomark _)))))))))), ?_⟩
      obtain ⟨up, hup⟩ := O.pn
      -- cells
      refine ⟨_, rfl, _, rfl, (by show 1 ≤ sizeLine; decide), fun a1 ha1 => ⟨(by show 7 ≤ sizeLine; decide), fun l1 hl1 => ?_⟩⟩
      have s1 : Same H (upd H a1 (.lst [.int 1])) := same_new ha1
      have F1 : Fix [(a1, .lst [.int 1])] (upd H a1 (.lst [.int 1])) := .cons upd_same rfl .nil
      have z1 := same_new (o := .lst [.int 0, .int (-1), .int 257, .non, .bl true, .str "3", .ref a1]) hl1
      have n1 : l1 ≠ p := (ne_of_none (s1 _ _ hup) hl1).symm
      have O0 := O.same (s1.trans z1)
      refine ⟨p, b, l1, n, _, rfl, O0, by omega, upd_same, n1, by show 0 < 7; decide, by show 7 ≤ 1000; decide, fun j x H1 hj O1 B1 => ?_⟩
      have T1 := tabs_orchN (TA.ext (s1.trans z1)) B1 O0
      have F1 := (F1.keep (.same z1)).keep (.but B1 (orch_ref O0))
      have badC : ∀ H', Fix [(a1, .lst [.int 1])] H' → Bad K H' x (some 1) (some 256) := by
        intro H' e
        match j, hj with
        | 0, z => cases z; exact ⟨true, isI_int _, by decide +kernel⟩
        | 1, z => cases z; exact ⟨true, isI_int _, by decide +kernel⟩
        | 2, z => cases z; exact ⟨true, isI_int _, by decide +kernel⟩
        | 3, z => cases z; exact ⟨false, isI_non, rfl⟩
        | 4, z => cases z; exact ⟨false, isI_bl _, rfl⟩
        | 5, z => cases z; exact ⟨false, isI_str _, rfl⟩
        | 6, z => cases z; exact ⟨false, isI_lst (e.get (o := .lst [.int 1]) (by simp)), rfl⟩
        | j + 7, z => cases z
      clear hj
      obtain ⟨up1, hup1⟩ := O1.pn
      -- size
      refine ⟨_, rfl, _, rfl, (by show 1 ≤ sizeLine; decide), fun a2 ha2 => ⟨(by show 7 ≤ sizeLine; decide), fun l2 hl2 => ?_⟩⟩
      have s2 : Same H1 (upd H1 a2 (.lst [.int 1])) := same_new ha2
      have F2 := Fix.cons (o := .lst [.int 1]) (a := a2) upd_same rfl (F1.keep (.same s2))
      have z2 := same_new (o := .lst [.int 0, .int (-1), .int 49, .non, .bl true, .str "3", .ref a2]) hl2
      have n2 : l2 ≠ p := (ne_of_none (s2 _ _ hup1) hl2).symm
      have O1' := O1.same (s2.trans z2)
      refine ⟨p, b, l2, _, _, rfl, O1', by omega, upd_same, n2, by show 0 < 7; decide, by show 7 ≤ 1000; decide, fun j y H2 hj O2 B2 => ?_⟩
      have T2 := tabs_orchN (T1.ext (s2.trans z2)) B2 O1'
      have F2 := (F2.keep (.same z2)).keep (.but B2 (orch_ref O1'))
      have badS : ∀ H', Fix [(a2, .lst [.int 1]), (a1, .lst [.int 1])] H' → Bad K H' y (some 1) (some 48) := by
        intro H' e
        match j, hj with
        | 0, z => cases z; exact ⟨true, isI_int _, by decide +kernel⟩
        | 1, z => cases z; exact ⟨true, isI_int _, by decide +kernel⟩
        | 2, z => cases z; exact ⟨true, isI_int _, by decide +kernel⟩
        | 3, z => cases z; exact ⟨false, isI_non, rfl⟩
        | 4, z => cases z; exact ⟨false, isI_bl _, rfl⟩
        | 5, z => cases z; exact ⟨false, isI_str _, rfl⟩
        | 6, z => cases z; exact ⟨false, isI_lst (e.get (o := .lst [.int 1]) (by simp)), rfl⟩
        | j + 7, z => cases z
      clear hj
      -- few
      refine ⟨_, rfl, p, b, _, 9, rfl, O2, by omega, by decide, by decide, fun r H3 r0 r1 O3 B3 => ⟨_, _, rfl, rfl, ?_⟩⟩
      have T3 := tabs_orchN T2 B3 O2
      have F3 := F2.keep (.but B3 (orch_ref O2))
      obtain ⟨k, ek, k1, k9⟩ : ∃ k : Nat, 1 + r = (k : Int) ∧ 1 ≤ k ∧ k ≤ 9 := ⟨(1 + r).toNat, by omega, by omega, by omega⟩
      show gName 3 (V.int (1 + r)) _ _ _
      rw [ek]
      have em : (if (k : Int) < 8 then (k : Int) else 8) = ((min 8 k : Nat) : Int) := by
        by_cases z : (k : Int) < 8
        · rw [if_pos z]; omega
        · rw [if_neg z]; omega
      obtain ⟨up3, hup3⟩ := O3.pn
      -- most
      refine ⟨_, rfl, _, rfl, _, rfl, _, _, rfl, _, _, rfl, rfl, (by show 1 ≤ sizeLine; decide), fun a3 ha3 => ⟨(by show 8 ≤ sizeLine; decide), fun l3 hl3 => ?_⟩⟩
      have s3 : Same H3 (upd H3 a3 (.lst [.int 1])) := same_new ha3
      have F3 := Fix.cons (o := .lst [.int 1]) (a := a3) upd_same rfl (F3.keep (.same s3))
      have z3 := same_new (o := .lst [.int 0, .int (-1), .int ((if (k : Int) < 8 then (k : Int) else 8) + 1), .non, .bl true, .str "1", .ref a3, .int 9]) hl3
      have n3 : l3 ≠ p := (ne_of_none (s3 _ _ hup3) hl3).symm
      have O3' := O3.same (s3.trans z3)
      refine ⟨p, b, l3, _, _, rfl, O3', by omega, upd_same, n3, by show 0 < 8; decide, by show 8 ≤ 1000; decide, fun j z H4 hj O4 B4 => ?_⟩
      have T4 := tabs_orchN (T3.ext (s3.trans z3)) B4 O3'
      have F4 := (F3.keep (.same z3)).keep (.but B4 (orch_ref O3'))
      have out : ∀ i : Int, ((min 8 k : Nat) : Int) < i → (true && inB (some 1) (some ((min 8 k : Nat) : Int)) (.int i)) = false := fun i hi => by
        show (true && (decide ((1 : Int) ≤ i) && decide (i ≤ ((min 8 k : Nat) : Int)))) = false
        rw [decide_eq_false (show ¬ i ≤ ((min 8 k : Nat) : Int) by omega), Bool.and_false]
        rfl
      have low : ∀ i : Int, i < 1 → (true && inB (some 1) (some ((min 8 k : Nat) : Int)) (.int i)) = false := fun i hi => by
        show (true && (decide ((1 : Int) ≤ i) && decide (i ≤ ((min 8 k : Nat) : Int)))) = false
        rw [decide_eq_false (show ¬ (1 : Int) ≤ i by omega), Bool.false_and]
        rfl
      have badM : ∀ H', Fix [(a3, .lst [.int 1]), (a2, .lst [.int 1]), (a1, .lst [.int 1])] H' → Bad K H' z (some 1) (some ((min 8 k : Nat) : Int)) := by
        intro H' e
        match j, hj with
        | 0, z => cases z; exact ⟨true, isI_int _, low _ (by decide)⟩
        | 1, z => cases z; exact ⟨true, isI_int _, low _ (by decide)⟩
        | 2, z => cases z; exact ⟨true, isI_int _, out _ (by rw [em]; omega)⟩
        | 3, z => cases z; exact ⟨false, isI_non, rfl⟩
        | 4, z => cases z; exact ⟨false, isI_bl _, rfl⟩
        | 5, z => cases z; exact ⟨false, isI_str _, rfl⟩
        | 6, z => cases z; exact ⟨false, isI_lst (e.get (o := .lst [.int 1]) (by simp)), rfl⟩
        | 7, z => cases z; exact ⟨true, isI_int _, out _ (by omega)⟩
        | j + 8, z => cases z
      clear hj
      -- heard
      refine ⟨Nat.zero_le _, fun h hh => ⟨(by show 3 ≤ sizeLine; decide), fun tf htf => ?_⟩⟩
      have s5 : Same H4 (upd H4 h (.lst [])) := same_new hh
      have s6 := same_new (o := .tup [.ref f4, .ref f5, .ref f6]) htf
      have F6 := F4.keep (.same (s5.trans s6))
      have T6 := T4.ext (s5.trans s6)
      have at6 := s6 _ _ (upd_same (H := H4) (a := h) (o := .lst []))
      have htf6 : (upd (upd H4 h (.lst [])) tf (.tup [.ref f4, .ref f5, .ref f6])) tf = some (.tup [.ref f4, .ref f5, .ref f6]) := upd_same
      have nth : tf ≠ h := (ne_of_none (upd_same (H := H4) (a := h) (o := .lst [])) htf).symm
      have off : ∀ a ∈ [(a3, HO.lst [.int 1]), (a2, HO.lst [.int 1]), (a1, HO.lst [.int 1])], a.1 ≠ h := fun a ha z => by
        have e := (F4 a ha).1
        rw [z, hh] at e
        cases e
      generalize upd (upd H4 h (.lst [])) tf (.tup [.ref f4, .ref f5, .ref f6]) = H6 at F6 T6 at6 htf6 ⊢
      have fixK : ∀ H', Kp h H6 H' → Fix [(a3, .lst [.int 1]), (a2, .lst [.int 1]), (a1, .lst [.int 1])] H' := fun H' kp a ha => by
        refine ⟨kp _ _ (F6 a ha).1 (off a ha) fun ps e => ?_, (F6 a ha).2⟩
        have := (F6 a ha).2
        rw [e] at this
        cases this
      have bC : ∀ H', Kp h H6 H' → Bad K H' x (some 1) (some 256) := fun H' kp => badC H' fun a ha => fixK H' kp a (by simp at ha ⊢; exact .inr (.inr ha))
      have bS : ∀ H', Kp h H6 H' → Bad K H' y (some 1) (some 48) := fun H' kp => badS H' fun a ha => fixK H' kp a (by simp at ha ⊢; exact .inr ha)
      have bM : ∀ H', Kp h H6 H' → Bad K H' z (some 1) (some ((min 8 k : Nat) : Int)) := fun H' kp => badM H' (fixK H' kp)
      clear badC badS badM fixK off F6 F4 F3 F2 F1
      refine ⟨tf, rfl, ⟨_, SqT.of htf6⟩, ?_⟩
      refine for_tup (xs := [.ref f4, .ref f5, .ref f6]) (fun i σ H' => ∃ (vs : List V) (u : Option V), Lp Pt h H6 H' vs (rep4 i) ∧ vs.length = 4 * i ∧ i ≤ 3 ∧ σ = [some (.ref p), some x, some y, some (.int (k : Int)), some z, some (.ref h), u])
        ⟨[], none, ⟨.refl, T6, at6, trivial⟩, rfl, by decide, rfl⟩ (fun i σ H' _ ⟨vs, u, s, _⟩ => SqT.of (s.kp _ _ htf6 nth fun _ z => nomatch z)) ?_ ?_
      · rintro i g σ H7 hg ⟨vs, u, s0, hl, hi, rfl⟩
        have hi3 : i < 3 := (List.getElem?_eq_some_iff.mp hg).1
        obtain ⟨gf, rfl, hgf⟩ : ∃ gf, g = .ref gf ∧ gf ∈ [f4, f5, f6] := by
          match i, hg with
          | 0, e => cases e; exact ⟨_, rfl, by simp⟩
          | 1, e => cases e; exact ⟨_, rfl, by simp⟩
          | 2, e => cases e; exact ⟨_, rfl, by simp⟩
          | i + 3, e => cases e
        clear hg
        refine ⟨_, rfl, .inl ⟨rfl, _, SqL.of s0.at'⟩, s0.tabs, fun Ha ea Ta => ⟨rfl, gf, hgf, rfl, _, rfl, _, rfl, _, rfl, _, _, _, rfl, .inl ⟨bC _ (s0.kp.trans (.ext ea)), fun dd hdd => ⟨dd, "cells", rfl, upd_same, .inl ⟨rfl, fun t Hb Sb ht => ?_⟩⟩⟩⟩⟩
        obtain ⟨at1, s1⟩ := s0.step ea Ta ((same_new (o := .xd [(("part" : Str), .str "cells")]) hdd).trans Sb) (k := some ("number", "cells")) ⟨t, rfl, ht⟩
        refine ⟨h, _, _, rfl, rfl, at1, small1000 (by omega), ?_⟩
        refine ⟨_, rfl, .inl ⟨rfl, _, SqL.of s1.at'⟩, s1.tabs, fun Ha2 ea2 Ta2 => ⟨rfl, gf, hgf, rfl, _, rfl, _, rfl, _, rfl, _, _, _, rfl, .inr ⟨k, rfl, k1, by omega, .inl ⟨bS _ (s1.kp.trans (.ext ea2)), fun dd2 hdd2 => ⟨dd2, "size", rfl, upd_same, .inl ⟨rfl, fun t2 Hb2 Sb2 ht2 => ?_⟩⟩⟩⟩⟩⟩
        obtain ⟨at2, s2⟩ := s1.step ea2 Ta2 ((same_new (o := .xd [(("part" : Str), .str "size")]) hdd2).trans Sb2) (k := some ("number", "size")) ⟨t2, rfl, ht2⟩
        refine ⟨h, _, _, rfl, rfl, at2, small1000 (by rw [List.length_append, List.length_singleton]; omega), ?_⟩
        refine ⟨_, rfl, .inl ⟨rfl, _, SqL.of s2.at'⟩, s2.tabs, fun Ha3 ea3 Ta3 => ⟨rfl, gf, hgf, rfl, _, rfl, _, rfl, _, _, _, rfl, .inr ⟨k, rfl, k1, by omega, .inr ⟨3, rfl, by decide, by decide, .inl ⟨bM _ (s2.kp.trans (.ext ea3)), fun dd3 hdd3 => ⟨dd3, "most", rfl, upd_same, .inl ⟨rfl, fun t3 Hb3 Sb3 ht3 => ?_⟩⟩⟩⟩⟩⟩⟩
        obtain ⟨at3, s3⟩ := s2.step ea3 Ta3 ((same_new (o := .xd [(("part" : Str), .str "most")]) hdd3).trans Sb3) (k := some ("number", "most")) ⟨t3, rfl, ht3⟩
        refine ⟨h, _, _, rfl, rfl, at3, small1000 (by simp only [List.length_append, List.length_singleton]; omega), ?_⟩
        refine ⟨_, rfl, .inl ⟨rfl, _, SqL.of s3.at'⟩, s3.tabs, fun Ha4 ea4 Ta4 => ⟨rfl, gf, hgf, rfl, _, rfl, _, rfl, _, _, rfl, _, _, _, rfl, .inr ⟨k, rfl, k1, by omega, .inr ⟨3, rfl, by decide, by decide, .inr ⟨min 8 k, congrArg V.int em, by omega, Nat.le_refl _, fun v5 Hb4 Sb4 Hb5 Sb5 => ?_⟩⟩⟩⟩⟩
        obtain ⟨at4, s4⟩ := s3.step ea4 Ta4 (Sb4.trans Sb5) (v := .non) (k := none) rfl
        refine ⟨h, _, _, rfl, rfl, at4, small1000 (by simp only [List.length_append, List.length_singleton]; omega), ?_⟩
        refine ⟨vs ++ [V.ref t] ++ [V.ref t2] ++ [V.ref t3] ++ [V.non], some (.ref gf), ?_, ?_, hi3, rfl⟩
        · have e : rep4 (i + 1) = rep4 i ++ [(some (("number" : Str), ("cells" : Str)) : Option (Str × Str))] ++ [(some (("number" : Str), ("size" : Str)) : Option (Str × Str))] ++ [(some (("number" : Str), ("most" : Str)) : Option (Str × Str))] ++ [(none : Option (Str × Str))] := by
            show rep4 i ++ due4 = _
            unfold due4
            simp
          rw [e]
          exact s4
        · simp only [List.length_append, List.length_singleton]
          omega
      · rintro σ H7 ⟨vs, u, s0, hl, hi, rfl⟩
        refine ⟨_, rfl, (by show 2 ≤ sizeLine; decide), fun q1 hq1 => ⟨(by show 2 ≤ sizeLine; decide), fun q2 hq2 => ⟨(by show 2 ≤ sizeLine; decide), fun q3 hq3 => ⟨(by show 4 ≤ sizeLine; decide), fun qa hqa => ?_⟩⟩⟩⟩
        have y1 := same_new (o := .tup [.str "number", .str "cells"]) hq1
        have y2 := same_new (o := .tup [.str "number", .str "size"]) hq2
        have y3 := same_new (o := .tup [.str "number", .str "most"]) hq3
        have y4 := same_new (o := .lst [.ref q1, .ref q2, .ref q3, .non]) hqa
        have e1 := y4 _ _ (y3 _ _ (y2 _ _ (upd_same (H := H7) (a := q1) (o := .tup [.str "number", .str "cells"]))))
        have e2 := y4 _ _ (y3 _ _ (upd_same (H := upd H7 q1 (.tup [.str "number", .str "cells"])) (a := q2) (o := .tup [.str "number", .str "size"])))
        have e3 := y4 _ _ (upd_same (H := upd (upd H7 q1 (.tup [.str "number", .str "cells"])) q2 (.tup [.str "number", .str "size"])) (a := q3) (o := .tup [.str "number", .str "most"]))
        refine ⟨qa, 3, _, rfl, rfl, upd_same, by decide, by decide, (by show 4 * 3 ≤ sizeLine; decide), fun qd hqd => ?_⟩
        have y5 := same_new (o := .lst (List.replicate (Int.toNat 3) [V.ref q1, .ref q2, .ref q3, .non]).flatten) hqd
        have Y := y1.trans (y2.trans (y3.trans (y4.trans y5)))
        have D4 : Res (upd (upd (upd (upd (upd H7 q1 (.tup [.str "number", .str "cells"])) q2 (.tup [.str "number", .str "size"])) q3 (.tup [.str "number", .str "most"])) qa (.lst [.ref q1, .ref q2, .ref q3, .non])) qd (.lst (List.replicate (Int.toNat 3) [V.ref q1, .ref q2, .ref q3, .non]).flatten)) [V.ref q1, .ref q2, .ref q3, .non] due4 :=
          ⟨⟨q1, rfl, y5 _ _ e1⟩, ⟨q2, rfl, y5 _ _ e2⟩, ⟨q3, rfl, y5 _ _ e3⟩, rfl, trivial⟩
        have D12 := res_app (res_app (res_app (us := []) (js := []) trivial D4) D4) D4
        have R7 := res_tup (fun t xs e => Y _ _ e) s0.res
        refine ⟨.list ((rep4 3).map entD), .list ((rep4 3).map entD), Dp.lst (SqL.of (Y _ _ s0.at')) R7.dp, Dp.lst (SqL.of upd_same) D12.dp, (by decide +kernel), (by decide +kernel), ?_⟩
        rw [SeqAt.eqv_refl _ (by decide +kernel)]
        exact q _
    obtain ⟨t, h1, h2⟩ := t0
    exact ⟨t, h1.nox, h2⟩
end
end K40
namespace K40
open PySem PySem.Spec PyProof.Rows L2 OB SkE LamX
def spLaw (K : PySem.W.Frag) (Pt : Addr) : Sp := fun vs H Q _ => ∃ (a : Addr) (ns : List Int), vs = [.ref a] ∧ SqL K H a (ns.map V.int) ∧ ns.length ≤ 63 ∧ H Pt = some (.tbl #[]) ∧ ∀ H', Q (.bl true) H'
/-- a pair of small numbers, laid down -/
def Pr (H : Hp) (q : Addr) (c s : Nat) : Prop := H q = some (.tup [.int (c : Int), .int (s : Int)])
section
variable {P : Program} {w : World} {K : PySem.W.Frag} {mg : Str → Option Value} {base : Heap}
abbrev N_law : List Str := ["script", "shed", "turn", "cells", "size", "most"]
theorem sc_law : FnScope ["script", "shed", "turn", "cells", "size", "most"] ["script"] (defScope s_law) := ⟨rfl, rfl, rfl, by decide +kernel, rfl, by decide +kernel, by decide +kernel⟩
theorem ok_law {f f1 f2 f3 f4 f5 f6 f7 f8 CN Pt : Addr} {fd1 fd2 fd3 fd4 fd5 fd6 fd7 fd8 : FuncData} {oc kV doc pm ct cd : Value} {od an : Option Addr} {osl : Array (Option Value)} (T : Blt mg)
    (lk : K.lookup f = some ⟨oc, od, .func (PySem.W.fnOf "law" "law" (defArgs s_law) (defBody s_law) (defScope s_law) .none kV doc pm an cd ct), osl⟩) (hcd : PySem.W.codeIn K cd "law" = true)
    (D__law_shed : Df K mg "_law_shed" s__law_shed ["script"] f1 fd1) (G__law_shed : FnOk P w K mg base CX0 1 f1 fd1 ["script"] (spLot K))
    (D__law_stack : Df K mg "_law_stack" s__law_stack ["shed", "many"] f2 fd2) (D__law_any : Df K mg "_law_any" s__law_any ["shed", "some"] f3 fd3)
    (D__law_drawn : Df K mg "_law_drawn" s__law_drawn ["shed"] f4 fd4) (D__law_by_trial : Df K mg "_law_by_trial" s__law_by_trial ["cells", "size", "most"] f5 fd5)
    {f9 : Addr} {fd9 : FuncData} (D__law_digits : Df K mg "_law_digits" s__law_digits ["state", "cells", "size"] f9 fd9)
    (D__law_room_right : Df K mg "_law_room_right" s__law_room_right ["cells", "size", "most"] f6 fd6) (G__law_room_right : FnG P w K mg base CX0 11 f6 fd6 ["cells", "size", "most"] spRoomL)
    (D__law_refused_right : Df K mg "_law_refused_right" s__law_refused_right ["shed"] f7 fd7) (G__law_refused_right : FnOk P w K mg base CX0 16 f7 fd7 ["shed"] (spRefused Pt))
    (D_changes_of : Df K mg "changes_of" s_changes_of ["cells", "size", "most"] f8 fd8) (GX_changes_of : FnOk P w K mg base (L2.CX P w) 7 f8 fd8 ["cells", "size", "most"] (spR K CN aChanges)) :
    FnG P w K mg base CX0 18 f (PySem.W.fnOf "law" "law" (defArgs s_law) (defBody s_law) (defScope s_law) .none kV doc pm an cd ct) ["script"] (spLaw K Pt) := by
  have G_changes_of := calm_of GX_changes_of
  have G__law_stack : FnOk P w K mg base CX0 1 f2 fd2 ["shed", "many"] spDraw := ok__law_stack D__law_stack.F T
  have G__law_any : FnOk P w K mg base CX0 2 f3 fd3 ["shed", "some"] spOne := ok__law_any D__law_any.F T D__law_stack
  have G__law_drawn : FnOk P w K mg base CX0 3 f4 fd4 ["shed"] spDrawn := ok__law_drawn D__law_drawn.F T D__law_stack D__law_any
  have G__law_by_trial : FnOk P w K mg base CX0 2 f5 fd5 ["cells", "size", "most"] spTrial := ok__law_by_trial D__law_by_trial.F T D__law_digits
  refine fnG_of lk hcd sc_law (fun vs H Q E h => ?_) fun A outer s H vs Q E hgd hr h => ?_
  · obtain ⟨a, ns, rfl, _⟩ := h
    rfl
  · obtain ⟨a, ns, rfl, hS, hl, hP, k⟩ := h
    have t0 : ∃ t, PSs (cxOf CX0 P w K mg base ["script", "shed", "turn", "cells", "size", "most"] "law" (defScope s_law) f cd A outer s H E).nox (defBody s_law) t ∧ t { nx := fun _ H' => Q .non H', rt := Q } (L2.start ["script", "shed", "turn", "cells", "size", "most"] [.ref a]) H := by
      refine ⟨_, (pss_cons (ps_set (i := 1) sc_law.nd rfl (Or.inl rfl) (pe_call G__law_shed (hr.mono (by decide)) (by rfl) D__law_shed.g D__law_shed.F.kp D__law_shed.b .nil pass0 (pa_cons (pv 0) pa_nil)))
  (pss_cons (ps_for PassesOwn.never rfl (pi_range1 (by rfl) T.n_range (pa_cons pe_int pa_nil)) (pg_name (i := 2) sc_law.nd rfl (Or.inl rfl)) (pss_cons (ps_asg (pe_call G__law_drawn (hr.mono (by decide)) (by rfl) D__law_drawn.g D__law_drawn.F.kp D__law_drawn.b .nil pass0 (pa_cons (pv 1) pa_nil)) (pg_tup (by rfl) (pgs_cons (pg_name (i := 3) sc_law.nd rfl (Or.inl rfl)) (pgs_cons (pg_name (i := 4) sc_law.nd rfl (Or.inl rfl)) (pgs_cons (pg_name (i := 5) sc_law.nd rfl (Or.inl rfl)) pgs_nil)))))
  (pss_one (ps_if (pt_not (pt_val (pe_callG G__law_room_right hgd (hr.mono (by decide)) (by rfl) D__law_room_right.g D__law_room_right.F.kp D__law_room_right.b .nil pass0 (pa_cons (pv 3) (pa_cons (pv 4) (pa_cons (pv 5) pa_nil)))))) (pss_one (ps_ret pe_bl)) pss_nil))))
  (pss_cons (ps_asg (pe_call G__law_any (hr.mono (by decide)) (by rfl) D__law_any.g D__law_any.F.kp D__law_any.b .nil pass0 (pa_cons (pv 1) (pa_cons (pe_lst (pa_cons (pe_tup (pa_cons pe_int (pa_cons pe_int pa_nil))) (pa_cons (pe_tup (pa_cons pe_int (pa_cons pe_int pa_nil))) (pa_cons (pe_tup (pa_cons pe_int (pa_cons pe_int pa_nil))) (pa_cons (pe_tup (pa_cons pe_int (pa_cons pe_int pa_nil))) (pa_cons (pe_tup (pa_cons pe_int (pa_cons pe_int pa_nil))) (pa_cons (pe_tup (pa_cons pe_int (pa_cons pe_int pa_nil))) (pa_cons (pe_tup (pa_cons pe_int (pa_cons pe_int pa_nil))) (pa_cons (pe_tup (pa_cons pe_int (pa_cons pe_int pa_nil))) pa_nil))))))))) pa_nil))) (pg_tup (by rfl) (pgs_cons (pg_name (i := 3) sc_law.nd rfl (Or.inl rfl)) (pgs_cons (pg_name (i := 4) sc_law.nd rfl (Or.inl rfl)) pgs_nil))))
  (pss_cons (ps_set (i := 5) sc_law.nd rfl (Or.inl rfl) (pe_op op_add pe_int (pe_call G__law_stack (hr.mono (by decide)) (by rfl) D__law_stack.g D__law_stack.F.kp D__law_stack.b .nil pass0 (pa_cons (pv 1) (pa_cons (pv 3) pa_nil)))))
  (pss_cons (ps_if (PW.pt (pw_or (pt_cmpR op_ne (pe_call G_changes_of (hr.mono (by decide)) (by rfl) D_changes_of.g D_changes_of.F.kp D_changes_of.b .nil pass0 (pa_cons (pv 3) (pa_cons (pv 4) (pa_cons (pv 5) pa_nil)))) (pe_call G__law_by_trial (hr.mono (by decide)) (by rfl) D__law_by_trial.g D__law_by_trial.F.kp D__law_by_trial.b .nil pass0 (pa_cons (pv 3) (pa_cons (pv 4) (pa_cons (pv 5) pa_nil)))) (nomark _)) (pw_or1 (pt_not (pt_val (pe_callG G__law_room_right hgd (hr.mono (by decide)) (by rfl) D__law_room_right.g D__law_room_right.F.kp D__law_room_right.b .nil pass0 (pa_cons (pv 3) (pa_cons (pv 4) (pa_cons (pv 5) pa_nil))))))))) (pss_one (ps_ret pe_bl)) pss_nil)
  (pss_one (ps_ret (pe_call G__law_refused_right (hr.mono (by decide)) (by rfl) D__law_refused_right.g D__law_refused_right.F.kp D__law_refused_right.b .nil pass0 (pa_cons (pv 1) pa_nil))))))))), ?_⟩
      refine ⟨_, rfl, a, ns, rfl, hS, hl, fun p b H1 hp hb O S1 => ?_⟩
      have T1 : Tabs [(Pt, LQ)] H1 := fun q hq => by
        rw [List.mem_singleton.mp hq]
        exact .nil (S1 _ _ hP)
      refine ⟨3, rfl, by decide, by decide, ?_⟩
      refine for_range (n := 3) (fun i σ H' => Orch H' p b (10 * i) ∧ Tabs [(Pt, LQ)] H' ∧ ∃ u2 u3 u4 u5 : Option V, σ = [some (.ref a), some (.ref p), u2, u3, u4, u5]) ⟨O, T1, none, none, none, none, rfl⟩ ?_ ?_
      · rintro i σ H2 hi ⟨O2, T2, u2, u3, u4, u5, rfl⟩
        refine ⟨_, rfl, p, b, _, rfl, O2, by omega, fun q c s' k' H3 ok hq O3 B3 => ?_⟩
        have T3 := tabs_orchN T2 B3 O2
        refine ⟨q, _, rfl, SqT.of hq, rfl, _, _, rfl, _, _, rfl, _, _, rfl, rfl, ?_⟩
        refine ⟨_, rfl, _, rfl, _, rfl, c, s', k', rfl, ok, fun H4 S4 => ⟨_, rfl, ?_⟩⟩
        refine iteF ?_
        exact ⟨(O3.same S4).mono (by omega), T3.ext S4, some (.int (0 + (i : Int))), _, _, _, rfl⟩
      rintro σ H2 ⟨O2, T2, u2, u3, u4, u5, rfl⟩
      -- cells, size
      refine ⟨_, rfl, ⟨(by show 2 ≤ sizeLine; decide), fun q1 hq1 => ⟨(by show 2 ≤ sizeLine; decide), fun q2 hq2 => ⟨(by show 2 ≤ sizeLine; decide), fun q3 hq3 => ⟨(by show 2 ≤ sizeLine; decide), fun q4 hq4 => ⟨(by show 2 ≤ sizeLine; decide), fun q5 hq5 => ⟨(by show 2 ≤ sizeLine; decide), fun q6 hq6 => ⟨(by show 2 ≤ sizeLine; decide), fun q7 hq7 => ⟨(by show 2 ≤ sizeLine; decide), fun q8 hq8 => ⟨(by show 8 ≤ sizeLine; decide), fun l hl => ?_⟩⟩⟩⟩⟩⟩⟩⟩⟩⟩
      have x1 := same_new (o := .tup [.int 1, .int 3]) hq1
      have x2 := same_new (o := .tup [.int 2, .int 2]) hq2
      have x3 := same_new (o := .tup [.int 3, .int 1]) hq3
      have x4 := same_new (o := .tup [.int 2, .int 3]) hq4
      have x5 := same_new (o := .tup [.int 3, .int 2]) hq5
      have x6 := same_new (o := .tup [.int 4, .int 1]) hq6
      have x7 := same_new (o := .tup [.int 6, .int 1]) hq7
      have x8 := same_new (o := .tup [.int 1, .int 6]) hq8
      have x9 := same_new (o := .lst [.ref q1, .ref q2, .ref q3, .ref q4, .ref q5, .ref q6, .ref q7, .ref q8]) hl
      obtain ⟨up, hup⟩ := O2.pn
      have n1 : q1 ≠ p := (ne_of_none hup hq1).symm
      have y2 := x1
      have n2 : q2 ≠ p := (ne_of_none (y2 _ _ hup) hq2).symm
      have y3 := y2.trans x2
      have n3 : q3 ≠ p := (ne_of_none (y3 _ _ hup) hq3).symm
      have y4 := y3.trans x3
      have n4 : q4 ≠ p := (ne_of_none (y4 _ _ hup) hq4).symm
      have y5 := y4.trans x4
      have n5 : q5 ≠ p := (ne_of_none (y5 _ _ hup) hq5).symm
      have y6 := y5.trans x5
      have n6 : q6 ≠ p := (ne_of_none (y6 _ _ hup) hq6).symm
      have y7 := y6.trans x6
      have n7 : q7 ≠ p := (ne_of_none (y7 _ _ hup) hq7).symm
      have y8 := y7.trans x7
      have n8 : q8 ≠ p := (ne_of_none (y8 _ _ hup) hq8).symm
      have y9 := y8.trans x8
      have nl : l ≠ p := (ne_of_none (y9 _ _ hup) hl).symm
      have y10 := y9.trans x9
      have r8 := x9
      have r7 := x8.trans r8
      have r6 := x7.trans r7
      have r5 := x6.trans r6
      have r4 := x5.trans r5
      have r3 := x4.trans r4
      have r2 := x3.trans r3
      have r1 := x2.trans r2
      have O3 := O2.same y10
      refine ⟨p, b, l, _, _, rfl, O3, by omega, upd_same, nl, by show 0 < 8; decide, by show 8 ≤ 1000; decide, fun j x H4 hj O4 B4 => ?_⟩
      have T4 := tabs_orchN (T2.ext y10) B4 O3
      obtain ⟨q, c, s', rfl, hm, hq⟩ : ∃ (q : Addr) (c s' : Nat), x = .ref q ∧ (c, s') ∈ [(1, 3), (2, 2), (3, 1), (2, 3), (3, 2), (4, 1), (6, 1), (1, 6)] ∧ H4 q = some (.tup [.int (c : Int), .int (s' : Int)]) := by
        match j, hj with
        | 0, e => cases e; exact ⟨q1, 1, 3, rfl, by decide, B4 _ _ (r1 _ _ upd_same) n1⟩
        | 1, e => cases e; exact ⟨q2, 2, 2, rfl, by decide, B4 _ _ (r2 _ _ upd_same) n2⟩
        | 2, e => cases e; exact ⟨q3, 3, 1, rfl, by decide, B4 _ _ (r3 _ _ upd_same) n3⟩
        | 3, e => cases e; exact ⟨q4, 2, 3, rfl, by decide, B4 _ _ (r4 _ _ upd_same) n4⟩
        | 4, e => cases e; exact ⟨q5, 3, 2, rfl, by decide, B4 _ _ (r5 _ _ upd_same) n5⟩
        | 5, e => cases e; exact ⟨q6, 4, 1, rfl, by decide, B4 _ _ (r6 _ _ upd_same) n6⟩
        | 6, e => cases e; exact ⟨q7, 6, 1, rfl, by decide, B4 _ _ (r7 _ _ upd_same) n7⟩
        | 7, e => cases e; exact ⟨q8, 1, 6, rfl, by decide, B4 _ _ (r8 _ _ upd_same) n8⟩
        | j + 8, e => cases e
      clear hj
      have hb : c ≤ 6 ∧ s' ≤ 6 ∧ c * s' ≤ 6 ∧ 1 ≤ c ∧ 1 ≤ s' := by
        have all : ∀ z ∈ [(1, 3), (2, 2), (3, 1), (2, 3), (3, 2), (4, 1), (6, 1), (1, 6)], z.1 ≤ 6 ∧ z.2 ≤ 6 ∧ z.1 * z.2 ≤ 6 ∧ 1 ≤ z.1 ∧ 1 ≤ z.2 := by decide
        exact all (c, s') hm
      obtain ⟨c6, s6, cs6, c1, s1⟩ := hb
      refine ⟨q, _, rfl, SqT.of hq, rfl, _, _, rfl, _, _, rfl, rfl, ?_⟩
      -- most
      refine ⟨_, rfl, _, rfl, p, b, _, _, rfl, O4, by omega, by omega, ?_, fun r H5 r0 r1 O5 B5 => ⟨_, _, rfl, rfl, ?_⟩⟩
      · rw [Int.natAbs_natCast]
        exact Nat.lt_of_le_of_lt c6 (by decide)
      have T5 := tabs_orchN T4 B5 O4
      obtain ⟨k', ek, k1, kc⟩ : ∃ k' : Nat, 1 + r = (k' : Int) ∧ 1 ≤ k' ∧ k' ≤ c := ⟨(1 + r).toNat, by omega, by omega, by omega⟩
      show gName 5 (V.int (1 + r)) _ _ _
      rw [ek]
      have k8 : k' ≤ min 8 c := by omega
      have same := bt_is (c, s') hm k' (by omega) kc
      have same : BT c s' k' (2 ^ (c * s') - 1) = M40.T c (2 ^ s' - 1) k' := same
      refine ⟨_, rfl, _, rfl, _, rfl, _, _, _, rfl, .inr ⟨c, rfl, c1, by omega, .inr ⟨s', rfl, s1, by omega, .inr ⟨k', rfl, k1, k8, ?_⟩⟩⟩⟩
      refine ⟨_, rfl, _, rfl, _, rfl, c, s', k', rfl, cs6, c6, s6, fun H6 S6 => ?_⟩
      rw [same]
      refine ⟨rfl, _, rfl, ?_⟩
      rw [same_text]
      refine iteF ?_
      refine ⟨_, rfl, _, rfl, _, rfl, c, s', k', rfl, ⟨c1, by omega, s1, by omega, k1, k8⟩, fun H7 S7 => ⟨_, rfl, ?_⟩⟩
      refine iteF ?_
      exact ⟨_, rfl, p, b, _, rfl, O5.same (S6.trans S7), by omega, T5.ext (S6.trans S7), fun H8 => k H8⟩
    obtain ⟨t, h1, h2⟩ := t0
    exact ⟨t, h1.nox, h2⟩
end
end K40
namespace K40
open PySem PySem.Spec PyProof.Rows L2 OB SkE LamX
theorem sc_initN : FnScope ["self", "part"] ["self", "part"] (defScope s_initN) := ⟨rfl, rfl, rfl, by decide +kernel, rfl, by decide +kernel, by decide +kernel⟩
theorem sc_initS : FnScope ["self", "part"] ["self", "part"] (defScope s_initS) := ⟨rfl, rfl, rfl, by decide +kernel, rfl, by decide +kernel, by decide +kernel⟩
theorem all_mk {l : PySem.W.OpenLaw} {w : World} {K : PySem.W.Frag} {h : Heap} {mg : Str → Option Value} {fa f_is_integer f_is_within f_need_number f_fewest_enough f__are_enough f_most_rows f_changes_of f_store_least f_spare_bits f__need_room f__law_shed f__law_stack f__law_any f__law_digits f__law_by_trial f__law_changes f__law_least f__law_bits f__law_drawn f__law_room_right f__law_heard f__law_refused_right f_law CF C_BadNumber fi_BadNumber N_BadNumber C_Misfit fi_Misfit N_Misfit C_TooMany fi_TooMany N_TooMany C_BadStore fi_BadStore N_BadStore C_S f_S c Pt : Addr} {cd_is_integer oc_is_integer kV_is_integer dc_is_integer pm_is_integer ct_is_integer cd_is_within oc_is_within kV_is_within dc_is_within pm_is_within ct_is_within cd_need_number oc_need_number kV_need_number dc_need_number pm_need_number ct_need_number cd_fewest_enough oc_fewest_enough kV_fewest_enough dc_fewest_enough pm_fewest_enough ct_fewest_enough cd__are_enough oc__are_enough kV__are_enough dc__are_enough pm__are_enough ct__are_enough cd_most_rows oc_most_rows kV_most_rows dc_most_rows pm_most_rows ct_most_rows cd_changes_of oc_changes_of kV_changes_of dc_changes_of pm_changes_of ct_changes_of cd_store_least oc_store_least kV_store_least dc_store_least pm_store_least ct_store_least cd_spare_bits oc_spare_bits kV_spare_bits dc_spare_bits pm_spare_bits ct_spare_bits cd__need_room oc__need_room kV__need_room dc__need_room pm__need_room ct__need_room cd__law_shed oc__law_shed kV__law_shed dc__law_shed pm__law_shed ct__law_shed cd__law_stack oc__law_stack kV__law_stack dc__law_stack pm__law_stack ct__law_stack cd__law_any oc__law_any kV__law_any dc__law_any pm__law_any ct__law_any cd__law_digits oc__law_digits kV__law_digits dc__law_digits pm__law_digits ct__law_digits cd__law_by_trial oc__law_by_trial kV__law_by_trial dc__law_by_trial pm__law_by_trial ct__law_by_trial cd__law_changes oc__law_changes kV__law_changes dc__law_changes pm__law_changes ct__law_changes cd__law_least oc__law_least kV__law_least dc__law_least pm__law_least ct__law_least cd__law_bits oc__law_bits kV__law_bits dc__law_bits pm__law_bits ct__law_bits cd__law_drawn oc__law_drawn kV__law_drawn dc__law_drawn pm__law_drawn ct__law_drawn cd__law_room_right oc__law_room_right kV__law_room_right dc__law_room_right pm__law_room_right ct__law_room_right cd__law_heard oc__law_heard kV__law_heard dc__law_heard pm__law_heard ct__law_heard oc__law_refused_right kV__law_refused_right dc__law_refused_right pm__law_refused_right ct__law_refused_right cd_law oc_law kV_law dc_law pm_law ct_law oi_BadNumber kVi_BadNumber dci_BadNumber pmi_BadNumber cti_BadNumber cdi_BadNumber oi_Misfit kVi_Misfit dci_Misfit pmi_Misfit cti_Misfit cdi_Misfit oi_TooMany kVi_TooMany dci_TooMany pmi_TooMany cti_TooMany cdi_TooMany oi_BadStore kVi_BadStore dci_BadStore pmi_BadStore cti_BadStore cdi_BadStore oc_S kV_S dc_S pm_S cd_S ct_S : Value} {od_is_integer an_is_integer od_is_within an_is_within od_need_number an_need_number od_fewest_enough an_fewest_enough od__are_enough an__are_enough od_most_rows an_most_rows od_changes_of an_changes_of od_store_least an_store_least od_spare_bits an_spare_bits od__need_room an__need_room od__law_shed an__law_shed od__law_stack an__law_stack od__law_any an__law_any od__law_digits an__law_digits od__law_by_trial an__law_by_trial od__law_changes an__law_changes od__law_least an__law_least od__law_bits an__law_bits od__law_drawn an__law_drawn od__law_room_right an__law_room_right od__law_heard an__law_heard od__law_refused_right an__law_refused_right od_law an_law odi_BadNumber ani_BadNumber dd_BadNumber odi_Misfit ani_Misfit dd_Misfit odi_TooMany ani_TooMany dd_TooMany odi_BadStore ani_BadStore dd_BadStore od_S an_S odC : Option Addr} {sl_is_integer sl_is_within sl_need_number sl_fewest_enough sl__are_enough sl_most_rows sl_changes_of sl_store_least sl_spare_bits sl__need_room sl__law_shed sl__law_stack sl__law_any sl__law_digits sl__law_by_trial sl__law_changes sl__law_least sl__law_bits sl__law_drawn sl__law_room_right sl__law_heard sl__law_refused_right sl_law sli_BadNumber sli_Misfit sli_TooMany sli_BadStore sl_S slC : Array (Option Value)} {vsC : Array Value} {t_MOST_CELLS t_MOST_SIZE t_MOST_ROWS : Tok} {nm_BadNumber q_BadNumber : Str} {bs_BadNumber sub_BadNumber : List Value} {sn_BadNumber : List Str} {ab_BadNumber : Bool} {col_BadNumber : Option Bool} {m0_BadNumber m1_BadNumber m2_BadNumber m3_BadNumber m5_BadNumber : Option Value} {nm_Misfit q_Misfit : Str} {bs_Misfit sub_Misfit : List Value} {sn_Misfit : List Str} {ab_Misfit : Bool} {col_Misfit : Option Bool} {m0_Misfit m1_Misfit m2_Misfit m3_Misfit m5_Misfit : Option Value} {nm_TooMany q_TooMany : Str} {bs_TooMany sub_TooMany : List Value} {sn_TooMany : List Str} {ab_TooMany : Bool} {col_TooMany : Option Bool} {m0_TooMany m1_TooMany m2_TooMany m3_TooMany m5_TooMany : Option Value} {nm_BadStore q_BadStore : Str} {bs_BadStore sub_BadStore : List Value} {sn_BadStore : List Str} {ab_BadStore : Bool} {col_BadStore : Option Bool} {m0_BadStore m1_BadStore m2_BadStore m3_BadStore m5_BadStore : Option Value}
    (X : K.In h) (G : h.Ns mainGlobals mg) (hfa : mg "law" = some (.ref fa))
    (a_is_integer : PySem.W.nsIn K mainGlobals "is_integer" = some (some (.ref f_is_integer)))
    (l_is_integer : K.lookup f_is_integer = some ⟨oc_is_integer, od_is_integer, .func (PySem.W.fnOf "is_integer" "is_integer" (defArgs s_is_integer) (defBody s_is_integer) (defScope s_is_integer) .none kV_is_integer dc_is_integer pm_is_integer an_is_integer cd_is_integer ct_is_integer), sl_is_integer⟩)
    (c_is_integer : PySem.W.codeIn K cd_is_integer "is_integer" = true)
    (k_is_integer : PySem.W.keepIn K (.ref f_is_integer) = true)
    (a_is_within : PySem.W.nsIn K mainGlobals "is_within" = some (some (.ref f_is_within)))
    (l_is_within : K.lookup f_is_within = some ⟨oc_is_within, od_is_within, .func (PySem.W.fnOf "is_within" "is_within" (defArgs s_is_within) (defBody s_is_within) (defScope s_is_within) .none kV_is_within dc_is_within pm_is_within an_is_within cd_is_within ct_is_within), sl_is_within⟩)
    (c_is_within : PySem.W.codeIn K cd_is_within "is_within" = true)
    (k_is_within : PySem.W.keepIn K (.ref f_is_within) = true)
    (a_need_number : PySem.W.nsIn K mainGlobals "need_number" = some (some (.ref f_need_number)))
    (l_need_number : K.lookup f_need_number = some ⟨oc_need_number, od_need_number, .func (PySem.W.fnOf "need_number" "need_number" (defArgs s_need_number) (defBody s_need_number) (defScope s_need_number) .none kV_need_number dc_need_number pm_need_number an_need_number cd_need_number ct_need_number), sl_need_number⟩)
    (c_need_number : PySem.W.codeIn K cd_need_number "need_number" = true)
    (k_need_number : PySem.W.keepIn K (.ref f_need_number) = true)
    (a_fewest_enough : PySem.W.nsIn K mainGlobals "fewest_enough" = some (some (.ref f_fewest_enough)))
    (l_fewest_enough : K.lookup f_fewest_enough = some ⟨oc_fewest_enough, od_fewest_enough, .func (PySem.W.fnOf "fewest_enough" "fewest_enough" (defArgs s_fewest_enough) (defBody s_fewest_enough) (defScope s_fewest_enough) .none kV_fewest_enough dc_fewest_enough pm_fewest_enough an_fewest_enough cd_fewest_enough ct_fewest_enough), sl_fewest_enough⟩)
    (c_fewest_enough : PySem.W.codeIn K cd_fewest_enough "fewest_enough" = true)
    (k_fewest_enough : PySem.W.keepIn K (.ref f_fewest_enough) = true)
    (a__are_enough : PySem.W.nsIn K mainGlobals "_are_enough" = some (some (.ref f__are_enough)))
    (l__are_enough : K.lookup f__are_enough = some ⟨oc__are_enough, od__are_enough, .func (PySem.W.fnOf "_are_enough" "_are_enough" (defArgs s__are_enough) (defBody s__are_enough) (defScope s__are_enough) .none kV__are_enough dc__are_enough pm__are_enough an__are_enough cd__are_enough ct__are_enough), sl__are_enough⟩)
    (c__are_enough : PySem.W.codeIn K cd__are_enough "_are_enough" = true)
    (k__are_enough : PySem.W.keepIn K (.ref f__are_enough) = true)
    (a_most_rows : PySem.W.nsIn K mainGlobals "most_rows" = some (some (.ref f_most_rows)))
    (l_most_rows : K.lookup f_most_rows = some ⟨oc_most_rows, od_most_rows, .func (PySem.W.fnOf "most_rows" "most_rows" (defArgs s_most_rows) (defBody s_most_rows) (defScope s_most_rows) .none kV_most_rows dc_most_rows pm_most_rows an_most_rows cd_most_rows ct_most_rows), sl_most_rows⟩)
    (c_most_rows : PySem.W.codeIn K cd_most_rows "most_rows" = true)
    (k_most_rows : PySem.W.keepIn K (.ref f_most_rows) = true)
    (a_changes_of : PySem.W.nsIn K mainGlobals "changes_of" = some (some (.ref f_changes_of)))
    (l_changes_of : K.lookup f_changes_of = some ⟨oc_changes_of, od_changes_of, .func (PySem.W.fnOf "changes_of" "changes_of" (defArgs s_changes_of) (defBody s_changes_of) (defScope s_changes_of) .none kV_changes_of dc_changes_of pm_changes_of an_changes_of cd_changes_of ct_changes_of), sl_changes_of⟩)
    (c_changes_of : PySem.W.codeIn K cd_changes_of "changes_of" = true)
    (k_changes_of : PySem.W.keepIn K (.ref f_changes_of) = true)
    (a_store_least : PySem.W.nsIn K mainGlobals "store_least" = some (some (.ref f_store_least)))
    (l_store_least : K.lookup f_store_least = some ⟨oc_store_least, od_store_least, .func (PySem.W.fnOf "store_least" "store_least" (defArgs s_store_least) (defBody s_store_least) (defScope s_store_least) .none kV_store_least dc_store_least pm_store_least an_store_least cd_store_least ct_store_least), sl_store_least⟩)
    (c_store_least : PySem.W.codeIn K cd_store_least "store_least" = true)
    (k_store_least : PySem.W.keepIn K (.ref f_store_least) = true)
    (a_spare_bits : PySem.W.nsIn K mainGlobals "spare_bits" = some (some (.ref f_spare_bits)))
    (l_spare_bits : K.lookup f_spare_bits = some ⟨oc_spare_bits, od_spare_bits, .func (PySem.W.fnOf "spare_bits" "spare_bits" (defArgs s_spare_bits) (defBody s_spare_bits) (defScope s_spare_bits) .none kV_spare_bits dc_spare_bits pm_spare_bits an_spare_bits cd_spare_bits ct_spare_bits), sl_spare_bits⟩)
    (c_spare_bits : PySem.W.codeIn K cd_spare_bits "spare_bits" = true)
    (k_spare_bits : PySem.W.keepIn K (.ref f_spare_bits) = true)
    (a__need_room : PySem.W.nsIn K mainGlobals "_need_room" = some (some (.ref f__need_room)))
    (l__need_room : K.lookup f__need_room = some ⟨oc__need_room, od__need_room, .func (PySem.W.fnOf "_need_room" "_need_room" (defArgs s__need_room) (defBody s__need_room) (defScope s__need_room) .none kV__need_room dc__need_room pm__need_room an__need_room cd__need_room ct__need_room), sl__need_room⟩)
    (c__need_room : PySem.W.codeIn K cd__need_room "_need_room" = true)
    (k__need_room : PySem.W.keepIn K (.ref f__need_room) = true)
    (a__law_shed : PySem.W.nsIn K mainGlobals "_law_shed" = some (some (.ref f__law_shed)))
    (l__law_shed : K.lookup f__law_shed = some ⟨oc__law_shed, od__law_shed, .func (PySem.W.fnOf "_law_shed" "_law_shed" (defArgs s__law_shed) (defBody s__law_shed) (defScope s__law_shed) .none kV__law_shed dc__law_shed pm__law_shed an__law_shed cd__law_shed ct__law_shed), sl__law_shed⟩)
    (c__law_shed : PySem.W.codeIn K cd__law_shed "_law_shed" = true)
    (k__law_shed : PySem.W.keepIn K (.ref f__law_shed) = true)
    (a__law_stack : PySem.W.nsIn K mainGlobals "_law_stack" = some (some (.ref f__law_stack)))
    (l__law_stack : K.lookup f__law_stack = some ⟨oc__law_stack, od__law_stack, .func (PySem.W.fnOf "_law_stack" "_law_stack" (defArgs s__law_stack) (defBody s__law_stack) (defScope s__law_stack) .none kV__law_stack dc__law_stack pm__law_stack an__law_stack cd__law_stack ct__law_stack), sl__law_stack⟩)
    (c__law_stack : PySem.W.codeIn K cd__law_stack "_law_stack" = true)
    (k__law_stack : PySem.W.keepIn K (.ref f__law_stack) = true)
    (a__law_any : PySem.W.nsIn K mainGlobals "_law_any" = some (some (.ref f__law_any)))
    (l__law_any : K.lookup f__law_any = some ⟨oc__law_any, od__law_any, .func (PySem.W.fnOf "_law_any" "_law_any" (defArgs s__law_any) (defBody s__law_any) (defScope s__law_any) .none kV__law_any dc__law_any pm__law_any an__law_any cd__law_any ct__law_any), sl__law_any⟩)
    (c__law_any : PySem.W.codeIn K cd__law_any "_law_any" = true)
    (k__law_any : PySem.W.keepIn K (.ref f__law_any) = true)
    (a__law_digits : PySem.W.nsIn K mainGlobals "_law_digits" = some (some (.ref f__law_digits)))
    (l__law_digits : K.lookup f__law_digits = some ⟨oc__law_digits, od__law_digits, .func (PySem.W.fnOf "_law_digits" "_law_digits" (defArgs s__law_digits) (defBody s__law_digits) (defScope s__law_digits) .none kV__law_digits dc__law_digits pm__law_digits an__law_digits cd__law_digits ct__law_digits), sl__law_digits⟩)
    (c__law_digits : PySem.W.codeIn K cd__law_digits "_law_digits" = true)
    (k__law_digits : PySem.W.keepIn K (.ref f__law_digits) = true)
    (a__law_by_trial : PySem.W.nsIn K mainGlobals "_law_by_trial" = some (some (.ref f__law_by_trial)))
    (l__law_by_trial : K.lookup f__law_by_trial = some ⟨oc__law_by_trial, od__law_by_trial, .func (PySem.W.fnOf "_law_by_trial" "_law_by_trial" (defArgs s__law_by_trial) (defBody s__law_by_trial) (defScope s__law_by_trial) .none kV__law_by_trial dc__law_by_trial pm__law_by_trial an__law_by_trial cd__law_by_trial ct__law_by_trial), sl__law_by_trial⟩)
    (c__law_by_trial : PySem.W.codeIn K cd__law_by_trial "_law_by_trial" = true)
    (k__law_by_trial : PySem.W.keepIn K (.ref f__law_by_trial) = true)
    (a__law_changes : PySem.W.nsIn K mainGlobals "_law_changes" = some (some (.ref f__law_changes)))
    (l__law_changes : K.lookup f__law_changes = some ⟨oc__law_changes, od__law_changes, .func (PySem.W.fnOf "_law_changes" "_law_changes" (defArgs s__law_changes) (defBody s__law_changes) (defScope s__law_changes) .none kV__law_changes dc__law_changes pm__law_changes an__law_changes cd__law_changes ct__law_changes), sl__law_changes⟩)
    (c__law_changes : PySem.W.codeIn K cd__law_changes "_law_changes" = true)
    (k__law_changes : PySem.W.keepIn K (.ref f__law_changes) = true)
    (a__law_least : PySem.W.nsIn K mainGlobals "_law_least" = some (some (.ref f__law_least)))
    (l__law_least : K.lookup f__law_least = some ⟨oc__law_least, od__law_least, .func (PySem.W.fnOf "_law_least" "_law_least" (defArgs s__law_least) (defBody s__law_least) (defScope s__law_least) .none kV__law_least dc__law_least pm__law_least an__law_least cd__law_least ct__law_least), sl__law_least⟩)
    (c__law_least : PySem.W.codeIn K cd__law_least "_law_least" = true)
    (k__law_least : PySem.W.keepIn K (.ref f__law_least) = true)
    (a__law_bits : PySem.W.nsIn K mainGlobals "_law_bits" = some (some (.ref f__law_bits)))
    (l__law_bits : K.lookup f__law_bits = some ⟨oc__law_bits, od__law_bits, .func (PySem.W.fnOf "_law_bits" "_law_bits" (defArgs s__law_bits) (defBody s__law_bits) (defScope s__law_bits) .none kV__law_bits dc__law_bits pm__law_bits an__law_bits cd__law_bits ct__law_bits), sl__law_bits⟩)
    (c__law_bits : PySem.W.codeIn K cd__law_bits "_law_bits" = true)
    (k__law_bits : PySem.W.keepIn K (.ref f__law_bits) = true)
    (a__law_drawn : PySem.W.nsIn K mainGlobals "_law_drawn" = some (some (.ref f__law_drawn)))
    (l__law_drawn : K.lookup f__law_drawn = some ⟨oc__law_drawn, od__law_drawn, .func (PySem.W.fnOf "_law_drawn" "_law_drawn" (defArgs s__law_drawn) (defBody s__law_drawn) (defScope s__law_drawn) .none kV__law_drawn dc__law_drawn pm__law_drawn an__law_drawn cd__law_drawn ct__law_drawn), sl__law_drawn⟩)
    (c__law_drawn : PySem.W.codeIn K cd__law_drawn "_law_drawn" = true)
    (k__law_drawn : PySem.W.keepIn K (.ref f__law_drawn) = true)
    (a__law_room_right : PySem.W.nsIn K mainGlobals "_law_room_right" = some (some (.ref f__law_room_right)))
    (l__law_room_right : K.lookup f__law_room_right = some ⟨oc__law_room_right, od__law_room_right, .func (PySem.W.fnOf "_law_room_right" "_law_room_right" (defArgs s__law_room_right) (defBody s__law_room_right) (defScope s__law_room_right) .none kV__law_room_right dc__law_room_right pm__law_room_right an__law_room_right cd__law_room_right ct__law_room_right), sl__law_room_right⟩)
    (c__law_room_right : PySem.W.codeIn K cd__law_room_right "_law_room_right" = true)
    (k__law_room_right : PySem.W.keepIn K (.ref f__law_room_right) = true)
    (a__law_heard : PySem.W.nsIn K mainGlobals "_law_heard" = some (some (.ref f__law_heard)))
    (l__law_heard : K.lookup f__law_heard = some ⟨oc__law_heard, od__law_heard, .func (PySem.W.fnOf "_law_heard" "_law_heard" (defArgs s__law_heard) (defBody s__law_heard) (defScope s__law_heard) .none kV__law_heard dc__law_heard pm__law_heard an__law_heard cd__law_heard ct__law_heard), sl__law_heard⟩)
    (c__law_heard : PySem.W.codeIn K cd__law_heard "_law_heard" = true)
    (k__law_heard : PySem.W.keepIn K (.ref f__law_heard) = true)
    (a__law_refused_right : PySem.W.nsIn K mainGlobals "_law_refused_right" = some (some (.ref f__law_refused_right)))
    (l__law_refused_right : K.lookup f__law_refused_right = some ⟨oc__law_refused_right, od__law_refused_right, .func (PySem.W.fnOf "_law_refused_right" "_law_refused_right" (defArgs s__law_refused_right) (defBody s__law_refused_right) (defScope s__law_refused_right) .none kV__law_refused_right dc__law_refused_right pm__law_refused_right an__law_refused_right (.ref c) ct__law_refused_right), sl__law_refused_right⟩)
    (c__law_refused_right : PySem.W.codeIn K (.ref c) "_law_refused_right" = true)
    (k__law_refused_right : PySem.W.keepIn K (.ref f__law_refused_right) = true)
    (a_law : PySem.W.nsIn K mainGlobals "law" = some (some (.ref f_law)))
    (l_law : K.lookup f_law = some ⟨oc_law, od_law, .func (PySem.W.fnOf "law" "law" (defArgs s_law) (defBody s_law) (defScope s_law) .none kV_law dc_law pm_law an_law cd_law ct_law), sl_law⟩)
    (c_law : PySem.W.codeIn K cd_law "law" = true)
    (k_law : PySem.W.keepIn K (.ref f_law) = true)
    (aF : PySem.W.nsIn K mainGlobals "FlipError" = some (some (.ref CF)))
    (eF : PySem.W.subIn K (.ref CF) (.type "BaseException") = some true)
    (dF : PySem.W.hasDictIn K CF = true)
    (tF : PySem.W.typeIn K (.ref CF) = some (.type "type"))
    (a_BadNumber : PySem.W.nsIn K mainGlobals "BadNumber" = some (some (.ref C_BadNumber)))
    (x_BadNumber : K.lookup C_BadNumber = some (excClassObj nm_BadNumber q_BadNumber C_BadNumber N_BadNumber bs_BadNumber [.ref CF, .type "ValueError", .type "Exception", .type "BaseException", .type "object"] true sn_BadNumber sub_BadNumber ab_BadNumber col_BadNumber dd_BadNumber m0_BadNumber m1_BadNumber m2_BadNumber m3_BadNumber m5_BadNumber "ValueError.__new__"))
    (sa_BadNumber : PySem.W.findIn K (.ref C_BadNumber) "__setattr__" = some (some (.builtin "object.__setattr__")))
    (e_BadNumber : PySem.W.subIn K (.ref C_BadNumber) (.type "BaseException") = some true)
    (t_BadNumber : PySem.W.typeIn K (.ref C_BadNumber) = some (.type "type"))
    (k_BadNumber : PySem.W.keepIn K (.ref C_BadNumber) = true)
    (i_BadNumber : PySem.W.findIn K (.ref C_BadNumber) "__init__" = some (some (.ref fi_BadNumber)))
    (ti_BadNumber : PySem.W.typeIn K (.ref fi_BadNumber) = some (.type "function"))
    (li_BadNumber : K.lookup fi_BadNumber = some ⟨oi_BadNumber, odi_BadNumber, .func (PySem.W.fnOf "__init__" "BadNumber.__init__" (defArgs s_initN) (defBody s_initN) (defScope s_initN) .none kVi_BadNumber dci_BadNumber pmi_BadNumber ani_BadNumber cdi_BadNumber cti_BadNumber), sli_BadNumber⟩)
    (ci_BadNumber : PySem.W.codeIn K cdi_BadNumber "BadNumber.__init__" = true)
    (ki_BadNumber : PySem.W.keepIn K (.ref fi_BadNumber) = true)
    (no_BadNumber_part : PySem.W.findIn K (.ref C_BadNumber) "part" = some none)
    (ga_BadNumber : PySem.W.findIn K (.ref C_BadNumber) "__getattribute__" = some (some (.builtin "BaseException.__getattribute__")))
    (gg_BadNumber : PySem.W.findIn K (.ref C_BadNumber) "__getattr__" = some none)
    (hd_BadNumber : PySem.W.hasDictIn K C_BadNumber = true)
    (ha_BadNumber : PySem.W.findIn K (.ref C_BadNumber) "__class__" = some (some (.builtin "object.__class__")))
    (hm_BadNumber : PySem.W.mroIn K C_BadNumber (.type "object") = some true)
    (sf_BadNumber : PySem.W.subIn K (.ref C_BadNumber) (.ref CF) = some true)
    (is_BadNumber : PySem.W.isClsIn K C_BadNumber = true)
    (z_BadNumber : PySem.W.subIn K (.type "NoneType") (.ref C_BadNumber) = some false)
    (a_Misfit : PySem.W.nsIn K mainGlobals "Misfit" = some (some (.ref C_Misfit)))
    (x_Misfit : K.lookup C_Misfit = some (excClassObj nm_Misfit q_Misfit C_Misfit N_Misfit bs_Misfit [.ref CF, .type "ValueError", .type "Exception", .type "BaseException", .type "object"] true sn_Misfit sub_Misfit ab_Misfit col_Misfit dd_Misfit m0_Misfit m1_Misfit m2_Misfit m3_Misfit m5_Misfit "ValueError.__new__"))
    (sa_Misfit : PySem.W.findIn K (.ref C_Misfit) "__setattr__" = some (some (.builtin "object.__setattr__")))
    (e_Misfit : PySem.W.subIn K (.ref C_Misfit) (.type "BaseException") = some true)
    (t_Misfit : PySem.W.typeIn K (.ref C_Misfit) = some (.type "type"))
    (k_Misfit : PySem.W.keepIn K (.ref C_Misfit) = true)
    (i_Misfit : PySem.W.findIn K (.ref C_Misfit) "__init__" = some (some (.ref fi_Misfit)))
    (ti_Misfit : PySem.W.typeIn K (.ref fi_Misfit) = some (.type "function"))
    (li_Misfit : K.lookup fi_Misfit = some ⟨oi_Misfit, odi_Misfit, .func (PySem.W.fnOf "__init__" "Misfit.__init__" (defArgs s_initM) (defBody s_initM) (defScope s_initM) .none kVi_Misfit dci_Misfit pmi_Misfit ani_Misfit cdi_Misfit cti_Misfit), sli_Misfit⟩)
    (ci_Misfit : PySem.W.codeIn K cdi_Misfit "Misfit.__init__" = true)
    (ki_Misfit : PySem.W.keepIn K (.ref fi_Misfit) = true)
    (no_Misfit_part : PySem.W.findIn K (.ref C_Misfit) "part" = some none)
    (ga_Misfit : PySem.W.findIn K (.ref C_Misfit) "__getattribute__" = some (some (.builtin "BaseException.__getattribute__")))
    (gg_Misfit : PySem.W.findIn K (.ref C_Misfit) "__getattr__" = some none)
    (hd_Misfit : PySem.W.hasDictIn K C_Misfit = true)
    (ha_Misfit : PySem.W.findIn K (.ref C_Misfit) "__class__" = some (some (.builtin "object.__class__")))
    (hm_Misfit : PySem.W.mroIn K C_Misfit (.type "object") = some true)
    (sf_Misfit : PySem.W.subIn K (.ref C_Misfit) (.ref CF) = some true)
    (is_Misfit : PySem.W.isClsIn K C_Misfit = true)
    (z_Misfit : PySem.W.subIn K (.type "NoneType") (.ref C_Misfit) = some false)
    (a_TooMany : PySem.W.nsIn K mainGlobals "TooMany" = some (some (.ref C_TooMany)))
    (x_TooMany : K.lookup C_TooMany = some (excClassObj nm_TooMany q_TooMany C_TooMany N_TooMany bs_TooMany [.ref CF, .type "ValueError", .type "Exception", .type "BaseException", .type "object"] true sn_TooMany sub_TooMany ab_TooMany col_TooMany dd_TooMany m0_TooMany m1_TooMany m2_TooMany m3_TooMany m5_TooMany "ValueError.__new__"))
    (sa_TooMany : PySem.W.findIn K (.ref C_TooMany) "__setattr__" = some (some (.builtin "object.__setattr__")))
    (e_TooMany : PySem.W.subIn K (.ref C_TooMany) (.type "BaseException") = some true)
    (t_TooMany : PySem.W.typeIn K (.ref C_TooMany) = some (.type "type"))
    (k_TooMany : PySem.W.keepIn K (.ref C_TooMany) = true)
    (i_TooMany : PySem.W.findIn K (.ref C_TooMany) "__init__" = some (some (.ref fi_TooMany)))
    (ti_TooMany : PySem.W.typeIn K (.ref fi_TooMany) = some (.type "function"))
    (li_TooMany : K.lookup fi_TooMany = some ⟨oi_TooMany, odi_TooMany, .func (PySem.W.fnOf "__init__" "TooMany.__init__" (defArgs s_initT) (defBody s_initT) (defScope s_initT) .none kVi_TooMany dci_TooMany pmi_TooMany ani_TooMany cdi_TooMany cti_TooMany), sli_TooMany⟩)
    (ci_TooMany : PySem.W.codeIn K cdi_TooMany "TooMany.__init__" = true)
    (ki_TooMany : PySem.W.keepIn K (.ref fi_TooMany) = true)
    (no_TooMany_what : PySem.W.findIn K (.ref C_TooMany) "what" = some none)
    (no_TooMany_most : PySem.W.findIn K (.ref C_TooMany) "most" = some none)
    (ga_TooMany : PySem.W.findIn K (.ref C_TooMany) "__getattribute__" = some (some (.builtin "BaseException.__getattribute__")))
    (gg_TooMany : PySem.W.findIn K (.ref C_TooMany) "__getattr__" = some none)
    (hd_TooMany : PySem.W.hasDictIn K C_TooMany = true)
    (ha_TooMany : PySem.W.findIn K (.ref C_TooMany) "__class__" = some (some (.builtin "object.__class__")))
    (hm_TooMany : PySem.W.mroIn K C_TooMany (.type "object") = some true)
    (sf_TooMany : PySem.W.subIn K (.ref C_TooMany) (.ref CF) = some true)
    (is_TooMany : PySem.W.isClsIn K C_TooMany = true)
    (z_TooMany : PySem.W.subIn K (.type "NoneType") (.ref C_TooMany) = some false)
    (a_BadStore : PySem.W.nsIn K mainGlobals "BadStore" = some (some (.ref C_BadStore)))
    (x_BadStore : K.lookup C_BadStore = some (excClassObj nm_BadStore q_BadStore C_BadStore N_BadStore bs_BadStore [.ref CF, .type "ValueError", .type "Exception", .type "BaseException", .type "object"] true sn_BadStore sub_BadStore ab_BadStore col_BadStore dd_BadStore m0_BadStore m1_BadStore m2_BadStore m3_BadStore m5_BadStore "ValueError.__new__"))
    (sa_BadStore : PySem.W.findIn K (.ref C_BadStore) "__setattr__" = some (some (.builtin "object.__setattr__")))
    (e_BadStore : PySem.W.subIn K (.ref C_BadStore) (.type "BaseException") = some true)
    (t_BadStore : PySem.W.typeIn K (.ref C_BadStore) = some (.type "type"))
    (k_BadStore : PySem.W.keepIn K (.ref C_BadStore) = true)
    (i_BadStore : PySem.W.findIn K (.ref C_BadStore) "__init__" = some (some (.ref fi_BadStore)))
    (ti_BadStore : PySem.W.typeIn K (.ref fi_BadStore) = some (.type "function"))
    (li_BadStore : K.lookup fi_BadStore = some ⟨oi_BadStore, odi_BadStore, .func (PySem.W.fnOf "__init__" "BadStore.__init__" (defArgs s_initS) (defBody s_initS) (defScope s_initS) .none kVi_BadStore dci_BadStore pmi_BadStore ani_BadStore cdi_BadStore cti_BadStore), sli_BadStore⟩)
    (ci_BadStore : PySem.W.codeIn K cdi_BadStore "BadStore.__init__" = true)
    (ki_BadStore : PySem.W.keepIn K (.ref fi_BadStore) = true)
    (no_BadStore_part : PySem.W.findIn K (.ref C_BadStore) "part" = some none)
    (ga_BadStore : PySem.W.findIn K (.ref C_BadStore) "__getattribute__" = some (some (.builtin "BaseException.__getattribute__")))
    (gg_BadStore : PySem.W.findIn K (.ref C_BadStore) "__getattr__" = some none)
    (hd_BadStore : PySem.W.hasDictIn K C_BadStore = true)
    (ha_BadStore : PySem.W.findIn K (.ref C_BadStore) "__class__" = some (some (.builtin "object.__class__")))
    (hm_BadStore : PySem.W.mroIn K C_BadStore (.type "object") = some true)
    (sf_BadStore : PySem.W.subIn K (.ref C_BadStore) (.ref CF) = some true)
    (is_BadStore : PySem.W.isClsIn K C_BadStore = true)
    (z_BadStore : PySem.W.subIn K (.type "NoneType") (.ref C_BadStore) = some false)
    (sub_BadNumber_BadNumber : PySem.W.subIn K (.ref C_BadNumber) (.ref C_BadNumber) = some true)
    (sub_BadNumber_Misfit : PySem.W.subIn K (.ref C_BadNumber) (.ref C_Misfit) = some false)
    (sub_BadNumber_TooMany : PySem.W.subIn K (.ref C_BadNumber) (.ref C_TooMany) = some false)
    (sub_BadNumber_BadStore : PySem.W.subIn K (.ref C_BadNumber) (.ref C_BadStore) = some false)
    (sub_Misfit_BadNumber : PySem.W.subIn K (.ref C_Misfit) (.ref C_BadNumber) = some false)
    (sub_Misfit_Misfit : PySem.W.subIn K (.ref C_Misfit) (.ref C_Misfit) = some true)
    (sub_Misfit_TooMany : PySem.W.subIn K (.ref C_Misfit) (.ref C_TooMany) = some false)
    (sub_Misfit_BadStore : PySem.W.subIn K (.ref C_Misfit) (.ref C_BadStore) = some false)
    (sub_TooMany_BadNumber : PySem.W.subIn K (.ref C_TooMany) (.ref C_BadNumber) = some false)
    (sub_TooMany_Misfit : PySem.W.subIn K (.ref C_TooMany) (.ref C_Misfit) = some false)
    (sub_TooMany_TooMany : PySem.W.subIn K (.ref C_TooMany) (.ref C_TooMany) = some true)
    (sub_TooMany_BadStore : PySem.W.subIn K (.ref C_TooMany) (.ref C_BadStore) = some false)
    (sub_BadStore_BadNumber : PySem.W.subIn K (.ref C_BadStore) (.ref C_BadNumber) = some false)
    (sub_BadStore_Misfit : PySem.W.subIn K (.ref C_BadStore) (.ref C_Misfit) = some false)
    (sub_BadStore_TooMany : PySem.W.subIn K (.ref C_BadStore) (.ref C_TooMany) = some false)
    (sub_BadStore_BadStore : PySem.W.subIn K (.ref C_BadStore) (.ref C_BadStore) = some true)
    (spn : PySem.W.specialIn K (.builtin "object.__class__") "__get__" = some (some (.builtin "getset_descriptor.__get__")))
    (tkn : PySem.W.takesIn K (.builtin "object.__class__") = some true)
    (a_MOST_CELLS : PySem.W.nsIn K mainGlobals "MOST_CELLS" = some (some (.int 256 t_MOST_CELLS)))
    (a_MOST_SIZE : PySem.W.nsIn K mainGlobals "MOST_SIZE" = some (some (.int 48 t_MOST_SIZE)))
    (a_MOST_ROWS : PySem.W.nsIn K mainGlobals "MOST_ROWS" = some (some (.int 8 t_MOST_ROWS)))
    (a_comb : PySem.W.nsIn K mainGlobals "comb" = some (some (.builtin "math.comb")))
    (n_isinstance : PySem.W.nsIn K mainGlobals "isinstance" = some none)
    (n_int : PySem.W.nsIn K mainGlobals "int" = some none)
    (n_bool : PySem.W.nsIn K mainGlobals "bool" = some none)
    (n_len : PySem.W.nsIn K mainGlobals "len" = some none)
    (n_abs : PySem.W.nsIn K mainGlobals "abs" = some none)
    (n_range : PySem.W.nsIn K mainGlobals "range" = some none)
    (n_repr : PySem.W.nsIn K mainGlobals "repr" = some none)
    (n_min : PySem.W.nsIn K mainGlobals "min" = some none)
    (aCS : PySem.W.nsIn K mainGlobals "Store" = some (some (.ref C_S)))
    (a1S : PySem.W.findIn K (.ref C_S) "__init__" = some (some (.ref f_S)))
    (i1S : PySem.W.isFn K (.ref f_S) = true)
    (l1S : K.lookup f_S = some ⟨oc_S, od_S, .func (PySem.W.fnOf "__init__" "Store.__init__" (defArgs s_Store) (defBody s_Store) (defScope s_Store) .none kV_S dc_S pm_S an_S cd_S ct_S), sl_S⟩)
    (c1S : PySem.W.codeIn K cd_S "Store.__init__" = true)
    (k1S : PySem.W.keepIn K (.ref f_S) = true)
    (pgS : PySem.W.plainGet K C_S Str.empty = true)
    (hdS : PySem.W.hasDictIn K C_S = true)
    (poS : PySem.W.plainOver K C_S = true)
    (saS : PySem.W.findIn K (.ref C_S) "__setattr__" = some (some (.builtin "object.__setattr__")))
    (mkS : PySem.W.makesIn K C_S = true)
    (kcS : PySem.W.keepIn K (.ref C_S) = true)
    (nS1 : PySem.W.findIn K (.ref C_S) "cells" = some none)
    (nS2 : PySem.W.findIn K (.ref C_S) "size" = some none)
    (nS3 : PySem.W.findIn K (.ref C_S) "most" = some none)
    (nS4 : PySem.W.findIn K (.ref C_S) "place_bits" = some none)
    (nS5 : PySem.W.findIn K (.ref C_S) "bits" = some none)
    (l_code : K.lookup c = some ⟨.type "code", odC, .fields vsC, slC⟩)
    (v11 : vsC[11]? = some (.ref Pt))
    (hdc : PySem.W.codeHdIn K c Pt = true)
    (kPt : K.lookup Pt = none)
    (hPt : h.get? Pt = some { cls := .none, data := .fields #[] }) :
    OB.LawG l w K CX0 18 63 "script" mg fa h := by
  have efa := hfa.symm.trans (PySem.W.mg_of X G a_law)
  cases efa
  have D_is_integer : Df K mg "is_integer" s_is_integer ["value"] f_is_integer _ := ⟨fun_mk (st := s_is_integer) l_is_integer c_is_integer k_is_integer, PySem.W.mg_of X G a_is_integer, (fun_mk (st := s_is_integer) l_is_integer c_is_integer k_is_integer).binds (ps := ["value"]) fun _ _ _ _ _ _ us hl => match us, hl with | [_], _ => rfl⟩
  have D_is_within : Df K mg "is_within" s_is_within ["value", "least", "most"] f_is_within _ := ⟨fun_mk (st := s_is_within) l_is_within c_is_within k_is_within, PySem.W.mg_of X G a_is_within, (fun_mk (st := s_is_within) l_is_within c_is_within k_is_within).binds (ps := ["value", "least", "most"]) fun _ _ _ _ _ _ us hl => match us, hl with | [_, _, _], _ => rfl⟩
  have D_need_number : Df K mg "need_number" s_need_number ["value", "part", "least", "most"] f_need_number _ := ⟨fun_mk (st := s_need_number) l_need_number c_need_number k_need_number, PySem.W.mg_of X G a_need_number, (fun_mk (st := s_need_number) l_need_number c_need_number k_need_number).binds (ps := ["value", "part", "least", "most"]) fun _ _ _ _ _ _ us hl => match us, hl with | [_, _, _, _], _ => rfl⟩
  have D_fewest_enough : Df K mg "fewest_enough" s_fewest_enough ["states", "leads"] f_fewest_enough _ := ⟨fun_mk (st := s_fewest_enough) l_fewest_enough c_fewest_enough k_fewest_enough, PySem.W.mg_of X G a_fewest_enough, (fun_mk (st := s_fewest_enough) l_fewest_enough c_fewest_enough k_fewest_enough).binds (ps := ["states", "leads"]) fun _ _ _ _ _ _ us hl => match us, hl with | [_, _], _ => rfl⟩
  have D__are_enough : Df K mg "_are_enough" s__are_enough ["states", "leads", "bits"] f__are_enough _ := ⟨fun_mk (st := s__are_enough) l__are_enough c__are_enough k__are_enough, PySem.W.mg_of X G a__are_enough, (fun_mk (st := s__are_enough) l__are_enough c__are_enough k__are_enough).binds (ps := ["states", "leads", "bits"]) fun _ _ _ _ _ _ us hl => match us, hl with | [_, _, _], _ => rfl⟩
  have D_most_rows : Df K mg "most_rows" s_most_rows ["cells"] f_most_rows _ := ⟨fun_mk (st := s_most_rows) l_most_rows c_most_rows k_most_rows, PySem.W.mg_of X G a_most_rows, (fun_mk (st := s_most_rows) l_most_rows c_most_rows k_most_rows).binds (ps := ["cells"]) fun _ _ _ _ _ _ us hl => match us, hl with | [_], _ => rfl⟩
  have D_changes_of : Df K mg "changes_of" s_changes_of ["cells", "size", "most"] f_changes_of _ := ⟨fun_mk (st := s_changes_of) l_changes_of c_changes_of k_changes_of, PySem.W.mg_of X G a_changes_of, (fun_mk (st := s_changes_of) l_changes_of c_changes_of k_changes_of).binds (ps := ["cells", "size", "most"]) fun _ _ _ _ _ _ us hl => match us, hl with | [_, _, _], _ => rfl⟩
  have D_store_least : Df K mg "store_least" s_store_least ["cells", "size", "most"] f_store_least _ := ⟨fun_mk (st := s_store_least) l_store_least c_store_least k_store_least, PySem.W.mg_of X G a_store_least, (fun_mk (st := s_store_least) l_store_least c_store_least k_store_least).binds (ps := ["cells", "size", "most"]) fun _ _ _ _ _ _ us hl => match us, hl with | [_, _, _], _ => rfl⟩
  have D_spare_bits : Df K mg "spare_bits" s_spare_bits ["cells", "size", "most"] f_spare_bits _ := ⟨fun_mk (st := s_spare_bits) l_spare_bits c_spare_bits k_spare_bits, PySem.W.mg_of X G a_spare_bits, (fun_mk (st := s_spare_bits) l_spare_bits c_spare_bits k_spare_bits).binds (ps := ["cells", "size", "most"]) fun _ _ _ _ _ _ us hl => match us, hl with | [_, _, _], _ => rfl⟩
  have D__need_room : Df K mg "_need_room" s__need_room ["cells", "size", "most"] f__need_room _ := ⟨fun_mk (st := s__need_room) l__need_room c__need_room k__need_room, PySem.W.mg_of X G a__need_room, (fun_mk (st := s__need_room) l__need_room c__need_room k__need_room).binds (ps := ["cells", "size", "most"]) fun _ _ _ _ _ _ us hl => match us, hl with | [_, _, _], _ => rfl⟩
  have D__law_shed : Df K mg "_law_shed" s__law_shed ["script"] f__law_shed _ := ⟨fun_mk (st := s__law_shed) l__law_shed c__law_shed k__law_shed, PySem.W.mg_of X G a__law_shed, (fun_mk (st := s__law_shed) l__law_shed c__law_shed k__law_shed).binds (ps := ["script"]) fun _ _ _ _ _ _ us hl => match us, hl with | [_], _ => rfl⟩
  have D__law_stack : Df K mg "_law_stack" s__law_stack ["shed", "many"] f__law_stack _ := ⟨fun_mk (st := s__law_stack) l__law_stack c__law_stack k__law_stack, PySem.W.mg_of X G a__law_stack, (fun_mk (st := s__law_stack) l__law_stack c__law_stack k__law_stack).binds (ps := ["shed", "many"]) fun _ _ _ _ _ _ us hl => match us, hl with | [_, _], _ => rfl⟩
  have D__law_any : Df K mg "_law_any" s__law_any ["shed", "some"] f__law_any _ := ⟨fun_mk (st := s__law_any) l__law_any c__law_any k__law_any, PySem.W.mg_of X G a__law_any, (fun_mk (st := s__law_any) l__law_any c__law_any k__law_any).binds (ps := ["shed", "some"]) fun _ _ _ _ _ _ us hl => match us, hl with | [_, _], _ => rfl⟩
  have D__law_digits : Df K mg "_law_digits" s__law_digits ["state", "cells", "size"] f__law_digits _ := ⟨fun_mk (st := s__law_digits) l__law_digits c__law_digits k__law_digits, PySem.W.mg_of X G a__law_digits, (fun_mk (st := s__law_digits) l__law_digits c__law_digits k__law_digits).binds (ps := ["state", "cells", "size"]) fun _ _ _ _ _ _ us hl => match us, hl with | [_, _, _], _ => rfl⟩
  have D__law_by_trial : Df K mg "_law_by_trial" s__law_by_trial ["cells", "size", "most"] f__law_by_trial _ := ⟨fun_mk (st := s__law_by_trial) l__law_by_trial c__law_by_trial k__law_by_trial, PySem.W.mg_of X G a__law_by_trial, (fun_mk (st := s__law_by_trial) l__law_by_trial c__law_by_trial k__law_by_trial).binds (ps := ["cells", "size", "most"]) fun _ _ _ _ _ _ us hl => match us, hl with | [_, _, _], _ => rfl⟩
  have D__law_changes : Df K mg "_law_changes" s__law_changes ["cells", "size", "most"] f__law_changes _ := ⟨fun_mk (st := s__law_changes) l__law_changes c__law_changes k__law_changes, PySem.W.mg_of X G a__law_changes, (fun_mk (st := s__law_changes) l__law_changes c__law_changes k__law_changes).binds (ps := ["cells", "size", "most"]) fun _ _ _ _ _ _ us hl => match us, hl with | [_, _, _], _ => rfl⟩
  have D__law_least : Df K mg "_law_least" s__law_least ["cells", "size", "most"] f__law_least _ := ⟨fun_mk (st := s__law_least) l__law_least c__law_least k__law_least, PySem.W.mg_of X G a__law_least, (fun_mk (st := s__law_least) l__law_least c__law_least k__law_least).binds (ps := ["cells", "size", "most"]) fun _ _ _ _ _ _ us hl => match us, hl with | [_, _, _], _ => rfl⟩
  have D__law_bits : Df K mg "_law_bits" s__law_bits ["cells", "size", "most"] f__law_bits _ := ⟨fun_mk (st := s__law_bits) l__law_bits c__law_bits k__law_bits, PySem.W.mg_of X G a__law_bits, (fun_mk (st := s__law_bits) l__law_bits c__law_bits k__law_bits).binds (ps := ["cells", "size", "most"]) fun _ _ _ _ _ _ us hl => match us, hl with | [_, _, _], _ => rfl⟩
  have D__law_drawn : Df K mg "_law_drawn" s__law_drawn ["shed"] f__law_drawn _ := ⟨fun_mk (st := s__law_drawn) l__law_drawn c__law_drawn k__law_drawn, PySem.W.mg_of X G a__law_drawn, (fun_mk (st := s__law_drawn) l__law_drawn c__law_drawn k__law_drawn).binds (ps := ["shed"]) fun _ _ _ _ _ _ us hl => match us, hl with | [_], _ => rfl⟩
  have D__law_room_right : Df K mg "_law_room_right" s__law_room_right ["cells", "size", "most"] f__law_room_right _ := ⟨fun_mk (st := s__law_room_right) l__law_room_right c__law_room_right k__law_room_right, PySem.W.mg_of X G a__law_room_right, (fun_mk (st := s__law_room_right) l__law_room_right c__law_room_right k__law_room_right).binds (ps := ["cells", "size", "most"]) fun _ _ _ _ _ _ us hl => match us, hl with | [_, _, _], _ => rfl⟩
  have D__law_heard : Df K mg "_law_heard" s__law_heard ["ask"] f__law_heard _ := ⟨fun_mk (st := s__law_heard) l__law_heard c__law_heard k__law_heard, PySem.W.mg_of X G a__law_heard, (fun_mk (st := s__law_heard) l__law_heard c__law_heard k__law_heard).binds (ps := ["ask"]) fun _ _ _ _ _ _ us hl => match us, hl with | [_], _ => rfl⟩
  have D__law_refused_right : Df K mg "_law_refused_right" s__law_refused_right ["shed"] f__law_refused_right _ := ⟨fun_mk (st := s__law_refused_right) l__law_refused_right c__law_refused_right k__law_refused_right, PySem.W.mg_of X G a__law_refused_right, (fun_mk (st := s__law_refused_right) l__law_refused_right c__law_refused_right k__law_refused_right).binds (ps := ["shed"]) fun _ _ _ _ _ _ us hl => match us, hl with | [_], _ => rfl⟩
  have FI_BadNumber := fun_mk (st := s_initN) li_BadNumber ci_BadNumber ki_BadNumber
  have BI_BadNumber := FI_BadNumber.binds (ps := ["self", "part"]) fun _ _ _ _ _ _ us hl => match us, hl with | [_, _], _ => rfl
  have O_BadNumber : OexC K C_BadNumber := ⟨⟨_, _, _, _, _, _, _, _, _, _, _, _, _, _, _, x_BadNumber, by rfl⟩, sa_BadNumber, e_BadNumber, t_BadNumber, k_BadNumber⟩
  have XF_BadNumber : XfC K C_BadNumber := ⟨ga_BadNumber, gg_BadNumber, e_BadNumber, hd_BadNumber⟩
  have EC_BadNumber : ExcC K C_BadNumber := ⟨ga_BadNumber, gg_BadNumber, e_BadNumber, hd_BadNumber, ha_BadNumber, spn, tkn, hm_BadNumber⟩
  have EX_BadNumber : PySem.W.exmOne K (.ref C_BadNumber) (.ref CF) = some true := PySem.W.exm_ref eF dF tF sf_BadNumber
  have kit_BadNumber_BadNumber : PySem.W.kitOne K (.ref C_BadNumber) (.ref C_BadNumber) = some true := kit_sub is_BadNumber t_BadNumber sub_BadNumber_BadNumber sub_BadNumber_BadNumber
  have kit_Misfit_BadNumber : PySem.W.kitOne K (.ref C_Misfit) (.ref C_BadNumber) = some false := kit_sub is_BadNumber t_BadNumber sub_BadNumber_BadNumber sub_Misfit_BadNumber
  have kit_TooMany_BadNumber : PySem.W.kitOne K (.ref C_TooMany) (.ref C_BadNumber) = some false := kit_sub is_BadNumber t_BadNumber sub_BadNumber_BadNumber sub_TooMany_BadNumber
  have kit_BadStore_BadNumber : PySem.W.kitOne K (.ref C_BadStore) (.ref C_BadNumber) = some false := kit_sub is_BadNumber t_BadNumber sub_BadNumber_BadNumber sub_BadStore_BadNumber
  have kz_BadNumber : PySem.W.kitOne K (.type "NoneType") (.ref C_BadNumber) = some false := kit_sub is_BadNumber t_BadNumber sub_BadNumber_BadNumber z_BadNumber
  have g_BadNumber : mg "BadNumber" = some (.ref C_BadNumber) := PySem.W.mg_of X G a_BadNumber
  have FI_Misfit := fun_mk (st := s_initM) li_Misfit ci_Misfit ki_Misfit
  have BI_Misfit := FI_Misfit.binds (ps := ["self", "part"]) fun _ _ _ _ _ _ us hl => match us, hl with | [_, _], _ => rfl
  have O_Misfit : OexC K C_Misfit := ⟨⟨_, _, _, _, _, _, _, _, _, _, _, _, _, _, _, x_Misfit, by rfl⟩, sa_Misfit, e_Misfit, t_Misfit, k_Misfit⟩
  have XF_Misfit : XfC K C_Misfit := ⟨ga_Misfit, gg_Misfit, e_Misfit, hd_Misfit⟩
  have EC_Misfit : ExcC K C_Misfit := ⟨ga_Misfit, gg_Misfit, e_Misfit, hd_Misfit, ha_Misfit, spn, tkn, hm_Misfit⟩
  have EX_Misfit : PySem.W.exmOne K (.ref C_Misfit) (.ref CF) = some true := PySem.W.exm_ref eF dF tF sf_Misfit
  have kit_BadNumber_Misfit : PySem.W.kitOne K (.ref C_BadNumber) (.ref C_Misfit) = some false := kit_sub is_Misfit t_Misfit sub_Misfit_Misfit sub_BadNumber_Misfit
  have kit_Misfit_Misfit : PySem.W.kitOne K (.ref C_Misfit) (.ref C_Misfit) = some true := kit_sub is_Misfit t_Misfit sub_Misfit_Misfit sub_Misfit_Misfit
  have kit_TooMany_Misfit : PySem.W.kitOne K (.ref C_TooMany) (.ref C_Misfit) = some false := kit_sub is_Misfit t_Misfit sub_Misfit_Misfit sub_TooMany_Misfit
  have kit_BadStore_Misfit : PySem.W.kitOne K (.ref C_BadStore) (.ref C_Misfit) = some false := kit_sub is_Misfit t_Misfit sub_Misfit_Misfit sub_BadStore_Misfit
  have kz_Misfit : PySem.W.kitOne K (.type "NoneType") (.ref C_Misfit) = some false := kit_sub is_Misfit t_Misfit sub_Misfit_Misfit z_Misfit
  have g_Misfit : mg "Misfit" = some (.ref C_Misfit) := PySem.W.mg_of X G a_Misfit
  have FI_TooMany := fun_mk (st := s_initT) li_TooMany ci_TooMany ki_TooMany
  have BI_TooMany := FI_TooMany.binds (ps := ["self", "what", "most"]) fun _ _ _ _ _ _ us hl => match us, hl with | [_, _, _], _ => rfl
  have O_TooMany : OexC K C_TooMany := ⟨⟨_, _, _, _, _, _, _, _, _, _, _, _, _, _, _, x_TooMany, by rfl⟩, sa_TooMany, e_TooMany, t_TooMany, k_TooMany⟩
  have XF_TooMany : XfC K C_TooMany := ⟨ga_TooMany, gg_TooMany, e_TooMany, hd_TooMany⟩
  have EC_TooMany : ExcC K C_TooMany := ⟨ga_TooMany, gg_TooMany, e_TooMany, hd_TooMany, ha_TooMany, spn, tkn, hm_TooMany⟩
  have EX_TooMany : PySem.W.exmOne K (.ref C_TooMany) (.ref CF) = some true := PySem.W.exm_ref eF dF tF sf_TooMany
  have kit_BadNumber_TooMany : PySem.W.kitOne K (.ref C_BadNumber) (.ref C_TooMany) = some false := kit_sub is_TooMany t_TooMany sub_TooMany_TooMany sub_BadNumber_TooMany
  have kit_Misfit_TooMany : PySem.W.kitOne K (.ref C_Misfit) (.ref C_TooMany) = some false := kit_sub is_TooMany t_TooMany sub_TooMany_TooMany sub_Misfit_TooMany
  have kit_TooMany_TooMany : PySem.W.kitOne K (.ref C_TooMany) (.ref C_TooMany) = some true := kit_sub is_TooMany t_TooMany sub_TooMany_TooMany sub_TooMany_TooMany
  have kit_BadStore_TooMany : PySem.W.kitOne K (.ref C_BadStore) (.ref C_TooMany) = some false := kit_sub is_TooMany t_TooMany sub_TooMany_TooMany sub_BadStore_TooMany
  have kz_TooMany : PySem.W.kitOne K (.type "NoneType") (.ref C_TooMany) = some false := kit_sub is_TooMany t_TooMany sub_TooMany_TooMany z_TooMany
  have g_TooMany : mg "TooMany" = some (.ref C_TooMany) := PySem.W.mg_of X G a_TooMany
  have FI_BadStore := fun_mk (st := s_initS) li_BadStore ci_BadStore ki_BadStore
  have BI_BadStore := FI_BadStore.binds (ps := ["self", "part"]) fun _ _ _ _ _ _ us hl => match us, hl with | [_, _], _ => rfl
  have O_BadStore : OexC K C_BadStore := ⟨⟨_, _, _, _, _, _, _, _, _, _, _, _, _, _, _, x_BadStore, by rfl⟩, sa_BadStore, e_BadStore, t_BadStore, k_BadStore⟩
  have XF_BadStore : XfC K C_BadStore := ⟨ga_BadStore, gg_BadStore, e_BadStore, hd_BadStore⟩
  have EC_BadStore : ExcC K C_BadStore := ⟨ga_BadStore, gg_BadStore, e_BadStore, hd_BadStore, ha_BadStore, spn, tkn, hm_BadStore⟩
  have EX_BadStore : PySem.W.exmOne K (.ref C_BadStore) (.ref CF) = some true := PySem.W.exm_ref eF dF tF sf_BadStore
  have kit_BadNumber_BadStore : PySem.W.kitOne K (.ref C_BadNumber) (.ref C_BadStore) = some false := kit_sub is_BadStore t_BadStore sub_BadStore_BadStore sub_BadNumber_BadStore
  have kit_Misfit_BadStore : PySem.W.kitOne K (.ref C_Misfit) (.ref C_BadStore) = some false := kit_sub is_BadStore t_BadStore sub_BadStore_BadStore sub_Misfit_BadStore
  have kit_TooMany_BadStore : PySem.W.kitOne K (.ref C_TooMany) (.ref C_BadStore) = some false := kit_sub is_BadStore t_BadStore sub_BadStore_BadStore sub_TooMany_BadStore
  have kit_BadStore_BadStore : PySem.W.kitOne K (.ref C_BadStore) (.ref C_BadStore) = some true := kit_sub is_BadStore t_BadStore sub_BadStore_BadStore sub_BadStore_BadStore
  have kz_BadStore : PySem.W.kitOne K (.type "NoneType") (.ref C_BadStore) = some false := kit_sub is_BadStore t_BadStore sub_BadStore_BadStore z_BadStore
  have g_BadStore : mg "BadStore" = some (.ref C_BadStore) := PySem.W.mg_of X G a_BadStore
  have T : Blt mg := ⟨⟨_, PySem.W.mg_of X G a_MOST_CELLS⟩, ⟨_, PySem.W.mg_of X G a_MOST_SIZE⟩, ⟨_, PySem.W.mg_of X G a_MOST_ROWS⟩, PySem.W.mg_of X G a_comb, PySem.W.mg_none_of X G n_isinstance, PySem.W.mg_none_of X G n_int, PySem.W.mg_none_of X G n_bool, PySem.W.mg_none_of X G n_len, PySem.W.mg_none_of X G n_abs, PySem.W.mg_none_of X G n_range, PySem.W.mg_none_of X G n_repr, PySem.W.mg_none_of X G n_min⟩
  refine ⟨PySem.W.fnOf "law" "law" (defArgs s_law) (defBody s_law) (defScope s_law) .none kV_law dc_law pm_law an_law cd_law ct_law, [(c, Pt)], spLaw K Pt, ⟨fun p hp => ?_, fun p hp => ?_, fun p hp => ?_⟩, fun s u => .of_eq rfl, fun H a ns hl _ hP hS => ⟨a, ns, rfl, hS, hl, hP _ List.mem_cons_self, fun _ => rfl⟩, fun base hK hG hTB => ?_⟩
  · rw [List.mem_singleton.mp hp]
    exact hPt
  · rw [List.mem_singleton.mp hp]
    exact kPt
  · rw [List.mem_singleton.mp hp]
    exact PySem.W.codeHd_of_K X hdc
  · have R_BadNumber : Err l.prog w K mg base "BadNumber" "part" C_BadNumber fi_BadNumber _ := ⟨O_BadNumber, i_BadNumber, ti_BadNumber, ok_init1 FI_BadNumber sc_initN rfl (.inl rfl) (.inl rfl), BI_BadNumber, g_BadNumber, no_BadNumber_part⟩
    have R_BadStore : Err l.prog w K mg base "BadStore" "part" C_BadStore fi_BadStore _ := ⟨O_BadStore, i_BadStore, ti_BadStore, ok_init1 FI_BadStore sc_initS rfl (.inl rfl) (.inl rfl), BI_BadStore, g_BadStore, no_BadStore_part⟩
    have Z : Kinds K mg CF C_BadNumber C_Misfit C_TooMany := ⟨PySem.W.mg_of X G aF, g_BadNumber, g_Misfit, g_TooMany, ⟨XF_BadNumber, EC_BadNumber, EX_BadNumber, no_BadNumber_part⟩, ⟨XF_Misfit, EC_Misfit, EX_Misfit, no_Misfit_part⟩, kit_BadNumber_BadNumber, kit_BadNumber_Misfit, kit_Misfit_BadNumber, kit_Misfit_Misfit, kz_BadNumber, kz_Misfit, kz_TooMany⟩
    have ZS : StoreC K mg C_S f_S := ⟨⟨pgS, hdS, poS, saS⟩, nS1, nS2, nS3, nS4, nS5, PySem.W.mg_of X G aCS, ⟨mkS, a1S, i1S, kcS⟩⟩
    have FS := fun_mk (st := s_Store) l1S c1S k1S
    have bS := FS.binds (ps := ["self", "cells", "size", "most"]) fun _ _ _ _ _ _ us hl => match us, hl with | [_, _, _, _], _ => rfl
    have GX_Store := ok_Store_init FS T ZS D_is_within D_is_integer D_most_rows R_BadStore
    have G_need_number := ok_need_number D_need_number.F D_is_within D_is_integer T R_BadNumber
    have G__need_room := ok__need_room D__need_room.F T D_need_number G_need_number D_most_rows
    have GX_changes_of := ok_changes_of D_changes_of.F T D__need_room G__need_room
    have GX_store_least := ok_store_least D_store_least.F T D_changes_of GX_changes_of D_fewest_enough D__are_enough
    have GX_spare_bits := ok_spare_bits D_spare_bits.F T ZS D_store_least GX_store_least bS GX_Store
    have G__law_shed : FnOk l.prog w K mg base CX0 1 f__law_shed _ ["script"] (spLot K) := ok__law_shed D__law_shed.F T
    have G__law_room_right := ok__law_room_right D__law_room_right.F T D_changes_of GX_changes_of D_store_least GX_store_least D_spare_bits GX_spare_bits D__law_changes D__law_least D__law_bits
    have G__law_refused_right := ok__law_refused_right (P := l.prog) (w := w) T l__law_refused_right c__law_refused_right (hTB _ List.mem_cons_self) Z D__law_stack D__law_any D__law_heard D_changes_of GX_changes_of D_store_least GX_store_least D_spare_bits GX_spare_bits
    exact ok_law T l_law c_law D__law_shed G__law_shed D__law_stack D__law_any D__law_drawn D__law_by_trial D__law_digits D__law_room_right G__law_room_right D__law_refused_right G__law_refused_right D_changes_of GX_changes_of
end K40
open PySem PySem.W PyProof.Rows
set_option maxRecDepth 100000 in
set_option maxHeartbeats 0 in
theorem PySem.Challenge.cw_oneflip_k40_room_of_stores_holds : PySem.Challenge.rw_oneflip_k40_room_of_stores.Holds := by
  w_on; o_law; k_head; (case hw => w_witness2)
  k_fill
  refine OB.walk_G (l := PySem.Challenge.rw_oneflip_k40_room_of_stores) (n := 63) (k := 18) (x := "script") (CX := fun _ => L2.CX0) rfl (by decide) rfl ⟨rfl, by decide, by decide⟩ (fun w h Y => PySem.W.km_in_of Y) ?F (fun _ _ _ _ _ z => z)
  case F =>
    intro w mg fa h Y KX G hmg
    refine' K40.all_mk KX G hmg ?a_is_integer ?l_is_integer ?c_is_integer ?k_is_integer ?a_is_within ?l_is_within ?c_is_within ?k_is_within ?a_need_number ?l_need_number ?c_need_number ?k_need_number ?a_fewest_enough ?l_fewest_enough ?c_fewest_enough ?k_fewest_enough ?a__are_enough ?l__are_enough ?c__are_enough ?k__are_enough ?a_most_rows ?l_most_rows ?c_most_rows ?k_most_rows ?a_changes_of ?l_changes_of ?c_changes_of ?k_changes_of ?a_store_least ?l_store_least ?c_store_least ?k_store_least ?a_spare_bits ?l_spare_bits ?c_spare_bits ?k_spare_bits ?a__need_room ?l__need_room ?c__need_room ?k__need_room ?a__law_shed ?l__law_shed ?c__law_shed ?k__law_shed ?a__law_stack ?l__law_stack ?c__law_stack ?k__law_stack ?a__law_any ?l__law_any ?c__law_any ?k__law_any ?a__law_digits ?l__law_digits ?c__law_digits ?k__law_digits ?a__law_by_trial ?l__law_by_trial ?c__law_by_trial ?k__law_by_trial ?a__law_changes ?l__law_changes ?c__law_changes ?k__law_changes ?a__law_least ?l__law_least ?c__law_least ?k__law_least ?a__law_bits ?l__law_bits ?c__law_bits ?k__law_bits ?a__law_drawn ?l__law_drawn ?c__law_drawn ?k__law_drawn ?a__law_room_right ?l__law_room_right ?c__law_room_right ?k__law_room_right ?a__law_heard ?l__law_heard ?c__law_heard ?k__law_heard ?a__law_refused_right ?l__law_refused_right ?c__law_refused_right ?k__law_refused_right ?a_law ?l_law ?c_law ?k_law ?aF ?eF ?dF ?tF ?a_BadNumber ?x_BadNumber ?sa_BadNumber ?e_BadNumber ?t_BadNumber ?k_BadNumber ?i_BadNumber ?ti_BadNumber ?li_BadNumber ?ci_BadNumber ?ki_BadNumber ?no_BadNumber_part ?ga_BadNumber ?gg_BadNumber ?hd_BadNumber ?ha_BadNumber ?hm_BadNumber ?sf_BadNumber ?is_BadNumber ?z_BadNumber ?a_Misfit ?x_Misfit ?sa_Misfit ?e_Misfit ?t_Misfit ?k_Misfit ?i_Misfit ?ti_Misfit ?li_Misfit ?ci_Misfit ?ki_Misfit ?no_Misfit_part ?ga_Misfit ?gg_Misfit ?hd_Misfit ?ha_Misfit ?hm_Misfit ?sf_Misfit ?is_Misfit ?z_Misfit ?a_TooMany ?x_TooMany ?sa_TooMany ?e_TooMany ?t_TooMany ?k_TooMany ?i_TooMany ?ti_TooMany ?li_TooMany ?ci_TooMany ?ki_TooMany ?no_TooMany_what ?no_TooMany_most ?ga_TooMany ?gg_TooMany ?hd_TooMany ?ha_TooMany ?hm_TooMany ?sf_TooMany ?is_TooMany ?z_TooMany ?a_BadStore ?x_BadStore ?sa_BadStore ?e_BadStore ?t_BadStore ?k_BadStore ?i_BadStore ?ti_BadStore ?li_BadStore ?ci_BadStore ?ki_BadStore ?no_BadStore_part ?ga_BadStore ?gg_BadStore ?hd_BadStore ?ha_BadStore ?hm_BadStore ?sf_BadStore ?is_BadStore ?z_BadStore ?sub_BadNumber_BadNumber ?sub_BadNumber_Misfit ?sub_BadNumber_TooMany ?sub_BadNumber_BadStore ?sub_Misfit_BadNumber ?sub_Misfit_Misfit ?sub_Misfit_TooMany ?sub_Misfit_BadStore ?sub_TooMany_BadNumber ?sub_TooMany_Misfit ?sub_TooMany_TooMany ?sub_TooMany_BadStore ?sub_BadStore_BadNumber ?sub_BadStore_Misfit ?sub_BadStore_TooMany ?sub_BadStore_BadStore ?spn ?tkn ?a_MOST_CELLS ?a_MOST_SIZE ?a_MOST_ROWS ?a_comb ?n_isinstance ?n_int ?n_bool ?n_len ?n_abs ?n_range ?n_repr ?n_min ?aCS ?a1S ?i1S ?l1S ?c1S ?k1S ?pgS ?hdS ?poS ?saS ?mkS ?kcS ?nS1 ?nS2 ?nS3 ?nS4 ?nS5 ?l_code ?v11 ?hdc ?kPt ?hPt
    (case a_is_integer => k_is)
    (case l_is_integer => k_is)
    (case c_is_integer => k_is)
    (case k_is_integer => k_is)
    (case a_is_within => k_is)
    (case l_is_within => k_is)
    (case c_is_within => k_is)
    (case k_is_within => k_is)
    (case a_need_number => k_is)
    (case l_need_number => k_is)
    (case c_need_number => k_is)
    (case k_need_number => k_is)
    (case a_fewest_enough => k_is)
    (case l_fewest_enough => k_is)
    (case c_fewest_enough => k_is)
    (case k_fewest_enough => k_is)
    (case a__are_enough => k_is)
    (case l__are_enough => k_is)
    (case c__are_enough => k_is)
    (case k__are_enough => k_is)
    (case a_most_rows => k_is)
    (case l_most_rows => k_is)
    (case c_most_rows => k_is)
    (case k_most_rows => k_is)
    (case a_changes_of => k_is)
    (case l_changes_of => k_is)
    (case c_changes_of => k_is)
    (case k_changes_of => k_is)
    (case a_store_least => k_is)
    (case l_store_least => k_is)
    (case c_store_least => k_is)
    (case k_store_least => k_is)
    (case a_spare_bits => k_is)
    (case l_spare_bits => k_is)
    (case c_spare_bits => k_is)
    (case k_spare_bits => k_is)
    (case a__need_room => k_is)
    (case l__need_room => k_is)
    (case c__need_room => k_is)
    (case k__need_room => k_is)
    (case a__law_shed => k_is)
    (case l__law_shed => k_is)
    (case c__law_shed => k_is)
    (case k__law_shed => k_is)
    (case a__law_stack => k_is)
    (case l__law_stack => k_is)
    (case c__law_stack => k_is)
    (case k__law_stack => k_is)
    (case a__law_any => k_is)
    (case l__law_any => k_is)
    (case c__law_any => k_is)
    (case k__law_any => k_is)
    (case a__law_digits => k_is)
    (case l__law_digits => k_is)
    (case c__law_digits => k_is)
    (case k__law_digits => k_is)
    (case a__law_by_trial => k_is)
    (case l__law_by_trial => k_is)
    (case c__law_by_trial => k_is)
    (case k__law_by_trial => k_is)
    (case a__law_changes => k_is)
    (case l__law_changes => k_is)
    (case c__law_changes => k_is)
    (case k__law_changes => k_is)
    (case a__law_least => k_is)
    (case l__law_least => k_is)
    (case c__law_least => k_is)
    (case k__law_least => k_is)
    (case a__law_bits => k_is)
    (case l__law_bits => k_is)
    (case c__law_bits => k_is)
    (case k__law_bits => k_is)
    (case a__law_drawn => k_is)
    (case l__law_drawn => k_is)
    (case c__law_drawn => k_is)
    (case k__law_drawn => k_is)
    (case a__law_room_right => k_is)
    (case l__law_room_right => k_is)
    (case c__law_room_right => k_is)
    (case k__law_room_right => k_is)
    (case a__law_heard => k_is)
    (case l__law_heard => k_is)
    (case c__law_heard => k_is)
    (case k__law_heard => k_is)
    (case a__law_refused_right => k_is)
    (case l__law_refused_right => k_is)
    (case c__law_refused_right => k_is)
    (case k__law_refused_right => k_is)
    (case a_law => k_is)
    (case l_law => k_is)
    (case c_law => k_is)
    (case k_law => k_is)
    (case aF => k_is)
    (case eF => k_is)
    (case dF => k_is)
    (case tF => k_is)
    (case a_BadNumber => k_is)
    (case x_BadNumber => k_is)
    (case sa_BadNumber => k_is)
    (case e_BadNumber => k_is)
    (case t_BadNumber => k_is)
    (case k_BadNumber => k_is)
    (case i_BadNumber => k_is)
    (case ti_BadNumber => k_is)
    (case li_BadNumber => k_is)
    (case ci_BadNumber => k_is)
    (case ki_BadNumber => k_is)
    (case no_BadNumber_part => k_is)
    (case ga_BadNumber => k_is)
    (case gg_BadNumber => k_is)
    (case hd_BadNumber => k_is)
    (case ha_BadNumber => k_is)
    (case hm_BadNumber => k_is)
    (case sf_BadNumber => k_is)
    (case is_BadNumber => k_is)
    (case z_BadNumber => k_is)
    (case a_Misfit => k_is)
    (case x_Misfit => k_is)
    (case sa_Misfit => k_is)
    (case e_Misfit => k_is)
    (case t_Misfit => k_is)
    (case k_Misfit => k_is)
    (case i_Misfit => k_is)
    (case ti_Misfit => k_is)
    (case li_Misfit => k_is)
    (case ci_Misfit => k_is)
    (case ki_Misfit => k_is)
    (case no_Misfit_part => k_is)
    (case ga_Misfit => k_is)
    (case gg_Misfit => k_is)
    (case hd_Misfit => k_is)
    (case ha_Misfit => k_is)
    (case hm_Misfit => k_is)
    (case sf_Misfit => k_is)
    (case is_Misfit => k_is)
    (case z_Misfit => k_is)
    (case a_TooMany => k_is)
    (case x_TooMany => k_is)
    (case sa_TooMany => k_is)
    (case e_TooMany => k_is)
    (case t_TooMany => k_is)
    (case k_TooMany => k_is)
    (case i_TooMany => k_is)
    (case ti_TooMany => k_is)
    (case li_TooMany => k_is)
    (case ci_TooMany => k_is)
    (case ki_TooMany => k_is)
    (case no_TooMany_what => k_is)
    (case no_TooMany_most => k_is)
    (case ga_TooMany => k_is)
    (case gg_TooMany => k_is)
    (case hd_TooMany => k_is)
    (case ha_TooMany => k_is)
    (case hm_TooMany => k_is)
    (case sf_TooMany => k_is)
    (case is_TooMany => k_is)
    (case z_TooMany => k_is)
    (case a_BadStore => k_is)
    (case x_BadStore => k_is)
    (case sa_BadStore => k_is)
    (case e_BadStore => k_is)
    (case t_BadStore => k_is)
    (case k_BadStore => k_is)
    (case i_BadStore => k_is)
    (case ti_BadStore => k_is)
    (case li_BadStore => k_is)
    (case ci_BadStore => k_is)
    (case ki_BadStore => k_is)
    (case no_BadStore_part => k_is)
    (case ga_BadStore => k_is)
    (case gg_BadStore => k_is)
    (case hd_BadStore => k_is)
    (case ha_BadStore => k_is)
    (case hm_BadStore => k_is)
    (case sf_BadStore => k_is)
    (case is_BadStore => k_is)
    (case z_BadStore => k_is)
    (case sub_BadNumber_BadNumber => k_is)
    (case sub_BadNumber_Misfit => k_is)
    (case sub_BadNumber_TooMany => k_is)
    (case sub_BadNumber_BadStore => k_is)
    (case sub_Misfit_BadNumber => k_is)
    (case sub_Misfit_Misfit => k_is)
    (case sub_Misfit_TooMany => k_is)
    (case sub_Misfit_BadStore => k_is)
    (case sub_TooMany_BadNumber => k_is)
    (case sub_TooMany_Misfit => k_is)
    (case sub_TooMany_TooMany => k_is)
    (case sub_TooMany_BadStore => k_is)
    (case sub_BadStore_BadNumber => k_is)
    (case sub_BadStore_Misfit => k_is)
    (case sub_BadStore_TooMany => k_is)
    (case sub_BadStore_BadStore => k_is)
    (case spn => k_is)
    (case tkn => k_is)
    (case a_MOST_CELLS => k_is)
    (case a_MOST_SIZE => k_is)
    (case a_MOST_ROWS => k_is)
    (case a_comb => k_is)
    (case n_isinstance => k_is)
    (case n_int => k_is)
    (case n_bool => k_is)
    (case n_len => k_is)
    (case n_abs => k_is)
    (case n_range => k_is)
    (case n_repr => k_is)
    (case n_min => k_is)
    (case aCS => k_is)
    (case a1S => k_is)
    (case i1S => k_is)
    (case l1S => k_is)
    (case c1S => k_is)
    (case k1S => k_is)
    (case pgS => k_is)
    (case hdS => k_is)
    (case poS => k_is)
    (case saS => k_is)
    (case mkS => k_is)
    (case kcS => k_is)
    (case nS1 => k_is)
    (case nS2 => k_is)
    (case nS3 => k_is)
    (case nS4 => k_is)
    (case nS5 => k_is)
    (case l_code => k_is)
    (case v11 => rfl)
    (case hdc => kernel_rfl)
    (case kPt => kernel_rfl)
    (case hPt => exact PySem.W.km_tabs_of Y _ (by k_mem))
