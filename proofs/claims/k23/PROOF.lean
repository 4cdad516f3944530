import PyProof.Rows.All
import Wide.All
import OpenK.AllK
import Wide.FinOn
import HandS.ForMost
import HandS.Exc
import HandS.ExcValue
import HandS.ExcField
import HandS.ExcIs
import HandS.IsInst
import HandS.Lambda
import HandS.EndTab
import HandS.Wide
import HandS.WideBits
import HandS.RaiseMore
import HandS.WordsList
import HandS.WordsExc
import HandS.ExcInit
import PyProof.FString3
import HandS.FStr
import PyProof.EnumMake
import PyProof.Draws
import HandS.Walk
import HandS.Style
import HandS.Text
import KE.KRevIter
import PyProof.Rows.StrRev
import PyProof.Rows.RegReprOcc
import HandS.Conv
import HandS.Codes
import KE.KNestM
import PySem.Challenge.RW_oneflip_k23_values_by_exclusive_or
set_option Elab.async false
set_option linter.all false
set_option maxRecDepth 100000
set_option maxHeartbeats 2000000
/-! Errors that are caught and kept: an exception object behind its suite. -/
namespace OB
open PySem PySem.Spec PyProof.Rows L2

section kit
open PySem.W PySem.Calls
variable {prog : Program} {w : World} {A : Around} {E : Value → Shared → Prop} {s : Shared} {K : Frag} {x D : Addr} {ox : Obj} {od : Option Obj}
theorem cls_data (hc : (clsIn K D).isSome = true) {nm : Str} {a g : Value} (ha : findIn K (.ref D) nm = some (some a)) (hg : specialIn K a "__get__" = some (some g)) (ht : takesIn K a = some true) :
    findObj K D od nm = some (.bind g a) := by
  cases e : clsIn K D with
  | none => rw [e] at hc; cases hc
  | some cd =>
    unfold findObj
    simp [e, ha, hg, ht]
/-- the class of an exception with or without a dict of its own -/
theorem exc_class {Q : Option Value → Shared → Prop} (C : ExcC K D) (X : K.In s.heap) (I : InstAt s.heap x ox D od) (k : Q (some (.ref D)) { s with toks := s.toks + 1 }) :
    wpAny (model prog w) A (getAttr? (.ref x) "__class__") Q E s := by
  have found : findObj K D od "__class__" = some (.bind (.builtin "getset_descriptor.__get__") (.builtin "object.__class__")) :=
    cls_data (by obtain ⟨cd, e, _⟩ := any_some C.hd; simp [e]) C.ha C.hn C.ht
  obtain ⟨h0, g0, d0, t0, o0⟩ := s
  have ty0 := I.type (M := model prog w)
  have own := looks_findIn (M := model prog w) X C.hg
  have gat := looks_findIn (M := model prog w) X C.hk
  have fnd := looks_find (M := model prog w) X I found
  have isE : Looks (model prog w) h0 (isInstance (.ref x) (.type "BaseException")) true := ty0.andThen (looks_subIn X C.hs)
  have q2 : (Value.builtin "BaseException.__getattribute__" == Value.builtin "object.__getattribute__") = false := by decide +kernel
  have q1 : (onTheHeap (Value.ref D) && Value.builtin "BaseException.__getattribute__" == Value.builtin "object.__getattribute__") = false := by
    rw [q2, Bool.and_false]
  unfold getAttr? getAttrBy? getAttrBy
  refine wpAny_bind (wpAny_mkText (wpAny_bind (wpAny_attempt (wpAny_holding (wpAny_bind (ty0.at (wpAny_bind (own.at ?_))))))))
  dsimp only
  rw [q1]
  unfold getAttrByItsOwn hookBefore
  simp only [Bool.false_eq_true, if_false]
  refine wpAny_bind ?_
  rw [if_pos (show onTheHeap (Value.ref D) = true from rfl)]
  refine gat.at ?_
  refine wpAny_bind (wpAny_attempt (wpAny_holding ?_))
  unfold callGetattribute
  rw [if_neg (by decide)]
  unfold boundAndCalled
  rw [PySem.F.excAttr_ValueError.ga.bind (.ref x)]
  refine wpAny_bind (wpAny_pure ?_)
  refine wpAny_call (codeAny_call_builtin PySem.F.excAttr_ValueError.ga.plain PySem.F.entry_bexc_ga ?_)
  refine @check_slot (model prog w) _ _ ⟨h0, g0, d0, t0 + 1, o0⟩ "BaseException.__getattribute__" "BaseException" "__getattribute__" (.ref x) [.str "__class__" t0] [] _ (by decide +kernel) (by decide +kernel) isE
    (PySem.F.args_bexc_ga (.ref x) (.str "__class__" t0)) ?_
  unfold Builtin.«object.__getattribute__»
  refine wpAny_bind (wpAny_of_eq (a := ((Value.ref x : Value), [Value.str "__class__" t0])) (by first | rfl | (simp only [slotArgs]; rfl)) ?_)
  refine wpAny_bind (wpAny_pure (wpAny_bind (ty0.at (wpAny_bind (fnd.at ?_)))))
  dsimp only
  refine wpAny_bind (wpAny_holding (wpAny_call (class_get (s := ⟨h0, g0, d0, t0 + 1, o0⟩) (ox := ox) (od := od) X I C.hm ?_)))
  refine wpAny_pure ?_
  show wpAny _ _ (handedOut (.ref D)) _ _ _
  rw [handedOut_of (v := .ref D) rfl]
  first
    | exact wpAny_pure (wpAny_pure k)
    | exact wpAny_pure k
    | exact wpAny_pure (wpAny_bind (wpAny_pure (wpAny_pure k)))
theorem exc_kit (C : ExcC K D) : KitX K (.ref x) (.ref D) (fun h => InstAt h x ox D od) := by
  obtain ⟨cd, hcd, _⟩ := any_some C.hd
  unfold clsIn at hcd
  split at hcd
  · rename_i c1 d1 cd1 sl1 look
    refine ⟨fun _ _ _ I => I.type, fun M h X _ A' Q' E' s' keep q => ?_, fun h tp dd its n sl X htp => ?_, fun X I k => exc_class C X I k⟩
    · unfold isType loadHead
      exact wpAny_bind (wpAny_loadPart (keep _ _ (X _ _ look)) (wpAny_pure q))
    · cases e : (Value.ref D == Value.ref tp) with
      | false => rfl
      | true =>
        have e2 : D = tp := Value.ref.inj (beq_iff_eq.mp e)
        rw [← e2] at htp
        have z := (X _ _ look).symm.trans htp
        cases z
  · cases hcd
end kit

/-- an exception object that is kept: its class, its own dict -/
def ExA (cls : Value) (d : Option Addr) (a : Addr) : HO := .ext fun h => ∃ (oe : Obj) (vs : Array Value), h.get? a = some oe ∧ Zc cls d oe ∧ oe.data = .fields vs
theorem exA_ok {P : Program} {w : World} {H : Hp} {h : Heap} {a : Addr} {cls : Value} {d : Option Addr} {oe : Obj} {vs : Array Value} (e : h.get? a = some oe) (z : Zc cls d oe) (f : oe.data = .fields vs) : ObjOk P w H h a (ExA cls d a) :=
  ⟨⟨oe, vs, e, z, f⟩, ⟨oe, e⟩, fun _ _ ⟨o, v, q, r⟩ k => ⟨o, v, k o q, r⟩⟩
theorem exA_at {P : Program} {w : World} {H : Hp} {h : Heap} {a : Addr} {cls : Value} {d : Option Addr} (ok : HOk P w H h) (e : H a = some (ExA cls d a)) : ∃ (oe : Obj) (vs : Array Value), h.get? a = some oe ∧ Zc cls d oe ∧ oe.data = .fields vs := by
  have z : ObjOk P w H h a (ExA cls d a) := ok a _ e
  exact z.1

section
variable {X : Cx} {pins : List (Addr × Obj)} {σ : L2.St} {H : Hp} {s : Shared}
/-- an object that came behind the entry is tracked from now on -/
theorem track {a : Addr} {o : HO} (I : Inv X pins σ H s) (hn : H a = none) (h0 : X.s_0.heap.get? a = none) (nL : a ≠ X.env.locals) (nC : ∀ x c, X.env.cells.lookup x = some c → c ≠ a)
    (nP : ∀ p ∈ X.pn ++ pins, p.1 ≠ a) (new : ObjOk X.prog X.w (upd H a o) s.heap a o) : Inv X pins σ (upd H a o) s := by
  have ne : ∀ {b u}, X.s_0.heap.get? b = some u → b ≠ a := fun {b u} e z => by
    rw [z, h0] at e
    cases e
  refine ⟨I.ok, I.os, I.bare, ⟨I.base.keep, I.base.slot, fun b u e n hx => ?_, I.base.there, fun b xs e => ?_, fun b u v e => ?_, fun b ps e => ?_⟩, I.loc, I.cell, ?_, fun x c e => ?_, fun p hp => ?_, ?_, I.len⟩
  · rw [upd_ne (ne e)]
    exact I.base.free b u e n hx
  · have q := I.base.tups b xs e
    rw [upd_ne (ne_of_none q hn)]
    exact q
  · have q := I.base.frzs b u v e
    rw [upd_ne (ne_of_none q hn)]
    exact q
  · obtain ⟨m, q⟩ := I.base.tbls b ps e
    exact ⟨m, by rw [upd_ne (ne_of_none q hn)]; exact q⟩
  · rw [upd_ne (Ne.symm nL)]
    exact I.free
  · rw [upd_ne (nC x c e)]
    exact I.freeC x c e
  · obtain ⟨e, n, r1, r2, r3⟩ := I.pin p hp
    exact ⟨e, by rw [upd_ne (nP p hp)]; exact n, r1, r2, r3⟩
  · exact I.hok.laidN (fun _ _ e => e) hn new
end

/-- what 'except x as n: kept = n' wishes: behind it slot j holds the exception, which is tracked -/
def wKeep (K : PySem.W.Frag) (c : Value) (i j : Nat) (Wout : WX) (D : Ends) : WX := fun cls d σ H =>
  ∃ b, PySem.W.exmOne K cls c = some b ∧
    (b = true → ∀ a, H a = none → D.nx (((σ.set i (some (.ref a))).set j (some (.ref a))).set i none) (upd H a (ExA cls d a))) ∧ (b = false → Wout cls d σ H)

section
variable {X : Cx} {x n m : Str} {c : Value} {i j : Nat} {body : List Stmt} {np pos pos' p1 p2 p3 : Pos} {tb : WX → TS} {Wout : WX}
theorem ps_try_keep (hs : X.stack = X.env :: X.outer) (hf : X.env.frame = some X.env.locals) (hx : X.ex = []) (hN : X.N.Nodup) (hi : X.N[i]? = some n) (hln : X.env.kindOf n = some .local)
    (hj : X.N[j]? = some m) (hlm : X.env.scope.names.lookup m = some .local) (hc : Names X x c) (tk : Takes X Wout)
    (hb : ∀ (W : WX) (pn : List (Addr × Obj)) (xe : Value → Shared → Prop), Takes (X.tr pn xe) W → PassesOwn (model X.prog X.w) X.A X.env xe → PSs (X.tr pn xe) body (tb W))
    (hdn : (n == ("__debug__" : Str)) = false := by decide) (hcn : (n == ("__classdict__" : Str)) = false := by decide)
    (hsw : ∀ env : Env, swapsWith (.Name n p2) (some (.Name m p1)) p3.line env = pure false := by intro _; rfl) :
    PS X (.Try body [.ExceptHandler (some (.Name x np)) (some n) [.Assign [.Name m p1] (.Name n p2) p3] pos'] [] [] pos) (fun D σ H => tb (wKeep X.K c i j Wout D) D σ H) := by
  refine ⟨fun pins s σ H D I h => ?_⟩
  have okX := I.ok
  have frames : X.A.frames = some (X.env :: X.outer) := by rw [okX.frames, hs]
  have lj : Loc X.env.scope m := .inl hlm
  refine wpAny_Try_except ?_
  have run := (hb (wKeep X.K c i j Wout D) (X.pn ++ pins) (fun e s₁ => wpAny (model X.prog X.w) X.A (noteFrame e X.env)
    (fun _ s₂ => wpAny (model X.prog X.w) X.A (setFlight e none)
      (fun _ s₃ => wpAny (model X.prog X.w) X.A (handleBy e X.env [.ExceptHandler (some (.Name x np)) (some n) [.Assign [.Name m p1] (.Name n p2) p3] pos']) (SP X pins D) X.xe s₃) X.xe s₂) X.xe s₁)
    (fun u s' air => ?_) PassesOwn.looking).run [] s σ H D (I.toTry _) h
  · refine wpAny_mono run (fun f s1 end1 => ?_) (fun _ _ z => z)
    cases f with
    | next =>
      obtain ⟨σ1, H1, J1, q⟩ := end1
      exact wpAny_execs_nil ⟨σ1, H1, J1.ofTry okX, q⟩
    | ret u =>
      obtain ⟨v, σ1, H1, J1, r, q⟩ := end1
      exact ⟨v, σ1, H1, J1.ofTry okX, r, q⟩
    | brk =>
      obtain ⟨σ1, H1, J1, q⟩ := end1
      exact ⟨σ1, H1, J1.ofTry okX, q⟩
    | cont =>
      obtain ⟨σ1, H1, J1, q⟩ := end1
      exact ⟨σ1, H1, J1.ofTry okX, q⟩
  · obtain ⟨a, B, sI, pins1, σ1, H1, cls, d, rfl, J0, ground, up0, sky, na, os1, bare1, b, hb1, yes, no⟩ := air
    have J : Inv X pins σ1 H1 sI := J0.ofTry okX
    have skyX : Sky B (X.env :: X.outer) a (Zc cls d) X.env.locals s'.heap := by
      rw [← hs]
      exact sky
    have Ba : B.get? a = none := by
      rcases skyX with ⟨_, z, _⟩ | ⟨_, z, _⟩ | ⟨_, z, _⟩ <;> exact z
    show wpAny (model X.prog X.w) X.A (noteFrame (.ref a) X.env) _ _ _
    refine Sky.land Zc.steady frames hf skyX fun h3 fl3 up3 => ?_
    have J3 : Inv X pins σ1 H1 { s' with heap := h3 } := J.landed ground fl3.1 (up0.trans up3) os1 bare1
    obtain ⟨oe3, vs3, he3, hz3, hd3⟩ := fl3.there
    have off : a ∉ frs (X.env :: X.outer) := fun hm => by
      obtain ⟨_, o', e', hnf⟩ := fl3.2.2.1.mem hm
      rw [he3] at e'
      cases e'
      exact hnf _ hd3
    have sIa : sI.heap.get? a = none := by
      cases e : sI.heap.get? a with
      | none => rfl
      | some o =>
        have z := ground a o e (by rw [hs]; exact off)
        rw [Ba] at z
        cases z
    have s0a : X.s_0.heap.get? a = none := by
      cases e : X.s_0.heap.get? a with
      | none => rfl
      | some o =>
        obtain ⟨o', z⟩ := J.base.there a o e (by rw [hx]; exact fun z => nomatch z)
        rw [sIa] at z
        cases z
    have nL : a ≠ X.env.locals := fun z => off (List.mem_filterMap.mpr ⟨X.env, List.mem_cons_self, by rw [hf, z]⟩)
    have nF : a ∉ X.fs := fun hm => by
      obtain ⟨e, he, q⟩ := List.mem_filterMap.mp hm
      exact off (List.mem_filterMap.mpr ⟨e, List.mem_cons_of_mem _ he, q⟩)
    have nC : ∀ y k, X.env.cells.lookup y = some k → k ≠ a := fun y k e z => by
      obtain ⟨v, o, ho, _⟩ := J.cell y k e
      rw [z, sIa] at ho
      cases ho
    have nP : ∀ p ∈ X.pn ++ pins, p.1 ≠ a := fun p hp z => by
      have q := (J.pin p hp).1
      rw [z, sIa] at q
      cases q
    have S3 := J3.suite he3 hd3 na nL nF
    refine wpAny_handleBy_cons (codeAny_handlers_test ?_) (by intro q; cases q)
    have LT : PySem.W.Looks (model X.prog X.w) h3 (typeOf (.ref a)) cls := fun A Q E s k q => wpAny_typeOf_ref (k _ _ he3) (by rw [hz3.1]; exact q)
    have LM := PySem.W.exm_one (M := model X.prog X.w) (J3.kIn) LT hb1
    have named : ∀ {Q : Value → Shared → Prop} {E : Value → Shared → Prop}, Q c { s' with heap := h3 } →
        wpAny (model X.prog X.w) (X.A.mark (some (.ref a))) (eval (.Name x np) X.env) Q E { s' with heap := h3 } := fun {Q E} q => by
      obtain ⟨hg, hdbg, hm | ⟨hm, hv, hnn⟩⟩ := hc
      · exact ld_glob (X := X.suite a ((a, oe3) :: (X.pn ++ pins))) S3 hg hm q hdbg
      · exact ld_blt (X := X.suite a ((a, oe3) :: (X.pn ++ pins))) S3 hg hm hv q hnn hdbg
    refine named (LM.here ?_)
    cases b with
    | true =>
      refine codeAny_handlers_suite_as ?_
      refine HandSPX.lands_againZ fl3 fun h4 fl4 up4 => ?_
      have J4 : Inv X pins σ1 H1 { s' with heap := h4 } := J.landed ground fl4.1 ((up0.trans up3).trans up4) os1 bare1
      obtain ⟨oe4, vs4, he4, hz4, hd4⟩ := fl4.there
      have S4 := J4.suite he4 hd4 na nL nF
      refine store_ok (X := X.suite a ((a, oe4) :: (X.pn ++ pins))) (v := .ref a) S4 hN hi (.inl hln) rfl (fun s5 S5 => ?_) (.inr hln)
      have hiσ : i < σ1.length := by
        rw [J.len]
        exact (List.getElem?_eq_some_iff.mp hi).1
      have kept := pss_one (ps_set (X := X.suite a ((a, oe4) :: (X.pn ++ pins))) (pos := p3) (pos' := p1) hN hj lj (pe_var (X := X.suite a ((a, oe4) :: (X.pn ++ pins))) (pos := p2) hi (.inl hln) hdn hcn) (hsw _) (.inr hlm))
      refine wpAny_mono (kept.run [] s5 _ H1 { nx := fun σ' H' => H' = H1 ∧ σ' = (σ1.set i (some (.ref a))).set j (some (.ref a)), rt := fun _ _ => False, bk := fun _ _ => False, ct := fun _ _ => False } S5
        ⟨.ref a, by rw [List.getElem?_set_self hiσ], rfl, rfl⟩) (fun f s6 end6 => ?_) (fun _ _ z => False.elim z)
      cases f with
      | next =>
        obtain ⟨σ6, H6, S6, e6, e7⟩ := end6
        subst e6 e7
        have at6 := (S6.pin (a, oe4) (List.mem_append_left _ List.mem_cons_self)).1
        have J6 : Inv X pins _ H6 s6 := S6.unsuite okX
        have J7 := track (o := ExA cls d a) J6 na s0a nL nC nP (exA_ok at6 hz4 hd4)
        exact gone_ok J7 hN hi hln fun s8 J8 => ⟨_, _, J8, yes rfl a na⟩
      | ret u =>
        obtain ⟨_, _, _, _, _, z⟩ := end6
        exact z.elim
      | brk =>
        obtain ⟨_, _, _, z⟩ := end6
        exact z.elim
      | cont =>
        obtain ⟨_, _, _, z⟩ := end6
        exact z.elim
    | false =>
      show wpAny _ X.A (handleBy (.ref a) X.env []) _ _ _
      refine wpAny_handleBy_nil ?_
      obtain ⟨k1, k2, k3, oe, vs, T, oT, ts', he, hz, hd, h1, hr⟩ := id fl3
      unfold PySem.passOn
      refine wpAny_bind (wpAny_field he hd h1 ?_)
      rw [if_neg (by simp)]
      have out : wpAny (model X.prog X.w) X.A (setFlight (.ref a) X.env.frame) (fun _ s4 => wpAny (model X.prog X.w) X.A (throw (.ref a) : Sem Flow) (SP X pins D) X.xe s4) X.xe { s' with heap := h3 } := by
        rw [hf]
        refine HandSPX.setFlight_upZ fl3 fun h4 hh4 up4 => wpAny_throw (tk _ _ ?_)
        exact ⟨a, B, sI, pins, σ1, H1, cls, d, rfl, J, ground, (up0.trans up3).trans up4, .inr (.inr (by rw [hs]; exact hh4)), na, os1, bare1, no rfl⟩
      first
        | exact wpAny_bind (wpAny_pure (wpAny_bind out))
        | exact wpAny_bind out
end

/-- isinstance(e, c), e an exception that is kept -/
def rIsX (K : PySem.W.Frag) : List V → Hp → VK → Prop := fun xs H Q => ∃ (a D : Addr) (d : Option Addr) (c : V) (u : Value) (b : Bool), xs = [.ref a, c] ∧ ExcC K D ∧ H a = some (ExA (.ref D) d a) ∧ (∀ dd, d = some dd → ∃ fs, H dd = some (.xd fs)) ∧ ClsV c u ∧ PySem.W.kitOne K (.ref D) u = some b ∧ Q (.bl b) H
theorem inst_at {X : Cx} {pins : List (Addr × Obj)} {σ : L2.St} {H : Hp} {s : Shared} {a D : Addr} {d : Option Addr} (I : Inv X pins σ H s) (ha : H a = some (ExA (.ref D) d a)) (hd : ∀ dd, d = some dd → ∃ fs, H dd = some (.xd fs)) :
    ∃ oe od, PySem.W.InstAt s.heap a oe D od := by
  obtain ⟨oe, vs, e, ⟨z1, z2⟩, f⟩ := exA_at I.hok ha
  obtain ⟨oc, odd, oda, osl⟩ := oe
  dsimp only at z1 z2 f
  subst z1 z2 f
  cases odd with
  | none => exact ⟨_, none, e, rfl, rfl, trivial⟩
  | some dd =>
    obtain ⟨fs, hfs⟩ := hd dd rfl
    obtain ⟨mA, hns, _⟩ := (show ObjOk X.prog X.w H s.heap dd (.xd fs) from I.hok dd _ hfs)
    obtain ⟨od, ho, _⟩ := lookIn_ns hns
    exact ⟨_, some od, e, rfl, rfl, ho⟩
theorem call_isX {X : Cx} : CallR X (.builtin "isinstance") (rIsX X.K) := by
  intro pins s σ H xs us Q I r h
  obtain ⟨a, D, d, c, u, b, rfl, C, ha, hd, hc, e, q⟩ := h
  obtain ⟨u1, u2, rfl, r1, r2⟩ := vals2 r
  have e2 := hc.eq r2
  subst e2
  obtain rfl : u1 = Value.ref a := r1
  obtain ⟨oe, od, J⟩ := inst_at I ha hd
  exact PySem.W.kia_one (exc_kit C) I.kIn J e (fun z => nomatch z) fun tk => ⟨.bl b, H, I.tok tk, rfl, q⟩
theorem call_or {X : Cx} {f : Value} {r1 r2 : List V → Hp → VK → Prop} (h1 : CallR X f r1) (h2 : CallR X f r2) : CallR X f (fun xs H Q => r1 xs H Q ∨ r2 xs H Q) := by
  intro pins s σ H xs us Q I r h
  rcases h with h | h
  · exact h1 pins s σ H xs us Q I r h
  · exact h2 pins s σ H xs us Q I r h
/-- e.f of an exception that is kept -/
def tXa (K : PySem.W.Frag) (f : Str) (te : TE) : TE := fun σ H Q => te σ H fun x H1 => ∃ (a D dd : Addr) (fs : List (Str × V)) (v : V), x = .ref a ∧ XfC K D ∧ PySem.W.findIn K (.ref D) f = some none ∧ H1 a = some (ExA (.ref D) (some dd) a) ∧ H1 dd = some (.xd fs) ∧ fs.lookup f = some v ∧ Q v H1
theorem pe_xa {X : Cx} {e : Expr} {te : TE} {pos : Pos} {n : Str} (he : PE X e te) (hb : attributeBase e n X.env (eval e X.env) = eval e X.env := by rfl) : PE X (.Attribute e n pos) (tXa X.K n te) := by
  refine ⟨fun pins s σ H Q I h => ?_⟩
  refine attr_of hb (thn (he.run pins s σ H _ I h) fun u s1 got => ?_)
  obtain ⟨y, H1, I1, ry, a, D, dd, fs, v, rfl, T, hno, ha, hdd, hl, q⟩ := got
  obtain rfl : u = Value.ref a := ry
  obtain ⟨oe, vs, eo, ⟨z1, z2⟩, hd⟩ := exA_at I1.hok ha
  obtain ⟨mA, hns, hr⟩ := (show ObjOk X.prog X.w H1 s1.heap dd (.xd fs) from I1.hok dd _ hdd)
  obtain ⟨od, ho, lk⟩ := lookIn_ns hns
  obtain ⟨u, hu, ru⟩ := RelO.some_of (v := v) (o := mA n) (by rw [← hl]; exact hr n)
  have J : PySem.W.InstAt s1.heap a oe D (some od) := ⟨eo, z1, by unfold PySem.W.notCls; rw [hd] <;> rfl, by rw [z2]; exact ho⟩
  exact HandSPX.exc_get I1.kIn J T.ga T.gg T.exC (PySem.W.findObj_own T.hdC hno rfl (by rw [lk, hu])) (handed_of ru) ⟨v, H1, I1.tok _, ru, q⟩
end OB
/-! Lambdas handed to a def: with no parameter, or with one that has a written int as its default. -/
namespace OB
open PySem PySem.Spec PyProof.Rows L2 LamX

section kit
open PySem.W PySem.Calls
abbrev lFn (qual : Str) (params : Arguments) (body : Expr) (scope : Scope) (cl : List (Str × Addr)) (dV pm cdv ct : Value) : FuncData :=
  { name := "<lambda>", qualname := qual, params := params, body := .expr body, scope := scope, globals := mainGlobals, closure := cl, defaults := dV, kwdefaults := .none, doc := .none, pyModule := pm, annotations := none, code := cdv, closureTuple := ct, builtins := builtinsNs }
abbrev lObj (qual : Str) (params : Arguments) (body : Expr) (scope : Scope) (cl : List (Str × Addr)) (dV pm cdv ct : Value) : Obj :=
  { cls := .type "function", data := .func (lFn qual params body scope cl dV pm cdv ct) }
variable {M : Model} {A : Around} {E : Value → Shared → Prop} {s : Shared} {qual : Str} {params : Arguments} {body : Expr} {scope : Scope} {env : Env} {c P : Addr} {ps : Array Value} {pos : Pos} {firstLine : Nat} {mg : Str → Option Value}
  {clos : List (Str × Addr)} {Q : Value → Shared → Prop} {dV : Value}
/-- a lambda's object is made: the code object comes by hcode1 -/
theorem tail_by (hcl : closureFor scope env = pure clos) (hge0 : env.globals = mainGlobals) (hg : s.heap.Ns mainGlobals mg) (hgP : mainGlobals ≠ P) (hb : s.heap.BuiltinsAt mg P)
    {G : Value → Heap → Heap → Prop}
    (hG : ∀ cv h1 h2, G cv h1 h2 → Heap.ExtBut P h1 h2 ∧ h1.objs.size ≤ h2.objs.size)
    (code : ∀ (h1 : Heap) (tk1 : Tok) (Q1 : Value → Shared → Prop), (∀ b o, s.heap.get? b = some o → h1.get? b = some o) → s.heap.objs.size ≤ h1.objs.size →
      (∀ cv h2 tk, G cv h1 h2 → Q1 cv { s with heap := h2, toks := tk }) → wpAny M A (functionCode env pos firstLine "<lambda>" qual params scope (.expr body)) Q1 E { s with heap := h1, toks := tk1 })
    (h : ∀ cv ctv h1 h2 tk, (∀ b o, s.heap.get? b = some o → h1.get? b = some o) → s.heap.objs.size ≤ h1.objs.size → G cv h1 h2 →
      Q (.ref h2.objs.size) { s with heap := h2.push (lObj qual params body scope clos dV ((mg "__name__").getD .none) cv ctv), toks := tk }) :
    wpAny M A (makeTail "<lambda>" qual params (.expr body) scope env dV .none none pos firstLine) Q E s := by
  obtain ⟨bm, ob, hbm, hne0, _, hneP, hbo, hcls, hdict, hdata⟩ := hb
  have go : ∀ (ctv : Value) (h1 : Heap) (tk1 : Tok), (∀ b o, s.heap.get? b = some o → h1.get? b = some o) → s.heap.objs.size ≤ h1.objs.size →
      wpAny M A (functionCode env pos firstLine "<lambda>" qual params scope (.expr body) >>= fun cv => builtinsFor mainGlobals env.builtins >>= fun bi => nsGet mainGlobals "__name__" >>= fun nm => pure Value.none >>= fun doc =>
        newObj (.type "function") (.func { name := "<lambda>", qualname := qual, params := params, body := .expr body, scope := scope, globals := mainGlobals, closure := clos, closureTuple := ctv, code := cv, builtins := bi, defaults := dV, kwdefaults := .none, annotations := none, pyModule := nm.getD .none, doc := doc })) Q E { s with heap := h1, toks := tk1 } := by
    intro ctv h1 tk1 k1 z1
    refine wpAny_bind (code h1 tk1 _ k1 z1 fun cv h2 tk g => ?_)
    obtain ⟨x2, z2⟩ := hG cv h1 h2 g
    have hg2 := (hg.keeps k1).extBut x2 hgP
    refine wpAny_bind (wpAny_builtinsFor hg2 hbm hne0 (x2 _ _ hneP (k1 _ _ hbo)) hcls hdict hdata ?_)
    refine wpAny_bind (wpAny_nsGet hg2 ?_)
    exact wpAny_bind (wpAny_pure (wpAny_newObj_type (h cv ctv h1 h2 tk k1 z1 g) (by size_fits)))
  unfold makeTail
  rw [hcl, hge0]
  refine wpAny_bind (wpAny_pure ?_)
  cases clos with
  | nil => exact wpAny_bind (wpAny_pure (go .none s.heap s.toks (fun _ _ e => e) (Nat.le_refl _)))
  | cons q r =>
    refine wpAny_bind (wpAny_newTextTuple ?_)
    exact go _ _ s.toks (fun b o e => Heap.get?_push_of_some _ e) (by rw [Heap.size_push]; omega)
end kit

section
variable {X : Cx} {pins : List (Addr × Obj)} {σ : L2.St} {H : Hp} {s : Shared}
/-- what stands of a lambda's defaults: none, or a tuple of ints that nobody tracks -/
def DflAt (h : Heap) (H : Hp) (fs : List Addr) (dV : Value) : List Value → Prop
  | [] => dV = .none
  | ds => ∃ (T : Addr) (o : Obj) (n : Nat), dV = .ref T ∧ h.get? T = some o ∧ o.data = .seq ds.toArray n ∧ H T = none ∧ T ∉ fs
/-- a lambda is made from makeTail on -/
theorem lam_tail {T : List (Addr × Str)} {c P : Addr} {params : Arguments} {body : Expr} {scope : Scope} {pos : Pos} {dV : Value} {ds : List Value} {E : Value → Shared → Prop} {Q : Value → Shared → Prop} (I : Inv X pins σ H s) (TB : TabB X.base X.mg c P) (hcode : X.env.code = .ref c)
    (hm : (P, X.env.qual ++ "<lambda>") ∈ T) (hu : ∀ p ∈ T, p.1 = P → p.2 = X.env.qual ++ "<lambda>") (hT : Tabs T H) (hfree : ∀ y ∈ scope.names, y.2 = .free → ∃ c, X.env.cells.lookup y.1 = some c)
    (hd : DflAt s.heap H (X.env.locals :: X.fs) dV ds)
    (h : ∀ (f c' : Addr) (pm ctv : Value) (H1 : Hp) (s' : Shared), Inv X pins σ H1 s' → ExtN H H1 → Tabs T H1 → DflAt s'.heap H1 (X.env.locals :: X.fs) dV ds →
      s'.heap.get? f = some (lObj (X.env.qual ++ "<lambda>") params body scope (cloFrom X.env.cells scope.names []) dV pm (.ref c') ctv) → H1 f = none → f ≠ X.env.locals → f ∉ X.fs → H1 c' = some (CodeO c' (X.env.qual ++ "<lambda>")) → Q (.ref f) s') :
    wpAny (model X.prog X.w) X.A (makeTail "<lambda>" (X.env.qual ++ "<lambda>") params (.expr body) scope X.env dV .none none pos pos.line) Q E s := by
  obtain ⟨ps, hP, ht, ha⟩ := hT _ hm
  have bP : s.heap.BuiltinsAt X.mg P := TB.bm.keeps I.bk
  have hP' : s.heap.get? P = some { cls := .none, data := .fields ps } := I.hok P _ hP
  have nLoc : ∀ f, s.heap.objs.size ≤ f → f ≠ X.env.locals := fun f hf z => by
    have h1 := I.lt
    rw [← z] at h1
    exact Nat.lt_irrefl _ (Nat.lt_of_lt_of_le h1 hf)
  have CH := TB.code.keeps I.bk
  have later : ∀ {h1 : Heap} {H1 : Hp}, (∀ b o, s.heap.get? b = some o → H b = none → b ≠ P → h1.get? b = some o) → (∀ b o, s.heap.get? b = some o → H b = none → H1 b = none) → DflAt h1 H1 (X.env.locals :: X.fs) dV ds := fun {h1 H1} k1 k2 => by
    cases ds with
    | nil => exact hd
    | cons d r =>
      obtain ⟨Td, o, n, e1, e2, e3, e4, e5⟩ := hd
      refine ⟨Td, o, n, e1, k1 _ _ e2 e4 (fun z => ?_), e3, k2 _ _ e2 e4, e5⟩
      rw [z, hP] at e4
      cases e4
  cases hc : codeAmong pos ps.toList with
  | none =>
    refine tail_by (mg := X.mg) (P := P) (closure_ok hfree) I.ok.glob (I.mod.glob.keeps I.bk) TB.gP bP
      (G := fun cv h1 h2 => ∃ c', cv = .ref c' ∧ Heap.ExtBut P h1 h2 ∧ h1.objs.size ≤ c' ∧ c' < h2.objs.size ∧ h2.CodeRec (.ref c') (X.env.qual ++ "<lambda>") ∧ h2.get? P = some (PySem.W.tabObj (ps ++ #[rawInt pos.line, rawInt pos.col, .ref c'])))
      (fun cv h1 h2 ⟨c', _, x, l1, l2, _⟩ => ⟨x, Nat.le_trans l1 (Nat.le_of_lt l2)⟩) (fun h1 tk1 Q1 k1 z1 q1 => ?_) (fun cv ctv h1 h2 tk k1 z1 g => ?_)
    · exact wpAny_functionCodeX hcode ((CH.keeps k1).code (k1 _ _ hP') ht) ((CH.keeps k1).tab (k1 _ _ hP')) hc fun c' h2 tk hx hge hlt _ hrec htb _ => q1 (.ref c') h2 tk ⟨c', rfl, hx, hge, hlt, hrec, htb.2⟩
    · obtain ⟨c', rfl, hx, hge, hlt, hrec, htb⟩ := g
      obtain ⟨c2, oc, vs, t, e2, hoc, hdc, hv⟩ := hrec
      cases e2
      have hge' : s.heap.objs.size ≤ c' := Nat.le_trans z1 hge
      have hsz : s.heap.objs.size ≤ h2.objs.size := Nat.le_trans hge' (Nat.le_of_lt hlt)
      have nC : H c' = none := I.hok.fresh hge'
      have I1 := inv_table (t' := tk) (more := #[rawInt pos.line, rawInt pos.col, .ref c']) (h' := h2.push (lObj (X.env.qual ++ "<lambda>") params body scope (cloFrom X.env.cells scope.names []) dV ((X.mg "__name__").getD .none) (.ref c') ctv)) I hP
        (fun b o hb e => Heap.get?_push_of_some _ (hx b o hb (k1 _ _ e))) (Heap.get?_push_of_some _ htb) hge' ⟨oc, vs, t, Heap.get?_push_of_some _ hoc, hdc, hv⟩
      have hE : ExtN H (upd (upd H P (.tbl (ps ++ #[rawInt pos.line, rawInt pos.col, .ref c']))) c' (CodeO c' (X.env.qual ++ "<lambda>"))) := fun b o e n => by
        rw [upd_ne (ne_of_none e nC), upd_ne (fun z => n ps (Option.some.inj (e.symm.trans (by rw [z]; exact hP))))]
        exact e
      have eL : (ps ++ #[rawInt pos.line, rawInt pos.col, .ref c']).toList = ps.toList ++ [rawInt pos.line, rawInt pos.col, .ref c'] := by simp
      refine h h2.objs.size c' _ ctv _ _ I1 hE (fun p hp => ?_) (later (fun b o e n hb => Heap.get?_push_of_some _ (hx b o hb (k1 _ _ e))) fun b o e n => ?_) (Heap.get?_push_size _ rfl) ?_ (nLoc _ hsz) (I.nofs hsz) upd_same
      · by_cases hb : p.1 = P
        · rw [hu p hp hb, hb]
          refine ⟨_, by rw [upd_ne (ne_of_none hP nC), upd_same], by rw [eL]; exact PySem.TriplesOk_snoc _ _ _ _ ht, fun p' cv hcv => ?_⟩
          rw [eL] at hcv
          rcases among_app _ ht hcv with z | z
          · obtain ⟨c0, e1, e2⟩ := ha p' cv z
            exact ⟨c0, e1, hE _ _ e2 codeO_ne⟩
          · exact ⟨c', z, upd_same⟩
        · obtain ⟨ps', a1, a2, a3⟩ := hT p hp
          refine ⟨ps', by rw [upd_ne (ne_of_none a1 nC), upd_ne hb]; exact a1, a2, fun p' cv hcv => ?_⟩
          obtain ⟨c0, e1, e2⟩ := a3 p' cv hcv
          exact ⟨c0, e1, hE _ _ e2 codeO_ne⟩
      · rw [upd_ne (Nat.ne_of_lt (Nat.lt_of_lt_of_le (Heap.lt_size e) hge')), upd_ne (fun z => by rw [z, hP] at n; cases n)]
        exact n
      · rw [upd_ne (Nat.ne_of_gt hlt), upd_ne (Nat.ne_of_gt (Nat.lt_of_lt_of_le (Heap.lt_size hP') hsz))]
        exact I.hok.fresh hsz
  | some cv0 =>
    obtain ⟨c', e, hco⟩ := ha pos cv0 hc
    subst e
    refine tail_by (mg := X.mg) (P := P) (closure_ok hfree) I.ok.glob (I.mod.glob.keeps I.bk) TB.gP bP
      (G := fun cv h1 h2 => cv = .ref c' ∧ h2 = h1) (fun cv h1 h2 ⟨_, e⟩ => by rw [e]; exact ⟨fun _ _ _ e => e, Nat.le_refl _⟩) (fun h1 tk1 Q1 k1 z1 q1 => ?_) (fun cv ctv h1 h2 tk k1 z1 g => ?_)
    · exact wpAny_functionCode_hit hcode ((CH.keeps k1).code (k1 _ _ hP') ht) hc (q1 (.ref c') h1 tk1 ⟨rfl, rfl⟩)
    · obtain ⟨rfl, rfl⟩ := g
      have kk : ∀ b o, s.heap.get? b = some o → (h2.push (lObj (X.env.qual ++ "<lambda>") params body scope (cloFrom X.env.cells scope.names []) dV ((X.mg "__name__").getD .none) (.ref c') ctv)).get? b = some o := fun b o e => Heap.get?_push_of_some _ (k1 _ _ e)
      exact h h2.objs.size c' _ ctv H _ (I.kept (t' := tk) kk) (ExtN.refl H) hT (later (fun b o e _ _ => kk b o e) fun _ _ _ n => n) (Heap.get?_push_size _ rfl) (I.hok.fresh z1) (nLoc _ z1) (I.nofs z1) hco
end
end OB
namespace OB
open PySem PySem.Spec PyProof.Rows L2 LamX

/-- a lambda's names: captured ones, globals, and its parameters nm, which are no names of the def around -/
structure LamN (sc scope : Scope) (N nm : List Str) : Prop where
  kind : scope.kind = .function
  co : scope.isCoroutine = false
  gen : scope.isGenerator = false
  own : ∀ y ∈ scope.names, y.2 ≠ .cell ∧ (y.2 = .local → y.1 ∉ N)
  par : ∀ x ∈ nm, scope.names.lookup x = some .local
  free : ∀ y ∈ scope.names, y.2 = .free → sc.names.lookup y.1 = some .cell ∨ sc.names.lookup y.1 = some .free
def lamNB (sc scope : Scope) (N nm : List Str) : Bool :=
  decide (scope.kind = .function) && !scope.isCoroutine && !scope.isGenerator &&
    (scope.names.all fun y => !decide (y.2 = .cell) && (!decide (y.2 = .local) || decide (y.1 ∉ N)) && (!decide (y.2 = .free) || decide (sc.names.lookup y.1 = some .cell) || decide (sc.names.lookup y.1 = some .free))) &&
    nm.all fun x => decide (scope.names.lookup x = some .local)
theorem lamN_by {sc scope : Scope} {N nm : List Str} (h : lamNB sc scope N nm = true) : LamN sc scope N nm := by
  unfold lamNB at h
  simp only [Bool.and_eq_true, Bool.or_eq_true, Bool.not_eq_true', decide_eq_true_eq, decide_eq_false_iff_not, List.all_eq_true] at h
  obtain ⟨⟨⟨⟨h1, h2⟩, h3⟩, h4⟩, h5⟩ := h
  refine ⟨h1, h2, h3, fun y hy => ⟨(h4 y hy).1.1, fun e => ?_⟩, fun x hx => h5 x hx, fun y hy e => ?_⟩
  · rcases (h4 y hy).1.2 with z | z
    · exact absurd e z
    · exact z
  · rcases (h4 y hy).2 with (z | z) | z
    · exact absurd e z
    · exact .inl z
    · exact .inr z
theorem LamN.has {X : Cx} {scope : Scope} {N nm : List Str} (L : LamN X.env.scope scope N nm) (ok : X.Ok) : ∀ y ∈ scope.names, y.2 = .free → ∃ c, X.env.cells.lookup y.1 = some c := fun y hy e => by
  rcases L.free y hy e with k | k
  · exact ok.has _ (.inl k)
  · exact ok.has _ (.inr k)
section
variable {X : Cx} {pins : List (Addr × Obj)} {σ : L2.St} {H HZ : Hp} {s s1 : Shared}
theorem lam_start {A : Around} {outer : List Env} {E : XK} {scope : Scope} {f c' : Addr} {h₁ : Heap} {tk : Nat} {nm : List Str} {m1 : Str → Option Value} (I : Inv X pins σ H s) (L : LamN X.env.scope scope X.N nm) (e0 : Env0 X.prog X.w X.K X.mg X.base A outer s1 HZ) (hd : A.handled = none)
    (un : Un (frs X.stack) [] H HZ s.heap s1.heap) (hns : h₁.Ns s1.heap.objs.size m1) (kp : ∀ b o, s1.heap.get? b = some o → h₁.get? b = some o) :
    Inv (lamCx X A outer s1 HZ E scope f c') [] σ HZ { s1 with heap := h₁, toks := tk } := by
  have hfree := L.has I.ok
  have up : ∀ {y c}, (cloFrom X.env.cells scope.names []).lookup y = some c → X.env.cells.lookup y = some c := fun {y c} e => by
    rcases cloFrom_mem (PySem.mem_of_lookup e) with hm | ⟨h1, h2⟩
    · cases hm
    · obtain ⟨c1, hc⟩ := hfree _ h1 rfl
      have hc : X.env.cells.lookup y = some c1 := hc
      rw [hc] at h2
      have h3 : c = c1 := h2
      rw [h3]
      exact hc
  have down : ∀ {y}, scope.names.lookup y = some .free → ∃ c, (cloFrom X.env.cells scope.names []).lookup y = some c := fun {y} hl =>
    mem_lookup (cloFrom_has (cells := X.env.cells) (acc := []) (PySem.mem_of_lookup hl))
  have cellK : ∀ {c : Addr} {v : Option Value}, H c = none → s.heap.IsCell c v → h₁.IsCell c v := fun {c v} n ⟨o, ho, hd⟩ => by
    obtain ⟨sl, q⟩ := un.any ho n (by simp)
    exact ⟨_, kp _ _ q, hd⟩
  have noX : ∀ b : Addr, b ∉ (lamCx X A outer s1 HZ E scope f c').ex := fun b z => absurd (show b ∈ ([] : List Addr) from z) (by simp)
  refine ⟨⟨e0.mod, L.kind, rfl, rfl, Nat.le_refl _, fun y z c e1 e2 => I.ok.inj y z c (up e1) (up e2), fun y hy => ?_, fun y c z _ => ?_, fun _ => hd, Around.frames_deeper e0.frames, .inr ⟨rfl, rfl⟩, fun b z => absurd z (noX b), e0.bs, e0.bsz, fun b _ _ => noX b,
      fun b z => absurd z (noX b), e0.funs, e0.frf⟩,
    rfl, e0.bare, Un.kept kp, ⟨_, hns, fun i y v e1 e2 e3 => ?_⟩, fun y c e => ?_, e0.hok.fresh (Nat.le_refl _), fun y c e => ?_, fun q hq => absurd (show q ∈ ([] : List (Addr × Obj)) ++ [] from hq) (by simp), e0.hok.kept kp, I.len⟩
  · have hy : scope.names.lookup y = some .cell ∨ scope.names.lookup y = some .free := hy
    rcases hy with hy | hy
    · exact absurd rfl (L.own _ (PySem.mem_of_lookup hy)).1
    · exact down hy
  · have z : false = true := z
    cases z
  · have e3 : Vis scope y := e3
    have e1 : X.N[i]? = some y := e1
    rcases e3 with k | k | k
    · exact absurd (List.mem_of_getElem? e1) ((L.own _ (PySem.mem_of_lookup k)).2 rfl)
    · exact absurd rfl (L.own _ (PySem.mem_of_lookup k)).1
    · obtain ⟨m, hn, hl⟩ := I.loc
      have vis : Vis X.env.scope y := (L.free _ (PySem.mem_of_lookup k) rfl).elim (fun k => .inr (.inl k)) (fun k => .inr (.inr k))
      obtain ⟨w', r, q⟩ := hl i y v e1 e2 vis
      obtain ⟨c2, h2⟩ := down k
      refine ⟨w', r, .inr ⟨.inr k, c2, h2, ?_⟩⟩
      have c1 := up h2
      rcases q with ⟨k', _⟩ | ⟨_, c3, e', z⟩
      · have k' : X.env.scope.names.lookup y = some .local := k'
        rcases L.free _ (PySem.mem_of_lookup k) rfl with k2 | k2 <;> rw [show X.env.scope.names.lookup y = _ from k2] at k' <;> cases k'
      · rw [c1] at e'
        cases e'
        exact cellK (I.freeC y _ c1) z
  · obtain ⟨w', z⟩ := I.cell y c (up e)
    exact ⟨w', cellK (I.freeC y c (up e)) z⟩
  · obtain ⟨v, o, ho, hd⟩ := I.cell y c (up e)
    exact un.free c o ho (I.freeC y c (up e)) (by simp)
/-- how a lambda called with nothing binds its parameters nm to their defaults ds -/
def LamB (params : Arguments) (nm : List Str) (ds : List Value) : Prop :=
  ∀ (q : Str) (body : Expr) (scope : Scope) (cl : List (Str × Addr)) (dV pm cv ctv : Value) (M : Model) (A : Around) (E : Value → Shared → Prop) (s : Shared) (H : Hp) (fs : List Addr) (Q : List (Str × Value) → Shared → Prop),
    DflAt s.heap H fs dV ds → Q (nm.zip ds) s → wpAny M A (bindArgs (lFn q params body scope cl dV pm cv ctv) ⟨[], []⟩) Q E s
theorem lamB0 {params : Arguments} (h : ∀ (q : Str) (body : Expr) (scope : Scope) (cl : List (Str × Addr)) (pm cv ctv : Value), bindArgs (lFn q params body scope cl .none pm cv ctv) ⟨[], []⟩ = pure []) : LamB params [] [] :=
  fun q body scope cl dV pm cv ctv M A E s H fs Q hd hq => by
    have hd : dV = .none := hd
    rw [hd, h]
    exact wpAny_pure hq
theorem lamB1 {params : Arguments} {a : Str} {d : Value} (h : ∀ (q : Str) (body : Expr) (scope : Scope) (cl : List (Str × Addr)) (T : Addr) (pm cv ctv : Value), ∃ k, bindArgs (lFn q params body scope cl (.ref T) pm cv ctv) ⟨[], []⟩ = seqItems? (.ref T) >>= k ∧ k (some #[d]) = pure [(a, d)]) : LamB params [a] [d] :=
  fun q body scope cl dV pm cv ctv M A E s H fs Q hd hq => by
    obtain ⟨T, o, n, rfl, e2, e3, _⟩ := hd
    obtain ⟨k, e, ek⟩ := h q body scope cl T pm cv ctv
    rw [e]
    refine wpAny_bind (wpAny_seqItems e2 e3 ?_)
    rw [show (some [d].toArray : Option (Array Value)) = some #[d] from rfl, ek]
    exact wpAny_pure hq
/-- x(), in the def that got the lambda: Z is that def's context, entered at s -/
theorem pe_act {CXg : CXT} {Eg : XK} {Ng : List Str} {qg : Str} {sg : Scope} {g f c' : Addr} {cdg pm ctv dV : Value} {ds : List Value} {nm : List Str} {params : Arguments} {body : Expr} {scope : Scope} {k i : Nat} {a : Str} {pn : List (Addr × Obj)} {xe : Value → Shared → Prop} {W : WX} {tb : XK → TE} {p1 p2 : Pos}
    (I : Inv X pins σ H s) (L : LamN X.env.scope scope X.N nm) (hf : s.heap.get? f = some (lObj (X.env.qual ++ "<lambda>") params body scope (cloFrom X.env.cells scope.names []) dV pm (.ref c') ctv)) (hfn : H f = none) (hfr : f ∉ X.env.locals :: X.fs)
    (hbind : LamB params nm ds) (hds : DflAt s.heap H (X.env.locals :: X.fs) dV ds)
    (tk : Takes ((cxOf CXg X.prog X.w X.K X.mg X.base Ng qg sg g cdg X.A X.stack s H Eg).tr pn xe) W) (hr : Room (k + 1) (X.A.deeper (envOfC qg sg s.heap.objs.size g cdg)))
    (hbody : ∀ (A : Around) (outer : List Env) (s : Shared) (H : Hp) (E : XK), Room k (A.deeper (lamEnv X scope s.heap.objs.size f c')) → PE (lamCx X A outer s H E scope f c') body (tb E))
    (hN : Ng[i]? = some a) (hv : Vis sg a) (hd : (a == ("__debug__" : Str)) = false := by decide) (hcd : (a == ("__classdict__" : Str)) = false := by decide) :
    PE ((cxOf CXg X.prog X.w X.K X.mg X.base Ng qg sg g cdg X.A X.stack s H Eg).tr pn xe) (.Call (.Name a p1) [] [] p2)
      (fun σZ HZ Q => σZ[i]? = some (some (.ref f)) ∧ HZ c' = some (CodeO c' (X.env.qual ++ "<lambda>")) ∧ tb (fun cls d H' => W cls d σZ H') σ HZ Q) := by
  have nst : ∀ {b : Addr}, b ∉ X.env.locals :: X.fs → b ∉ frs X.stack := fun {b} h z => h (I.stkSub b z)
  refine ⟨fun pinsZ sZ σZ HZ Q IZ h => ?_⟩
  obtain ⟨hs, hc, ht⟩ := h
  refine wpAny_Call_Name_kw (thn ((pe_var (pos := p1) (i := i) hN hv hd hcd).run pinsZ sZ σZ HZ (fun v H1 => v = .ref f ∧ H1 = HZ) IZ ⟨.ref f, hs, rfl, rfl⟩) fun u s1 ⟨v, H1, I1, r1, q1⟩ => ?_)
  obtain ⟨ev, eH⟩ := q1
  subst ev
  rw [eH] at I1
  obtain rfl : u = Value.ref f := r1
  have keep1 : ∀ {b : Addr} {o : Obj}, s.heap.get? b = some o → H b = none → b ∉ X.env.locals :: X.fs → s1.heap.get? b = some o ∧ HZ b = none := fun {b o} e n nf =>
    ⟨I1.base.keep b _ e n (nst nf) (fun z => nomatch (show b ∈ ([] : List Addr) from z)), I1.base.free b _ e n (fun z => nomatch (show b ∈ ([] : List Addr) from z))⟩
  have of1 := (keep1 hf hfn hfr).1
  have ds1 : DflAt s1.heap HZ (X.env.locals :: X.fs) dV ds := by
    cases ds with
    | nil => exact hds
    | cons d r =>
      obtain ⟨T, o, n, e1, e2, e3, e4, e5⟩ := hds
      exact ⟨T, o, n, e1, (keep1 e2 e4 e5).1, e3, (keep1 e2 e4 e5).2, e5⟩
  refine PySem.W.callWith_F0 ⟨_, _, _, _, of1⟩ ?_
  have un : Un (frs X.stack) [] H HZ s.heap s1.heap := I1.base
  obtain ⟨⟨oc, vs, t, hoc, hdc, hvc⟩, _, _⟩ := I1.hok c' _ hc
  have rc : codeAny (model X.prog X.w) (X.A.deeper (envOfC qg sg s.heap.objs.size g cdg)) (.call (.ref f) ⟨[], []⟩) (CR (L2.CX X.prog X.w) (envOfC qg sg s.heap.objs.size g cdg :: X.stack) X.prog X.w HZ s1 Q fun cls d H' => W cls d σZ H') s1 := by
    refine PySem.W.kla_callFunE hr.depth of1 rfl L.co L.gen rfl ⟨c', oc, vs, t, rfl, hoc, hdc, hvc⟩ ?_
    refine hbind _ _ _ _ _ _ _ _ _ _ _ s1 HZ _ _ ds1 ?_
    refine wpAny_newFunctionEnv (fun y hy => (L.own y hy).1) (fun y hy => L.par _ (List.of_mem_zip (by simpa using hy)).1) (fun h₁ hns hsb => ⟨I1.nolimit.fresh _ hsb, ?_⟩) L.kind
    show codeAny _ _ (.expr body (lamEnv X scope s1.heap.objs.size f c')) _ _
    have kp : ∀ b o, s1.heap.get? b = some o → h₁.get? b = some o := fun b o e => hsb.extBut b o (Nat.ne_of_lt (Heap.lt_size e)) (Heap.get?_push_of_some _ e)
    have J : Inv (lamCx X (X.A.deeper (envOfC qg sg s.heap.objs.size g cdg)) (envOfC qg sg s.heap.objs.size g cdg :: X.stack) s1 HZ (fun cls d H' => W cls d σZ H') scope f c') [] σ HZ { s1 with heap := h₁, toks := s1.toks + (nm.zip ds).length } :=
      lam_start I L I1.env0 hr.hd un hns kp
    refine PySem.W.kla_codeExpr (wpAny_mono ((hbody _ _ s1 HZ _ (hr.deeper _)).run [] _ _ HZ Q J ht) (fun v s' hq => ?_) fun e s' hq => hq)
    obtain ⟨w', H', J', rv, q⟩ := hq
    exact ⟨w', H', J'.os, J'.bare, J'.base, J'.hok, rv, q⟩
  refine wpAny_call (codeAny_mono rc fun r s' hq => ?_)
  cases r with
  | error e => exact tk e s' (XE.of_call I1 (fun _ _ _ h => h) hq)
  | ok fl =>
    cases fl with
    | ret u => exact I1.after hq
    | next => exact False.elim hq
    | brk => exact False.elim hq
    | cont => exact False.elim hq
end
/-- a reading that grows with what is wanted -/
def MonoL (tl : XK → Hp → VK → Prop) : Prop := ∀ (E1 E2 : XK) (H : Hp) (Q1 Q2 : VK), (∀ c d H', E1 c d H' → E2 c d H') → (∀ v H', Q1 v H' → Q2 v H') → tl E1 H Q1 → tl E2 H Q2
/-- the def that calls what it got, beside other values vs; TT: what it makes of the lambda's reading -/
def Gives (X : Cx) (Ng : List Str) (x : Str) (sg : Scope) (g : Addr) (cdg : Value) (bg : List Stmt) (a : Str) (q : Str) (k : Nat) (TT : List V → (XK → Hp → VK → Prop) → Hp → VK → Prop) : Prop :=
  ∀ (f c' : Addr) (vs : List V) (s : Shared) (H : Hp) (Q : VK) (tl : XK → Hp → VK → Prop), Room k (X.A.deeper (envOfC x sg s.heap.objs.size g cdg)) →
    (∀ (W : WX) (pn : List (Addr × Obj)) (xe : Value → Shared → Prop) (p1 p2 : Pos), Takes ((cxOf L2.CX0 X.prog X.w X.K X.mg X.base Ng x sg g cdg X.A X.stack s H fun _ _ _ => False).tr pn xe) W →
      PE ((cxOf L2.CX0 X.prog X.w X.K X.mg X.base Ng x sg g cdg X.A X.stack s H fun _ _ _ => False).tr pn xe) (.Call (.Name a p1) [] [] p2) (fun σZ HZ Q => σZ[0]? = some (some (.ref f)) ∧ HZ c' = some (CodeO c' q) ∧ tl (fun cls d H' => W cls d σZ H') HZ Q)) →
    H c' = some (CodeO c' q) → MonoL tl → TT vs tl H Q →
    ∃ t, PSs (cxOf L2.CX0 X.prog X.w X.K X.mg X.base Ng x sg g cdg X.A X.stack s H fun _ _ _ => False).nox bg t ∧ t { nx := fun _ H' => Q .non H', rt := Q } (L2.start Ng (.ref f :: vs)) H
def tLam2 (T : List (Addr × Str)) (vs : List V) (TT : List V → (XK → Hp → VK → Prop) → Hp → VK → Prop) (t : XK → TE) : TE := fun σ H Q => Tabs T H ∧ ∀ H1, ExtN H H1 → Tabs T H1 → TT vs (fun E H' Q' => t E σ H' Q') H1 Q
section
variable {X : Cx}
/-- x(lambda: body, rest ..), rest written constants -/
theorem pe_lam {T : List (Addr × Str)} {vs : List V} {TT : List V → (XK → Hp → VK → Prop) → Hp → VK → Prop} {x a : Str} {g c P : Addr} {k : Nat} {pg : Arguments} {bg : List Stmt} {sg : Scope} {dV kV doc pm cdv ct oc : Value} {an od : Option Addr} {osl : Array (Option Value)} {Ng ps nm : List Str}
    {params : Arguments} {body : Expr} {rest : List Expr} {tr : TA} {dts : List Int} {scope : Scope} {t : XK → TE} {p lpos pos : Pos} (hg : Gl X x) (hm : X.mg x = some (.ref g)) (hk : PySem.W.keepIn X.K (.ref g) = true)
    (lk : X.K.lookup g = some ⟨oc, od, .func (PySem.W.fnOf x x pg bg sg dV kV doc pm an cdv ct), osl⟩) (hcg : PySem.W.codeIn X.K cdv x = true) (hb : L2.Binds X.K (PySem.W.fnOf x x pg bg sg dV kV doc pm an cdv ct) (a :: ps) []) (Sg : FnScope Ng (a :: ps) sg) (hNg : Ng[0]? = some a) (hva : Vis sg a)
    (hG : Gives X Ng x sg g cdv bg a (X.env.qual ++ "<lambda>") (k + 1) TT)
    (TB : TabB X.base X.mg c P) (hcode : X.env.code = .ref c) (hmT : (P, X.env.qual ++ "<lambda>") ∈ T) (hu : ∀ p ∈ T, p.1 = P → p.2 = X.env.qual ++ "<lambda>") (hr : Room (k + 2) X.A) (L : LamN X.env.scope scope X.N nm)
    (hdef : (dts = [] ∧ defaultsOf params X.env = ([], [])) ∨ ∃ n j dp, dts = [n] ∧ defaultsOf params X.env = ([eval (.Constant (.int n) j dp) X.env], []))
    (hbind : ∀ ds : List Value, Vals (dts.map V.int) ds → LamB params nm ds)
    (hmono : ∀ σ : L2.St, MonoL fun E H' Q' => t E σ H' Q') (hrest : PA X rest tr) (htr : ∀ σ H Q, tr σ H Q = Q vs H) (hvl : vs.length = ps.length)
    (hbody : ∀ (A : Around) (outer : List Env) (s : Shared) (H : Hp) (E : XK) (f c' : Addr), Room k (A.deeper (lamEnv X scope s.heap.objs.size f c')) → PE (lamCx X A outer s H E scope f c') body (t E))
    (he : starEach (.Lambda params body scope lpos :: rest) X.env = (false, eval (.Lambda params body scope lpos) X.env) :: starEach rest X.env := by rfl) (hpl : (backTo pos (starEach rest X.env)).any (·.1) = false := by rfl)
    (hdb : (x == ("__debug__" : Str)) = false := by decide) (hd : (a == ("__debug__" : Str)) = false := by decide) (hcd : (a == ("__classdict__" : Str)) = false := by decide) :
    PE X (.Call (.Name x p) (.Lambda params body scope lpos :: rest) [] pos) (tLam2 T vs TT t) := by
  refine ⟨fun pins s σ H Q I h => ?_⟩
  obtain ⟨hT, h⟩ := h
  refine wpAny_Call_Name_kw (ld_glob I hg hm ?_ hdb)
  refine PySem.W.callWith_K (h₀ := X.base) I.ok.mod.kin hk ?_ he hpl
  rw [he]
  show wpAny _ _ (spliced ((false, eval (.Lambda params body scope lpos) X.env) :: backTo pos (starEach rest X.env))) _ _ s
  -- from the making of the object on
  have go : ∀ (s0 : Shared) (dV : Value) (ds : List Value), Inv X pins σ H s0 → Vals (dts.map V.int) ds → DflAt s0.heap H (X.env.locals :: X.fs) dV ds →
      wpAny (model X.prog X.w) X.A (PySem.makeTail "<lambda>" (X.env.qual ++ "<lambda>") params (.expr body) scope X.env dV .none none lpos lpos.line)
        (fun u s1 => wpAny (model X.prog X.w) X.A (spliced (backTo pos (starEach rest X.env))) (fun us s2 => X.K.In s2.heap ∧ wpAny (model X.prog X.w) X.A (call (.ref g) ([] ++ u :: us)) (EP X pins σ Q) X.xe s2) X.xe s1) X.xe s0 := by
    intro s0 dV ds I0 rd hd0
    refine lam_tail I0 TB hcode hmT hu hT (L.has I0.ok) hd0 fun f c' pm' ctv H1 s' I1 eN T1 hd1 hf hfn hfL hfF hco => ?_
    obtain ⟨pl, hpl1, hpl2⟩ : ∃ pl : List (Addr × Obj), (∀ p ∈ pl, s'.heap.get? p.1 = some p.2 ∧ H1 p.1 = none ∧ p.1 ≠ X.env.locals ∧ p.1 ∉ X.fs ∧ ∀ v, p.2.data ≠ .cell v) ∧ (∀ h2 : Heap, (∀ p ∈ pl, h2.get? p.1 = some p.2) → DflAt h2 H1 (X.env.locals :: X.fs) dV ds) := by
      cases ds with
      | nil => exact ⟨[], (fun p hp => nomatch hp), fun _ _ => hd1⟩
      | cons d r =>
        obtain ⟨Td, o, n, e1, e2, e3, e4, e5⟩ := hd1
        refine ⟨[(Td, o)], fun p hp => ?_, fun h2 k => ⟨Td, o, n, e1, k _ List.mem_cons_self, e3, e4, e5⟩⟩
        obtain rfl : p = (Td, o) := by simpa using hp
        exact ⟨e2, e4, fun z => e5 (by rw [show Td = X.env.locals from z]; exact List.mem_cons_self), fun z => e5 (List.mem_cons_of_mem _ z), fun v z => by
          have z' : o.data = .cell v := z
          rw [e3] at z'
          cases z'⟩
    have J : Inv X (pins ++ ((f, _) :: pl)) σ H1 s' := I1.pins_of (pins' := pins ++ ((f, lObj (X.env.qual ++ "<lambda>") params body scope (cloFrom X.env.cells scope.names []) dV pm' (.ref c') ctv) :: pl)) fun p hp => by
      rcases List.mem_append.mp hp with hp | hp
      · exact I1.pin p (List.mem_append_right _ hp)
      · rcases List.mem_cons.mp hp with e | hp
        · rw [e]
          exact ⟨hf, hfn, hfL, hfF, fun v z => nomatch z⟩
        · exact hpl1 p hp
    refine thn (hrest.run pos _ s' σ H1 (fun vs' H' => vs' = vs ∧ H' = H1) J (by rw [htr]; exact ⟨rfl, rfl⟩)) fun us s2 ⟨vs', H2, I2, r2, e1, e2⟩ => ?_
    subst e1
    rw [e2] at I2
    have hf2 := (I2.pin (f, _) (List.mem_append_right _ (List.mem_append_right _ List.mem_cons_self))).1
    have hd2 : DflAt s2.heap H1 (X.env.locals :: X.fs) dV ds := hpl2 _ fun p hp => (I2.pin p (List.mem_append_right _ (List.mem_append_right _ (List.mem_cons_of_mem _ hp)))).1
    have I3 : Inv X pins σ H1 s2 := I2.unpinned
    refine ⟨I3.kIn, ?_⟩
    have rv : Vals (V.ref f :: vs') (Value.ref f :: us) := .cons rfl r2
    have hlen : (Value.ref f :: us).length = (a :: ps).length := by
      rw [← rv.length, List.length_cons, List.length_cons, hvl]
    have rc : codeAny (model X.prog X.w) X.A (.call (.ref g) ⟨.ref f :: us, []⟩) (CR L2.CX0 X.stack X.prog X.w H1 s2 Q fun _ _ _ => False) s2 := by
      refine run_ofS (N := Ng) (ps := a :: ps) (us := .ref f :: us) (vs := .ref f :: vs') lk hcg Sg hr I3.env0 (by have z := hb s2 (Value.ref f :: us) I3.kIn (by rw [List.append_nil]; exact hlen); rw [List.append_nil] at z; exact z) rv (by rw [List.length_cons, List.length_cons, hvl]) fun hr' => ?_
      obtain ⟨t', ht', hq'⟩ := hG f c' vs' s2 H1 Q (fun E H' Q' => t E σ H' Q') hr' (fun W pn xe p1 p2 tk => pe_act (i := 0) I3 L hf2 hfn (fun z => (List.mem_cons.mp z).elim hfL hfF) (hbind ds rd) hd2 tk hr' (fun A outer s H E hr2 => hbody A outer s H E f c' hr2) hNg hva hd hcd) hco (hmono σ) (h H1 eN T1)
      exact ⟨t', ht'.nox, hq'⟩
    refine wpAny_call (codeAny_mono rc fun r s3 hq => ?_)
    cases r with
    | error e => exact (show False from hq).elim
    | ok fl =>
      cases fl with
      | ret u => exact I3.after hq
      | next => exact False.elim hq
      | brk => exact False.elim hq
      | cont => exact False.elim hq
  refine Calls.spliced_cons ?_
  rw [PySem.arm_eval_Lambda]
  rcases hdef with ⟨rfl, hdef⟩ | ⟨n, j, dp, rfl, hdef⟩
  · rw [hdef]
    refine wpAny_bind (wpAny_pure (wpAny_bind (wpAny_holding (wpAny_pure ?_))))
    rw [PySem.makeFunction_eq]
    simp only [List.zip_nil_right, List.filterMap_nil, List.isEmpty_nil, if_true, pure_bind]
    exact go s .none [] I .nil rfl
  · rw [hdef]
    refine wpAny_bind (m := evalAll [eval (.Constant (.int n) j dp) X.env]) ?_
    unfold evalAll evalAll
    refine wpAny_bind (thn ((pe_int (X := X) (i := n) (j := j) (pos := dp)).run pins s σ H (fun v H' => v = .int n ∧ H' = H) I ⟨rfl, rfl⟩) fun u s1 ⟨v, H1, I1, r1, e1, e2⟩ => ?_)
    subst e1
    rw [e2] at I1
    refine wpAny_bind (wpAny_holding (wpAny_pure (wpAny_pure ?_)))
    refine wpAny_bind (wpAny_holding (wpAny_pure ?_))
    rw [PySem.makeFunction_eq]
    simp only [List.zip_nil_right, List.filterMap_nil, List.isEmpty_nil, List.isEmpty_cons, Bool.false_eq_true, if_true, if_false, pure_bind]
    refine wpAny_bind (wpAny_newTextTuple ?_)
    have sz : s1.heap.objs.size ≤ s1.heap.objs.size := Nat.le_refl _
    refine go _ (.ref s1.heap.objs.size) [u] (I1.kept (t' := s1.toks) fun b o e => Heap.get?_push_of_some _ e) (.cons r1 .nil) ⟨_, _, _, rfl, Heap.get?_push_size _ rfl, rfl, I1.hok.fresh sz, fun z => ?_⟩
    rcases List.mem_cons.mp z with z | z
    · exact Nat.lt_irrefl _ (show s1.heap.objs.size < s1.heap.objs.size by
        have q := I1.lt
        rw [← z] at q
        exact q)
    · exact I1.nofs sz z
end
end OB
/-! What a law draws from: a list of a list of ints, how many draws were made, what is left of a great one. -/
namespace OB
open PySem PySem.Spec PyProof.Rows L2
/-- the lot stands at p, its ints at b; at most n draws were made -/
def Orch (H : Hp) (p b : Addr) (n : Nat) : Prop := ∃ (ns : List Int) (t l : Int), H p = some (.lst [.ref b, .int t, .int l]) ∧ H b = some (.lst (ns.map V.int)) ∧ 0 ≤ t ∧ t ≤ n
theorem Orch.ne {H : Hp} {p b : Addr} {n : Nat} (o : Orch H p b n) : p ≠ b := by
  obtain ⟨ns, t, l, h1, h2, _⟩ := o
  refine ne_of h1 h2 fun z => ?_
  injection z with z
  cases ns with
  | nil => cases z
  | cons a r =>
    injection z with z _
    cases z
theorem Orch.keep {H H' : Hp} {p b : Addr} {n : Nat} (o : Orch H p b n) (hp : ∀ u, H p = some u → H' p = some u) (hb : ∀ u, H b = some u → H' b = some u) : Orch H' p b n := by
  obtain ⟨ns, t, l, h1, h2, h3⟩ := o
  exact ⟨ns, t, l, hp _ h1, hb _ h2, h3⟩
theorem Orch.same {H H' : Hp} {p b : Addr} {n : Nat} (o : Orch H p b n) (s : Same H H') : Orch H' p b n := o.keep (fun u => s p u) fun u => s b u
theorem Orch.mono {H : Hp} {p b : Addr} {n m : Nat} (o : Orch H p b n) (h : n ≤ m) : Orch H p b m := by
  obtain ⟨ns, t, l, h1, h2, h3, h4⟩ := o
  exact ⟨ns, t, l, h1, h2, h3, by omega⟩
theorem Orch.pn {H : Hp} {p b : Addr} {n : Nat} (o : Orch H p b n) : ∃ u, H p = some u := by
  obtain ⟨ns, t, l, h1, h2, h3, h4⟩ := o
  exact ⟨_, h1⟩
theorem Orch.bn {H : Hp} {p b : Addr} {n : Nat} (o : Orch H p b n) : ∃ u, H b = some u := by
  obtain ⟨ns, t, l, h1, h2, h3, h4⟩ := o
  exact ⟨_, h2⟩
/-- all that was tracked is as it was, but what stands at p -/
def But (p : Addr) (H H' : Hp) : Prop := ∀ q o, H q = some o → q ≠ p → H' q = some o
theorem But.refl {p : Addr} {H : Hp} : But p H H := fun _ _ h _ => h
theorem But.of {p : Addr} {H H' : Hp} (s : Same H H') : But p H H' := fun q o h _ => s q o h
theorem But.trans {p : Addr} {H H1 H2 : Hp} (a : But p H H1) (b : But p H1 H2) : But p H H2 := fun q o h n => b q o (a q o h n) n
theorem same_new {H : Hp} {l : Addr} {o : HO} (h : H l = none) : Same H (upd H l o) := fun b u e => by
  rw [upd_ne (ne_of_none e h)]
  exact e
theorem but_at {H : Hp} {p : Addr} {o : HO} : But p H (upd H p o) := fun q u e n => by
  rw [upd_ne n]
  exact e
/-- a draw from many: some number below many; the lot goes on -/
def spDraw : Sp := fun vs H Q _ => ∃ (p b : Addr) (n : Nat) (many : Int), vs = [.ref p, .int many] ∧ Orch H p b n ∧ n < 1000000 ∧ 0 < many ∧ many.natAbs < 2 ^ 9000 ∧
  ∀ (r : Int) (H' : Hp), 0 ≤ r → r < many → Orch H' p b (n + 1) → But p H H' → Q (.int r) H'
/-- the lot is made of a list of ints -/
def spLot (K : PySem.W.Frag) : Sp := fun vs H Q _ => ∃ (a : Addr) (ns : List Int), vs = [.ref a] ∧ SqL K H a (ns.map V.int) ∧ ns.length ≤ 63 ∧
  ∀ (p b : Addr) (H' : Hp), H p = none → H b = none → Orch H' p b 0 → Same H H' → Q (.ref p) H'
theorem mix1 {x t A B m : Int} (hm : 0 < m) (hm2 : m < 2 ^ 31) (ht : 0 ≤ t) (ht2 : t ≤ 1000000) (hA : 0 ≤ A) (hA2 : A ≤ 1000000) (hB : 0 ≤ B) (hB2 : B ≤ 1000000) : (x % m + A * t + B).natAbs < 2 ^ 64 := by
  have h1 := Int.emod_nonneg x (by omega : m ≠ 0)
  have h2 := Int.emod_lt_of_pos x hm
  have h3 : A * t ≤ 1000000 * 1000000 := Int.mul_le_mul hA2 ht2 ht (by decide)
  have h4 : 0 ≤ A * t := Int.mul_nonneg hA ht
  omega
theorem mix2 {x t A B C m : Int} (hm : 0 < m) (hm2 : m < 2 ^ 31) (ht : 0 ≤ t) (ht2 : t ≤ 1000000) (hA : 0 ≤ A) (hA2 : A ≤ 1000000) (hB : 0 ≤ B) (hB2 : B ≤ 1000000) (hC : 0 ≤ C) (hC2 : C ≤ 1000000) : (x % m * (2 * t + C) + A * t * t + B).natAbs < 2 ^ 64 := by
  have h1 := Int.emod_nonneg x (by omega : m ≠ 0)
  have h2 := Int.emod_lt_of_pos x hm
  have h3 : A * t ≤ 1000000 * 1000000 := Int.mul_le_mul hA2 ht2 ht (by decide)
  have h4 : 0 ≤ A * t := Int.mul_nonneg hA ht
  have h5 : A * t * t ≤ 1000000 * 1000000 * 1000000 := Int.mul_le_mul h3 ht2 ht (by decide)
  have h6 : 0 ≤ A * t * t := Int.mul_nonneg h4 ht
  have h7 : x % m * (2 * t + C) ≤ 2 ^ 31 * 3000000 := Int.mul_le_mul (by omega) (by omega) (by omega) (by decide)
  have h8 : 0 ≤ x % m * (2 * t + C) := Int.mul_nonneg h1 (by omega)
  omega
theorem mod_lim {x m : Int} (hm : 0 < m) (hm2 : m < 2 ^ 31) : -(2 ^ 64) < x % m ∧ x % m < 2 ^ 64 := by
  have h1 := Int.emod_nonneg x (by omega : m ≠ 0)
  have h2 := Int.emod_lt_of_pos x hm
  omega
theorem dp_ints {K : PySem.W.Frag} {H : Hp} : ∀ ns : List Int, DpAll K H (ns.map V.int) (ns.map PyData.int)
  | [] => .nil
  | n :: r => .cons (.int n) (dp_ints r)
theorem lay_ints : ∀ ns : List Int, PyData.canLayAll0 (ns.map PyData.int) = true
  | [] => by simp [PyData.canLayAll0]
  | n :: r => by simp [PyData.canLayAll0, PyData.canLay0, lay_ints r]
theorem deep_ints : ∀ ns : List Int, PyData.depthAll (ns.map PyData.int) ≤ 1
  | [] => by simp [PyData.depthAll]
  | n :: r => by
    have h := deep_ints r
    simp [PyData.depthAll, PyData.depth]
    omega
theorem shaped_ints (ns : List Int) : SeqAt.shaped (.list (ns.map PyData.int)) = true := by
  have h := deep_ints ns
  unfold SeqAt.shaped
  rw [Bool.and_eq_true]
  refine ⟨by simp [PyData.canLay0, lay_ints], decide_eq_true ?_⟩
  simp [PyData.depth]
  omega
theorem eqv_nil (ns : List Int) : PyData.eqv (.list (ns.map PyData.int)) (.list []) = decide (ns = []) := by
  cases ns with
  | nil => simp [PyData.eqv, PyData.eqvAll]
  | cons n r => simp [PyData.eqv, PyData.eqvAll]

/-! ### kinds of values: is it an integer -/
/-- x is of a kind of which isinstance(x, int) and not isinstance(x, bool) is b -/
def IsI (K : PySem.W.Frag) (H : Hp) (x : V) (b : Bool) : Prop := ∃ (n : String) (b1 b2 : Bool), TyX K H x (.type n) ∧ kitB n "int" = some b1 ∧ kitB n "bool" = some b2 ∧ b = (b1 && !b2)
section
variable {K : PySem.W.Frag} {H : Hp}
theorem isI_int (i : Int) : IsI K H (.int i) true := ⟨"int", true, false, .base (.int i), by decide +kernel, by decide +kernel, rfl⟩
theorem isI_non : IsI K H .non false := ⟨"NoneType", false, false, .base .non, by decide +kernel, by decide +kernel, rfl⟩
theorem isI_bl (b : Bool) : IsI K H (.bl b) false := ⟨"bool", true, true, .base (.bl b), by decide +kernel, by decide +kernel, rfl⟩
theorem isI_str (x : Str) : IsI K H (.str x) false := ⟨"str", false, false, .base (.str x), by decide +kernel, by decide +kernel, rfl⟩
theorem isI_lst {a : Addr} {xs : List V} (e : H a = some (.lst xs)) : IsI K H (.ref a) false := ⟨"list", false, false, .base (.lst e), by decide +kernel, by decide +kernel, rfl⟩
theorem isI_tup {a : Addr} {xs : List V} (e : H a = some (.tup xs)) : IsI K H (.ref a) false := ⟨"tuple", false, false, .base (.tup e), by decide +kernel, by decide +kernel, rfl⟩
theorem isI_dK {a : Addr} {kvs : List (Key × V)} (e : H a = some (.dK kvs)) : IsI K H (.ref a) false := ⟨"dict", false, false, .base (.dK e), by decide +kernel, by decide +kernel, rfl⟩
theorem isI_true {x : V} (h : IsI K H x true) : ∃ i, x = .int i := by
  obtain ⟨n, b1, b2, ty, e1, e2, e3⟩ := h
  have c1 : b1 = true := by
    cases b1
    · simp at e3
    · rfl
  have c2 : b2 = false := by
    cases b2
    · rfl
    · simp [c1] at e3
  subst c1 c2
  have no : ∀ {m : String}, kitB m "int" ≠ some true ∨ kitB m "bool" ≠ some false → n = m → False := fun h e => by
    subst e
    exact h.elim (fun z => z e1) fun z => z e2
  cases ty with
  | base h =>
    cases h with
    | int i => exact ⟨i, rfl⟩
    | non => exact (no (m := "NoneType") (.inl (by decide +kernel)) rfl).elim
    | bl b => exact (no (m := "bool") (.inr (by decide +kernel)) rfl).elim
    | str b => exact (no (m := "str") (.inl (by decide +kernel)) rfl).elim
    | flt b => exact (no (m := "float") (.inl (by decide +kernel)) rfl).elim
    | lst e => exact (no (m := "list") (.inl (by decide +kernel)) rfl).elim
    | frz e => exact (no (m := "list") (.inl (by decide +kernel)) rfl).elim
    | tup e => exact (no (m := "tuple") (.inl (by decide +kernel)) rfl).elim
    | dK e => exact (no (m := "dict") (.inl (by decide +kernel)) rfl).elim
    | dT e => exact (no (m := "dict") (.inl (by decide +kernel)) rfl).elim
  | byt b => exact (no (m := "bytes") (.inl (by decide +kernel)) rfl).elim
  | set e => exact (no (m := "set") (.inl (by decide +kernel)) rfl).elim
  | kList e c => exact (no (m := "list") (.inl (by decide +kernel)) rfl).elim
  | kTuple e c => exact (no (m := "tuple") (.inl (by decide +kernel)) rfl).elim
  | kDict e c => exact (no (m := "dict") (.inl (by decide +kernel)) rfl).elim
  | fTuple e => exact (no (m := "tuple") (.inl (by decide +kernel)) rfl).elim
  | fDict e => exact (no (m := "dict") (.inl (by decide +kernel)) rfl).elim
end
/-- a bound: an int or none -/
def oV : Option Int → V
  | none => .non
  | some i => .int i
def loOk (lo : Option Int) (i : Int) : Bool := match lo with
  | none => true
  | some l => decide (l ≤ i)
def hiOk (hi : Option Int) (i : Int) : Bool := match hi with
  | none => true
  | some h => decide (i ≤ h)
/-- an int within bounds -/
def inB (lo hi : Option Int) : V → Bool
  | .int i => loOk lo i && hiOk hi i
  | _ => false
def spIsInt (K : PySem.W.Frag) : Sp := fun vs H Q _ => ∃ (x : V) (b : Bool), vs = [x] ∧ IsI K H x b ∧ Q (.bl b) H
def spWithin (K : PySem.W.Frag) : Sp := fun vs H Q _ => ∃ (x : V) (lo hi : Option Int) (b : Bool), vs = [x, oV lo, oV hi] ∧ IsI K H x b ∧ Q (.bl (b && inB lo hi x)) H
/-- what raises the error at C, with its part, else returns None -/
def RaisesP (C : Addr) (part : Str) (E : XK) (H : Hp) : Prop := ∀ d, H d = none → E (.ref C) (some d) (upd H d (.xd [(("part" : Str), .str part)]))
def spNeedNumber (K : PySem.W.Frag) (C : Addr) : Sp := fun vs H Q E => ∃ (x : V) (part : Str) (lo hi : Option Int) (b : Bool), vs = [x, .str part, oV lo, oV hi] ∧ IsI K H x b ∧
  ((b && inB lo hi x) = true → Q .non H) ∧ ((b && inB lo hi x) = false → RaisesP C part E H)
def spNeedWord (K : PySem.W.Frag) (C : Addr) : Sp := fun vs H Q E => ∃ (x : V) (part : Str) (b : Bool), vs = [x, .str part] ∧ IsI K H x b ∧
  ((b && inB (some 0) none x) = true → Q .non H) ∧ ((b && inB (some 0) none x) = false → RaisesP C part E H)
/-- where nothing is raised the promise holds among calm ones -/
theorem calm_of {P : Program} {w : World} {K : PySem.W.Frag} {mg : Str → Option Value} {base : Heap} {k : Nat} {f : Addr} {fd : FuncData} {ps : List Str} {sp : Sp} (F : FnOk P w K mg base (L2.CX P w) k f fd ps sp) :
    FnOk P w K mg base CX0 k f fd ps (fun vs H Q _ => sp vs H Q fun _ _ _ => False) :=
  ⟨fun vs H Q E h => F.len vs H Q _ h, fun A outer s H args us vs Q E hr he hb hv hs => codeAny_mono (F.run A outer s H args us vs Q _ hr he hb hv hs) fun r s' hq => by
    cases r with
    | error e =>
      obtain ⟨_, _, _, _, _, _, _, _, _, _, _, _, z⟩ := hq
      exact z.elim
    | ok fl => cases fl <;> exact hq⟩
theorem iteB {b : Bool} {A B : Prop} (h1 : b = true → A) (h2 : b = false → B) : if b = true then A else B := by
  cases b with
  | true => exact iteT (h1 rfl)
  | false => exact iteF (h2 rfl)
end OB
set_option exponentiation.threshold 100000
/-! Own errors with one field, raised. -/
namespace OB
open PySem PySem.Spec PyProof.Rows L2
/-- a def of the text, as it stands behind the top -/
structure Df (K : PySem.W.Frag) (mg : Str → Option Value) (x : Str) (st : Stmt) (ps : List Str) (f : Addr) (fd : FuncData) : Prop where
  F : Fun K x x st f fd
  g : mg x = some (.ref f)
  b : Binds K fd ps []
/-- __init__(self, f): self.f = f of an own error -/
def spInit1 (K : PySem.W.Frag) (f : Str) : Sp := fun vs H Q _ => ∃ (a C : Addr) (v : V), vs = [.ref a, v] ∧ OexC K C ∧ PySem.W.findIn K (.ref C) f = some none ∧ H a = some (exo a C none) ∧
  ∀ dx, H dx = none → dx ≠ a → Q .non (upd (upd H dx (exd dx [(f, v)])) a (exo a C (some dx)))
section
variable {P : Program} {w : World} {K : PySem.W.Frag} {mg : Str → Option Value} {base : Heap}
theorem ok_init1 {qual : Str} {st : Stmt} {fI : Addr} {fd : FuncData} {f : Str} {p1 p2 p3 p4 : Pos} (F : Fun K "__init__" qual st fI fd) (S : FnScope ["self", f] ["self", f] (defScope st))
    (hb : defBody st = [.Assign [.Attribute (.Name "self" p1) f p2] (.Name f p3) p4])
    (hv : Vis (defScope st) f) (hs : Vis (defScope st) "self") (hd : (f == ("__debug__" : Str)) = false := by decide) (hcd : (f == ("__classdict__" : Str)) = false := by decide)
    (hsw : ∀ env : Env, swapsWith (.Name f p3) (some (.Attribute (.Name "self" p1) f p2)) p4.line env = pure false := by intro _; rfl) :
    FnOk P w K mg base CX0 1 fI fd ["self", f] (spInit1 K f) := by
  refine F.ok S (fun vs H Q E h => ?_) (fun cdv A outer s H vs Q E hr h => ?_)
  · obtain ⟨a, C, v, rfl, _⟩ := h
    rfl
  · obtain ⟨a, C, v, rfl, T, no, ha, k⟩ := h
    rw [hb]
    refine ⟨_, pss_one (ps_ost (pe_var (i := 0) rfl hs) (pe_var (i := 1) rfl hv hd hcd) (hsw _)), ?_⟩
    exact ⟨v, rfl, .ref a, rfl, a, C, rfl, T, no, .inl ⟨ha, fun dx n ne => k dx n ne⟩⟩
/-- an own error class with one field, as the top leaves it -/
structure Err (P : Program) (w : World) (K : PySem.W.Frag) (mg : Str → Option Value) (base : Heap) (x f : Str) (C fI : Addr) (fd : FuncData) : Prop where
  T : OexC K C
  iC : PySem.W.findIn K (.ref C) "__init__" = some (some (.ref fI))
  tI : PySem.W.typeIn K (.ref fI) = some (.type "function")
  F : FnOk P w K mg base CX0 1 fI fd ["self", f] (spInit1 K f)
  b : Binds K fd ["self", f] []
  g : mg x = some (.ref C)
  no : PySem.W.findIn K (.ref C) f = some none
theorem del_back {H : Hp} {a d : Addr} {o1 o2 o3 o4 : HO} (ha : H a = none) (n : d ≠ a) : upd (del (upd (upd (upd H a o1) d o2) a o3) a) d o4 = upd H d o4 := by
  funext b
  by_cases e : b = d
  · rw [e, upd_same, upd_same]
  · rw [upd_ne e, upd_ne e]
    by_cases e2 : b = a
    · rw [e2, del_same, ha]
    · rw [del_ne e2, upd_ne e2, upd_ne e, upd_ne e2]
end
/-- raise X(e) -/
def tRaise1 (K : PySem.W.Frag) (C : Addr) (f : Str) (W : WX) (te : TE) : TS := fun _ σ H => tMkO C (spInit1 K f) [] (tCons te tNil) σ H fun cls d H' => W cls d σ H'
theorem raise1_of {K : PySem.W.Frag} {C : Addr} {f : Str} {W : WX} {σ : L2.St} {H1 : Hp} {v : V} (T : OexC K C) (no : PySem.W.findIn K (.ref C) f = some none) (h : ∀ d, H1 d = none → W (.ref C) (some d) σ (upd H1 d (.xd [(f, v)]))) :
    tNil σ H1 fun xs H2 => (v :: xs).length ≤ 1000 ∧ ∀ a, H2 a = none → spInit1 K f (.ref a :: ((v :: xs) ++ [])) (upd H2 a (exo a C none))
      (fun u H3 => u = .non ∧ ∃ (d : Addr) (fs : List (Str × V)), H3 a = some (exo a C (some d)) ∧ H3 d = some (exd d fs) ∧ H2 d = none ∧ W (.ref C) (some d) σ (upd (del H3 a) d (.xd fs))) (fun _ _ _ => False) := by
  refine ⟨by show 1 ≤ 1000; decide, fun a ha => ⟨a, C, v, rfl, T, no, upd_same, fun dx nd ne => ?_⟩⟩
  rw [upd_ne ne] at nd
  refine ⟨rfl, dx, [(f, v)], upd_same, ?_, nd, ?_⟩
  · rw [upd_ne ne, upd_same]
  · rw [del_back ha ne]
    exact h dx nd
theorem ps_raise1 {X : Cx} {W : WX} {x f : Str} {C fI : Addr} {fd : FuncData} {e : Expr} {te : TE} {p p2 pos : Pos} (hc : X.calm = true) (tk : Takes X W) (R : Err X.prog X.w X.K X.mg X.base x f C fI fd) (hr : Room 2 X.A) (hg : Gl X x) (he : PE X e te)
    (hx : Passes CX0 X (fun _ _ _ => False) := by exact pass0) (hs : starEach [e] X.env = [(false, eval e X.env)] := by rfl) (hdb : (x == ("__debug__" : Str)) = false := by decide) :
    PS X (.Raise (some (.Call (.Name x p) [e] [] p2)) none pos) (tRaise1 X.K C f W te) :=
  ps_raise (pos := pos) hc tk (pmk_oex (p := p) (pos := p2) R.T R.iC R.tI R.F hr R.b .nil hx hg R.g (pa_cons he pa_nil hs) hdb hs)
section
variable {X : Cx}
/-- 1 << k -/
theorem op_oneN : OpR X (binaryOp .LShift) (fun x y H Q => ∃ k : Nat, x = .int 1 ∧ y = .int (k : Int) ∧ k ≤ 1000000 ∧ Q (.int ((2 ^ k : Nat) : Int)) H) := by
  intro pins s σ H x y v u Q I rx ry h
  obtain ⟨k, rfl, rfl, c, q⟩ := h
  refine op_shl pins s σ H _ _ v u Q I rx ry ⟨_, _, rfl, rfl, ⟨Int.natCast_nonneg _, by omega, by decide⟩, ?_⟩
  have e : (1 : Int) * 2 ^ ((k : Int)).toNat = ((2 ^ k : Nat) : Int) := by
    rw [Int.one_mul, Int.toNat_natCast, Int.natCast_pow]
    rfl
  show Q (.int ((1 : Int) * 2 ^ ((k : Int)).toNat)) H
  rw [e]
  exact q
end
theorem pow_lt9 {i : Nat} (h : i ≤ 8000) : ((2 ^ i : Nat) : Int).natAbs < 2 ^ 9000 := by
  rw [Int.natAbs_natCast]
  exact Nat.pow_lt_pow_right (by decide) (by omega)
section
variable {X : Cx} {CX : CXT} {k : Nat} {f : Addr} {fd : FuncData} {ps ks : List Str} {sp : Sp} {E : XK} {x : Str} {p pos : Pos} {kws : List Keyword} {tk : TA} {g : List Value → List Value → List Value} {gV : List V → List V → List V}
/-- f(k = v, ..): keywords alone -/
theorem pe_callKo (F : FnOk X.prog X.w X.K X.mg X.base CX k f fd ps sp) (hr : Room k X.A) (hg : Gl X x) (hm : X.mg x = some (.ref f)) (hk : PySem.W.keepIn X.K (.ref f) = true) (hb : KBinds X.K fd ps ks g gV) (hx : Passes CX X E)
    (hkw : PK X kws tk) (hall : (backToKw pos (keywordEach kws X.env)).all (·.1.isSome) = true := by rfl) (hks : (backToKw pos (keywordEach kws X.env)).filterMap (·.1) = ks := by rfl)
    (hdb : (x == ("__debug__" : Str)) = false := by decide)
    (hpl : ((backTo pos (starEach [] X.env)).any (·.1) || (backToKw pos (keywordEach kws X.env)).any (·.1.isNone)) = false := by rfl) :
    PE X (.Call (.Name x p) [] kws pos) (tCallK sp gV E tNil tk) := by
  refine ⟨fun pins s σ H Q I h => ?_⟩
  refine wpAny_Call_Name_kw (ld_glob I hg hm ?_ hdb)
  refine PySem.W.callWith_KW0 (h₀ := X.base) I.ok.mod.kin hk hall ?_ hpl
  refine thn (hkw.run pos pins s σ H _ I h) fun ws s2 ⟨zs, H2, I2, rz, q2⟩ => ⟨I2.kIn, ?_⟩
  rw [hks]
  exact run_fnk (us := []) F hr hb hx I2 .nil rz q2
end
/-- how the keywords of a def without defaults bind -/
theorem kbinds {K : PySem.W.Frag} {x qual : Str} {st : Stmt} {f : Addr} {fd : FuncData} {ps ks : List Str} {g : List Value → List Value → List Value} {gV : List V → List V → List V} (F : Fun K x qual st f fd)
    (h : ∀ (kV doc pm : Value) (an : Option Addr) (cdv ct : Value) (us ws : List Value), (g us ws).length = ps.length → bindArgs (PySem.W.fnOf x qual (defArgs st) (defBody st) (defScope st) .none kV doc pm an cdv ct) ⟨us, ks.zip ws⟩ = pure (ps.zip (g us ws)))
    (r : ∀ {vs : List V} {us : List Value} {zs : List V} {ws : List Value}, Vals vs us → Vals zs ws → Vals (gV vs zs) (g us ws)) : KBinds K fd ps ks g gV := by
  obtain ⟨oc, od, kV, doc, pm, an, cdv, ct, osl, rfl, lk, hcd⟩ := F.ex
  exact ⟨fun s us ws _ hl => .of_eq (h kV doc pm an cdv ct us ws hl), r⟩
theorem inB_nat (m : Nat) : inB (some 0) none (.int (m : Int)) = true := by
  show (decide ((0 : Int) ≤ (m : Int)) && true) = true
  rw [decide_eq_true (Int.natCast_nonneg m)]
  rfl
/-- isinstance asks by the table of classes -/
theorem kit_sub {K : PySem.W.Frag} {t : Value} {C : Addr} {b : Bool} (h1 : PySem.W.isClsIn K C = true) (h2 : PySem.W.typeIn K (.ref C) = some (.type "type")) (self : PySem.W.subIn K (.ref C) (.ref C) = some true) (h : PySem.W.subIn K t (.ref C) = some b) :
    PySem.W.kitOne K t (.ref C) = some b := by
  unfold PySem.W.kitOne
  by_cases e : (t == Value.ref C) = true
  · rw [if_pos e]
    have e2 : t = Value.ref C := beq_iff_eq.mp e
    subst e2
    rw [self] at h
    exact h
  · rw [if_neg e]
    have h1' : (PySem.W.clsIn K C).isSome = true := h1
    show (if ((PySem.W.clsIn K C).isSome && PySem.W.typeIn K (.ref C) == some (.type "type")) = true then PySem.W.subIn K t (.ref C) else none) = some b
    rw [h1', h2]
    exact h
end OB
/-! f'{n:b}' of a number from 0 on. -/
namespace OB
open PySem PySem.Spec PyProof.Rows L2
def binT (n : Nat) : Str := ⟨((Nat.toDigits 2 n).map fun c => c.toNat).toArray⟩
def spB : Str := Str.ofString "b"
section
open PySem.Builtin PySem.Builtin.Str PySem.Builtin.Int PySem.Builtin.Float
def fsB : FormatSpec := { align := 62, type := some 98 }
theorem fsB_ok : parseFormatSpec spB.cps.toList "int" 62 = .ok fsB := by kernel_rfl
theorem fsB_is : fsB.type = some 98 ∧ fsB.precision = none ∧ fsB.noNeg0 = false ∧ fsB.alt = false ∧ fsB.width = none ∧ fsB.grouping = none ∧ fsB.sign = none ∧ fsB.align = 62 ∧ fsB.fill = 32 := by decide +kernel
variable {prog : Program} {w : World} {A : Around} {E : Value → Shared → Prop} {s : Shared}
theorem digits_ne (n : Nat) : (Nat.toDigits 2 n).map (fun c => c.toNat) ≠ [] := by
  intro z
  have z := List.map_eq_nil_iff.mp z
  have := @Nat.length_toDigits_pos 2 n
  rw [z] at this
  exact absurd this (by decide)
theorem formatField_b {n : Nat} {t : Tok} {Q : Value → Shared → Prop} (hlen : (binT n).length ≤ sizeLine)
    (h : Q (.str (binT n) (s.toks + 1)) { s with toks := s.toks + 1 + 1 }) : wpAny (model prog w) A (formatField (.int (n : Int) t) spB) Q E s := by
  obtain ⟨hty, hpr, hz, hal, hw, hgr, hsg, hali, hfi⟩ := fsB_is
  have hp := fsB_ok
  generalize fsB = f at hty hpr hz hal hw hgr hsg hali hfi hp
  have hne : (spB.length == 0) = false := by decide
  have hasc : ((spB.cps.toList.drop 1).any (· ≥ 128) || (spB.cps.getD 0 0 ≥ 128 && !([60, 62, 61, 94] : List Nat).contains (spB.cps.getD 1 0))) = false := by decide
  show wpAny _ _ (holding [.int (n : Int) t] (pyFormat (.int (n : Int) t) spB)) Q E s
  refine wpAny_holding ?_
  unfold pyFormat
  refine wpAny_bind (wpAny_mkStr ?_ (by decide))
  refine wpAny_bind (m := callSpecial? (.int (n : Int) t) (Str.ofString "__format__") [.str spB s.toks]) (wpAny_callSpecial?_slot (name := Str.ofString "__format__") (typeIs_int _ (n : Int) t) slot_int_format ?_)
  refine wpAny_call (codeAny_call_builtin slot_int_format.plain entry_int_format (slot_int_format.check _ _ _ _ _ _ _ _ (typeIs_int _ (n : Int) t) (args_int_format _ _) ?_))
  unfold Builtin.«int.__format__»
  simp only [selfAndOne, noKeywords, Int.intOfSelf, asInt?, asStr?, List.isEmpty_nil, if_true, pure_bind, bind_pure, bind_assoc, hne, hasc, Bool.false_eq_true, if_false,
    show (Value.str spB s.toks == Value.none) = false from rfl]
  refine wpAny_bind (wpAny_typeNameOf (T := "str") (typeIs_str _ _ _) (by decide) fun _ => ?_)
  first | refine wpAny_bind (wpAny_typeNameOfCut_int ?_) | refine wpAny_bind (wpAny_typeNameOf_int ?_)
  simp only [hp, hty, Option.getD_some]
  rw [if_pos (by decide)]
  show wpAny _ _ (if _ then _ else _) _ _ _
  rw [if_neg (by simp [hpr])]
  show wpAny _ _ (if _ then _ else _) _ _ _
  rw [if_neg (by simp [hz])]
  show wpAny _ _ (if _ then _ else _) _ _ _
  rw [if_neg (by decide)]
  show wpAny _ _ (if _ then _ else _) _ _ _
  rw [if_neg (by decide)]
  show wpAny _ _ (if _ then _ else _) _ _ _
  rw [if_neg (by rw [hw]; decide)]
  have hneg : decide ((n : Int) < 0) = false := decide_eq_false (by omega)
  have key : ∀ z : Str, z = binT n → ∀ {Q' : Value → Shared → Prop} {E'} {s'} {A'}, Q' (.str (binT n) s'.toks) { s' with toks := s'.toks + 1 } → wpAny (model prog w) A' (retStr z) (fun fin s'' => ∃ v, fin = .done (.ret v) ∧ Q' v s'') E' s' := by
    intro z hz Q' E' s' A' hq
    subst hz
    unfold retStr
    exact wpAny_bind (wpAny_mkStr (wpAny_pure ⟨_, rfl, hq⟩) hlen)
  refine wpAny_mono (key _ ?_ (Q' := fun v s'' => v = .str (binT n) (s.toks + 1) ∧ s'' = { s with toks := s.toks + 1 + 1 }) ⟨rfl, rfl⟩) (fun fin s'' hh => ?_) (fun _ _ x => x)
  · simp only [hneg, hal, Bool.false_eq_true, if_false, Int.natAbs_natCast, show ((98 : Nat) == 88) = false from rfl, show ((2 : Nat) == 10) = false from rfl]
    have hd : ((Nat.toDigits 2 n).map fun c => c.toNat).isEmpty = false := by
      cases e : (Nat.toDigits 2 n).map fun c => c.toNat with
      | nil => exact absurd e (digits_ne n)
      | cons a r => rfl
    have z : ∀ k : Nat, ((-1 : Int) - 0 - (k : Int)).toNat = 0 := fun k => by omega
    have z2 : ∀ k : Nat, (0 : Nat) - k = 0 := fun k => by omega
    have z3 : ∀ k : Nat, ((-1 : Int) - (k : Int)).toNat = 0 := fun k => by omega
    clear key h hlen hp hne hasc
    unfold binT
    generalize ((Nat.toDigits 2 n).map fun c => c.toNat) = ds at hd ⊢
    cases f with
    | mk fill align sign noNeg0 alt width grouping precision type =>
      simp only at hgr hw hsg hali hfi hal hty hpr hz
      subst hgr hw hsg hali hfi hal hty hpr hz
      conv => lhs; whnf
      simp [z, z2, z3, hd]
  · obtain ⟨v, rfl, rfl, rfl⟩ := hh
    exact wpAny_bind (wpAny_isInstance (typeIs_str _ _ _) isSubtype_str_str (wpAny_pure h))
end
section
variable {X : Cx}
/-- f'{e:b}' -/
def tFmtB (te : TE) : TE := fun σ H Q => te σ H fun x H1 => ∃ n : Nat, x = .int (n : Int) ∧ (binT n).length ≤ sizeLine ∧ Q (.str (binT n)) H1
theorem pe_fmtB {e : Expr} {te : TE} {k : Nat} {p1 p2 p3 p4 : Pos} (he : PE X e te) : PE X (.JoinedStr [.FormattedValue e (-1) (some (.JoinedStr [.Constant (.str "b") k p1] p2)) p3] p4) (tFmtB te) := by
  refine pe_joined1 ⟨fun pins s σ H Q I h => ?_⟩
  refine wpAny_FormattedValue_spec (thn (he.run pins s σ H _ I h) fun v s1 ⟨x, H1, I1, r1, n, ex, hz, q⟩ => ?_)
  subst ex
  obtain ⟨t, rfl⟩ := r1
  refine thn ((pe_joined1 (pos := p2) (pe_str (X := X) (x := Str.ofString "b") (j := k) (pos := p1))).run pins s1 σ H1 (fun v H' => v = .str spB ∧ H' = H1) I1 ⟨rfl, rfl⟩) fun u s2 ⟨y, H2, I2, r2, e1, e2⟩ => ?_
  subst e1
  rw [e2] at I2
  obtain ⟨t2, rfl⟩ := r2
  exact ⟨spB, t2, rfl, formatField_b hz ⟨.str (binT n), H1, I2.tok _, ⟨_, rfl⟩, q⟩⟩
end
end OB
/-! enumerate of a text, enumerate of a list from its end. -/
namespace OB
open PySem PySem.Spec PyProof.Rows L2
/-- enumerate(text): each sign in a new pair -/
def Ites (x : Str) : It :=
  ⟨fun i _ => i < x.cps.size, fun i H v H' => ∃ T c, v = .ref T ∧ H T = none ∧ x.cps[i]? = some c ∧ H' = upd H T (.tup [.int (i : Nat), .str ⟨#[c]⟩]), fun i _ => x.cps.size ≤ i⟩
theorem turn_enumS {P : Program} {w : World} {K : PySem.W.Frag} {elts : List Expr} {kk : Nat} {tpos : Pos} (x : Str) (t : Tok) (e it : Addr) :
    Turn P w K (.Tuple elts kk tpos) (Ites x) [e, it] e (fun i h => (∃ old, IsEnum h e it ((i : Nat) : Int) old) ∧ h.IsStrIter it (strIterType x) x t i ∧ e ≠ it ∧ i ≤ x.cps.size) where
  mem := by simp
  obj := fun i h st b hb => by
    obtain ⟨⟨old, he⟩, ⟨o, ho, hc, hd⟩, _⟩ := st
    have e' : b = e ∨ b = it := by simpa using hb
    rcases e' with z | z
    · rw [z]; exact ⟨_, he, fun v q => nomatch q⟩
    · rw [z]; exact ⟨o, ho, fun v q => by rw [hd] at q; cases q⟩
  keep := fun i h h' st k => let ⟨⟨old, he⟩, ⟨o, ho, r⟩, hne⟩ := st; ⟨⟨old, k e (by simp) _ he⟩, ⟨o, k it (by simp) o ho, r⟩, hne⟩
  item := by
    intro X hP hw hK hc i pins s σ H E I hf st hg
    subst hP hw hK
    obtain ⟨⟨old, he⟩, hit, hne, hle⟩ := st
    have hg : i < x.cps.size := hg
    have hel : e < s.heap.objs.size := Heap.lt_size he
    have hil : it < s.heap.objs.size := by obtain ⟨_, q, _⟩ := hit; exact Heap.lt_size q
    have D : Draws X.prog X.w X.A.in1 it [it] x.cps.size (fun i v => ∃ c u, x.cps[i]? = some c ∧ v = .str ⟨#[c]⟩ u) (fun i h => h.IsStrIter it (strIterType x) x t i) := by
      unfold strIterType
      split
      · exact Draws.strAscii (A := X.A.in1) (I.ok.hd hc) it x t
      · exact Draws.strWide (A := X.A.in1) (I.ok.hd hc) it x t
    refine wpAny_pyNext_enum_itemD D he hit hg hne (by simpa using hne) fun v h' tk hv ho hit' hT hsz hk => ?_
    obtain ⟨c, u, hcx, rfl⟩ := hv
    refine ⟨_, rfl, wpAny_letOwnedTupleGo_enum (s := { s with heap := h', toks := tk + 1 }) ho fun h'' he' sb => ?_⟩
    have hT2 : h''.get? s.heap.objs.size = some { cls := .type "tuple", data := .seq #[.int i tk, .str ⟨#[c]⟩ u] } := (sb.2 _ (Nat.ne_of_gt hel)).trans hT
    have new : ObjOk X.prog X.w (upd H s.heap.objs.size (.tup [.int (i : Nat), .str ⟨#[c]⟩])) h'' s.heap.objs.size (.tup [.int (i : Nat), .str ⟨#[c]⟩]) :=
      ⟨by show 2 ≤ sizeLine; decide, [.int i tk, .str ⟨#[c]⟩ u], .cons ⟨_, rfl⟩ (.cons ⟨_, rfl⟩ .nil), ⟨_, hT2, rfl, _, rfl⟩⟩
    have I1 : Inv X pins σ (upd H s.heap.objs.size (.tup [.int (i : Nat), .str ⟨#[c]⟩])) { s with heap := h'', toks := tk + 1 } :=
      I.turnedNew (ch := [e, it]) (fun b ob hb q => (sb.2 b (fun z => hb (by simp [z]))).trans (hk b ob (fun z => hb (by simp [z])) (fun z => hb (by simp [z])) q)) hf (Nat.le_refl _) new
    refine ⟨.ref s.heap.objs.size, _, I1, rfl, ⟨_, c, rfl, I.hok.fresh (Nat.le_refl _), hcx, rfl⟩, ⟨⟨.str ⟨#[c]⟩ u, ?_⟩, ?_, hne, hg⟩, fun b hb => ?_⟩
    · have e1 : ((i + 1 : Nat) : Int) = (i : Int) + 1 := by omega
      rw [e1]; exact he'
    · obtain ⟨o, q, r⟩ := hit'
      exact ⟨o, (sb.2 it (Ne.symm hne)).trans q, r⟩
    · have hb' : b < s.heap.objs.size := by
        have e' : b = e ∨ b = it := by simpa using hb
        rcases e' with z | z
        · rw [z]; exact hel
        · rw [z]; exact hil
      rw [upd_ne (Nat.ne_of_lt hb')]
      exact (hf b hb).1
  done := by
    intro X hP hw hK hc i pins s σ H E I hf st hg
    subst hP hw hK
    obtain ⟨⟨old, he⟩, hit, hne, hle⟩ := st
    have hg : x.cps.size ≤ i := hg
    have ei : i = x.cps.size := Nat.le_antisymm hle hg
    subst ei
    obtain ⟨f0, f1, f2, f3, f4, f5⟩ := hf it (by simp)
    have D : Draws X.prog X.w X.A.in1 it [it] x.cps.size (fun i v => ∃ c u, x.cps[i]? = some c ∧ v = .str ⟨#[c]⟩ u) (fun i h => h.IsStrIter it (strIterType x) x t i) := by
      unfold strIterType
      split
      · exact Draws.strAscii (A := X.A.in1) (I.ok.hd hc) it x t
      · exact Draws.strWide (A := X.A.in1) (I.ok.hd hc) it x t
    exact wpAny_pyNext_enum_endD D he hit fun h' eb => ⟨rfl, I.turned (t' := s.toks) (fun b o hb q => eb b o hb q) f0 f1 f3 f4 f5⟩
  self := fun A i s Q E st h => let ⟨⟨_, he⟩, _⟩ := st; wpAny_pyIter_enum he h
def iEnumS (ta : TA) : TI := fun σ H R => ta σ H fun vs H1 => ∃ x, vs = [.str x] ∧ R (Ites x) H1
theorem pi_enumS {X : Cx} {e : Expr} {ta : TA} {p pos tpos : Pos} {elts : List Expr} {kk : Nat} (hg : Gl X "enumerate") (hm : X.mg "enumerate" = none) (ha : PA X [e] ta) (hs : starEach [e] X.env = [(false, eval e X.env)] := by rfl) :
    PI X (.Tuple elts kk tpos) (.Call (.Name "enumerate" p) [e] [] pos) (iEnumS ta) := by
  refine ⟨fun pins s σ H R I h => ?_⟩
  refine Call_ (ld_blt I hg hm boot_enumerate (PyProof.Rows.callWith_type1 (thn (ha.run pos pins s σ H _ I h) fun us s1 ⟨vs, H1, I1, r1, q1⟩ => ?_) hs rfl))
  obtain ⟨x, ex, q⟩ := q1
  subst ex
  cases r1 with
  | cons r rr =>
    cases rr
    obtain ⟨t, rfl⟩ := r
    refine call_enumerate_str fun h' he hit hsz hk => wpAny_pyIter_enum he ?_
    have I2 : Inv X pins σ H1 { s1 with heap := h' } := I1.kept (t' := s1.toks) hk
    refine ⟨s1.heap.objs.size + 1, [s1.heap.objs.size + 1, s1.heap.objs.size], _, _, H1, rfl, I2, turn_enumS x t (s1.heap.objs.size + 1) s1.heap.objs.size, ⟨⟨.none, he⟩, hit, Nat.succ_ne_self _, Nat.zero_le _⟩, fun b hb => ?_, q⟩
    have e' : b = s1.heap.objs.size + 1 ∨ b = s1.heap.objs.size := by simpa using hb
    have hle : s1.heap.objs.size ≤ b := by
      rcases e' with z | z
      · rw [z]; exact Nat.le_add_right _ _
      · rw [z]; exact Nat.le_refl _
    exact I1.fpOk hle (I1.hok.fresh hle)
theorem walk_enumS {x : Str} : Walk (Ites x) x.cps.size (fun _ => True) (YPair (fun i => some (.int (i : Nat))) (fun i => x.cps[i]?.map fun c => .str ⟨#[c]⟩)) := by
  refine ⟨fun i _ hi _ => hi, fun _ _ => Nat.le_refl _, fun i H v H' _ _ y => ?_⟩
  obtain ⟨T, c, h1, h2, h3, h4⟩ := y
  exact ⟨T, .int (i : Nat), .str ⟨#[c]⟩, h1, h2, h4, rfl, by show x.cps[i]?.map _ = _; rw [h3]; rfl⟩
end OB
namespace OB
open PySem PySem.Spec PyProof.Rows L2
open AutoSeq1 (wpAny_loadPart')
section
variable {prog : Program} {w : World} {A : Around} {E : Value → Shared → Prop} {s : Shared}
theorem nextOf_rev_item {it l : Addr} {i : Nat} {items : Array Value} {x : Value} {Q : Value → Shared → Prop} (hit : s.heap.IsRevIter it l (i : Int)) (hl : s.heap.IsList l items) (hx : items[i]? = some x)
    (hQ : ∀ h', h'.IsRevIter it l ((i : Int) - 1) → Heap.SameBut it s.heap h' → Q x { s with heap := h' }) : wpAny (model prog w) A (Builtin.SmallTypes.nextOf (.ref it)) Q E s := by
  obtain ⟨o, ho, hc, hd⟩ := id hit
  obtain ⟨ol, hol, _, nl, hdl⟩ := hl
  unfold Builtin.SmallTypes.nextOf
  refine wpAny_bind (wpAny_callSpecial?_slot (name := Str.ofString "__next__") hit.typeIs F.slot_lri_next
    (wpAny_call_entry F.slot_lri_next hit.typeIs F.entry_lri_next ?_ (F.args_lri_next_1 _)))
  unfold Builtin.«list_reverseiterator.__next__»
  refine wpAny_bind (wpAny_of_eq (a := (Value.ref it, [])) rfl ?_)
  try dsimp only
  refine wpAny_bind (wpAny_field ho hd (x := rawInt (i : Int)) rfl ?_)
  show wpAny _ _ (if (i : Int) < 0 then _ else _) _ _ s
  rw [if_neg (by omega)]
  show wpAny _ _ (field (.ref it) 0 >>= _) _ _ s
  refine wpAny_bind (wpAny_field ho hd (x := .ref l) rfl ?_)
  show wpAny _ _ (seqItems? (.ref l) >>= _) _ _ s
  refine wpAny_bind (wpAny_seqItems hol hdl ?_)
  simp only [Int.toNat_natCast, hx]
  refine wpAny_bind (wpAny_setField ho hd (by simp) ?_)
  first
  | refine wpAny_pure ⟨x, rfl, wpAny_pure (hQ _ ?_ (Heap.SameBut.update ..))⟩
  | refine wpAny_bind (wpAny_pure (wpAny_pure ⟨x, rfl, wpAny_pure (hQ _ ?_ (Heap.SameBut.update ..))⟩))
  exact ⟨_, Heap.get?_update_self _ ho (Obj.isFreed_of_fields (Obj.data_mapFields hd _)), (Obj.cls_mapFields ..).trans hc, by
    rw [Obj.data_mapFields hd]; simp⟩
theorem nextOf_rev_end {it l : Addr} {Q : Value → Shared → Prop} (hh : A.handled = none) (hit : s.heap.IsRevIter it l (-1))
    (hE : ∀ h' e, Heap.ExtBut it s.heap h' → (∃ o, h'.get? e = some o ∧ o.cls = .type "StopIteration") → E (.ref e) { s with heap := h' }) :
    wpAny (model prog w) A (Builtin.SmallTypes.nextOf (.ref it)) Q E s := by
  obtain ⟨o, ho, hc, hd⟩ := id hit
  unfold Builtin.SmallTypes.nextOf
  refine wpAny_bind (wpAny_callSpecial?_slot (name := Str.ofString "__next__") hit.typeIs F.slot_lri_next
    (wpAny_call_entry F.slot_lri_next hit.typeIs F.entry_lri_next ?_ (F.args_lri_next_1 _)))
  unfold Builtin.«list_reverseiterator.__next__»
  refine wpAny_bind (wpAny_of_eq (a := (Value.ref it, [])) rfl ?_)
  try dsimp only
  refine wpAny_bind (wpAny_field ho hd (x := rawInt (-1)) rfl ?_)
  show wpAny _ _ (if (-1 : Int) < 0 then _ else _) _ _ s
  rw [if_pos (by decide)]
  refine wpAny_bind (wpAny_rule ?_)
  first
  | show wpAny _ _ (newExc (.type "StopIteration") [] >>= _) _ _ _
  | (refine wpAny_bind ?_; show wpAny _ _ (newExc (.type "StopIteration") [] >>= _) _ _ _)
  refine wpAny_bind ?_
  simp only [newExc, newTuple]
  refine wpAny_bind (wpAny_newObj_type ?_ (by size_fits))
  refine wpAny_bind (m := firstArgMember _ _) (wpAny_of_eq (a := Value.none) (by first | rfl | (simp only [firstArgMember]; rfl)) ?_)
  refine wpAny_newObj_type ?_ (by size_fits)
  simp only [raiseNew]
  refine wpAny_bind (wpAny_handled ?_)
  first | rw [show A.in1.handled = none from hh] | rw [hh]
  refine wpAny_bind (wpAny_pure (wpAny_throw ?_))
  exact hE _ _ (((Heap.ExtBut.refl _ _).push _).push _) ⟨_, Heap.get?_push_size _ rfl, rfl⟩
end
theorem drawsRev {prog : Program} {w : World} {A : Around} (hh : A.handled = none) (it l : Addr) (hne : l ≠ it) (items : Array Value) :
    Draws prog w A it [it, l] items.size (fun i v => items[items.size - 1 - i]? = some v) (fun i h => i ≤ items.size ∧ h.IsRevIter it l ((items.size : Int) - 1 - (i : Int)) ∧ h.IsList l items) where
  live := fun _ _ st => let ⟨_, ⟨o, ho, _⟩, _⟩ := st; ⟨o, ho⟩
  frame := fun _ _ _ x hk => ⟨x.1, x.2.1.at fun o e => hk it (by simp) o e, x.2.2.at fun o e => hk l (by simp) o e⟩
  item := fun i s Q E hi x hQ => by
    have e : (items.size : Int) - 1 - (i : Int) = ((items.size - 1 - i : Nat) : Int) := by omega
    have hit := x.2.1
    rw [e] at hit
    have hx : items[items.size - 1 - i]? = some (items[items.size - 1 - i]'(by omega)) := Array.getElem?_eq_getElem (by omega)
    refine nextOf_rev_item hit x.2.2 hx fun h' hit' hs' => ?_
    have e2 : ((items.size - 1 - i : Nat) : Int) - 1 = (items.size : Int) - 1 - ((i + 1 : Nat) : Int) := by omega
    rw [e2] at hit'
    exact hQ _ h' s.toks hx ⟨hi, hit', x.2.2.at fun o eo => (hs'.2 l hne).trans eo⟩ hs'
  done := fun s Q E x hE => by
    have e : (items.size : Int) - 1 - (items.size : Int) = -1 := by omega
    have hit := x.2.1
    rw [e] at hit
    exact nextOf_rev_end hh hit hE
theorem meets_enumerate_newR (l it : Addr) (i : Int) :
    Meets (Builtin.«enumerate.__new__» ⟨[.type "enumerate", .ref it], []⟩) (fun _ R s => s.heap.get? it = some (revObj l i) ∧
      R (.ok (.ret (.ref s.heap.objs.size)))
        { s with heap := s.heap.push { cls := .type "enumerate", data := .fields #[.none, .bool false, .ref it, rawInt 0, .none, .none] } }) :=
  .of_wp fun prog w A R s h => by
    obtain ⟨hp, g, d, tk, os⟩ := s; obtain ⟨hl, h⟩ := h
    have hsub := sub_enumerate
    have hL : Heap.IsRevIter (Shared.heap ⟨hp, g, d, tk, os⟩) it l i := ⟨_, hl, rfl, rfl⟩
    wp_walk using wpAny_loadPart' hl
    refine wpAny_stack_any fun st => wpAny_pure ?_
    split
    · rename_i c _ _ _ _ _
      cases (c == Value.type "enumerate")
      · wp_walk using wpAny_loadPart' hl, wpAny_pyIter_revIter hL
        exact ⟨_, rfl, h⟩
      · wp_walk using wpAny_loadPart' hl, wpAny_pyIter_revIter hL
        exact ⟨_, rfl, h⟩
    · wp_walk using wpAny_loadPart' hl, wpAny_pyIter_revIter hL
      exact ⟨_, rfl, h⟩
end OB
namespace OB
open PySem PySem.Spec PyProof.Rows L2
/-- enumerate(reversed(list)): the list at a keeps its n items -/
def Iter (K : PySem.W.Frag) (a : Addr) (n : Nat) : It :=
  ⟨fun i H => ∃ (xs : List V) (x : V), SqL K H a xs ∧ xs.length = n ∧ i < n ∧ xs[n - 1 - i]? = some x, fun i H v H' => ∃ T x, v = .ref T ∧ H T = none ∧ H' = upd H T (.tup [.int (i : Nat), x]) ∧ ∀ xs, SqL K H a xs → xs[n - 1 - i]? = some x,
    fun i H => ∃ xs : List V, SqL K H a xs ∧ xs.length = n ∧ n ≤ i⟩
theorem turn_enumR {P : Program} {w : World} {K : PySem.W.Frag} {elts : List Expr} {kk : Nat} {tpos : Pos} (a e it : Addr) (n : Nat) (hae : a ≠ e) (hai : a ≠ it) :
    Turn P w K (.Tuple elts kk tpos) (Iter K a n) [e, it] e (fun i h => (∃ old, IsEnum h e it ((i : Nat) : Int) old) ∧ h.IsRevIter it a ((n : Int) - 1 - (i : Nat)) ∧ e ≠ it ∧ i ≤ n) where
  mem := by simp
  obj := fun i h st b hb => by
    obtain ⟨⟨old, he⟩, ⟨o, ho, hc, hd⟩, _⟩ := st
    have e' : b = e ∨ b = it := by simpa using hb
    rcases e' with z | z
    · rw [z]; exact ⟨_, he, fun v q => nomatch q⟩
    · rw [z]; exact ⟨o, ho, fun v q => by rw [hd] at q; cases q⟩
  keep := fun i h h' st k => let ⟨⟨old, he⟩, hi, hne⟩ := st; ⟨⟨old, k e (by simp) _ he⟩, hi.at fun o q => k it (by simp) o q, hne⟩
  item := by
    intro X hP hw hK hc i pins s σ H E I hf st hg
    subst hP hw hK
    obtain ⟨⟨old, he⟩, hit, hne, hle⟩ := st
    obtain ⟨xs, x, hq, hn, hin, hx⟩ := hg
    subst hn
    obtain ⟨its, rv, p, hz⟩ := I.list hq
    have hlen := rv.length
    obtain ⟨u, hu, ru⟩ := rv.get hx
    have hel : e < s.heap.objs.size := Heap.lt_size he
    have hil : it < s.heap.objs.size := by obtain ⟨_, q, _⟩ := hit; exact Heap.lt_size q
    have hsz : its.toArray.size = xs.length := by rw [List.size_toArray, hlen]
    have D := drawsRev (prog := X.prog) (w := X.w) (A := X.A.in1) (I.ok.hd hc) it a hai its.toArray
    refine wpAny_pyNext_enum_itemD D he ⟨by omega, by rw [hsz]; exact hit, p.isList⟩ (by omega) hne (by simp [hne, hae.symm]) fun v h' tk hv ho hit' hT hsz' hk => ?_
    have ev : v = u := by
      rw [hsz] at hv
      have h2 : its.toArray[xs.length - 1 - i]? = some u := by simpa using hu
      exact Option.some.inj (hv.symm.trans h2)
    subst ev
    refine ⟨_, rfl, wpAny_letOwnedTupleGo_enum (s := { s with heap := h', toks := tk + 1 }) ho fun h'' he' sb => ?_⟩
    have hT2 : h''.get? s.heap.objs.size = some { cls := .type "tuple", data := .seq #[.int i tk, v] } := (sb.2 _ (Nat.ne_of_gt hel)).trans hT
    have new : ObjOk X.prog X.w (upd H s.heap.objs.size (.tup [.int (i : Nat), x])) h'' s.heap.objs.size (.tup [.int (i : Nat), x]) :=
      ⟨by show 2 ≤ sizeLine; decide, [.int i tk, v], .cons ⟨_, rfl⟩ (.cons ru .nil), ⟨_, hT2, rfl, _, rfl⟩⟩
    have I1 : Inv X pins σ (upd H s.heap.objs.size (.tup [.int (i : Nat), x])) { s with heap := h'', toks := tk + 1 } :=
      I.turnedNew (ch := [e, it]) (fun b ob hb q => (sb.2 b (fun z => hb (by simp [z]))).trans (hk b ob (fun z => hb (by simp [z])) (fun z => hb (by simp [z])) q)) hf (Nat.le_refl _) new
    refine ⟨.ref s.heap.objs.size, _, I1, rfl, ⟨_, x, rfl, I.hok.fresh (Nat.le_refl _), rfl, fun ys hy => by rw [I.list_inj hy hq]; exact hx⟩, ⟨⟨v, ?_⟩, ?_, hne, hin⟩, fun b hb => ?_⟩
    · have e1 : ((i + 1 : Nat) : Int) = (i : Int) + 1 := by omega
      rw [e1]; exact he'
    · have h3 := hit'.2.1
      rw [hsz] at h3
      exact h3.at fun o q => (sb.2 it (Ne.symm hne)).trans q
    · have hb' : b < s.heap.objs.size := by
        have e' : b = e ∨ b = it := by simpa using hb
        rcases e' with z | z
        · rw [z]; exact hel
        · rw [z]; exact hil
      rw [upd_ne (Nat.ne_of_lt hb')]
      exact (hf b hb).1
  done := by
    intro X hP hw hK hc i pins s σ H E I hf st hg
    subst hP hw hK
    obtain ⟨⟨old, he⟩, hit, hne, hle⟩ := st
    obtain ⟨xs, hq, hn, hge⟩ := hg
    subst hn
    obtain ⟨its, rv, p, hz⟩ := I.list hq
    have hlen := rv.length
    have ei : i = xs.length := Nat.le_antisymm hle hge
    subst ei
    have hsz : its.toArray.size = xs.length := by rw [List.size_toArray, hlen]
    obtain ⟨f0, f1, f2, f3, f4, f5⟩ := hf it (by simp)
    have D := drawsRev (prog := X.prog) (w := X.w) (A := X.A.in1) (I.ok.hd hc) it a hai its.toArray
    exact wpAny_pyNext_enum_endD D he ⟨Nat.le_refl _, by rw [hsz]; exact hit, p.isList⟩ fun h' eb => ⟨rfl, I.turned (t' := s.toks) (fun b o hb q => eb b o hb q) f0 f1 f3 f4 f5⟩
  self := fun A i s Q E st h => let ⟨⟨_, he⟩, _⟩ := st; wpAny_pyIter_enum he h
section
variable {prog : Program} {w : World} {A : Around} {E : Value → Shared → Prop} {s : Shared}
theorem call_enumerate_rev {l it : Addr} {i : Int} {Q : Value → Shared → Prop} (hL : s.heap.get? it = some (revObj l i))
    (h : Q (.ref s.heap.objs.size) { s with heap := s.heap.push { cls := .type "enumerate", data := .fields #[.none, .bool false, .ref it, rawInt 0, .none, .none] } }) :
    wpAny (model prog w) A (call (.type "enumerate") [.ref it]) Q E s := by
  refine callType_new F.called_enumerate (by decide) (F.typeCall_enumerate_1 _) (F.newCall_enumerate_1 _) (fun obj => F.args_object_init_2 obj _) F.entry_enumerate_new
    (meets_enumerate_newR l it i) ⟨hL, ?_⟩
  exact ⟨⟨_, Heap.get?_push_size _ rfl, rfl⟩, h⟩
end
def iEnumR (K : PySem.W.Frag) (te : TE) : TI := fun σ H R => te σ H fun v H1 => ∃ (a : Addr) (xs : List V), v = .ref a ∧ SqL K H1 a xs ∧ R (Iter K a xs.length) H1
theorem pi_enumR {X : Cx} {e : Expr} {te : TE} {p pos p2 pos2 tpos : Pos} {elts : List Expr} {kk : Nat} (hg : Gl X "enumerate") (hm : X.mg "enumerate" = none) (hg2 : Gl X "reversed") (hm2 : X.mg "reversed" = none) (he : PE X e te)
    (hs : starEach [e] X.env = (false, eval e X.env) :: starEach [] X.env := by rfl)
    (hs2 : starEach [.Call (.Name "reversed" p2) [e] [] pos2] X.env = (false, eval (.Call (.Name "reversed" p2) [e] [] pos2) X.env) :: starEach [] X.env := by rfl) :
    PI X (.Tuple elts kk tpos) (.Call (.Name "enumerate" p) [.Call (.Name "reversed" p2) [e] [] pos2] [] pos) (iEnumR X.K te) := by
  refine ⟨fun pins s σ H R I h => ?_⟩
  refine Call_ (ld_blt I hg hm boot_enumerate (PyProof.Rows.callWith_type1 (args_cons ?_ hs2) hs2 rfl))
  refine Call_ (ld_blt I hg2 hm2 PyProof.Rows.boot_reversed (PyProof.Rows.callWith_type1 (args_cons (thn (he.run pins s σ H _ I h) fun u s1 ⟨v, H1, I1, r1, q1⟩ => args_nil ?_) hs) hs rfl))
  obtain ⟨a, xs, ev, hq, q⟩ := q1
  subst ev
  obtain rfl : u = Value.ref a := r1
  obtain ⟨its, rv, p', hz⟩ := I1.list hq
  have hl := rv.length
  have hal : a < s1.heap.objs.size := by obtain ⟨_, z, _⟩ := p'.isList; exact Heap.lt_size z
  have e1 : ((its.toArray.size : Nat) : Int) - 1 = (xs.length : Int) - 1 - ((0 : Nat) : Int) := by simp only [List.size_toArray]; omega
  refine call_reversed_list p'.isList (args_nil ?_)
  refine call_enumerate_rev (l := a) (i := ((its.toArray.size : Nat) : Int) - 1) (Heap.get?_push_size _ rfl) ?_
  have hz1 : (s1.heap.push (revObj a ((its.toArray.size : Nat) - 1))).objs.size = s1.heap.objs.size + 1 := Heap.size_push ..
  have he1 : IsEnum ((s1.heap.push (revObj a (((its.toArray.size : Nat) : Int) - 1))).push { cls := .type "enumerate", data := .fields #[.none, .bool false, .ref s1.heap.objs.size, rawInt 0, .none, .none] }) (s1.heap.objs.size + 1) s1.heap.objs.size 0 .none := by
    have := Heap.get?_push_size (s1.heap.push (revObj a (((its.toArray.size : Nat) : Int) - 1))) (o := { cls := .type "enumerate", data := .fields #[.none, .bool false, .ref s1.heap.objs.size, rawInt 0, .none, .none] }) rfl
    rw [hz1] at this; exact this
  show wpAny _ _ (pyIter (.ref (s1.heap.push (revObj a (((its.toArray.size : Nat) : Int) - 1))).objs.size)) _ _ _
  rw [hz1]
  refine wpAny_pyIter_enum he1 ?_
  have I2 := I1.kept (t' := s1.toks) (h' := (s1.heap.push (revObj a (((its.toArray.size : Nat) : Int) - 1))).push { cls := .type "enumerate", data := .fields #[.none, .bool false, .ref s1.heap.objs.size, rawInt 0, .none, .none] }) fun b ob z => Heap.get?_push_of_some _ (Heap.get?_push_of_some _ z)
  refine ⟨s1.heap.objs.size + 1, [s1.heap.objs.size + 1, s1.heap.objs.size], _, _, H1, rfl, I2, turn_enumR a (s1.heap.objs.size + 1) s1.heap.objs.size xs.length (Nat.ne_of_lt (Nat.lt_succ_of_lt hal)) (Nat.ne_of_lt hal), ⟨⟨.none, he1⟩, ?_, Nat.succ_ne_self _, Nat.zero_le _⟩, fun b hb => ?_, q⟩
  · rw [← e1]
    exact ⟨_, Heap.get?_push_of_some _ (Heap.get?_push_size _ rfl), rfl, rfl⟩
  · have e' : b = s1.heap.objs.size + 1 ∨ b = s1.heap.objs.size := by simpa using hb
    have hle : s1.heap.objs.size ≤ b := by
      rcases e' with z | z
      · rw [z]; exact Nat.le_add_right _ _
      · rw [z]; exact Nat.le_refl _
    exact I1.fpOk hle (I1.hok.fresh hle)
theorem walk_enumR {K : PySem.W.Frag} {a : Addr} {xs : List V} : Walk (Iter K a xs.length) xs.length (fun H => SqL K H a xs) (YPair (fun i => some (.int (i : Nat))) (fun i => xs[xs.length - 1 - i]?)) := by
  refine ⟨fun i _ hi q => ⟨xs, xs[xs.length - 1 - i]'(by omega), q, rfl, hi, by simp [show xs.length - 1 - i < xs.length by omega]⟩, fun _ q => ⟨xs, q, rfl, Nat.le_refl _⟩, fun i H v H' _ q y => ?_⟩
  obtain ⟨T, x, h1, h2, h3, h4⟩ := y
  exact ⟨T, .int (i : Nat), x, h1, h2, h3, rfl, h4 xs q⟩
end OB
namespace OB
open PySem PySem.Spec PyProof.Rows L2
/-- a text from its end -/
def revT (x : Str) : Str := ⟨x.cps.reverse⟩
theorem sliceBy_rev (x : Str) (u : Tok) : Txt.sliceBy x none none (-1, u) = revT x := by
  have h := step_rev_list x u
  have e : (Txt.sliceBy x none none (-1, u)).cps = x.cps.reverse := by
    apply Array.toList_inj.mp
    rw [h, Array.toList_reverse]
    apply List.ext_getElem
    · simp [Str.length]
    · intro i h1 h2
      simp [Str.length] at h1
      simp [Array.getD, Str.length, h1, show x.cps.size - 1 - i < x.cps.size by omega]
  show Txt.sliceBy x none none (-1, u) = ⟨x.cps.reverse⟩
  rw [← e]
section
variable {X : Cx}
def tRevS (te : TE) : TE := fun σ H Q => te σ H fun x H1 => ∃ z, x = .str z ∧ z.length ≤ sizeLine ∧ Q (.str (revT z)) H1
theorem pe_revS {e : Expr} {te : TE} {k : Nat} {p1 p2 p3 pos : Pos} (he : PE X e te)
    (ht : ∀ x t r, letTemporaryGo e (.str x t) r = pure () := by intro _ _ _; with_unfolding_all rfl) : PE X (.Subscript e (.Slice none none (some (.UnaryOp .USub (.Constant (.int 1) k p1) p2)) p3) pos) (tRevS te) := by
  refine ⟨fun pins s σ H Q I h => ?_⟩
  refine Subscript_ (thn (he.run pins s σ H _ I h) fun v s1 ⟨x, H1, I1, r1, q1⟩ => ?_)
  obtain ⟨z, ex, hz, q⟩ := q1
  subst ex
  obtain ⟨t, rfl⟩ := r1
  have hst : PO X (some (.UnaryOp .USub (.Constant (.int 1) k p1) p2)) (tPart (tUn (rU fun i => .int (-i)) (tC (.int 1)))) := po_some (pe_un un_neg pe_int)
  refine wpAny_Slice (thn (po_none.run pins s1 σ H1 (fun o H2 => o = none ∧ H2 = H1) I1 ⟨rfl, rfl⟩) fun vl s2 ⟨l, H2, I2, pl, el, e2⟩ => ?_)
  subst el e2
  refine thn (po_none.run pins s2 σ H2 (fun o H3 => o = none ∧ H3 = H2) I2 ⟨rfl, rfl⟩) fun vu s3 ⟨u, H3, I3, pu, eu, e3⟩ => ?_
  subst eu e3
  refine thn (hst.run pins s3 σ H3 (fun o H4 => o = some (-1) ∧ H4 = H3) I3 ⟨1, rfl, -1, rfl, rfl, rfl⟩) fun vs s4 ⟨o, H4, I4, ps, eo, e4⟩ => ?_
  subst eo e4
  have I5 : Inv X pins σ H4 { s4 with heap := s4.heap.push { cls := .type "slice", data := .fields #[vl, vu, vs] } } := I4.kept (t' := s4.toks) fun b ob q => Heap.get?_push_of_some _ q
  have evl : vl = .none := by cases pl; rfl
  have evu : vu = .none := by cases pu; rfl
  obtain ⟨w, evs⟩ : ∃ w, vs = .int (-1) w := by cases ps; exact ⟨_, rfl⟩
  subst evl evu evs
  show wpAny (model X.prog X.w) X.A (subscriptTail e (.Slice none none (some (.UnaryOp .USub (.Constant (.int 1) k p1) p2)) p3) (.str z t) (.ref s4.heap.objs.size)) (EP X pins σ Q) X.xe { s4 with heap := s4.heap.push { cls := .type "slice", data := .fields #[.none, .none, .int (-1) w] } }
  refine tail_of_ItemOn ⟨"str", _, F.slot_str_getitem.lookup, typeIs_str _ _ _, wpAny_getItem_str_slice (l := none) (u := none) (st := some (-1, w)) ⟨_, Heap.get?_push_size _ rfl, rfl, rfl⟩ rfl
    (post_val_or_str ⟨Nat.le_trans (Txt.sliceBy_le z _ _ (-1, w) (by show (-1 : Int) ≠ 0; decide)) hz, fun t' c => ?_⟩)⟩ (by with_unfolding_all rfl) (ht z t)
  refine (show EP X pins σ Q (.str (Txt.sliceBy z none none (-1, w)) t') _ from ?_)
  rw [sliceBy_rev]
  exact ⟨.str (revT z), H4, I5.tok _, ⟨_, rfl⟩, q⟩
end
end OB
/-! Ones of a number, pairs of neighbours below it. -/
namespace M04
theorem two_pos (k : Nat) : 0 < 2 ^ k := Nat.pow_pos (by decide)
def cnt (n : Nat) : Nat → Nat
  | 0 => 0
  | k + 1 => cnt n k + n / 2 ^ k % 2
theorem cnt_low (n k : Nat) : cnt n (k + 1) = n % 2 + cnt (n / 2) k := by
  induction k with
  | zero =>
    show 0 + n / 2 ^ 0 % 2 = n % 2 + 0
    rw [Nat.pow_zero, Nat.div_one]
    omega
  | succ k ih =>
    show cnt n (k + 1) + n / 2 ^ (k + 1) % 2 = n % 2 + (cnt (n / 2) k + n / 2 / 2 ^ k % 2)
    rw [ih, Nat.div_div_eq_div_mul, Nat.pow_succ, Nat.mul_comm 2]
    omega
def pc (n : Nat) : Nat := cnt n n
theorem cnt_zero (k : Nat) : cnt 0 k = 0 := by
  induction k with
  | zero => rfl
  | succ k ih =>
    show cnt 0 k + 0 / 2 ^ k % 2 = 0
    rw [ih, Nat.zero_div]
theorem cnt_more {n k : Nat} (h : n < 2 ^ k) : cnt n (k + 1) = cnt n k := by
  show cnt n k + n / 2 ^ k % 2 = cnt n k
  rw [Nat.div_eq_of_lt h]
  rfl
theorem cnt_up {n k : Nat} (h : n < 2 ^ k) (m : Nat) : cnt n (k + m) = cnt n k := by
  induction m with
  | zero => rfl
  | succ m ih =>
    have h2 : n < 2 ^ (k + m) := Nat.lt_of_lt_of_le h (Nat.pow_le_pow_right (by decide) (Nat.le_add_right k m))
    exact (cnt_more h2).trans ih
theorem cnt_pc {n k : Nat} (h : n < 2 ^ k) : cnt n k = pc n := by
  unfold pc
  have h2 : n < 2 ^ n := Nat.lt_two_pow_self
  by_cases c : k ≤ n
  · have e := cnt_up h (n - k)
    rw [show k + (n - k) = n by omega] at e
    exact e.symm
  · have e := cnt_up h2 (k - n)
    rw [show n + (k - n) = k by omega] at e
    exact e
theorem pc_half (n : Nat) : pc n = n % 2 + pc (n / 2) := by
  have h : n < 2 ^ (n + 1) := Nat.lt_trans Nat.lt_two_pow_self (Nat.pow_lt_pow_right (by decide) (Nat.lt_succ_self n))
  have h2 : n / 2 < 2 ^ n := by
    rw [Nat.pow_succ] at h
    omega
  rw [← cnt_pc h, cnt_low, cnt_pc h2]
theorem pc_two (n : Nat) : pc (2 * n) = pc n := by
  rw [pc_half, show 2 * n % 2 = 0 by omega, show 2 * n / 2 = n by omega, Nat.zero_add]
theorem pc_odd (n : Nat) : pc (2 * n + 1) = pc n + 1 := by
  rw [pc_half, show (2 * n + 1) % 2 = 1 by omega, show (2 * n + 1) / 2 = n by omega, Nat.add_comm]
theorem pc_zero : pc 0 = 0 := rfl
/-- the ones of all words below n -/
def E : Nat → Nat
  | 0 => 0
  | n + 1 => E n + pc n
theorem E_two (m : Nat) : E (2 * m) = 2 * E m + m := by
  induction m with
  | zero => rfl
  | succ m ih =>
    show E (2 * m) + pc (2 * m) + pc (2 * m + 1) = 2 * (E m + pc m) + (m + 1)
    rw [ih, pc_two, pc_odd]
    omega
theorem E_odd (m : Nat) : E (2 * m + 1) = E m + E (m + 1) + m := by
  show E (2 * m) + pc (2 * m) = E m + (E m + pc m) + m
  rw [E_two, pc_two]
  omega
theorem E_even (m : Nat) : E (2 * m + 2) = 2 * E (m + 1) + m + 1 := E_two (m + 1)
def T (b : Nat) : Nat := b * 2 ^ b / 2
theorem T_succ (b : Nat) : T (b + 1) = (b + 1) * 2 ^ b := by
  unfold T
  rw [Nat.pow_succ, ← Nat.mul_assoc, Nat.mul_div_cancel _ (by decide)]
theorem T_two (b : Nat) : 2 * T b = b * 2 ^ b := by
  cases b with
  | zero => rfl
  | succ b => rw [T_succ, Nat.pow_succ, Nat.mul_comm 2, Nat.mul_assoc]
theorem pc_pow (q b : Nat) : pc (q * 2 ^ b) = pc q := by
  induction b with
  | zero => rw [Nat.pow_zero, Nat.mul_one]
  | succ b ih => rw [Nat.pow_succ, ← Nat.mul_assoc, Nat.mul_comm, pc_two, ih]
theorem E_pow (q b : Nat) : E (q * 2 ^ b + 2 ^ b) = E (q * 2 ^ b) + pc q * 2 ^ b + T b := by
  induction b with
  | zero =>
    show E (q * 1 + 1) = E (q * 1) + pc q * 1 + 0
    rw [Nat.mul_one, Nat.mul_one]
    rfl
  | succ b ih =>
    have e1 : q * 2 ^ (b + 1) = 2 * (q * 2 ^ b) := by rw [Nat.pow_succ, ← Nat.mul_assoc, Nat.mul_comm]
    have e2 : 2 ^ (b + 1) = 2 * 2 ^ b := by rw [Nat.pow_succ, Nat.mul_comm]
    rw [e1, e2, ← Nat.mul_add, E_two, E_two, ih, T_succ, Nat.mul_add, Nat.mul_add, T_two, Nat.add_mul]
    have e3 : pc q * (2 * 2 ^ b) = 2 * (pc q * 2 ^ b) := by rw [← Nat.mul_assoc, Nat.mul_comm (pc q), Nat.mul_assoc]
    rw [e3]
    omega
/-- the bits of n below c, descending -/
def D (n : Nat) : Nat → List Nat
  | 0 => []
  | c + 1 => if n / 2 ^ c % 2 = 1 then c :: D n c else D n c
def S : List Nat → Nat → Nat → Nat
  | [], _, acc => acc
  | b :: r, a, acc => S r (a + 1) (acc + a * 2 ^ b + T b)
theorem S_is (n c : Nat) : S (D n c) (pc (n / 2 ^ c)) (E (n / 2 ^ c * 2 ^ c)) = E n := by
  induction c with
  | zero =>
    show E (n / 2 ^ 0 * 2 ^ 0) = E n
    rw [Nat.pow_zero, Nat.div_one, Nat.mul_one]
  | succ c ih =>
    have e : n / 2 ^ (c + 1) = n / 2 ^ c / 2 := by rw [Nat.pow_succ, Nat.div_div_eq_div_mul]
    have e2 : n / 2 ^ (c + 1) * 2 ^ (c + 1) = 2 * (n / 2 ^ c / 2) * 2 ^ c := by
      rw [e, Nat.pow_succ, Nat.mul_comm (2 ^ c), ← Nat.mul_assoc, Nat.mul_comm _ 2]
    unfold D
    by_cases h : n / 2 ^ c % 2 = 1
    · rw [if_pos h, e2, e]
      show S (D n c) (pc (n / 2 ^ c / 2) + 1) (E (2 * (n / 2 ^ c / 2) * 2 ^ c) + pc (n / 2 ^ c / 2) * 2 ^ c + T c) = E n
      have p1 : pc (n / 2 ^ c / 2) + 1 = pc (n / 2 ^ c) := by rw [pc_half (n / 2 ^ c), h, Nat.add_comm]
      have p2 : pc (n / 2 ^ c / 2) = pc (2 * (n / 2 ^ c / 2)) := (pc_two _).symm
      have p3 : 2 * (n / 2 ^ c / 2) * 2 ^ c + 2 ^ c = n / 2 ^ c * 2 ^ c := by
        have z : n / 2 ^ c = 2 * (n / 2 ^ c / 2) + 1 := by omega
        conv => rhs; rw [z]
        rw [Nat.add_mul, Nat.one_mul]
      rw [p1, p2, ← E_pow, p3]
      exact ih
    · rw [if_neg h, e2, e]
      have z : 2 * (n / 2 ^ c / 2) = n / 2 ^ c := by omega
      have p1 : pc (n / 2 ^ c / 2) = pc (n / 2 ^ c) := by
        have q := pc_two (n / 2 ^ c / 2)
        rw [z] at q
        exact q.symm
      rw [z, p1]
      exact ih
theorem S_all {n c : Nat} (h : n < 2 ^ c) : S (D n c) 0 0 = E n := by
  have e := S_is n c
  rw [Nat.div_eq_of_lt h, Nat.zero_mul] at e
  exact e
theorem E_two_pow (p : Nat) : E (2 * 2 ^ p) = (p + 1) * 2 ^ p := by
  have e := E_pow 0 (p + 1)
  rw [Nat.zero_mul, Nat.zero_add, T_succ] at e
  have e2 : 2 ^ (p + 1) = 2 * 2 ^ p := by rw [Nat.pow_succ, Nat.mul_comm]
  rw [e2] at e
  rw [e]
  show 0 + 0 * _ + _ = _
  rw [Nat.zero_mul]
  omega
/-- the bits of n below c, ascending -/
theorem D_rev (n c : Nat) : (D n c).reverse = (List.range c).filter fun i => decide (n / 2 ^ i % 2 = 1) := by
  induction c with
  | zero => rfl
  | succ c ih =>
    rw [List.range_succ, List.filter_append, ← ih]
    show (if n / 2 ^ c % 2 = 1 then c :: D n c else D n c).reverse = _
    by_cases h : n / 2 ^ c % 2 = 1
    · rw [if_pos h, List.reverse_cons]
      simp [h]
    · rw [if_neg h]
      simp [h]
theorem D_lt {n c b : Nat} (h : b ∈ D n c) : b < c := by
  have e : b ∈ (D n c).reverse := List.mem_reverse.mpr h
  rw [D_rev] at e
  exact List.mem_range.mp (List.mem_filter.mp e).1
theorem D_len (n c : Nat) : (D n c).length ≤ c := by
  rw [← List.length_reverse, D_rev]
  exact Nat.le_trans (List.length_filter_le _ _) (by rw [List.length_range]; exact Nat.le_refl _)
/-! ### signs -/
/-- the signs of n to the base 2, the lowest first -/
def R (n : Nat) : List Nat := ((Nat.toDigits 2 n).map fun c => c.toNat).reverse
theorem R_small {n : Nat} (h : n < 2) : R n = [48 + n] := by
  unfold R
  rw [Nat.toDigits_of_lt_base h]
  have e : n = 0 ∨ n = 1 := by omega
  rcases e with rfl | rfl <;> rfl
theorem R_big {n : Nat} (h : 2 ≤ n) : R n = (48 + n % 2) :: R (n / 2) := by
  unfold R
  rw [Nat.toDigits_of_base_le (by decide) h, List.map_append, List.reverse_append]
  have e : n % 2 = 0 ∨ n % 2 = 1 := by omega
  rcases e with z | z <;> rw [z] <;> rfl
theorem R_facts : ∀ n : Nat, n < 2 ^ (R n).length ∧ (∀ i, i < (R n).length → (R n)[i]? = some (48 + n / 2 ^ i % 2)) := by
  intro n
  induction n using Nat.strongRecOn with
  | ind n ih =>
    by_cases h : n < 2
    · rw [R_small h]
      refine ⟨by show n < 2 ^ 1; omega, fun i hi => ?_⟩
      have hi : i < 1 := hi
      have e : i = 0 := by omega
      subst e
      show some (48 + n) = some (48 + n / 2 ^ 0 % 2)
      rw [Nat.pow_zero, Nat.div_one, Nat.mod_eq_of_lt h]
    · have h2 : 2 ≤ n := by omega
      obtain ⟨a, b⟩ := ih (n / 2) (by omega)
      rw [R_big h2]
      refine ⟨?_, fun i hi => ?_⟩
      · show n < 2 ^ ((R (n / 2)).length + 1)
        rw [Nat.pow_succ]
        omega
      · cases i with
        | zero =>
          show some (48 + n % 2) = some (48 + n / 2 ^ 0 % 2)
          rw [Nat.pow_zero, Nat.div_one]
        | succ i =>
          show (R (n / 2))[i]? = _
          rw [b i (by have hi : i + 1 < (R (n / 2)).length + 1 := hi; omega), Nat.div_div_eq_div_mul, Nat.pow_succ, Nat.mul_comm 2]
theorem R_len {n k : Nat} (hk : 0 < k) (h : n < 2 ^ k) : (R n).length ≤ k := by
  induction k generalizing n with
  | zero => exact absurd hk (by decide)
  | succ k ih =>
    by_cases c : n < 2
    · rw [R_small c]
      exact Nat.succ_le_succ (Nat.zero_le _)
    · rw [R_big (by omega)]
      rw [Nat.pow_succ] at h
      have hk2 : 0 < k := by
        cases k with
        | zero =>
          rw [Nat.pow_zero] at h
          omega
        | succ k => exact Nat.succ_pos k
      exact Nat.succ_le_succ (ih hk2 (by omega))
theorem R_count (n : Nat) : (R n).countP (fun c => decide (c = 49)) = pc n := by
  induction n using Nat.strongRecOn with
  | ind n ih =>
    by_cases h : n < 2
    · rw [R_small h]
      have e : n = 0 ∨ n = 1 := by omega
      rcases e with rfl | rfl <;> rfl
    · rw [R_big (by omega), List.countP_cons, ih (n / 2) (by omega), pc_half n]
      have e : n % 2 = 0 ∨ n % 2 = 1 := by omega
      rcases e with z | z <;> rw [z] <;> simp <;> omega
theorem cnt_le (n k : Nat) : cnt n k ≤ k := by
  induction k with
  | zero => exact Nat.le_refl _
  | succ k ih =>
    show cnt n k + n / 2 ^ k % 2 ≤ k + 1
    omega
theorem pc_le {n k : Nat} (h : n < 2 ^ k) : pc n ≤ k := by
  rw [← cnt_pc h]
  exact cnt_le n k
theorem E_le {n k : Nat} (h : n ≤ 2 ^ k) : E n ≤ n * k := by
  induction n with
  | zero => exact Nat.zero_le _
  | succ n ih =>
    have a := ih (Nat.le_of_succ_le h)
    have b := pc_le (n := n) (k := k) (Nat.lt_of_succ_le h)
    show E n + pc n ≤ (n + 1) * k
    rw [Nat.add_mul, Nat.one_mul]
    omega
theorem E_lt {n : Nat} (h : n < 2 ^ 402) : E n < 2 ^ 500 := by
  refine Nat.lt_of_le_of_lt (E_le (Nat.le_of_lt h)) ?_
  have a : n * 402 ≤ 2 ^ 402 * 402 := Nat.mul_le_mul_right _ (Nat.le_of_lt h)
  exact Nat.lt_of_le_of_lt a (by decide)
end M04
set_option maxHeartbeats 1000000
namespace M07
def gray (n : Nat) : Nat := n ^^^ (n >>> 1)
theorem gray_bit (n i : Nat) : (gray n).testBit i = (n.testBit i ^^ n.testBit (i + 1)) := by
  unfold gray
  rw [Nat.testBit_xor, Nat.testBit_shiftRight, Nat.add_comm 1 i]
theorem tele (p s : Nat) : (p ^^^ (p >>> s)) ^^^ ((p ^^^ (p >>> s)) >>> s) = p ^^^ (p >>> (2 * s)) := by
  apply Nat.eq_of_testBit_eq
  intro i
  simp only [Nat.testBit_xor, Nat.testBit_shiftRight]
  rw [show 2 * s + i = s + (s + i) by omega]
  cases p.testBit i <;> cases p.testBit (s + i) <;> cases p.testBit (s + (s + i)) <;> rfl
theorem xor_zero_eq {a b : Nat} (h : a ^^^ b = 0) : a = b := by
  apply Nat.eq_of_testBit_eq
  intro i
  have z : (a ^^^ b).testBit i = (0 : Nat).testBit i := by rw [h]
  rw [Nat.testBit_xor, Nat.zero_testBit] at z
  cases e1 : a.testBit i <;> cases e2 : b.testBit i <;> rw [e1, e2] at z <;> first | rfl | cases z
theorem half_zero {q : Nat} (h : q = q >>> 1) : q = 0 := by
  rw [Nat.shiftRight_eq_div_pow] at h
  omega
theorem gray_end {p s : Nat} (h : gray p < 2 ^ s) : p ^^^ (p >>> s) = p := by
  have e : (p >>> s) ^^^ ((p >>> s) >>> 1) = 0 := by
    have z : gray p >>> s = 0 := by
      rw [Nat.shiftRight_eq_div_pow]
      exact Nat.div_eq_of_lt h
    rw [← z]
    unfold gray
    apply Nat.eq_of_testBit_eq
    intro i
    simp only [Nat.testBit_xor, Nat.testBit_shiftRight]
    rw [show s + (1 + i) = 1 + (s + i) by omega]
  have e3 : p >>> s = 0 := half_zero (xor_zero_eq e)
  rw [e3, Nat.xor_zero]
theorem one_bit (x i : Nat) : decide (x / 2 ^ i % 2 = 1) = x.testBit i := (Nat.testBit_eq_decide_div_mod_eq).symm
theorem next_mod (x i : Nat) : x % 2 ^ (i + 1) = x % 2 ^ i + (if x.testBit i = true then 2 ^ i else 0) := by
  rw [Nat.pow_succ, Nat.mod_mul, ← one_bit]
  have h := Nat.mod_two_eq_zero_or_one (x / 2 ^ i)
  rcases h with h | h <;> simp [h]
/-- the lowest bit that is 0 -/
def Low (p low : Nat) : Prop := (∀ j, j < low → p.testBit j = true) ∧ p.testBit low = false
theorem low_mod {p low : Nat} (h : Low p low) : p % 2 ^ (low + 1) = 2 ^ low - 1 := by
  apply Nat.eq_of_testBit_eq
  intro i
  rw [Nat.testBit_mod_two_pow, Nat.testBit_two_pow_sub_one]
  by_cases h1 : i < low
  · rw [h.1 i h1, decide_eq_true h1, decide_eq_true (show i < low + 1 by omega)]
    rfl
  · by_cases h2 : i = low
    · subst h2
      rw [h.2]
      simp
    · rw [decide_eq_false (show ¬ i < low + 1 by omega), decide_eq_false h1]
      rfl
theorem two_pos (k : Nat) : 0 < 2 ^ k := Nat.two_pow_pos k
theorem low_p {p low : Nat} (h : Low p low) (i : Nat) : p.testBit i = if i < low + 1 then decide (i < low) else (p / 2 ^ (low + 1)).testBit (i - (low + 1)) := by
  have e := Nat.div_add_mod p (2 ^ (low + 1))
  rw [low_mod h] at e
  have l : 2 ^ low - 1 < 2 ^ (low + 1) := by
    have a := two_pos low
    rw [Nat.pow_succ]
    omega
  conv => lhs; rw [← e]
  rw [Nat.testBit_two_pow_mul_add _ l, Nat.testBit_two_pow_sub_one]
theorem low_s {p low : Nat} (h : Low p low) (i : Nat) : (p + 1).testBit i = if i < low + 1 then decide (low = i) else (p / 2 ^ (low + 1)).testBit (i - (low + 1)) := by
  have e := Nat.div_add_mod p (2 ^ (low + 1))
  rw [low_mod h] at e
  have a := two_pos low
  have l : 2 ^ low < 2 ^ (low + 1) := by
    rw [Nat.pow_succ]
    omega
  have e2 : p + 1 = 2 ^ (low + 1) * (p / 2 ^ (low + 1)) + 2 ^ low := by omega
  conv => lhs; rw [e2]
  rw [Nat.testBit_two_pow_mul_add _ l, Nat.testBit_two_pow]
theorem gray_next {p low : Nat} (h : Low p low) : gray (p + 1) = gray p ^^^ 2 ^ low := by
  apply Nat.eq_of_testBit_eq
  intro i
  rw [Nat.testBit_xor, gray_bit, gray_bit, low_p h, low_p h, low_s h, low_s h, Nat.testBit_two_pow]
  by_cases h1 : i < low
  · simp only [show i < low + 1 by omega, show i + 1 < low + 1 by omega, if_true]
    by_cases h2 : i + 1 < low
    · simp [h1, h2, show ¬ low = i by omega, show ¬ low = i + 1 by omega]
    · have h3 : low = i + 1 := by omega
      simp [h3]
  · by_cases h2 : i = low
    · subst h2
      simp
    · simp [show ¬ i < low + 1 by omega, show ¬ i + 1 < low + 1 by omega, show ¬ low = i by omega]
theorem xor_pow {x k : Nat} : x ^^^ 2 ^ k = if x.testBit k = true then x - 2 ^ k else x + 2 ^ k := by
  have split : x = 2 ^ (k + 1) * (x / 2 ^ (k + 1)) + ((if x.testBit k = true then 2 ^ k else 0) + x % 2 ^ k) := by
    have e := Nat.div_add_mod x (2 ^ (k + 1))
    rw [next_mod] at e
    omega
  have m := Nat.mod_lt x (two_pos k)
  have l1 : 2 ^ k + x % 2 ^ k < 2 ^ (k + 1) := by
    rw [Nat.pow_succ]
    omega
  have bits : ∀ (q r : Nat) (i : Nat), r < 2 ^ k → (2 ^ (k + 1) * q + (2 ^ k + r)).testBit i = ((2 ^ (k + 1) * q + r) ^^^ 2 ^ k).testBit i := by
    intro q r i hr
    have l2 : 2 ^ k + r < 2 ^ (k + 1) := by
      rw [Nat.pow_succ]
      omega
    have l3 : r < 2 ^ (k + 1) := by
      rw [Nat.pow_succ]
      omega
    rw [Nat.testBit_xor, Nat.testBit_two_pow_mul_add _ l2, Nat.testBit_two_pow_mul_add _ l3, Nat.testBit_two_pow]
    have er : 2 ^ k + r = 2 ^ k * 1 + r := by omega
    rw [er, Nat.testBit_two_pow_mul_add _ hr]
    by_cases h1 : i < k + 1
    · simp only [h1, if_true]
      by_cases h2 : i < k
      · simp [h2, show ¬ k = i by omega]
      · have h3 : i = k := by omega
        subst h3
        simp [Nat.testBit_lt_two_pow hr]
    · simp [h1, show ¬ k = i by omega]
  cases hb : x.testBit k with
  | true =>
    rw [hb] at split
    simp only [if_true] at split
    have e : 2 ^ (k + 1) * (x / 2 ^ (k + 1)) + x % 2 ^ k = x - 2 ^ k := by omega
    simp only [if_true]
    rw [← e]
    apply Nat.eq_of_testBit_eq
    intro i
    have b := bits (x / 2 ^ (k + 1)) (x % 2 ^ k) i m
    rw [← split] at b
    rw [Nat.testBit_xor, b, Nat.testBit_xor]
    cases (2 ^ (k + 1) * (x / 2 ^ (k + 1)) + x % 2 ^ k).testBit i <;> cases (2 ^ k).testBit i <;> rfl
  | false =>
    rw [hb] at split
    simp only [Bool.false_eq_true, if_false, Nat.zero_add] at split
    simp only [Bool.false_eq_true, if_false]
    have e : 2 ^ (k + 1) * (x / 2 ^ (k + 1)) + (2 ^ k + x % 2 ^ k) = x + 2 ^ k := by omega
    rw [← e]
    apply Nat.eq_of_testBit_eq
    intro i
    rw [bits (x / 2 ^ (k + 1)) (x % 2 ^ k) i m, ← split]
theorem gray_lt {n k : Nat} (h : n < 2 ^ k) : gray n < 2 ^ k := by
  unfold gray
  refine Nat.xor_lt_two_pow h ?_
  rw [Nat.shiftRight_eq_div_pow]
  exact Nat.lt_of_le_of_lt (Nat.div_le_self _ _) h
theorem gray_mod {n k : Nat} (h : n < 2 ^ k) : gray n % 2 ^ k = gray n := Nat.mod_eq_of_lt (gray_lt h)
end M07
/-! The value of a word: the numbers of its ones, by exclusive or. -/
namespace M23
theorem two_pos (k : Nat) : 0 < 2 ^ k := Nat.pow_pos (by decide)
/-- the value of the bits below c -/
def V (w : Nat) : Nat → Nat
  | 0 => 0
  | c + 1 => V w c ^^^ (if w / 2 ^ c % 2 = 1 then c + 1 else 0)
def fold (l : List Nat) : Nat := l.foldl (fun v b => v ^^^ (b + 1)) 0
theorem fold_more (l : List Nat) (b : Nat) : fold (l ++ [b]) = fold l ^^^ (b + 1) := by
  unfold fold
  rw [List.foldl_append]
  rfl
theorem fold_D (w c : Nat) : fold (M04.D w c).reverse = V w c := by
  induction c with
  | zero => rfl
  | succ c ih =>
    show fold (if w / 2 ^ c % 2 = 1 then c :: M04.D w c else M04.D w c).reverse = V w c ^^^ (if w / 2 ^ c % 2 = 1 then c + 1 else 0)
    by_cases h : w / 2 ^ c % 2 = 1
    · rw [if_pos h, if_pos h, List.reverse_cons, fold_more, ih]
    · rw [if_neg h, if_neg h, ih, Nat.xor_zero]
theorem V_more {w c : Nat} (h : w < 2 ^ c) : V w (c + 1) = V w c := by
  show V w c ^^^ (if w / 2 ^ c % 2 = 1 then c + 1 else 0) = V w c
  rw [Nat.div_eq_of_lt h, if_neg (by decide), Nat.xor_zero]
theorem V_up {w c : Nat} (h : w < 2 ^ c) (m : Nat) : V w (c + m) = V w c := by
  induction m with
  | zero => rfl
  | succ m ih =>
    have h2 : w < 2 ^ (c + m) := Nat.lt_of_lt_of_le h (Nat.pow_le_pow_right (by decide) (Nat.le_add_right c m))
    exact (V_more h2).trans ih
theorem V_same {w c d : Nat} (h1 : w < 2 ^ c) (h2 : w < 2 ^ d) : V w c = V w d := by
  by_cases e : c ≤ d
  · have z := V_up h1 (d - c)
    rw [show c + (d - c) = d by omega] at z
    exact z.symm
  · have z := V_up h2 (c - d)
    rw [show d + (c - d) = c by omega] at z
    exact z
theorem V_lt (w : Nat) {c s : Nat} (h : c < 2 ^ s) : V w c < 2 ^ s := by
  induction c with
  | zero => exact two_pos s
  | succ c ih =>
    refine Nat.xor_lt_two_pow (ih (by omega)) ?_
    split
    · exact h
    · exact two_pos s
/-- how many of the ones' numbers have a bit -/
def cp (w p : Nat) : Nat → Nat
  | 0 => 0
  | c + 1 => cp w p c + (if w / 2 ^ c % 2 = 1 ∧ (c + 1).testBit p = true then 1 else 0)
theorem V_bit (w p c : Nat) : (V w c).testBit p = decide (cp w p c % 2 = 1) := by
  induction c with
  | zero => simp [V, cp]
  | succ c ih =>
    show (V w c ^^^ (if w / 2 ^ c % 2 = 1 then c + 1 else 0)).testBit p = decide ((cp w p c + (if w / 2 ^ c % 2 = 1 ∧ (c + 1).testBit p = true then 1 else 0)) % 2 = 1)
    rw [Nat.testBit_xor, ih]
    by_cases h : w / 2 ^ c % 2 = 1
    · rw [if_pos h]
      by_cases h2 : (c + 1).testBit p = true
      · rw [if_pos ⟨h, h2⟩, h2]
        by_cases h3 : cp w p c % 2 = 1
        · have : ¬ (cp w p c + 1) % 2 = 1 := by omega
          simp [h3, this]
        · have : (cp w p c + 1) % 2 = 1 := by omega
          simp [h3, this]
      · rw [if_neg (fun z => h2 z.2)]
        have h2 : (c + 1).testBit p = false := by simpa using h2
        simp [h2]
    · rw [if_neg h, if_neg (fun z => h z.1)]
      simp
/-- the value is the flip's number away when one bit is flipped -/
theorem V_flip (w b c : Nat) (h : b < c) : V (w ^^^ 2 ^ b) c = V w c ^^^ (b + 1) := by
  have bit : ∀ i : Nat, ((w ^^^ 2 ^ b) / 2 ^ i % 2 = 1) ↔ ((w.testBit i ^^ decide (b = i)) = true) := fun i => by
    have e := M07.one_bit (w ^^^ 2 ^ b) i
    rw [Nat.testBit_xor, Nat.testBit_two_pow] at e
    rw [← e]
    simp
  have bit0 : ∀ i : Nat, (w / 2 ^ i % 2 = 1) ↔ (w.testBit i = true) := fun i => by
    have e := M07.one_bit w i
    rw [← e]
    simp
  have low : ∀ d, d ≤ b → V (w ^^^ 2 ^ b) d = V w d := fun d hd => by
    induction d with
    | zero => rfl
    | succ d ih =>
      show V (w ^^^ 2 ^ b) d ^^^ _ = V w d ^^^ _
      rw [ih (by omega)]
      congr 1
      have e : ((w ^^^ 2 ^ b) / 2 ^ d % 2 = 1) ↔ (w / 2 ^ d % 2 = 1) := by
        rw [bit, bit0, decide_eq_false (show ¬ b = d by omega), Bool.xor_false]
      by_cases z : w / 2 ^ d % 2 = 1
      · rw [if_pos z, if_pos (e.mpr z)]
      · rw [if_neg z, if_neg (fun q => z (e.mp q))]
  have hi : ∀ m, V (w ^^^ 2 ^ b) (b + 1 + m) = V w (b + 1 + m) ^^^ (b + 1) := fun m => by
    induction m with
    | zero =>
      show V (w ^^^ 2 ^ b) b ^^^ _ = (V w b ^^^ _) ^^^ (b + 1)
      rw [low b (Nat.le_refl _), Nat.xor_assoc]
      congr 1
      have e : ((w ^^^ 2 ^ b) / 2 ^ b % 2 = 1) ↔ ¬ (w / 2 ^ b % 2 = 1) := by
        rw [bit, bit0, decide_eq_true rfl, Bool.xor_true]
        simp
      by_cases z : w / 2 ^ b % 2 = 1
      · rw [if_pos z, if_neg (fun q => e.mp q z), Nat.xor_self]
      · rw [if_neg z, if_pos (e.mpr z), Nat.zero_xor]
    | succ m ih =>
      show V (w ^^^ 2 ^ b) (b + 1 + m) ^^^ _ = (V w (b + 1 + m) ^^^ _) ^^^ (b + 1)
      rw [ih, Nat.xor_assoc, Nat.xor_assoc, Nat.xor_comm (b + 1)]
      congr 2
      show (if (w ^^^ 2 ^ b) / 2 ^ (b + 1 + m) % 2 = 1 then b + 1 + m + 1 else 0) = if w / 2 ^ (b + 1 + m) % 2 = 1 then b + 1 + m + 1 else 0
      have e : ((w ^^^ 2 ^ b) / 2 ^ (b + 1 + m) % 2 = 1) ↔ (w / 2 ^ (b + 1 + m) % 2 = 1) := by
        rw [bit, bit0, decide_eq_false (show ¬ b = b + 1 + m by omega), Bool.xor_false]
      by_cases z : w / 2 ^ (b + 1 + m) % 2 = 1
      · rw [if_pos z, if_pos (e.mpr z)]
      · rw [if_neg z, if_neg (fun q => z (e.mp q))]
  have z := hi (c - (b + 1))
  rw [show b + 1 + (c - (b + 1)) = c by omega] at z
  exact z
/-- the numbers of the ones below c -/
def ones (w c : Nat) : List Nat := ((List.range c).filter fun i => decide (w / 2 ^ i % 2 = 1)).map (· + 1)
theorem ones_next (w c : Nat) : ones w (c + 1) = if w / 2 ^ c % 2 = 1 then ones w c ++ [c + 1] else ones w c := by
  unfold ones
  rw [List.range_succ, List.filter_append, List.map_append]
  by_cases h : w / 2 ^ c % 2 = 1
  · rw [if_pos h]
    simp [h]
  · rw [if_neg h]
    simp [h]
theorem ones_cp (w p c : Nat) : (ones w c).countP (fun n => n.testBit p) = cp w p c := by
  induction c with
  | zero => rfl
  | succ c ih =>
    rw [ones_next]
    show _ = cp w p c + (if w / 2 ^ c % 2 = 1 ∧ (c + 1).testBit p = true then 1 else 0)
    by_cases h : w / 2 ^ c % 2 = 1
    · rw [if_pos h, List.countP_append, ih]
      by_cases h2 : (c + 1).testBit p = true
      · rw [if_pos ⟨h, h2⟩]
        simp [h2]
      · rw [if_neg (fun z => h2 z.2)]
        simp [h2]
    · rw [if_neg h, ih, if_neg (fun z => h z.1)]
      rfl
theorem ones_len (w c : Nat) : (ones w c).length ≤ c := by
  unfold ones
  rw [List.length_map]
  exact Nat.le_trans (List.length_filter_le _ _) (by rw [List.length_range]; exact Nat.le_refl _)
theorem ones_le {w c n : Nat} (h : n ∈ ones w c) : n ≤ c := by
  unfold ones at h
  obtain ⟨i, hi, rfl⟩ := List.mem_map.mp h
  have := List.mem_range.mp (List.mem_filter.mp hi).1
  omega
end M23
namespace K23
open PySem PySem.Spec PyProof.Rows L2 OB SkE
def top (i : Nat) : Stmt := PySem.Challenge.pw_oneflip_k23_values_by_exclusive_or.main.body.getD i (.Pass ⟨0, 0, 0, 0⟩)
abbrev s_initN : Stmt := inClass (top 2) 0
abbrev s_initW : Stmt := inClass (top 3) 0
abbrev s_initM : Stmt := inClass (top 4) 0
abbrev s_is_integer : Stmt := top 6
abbrev s_is_within : Stmt := top 7
abbrev s_need_number : Stmt := top 8
abbrev s_need_word : Stmt := top 9
abbrev s_differing : Stmt := top 11
abbrev s__bits_of : Stmt := top 12
abbrev s_value_by_flips : Stmt := top 16
abbrev s_flip_to : Stmt := top 17
abbrev s__bits_for : Stmt := top 18
abbrev s__value_of : Stmt := top 19
abbrev s__need_room : Stmt := top 20
abbrev s__law_loft : Stmt := top 22
abbrev s__law_haul : Stmt := top 23
abbrev s__law_one : Stmt := top 24
abbrev s__law_heard : Stmt := top 25
abbrev s__law_word : Stmt := top 26
abbrev s__law_value : Stmt := top 27
abbrev s__law_flips_right : Stmt := top 28
abbrev s__law_refused_right : Stmt := top 29
abbrev s_law : Stmt := top 30
/-- the built-in names that the module leaves as they are -/
structure Blt (mg : Str → Option Value) : Prop where
  g_MOST_SIZE : ∃ t, mg "MOST_SIZE" = some (.int 8 t)
  g_MOST_VALUE : ∃ t, mg "MOST_VALUE" = some (.int 255 t)
  n_isinstance : mg "isinstance" = none
  n_int : mg "int" = none
  n_bool : mg "bool" = none
  n_len : mg "len" = none
  n_abs : mg "abs" = none
  n_range : mg "range" = none
  n_list : mg "list" = none
  n_tuple : mg "tuple" = none
  n_enumerate : mg "enumerate" = none
section
variable {P : Program} {w : World} {K : PySem.W.Frag} {mg : Str → Option Value} {base : Heap}
/-! ### checks -/
theorem sc_is_integer : FnScope ["value"] ["value"] (defScope s_is_integer) := ⟨rfl, rfl, rfl, by decide +kernel, rfl, by decide +kernel, by decide +kernel⟩
theorem ok_is_integer {f : Addr} {fd : FuncData} (F : Fun K "is_integer" "is_integer" s_is_integer f fd) (T : Blt mg) : FnOk P w K mg base CX0 1 f fd ["value"] (spIsInt K) := by
  refine F.ok sc_is_integer (fun vs H Q E h => ?_) (fun cdv A outer s H vs Q E hr h => ?_)
  · obtain ⟨x, b, rfl, _⟩ := h
    rfl
  · obtain ⟨x, b, rfl, ⟨n, b1, b2, ty, e1, e2, e3⟩, k⟩ := h
    refine ⟨_, (pss_one (ps_ret (pe_and (pe_callB call_isi (by rfl) T.n_isinstance (by decide +kernel) (pa_cons (pv 0) (pa_cons (pe_bltn (v := .ty "int") (by rfl) T.n_int (by decide +kernel) rfl) pa_nil))) (pe_one (pe_not (pe_callB call_isi (by rfl) T.n_isinstance (by decide +kernel) (pa_cons (pv 0) (pa_cons (pe_bltn (v := .ty "bool") (by rfl) T.n_bool (by decide +kernel) rfl) pa_nil)))))))), ?_⟩
    refine ⟨x, rfl, x, .ty "int", .type n, .type "int", b1, rfl, .ty _, ty, kit_ty e1, b1, rfl, ?_⟩
    refine iteB (fun c => ?_) (fun c => ?_)
    · refine ⟨x, rfl, x, .ty "bool", .type n, .type "bool", b2, rfl, .ty _, ty, kit_ty e2, b2, rfl, ?_⟩
      rw [c] at e3
      rw [show (!b2) = b by rw [e3, Bool.true_and]]
      exact k
    · rw [c] at e3
      rw [show false = b by rw [e3, Bool.false_and]]
      exact k
theorem sc_is_within : FnScope ["value", "least", "most"] ["value", "least", "most"] (defScope s_is_within) := ⟨rfl, rfl, rfl, by decide +kernel, rfl, by decide +kernel, by decide +kernel⟩
theorem within_end {lo hi : Option Int} {x : V} {b : Bool} {Q : VK} {H : Hp} (hI : IsI K H x b) (k : Q (.bl (b && inB lo hi x)) H) (hb : b = true) : ∃ i, x = .int i ∧ Q (.bl (loOk lo i && hiOk hi i)) H := by
  subst hb
  obtain ⟨i, rfl⟩ := isI_true hI
  exact ⟨i, rfl, k⟩
theorem ok_is_within {f f1 : Addr} {fd fd1 : FuncData} (F : Fun K "is_within" "is_within" s_is_within f fd) (D_is_integer : Df K mg "is_integer" s_is_integer ["value"] f1 fd1) (T : Blt mg) : FnOk P w K mg base CX0 2 f fd ["value", "least", "most"] (spWithin K) := by
  have G_is_integer : FnOk P w K mg base CX0 1 f1 fd1 ["value"] (spIsInt K) := ok_is_integer D_is_integer.F T
  refine F.ok sc_is_within (fun vs H Q E h => ?_) (fun cdv A outer s H vs Q E hr h => ?_)
  · obtain ⟨x, lo, hi, b, rfl, _⟩ := h
    rfl
  · obtain ⟨x, lo, hi, b, rfl, hI, k⟩ := h
    refine ⟨_, (pss_cons (ps_if (pt_not (pt_val (pe_call G_is_integer (hr.mono (by decide)) (by rfl) D_is_integer.g D_is_integer.F.kp D_is_integer.b .nil pass0 (pa_cons (pv 0) pa_nil)))) (pss_one (ps_ret pe_bl)) pss_nil)
  (pss_one (ps_ret (pe_and (pe_or (pe_cmpR op_isN (pv 1) pe_non (nomark _)) (pe_one (pe_cmpR op_le (pv 1) (pv 0) (nomark _)))) (pe_one (pe_or (pe_cmpR op_isN (pv 2) pe_non (nomark _)) (pe_one (pe_cmpR op_le (pv 0) (pv 2) (nomark _))))))))), ?_⟩
    refine ⟨x, rfl, x, b, rfl, hI, b, rfl, ?_⟩
    cases b with
    | false => exact iteT k
    | true =>
      obtain ⟨i, rfl, k'⟩ := within_end hI k rfl
      clear k
      have k := k'
      clear k'
      refine iteF ?_
      refine ⟨_, rfl, rfl, _, rfl, ?_⟩
      cases lo with
      | none =>
        refine iteT ?_
        refine ⟨_, rfl, iteT ?_⟩
        refine ⟨_, rfl, rfl, _, rfl, ?_⟩
        cases hi with
        | none => exact iteT k
        | some h => exact iteF ⟨_, rfl, _, rfl, _, _, rfl, rfl, k⟩
      | some l =>
        refine iteF ?_
        refine ⟨_, rfl, _, rfl, _, _, rfl, rfl, _, rfl, ?_⟩
        refine iteB (fun c => ?_) (fun c => ?_)
        · refine ⟨_, rfl, rfl, _, rfl, ?_⟩
          have e : loOk (some l) i = true := c
          rw [e, Bool.true_and] at k
          cases hi with
          | none => exact iteT k
          | some h => exact iteF ⟨_, rfl, _, rfl, _, _, rfl, rfl, k⟩
        · have e : loOk (some l) i = false := c
          rw [e, Bool.false_and] at k
          exact k
/-! ### what raises -/
theorem sc_need_number : FnScope ["value", "part", "least", "most"] ["value", "part", "least", "most"] (defScope s_need_number) := ⟨rfl, rfl, rfl, by decide +kernel, rfl, by decide +kernel, by decide +kernel⟩
theorem ok_need_number {f f1 f2 C fI : Addr} {fd fd1 fd2 fdI : FuncData} (F : Fun K "need_number" "need_number" s_need_number f fd) (D_is_within : Df K mg "is_within" s_is_within ["value", "least", "most"] f2 fd2) (D_is_integer : Df K mg "is_integer" s_is_integer ["value"] f1 fd1) (T : Blt mg)
    (R_BadNumber : Err P w K mg base "BadNumber" "part" C fI fdI) : FnOk P w K mg base (L2.CX P w) 4 f fd ["value", "part", "least", "most"] (spNeedNumber K C) := by
  have G_is_within : FnOk P w K mg base CX0 2 f2 fd2 ["value", "least", "most"] (spWithin K) := ok_is_within D_is_within.F D_is_integer T
  refine F.okX sc_need_number (fun vs H Q E h => ?_) (fun cdv A outer s H vs Q E hr h => ?_)
  · obtain ⟨x, part, lo, hi, b, rfl, _⟩ := h
    rfl
  · obtain ⟨x, part, lo, hi, b, rfl, hI, k1, k2⟩ := h
    refine ⟨_, (pss_one (ps_if (pt_not (pt_val (pe_call G_is_within (hr.mono (by decide)) (by rfl) D_is_within.g D_is_within.F.kp D_is_within.b .nil pass0 (pa_cons (pv 0) (pa_cons (pv 2) (pa_cons (pv 3) pa_nil)))))) (pss_one (ps_raise1 rfl (takes_of rfl rfl rfl rfl) R_BadNumber (hr.mono (by decide)) (by rfl) (pv 1))) pss_nil)), ?_⟩
    refine ⟨x, rfl, _, rfl, _, rfl, x, lo, hi, b, rfl, hI, _, rfl, ?_⟩
    refine iteB (fun c => ?_) (fun c => ?_)
    · have c' : (b && inB lo hi x) = false := by
        cases e : (b && inB lo hi x) with
        | false => rfl
        | true => rw [e] at c; cases c
      refine ⟨.str part, rfl, ?_⟩
      refine raise1_of (W := fun cls d _ H => E cls d H) R_BadNumber.T R_BadNumber.no ?_
      exact fun d hd => k2 c' d hd
    · have c' : (b && inB lo hi x) = true := by
        cases e : (b && inB lo hi x) with
        | true => rfl
        | false => rw [e] at c; cases c
      exact k1 c'
theorem sc_need_word : FnScope ["value", "part"] ["value", "part"] (defScope s_need_word) := ⟨rfl, rfl, rfl, by decide +kernel, rfl, by decide +kernel, by decide +kernel⟩
theorem ok_need_word {f f1 f2 C fI : Addr} {fd fd1 fd2 fdI : FuncData} (F : Fun K "need_word" "need_word" s_need_word f fd) (D_is_within : Df K mg "is_within" s_is_within ["value", "least", "most"] f2 fd2) (D_is_integer : Df K mg "is_integer" s_is_integer ["value"] f1 fd1) (T : Blt mg)
    (R_BadWord : Err P w K mg base "BadWord" "part" C fI fdI) : FnOk P w K mg base (L2.CX P w) 4 f fd ["value", "part"] (spNeedWord K C) := by
  have G_is_within : FnOk P w K mg base CX0 2 f2 fd2 ["value", "least", "most"] (spWithin K) := ok_is_within D_is_within.F D_is_integer T
  refine F.okX sc_need_word (fun vs H Q E h => ?_) (fun cdv A outer s H vs Q E hr h => ?_)
  · obtain ⟨x, part, b, rfl, _⟩ := h
    rfl
  · obtain ⟨x, part, b, rfl, hI, k1, k2⟩ := h
    refine ⟨_, (pss_one (ps_if (pt_not (pt_val (pe_call G_is_within (hr.mono (by decide)) (by rfl) D_is_within.g D_is_within.F.kp D_is_within.b .nil pass0 (pa_cons (pv 0) (pa_cons pe_int (pa_cons pe_non pa_nil)))))) (pss_one (ps_raise1 rfl (takes_of rfl rfl rfl rfl) R_BadWord (hr.mono (by decide)) (by rfl) (pv 1))) pss_nil)), ?_⟩
    refine ⟨x, rfl, x, some 0, none, b, rfl, hI, _, rfl, ?_⟩
    refine iteB (fun c => ?_) (fun c => ?_)
    · have c' : (b && inB (some 0) none x) = false := by
        cases e : (b && inB (some 0) none x) with
        | false => rfl
        | true => rw [e] at c; cases c
      refine ⟨.str part, rfl, ?_⟩
      refine raise1_of (W := fun cls d _ H => E cls d H) R_BadWord.T R_BadWord.no ?_
      exact fun d hd => k2 c' d hd
    · have c' : (b && inB (some 0) none x) = true := by
        cases e : (b && inB (some 0) none x) with
        | true => rfl
        | false => rw [e] at c; cases c
      exact k1 c'
end
end K23
namespace K23
open PySem PySem.Spec PyProof.Rows L2 OB SkE
theorem rev_bin (n : Nat) : (revT (binT n)).cps = (M04.R n).toArray := by
  show ((Nat.toDigits 2 n).map fun c => c.toNat).toArray.reverse = _
  unfold M04.R
  simp
theorem bin_len (n : Nat) : (binT n).length = (M04.R n).length := by
  show ((Nat.toDigits 2 n).map fun c => c.toNat).toArray.size = _
  unfold M04.R
  simp
theorem bin_list (n : Nat) : (binT n).cps.toList = (M04.R n).reverse := by
  show ((Nat.toDigits 2 n).map fun c => c.toNat).toArray.toList = _
  unfold M04.R
  simp
theorem cnt_countP (c : Nat) : ∀ l : List Nat, cnt c l = ((l.countP fun x => decide (x = c) : Nat) : Int)
  | [] => rfl
  | a :: r => by
    rw [cnt_cons, cnt_countP c r, List.countP_cons]
    by_cases h : a = c <;> simp [h] <;> omega
theorem bin_count (n : Nat) : Txt.count (binT n) (Str.ofString "1") = ((M04.pc n : Nat) : Int) := by
  rw [show Str.ofString "1" = ⟨#[49]⟩ from by decide +kernel, count_cnt, bin_list, cnt_countP, List.countP_reverse, M04.R_count]
theorem bin_small {n : Nat} (h : n < 2 ^ 1000) : (binT n).length ≤ sizeLine := by
  rw [bin_len]
  exact Nat.le_of_lt (small1000 (M04.R_len (by decide) h))
def bitsV (n : Nat) : List V := (M04.D n (M04.R n).length).reverse.map fun (b : Nat) => V.int (b : Int)
theorem bits_len (n : Nat) (h : n < 2 ^ 1000) : (bitsV n).length ≤ 1000 := by
  unfold bitsV
  rw [List.length_map, List.length_reverse]
  exact Nat.le_trans (M04.D_len n _) (M04.R_len (by decide) h)
/-- the bits of a number below so many, ascending -/
def bitsB (n c : Nat) : List V := (M04.D n c).reverse.map fun (b : Nat) => V.int (b : Int)
theorem bitsB_next (n c : Nat) : bitsB n (c + 1) = if n / 2 ^ c % 2 = 1 then bitsB n c ++ [V.int (c : Int)] else bitsB n c := by
  unfold bitsB
  show ((if n / 2 ^ c % 2 = 1 then c :: M04.D n c else M04.D n c).reverse.map fun (b : Nat) => V.int (b : Int)) = _
  by_cases h : n / 2 ^ c % 2 = 1
  · rw [if_pos h, if_pos h, List.reverse_cons, List.map_append]
    rfl
  · rw [if_neg h, if_neg h]
theorem bitsB_len (n c : Nat) : (bitsB n c).length ≤ c := by
  unfold bitsB
  rw [List.length_map, List.length_reverse]
  exact M04.D_len n c
def spBits : Sp := fun vs H Q _ => ∃ n : Nat, vs = [.int (n : Int)] ∧ n < 2 ^ 1000 ∧ ∀ (q : Addr) (H' : Hp), Same H H' → H' q = some (.tup (bitsV n)) → Q (.ref q) H'
/-- in what two words differ -/
def spDiff : Sp := fun vs H Q _ => ∃ n m : Nat, vs = [.int (n : Int), .int (m : Int)] ∧ n ^^^ m < 2 ^ 1000 ∧ ∀ (q : Addr) (H' : Hp), Same H H' → H' q = some (.tup (bitsV (n ^^^ m))) → Q (.ref q) H'
def spValueOf : Sp := fun vs H Q _ => ∃ n c : Nat, vs = [.int (n : Int)] ∧ n < 2 ^ c ∧ c ≤ 1000 ∧ ∀ H' : Hp, Same H H' → Q (.int ((M23.V n c : Nat) : Int)) H'
def spBitsFor : Sp := fun vs H Q _ => ∃ k : Nat, vs = [.int (k : Int)] ∧ k ≤ 8 ∧ Q (.int ((2 ^ k - 1 : Nat) : Int)) H
def spRoom (C : Addr) : Sp := fun vs H Q E => ∃ n k : Nat, vs = [.int (n : Int), .int (k : Int)] ∧ k ≤ 8 ∧ (n < 2 ^ (2 ^ k - 1) → Q .non H) ∧ (2 ^ (2 ^ k - 1) ≤ n → RaisesP C "word" E H)
theorem xor_nat (a b : Nat) : Builtin.bitXor (a : Int) (b : Int) = ((a ^^^ b : Nat) : Int) := by
  rw [Bits.bitXor_pp (Int.natCast_nonneg _) (Int.natCast_nonneg _), Int.toNat_natCast, Int.toNat_natCast]
theorem no_nat {m : Nat} {A : Prop} (z : (true && inB (some 0) none (.int (m : Int))) = false) : A := by
  rw [inB_nat] at z
  cases z
section
variable {P : Program} {w : World} {K : PySem.W.Frag} {mg : Str → Option Value} {base : Heap}
theorem sc__bits_of : FnScope ["word", "signs", "bit", "sign"] ["word"] (defScope s__bits_of) := ⟨rfl, rfl, rfl, by decide +kernel, rfl, by decide +kernel, by decide +kernel⟩
abbrev N__bits_of : List Str := ["word", "signs", "bit", "sign"]
theorem ok__bits_of {f : Addr} {fd : FuncData} (F : Fun K "_bits_of" "_bits_of" s__bits_of f fd) (T : Blt mg) : FnOk P w K mg base CX0 1 f fd ["word"] spBits := by
  refine F.ok sc__bits_of (fun vs H Q E h => ?_) (fun cdv A outer s H vs Q E hr h => ?_)
  · obtain ⟨n, rfl, _⟩ := h
    rfl
  · obtain ⟨n, rfl, hn, k⟩ := h
    refine ⟨_, (pss_cons (ps_set (i := 1) sc__bits_of.nd rfl (Or.inl rfl) (pe_revS (pe_fmtB (pv 0))))
  (pss_one (ps_ret (pe_callTy call_tuple_of (by rfl) T.n_tuple (by decide +kernel) (pa_cons (pe_lc (own := [("bit", 2), ("sign", 3)]) (g := (gTup K 2 (gCons (gName 2) (gCons (gName 3) gNil)))) rfl sc__bits_of.nd (pi_enumS (by rfl) T.n_enumerate (pa_cons (pv 1) pa_nil)) (blkOk_by (N := N__bits_of) (own := [("bit", 2), ("sign", 3)]) (sc := defScope s__bits_of) (by decide +kernel)) (fun _ _ _ _ _ => (pg_tup (by rfl) (pgs_cons (pg_name (i := 2) sc__bits_of.nd rfl (Or.inl rfl)) (pgs_cons (pg_name (i := 3) sc__bits_of.nd rfl (Or.inl rfl)) pgs_nil)))) (fun _ _ _ _ _ => (pts_one (pt_cmpR op_eq (pv 3) pe_str (nomark _)))) (fun _ _ _ _ _ => (pv 2))) pa_nil))))), ?_⟩
    have hs := bin_small hn
    refine ⟨_, rfl, n, rfl, hs, _, rfl, hs, ?_⟩
    refine ⟨_, rfl, _, rfl, fun D hD => ?_⟩
    have hL : (M04.R n).length ≤ 1000 := M04.R_len (by decide) hn
    have hsz : (revT (binT n)).cps.size = (M04.R n).length := by rw [rev_bin, List.size_toArray]
    refine lc_it walk_enumS (fun i H' => Same H H' ∧ H' D = some (.lst (bitsB n i))) ⟨same_new hD, upd_same⟩ (fun _ _ _ _ => trivial) ?_ ?_
    · rintro i y H0 H1 hi ⟨S0, h0⟩ ⟨q, a, b, rfl, hq, rfl, ea, eb⟩
      have ea : V.int (i : Int) = a := Option.some.inj ea
      subst ea
      have hi2 : i < (M04.R n).length := by rw [← hsz]; exact hi
      have hsign : (revT (binT n)).cps[i]? = some (48 + n / 2 ^ i % 2) := by
        rw [rev_bin, List.getElem?_toArray]
        exact (M04.R_facts n).2 i hi2
      have eb : V.str ⟨#[48 + n / 2 ^ i % 2]⟩ = b := by
        have z : (revT (binT n)).cps[i]?.map (fun c => V.str ⟨#[c]⟩) = some b := eb
        rw [hsign] at z
        exact Option.some.inj z
      subst eb
      have ndq : D ≠ q := ne_of_none h0 hq
      refine ⟨q, _, rfl, SqT.of upd_same, rfl, _, _, rfl, _, _, rfl, rfl, rfl, ?_⟩
      refine ⟨_, rfl, rfl, _, rfl, ?_⟩
      have S1 : Same H (upd H0 q (.tup [V.int (i : Int), V.str ⟨#[48 + n / 2 ^ i % 2]⟩])) := S0.trans (same_new hq)
      have h1 : (upd H0 q (.tup [V.int (i : Int), V.str ⟨#[48 + n / 2 ^ i % 2]⟩])) D = some (.lst (bitsB n i)) := by
        rw [upd_ne ndq]
        exact h0
      have hb : decide (V.str ⟨#[48 + n / 2 ^ i % 2]⟩ = V.str (Str.ofString "1")) = decide (n / 2 ^ i % 2 = 1) := by
        have e : n / 2 ^ i % 2 = 0 ∨ n / 2 ^ i % 2 = 1 := by omega
        rcases e with z | z <;> rw [z] <;> decide +kernel
      rw [hb]
      refine iteB (fun c => ?_) (fun c => ?_)
      · have c := of_decide_eq_true c
        refine ⟨_, rfl, _, h1, small1000 (Nat.le_trans (bitsB_len n i) (by omega)), ?_, ?_⟩
        · intro p o e
          rw [upd_ne (ne_of_none e hD)]
          exact S1 p o e
        · rw [upd_same, bitsB_next, if_pos c]
      · have c := of_decide_eq_false c
        exact ⟨S1, by rw [bitsB_next, if_neg c]; exact h1⟩
    · rintro H' ⟨S, hl⟩
      rw [hsz] at hl
      refine ⟨D, _, rfl, .inl ⟨SqL.of hl, fun l hl2 => ?_⟩⟩
      exact k l _ (S.trans (same_new hl2)) upd_same
theorem sc_differing : FnScope ["one", "other"] ["one", "other"] (defScope s_differing) := ⟨rfl, rfl, rfl, by decide +kernel, rfl, by decide +kernel, by decide +kernel⟩
theorem ok_differing {f f1 f3 C : Addr} {fd fd1 fd3 : FuncData} (F : Fun K "differing" "differing" s_differing f fd) (T : Blt mg) (D_need_word : Df K mg "need_word" s_need_word ["value", "part"] f3 fd3) (D__bits_of : Df K mg "_bits_of" s__bits_of ["word"] f1 fd1)
    (G_need_word : FnOk P w K mg base (L2.CX P w) 4 f3 fd3 ["value", "part"] (spNeedWord K C)) : FnOk P w K mg base (L2.CX P w) 5 f fd ["one", "other"] spDiff := by
  have G__bits_of : FnOk P w K mg base CX0 1 f1 fd1 ["word"] spBits := ok__bits_of D__bits_of.F T
  refine F.okX sc_differing (fun vs H Q E h => ?_) (fun cdv A outer s H vs Q E hr h => ?_)
  · obtain ⟨n, m, rfl, _⟩ := h
    rfl
  · obtain ⟨n, m, rfl, hn, k⟩ := h
    refine ⟨_, (pss_cons (ps_expr (pe_callS G_need_word (hr.mono (by decide)) (by rfl) D_need_word.g D_need_word.F.kp D_need_word.b (fun σ => passAt (takes_of rfl rfl rfl rfl) σ) (pa_cons (pv 0) (pa_cons pe_str pa_nil))))
  (pss_cons (ps_expr (pe_callS G_need_word (hr.mono (by decide)) (by rfl) D_need_word.g D_need_word.F.kp D_need_word.b (fun σ => passAt (takes_of rfl rfl rfl rfl) σ) (pa_cons (pv 1) (pa_cons pe_str pa_nil))))
  (pss_one (ps_ret (pe_call G__bits_of (hr.mono (by decide)) (by rfl) D__bits_of.g D__bits_of.F.kp D__bits_of.b .nil pass0 (pa_cons (pe_op op_xor (pv 0) (pv 1)) pa_nil)))))), ?_⟩
    refine ⟨_, rfl, _, "one", true, rfl, isI_int _, fun _ => ?_, fun z => no_nat z⟩
    refine ⟨_, rfl, _, "other", true, rfl, isI_int _, fun _ => ?_, fun z => no_nat z⟩
    refine ⟨_, rfl, _, rfl, _, _, rfl, rfl, n ^^^ m, ?_, hn, k⟩
    show [V.int (Builtin.bitXor (n : Int) (m : Int))] = _
    rw [xor_nat]
theorem sc__value_of : FnScope ["word", "value", "bit"] ["word"] (defScope s__value_of) := ⟨rfl, rfl, rfl, by decide +kernel, rfl, by decide +kernel, by decide +kernel⟩
theorem ok__value_of {f f1 : Addr} {fd fd1 : FuncData} (F : Fun K "_value_of" "_value_of" s__value_of f fd) (D_differing : Df K mg "differing" s_differing ["one", "other"] f1 fd1) (GX_differing : FnOk P w K mg base (L2.CX P w) 5 f1 fd1 ["one", "other"] spDiff) :
    FnOk P w K mg base CX0 6 f fd ["word"] spValueOf := by
  have G_differing := calm_of GX_differing
  refine F.ok sc__value_of (fun vs H Q E h => ?_) (fun cdv A outer s H vs Q E hr h => ?_)
  · obtain ⟨n, c, rfl, _⟩ := h
    rfl
  · obtain ⟨n, c, rfl, hn, hc, k⟩ := h
    refine ⟨_, (pss_cons (ps_set (i := 1) sc__value_of.nd rfl (Or.inl rfl) pe_int)
  (pss_cons (ps_for PassesOwn.never rfl (pi_tup (pe_call G_differing (hr.mono (by decide)) (by rfl) D_differing.g D_differing.F.kp D_differing.b .nil pass0 (pa_cons (pv 0) (pa_cons pe_int pa_nil)))) (pg_name (i := 2) sc__value_of.nd rfl (Or.inl rfl)) (pss_one (ps_set (i := 1) sc__value_of.nd rfl (Or.inl rfl) (pe_op op_xor (pv 1) (pe_op op_add (pv 2) pe_int)))))
  (pss_one (ps_ret (pv 1))))), ?_⟩
    have hn2 : n < 2 ^ 1000 := Nat.lt_of_lt_of_le hn (Nat.pow_le_pow_right (by decide) hc)
    refine ⟨_, rfl, n, 0, rfl, by rw [Nat.xor_zero]; exact hn2, fun q H1 S1 hq => ?_⟩
    rw [Nat.xor_zero] at hq
    refine ⟨q, rfl, ⟨_, SqT.of hq⟩, ?_⟩
    have hlen : (bitsV n).length = (M04.D n (M04.R n).length).reverse.length := by
      unfold bitsV
      rw [List.length_map]
    refine for_it (J := Itt K q) walk_tup (fun i σ H' => H' = H1 ∧ ∃ v : Option V, σ = [some (.int (n : Int)), some (.int ((M23.fold ((M04.D n (M04.R n).length).reverse.take i) : Nat) : Int)), v]) ⟨rfl, none, rfl⟩ (fun i σ H' _ h => by rw [h.1]; exact SqT.of hq) ?_ ?_
    · rintro i x σ H2 H3 hi ⟨rfl, v, rfl⟩ ⟨rfl, hx⟩
      have hi2 : i < (M04.D n (M04.R n).length).reverse.length := by rw [← hlen]; exact hi
      have ex : x = V.int (((M04.D n (M04.R n).length).reverse[i] : Nat) : Int) := by
        have z : (bitsV n)[i]? = some (V.int (((M04.D n (M04.R n).length).reverse[i] : Nat) : Int)) := by
          unfold bitsV
          rw [List.getElem?_map, List.getElem?_eq_getElem hi2]
          rfl
        exact Option.some.inj (hx.symm.trans z)
      subst ex
      refine ⟨_, rfl, _, rfl, _, _, rfl, rfl, _, _, rfl, rfl, rfl, some (.int (((M04.D n (M04.R n).length).reverse[i] : Nat) : Int)), ?_⟩
      show [some (V.int (n : Int)), some (V.int (Builtin.bitXor ((M23.fold ((M04.D n (M04.R n).length).reverse.take i) : Nat) : Int) ((((M04.D n (M04.R n).length).reverse[i] + 1 : Nat)) : Int))), _] = _
      have e : (M04.D n (M04.R n).length).reverse.take (i + 1) = (M04.D n (M04.R n).length).reverse.take i ++ [(M04.D n (M04.R n).length).reverse[i]] := by
        rw [List.take_add_one, List.getElem?_eq_getElem hi2]
        rfl
      rw [xor_nat, e, M23.fold_more]
    · rintro σ H2 ⟨rfl, v, rfl⟩
      refine ⟨_, rfl, ?_⟩
      rw [hlen, List.take_length, M23.fold_D, M23.V_same (M04.R_facts n).1 hn]
      exact k H2 S1
theorem sc__bits_for : FnScope ["size"] ["size"] (defScope s__bits_for) := ⟨rfl, rfl, rfl, by decide +kernel, rfl, by decide +kernel, by decide +kernel⟩
theorem ok__bits_for {f : Addr} {fd : FuncData} (F : Fun K "_bits_for" "_bits_for" s__bits_for f fd) : FnOk P w K mg base CX0 1 f fd ["size"] spBitsFor := by
  refine F.ok sc__bits_for (fun vs H Q E h => ?_) (fun cdv A outer s H vs Q E hr h => ?_)
  · obtain ⟨k, rfl, _⟩ := h
    rfl
  · obtain ⟨k, rfl, hk, q⟩ := h
    refine ⟨_, (pss_one (ps_ret (pe_op op_sub (pe_op op_oneN pe_int (pv 0)) pe_int))), ?_⟩
    refine ⟨_, rfl, k, rfl, rfl, by omega, _, _, rfl, rfl, ?_⟩
    have e : ((2 ^ k : Nat) : Int) - 1 = ((2 ^ k - 1 : Nat) : Int) := by
      have := M23.two_pos k
      omega
    show Q (.int (((2 ^ k : Nat) : Int) - 1)) H
    rw [e]
    exact q
theorem sc__need_room : FnScope ["word", "size"] ["word", "size"] (defScope s__need_room) := ⟨rfl, rfl, rfl, by decide +kernel, rfl, by decide +kernel, by decide +kernel⟩
theorem ok__need_room {f f1 C fI : Addr} {fd fd1 fdI : FuncData} (F : Fun K "_need_room" "_need_room" s__need_room f fd) (D__bits_for : Df K mg "_bits_for" s__bits_for ["size"] f1 fd1)
    (R_Misfit : Err P w K mg base "Misfit" "part" C fI fdI) : FnOk P w K mg base (L2.CX P w) 3 f fd ["word", "size"] (spRoom C) := by
  have G__bits_for : FnOk P w K mg base CX0 1 f1 fd1 ["size"] spBitsFor := ok__bits_for D__bits_for.F
  refine F.okX sc__need_room (fun vs H Q E h => ?_) (fun cdv A outer s H vs Q E hr h => ?_)
  · obtain ⟨n, k, rfl, _⟩ := h
    rfl
  · obtain ⟨n, k, rfl, hk, k1, k2⟩ := h
    refine ⟨_, (pss_one (ps_if (pt_truth (pe_op op_shrN (pv 0) (pe_call G__bits_for (hr.mono (by decide)) (by rfl) D__bits_for.g D__bits_for.F.kp D__bits_for.b .nil pass0 (pa_cons (pv 1) pa_nil))) (by intro _; rfl)) (pss_one (ps_raise1 rfl (takes_of rfl rfl rfl rfl) R_Misfit (hr.mono (by decide)) (by rfl) pe_str)) pss_nil)), ?_⟩
    refine ⟨_, rfl, _, rfl, k, rfl, hk, _, _, rfl, rfl, ?_⟩
    have en : (n : Int) / 2 ^ (2 ^ k - 1) = ((n / 2 ^ (2 ^ k - 1) : Nat) : Int) := by
      rw [Int.natCast_ediv, Int.natCast_pow]
      rfl
    rw [en]
    refine ⟨_, rfl, ?_⟩
    by_cases c : n < 2 ^ (2 ^ k - 1)
    · rw [Nat.div_eq_of_lt c]
      exact k1 c
    · have c := Nat.le_of_not_lt c
      have pos : 0 < n / 2 ^ (2 ^ k - 1) := Nat.div_pos c (M23.two_pos _)
      have hb : (((n / 2 ^ (2 ^ k - 1) : Nat) : Int) != 0) = true := by
        rw [bne_iff_ne]
        omega
      rw [hb]
      exact raise1_of (W := fun cls d _ H => E cls d H) (σ := []) (v := .str "word") R_Misfit.T R_Misfit.no fun d hd => k2 c d hd
/-- what is no number within bounds -/
def Bad (K : PySem.W.Frag) (H : Hp) (x : V) (lo hi : Option Int) : Prop := ∃ b, IsI K H x b ∧ (b && inB lo hi x) = false
def Res (a m : Nat) : V := if a = m then .non else .int (((a ^^^ m) - 1 : Nat) : Int)
def spVal (K : PySem.W.Frag) (CW CN CM : Addr) : Sp := fun vs H Q E => ∃ x s : V, vs = [x, s] ∧ ((Bad K H x (some 0) none ∧ RaisesP CW "word" E H) ∨ ∃ n : Nat, x = .int (n : Int) ∧
  ((Bad K H s (some 1) (some 8) ∧ RaisesP CN "size" E H) ∨ ∃ k : Nat, s = .int (k : Int) ∧ 1 ≤ k ∧ k ≤ 8 ∧
    ((2 ^ (2 ^ k - 1) ≤ n ∧ RaisesP CM "word" E H) ∨ (n < 2 ^ (2 ^ k - 1) ∧ ∀ H', Same H H' → Q (.int ((M23.V n (2 ^ k - 1) : Nat) : Int)) H'))))
def spFlip (K : PySem.W.Frag) (CW CN CM : Addr) : Sp := fun vs H Q E => ∃ x s v : V, vs = [x, s, v] ∧ ((Bad K H x (some 0) none ∧ RaisesP CW "word" E H) ∨ ∃ n : Nat, x = .int (n : Int) ∧
  ((Bad K H s (some 1) (some 8) ∧ RaisesP CN "size" E H) ∨ ∃ k : Nat, s = .int (k : Int) ∧ 1 ≤ k ∧ k ≤ 8 ∧
    ((Bad K H v (some 0) (some 255) ∧ RaisesP CN "value" E H) ∨ ∃ m : Nat, v = .int (m : Int) ∧ m ≤ 255 ∧
      ((2 ^ (2 ^ k - 1) ≤ n ∧ RaisesP CM "word" E H) ∨ (n < 2 ^ (2 ^ k - 1) ∧ ((2 ^ k ≤ m ∧ RaisesP CM "value" E H) ∨ (m < 2 ^ k ∧ ∀ H', Same H H' → Q (Res (M23.V n (2 ^ k - 1)) m) H')))))))
theorem in_size {k : Nat} (h1 : 1 ≤ k) (h2 : k ≤ 8) : (true && inB (some 1) (some 8) (.int (k : Int))) = true := by
  show (true && (decide ((1 : Int) ≤ (k : Int)) && decide ((k : Int) ≤ 8))) = true
  rw [decide_eq_true (by omega), decide_eq_true (by omega)]
  rfl
theorem in_value {k : Nat} (h2 : k ≤ 255) : (true && inB (some 0) (some 255) (.int (k : Int))) = true := by
  show (true && (decide ((0 : Int) ≤ (k : Int)) && decide ((k : Int) ≤ 255))) = true
  rw [decide_eq_true (by omega), decide_eq_true (by omega)]
  rfl
theorem yes_no {b : Bool} {A : Prop} (h : b = true) (z : b = false) : A := by
  rw [h] at z
  cases z
theorem sc_value_by_flips : FnScope ["word", "size"] ["word", "size"] (defScope s_value_by_flips) := ⟨rfl, rfl, rfl, by decide +kernel, rfl, by decide +kernel, by decide +kernel⟩
theorem ok_value_by_flips {f f1 f2 f3 f4 CW CN CM : Addr} {fd fd1 fd2 fd3 fd4 : FuncData} (F : Fun K "value_by_flips" "value_by_flips" s_value_by_flips f fd) (T : Blt mg)
    (D_need_word : Df K mg "need_word" s_need_word ["value", "part"] f1 fd1) (G_need_word : FnOk P w K mg base (L2.CX P w) 4 f1 fd1 ["value", "part"] (spNeedWord K CW))
    (D_need_number : Df K mg "need_number" s_need_number ["value", "part", "least", "most"] f2 fd2) (G_need_number : FnOk P w K mg base (L2.CX P w) 4 f2 fd2 ["value", "part", "least", "most"] (spNeedNumber K CN))
    (D__need_room : Df K mg "_need_room" s__need_room ["word", "size"] f3 fd3) (G__need_room : FnOk P w K mg base (L2.CX P w) 3 f3 fd3 ["word", "size"] (spRoom CM))
    (D__value_of : Df K mg "_value_of" s__value_of ["word"] f4 fd4) (G__value_of : FnOk P w K mg base CX0 6 f4 fd4 ["word"] spValueOf) :
    FnOk P w K mg base (L2.CX P w) 7 f fd ["word", "size"] (spVal K CW CN CM) := by
  obtain ⟨tS, gS⟩ := T.g_MOST_SIZE
  refine F.okX sc_value_by_flips (fun vs H Q E h => ?_) (fun cdv A outer s H vs Q E hr h => ?_)
  · obtain ⟨x, y, rfl, _⟩ := h
    rfl
  · obtain ⟨x, y, rfl, h⟩ := h
    refine ⟨_, (pss_cons (ps_expr (pe_callS G_need_word (hr.mono (by decide)) (by rfl) D_need_word.g D_need_word.F.kp D_need_word.b (fun σ => passAt (takes_of rfl rfl rfl rfl) σ) (pa_cons (pv 0) (pa_cons pe_str pa_nil))))
  (pss_cons (ps_expr (pe_callS G_need_number (hr.mono (by decide)) (by rfl) D_need_number.g D_need_number.F.kp D_need_number.b (fun σ => passAt (takes_of rfl rfl rfl rfl) σ) (pa_cons (pv 1) (pa_cons pe_str (pa_cons pe_int (pa_cons (pe_glob (v := .int 8) rfl gS ⟨_, rfl⟩) pa_nil))))))
  (pss_cons (ps_expr (pe_callS G__need_room (hr.mono (by decide)) (by rfl) D__need_room.g D__need_room.F.kp D__need_room.b (fun σ => passAt (takes_of rfl rfl rfl rfl) σ) (pa_cons (pv 0) (pa_cons (pv 1) pa_nil))))
  (pss_one (ps_ret (pe_call G__value_of (hr.mono (by decide)) (by rfl) D__value_of.g D__value_of.F.kp D__value_of.b .nil pass0 (pa_cons (pv 0) pa_nil))))))), ?_⟩
    rcases h with ⟨⟨b, hI, hb⟩, kx⟩ | ⟨n, rfl, h⟩
    · exact ⟨_, rfl, _, "word", b, rfl, hI, fun z => yes_no z hb, fun _ => kx⟩
    refine ⟨_, rfl, _, "word", true, rfl, isI_int _, fun _ => ?_, fun z => no_nat z⟩
    rcases h with ⟨⟨b, hI, hb⟩, kx⟩ | ⟨k, rfl, k1, k8, h⟩
    · exact ⟨_, rfl, _, "size", some 1, some 8, b, rfl, hI, fun z => yes_no z hb, fun _ => kx⟩
    refine ⟨_, rfl, _, "size", some 1, some 8, true, rfl, isI_int _, fun _ => ?_, fun z => yes_no (in_size k1 k8) z⟩
    rcases h with ⟨hn, kx⟩ | ⟨hn, q⟩
    · exact ⟨_, rfl, _, rfl, n, k, rfl, k8, fun z => absurd z (Nat.not_lt.mpr hn), fun _ => kx⟩
    refine ⟨_, rfl, _, rfl, n, k, rfl, k8, fun _ => ?_, fun z => absurd hn (Nat.not_lt.mpr z)⟩
    have p8 : 2 ^ k ≤ 256 := Nat.le_trans (Nat.pow_le_pow_right (by decide) k8) (by decide)
    exact ⟨_, rfl, n, 2 ^ k - 1, rfl, hn, by omega, q⟩
theorem sc_flip_to : FnScope ["word", "size", "value", "apart"] ["word", "size", "value"] (defScope s_flip_to) := ⟨rfl, rfl, rfl, by decide +kernel, rfl, by decide +kernel, by decide +kernel⟩
theorem ok_flip_to {f f1 f2 f3 f4 CW CN CM fI : Addr} {fd fd1 fd2 fd3 fd4 fdI : FuncData} (F : Fun K "flip_to" "flip_to" s_flip_to f fd) (T : Blt mg)
    (D_need_word : Df K mg "need_word" s_need_word ["value", "part"] f1 fd1) (G_need_word : FnOk P w K mg base (L2.CX P w) 4 f1 fd1 ["value", "part"] (spNeedWord K CW))
    (D_need_number : Df K mg "need_number" s_need_number ["value", "part", "least", "most"] f2 fd2) (G_need_number : FnOk P w K mg base (L2.CX P w) 4 f2 fd2 ["value", "part", "least", "most"] (spNeedNumber K CN))
    (D__need_room : Df K mg "_need_room" s__need_room ["word", "size"] f3 fd3) (G__need_room : FnOk P w K mg base (L2.CX P w) 3 f3 fd3 ["word", "size"] (spRoom CM))
    (D__value_of : Df K mg "_value_of" s__value_of ["word"] f4 fd4) (G__value_of : FnOk P w K mg base CX0 6 f4 fd4 ["word"] spValueOf)
    (R_Misfit : Err P w K mg base "Misfit" "part" CM fI fdI) :
    FnOk P w K mg base (L2.CX P w) 7 f fd ["word", "size", "value"] (spFlip K CW CN CM) := by
  obtain ⟨tS, gS⟩ := T.g_MOST_SIZE
  obtain ⟨tV, gV⟩ := T.g_MOST_VALUE
  refine F.okX sc_flip_to (fun vs H Q E h => ?_) (fun cdv A outer s H vs Q E hr h => ?_)
  · obtain ⟨x, y, z, rfl, _⟩ := h
    rfl
  · obtain ⟨x, y, z, rfl, h⟩ := h
    refine ⟨_, (pss_cons (ps_expr (pe_callS G_need_word (hr.mono (by decide)) (by rfl) D_need_word.g D_need_word.F.kp D_need_word.b (fun σ => passAt (takes_of rfl rfl rfl rfl) σ) (pa_cons (pv 0) (pa_cons pe_str pa_nil))))
  (pss_cons (ps_expr (pe_callS G_need_number (hr.mono (by decide)) (by rfl) D_need_number.g D_need_number.F.kp D_need_number.b (fun σ => passAt (takes_of rfl rfl rfl rfl) σ) (pa_cons (pv 1) (pa_cons pe_str (pa_cons pe_int (pa_cons (pe_glob (v := .int 8) rfl gS ⟨_, rfl⟩) pa_nil))))))
  (pss_cons (ps_expr (pe_callS G_need_number (hr.mono (by decide)) (by rfl) D_need_number.g D_need_number.F.kp D_need_number.b (fun σ => passAt (takes_of rfl rfl rfl rfl) σ) (pa_cons (pv 2) (pa_cons pe_str (pa_cons pe_int (pa_cons (pe_glob (v := .int 255) rfl gV ⟨_, rfl⟩) pa_nil))))))
  (pss_cons (ps_expr (pe_callS G__need_room (hr.mono (by decide)) (by rfl) D__need_room.g D__need_room.F.kp D__need_room.b (fun σ => passAt (takes_of rfl rfl rfl rfl) σ) (pa_cons (pv 0) (pa_cons (pv 1) pa_nil))))
  (pss_cons (ps_if (pt_truth (pe_op op_shrN (pv 2) (pv 1)) (by intro _; rfl)) (pss_one (ps_raise1 rfl (takes_of rfl rfl rfl rfl) R_Misfit (hr.mono (by decide)) (by rfl) pe_str)) pss_nil)
  (pss_cons (ps_set (i := 3) sc_flip_to.nd rfl (Or.inl rfl) (pe_op op_xor (pe_call G__value_of (hr.mono (by decide)) (by rfl) D__value_of.g D__value_of.F.kp D__value_of.b .nil pass0 (pa_cons (pv 0) pa_nil)) (pv 2)))
  (pss_one (ps_ret (pe_ifExp (pt_truth (pv 3) (by intro _; rfl)) (pe_op op_sub (pv 3) pe_int) pe_non))))))))), ?_⟩
    rcases h with ⟨⟨b, hI, hb⟩, kx⟩ | ⟨n, rfl, h⟩
    · exact ⟨_, rfl, _, "word", b, rfl, hI, fun z => yes_no z hb, fun _ => kx⟩
    refine ⟨_, rfl, _, "word", true, rfl, isI_int _, fun _ => ?_, fun z => no_nat z⟩
    rcases h with ⟨⟨b, hI, hb⟩, kx⟩ | ⟨k, rfl, k1, k8, h⟩
    · exact ⟨_, rfl, _, "size", some 1, some 8, b, rfl, hI, fun z => yes_no z hb, fun _ => kx⟩
    refine ⟨_, rfl, _, "size", some 1, some 8, true, rfl, isI_int _, fun _ => ?_, fun z => yes_no (in_size k1 k8) z⟩
    rcases h with ⟨⟨b, hI, hb⟩, kx⟩ | ⟨m, rfl, hm, h⟩
    · exact ⟨_, rfl, _, "value", some 0, some 255, b, rfl, hI, fun z => yes_no z hb, fun _ => kx⟩
    refine ⟨_, rfl, _, "value", some 0, some 255, true, rfl, isI_int _, fun _ => ?_, fun z => yes_no (in_value hm) z⟩
    rcases h with ⟨hn, kx⟩ | ⟨hn, h⟩
    · exact ⟨_, rfl, _, rfl, n, k, rfl, k8, fun z => absurd z (Nat.not_lt.mpr hn), fun _ => kx⟩
    refine ⟨_, rfl, _, rfl, n, k, rfl, k8, fun _ => ?_, fun z => absurd hn (Nat.not_lt.mpr z)⟩
    have p8 : 2 ^ k ≤ 256 := Nat.le_trans (Nat.pow_le_pow_right (by decide) k8) (by decide)
    refine ⟨_, rfl, _, rfl, _, k, rfl, rfl, ?_⟩
    have en : (m : Int) / 2 ^ k = ((m / 2 ^ k : Nat) : Int) := by
      rw [Int.natCast_ediv, Int.natCast_pow]
      rfl
    rw [en]
    refine ⟨_, rfl, ?_⟩
    rcases h with ⟨hmk, kx⟩ | ⟨hmk, q⟩
    · have pos : 0 < m / 2 ^ k := Nat.div_pos hmk (M23.two_pos _)
      have hb : (((m / 2 ^ k : Nat) : Int) != 0) = true := by
        rw [bne_iff_ne]
        omega
      rw [hb]
      exact raise1_of (W := fun cls d _ H => E cls d H) (σ := []) (v := .str "value") R_Misfit.T R_Misfit.no kx
    · rw [Nat.div_eq_of_lt hmk]
      refine ⟨_, rfl, n, 2 ^ k - 1, rfl, hn, by omega, fun H1 S1 => ?_⟩
      refine ⟨_, rfl, _, _, rfl, rfl, ?_⟩
      have q := q H1 S1
      unfold Res at q
      refine ⟨_, rfl, _, rfl, ?_⟩
      refine (show (if (Builtin.bitXor ((M23.V n (2 ^ k - 1) : Nat) : Int) (m : Int) != 0) = true then _ else _) from ?_)
      by_cases c : M23.V n (2 ^ k - 1) = m
      · rw [if_pos c] at q
        rw [xor_nat, c, Nat.xor_self]
        exact q
      · rw [if_neg c] at q
        have hne : M23.V n (2 ^ k - 1) ^^^ m ≠ 0 := fun z => c (M07.xor_zero_eq z)
        have hb : (((M23.V n (2 ^ k - 1) ^^^ m : Nat) : Int) != 0) = true := by
          rw [bne_iff_ne]
          omega
        rw [xor_nat, hb]
        refine ⟨_, rfl, _, _, rfl, rfl, ?_⟩
        have e : (((M23.V n (2 ^ k - 1) ^^^ m) - 1 : Nat) : Int) = Builtin.bitXor ((M23.V n (2 ^ k - 1) : Nat) : Int) (m : Int) - 1 := by
          rw [xor_nat]
          omega
        rw [e] at q
        exact q
end
end K23
namespace K23
open PySem PySem.Spec PyProof.Rows L2 OB SkE
section
variable {P : Program} {w : World} {K : PySem.W.Frag} {mg : Str → Option Value} {base : Heap}
theorem cut60 (ns : List Int) : cutV (ns.map V.int) none (some 60) = (ns.take 60).map V.int := by
  unfold cutV
  have a : HT.sIx (ns.map V.int).length 0 none = 0 := rfl
  rw [a, List.drop_zero, Nat.sub_zero, List.map_take]
  have e : HT.sIx (ns.map V.int).length (ns.map V.int).length (some 60) = min 60 (ns.map V.int).length := HT.sIx_nat _ _ 60
  rw [e]
  by_cases h : (ns.map V.int).length ≤ 60
  · rw [Nat.min_eq_right h, List.take_length, List.take_of_length_le h]
  · rw [Nat.min_eq_left (by omega)]
theorem take_more {α : Type} {l : List α} {i : Nat} {x : α} (h : l[i]? = some x) : l.take (i + 1) = l.take i ++ [x] := by
  rw [List.take_add_one, h]
  rfl
theorem sc__law_loft : FnScope ["script", "cell"] ["script"] (defScope s__law_loft) := ⟨rfl, rfl, rfl, by decide +kernel, rfl, by decide +kernel, by decide +kernel⟩
abbrev N__law_loft : List Str := ["script", "cell"]
theorem ok__law_loft {f : Addr} {fd : FuncData} (F : Fun K "_law_loft" "_law_loft" s__law_loft f fd) (T : Blt mg) : FnOk P w K mg base CX0 1 f fd ["script"] (spLot K) := by
  refine F.ok sc__law_loft (fun vs H Q E h => ?_) (fun cdv A outer s H vs Q E hr h => ?_)
  · obtain ⟨a, ns, rfl, _⟩ := h
    rfl
  · obtain ⟨a, ns, rfl, hS, hl, k⟩ := h
    refine ⟨_, (pss_one (ps_ret (pe_lst (pa_cons (pe_lc (own := [("cell", 1)]) (g := (gName 1)) (tt := tYes) rfl sc__law_loft.nd (pi_list (pe_slice sl_list (pv 0) po_none (po_some pe_int))) (blkOk_by (N := N__law_loft) (own := [("cell", 1)]) (sc := defScope s__law_loft) (by decide +kernel)) (fun _ _ _ _ _ => (pg_name (i := 1) sc__law_loft.nd rfl (Or.inl rfl))) (fun _ _ _ _ _ => pts_nil) (fun _ _ _ _ _ => (pe_callTy call_int1 (by rfl) T.n_int (by decide +kernel) (pa_cons (pv 1) pa_nil)))) (pa_cons pe_int (pa_cons pe_int pa_nil)))))), ?_⟩
    refine ⟨_, rfl, _, rfl, a, _, rfl, hS, fun c hc => ?_⟩
    have e1 : cutV (ns.map V.int) none (some 60) = (ns.take 60).map V.int := cut60 ns
    rw [e1]
    have S0 : Same H (upd H c (.lst ((ns.take 60).map V.int))) := same_new hc
    refine ⟨c, rfl, ⟨_, .inl (.inl upd_same)⟩, fun b hb => ?_⟩
    have ncb : c ≠ b := ne_of_none upd_same hb
    refine lc_list (K := K) (a := c) (xs := (ns.take 60).map V.int) (fun i H' => Same (upd H c (.lst ((ns.take 60).map V.int))) H' ∧ H' b = some (.lst (((ns.take 60).map V.int).take i)))
      ⟨same_new hb, upd_same⟩ (fun i H' _ h => h.1.seq (.inl (.inl upd_same))) ?_ ?_
    · rintro i y H' hy ⟨S1, h1⟩
      obtain ⟨z, hz, rfl⟩ : ∃ z, (ns.take 60)[i]? = some z ∧ y = V.int z := by
        rw [List.getElem?_map] at hy
        cases e : (ns.take 60)[i]? with
        | none => rw [e] at hy; cases hy
        | some z => rw [e] at hy; exact ⟨z, rfl, (Option.some.inj hy).symm⟩
      refine ⟨rfl, _, rfl, .inl ⟨_, rfl, _, h1, ?_, ?_, ?_⟩⟩
      · refine small1000 ?_
        rw [List.length_take, List.length_map, List.length_take]
        omega
      · intro q o e
        have nb : q ≠ b := ne_of_none e hb
        rw [upd_ne nb]
        exact S1 q o e
      · rw [upd_same, ← List.map_take, ← List.map_take, take_more hz, List.map_append]
        rfl
    · rintro H' ⟨S1, h1⟩
      rw [List.take_length] at h1
      refine ⟨(by show 3 ≤ sizeLine; decide), fun p hp => ?_⟩
      have S2 : Same H H' := S0.trans S1
      have hb0 : H b = none := S0.free hb
      refine k p b _ (S2.free hp) hb0 ⟨ns.take 60, 0, 0, upd_same, ?_, Int.le_refl _, Int.le_refl _⟩ (S2.trans (same_new hp))
      rw [upd_ne (ne_of_none h1 hp)]
      exact h1
theorem sc__law_haul : FnScope ["loft", "many", "left", "turn", "cell", "mixed"] ["loft", "many"] (defScope s__law_haul) := ⟨rfl, rfl, rfl, by decide +kernel, rfl, by decide +kernel, by decide +kernel⟩
theorem ok__law_haul {f : Addr} {fd : FuncData} (F : Fun K "_law_haul" "_law_haul" s__law_haul f fd) (T : Blt mg) : FnOk P w K mg base CX0 1 f fd ["loft", "many"] spDraw := by
  refine F.ok sc__law_haul (fun vs H Q E h => ?_) (fun cdv A outer s H vs Q E hr h => ?_)
  · obtain ⟨p, b, n, many, rfl, _⟩ := h
    rfl
  · obtain ⟨p, b, n, many, rfl, O, hn, hm, hm2, k⟩ := h
    obtain ⟨ns, t, l, hp, hb, ht, htn⟩ := id O
    have npb : p ≠ b := O.ne
    refine ⟨_, (pss_cons (ps_if (pt_cmpR op_gt (pe_ix ix_list (pv 0) pe_int (fun _ _ => rfl)) pe_int (nomark _)) (pss_cons (ps_set (i := 2) sc__law_haul.nd rfl (Or.inl rfl) (pe_callTy call_int1 (by rfl) T.n_int (by decide +kernel) (pa_cons (pe_ix ix_list (pv 0) pe_int (fun _ _ => rfl)) pa_nil)))
  (pss_cons (ps_asg (pe_op op_fdivW (pv 2) (pv 1)) (pg_sub (pv 0) pe_int set_list))
  (pss_one (ps_ret (pe_op op_mod (pe_callTy call_int1 (by rfl) T.n_int (by decide +kernel) (pa_cons (pv 2) pa_nil)) (pv 1)))))) pss_nil)
  (pss_cons (ps_set (i := 3) sc__law_haul.nd rfl (Or.inl rfl) (pe_ix ix_list (pv 0) pe_int (fun _ _ => rfl)))
  (pss_cons (ps_asg (pe_op op_add (pv 3) pe_int) (pg_sub (pv 0) pe_int set_list))
  (pss_cons (ps_set (i := 4) sc__law_haul.nd rfl (Or.inl rfl) (pe_op op_add (pe_op op_mul pe_int (pv 3)) pe_int))
  (C8.pss_cut (ps_if (pt_cmpR (op_neD hr.units) (pe_ix ix_list (pv 0) pe_int (fun _ _ => rfl)) (pe_lst pa_nil) (nomark _)) (pss_one (ps_set (i := 4) sc__law_haul.nd rfl (Or.inl rfl) (pe_ix ix_list (pe_ix ix_list (pv 0) pe_int (fun _ _ => rfl)) (pe_op op_mod (pe_callTy call_int1 (by rfl) T.n_int (by decide +kernel) (pa_cons (pv 3) pa_nil)) (pe_callB call_len_seq (by rfl) T.n_len (by decide +kernel) (pa_cons (pe_ix ix_list (pv 0) pe_int (fun _ _ => rfl)) pa_nil))) (fun _ _ => rfl)))) pss_nil)
  (pss_cons (ps_if (PW.pt (pw_and (pt_cmpR op_lt (pv 3) (pe_callB call_len_seq (by rfl) T.n_len (by decide +kernel) (pa_cons (pe_ix ix_list (pv 0) pe_int (fun _ _ => rfl)) pa_nil)) (nomark _)) (pw_and1 (pt_cmpR op_ge (pe_callB call_abs (by rfl) T.n_abs (by decide +kernel) (pa_cons (pv 4) pa_nil)) (pe_op op_pow pe_int pe_int) (nomark _))))) (pss_cons (ps_set (i := 2) sc__law_haul.nd rfl (Or.inl rfl) (pe_op op_add (pe_op op_mul pe_int (pe_op op_sub (pe_callB call_abs (by rfl) T.n_abs (by decide +kernel) (pa_cons (pe_callTy call_int1 (by rfl) T.n_int (by decide +kernel) (pa_cons (pv 4) pa_nil)) pa_nil)) (pe_op op_pow pe_int pe_int))) (pe_callTy call_int1 (by rfl) T.n_int (by decide +kernel) (pa_cons (pe_cmpR op_lt (pv 4) pe_int (nomark _)) pa_nil))))
  (pss_cons (ps_asg (pe_op op_fdivW (pv 2) (pv 1)) (pg_sub (pv 0) pe_int set_list))
  (pss_one (ps_ret (pe_op op_mod (pe_callTy call_int1 (by rfl) T.n_int (by decide +kernel) (pa_cons (pv 2) pa_nil)) (pv 1)))))) pss_nil)
  (pss_cons (ps_set (i := 5) sc__law_haul.nd rfl (Or.inl rfl) (pe_op op_mod (pe_callTy call_int1 (by rfl) T.n_int (by decide +kernel) (pa_cons (pe_op op_pow (pe_op op_add (pe_op op_add (pe_op op_mod (pe_callTy call_int1 (by rfl) T.n_int (by decide +kernel) (pa_cons (pv 4) pa_nil)) pe_int) (pe_op op_mul pe_int (pv 3))) pe_int) pe_int) pa_nil)) pe_int))
  (pss_cons (ps_set (i := 5) sc__law_haul.nd rfl (Or.inl rfl) (pe_op op_mod (pe_callTy call_int1 (by rfl) T.n_int (by decide +kernel) (pa_cons (pe_op op_pow (pe_op op_add (pe_op op_add (pe_op op_mul (pv 5) (pe_op op_add (pe_op op_mul pe_int (pv 3)) pe_int)) (pe_op op_mul (pe_op op_mul pe_int (pv 3)) (pv 3))) pe_int) pe_int) pa_nil)) pe_int))
  (pss_one (ps_ret (pe_op op_mod (pe_callTy call_int1 (by rfl) T.n_int (by decide +kernel) (pa_cons (pe_op op_fdiv (pv 5) pe_int) pa_nil)) (pv 1)))))))))))), ?_⟩
    -- quay[2] > 0
    refine ⟨_, rfl, p, _, _, _, rfl, rfl, SqL.of hp, rfl, _, _, rfl, rfl, _, rfl, ?_⟩
    refine ite2 (fun c => ?_) (fun c => ?_)
    · -- left = int(quay[2]); quay[2] = left // many; return int(left) % many
      refine ⟨_, rfl, p, _, _, _, rfl, rfl, SqL.of hp, rfl, .inl ⟨_, rfl, ?_⟩⟩
      refine ⟨_, rfl, _, rfl, _, _, rfl, rfl, wide_div hm hm2 (by decide) (by decide), _, rfl, p, _, _, _, rfl, rfl, hp, rfl, ?_⟩
      refine ⟨_, rfl, .inl ⟨_, rfl, _, rfl, _, _, rfl, rfl, hm, ?_⟩⟩
      refine k _ _ (Int.emod_nonneg _ (by omega)) (Int.emod_lt_of_pos _ hm) ⟨ns, t, _, upd_same, ?_, ht, by omega⟩ but_at
      rw [upd_ne npb.symm]
      exact hb
    · -- turn = quay[1]; quay[1] = turn + 1; cell = A * turn + B
      refine ⟨_, rfl, p, _, _, _, rfl, rfl, SqL.of hp, rfl, ?_⟩
      refine ⟨_, rfl, _, _, rfl, rfl, _, rfl, p, _, _, _, rfl, rfl, hp, rfl, ?_⟩
      refine ⟨_, rfl, _, _, rfl, rfl, .inl ⟨by decide, by decide⟩, _, _, rfl, rfl, ?_⟩
      -- quay[0] != []
      refine ⟨fun σ' H' => ∃ c0 : Int, σ' = [some (.ref p), some (.int many), none, some (.int t), some (.int c0), none] ∧ H' p = some (.lst [.ref b, .int (t + 1), .int l]) ∧ H' b = some (.lst (ns.map V.int)) ∧ But p H H', ?_, ?_⟩
      rotate_left
      · rintro σ' H' ⟨c0, rfl, hp2, hb2, S2⟩
        have ht2 : t ≤ 1000000 := by omega
        have fin : ∀ r : Int, 0 ≤ r → r < many → Q (.int r) H' := fun r h1 h2 => k r H' h1 h2 ⟨ns, t + 1, l, hp2, hb2, by omega, by omega⟩ S2
        have end_ : ∀ x : Int, Q (.int (x % many)) H' := fun x => fin _ (Int.emod_nonneg _ (by omega)) (Int.emod_lt_of_pos _ hm)
        refine ⟨_, rfl, _, rfl, p, _, _, _, rfl, rfl, SqL.of hp2, rfl, b, _, rfl, .inl (SqL.of hb2), _, _, rfl, rfl, _, rfl, ?_⟩
        refine ite2 (fun c1 => ?_) (fun c1 => ?_)
        · refine ⟨_, rfl, _, rfl, _, _, rfl, rfl, ⟨by decide, by decide, by decide⟩, _, _, rfl, rfl, _, rfl, ?_⟩
          refine ite2 (fun c2 => ?_) (fun c2 => ?_)
          · refine ⟨_, rfl, .inl ⟨_, rfl, _, rfl, _, _, rfl, rfl, ⟨by decide, by decide, by decide⟩, _, _, rfl, rfl, _, _, rfl, rfl, .inl ⟨by decide, by decide⟩, ?_⟩⟩
            refine ⟨_, rfl, _, _, rfl, rfl, .inr ⟨_, rfl, _, _, rfl, rfl, ?_⟩⟩
            refine ⟨_, rfl, _, rfl, _, _, rfl, rfl, wide_div hm hm2 (by decide) (by decide), _, rfl, p, _, _, _, rfl, rfl, hp2, rfl, ?_⟩
            refine ⟨_, rfl, .inl ⟨_, rfl, _, rfl, _, _, rfl, rfl, hm, ?_⟩⟩
            refine k _ _ (Int.emod_nonneg _ (by omega)) (Int.emod_lt_of_pos _ hm) ⟨ns, t + 1, _, upd_same, ?_, by omega, by omega⟩ (S2.trans but_at)
            rw [upd_ne npb.symm]
            exact hb2
          · refine ⟨_, rfl, .inl ⟨_, rfl, _, _, rfl, rfl, (by show (0 : Int) < _; decide), _, rfl, _, _, rfl, rfl, .inl ⟨by decide, by decide⟩, _, _, rfl, rfl, _, _, rfl, rfl, _, _, rfl, rfl, ⟨by decide, by decide, mix1 (by decide) (by decide) ht ht2 (by decide) (by decide) (by decide) (by decide)⟩, .inl ⟨_, rfl, _, _, rfl, rfl, (by show (0 : Int) < _; decide), ?_⟩⟩⟩
            refine ⟨_, rfl, _, rfl, _, _, rfl, rfl, .inl ⟨by decide, by decide⟩, _, _, rfl, rfl, _, _, rfl, rfl, .inl (mod_lim (by decide) (by decide)), _, rfl, _, _, rfl, rfl, .inl ⟨by decide, by decide⟩, _, rfl, _, _, rfl, rfl, .inr ⟨by omega, by omega⟩, _, _, rfl, rfl, _, _, rfl, rfl, _, _, rfl, rfl,
              ⟨by decide, by decide, mix2 (by decide) (by decide) ht ht2 (by decide) (by decide) (by decide) (by decide) (by decide) (by decide)⟩, .inl ⟨_, rfl, _, _, rfl, rfl, (by show (0 : Int) < _; decide), ?_⟩⟩
            exact ⟨_, rfl, _, _, rfl, rfl, ⟨by decide, by decide⟩, .inl ⟨_, rfl, _, rfl, _, _, rfl, rfl, hm, end_ _⟩⟩
        · refine ⟨_, rfl, .inl ⟨_, rfl, _, _, rfl, rfl, (by show (0 : Int) < _; decide), _, rfl, _, _, rfl, rfl, .inl ⟨by decide, by decide⟩, _, _, rfl, rfl, _, _, rfl, rfl, _, _, rfl, rfl, ⟨by decide, by decide, mix1 (by decide) (by decide) ht ht2 (by decide) (by decide) (by decide) (by decide)⟩, .inl ⟨_, rfl, _, _, rfl, rfl, (by show (0 : Int) < _; decide), ?_⟩⟩⟩
          refine ⟨_, rfl, _, rfl, _, _, rfl, rfl, .inl ⟨by decide, by decide⟩, _, _, rfl, rfl, _, _, rfl, rfl, .inl (mod_lim (by decide) (by decide)), _, rfl, _, _, rfl, rfl, .inl ⟨by decide, by decide⟩, _, rfl, _, _, rfl, rfl, .inr ⟨by omega, by omega⟩, _, _, rfl, rfl, _, _, rfl, rfl, _, _, rfl, rfl,
            ⟨by decide, by decide, mix2 (by decide) (by decide) ht ht2 (by decide) (by decide) (by decide) (by decide) (by decide) (by decide)⟩, .inl ⟨_, rfl, _, _, rfl, rfl, (by show (0 : Int) < _; decide), ?_⟩⟩
          exact ⟨_, rfl, _, _, rfl, rfl, ⟨by decide, by decide⟩, .inl ⟨_, rfl, _, rfl, _, _, rfl, rfl, hm, end_ _⟩⟩
      refine ⟨_, rfl, p, _, _, _, rfl, rfl, SqL.of upd_same, rfl, Nat.zero_le _, fun l0 hl0 => ?_⟩
      have hp1 : (upd (upd H p (.lst [.ref b, .int (t + 1), .int l])) l0 (.lst [])) p = some (.lst [.ref b, .int (t + 1), .int l]) := by
        rw [upd_ne (ne_of_none upd_same hl0), upd_same]
      have hb1 : (upd (upd H p (.lst [.ref b, .int (t + 1), .int l])) l0 (.lst [])) b = some (.lst (ns.map V.int)) := by
        have e : (upd H p (.lst [.ref b, .int (t + 1), .int l])) b = some (.lst (ns.map V.int)) := by
          rw [upd_ne npb.symm]
          exact hb
        rw [upd_ne (ne_of_none e hl0)]
        exact e
      have S1 : But p H (upd (upd H p (.lst [.ref b, .int (t + 1), .int l])) l0 (.lst [])) := but_at.trans (But.of (same_new hl0))
      refine ⟨.list (ns.map PyData.int), .list [], Dp.lst (SqL.of hb1) (dp_ints ns), Dp.lst (SqL.of upd_same) .nil, shaped_ints ns, shaped_ints [], _, rfl, ?_⟩
      rw [eqv_nil]
      refine ite2 (fun c => ?_) (fun c => ?_)
      · have c : ns ≠ [] := by simpa using c
        have hl : 0 < ns.length := List.length_pos_iff.mpr c
        have hl2 : (0 : Int) < ((ns.map V.int).length : Nat) := by
          rw [List.length_map]
          omega
        have h1 := Int.emod_nonneg t (show (((ns.map V.int).length : Nat) : Int) ≠ 0 by omega)
        have h2 := Int.emod_lt_of_pos t hl2
        obtain ⟨j, hj⟩ : ∃ j : Nat, t % (((ns.map V.int).length : Nat) : Int) = (j : Int) := ⟨_, (Int.toNat_of_nonneg h1).symm⟩
        have hj2 : j < ns.length := by
          rw [List.length_map] at hj h2
          omega
        have hx : (ns.map V.int)[j]? = some (V.int ns[j]) := by
          rw [List.getElem?_map, List.getElem?_eq_getElem hj2]
          rfl
        refine ⟨_, rfl, p, _, _, _, rfl, rfl, SqL.of hp1, rfl, ?_⟩
        refine ⟨_, rfl, .inl ⟨_, rfl, _, rfl, p, _, _, _, rfl, rfl, SqL.of hp1, rfl, b, _, rfl, .inl (SqL.of hb1), _, _, rfl, rfl, hl2, ?_⟩⟩
        exact ⟨b, _, _, V.int ns[j], rfl, rfl, SqL.of hb1, at_of hj hx, ns[j], rfl, hp1, hb1, S1⟩
      · exact ⟨_, rfl, hp1, hb1, S1⟩
end
end K23
namespace K23
open PySem PySem.Spec PyProof.Rows L2 OB SkE
/-- one of some things, drawn -/
def spOne : Sp := fun vs H Q _ => ∃ (p b l : Addr) (n : Nat) (xs : List V), vs = [.ref p, .ref l] ∧ Orch H p b n ∧ n < 1000000 ∧ H l = some (.lst xs) ∧ l ≠ p ∧ 0 < xs.length ∧ xs.length ≤ 1000 ∧
  ∀ (j : Nat) (x : V) (H' : Hp), xs[j]? = some x → Orch H' p b (n + 1) → But p H H' → Q x H'
def spWord : Sp := fun vs H Q _ => ∃ (p b : Addr) (n k : Nat), vs = [.ref p, .int (k : Int)] ∧ Orch H p b n ∧ n + 40 < 1000000 ∧ 1 ≤ k ∧ k ≤ 8 ∧
  ∀ (m : Nat) (H' : Hp), m < 2 ^ (2 ^ k - 1) → Orch H' p b (n + 40) → But p H H' → Q (.int m) H'
def spLValue : Sp := fun vs H Q _ => ∃ n k : Nat, vs = [.int (n : Int), .int (k : Int)] ∧ 1 ≤ k ∧ k ≤ 8 ∧ ∀ H' : Hp, Same H H' → Q (.int ((M23.V n (2 ^ k - 1) : Nat) : Int)) H'
theorem and_nat (a b : Nat) : Builtin.bitAnd (a : Int) (b : Int) = ((a &&& b : Nat) : Int) := by
  simp [Builtin.bitAnd]
theorem and_pow (a i : Nat) : a &&& 2 ^ i = if a.testBit i = true then 2 ^ i else 0 := by
  apply Nat.eq_of_testBit_eq
  intro j
  rw [Nat.testBit_and, Nat.testBit_two_pow]
  by_cases e : i = j
  · subst e
    cases h : a.testBit i
    · simp
    · simp [Nat.testBit_two_pow]
  · rw [decide_eq_false e, Bool.and_false]
    split
    · rw [Nat.testBit_two_pow, decide_eq_false e]
    · rw [Nat.zero_testBit]
theorem and_bit (a i : Nat) : (!decide (V.int (Builtin.bitAnd (a : Int) ((2 ^ i : Nat) : Int)) = V.int 0)) = a.testBit i := by
  rw [and_nat, and_pow]
  have p := M23.two_pos i
  cases e : a.testBit i with
  | true =>
    rw [if_pos rfl, decide_eq_false (fun z => by
      have z := V.int.inj z
      omega)]
    rfl
  | false =>
    rw [if_neg (by decide)]
    rfl
theorem small_of {a b : Nat} (h : a ≤ 1000) (e : b ≤ a) : b ≤ sizeLine := Nat.le_of_lt (small1000 (Nat.le_trans e h))
section
variable {P : Program} {w : World} {K : PySem.W.Frag} {mg : Str → Option Value} {base : Heap}
theorem sc__law_one : FnScope ["loft", "some"] ["loft", "some"] (defScope s__law_one) := ⟨rfl, rfl, rfl, by decide +kernel, rfl, by decide +kernel, by decide +kernel⟩
theorem ok__law_one {f f1 : Addr} {fd fd1 : FuncData} (F : Fun K "_law_one" "_law_one" s__law_one f fd) (T : Blt mg) (D__law_haul : Df K mg "_law_haul" s__law_haul ["loft", "many"] f1 fd1) : FnOk P w K mg base CX0 2 f fd ["loft", "some"] spOne := by
  have G__law_haul : FnOk P w K mg base CX0 1 f1 fd1 ["loft", "many"] spDraw := ok__law_haul D__law_haul.F T
  refine F.ok sc__law_one (fun vs H Q E h => ?_) (fun cdv A outer s H vs Q E hr h => ?_)
  · obtain ⟨p, b, l, n, xs, rfl, _⟩ := h
    rfl
  · obtain ⟨p, b, l, n, xs, rfl, O, hn, hl, nlp, h0, h1, k⟩ := h
    refine ⟨_, (pss_one (ps_ret (pe_ix ix_list (pv 1) (pe_call G__law_haul (hr.mono (by decide)) (by rfl) D__law_haul.g D__law_haul.F.kp D__law_haul.b .nil pass0 (pa_cons (pv 0) (pa_cons (pe_callB call_len_seq (by rfl) T.n_len (by decide +kernel) (pa_cons (pv 1) pa_nil)) pa_nil))) (fun _ _ => rfl)))), ?_⟩
    refine ⟨_, rfl, _, rfl, _, rfl, l, xs, rfl, .inl (SqL.of hl), p, b, n, _, rfl, O, hn, by omega, ?_, fun r H' r0 r1 O' B' => ?_⟩
    · show (xs.length : Int).natAbs < 2 ^ 9000
      rw [Int.natAbs_natCast]
      exact Nat.lt_of_le_of_lt h1 (by decide)
    · obtain ⟨j, rfl⟩ := Int.eq_ofNat_of_zero_le r0
      have hj : j < xs.length := by omega
      exact ⟨l, xs, _, xs[j], rfl, rfl, SqL.of (B' l _ hl nlp), atI_nat (List.getElem?_eq_getElem hj), k j _ H' (List.getElem?_eq_getElem hj) O' B'⟩
theorem two_i : ((2 : Int)).natAbs < 2 ^ 9000 := Nat.lt_trans (show ((2 : Int)).natAbs < 2 ^ 2 by decide) (Nat.pow_lt_pow_right (by decide) (by decide))
/-- of the first j numbers those that have a bit -/
def sel (l : List Nat) (p j : Nat) : List V := ((l.take j).filter fun x => x.testBit p).map fun (x : Nat) => V.int (x : Int)
theorem sel_next {l : List Nat} {j o : Nat} (p : Nat) (h : l[j]? = some o) : sel l p (j + 1) = if o.testBit p = true then sel l p j ++ [V.int (o : Int)] else sel l p j := by
  unfold sel
  rw [List.take_add_one, h]
  show (((l.take j ++ [o]).filter fun x => x.testBit p).map fun (x : Nat) => V.int (x : Int)) = _
  rw [List.filter_append, List.map_append]
  by_cases c : o.testBit p = true
  · rw [if_pos c]
    simp [c]
  · rw [if_neg c]
    simp [c]
theorem sel_len (l : List Nat) (p j : Nat) : (sel l p j).length ≤ l.length := by
  unfold sel
  rw [List.length_map]
  exact Nat.le_trans (List.length_filter_le _ _) (by rw [List.length_take]; omega)
theorem onesV_next (w c : Nat) : ((M23.ones w (c + 1)).map fun (n : Nat) => V.int (n : Int)) = if w.testBit c = true then ((M23.ones w c).map fun (n : Nat) => V.int (n : Int)) ++ [V.int ((c + 1 : Nat) : Int)] else (M23.ones w c).map fun (n : Nat) => V.int (n : Int) := by
  rw [M23.ones_next]
  have e := M07.one_bit w c
  by_cases h : w / 2 ^ c % 2 = 1
  · rw [if_pos h, ← e, if_pos (decide_eq_true h), List.map_append]
    rfl
  · rw [if_neg h, ← e, if_neg (by simpa using h)]
theorem sc__law_value : FnScope ["word", "size", "found", "ones", "bit", "place", "many", "number"] ["word", "size"] (defScope s__law_value) := ⟨rfl, rfl, rfl, by decide +kernel, rfl, by decide +kernel, by decide +kernel⟩
abbrev N__law_value : List Str := ["word", "size", "found", "ones", "bit", "place", "many", "number"]
theorem ok__law_value {f : Addr} {fd : FuncData} (F : Fun K "_law_value" "_law_value" s__law_value f fd) (T : Blt mg) : FnOk P w K mg base CX0 1 f fd ["word", "size"] spLValue := by
  refine F.ok sc__law_value (fun vs H Q E h => ?_) (fun cdv A outer s H vs Q E hr h => ?_)
  · obtain ⟨n, k, rfl, _⟩ := h
    rfl
  · obtain ⟨n, k, rfl, k1, k8, q⟩ := h
    refine ⟨_, (pss_cons (ps_par (i := 2) (j := 3) (by rfl) sc__law_value.nd rfl rfl (by decide) rfl rfl (pa_cons pe_int (pa_cons (pe_lc (own := [("bit", 4)]) (g := (gName 4)) rfl sc__law_value.nd (pi_range1 (by rfl) T.n_range (pa_cons (pe_op op_sub (pe_op op_oneN pe_int (pv 1)) pe_int) pa_nil)) (blkOk_by (N := N__law_value) (own := [("bit", 4)]) (sc := defScope s__law_value) (by decide +kernel)) (fun _ _ _ _ _ => (pg_name (i := 4) sc__law_value.nd rfl (Or.inl rfl))) (fun _ _ _ _ _ => (pts_one (pt_cmpR op_ne (pe_op op_and (pv 0) (pe_op op_oneN pe_int (pv 4))) pe_int (nomark _)))) (fun _ _ _ _ _ => (pe_op op_add (pv 4) pe_int))) pa_nil)) (by rfl))
  (pss_cons (ps_for PassesOwn.never rfl (pi_range1 (by rfl) T.n_range (pa_cons (pv 1) pa_nil)) (pg_name (i := 5) sc__law_value.nd rfl (Or.inr rfl)) (pss_cons (ps_set (i := 6) sc__law_value.nd rfl (Or.inl rfl) (pe_callB call_len_seq (by rfl) T.n_len (by decide +kernel) (pa_cons (pe_lc (own := [("number", 7)]) (g := (gName 7)) rfl sc__law_value.nd (pi_list (pv 3)) (blkOk_by (N := N__law_value) (own := [("number", 7)]) (sc := defScope s__law_value) (by decide +kernel)) (fun _ _ _ _ _ => (pg_name (i := 7) sc__law_value.nd rfl (Or.inl rfl))) (fun _ _ _ _ _ => (pts_one (pt_cmpR op_ne (pe_op op_and (pv 7) (pe_op op_oneN pe_int (pv 5))) pe_int (nomark _)))) (fun _ _ _ _ _ => (pv 7))) pa_nil)))
  (pss_one (ps_set (i := 2) sc__law_value.nd rfl (Or.inl rfl) (pe_op op_add (pv 2) (pe_op op_mulN (pe_op op_oneN pe_int (pv 5)) (pe_callTy call_int1 (by rfl) T.n_int (by decide +kernel) (pa_cons (pe_op op_sub (pv 6) (pe_op op_mul pe_int (pe_op op_fdivW (pv 6) pe_int))) pa_nil))))))))
  (pss_one (ps_ret (pv 2))))), ?_⟩
    have p8 : 2 ^ k ≤ 256 := Nat.le_trans (Nat.pow_le_pow_right (by decide) k8) (by decide)
    have p0 := M23.two_pos k
    have eb : ((2 ^ k : Nat) : Int) - 1 = ((2 ^ k - 1 : Nat) : Int) := by omega
    refine ⟨_, rfl, k, rfl, rfl, by omega, _, _, rfl, rfl, ?_⟩
    refine ⟨_, rfl, by omega, by omega, fun D hD => ?_⟩
    rw [eb, Int.toNat_natCast]
    have m255 : 2 ^ k - 1 ≤ 255 := by omega
    refine lc_range (n := 2 ^ k - 1) (fun i H' => Same H H' ∧ H' D = some (.lst ((M23.ones n i).map fun (x : Nat) => V.int (x : Int)))) ⟨same_new hD, upd_same⟩ ?_ ?_
    · rintro i H' hi ⟨S, hl⟩
      refine ⟨rfl, _, rfl, _, rfl, i, rfl, by rw [Int.zero_add], by omega, _, _, rfl, rfl, rfl, _, rfl, ?_⟩
      rw [and_bit]
      have nx := onesV_next n i
      refine iteB (fun c => ?_) (fun c => ?_)
      · rw [if_pos c] at nx
        refine ⟨_, rfl, _, _, rfl, rfl, _, hl, ?_, ?_, ?_⟩
        · rw [List.length_map]
          exact small1000 (Nat.le_trans (M23.ones_len n i) (by omega))
        · intro q o e
          rw [upd_ne (ne_of_none e hD)]
          exact S q o e
        · rw [upd_same, nx]
          show some (HO.lst (_ ++ [V.int (0 + (i : Int) + 1)])) = _
          rw [Int.zero_add]
          rfl
      · rw [if_neg (by rw [c]; decide)] at nx
        exact ⟨S, by rw [nx]; exact hl⟩
    · rintro H1 ⟨S1, hl1⟩
      refine ⟨_, _, rfl, ?_⟩
      refine ⟨_, rfl, _, rfl, by omega, by omega, ?_⟩
      rw [Int.toNat_natCast]
      refine for_range (n := k) (fun i σ H' => Same H H' ∧ H' D = some (.lst ((M23.ones n (2 ^ k - 1)).map fun (x : Nat) => V.int (x : Int))) ∧ ∃ u v x y : Option V, σ = [some (.int (n : Int)), some (.int (k : Int)), some (.int ((M23.V n (2 ^ k - 1) % 2 ^ i : Nat) : Int)), some (.ref D), x, u, v, y]) ⟨S1, hl1, none, none, none, none, by rw [Nat.pow_zero, Nat.mod_one]; rfl⟩ ?_ ?_
      · rintro i σ H2 hi ⟨S2, hl2, u, v, x, y, rfl⟩
        refine ⟨_, rfl, D, rfl, ⟨_, SqL.of hl2⟩, fun D2 hD2 => ?_⟩
        have hone : ∀ (j : Nat) (z : V), ((M23.ones n (2 ^ k - 1)).map fun (x : Nat) => V.int (x : Int))[j]? = some z → ∃ o : Nat, (M23.ones n (2 ^ k - 1))[j]? = some o ∧ z = V.int (o : Int) := fun j z hz => by
          rw [List.getElem?_map] at hz
          cases e : (M23.ones n (2 ^ k - 1))[j]? with
          | none => rw [e] at hz; cases hz
          | some o => rw [e] at hz; exact ⟨o, rfl, (Option.some.inj hz).symm⟩
        refine lc_list (K := K) (a := D) (xs := (M23.ones n (2 ^ k - 1)).map fun (x : Nat) => V.int (x : Int)) (fun j H' => Same H H' ∧ H' D = some (.lst ((M23.ones n (2 ^ k - 1)).map fun (x : Nat) => V.int (x : Int))) ∧ H' D2 = some (.lst (sel (M23.ones n (2 ^ k - 1)) i j)))
          ⟨S2.trans (same_new hD2), by rw [upd_ne (ne_of_none hl2 hD2)]; exact hl2, upd_same⟩ (fun j H' _ h => SqL.of h.2.1) ?_ ?_
        · rintro j z H3 hz ⟨S3, hl3, hs3⟩
          obtain ⟨o, ho, rfl⟩ := hone j z hz
          refine ⟨rfl, _, rfl, _, rfl, i, rfl, by rw [Int.zero_add], by omega, _, _, rfl, rfl, rfl, _, rfl, ?_⟩
          rw [and_bit]
          have nx := sel_next i ho
          refine iteB (fun c => ?_) (fun c => ?_)
          · rw [if_pos c] at nx
            refine ⟨_, rfl, _, hs3, small1000 (Nat.le_trans (sel_len _ i j) (Nat.le_trans (M23.ones_len n _) (by omega))), ?_, ?_, ?_⟩
            · intro q o e
              rw [upd_ne (fun z => ne_of_none (S2 _ _ e) hD2 z)]
              exact S3 q o e
            · rw [upd_ne (ne_of_none hl2 hD2)]
              exact hl3
            · rw [upd_same, nx]
          · rw [if_neg (by rw [c]; decide)] at nx
            exact ⟨S3, hl3, by rw [nx]; exact hs3⟩
        · rintro H3 ⟨S3, hl3, hs3⟩
          have ecnt : (sel (M23.ones n (2 ^ k - 1)) i ((M23.ones n (2 ^ k - 1)).map fun (x : Nat) => V.int (x : Int)).length).length = M23.cp n i (2 ^ k - 1) := by
            unfold sel
            rw [List.length_map, List.length_map, List.take_length, ← M23.ones_cp, List.countP_eq_length_filter]
          refine ⟨D2, _, rfl, .inl (SqL.of hs3), ?_⟩
          rw [ecnt]
          generalize ec : M23.cp n i (2 ^ k - 1) = c
          refine ⟨_, rfl, _, rfl, i, rfl, by rw [Int.zero_add], by omega, _, rfl, _, rfl, _, _, rfl, rfl, wide_div (by show (0 : Int) < 2; decide) two_i (by decide) (by decide), _, _, rfl, rfl, .inl ⟨by decide, by decide⟩, _, _, rfl, rfl, .inl ⟨_, rfl, 2 ^ i, c % 2, rfl, ?_, ?_, _, _, rfl, rfl, ?_⟩⟩
          · show V.int ((c : Int) - 2 * ((c : Int) / 2)) = V.int ((c % 2 : Nat) : Int)
            congr 1
            omega
          · exact Nat.le_trans (Nat.pow_le_pow_right (by decide) (show i ≤ 8 by omega)) (by decide)
          · refine ⟨S3, hl3, some (.int (0 + (i : Int))), some (.int (c : Int)), x, y, ?_⟩
            show [some (V.int (n : Int)), some (V.int (k : Int)), some (V.int (((M23.V n (2 ^ k - 1) % 2 ^ i : Nat) : Int) + ((2 ^ i * (c % 2) : Nat) : Int))), some (V.ref D), _, _, _, _] = _
            have e : M23.V n (2 ^ k - 1) % 2 ^ i + 2 ^ i * (c % 2) = M23.V n (2 ^ k - 1) % 2 ^ (i + 1) := by
              rw [M07.next_mod, M23.V_bit, ec]
              by_cases z : c % 2 = 1
              · rw [if_pos (decide_eq_true z), z, Nat.mul_one]
              · rw [if_neg (by simpa using z), show c % 2 = 0 by omega, Nat.mul_zero]
            rw [← Int.natCast_add, e]
      · rintro σ H2 ⟨S2, hl2, u, v, x, y, rfl⟩
        refine ⟨_, rfl, ?_⟩
        rw [Nat.mod_eq_of_lt (M23.V_lt n (show 2 ^ k - 1 < 2 ^ k by omega))]
        exact q H2 S2
end
end K23
namespace K23
open PySem PySem.Spec PyProof.Rows L2 OB SkE
section
variable {P : Program} {w : World} {K : PySem.W.Frag} {mg : Str → Option Value} {base : Heap}
theorem sc__law_word : FnScope ["loft", "size", "bits", "way", "found", "turn"] ["loft", "size"] (defScope s__law_word) := ⟨rfl, rfl, rfl, by decide +kernel, rfl, by decide +kernel, by decide +kernel⟩
theorem ok__law_word {f f1 f2 : Addr} {fd fd1 fd2 : FuncData} (F : Fun K "_law_word" "_law_word" s__law_word f fd) (T : Blt mg) (D__law_haul : Df K mg "_law_haul" s__law_haul ["loft", "many"] f1 fd1) (D__law_one : Df K mg "_law_one" s__law_one ["loft", "some"] f2 fd2) :
    FnOk P w K mg base CX0 3 f fd ["loft", "size"] spWord := by
  have G__law_haul : FnOk P w K mg base CX0 1 f1 fd1 ["loft", "many"] spDraw := ok__law_haul D__law_haul.F T
  have G__law_one : FnOk P w K mg base CX0 2 f2 fd2 ["loft", "some"] spOne := ok__law_one D__law_one.F T D__law_haul
  refine F.ok sc__law_word (fun vs H Q E h => ?_) (fun cdv A outer s H vs Q E hr h => ?_)
  · obtain ⟨p, b, n, k, rfl, _⟩ := h
    rfl
  · obtain ⟨p, b, n, k, rfl, O, hn, k1, k8, q⟩ := h
    refine ⟨_, (pss_cons (ps_par (i := 2) (j := 3) (by rfl) sc__law_word.nd rfl rfl (by decide) rfl rfl (pa_cons (pe_op op_sub (pe_op op_oneN pe_int (pv 1)) pe_int) (pa_cons (pe_call G__law_haul (hr.mono (by decide)) (by rfl) D__law_haul.g D__law_haul.F.kp D__law_haul.b .nil pass0 (pa_cons (pv 0) (pa_cons pe_int pa_nil))) pa_nil)) (by rfl))
  (pss_cons (ps_if (pt_cmpR op_eq (pv 3) pe_int (nomark _)) (pss_one (ps_ret (pe_call G__law_one (hr.mono (by decide)) (by rfl) D__law_one.g D__law_one.F.kp D__law_one.b .nil pass0 (pa_cons (pv 0) (pa_cons (pe_lst (pa_cons pe_int (pa_cons (pe_op op_sub (pe_op op_oneN pe_int (pv 2)) pe_int) (pa_cons pe_int (pa_cons (pe_op op_oneN pe_int (pe_op op_sub (pv 2) pe_int)) pa_nil))))) pa_nil))))) pss_nil)
  (C8.pss_cut (ps_set (i := 4) sc__law_word.nd rfl (Or.inl rfl) (pe_ifExp (pt_cmpR op_lt (pv 3) pe_int (nomark _)) pe_int (pe_op op_sub (pe_op op_oneN pe_int (pv 2)) pe_int)))
  (pss_cons (ps_for PassesOwn.never rfl (pi_range1 (by rfl) T.n_range (pa_cons (pe_op op_add pe_int (pe_call G__law_haul (hr.mono (by decide)) (by rfl) D__law_haul.g D__law_haul.F.kp D__law_haul.b .nil pass0 (pa_cons (pv 0) (pa_cons (pe_ix ix_list (pe_lst (pa_cons pe_int (pa_cons pe_int (pa_cons pe_int (pa_cons pe_int (pa_cons pe_int (pa_cons pe_int pa_nil))))))) (pv 3) (fun _ _ => rfl)) pa_nil)))) pa_nil)) (pg_name (i := 5) sc__law_word.nd rfl (Or.inl rfl)) (pss_one (ps_set (i := 4) sc__law_word.nd rfl (Or.inl rfl) (pe_op op_xor (pv 4) (pe_op op_oneN pe_int (pe_call G__law_haul (hr.mono (by decide)) (by rfl) D__law_haul.g D__law_haul.F.kp D__law_haul.b .nil pass0 (pa_cons (pv 0) (pa_cons (pv 2) pa_nil))))))))
  (pss_one (ps_ret (pv 4))))))), ?_⟩
    have p8 : 2 ^ k ≤ 256 := Nat.le_trans (Nat.pow_le_pow_right (by decide) k8) (by decide)
    have p2 : 2 ≤ 2 ^ k := Nat.pow_le_pow_right (n := 2) (by decide) k1
    have eb : ((2 ^ k : Nat) : Int) - 1 = ((2 ^ k - 1 : Nat) : Int) := by omega
    refine ⟨_, rfl, k, rfl, rfl, by omega, _, _, rfl, rfl, _, rfl, p, b, n, 6, rfl, O, by omega, by decide, by decide, fun r1 H1 r10 r11 O1 B1 => ⟨_, _, rfl, ?_⟩⟩
    obtain ⟨w1, rfl⟩ := Int.eq_ofNat_of_zero_le r10
    obtain ⟨B, hB⟩ : ∃ B, B = 2 ^ k - 1 := ⟨_, rfl⟩
    rw [← hB] at q
    have hB0 : 1 ≤ B := by omega
    have hB1 : B ≤ 255 := by omega
    have pB := M23.two_pos B
    have pB2 := M23.two_pos (B - 1)
    have pB1 : 2 ^ (B - 1) < 2 ^ B := Nat.pow_lt_pow_right (by decide) (by omega)
    refine ⟨_, rfl, rfl, _, rfl, ?_⟩
    refine iteB (fun c => ?_) (fun c => ?_)
    · have ebits : (fun i j => V.int (i - j)) ((2 ^ k : Nat) : Int) 1 = V.int (B : Int) := by
        show V.int (((2 ^ k : Nat) : Int) - 1) = _
        rw [eb, hB]
      refine ⟨_, rfl, _, rfl, B, rfl, ebits, by omega, _, _, rfl, rfl, _, rfl, _, _, rfl, rfl, B - 1, rfl, ?_, by omega, (by show 4 ≤ sizeLine; decide), fun l hl => ?_⟩
      · show V.int (((2 ^ k : Nat) : Int) - 1 - 1) = _
        rw [eb, ← hB]
        congr 1
        omega
      have nlp : l ≠ p := by
        obtain ⟨u, hu⟩ := O1.pn
        exact (ne_of_none hu hl).symm
      refine ⟨p, b, l, n + 1, _, rfl, O1.same (same_new hl), by omega, upd_same, nlp, by show 0 < 4; decide, by show 4 ≤ 1000; decide, fun j x H' hj O6 B6 => ?_⟩
      have fin : ∀ z : Int, 0 ≤ z → z < ((2 ^ B : Nat) : Int) → Q (.int z) H' := fun z h1 h2 => by
        obtain ⟨m, rfl⟩ := Int.eq_ofNat_of_zero_le h1
        exact q m H' (Int.ofNat_lt.mp h2) (O6.mono (by omega)) (B1.trans ((But.of (same_new hl)).trans B6))
      have one : 1 < 2 ^ B := Nat.lt_of_lt_of_le (show 1 < 2 ^ 1 by decide) (Nat.pow_le_pow_right (by decide) hB0)
      match j, hj with
      | 0, e => cases e; exact fin _ (by omega) (by omega)
      | 1, e => cases e; exact fin _ (by omega) (by omega)
      | 2, e => cases e; exact fin _ (by omega) (by omega)
      | 3, e => cases e; exact fin _ (by omega) (by omega)
      | j + 4, e => cases e
    · refine ⟨fun σ' H' => ∃ f : Nat, f < 2 ^ B ∧ H' = H1 ∧ σ' = [some (.ref p), some (.int (k : Int)), some (.int (B : Int)), some (.int (w1 : Int)), some (.int (f : Int)), none], ?_, ?_⟩
      · have eσ : ∀ z : V, [some (V.ref p), some (V.int (k : Int)), some (V.int (((2 ^ k : Nat) : Int) - 1)), some (V.int (w1 : Int)), some z, none] = [some (V.ref p), some (V.int (k : Int)), some (V.int (B : Int)), some (V.int (w1 : Int)), some z, none] := fun z => by
          rw [eb, hB]
        refine ⟨_, rfl, _, _, rfl, rfl, _, rfl, ?_⟩
        refine iteB (fun c2 => ?_) (fun c2 => ?_)
        · exact ⟨0, pB, rfl, eσ (.int 0)⟩
        · have ebits : (fun i j => V.int (i - j)) ((2 ^ k : Nat) : Int) 1 = V.int (B : Int) := by
            show V.int (((2 ^ k : Nat) : Int) - 1) = _
            rw [eb, hB]
          refine ⟨_, rfl, B, rfl, ebits, by omega, _, _, rfl, rfl, 2 ^ B - 1, by omega, rfl, ?_⟩
          have e2 : ((2 ^ B : Nat) : Int) - 1 = ((2 ^ B - 1 : Nat) : Int) := by omega
          rw [← e2]
          exact eσ _
      · rintro σ' H' ⟨f0, hf0, rfl, rfl⟩
        have item : ∃ t : Int, atI [V.int 1, V.int 3, V.int 9, V.int 30, V.int 4, V.int 12] (w1 : Int) = some (V.int t) ∧ 0 < t ∧ t ≤ 30 := by
          have hw : w1 < 6 := by omega
          match w1, hw with
          | 0, _ => exact ⟨1, rfl, by decide, by decide⟩
          | 1, _ => exact ⟨3, rfl, by decide, by decide⟩
          | 2, _ => exact ⟨9, rfl, by decide, by decide⟩
          | 3, _ => exact ⟨30, rfl, by decide, by decide⟩
          | 4, _ => exact ⟨4, rfl, by decide, by decide⟩
          | 5, _ => exact ⟨12, rfl, by decide, by decide⟩
        obtain ⟨t, ht, t0, t30⟩ := item
        have t9 : t.natAbs < 2 ^ 9000 := Nat.lt_of_lt_of_le (show t.natAbs < 2 ^ 5 by omega) (Nat.pow_le_pow_right (by decide) (by decide))
        refine ⟨_, rfl, (by show 6 ≤ sizeLine; decide), fun l hl => ⟨_, rfl, l, _, _, _, rfl, rfl, SqL.of upd_same, ht, p, b, n + 1, t, rfl, O1.same (same_new hl), by omega, t0, t9, fun r H2 r0 rt O2 B2 => ?_⟩⟩
        obtain ⟨c, rfl⟩ := Int.eq_ofNat_of_zero_le r0
        refine ⟨_, _, rfl, rfl, _, rfl, by omega, by omega, ?_⟩
        have en : (1 + (c : Int)).toNat = 1 + c := by omega
        rw [en]
        have B12 : But p H H2 := B1.trans ((But.of (same_new hl)).trans B2)
        refine for_range (n := 1 + c) (fun i σ H' => Orch H' p b (n + 1 + 1 + i) ∧ But p H H' ∧ ∃ (f : Nat) (v : Option V), f < 2 ^ B ∧ σ = [some (.ref p), some (.int (k : Int)), some (.int (B : Int)), some (.int (w1 : Int)), some (.int (f : Int)), v]) ⟨O2, B12, f0, none, hf0, rfl⟩ ?_ ?_
        · rintro i σ H3 hi ⟨O3, B3, f, v, hf, rfl⟩
          have b9 : ((B : Int)).natAbs < 2 ^ 9000 := Nat.lt_of_lt_of_le (show ((B : Int)).natAbs < 2 ^ 8 by omega) (Nat.pow_le_pow_right (by decide) (by decide))
          refine ⟨_, rfl, _, rfl, _, rfl, p, b, _, B, rfl, O3, by omega, by omega, b9, fun j H4 j0 j1 O4 B4 => ?_⟩
          obtain ⟨j, rfl⟩ := Int.eq_ofNat_of_zero_le j0
          refine ⟨j, rfl, rfl, by omega, _, _, rfl, rfl, ?_⟩
          have hj : j < B := by omega
          refine ⟨O4, B3.trans B4, f ^^^ 2 ^ j, some (.int (0 + (i : Int))), Nat.xor_lt_two_pow hf (Nat.pow_lt_pow_right (by decide) hj), ?_⟩
          show [some (V.ref p), some (V.int (k : Int)), some (V.int (B : Int)), some (V.int (w1 : Int)), some (V.int (Builtin.bitXor (f : Int) ((2 ^ j : Nat) : Int))), _] = _
          rw [xor_nat]
        · rintro σ H3 ⟨O3, B3, f, v, hf, rfl⟩
          exact ⟨_, rfl, q f H3 hf (O3.mono (by omega)) B3⟩
end
end K23
namespace K23
open PySem PySem.Spec PyProof.Rows L2 OB SkE
def rv {α : Type} : List α → List α
  | [a, b] => [b, a]
  | [a, b, c] => [c, b, a]
  | l => l
theorem rv_len {α : Type} : ∀ l : List α, (rv l).length = l.length
  | [] => rfl
  | [_] => rfl
  | [_, _] => rfl
  | [_, _, _] => rfl
  | _ :: _ :: _ :: _ :: _ => rfl
theorem rv_vals : ∀ {zs : List V} {ws : List Value}, Vals zs ws → Vals (rv zs) (rv ws)
  | _, _, .nil => .nil
  | _, _, .cons a .nil => .cons a .nil
  | _, _, .cons a (.cons b .nil) => .cons b (.cons a .nil)
  | _, _, .cons a (.cons b (.cons c .nil)) => .cons c (.cons b (.cons a .nil))
  | _, _, .cons a (.cons b (.cons c (.cons d r))) => .cons a (.cons b (.cons c (.cons d r)))
def spFlipsRight : Sp := fun vs H Q _ => ∃ (p b : Addr) (n m k : Nat), vs = [.ref p, .int (m : Int), .int (k : Int)] ∧ Orch H p b n ∧ n + 8 < 1000000 ∧ 1 ≤ k ∧ k ≤ 8 ∧ m < 2 ^ (2 ^ k - 1) ∧
  ∀ H' : Hp, Orch H' p b (n + 8) → But p H H' → Q (.bl true) H'
theorem same_yes {x : V} : decide (x = x) = true := by simp
theorem same_text {x : V} : (!decide (x = x)) = false := by simp
section
variable {P : Program} {w : World} {K : PySem.W.Frag} {mg : Str → Option Value} {base : Heap}
theorem sc__law_flips_right : FnScope ["loft", "word", "size", "mine", "turn", "value", "bit", "later"] ["loft", "word", "size"] (defScope s__law_flips_right) := ⟨rfl, rfl, rfl, by decide +kernel, rfl, by decide +kernel, by decide +kernel⟩
theorem ok__law_flips_right {f f1 f2 f3 f4 f5 CW CN CM : Addr} {fd fd1 fd2 fd3 fd4 fd5 : FuncData} (F : Fun K "_law_flips_right" "_law_flips_right" s__law_flips_right f fd) (T : Blt mg)
    (D__law_haul : Df K mg "_law_haul" s__law_haul ["loft", "many"] f1 fd1) (D__law_one : Df K mg "_law_one" s__law_one ["loft", "some"] f2 fd2) (D__law_value : Df K mg "_law_value" s__law_value ["word", "size"] f3 fd3)
    (D_value_by_flips : Df K mg "value_by_flips" s_value_by_flips ["word", "size"] f4 fd4) (GX_value_by_flips : FnOk P w K mg base (L2.CX P w) 7 f4 fd4 ["word", "size"] (spVal K CW CN CM))
    (D_flip_to : Df K mg "flip_to" s_flip_to ["word", "size", "value"] f5 fd5) (GX_flip_to : FnOk P w K mg base (L2.CX P w) 7 f5 fd5 ["word", "size", "value"] (spFlip K CW CN CM)) :
    FnOk P w K mg base CX0 8 f fd ["loft", "word", "size"] spFlipsRight := by
  have G__law_haul : FnOk P w K mg base CX0 1 f1 fd1 ["loft", "many"] spDraw := ok__law_haul D__law_haul.F T
  have G__law_one : FnOk P w K mg base CX0 2 f2 fd2 ["loft", "some"] spOne := ok__law_one D__law_one.F T D__law_haul
  have G__law_value : FnOk P w K mg base CX0 1 f3 fd3 ["word", "size"] spLValue := ok__law_value D__law_value.F T
  have G_value_by_flips := calm_of GX_value_by_flips
  have G_flip_to := calm_of GX_flip_to
  have kb_value_by_flips : KBinds K fd4 ["word", "size"] ["size", "word"] (fun us ws => us ++ rv ws) (fun us ws => us ++ rv ws) :=
    kbinds D_value_by_flips.F (fun _ _ _ _ _ _ us ws hl => by
      have hl2 : us.length + ws.length = 2 := by
        rw [← rv_len ws, ← List.length_append]
        exact hl
      rcases us with _ | ⟨a, _ | ⟨b, _ | ⟨c, _ | ⟨d, us⟩⟩⟩⟩ <;> rcases ws with _ | ⟨x, _ | ⟨y, _ | ⟨z, _ | ⟨t, ws⟩⟩⟩⟩ <;> first | rfl | (simp at hl2; done) | (simp at hl2; omega)) fun a b => a.append (rv_vals b)
  have kb_flip_to : KBinds K fd5 ["word", "size", "value"] ["value", "size", "word"] (fun us ws => us ++ rv ws) (fun us ws => us ++ rv ws) :=
    kbinds D_flip_to.F (fun _ _ _ _ _ _ us ws hl => by
      have hl2 : us.length + ws.length = 3 := by
        rw [← rv_len ws, ← List.length_append]
        exact hl
      rcases us with _ | ⟨a, _ | ⟨b, _ | ⟨c, _ | ⟨d, us⟩⟩⟩⟩ <;> rcases ws with _ | ⟨x, _ | ⟨y, _ | ⟨z, _ | ⟨t, ws⟩⟩⟩⟩ <;> first | rfl | (simp at hl2; done) | (simp at hl2; omega)) fun a b => a.append (rv_vals b)
  refine F.ok sc__law_flips_right (fun vs H Q E h => ?_) (fun cdv A outer s H vs Q E hr h => ?_)
  · obtain ⟨p, b, n, m, k, rfl, _⟩ := h
    rfl
  · obtain ⟨p, b, n, m, k, rfl, O, hn, k1, k8, hm, q⟩ := h
    refine ⟨_, (pss_cons (ps_set (i := 3) sc__law_flips_right.nd rfl (Or.inl rfl) (pe_call G__law_value (hr.mono (by decide)) (by rfl) D__law_value.g D__law_value.F.kp D__law_value.b .nil pass0 (pa_cons (pv 1) (pa_cons (pv 2) pa_nil))))
  (pss_cons (ps_for PassesOwn.never rfl (pi_range1 (by rfl) T.n_range (pa_cons pe_int pa_nil)) (pg_name (i := 4) sc__law_flips_right.nd rfl (Or.inl rfl)) (pss_cons (ps_set (i := 5) sc__law_flips_right.nd rfl (Or.inl rfl) (pe_call G__law_one (hr.mono (by decide)) (by rfl) D__law_one.g D__law_one.F.kp D__law_one.b .nil pass0 (pa_cons (pv 0) (pa_cons (pe_lst (pa_cons (pe_call G__law_haul (hr.mono (by decide)) (by rfl) D__law_haul.g D__law_haul.F.kp D__law_haul.b .nil pass0 (pa_cons (pv 0) (pa_cons (pe_op op_oneN pe_int (pv 2)) pa_nil))) (pa_cons (pv 3) (pa_cons pe_int (pa_cons (pe_op op_sub (pe_op op_oneN pe_int (pv 2)) pe_int) pa_nil))))) pa_nil))))
  (pss_cons (ps_set (i := 6) sc__law_flips_right.nd rfl (Or.inl rfl) (pe_call G_flip_to (hr.mono (by decide)) (by rfl) D_flip_to.g D_flip_to.F.kp D_flip_to.b .nil pass0 (pa_cons (pv 1) (pa_cons (pv 2) (pa_cons (pv 5) pa_nil)))))
  (pss_cons (ps_if (pt_cmpR op_eq (pv 5) (pv 3) (nomark _)) (pss_cons (ps_if (pt_cmpR op_notN (pv 6) pe_non (nomark _)) (pss_one (ps_ret pe_bl)) pss_nil)
  (pss_one ps_continue)) pss_nil)
  (pss_cons (ps_if (PW.pt (pw_or (pt_val (pe_callB call_isi (by rfl) T.n_isinstance (by decide +kernel) (pa_cons (pv 6) (pa_cons (pe_bltn (v := .ty "bool") (by rfl) T.n_bool (by decide +kernel) rfl) pa_nil)))) (pw_or (pt_not (pt_val (pe_callB call_isi (by rfl) T.n_isinstance (by decide +kernel) (pa_cons (pv 6) (pa_cons (pe_bltn (v := .ty "int") (by rfl) T.n_int (by decide +kernel) rfl) pa_nil))))) (pw_or1 (pt_not (pt_chain op_le op_lt pe_int (pv 6) (pe_op op_sub (pe_op op_oneN pe_int (pv 2)) pe_int))))))) (pss_one (ps_ret pe_bl)) pss_nil)
  (pss_cons (ps_set (i := 7) sc__law_flips_right.nd rfl (Or.inl rfl) (pe_op op_xor (pv 1) (pe_op op_oneN pe_int (pv 6))))
  (pss_one (ps_if (PW.pt (pw_or (pt_cmpR op_ne (pe_call G__law_value (hr.mono (by decide)) (by rfl) D__law_value.g D__law_value.F.kp D__law_value.b .nil pass0 (pa_cons (pv 7) (pa_cons (pv 2) pa_nil))) (pv 5) (nomark _)) (pw_or (pt_cmpR op_ne (pe_callKo G_value_by_flips (hr.mono (by decide)) (by rfl) D_value_by_flips.g D_value_by_flips.F.kp kb_value_by_flips pass0 (pk_cons (pv 2) (pk_cons (pv 7) pk_nil))) (pv 5) (nomark _)) (pw_or1 (pt_cmpR op_ne (pe_callKo G_flip_to (hr.mono (by decide)) (by rfl) D_flip_to.g D_flip_to.F.kp kb_flip_to pass0 (pk_cons (pv 3) (pk_cons (pv 2) (pk_cons (pv 7) pk_nil)))) (pv 6) (nomark _)))))) (pss_one (ps_ret pe_bl)) pss_nil))))))))
  (pss_one (ps_ret pe_bl)))), ?_⟩
    have p8 : 2 ^ k ≤ 256 := Nat.le_trans (Nat.pow_le_pow_right (by decide) k8) (by decide)
    have p2 : 2 ≤ 2 ^ k := Nat.pow_le_pow_right (n := 2) (by decide) k1
    have eb : ((2 ^ k : Nat) : Int) - 1 = ((2 ^ k - 1 : Nat) : Int) := by omega
    refine ⟨_, rfl, _, rfl, m, k, rfl, k1, k8, fun H1 S1 => ?_⟩
    obtain ⟨a, ha⟩ : ∃ a, a = M23.V m (2 ^ k - 1) := ⟨_, rfl⟩
    have a2 : a < 2 ^ k := by rw [ha]; exact M23.V_lt m (by omega)
    rw [← ha]
    refine ⟨4, rfl, by decide, by decide, ?_⟩
    refine for_range (n := 4) (fun i σ H' => Orch H' p b (n + 2 * i) ∧ But p H H' ∧ ∃ u v x y : Option V, σ = [some (.ref p), some (.int (m : Int)), some (.int (k : Int)), some (.int (a : Int)), u, v, x, y]) ⟨O.same S1, But.of S1, none, none, none, none, rfl⟩ ?_ ?_
    · rintro i σ H2 hi ⟨O2, B2, u, v, x, y, rfl⟩
      refine ⟨_, rfl, _, rfl, _, rfl, k, rfl, rfl, by omega, p, b, _, _, rfl, O2, by omega, ?_, pow_lt9 (by omega), fun r H3 r0 r1 O3 B3 => ?_⟩
      · have := M23.two_pos k
        omega
      obtain ⟨c, rfl⟩ := Int.eq_ofNat_of_zero_le r0
      have hc : c < 2 ^ k := Int.ofNat_lt.mp r1
      refine ⟨_, rfl, _, rfl, k, rfl, rfl, by omega, _, _, rfl, rfl, (by show 4 ≤ sizeLine; decide), fun l hl => ?_⟩
      have nlp : l ≠ p := by
        obtain ⟨u, hu⟩ := O3.pn
        exact (ne_of_none hu hl).symm
      refine ⟨p, b, l, _, _, rfl, O3.same (same_new hl), by omega, upd_same, nlp, by show 0 < 4; decide, by show 4 ≤ 1000; decide, fun j z H4 hj O4 B4 => ?_⟩
      have hz : ∃ d : Nat, z = V.int (d : Int) ∧ d < 2 ^ k := by
        match j, hj with
        | 0, e => cases e; exact ⟨c, rfl, hc⟩
        | 1, e => cases e; exact ⟨a, rfl, a2⟩
        | 2, e => cases e; exact ⟨0, rfl, by omega⟩
        | 3, e => cases e; exact ⟨2 ^ k - 1, by rw [← eb], by omega⟩
        | j + 4, e => cases e
      obtain ⟨d, rfl, hd⟩ := hz
      have B24 : But p H H4 := B2.trans (B3.trans ((But.of (same_new hl)).trans B4))
      refine ⟨_, rfl, _, rfl, _, rfl, _, _, _, rfl, .inr ⟨m, rfl, .inr ⟨k, rfl, k1, k8, .inr ⟨d, rfl, by omega, .inr ⟨hm, .inr ⟨hd, fun H5 S5 => ?_⟩⟩⟩⟩⟩⟩
      rw [← ha]
      have B25 := B24.trans (But.of S5)
      have O5 := O4.same S5
      unfold Res
      by_cases e : a = d
      · rw [if_pos e]
        subst e
        refine ⟨_, rfl, _, rfl, rfl, _, rfl, ?_⟩
        rw [same_yes]
        refine ⟨_, rfl, rfl, _, rfl, ?_⟩
        rw [same_text]
        exact ⟨O5.mono (by omega), B25, some (.int (0 + (i : Int))), some (.int (a : Int)), some .non, y, rfl⟩
      · rw [if_neg e]
        obtain ⟨e1, he1⟩ : ∃ e1 : Nat, a ^^^ d = e1 + 1 := by
          have hne : a ^^^ d ≠ 0 := fun z => e (M07.xor_zero_eq z)
          exact ⟨(a ^^^ d) - 1, by omega⟩
        have hlt : e1 + 1 < 2 ^ k := by
          rw [← he1]
          exact Nat.xor_lt_two_pow a2 hd
        have ebit : (a ^^^ d) - 1 = e1 := by omega
        rw [ebit]
        refine ⟨_, rfl, _, rfl, rfl, _, rfl, ?_⟩
        rw [show decide (V.int (d : Int) = V.int (a : Int)) = false from decide_eq_false fun z => e (by have z := V.int.inj z; omega)]
        refine ⟨_, rfl, _, .ty "bool", .type "int", .type "bool", false, rfl, .ty _, .base (.int _), kit_ty (by decide +kernel), false, rfl, ?_⟩
        refine ⟨_, rfl, _, .ty "int", .type "int", .type "int", true, rfl, .ty _, .base (.int _), kit_ty (by decide +kernel), true, rfl, ?_⟩
        refine ⟨_, rfl, _, _, rfl, rfl, _, rfl, ?_⟩
        rw [decide_eq_true (show (0 : Int) ≤ (e1 : Int) by omega)]
        refine ⟨_, rfl, k, rfl, rfl, by omega, _, _, rfl, rfl, _, _, rfl, rfl, _, rfl, ?_⟩
        rw [decide_eq_true (show (e1 : Int) < ((2 ^ k : Nat) : Int) - 1 by omega)]
        have hV : M23.V (m ^^^ 2 ^ e1) (2 ^ k - 1) = d := by
          rw [M23.V_flip m e1 _ (by omega), ← ha, ← he1, ← Nat.xor_assoc, Nat.xor_self, Nat.zero_xor]
        have hl2 : m ^^^ 2 ^ e1 < 2 ^ (2 ^ k - 1) := Nat.xor_lt_two_pow hm (Nat.pow_lt_pow_right (by decide) (by omega))
        have hRes : Res d a = V.int (e1 : Int) := by
          unfold Res
          rw [if_neg (fun z => e z.symm), Nat.xor_comm, ebit]
        have ex := xor_nat m (2 ^ e1)
        refine ⟨_, rfl, _, rfl, e1, rfl, rfl, by omega, _, _, rfl, rfl, ?_⟩
        refine ⟨_, rfl, _, rfl, m ^^^ 2 ^ e1, k, by rw [← ex]; rfl, k1, k8, fun H6 S6 => ?_⟩
        rw [hV]
        refine ⟨_, rfl, rfl, _, rfl, ?_⟩
        rw [same_text]
        refine ⟨_, rfl, _, rfl, _, _, rfl, .inr ⟨m ^^^ 2 ^ e1, by rw [← ex], .inr ⟨k, rfl, k1, k8, .inr ⟨hl2, fun H7 S7 => ?_⟩⟩⟩⟩
        rw [hV]
        refine ⟨_, rfl, rfl, _, rfl, ?_⟩
        rw [same_text]
        refine ⟨_, rfl, _, rfl, _, rfl, _, _, _, rfl, .inr ⟨m ^^^ 2 ^ e1, by rw [← ex], .inr ⟨k, rfl, k1, k8, .inr ⟨a, rfl, by omega, .inr ⟨hl2, .inr ⟨a2, fun H8 S8 => ?_⟩⟩⟩⟩⟩⟩
        rw [hV, hRes]
        refine ⟨_, rfl, rfl, _, rfl, ?_⟩
        rw [same_text]
        exact ⟨((O5.same S6).same (S7.trans S8)).mono (by omega), B25.trans (But.of (S6.trans (S7.trans S8))), some (.int (0 + (i : Int))), some (.int (d : Int)), some (.int (e1 : Int)), some (.int (Builtin.bitXor (m : Int) ((2 ^ e1 : Nat) : Int))), rfl⟩
    · rintro σ H2 ⟨O2, B2, u, v, x, y, rfl⟩
      exact q H2 O2 B2
end
end K23
namespace K23
open PySem PySem.Spec PyProof.Rows L2 OB SkE LamX
/-- what the law's reader of errors asks of an error's class -/
structure ErrR (K : PySem.W.Frag) (CF C : Addr) : Prop where
  xf : XfC K C
  ec : ExcC K C
  ex : PySem.W.exmOne K (.ref C) (.ref CF) = some true
  no : PySem.W.findIn K (.ref C) "part" = some none
structure Kinds (K : PySem.W.Frag) (mg : Str → Option Value) (CF CW CN CM : Addr) : Prop where
  gF : mg "FlipError" = some (.ref CF)
  gW : mg "BadWord" = some (.ref CW)
  gN : mg "BadNumber" = some (.ref CN)
  gM : mg "Misfit" = some (.ref CM)
  rW : ErrR K CF CW
  rN : ErrR K CF CN
  rM : ErrR K CF CM
  kWW : PySem.W.kitOne K (.ref CW) (.ref CW) = some true
  kWN : PySem.W.kitOne K (.ref CW) (.ref CN) = some false
  kWM : PySem.W.kitOne K (.ref CW) (.ref CM) = some false
  kNW : PySem.W.kitOne K (.ref CN) (.ref CW) = some false
  kNN : PySem.W.kitOne K (.ref CN) (.ref CN) = some true
  kNM : PySem.W.kitOne K (.ref CN) (.ref CM) = some false
  kMW : PySem.W.kitOne K (.ref CM) (.ref CW) = some false
  kMN : PySem.W.kitOne K (.ref CM) (.ref CN) = some false
  kMM : PySem.W.kitOne K (.ref CM) (.ref CM) = some true
/-- a kind of error and its part, as the law tells them -/
def told (kind part : Str) : Str := kind ++ " " ++ part
def TTheard (CW CN CM : Addr) : List V → (XK → Hp → VK → Prop) → Hp → VK → Prop := fun vs tl H Q => vs = [] ∧
  tl (fun cls d H' => ∃ (dd : Addr) (part : Str), d = some dd ∧ H' dd = some (.xd [(("part" : Str), .str part)]) ∧ part.length ≤ 100 ∧
    ((cls = .ref CW ∧ ∀ H'', Same H' H'' → Q (.str (told "BadWord" part)) H'') ∨ (cls = .ref CN ∧ ∀ H'', Same H' H'' → Q (.str (told "BadNumber" part)) H'') ∨ (cls = .ref CM ∧ ∀ H'', Same H' H'' → Q (.str (told "Misfit" part)) H''))) H fun _ H' => Q .non H'
section
theorem sc__law_heard : FnScope ["ask", "caught", "error", "kinds"] ["ask"] (defScope s__law_heard) := ⟨rfl, rfl, rfl, by decide +kernel, rfl, by decide +kernel, by decide +kernel⟩
theorem heard_gives {X : Cx} {g CF CW CN CM : Addr} {cdg : Value} {q : Str} {kk : Nat} (Z : Kinds X.K X.mg CF CW CN CM) (T : Blt X.mg) : Gives X ["ask", "caught", "error", "kinds"] "_law_heard" (defScope s__law_heard) g cdg (defBody s__law_heard) "ask" q kk (TTheard CW CN CM) := by
  intro f c' vs s H Q tl hr act hc mono h
  obtain ⟨rfl, h⟩ := h
  have g_FlipError := Z.gF
  have g_BadWord := Z.gW
  have g_BadNumber := Z.gN
  have g_Misfit := Z.gM
  refine ⟨_, (pss_cons (ps_set (i := 1) sc__law_heard.nd rfl (Or.inl rfl) pe_non)
  (pss_cons (ps_try_keep (i := 2) (j := 1) (Wout := fun _ _ _ _ => False) rfl rfl rfl sc__law_heard.nd rfl rfl rfl rfl ⟨by rfl, by decide, .inl g_FlipError⟩ L2.takes0 (fun W pn xe tk _ => (pss_one (ps_expr (act W pn xe _ _ tk)))))
  (pss_cons (ps_if (pt_cmpR op_isN (pv 1) pe_non (nomark _)) (pss_one (ps_ret pe_non)) pss_nil)
  (pss_cons (ps_set (i := 3) sc__law_heard.nd rfl (Or.inl rfl) (pe_lst (pa_cons (pe_callB (call_or call_isX call_isi) (by rfl) T.n_isinstance (by decide +kernel) (pa_cons (pv 1) (pa_cons (pe_glob (v := .ref _) (by rfl) g_BadWord rfl) pa_nil))) (pa_cons (pe_callB (call_or call_isX call_isi) (by rfl) T.n_isinstance (by decide +kernel) (pa_cons (pv 1) (pa_cons (pe_glob (v := .ref _) (by rfl) g_BadNumber rfl) pa_nil))) (pa_cons (pe_callB (call_or call_isX call_isi) (by rfl) T.n_isinstance (by decide +kernel) (pa_cons (pv 1) (pa_cons (pe_glob (v := .ref _) (by rfl) g_Misfit rfl) pa_nil))) pa_nil)))))
  (pss_one (ps_ret (pe_ifExp (pt_cmpR op_in_seq pe_bl (pv 3) (by rfl)) (pe_op op_add_str (pe_op op_add_str (pe_ix ix_list (pe_lst (pa_cons pe_str (pa_cons pe_str (pa_cons pe_str pa_nil)))) (pe_bm PySem.F.plainAttrs_list PySem.F.slot_list_index PySem.F.type_list_index mt_index (pv 3) (pa_cons pe_bl pa_nil)) (fun _ _ => rfl)) pe_str) (pe_xa (pv 1))) pe_str))))))), ?_⟩
  refine ⟨rfl, hc, ?_⟩
  refine mono _ _ _ _ _ ?_ ?_ h
  rotate_left
  · intro v H' k
    exact ⟨_, rfl, rfl, _, rfl, k⟩
  · rintro cls d H' ⟨dd, part, rfl, hd, hp, ⟨rfl, k⟩ | ⟨rfl, k⟩ | ⟨rfl, k⟩⟩
    · refine ⟨true, Z.rW.ex, fun _ a ha => ?_, fun z => nomatch z⟩
      have nad : dd ≠ a := ne_of_none hd ha
      have hd1 : (upd H' a (ExA (.ref CW) (some dd) a)) dd = some (.xd [(("part" : Str), .str part)]) := by
        rw [upd_ne nad]
        exact hd
      refine ⟨_, rfl, rfl, _, rfl, ?_⟩
      refine ⟨_, rfl, .inl ⟨a, CW, some dd, .ref CW, .ref CW, true, rfl, Z.rW.ec, upd_same, (fun z e => by cases e; exact ⟨_, hd1⟩), .own CW, Z.kWW, ?_⟩⟩
      refine ⟨_, rfl, .inl ⟨a, CW, some dd, .ref CN, .ref CN, false, rfl, Z.rW.ec, upd_same, (fun z e => by cases e; exact ⟨_, hd1⟩), .own CN, Z.kWN, ?_⟩⟩
      refine ⟨_, rfl, .inl ⟨a, CW, some dd, .ref CM, .ref CM, false, rfl, Z.rW.ec, upd_same, (fun z e => by cases e; exact ⟨_, hd1⟩), .own CM, Z.kWM, ?_⟩⟩
      refine ⟨(by show 3 ≤ sizeLine; decide), fun l hl => ?_⟩
      have ha2 : (upd (upd H' a (ExA (.ref CW) (some dd) a)) l (.lst [V.bl true, V.bl false, V.bl false])) a = some (ExA (.ref CW) (some dd) a) := by
        rw [upd_ne (ne_of_none upd_same hl), upd_same]
      have hd2 : (upd (upd H' a (ExA (.ref CW) (some dd) a)) l (.lst [V.bl true, V.bl false, V.bl false])) dd = some (.xd [(("part" : Str), .str part)]) := by
        rw [upd_ne (ne_of_none hd1 hl)]
        exact hd1
      refine ⟨_, rfl, l, _, rfl, .inl (SqL.of upd_same), rfl, rfl, _, rfl, ?_⟩
      refine iteB (fun _ => ?_) (fun c => nomatch (show true = false from c))
      refine ⟨(by show 3 ≤ sizeLine; decide), fun l2 hl2 => ?_⟩
      have hl3 : (upd (upd (upd H' a (ExA (.ref CW) (some dd) a)) l (.lst [V.bl true, V.bl false, V.bl false])) l2 (.lst [V.str "BadWord", V.str "BadNumber", V.str "Misfit"])) l = some (.lst [V.bl true, V.bl false, V.bl false]) := by
        rw [upd_ne (ne_of_none upd_same hl2), upd_same]
      have ha3 : (upd (upd (upd H' a (ExA (.ref CW) (some dd) a)) l (.lst [V.bl true, V.bl false, V.bl false])) l2 (.lst [V.str "BadWord", V.str "BadNumber", V.str "Misfit"])) a = some (ExA (.ref CW) (some dd) a) := by
        rw [upd_ne (ne_of_none ha2 hl2)]
        exact ha2
      have hd3 : (upd (upd (upd H' a (ExA (.ref CW) (some dd) a)) l (.lst [V.bl true, V.bl false, V.bl false])) l2 (.lst [V.str "BadWord", V.str "BadNumber", V.str "Misfit"])) dd = some (.xd [(("part" : Str), .str part)]) := by
        rw [upd_ne (ne_of_none hd2 hl2)]
        exact hd2
      have lp : ((("BadWord" : Str) ++ (" " : Str)).length + part.length) ≤ sizeLine := by
        have h1 : (("BadWord" : Str) ++ (" " : Str)).length ≤ 100 := by decide +kernel
        exact Nat.le_of_lt (small1000 (by omega))
      refine ⟨_, rfl, .inl ⟨rfl, _, SqL.of hl3⟩, l, _, _, 0, V.bl true, rfl, rfl, SqL.of hl3, rfl, rfl, rfl, rfl, (fun m z hm e => by omega), ?_⟩
      refine ⟨l2, _, _, _, rfl, rfl, SqL.of upd_same, atI_nat (j := 0) rfl, _, _, rfl, rfl, (by decide +kernel), _, rfl, a, CW, dd, _, _, rfl, Z.rW.xf, Z.rW.no, ha3, hd3, rfl, _, _, rfl, rfl, lp, ?_⟩
      exact k _ ((same_new ha).trans ((same_new hl).trans (same_new hl2)))
    · refine ⟨true, Z.rN.ex, fun _ a ha => ?_, fun z => nomatch z⟩
      have nad : dd ≠ a := ne_of_none hd ha
      have hd1 : (upd H' a (ExA (.ref CN) (some dd) a)) dd = some (.xd [(("part" : Str), .str part)]) := by
        rw [upd_ne nad]
        exact hd
      refine ⟨_, rfl, rfl, _, rfl, ?_⟩
      refine ⟨_, rfl, .inl ⟨a, CN, some dd, .ref CW, .ref CW, false, rfl, Z.rN.ec, upd_same, (fun z e => by cases e; exact ⟨_, hd1⟩), .own CW, Z.kNW, ?_⟩⟩
      refine ⟨_, rfl, .inl ⟨a, CN, some dd, .ref CN, .ref CN, true, rfl, Z.rN.ec, upd_same, (fun z e => by cases e; exact ⟨_, hd1⟩), .own CN, Z.kNN, ?_⟩⟩
      refine ⟨_, rfl, .inl ⟨a, CN, some dd, .ref CM, .ref CM, false, rfl, Z.rN.ec, upd_same, (fun z e => by cases e; exact ⟨_, hd1⟩), .own CM, Z.kNM, ?_⟩⟩
      refine ⟨(by show 3 ≤ sizeLine; decide), fun l hl => ?_⟩
      have ha2 : (upd (upd H' a (ExA (.ref CN) (some dd) a)) l (.lst [V.bl false, V.bl true, V.bl false])) a = some (ExA (.ref CN) (some dd) a) := by
        rw [upd_ne (ne_of_none upd_same hl), upd_same]
      have hd2 : (upd (upd H' a (ExA (.ref CN) (some dd) a)) l (.lst [V.bl false, V.bl true, V.bl false])) dd = some (.xd [(("part" : Str), .str part)]) := by
        rw [upd_ne (ne_of_none hd1 hl)]
        exact hd1
      refine ⟨_, rfl, l, _, rfl, .inl (SqL.of upd_same), rfl, rfl, _, rfl, ?_⟩
      refine iteB (fun _ => ?_) (fun c => nomatch (show true = false from c))
      refine ⟨(by show 3 ≤ sizeLine; decide), fun l2 hl2 => ?_⟩
      have hl3 : (upd (upd (upd H' a (ExA (.ref CN) (some dd) a)) l (.lst [V.bl false, V.bl true, V.bl false])) l2 (.lst [V.str "BadWord", V.str "BadNumber", V.str "Misfit"])) l = some (.lst [V.bl false, V.bl true, V.bl false]) := by
        rw [upd_ne (ne_of_none upd_same hl2), upd_same]
      have ha3 : (upd (upd (upd H' a (ExA (.ref CN) (some dd) a)) l (.lst [V.bl false, V.bl true, V.bl false])) l2 (.lst [V.str "BadWord", V.str "BadNumber", V.str "Misfit"])) a = some (ExA (.ref CN) (some dd) a) := by
        rw [upd_ne (ne_of_none ha2 hl2)]
        exact ha2
      have hd3 : (upd (upd (upd H' a (ExA (.ref CN) (some dd) a)) l (.lst [V.bl false, V.bl true, V.bl false])) l2 (.lst [V.str "BadWord", V.str "BadNumber", V.str "Misfit"])) dd = some (.xd [(("part" : Str), .str part)]) := by
        rw [upd_ne (ne_of_none hd2 hl2)]
        exact hd2
      have lp : ((("BadNumber" : Str) ++ (" " : Str)).length + part.length) ≤ sizeLine := by
        have h1 : (("BadNumber" : Str) ++ (" " : Str)).length ≤ 100 := by decide +kernel
        exact Nat.le_of_lt (small1000 (by omega))
      refine ⟨_, rfl, .inl ⟨rfl, _, SqL.of hl3⟩, l, _, _, 1, V.bl true, rfl, rfl, SqL.of hl3, rfl, rfl, rfl, rfl, (fun m z hm e => by
        match m, hm, e with
        | 0, _, e => cases e; rfl), ?_⟩
      refine ⟨l2, _, _, _, rfl, rfl, SqL.of upd_same, atI_nat (j := 1) rfl, _, _, rfl, rfl, (by decide +kernel), _, rfl, a, CN, dd, _, _, rfl, Z.rN.xf, Z.rN.no, ha3, hd3, rfl, _, _, rfl, rfl, lp, ?_⟩
      exact k _ ((same_new ha).trans ((same_new hl).trans (same_new hl2)))
    · refine ⟨true, Z.rM.ex, fun _ a ha => ?_, fun z => nomatch z⟩
      have nad : dd ≠ a := ne_of_none hd ha
      have hd1 : (upd H' a (ExA (.ref CM) (some dd) a)) dd = some (.xd [(("part" : Str), .str part)]) := by
        rw [upd_ne nad]
        exact hd
      refine ⟨_, rfl, rfl, _, rfl, ?_⟩
      refine ⟨_, rfl, .inl ⟨a, CM, some dd, .ref CW, .ref CW, false, rfl, Z.rM.ec, upd_same, (fun z e => by cases e; exact ⟨_, hd1⟩), .own CW, Z.kMW, ?_⟩⟩
      refine ⟨_, rfl, .inl ⟨a, CM, some dd, .ref CN, .ref CN, false, rfl, Z.rM.ec, upd_same, (fun z e => by cases e; exact ⟨_, hd1⟩), .own CN, Z.kMN, ?_⟩⟩
      refine ⟨_, rfl, .inl ⟨a, CM, some dd, .ref CM, .ref CM, true, rfl, Z.rM.ec, upd_same, (fun z e => by cases e; exact ⟨_, hd1⟩), .own CM, Z.kMM, ?_⟩⟩
      refine ⟨(by show 3 ≤ sizeLine; decide), fun l hl => ?_⟩
      have ha2 : (upd (upd H' a (ExA (.ref CM) (some dd) a)) l (.lst [V.bl false, V.bl false, V.bl true])) a = some (ExA (.ref CM) (some dd) a) := by
        rw [upd_ne (ne_of_none upd_same hl), upd_same]
      have hd2 : (upd (upd H' a (ExA (.ref CM) (some dd) a)) l (.lst [V.bl false, V.bl false, V.bl true])) dd = some (.xd [(("part" : Str), .str part)]) := by
        rw [upd_ne (ne_of_none hd1 hl)]
        exact hd1
      refine ⟨_, rfl, l, _, rfl, .inl (SqL.of upd_same), rfl, rfl, _, rfl, ?_⟩
      refine iteB (fun _ => ?_) (fun c => nomatch (show true = false from c))
      refine ⟨(by show 3 ≤ sizeLine; decide), fun l2 hl2 => ?_⟩
      have hl3 : (upd (upd (upd H' a (ExA (.ref CM) (some dd) a)) l (.lst [V.bl false, V.bl false, V.bl true])) l2 (.lst [V.str "BadWord", V.str "BadNumber", V.str "Misfit"])) l = some (.lst [V.bl false, V.bl false, V.bl true]) := by
        rw [upd_ne (ne_of_none upd_same hl2), upd_same]
      have ha3 : (upd (upd (upd H' a (ExA (.ref CM) (some dd) a)) l (.lst [V.bl false, V.bl false, V.bl true])) l2 (.lst [V.str "BadWord", V.str "BadNumber", V.str "Misfit"])) a = some (ExA (.ref CM) (some dd) a) := by
        rw [upd_ne (ne_of_none ha2 hl2)]
        exact ha2
      have hd3 : (upd (upd (upd H' a (ExA (.ref CM) (some dd) a)) l (.lst [V.bl false, V.bl false, V.bl true])) l2 (.lst [V.str "BadWord", V.str "BadNumber", V.str "Misfit"])) dd = some (.xd [(("part" : Str), .str part)]) := by
        rw [upd_ne (ne_of_none hd2 hl2)]
        exact hd2
      have lp : ((("Misfit" : Str) ++ (" " : Str)).length + part.length) ≤ sizeLine := by
        have h1 : (("Misfit" : Str) ++ (" " : Str)).length ≤ 100 := by decide +kernel
        exact Nat.le_of_lt (small1000 (by omega))
      refine ⟨_, rfl, .inl ⟨rfl, _, SqL.of hl3⟩, l, _, _, 2, V.bl true, rfl, rfl, SqL.of hl3, rfl, rfl, rfl, rfl, (fun m z hm e => by
        match m, hm, e with
        | 0, _, e => cases e; rfl
        | 1, _, e => cases e; rfl), ?_⟩
      refine ⟨l2, _, _, _, rfl, rfl, SqL.of upd_same, atI_nat (j := 2) rfl, _, _, rfl, rfl, (by decide +kernel), _, rfl, a, CM, dd, _, _, rfl, Z.rM.xf, Z.rM.no, ha3, hd3, rfl, _, _, rfl, rfl, lp, ?_⟩
      exact k _ ((same_new ha).trans ((same_new hl).trans (same_new hl2)))
end
end K23
set_option maxHeartbeats 4000000
namespace K23
open PySem PySem.Spec PyProof.Rows L2 OB SkE LamX
def LQ : Str := (envOfC "_law_refused_right" (defScope s__law_refused_right) 0 0 .none).qual ++ "<lambda>"
def Odd (K : PySem.W.Frag) (lo hi : Option Int) (H : Hp) (x : V) : Prop := ∀ H2, ExtN H H2 → Bad K H2 x lo hi
theorem Odd.ext {K : PySem.W.Frag} {lo hi : Option Int} {H H1 : Hp} {x : V} (o : Odd K lo hi H x) (e : ExtN H H1) : Odd K lo hi H1 x := fun H2 e2 => o H2 (e.trans e2)
theorem Odd.at {K : PySem.W.Frag} {lo hi : Option Int} {H : Hp} {x : V} (o : Odd K lo hi H x) : Bad K H x lo hi := o H (ExtN.refl H)
theorem orch_ext {H H' : Hp} {p b : Addr} {n : Nat} (o : Orch H p b n) (e : ExtN H H') : Orch H' p b n := by
  obtain ⟨ns, t, l, h1, h2, h3⟩ := o
  exact ⟨ns, t, l, e _ _ h1 (fun _ z => nomatch z), e _ _ h2 (fun _ z => nomatch z), h3⟩
theorem tabs_but {T : List (Addr × Str)} {H H' : Hp} {p : Addr} {xs : List V} (t : Tabs T H) (b : But p H H') (hp : H p = some (.lst xs)) : Tabs T H' := fun x hx => by
  obtain ⟨ps, h1, h2, h3⟩ := t x hx
  have n1 : x.1 ≠ p := fun z => by
    rw [z, hp] at h1
    cases h1
  refine ⟨ps, b _ _ h1 n1, h2, fun pos cv hc => ?_⟩
  obtain ⟨c, e1, e2⟩ := h3 pos cv hc
  have n2 : c ≠ p := fun z => by
    rw [z, hp] at e2
    have e2 := Option.some.inj e2
    cases e2
  exact ⟨c, e1, b _ _ e2 n2⟩
theorem dp_strs {K : PySem.W.Frag} {H : Hp} : ∀ xs : List Str, DpAll K H (xs.map V.str) (xs.map PyData.str)
  | [] => .nil
  | x :: r => .cons (.str x) (dp_strs r)
theorem list_ne {ds : List PyData} (h : PyData.canLay0 (.list ds) = true) : (!PyData.eqv (.list ds) (.list ds)) = false := by
  rw [SeqAt.eqv_refl _ h]
  rfl
section
variable {K : PySem.W.Frag} {CW CN CM : Addr}
theorem val_mono {vs : List V} {H : Hp} {Q1 Q2 : VK} {E1 E2 : XK} (hE : ∀ c d H, E1 c d H → E2 c d H) (hQ : ∀ v H, Q1 v H → Q2 v H) (h : spVal K CW CN CM vs H Q1 E1) : spVal K CW CN CM vs H Q2 E2 := by
  obtain ⟨x, s, e, h⟩ := h
  refine ⟨x, s, e, ?_⟩
  rcases h with ⟨hb, r⟩ | ⟨n, e1, h⟩
  · exact .inl ⟨hb, fun d hd => hE _ _ _ (r d hd)⟩
  refine .inr ⟨n, e1, ?_⟩
  rcases h with ⟨hb, r⟩ | ⟨k, e2, k1, k8, h⟩
  · exact .inl ⟨hb, fun d hd => hE _ _ _ (r d hd)⟩
  refine .inr ⟨k, e2, k1, k8, ?_⟩
  rcases h with ⟨hb, r⟩ | ⟨hn, q⟩
  · exact .inl ⟨hb, fun d hd => hE _ _ _ (r d hd)⟩
  · exact .inr ⟨hn, fun H' S => hQ _ _ (q H' S)⟩
theorem flip_mono {vs : List V} {H : Hp} {Q1 Q2 : VK} {E1 E2 : XK} (hE : ∀ c d H, E1 c d H → E2 c d H) (hQ : ∀ v H, Q1 v H → Q2 v H) (h : spFlip K CW CN CM vs H Q1 E1) : spFlip K CW CN CM vs H Q2 E2 := by
  obtain ⟨x, s, v, e, h⟩ := h
  refine ⟨x, s, v, e, ?_⟩
  rcases h with ⟨hb, r⟩ | ⟨n, e1, h⟩
  · exact .inl ⟨hb, fun d hd => hE _ _ _ (r d hd)⟩
  refine .inr ⟨n, e1, ?_⟩
  rcases h with ⟨hb, r⟩ | ⟨k, e2, k1, k8, h⟩
  · exact .inl ⟨hb, fun d hd => hE _ _ _ (r d hd)⟩
  refine .inr ⟨k, e2, k1, k8, ?_⟩
  rcases h with ⟨hb, r⟩ | ⟨m, e3, hm, h⟩
  · exact .inl ⟨hb, fun d hd => hE _ _ _ (r d hd)⟩
  refine .inr ⟨m, e3, hm, ?_⟩
  rcases h with ⟨hb, r⟩ | ⟨hn, h⟩
  · exact .inl ⟨hb, fun d hd => hE _ _ _ (r d hd)⟩
  refine .inr ⟨hn, ?_⟩
  rcases h with ⟨hb, r⟩ | ⟨hk, q⟩
  · exact .inl ⟨hb, fun d hd => hE _ _ _ (r d hd)⟩
  · exact .inr ⟨hk, fun H' S => hQ _ _ (q H' S)⟩
theorem mono_val (i j : Nat) : ∀ σ : L2.St, MonoL fun E H' Q' => (tCallS (spVal K CW CN CM) (WE fun cls d _ H => E cls d H) (tCons (tVar i) (tCons (tVar j) tNil))) σ H' Q' := by
  rintro σ E1 E2 H Q1 Q2 hE hQ ⟨v, e, v2, e2, h⟩
  exact ⟨v, e, v2, e2, val_mono (fun c d H => hE c d H) (fun v H => hQ v H) h⟩
theorem mono_flip (i j l : Nat) : ∀ σ : L2.St, MonoL fun E H' Q' => (tCallS (spFlip K CW CN CM) (WE fun cls d _ H => E cls d H) (tCons (tVar i) (tCons (tVar j) (tCons (tVar l) tNil)))) σ H' Q' := by
  rintro σ E1 E2 H Q1 Q2 hE hQ ⟨v, e, v2, e2, v3, e3, h⟩
  exact ⟨v, e, v2, e2, v3, e3, flip_mono (fun c d H => hE c d H) (fun v H => hQ v H) h⟩
end
def spRefused (Pt : Addr) : Sp := fun vs H Q _ => ∃ (p b : Addr) (n m k : Nat), vs = [.ref p, .int (m : Int), .int (k : Int)] ∧ Orch H p b n ∧ n + 8 < 1000000 ∧ 1 ≤ k ∧ k ≤ 8 ∧ m < 2 ^ (2 ^ k - 1) ∧ Tabs [(Pt, LQ)] H ∧
  ∀ H' : Hp, Orch H' p b (n + 8) → Tabs [(Pt, LQ)] H' → Q (.bl true) H'
section
variable {P : Program} {w : World} {K : PySem.W.Frag} {mg : Str → Option Value} {base : Heap}
abbrev N__law_refused_right : List Str := ["loft", "word", "size", "none", "odd", "far", "wide", "heard", "great"]
theorem sc__law_refused_right : FnScope ["loft", "word", "size", "none", "odd", "far", "wide", "heard", "great"] ["loft", "word", "size"] (defScope s__law_refused_right) := ⟨rfl, rfl, rfl, by decide +kernel, rfl, by decide +kernel, by decide +kernel⟩
theorem ok__law_refused_right {f f1 f2 f3 f4 f5 CF CW CN CM c Pt : Addr} {fd1 fd2 fd3 fd4 fd5 : FuncData} {oc kV doc pm ct : Value} {od an : Option Addr} {osl : Array (Option Value)} (T : Blt mg)
    (lk : K.lookup f = some ⟨oc, od, .func (PySem.W.fnOf "_law_refused_right" "_law_refused_right" (defArgs s__law_refused_right) (defBody s__law_refused_right) (defScope s__law_refused_right) .none kV doc pm an (.ref c) ct), osl⟩) (hcd : PySem.W.codeIn K (.ref c) "_law_refused_right" = true)
    (TB : TabB base mg c Pt) (Z : Kinds K mg CF CW CN CM)
    (D__law_haul : Df K mg "_law_haul" s__law_haul ["loft", "many"] f1 fd1) (D__law_one : Df K mg "_law_one" s__law_one ["loft", "some"] f2 fd2)
    (D__law_heard : Df K mg "_law_heard" s__law_heard ["ask"] f3 fd3)
    (D_value_by_flips : Df K mg "value_by_flips" s_value_by_flips ["word", "size"] f4 fd4) (GX_value_by_flips : FnOk P w K mg base (L2.CX P w) 7 f4 fd4 ["word", "size"] (spVal K CW CN CM))
    (D_flip_to : Df K mg "flip_to" s_flip_to ["word", "size", "value"] f5 fd5) (GX_flip_to : FnOk P w K mg base (L2.CX P w) 7 f5 fd5 ["word", "size", "value"] (spFlip K CW CN CM)) :
    FnOk P w K mg base CX0 12 f (PySem.W.fnOf "_law_refused_right" "_law_refused_right" (defArgs s__law_refused_right) (defBody s__law_refused_right) (defScope s__law_refused_right) .none kV doc pm an (.ref c) ct) ["loft", "word", "size"] (spRefused Pt) := by
  have G__law_haul : FnOk P w K mg base CX0 1 f1 fd1 ["loft", "many"] spDraw := ok__law_haul D__law_haul.F T
  have G__law_one : FnOk P w K mg base CX0 2 f2 fd2 ["loft", "some"] spOne := ok__law_one D__law_one.F T D__law_haul
  obtain ⟨ocH, odH, kVH, docH, pmH, anH, cdvH, ctH, oslH, eH, lkH, hcH⟩ := D__law_heard.F.ex
  subst eH
  have bind0 : ∀ {pr : Arguments}, (∀ (q : Str) (body : Expr) (scope : Scope) (cl : List (Str × Addr)) (pm cv ctv : Value), bindArgs (lFn q pr body scope cl .none pm cv ctv) ⟨[], []⟩ = pure []) → ∀ ds : List Value, Vals (([] : List Int).map V.int) ds → LamB pr [] ds := fun h ds rd => by
    cases rd
    exact lamB0 h
  have bind1 : ∀ {pr : Arguments} {a : Str}, (∀ (d : Value) (q : Str) (body : Expr) (scope : Scope) (cl : List (Str × Addr)) (T : Addr) (pm cv ctv : Value), ∃ k, bindArgs (lFn q pr body scope cl (.ref T) pm cv ctv) ⟨[], []⟩ = seqItems? (.ref T) >>= k ∧ k (some #[d]) = pure [(a, d)]) →
      ∀ ds : List Value, Vals (([0] : List Int).map V.int) ds → LamB pr [a] ds := fun h ds rd => by
    cases rd with
    | cons r rr =>
      cases rr
      exact lamB1 (h _)
  refine fn_of lk hcd sc__law_refused_right (fun vs H Q E h => ?_) fun A outer s H vs Q E hr h => ?_
  · obtain ⟨p, b, n, m, k, rfl, _⟩ := h
    rfl
  · obtain ⟨p, b, n, m, k, rfl, O, hn, k1, k8, hm, TA, q⟩ := h
    have t0 : ∃ t, PSs (cxOf CX0 P w K mg base ["loft", "word", "size", "none", "odd", "far", "wide", "heard", "great"] "_law_refused_right" (defScope s__law_refused_right) f (.ref c) A outer s H E).nox (defBody s__law_refused_right) t ∧ t { nx := fun _ H' => Q .non H', rt := Q } (L2.start ["loft", "word", "size", "none", "odd", "far", "wide", "heard", "great"] [.ref p, .int (m : Int), .int (k : Int)]) H := by
      refine ⟨_, (pss_cons (ps_asg (pe_tup (pa_cons (pe_call G__law_one (hr.mono (by decide)) (by rfl) D__law_one.g D__law_one.F.kp D__law_one.b .nil pass0 (pa_cons (pv 0) (pa_cons (pe_lst (pa_cons (pe_un un_neg pe_int) (pa_cons pe_non (pa_cons pe_bl (pa_cons pe_str (pa_cons (pe_lst (pa_cons pe_int pa_nil)) (pa_cons (pe_un un_neg (pe_op op_pow pe_int pe_int)) pa_nil))))))) pa_nil))) (pa_cons (pe_call G__law_one (hr.mono (by decide)) (by rfl) D__law_one.g D__law_one.F.kp D__law_one.b .nil pass0 (pa_cons (pv 0) (pa_cons (pe_lst (pa_cons pe_int (pa_cons pe_int (pa_cons (pe_un un_neg pe_int) (pa_cons pe_non (pa_cons pe_bl (pa_cons pe_str (pa_cons (pe_op op_pow pe_int pe_int) pa_nil)))))))) pa_nil))) pa_nil))) (pg_tup (by rfl) (pgs_cons (pg_name (i := 3) sc__law_refused_right.nd rfl (Or.inr rfl)) (pgs_cons (pg_name (i := 4) sc__law_refused_right.nd rfl (Or.inr rfl)) pgs_nil))))
  (pss_cons (ps_asg (pe_tup (pa_cons (pe_call G__law_one (hr.mono (by decide)) (by rfl) D__law_one.g D__law_one.F.kp D__law_one.b .nil pass0 (pa_cons (pv 0) (pa_cons (pe_lst (pa_cons pe_int (pa_cons (pe_un un_neg pe_int) (pa_cons pe_non (pa_cons pe_bl (pa_cons pe_str (pa_cons (pe_lst (pa_cons pe_int pa_nil)) pa_nil))))))) pa_nil))) (pa_cons (pe_op op_add (pe_op op_oneN pe_int (pe_op op_sub (pe_op op_oneN pe_int (pv 2)) pe_int)) (pe_call G__law_one (hr.mono (by decide)) (by rfl) D__law_one.g D__law_one.F.kp D__law_one.b .nil pass0 (pa_cons (pv 0) (pa_cons (pe_lst (pa_cons pe_int (pa_cons (pv 1) (pa_cons (pe_op op_oneN pe_int pe_int) pa_nil)))) pa_nil)))) pa_nil))) (pg_tup (by rfl) (pgs_cons (pg_name (i := 5) sc__law_refused_right.nd rfl (Or.inr rfl)) (pgs_cons (pg_name (i := 6) sc__law_refused_right.nd rfl (Or.inr rfl)) pgs_nil))))
  (pss_cons (ps_set (i := 7) sc__law_refused_right.nd rfl (Or.inl rfl) (pe_lst (pa_cons (pe_lam (T := [(Pt, LQ)]) (vs := []) (TT := TTheard CW CN CM) (k := 8) (nm := []) (dts := []) (t := fun E => tCallS (spVal K CW CN CM) (WE fun cls d _ H => E cls d H) (tCons (tVar 3) (tCons (tVar 4) tNil))) (by rfl) D__law_heard.g D__law_heard.F.kp lkH hcH D__law_heard.b sc__law_heard rfl (Or.inl rfl) (heard_gives Z T) TB rfl List.mem_cons_self (fun p hp _ => congrArg Prod.snd (List.mem_singleton.mp hp)) (hr.mono (by decide)) (lamN_by (sc := defScope s__law_refused_right) (N := N__law_refused_right) (by decide +kernel)) (.inl ⟨rfl, rfl⟩) (bind0 fun _ _ _ _ _ _ _ => rfl) (mono_val 3 4) pa_nil (fun _ _ _ => rfl) rfl (fun A outer s H E f c' hr2 => pe_callS GX_value_by_flips (hr2.mono (by decide)) (by rfl) D_value_by_flips.g D_value_by_flips.F.kp D_value_by_flips.b (fun σ => passAt (takes_of rfl rfl rfl rfl) σ) (pa_cons (pv 3) (pa_cons (pv 4) pa_nil)))) (pa_cons (pe_lam (T := [(Pt, LQ)]) (vs := []) (TT := TTheard CW CN CM) (k := 8) (nm := ["a1"]) (dts := [0]) (t := fun E => tCallS (spFlip K CW CN CM) (WE fun cls d _ H => E cls d H) (tCons (tVar 3) (tCons (tVar 4) (tCons (tVar 5) tNil)))) (by rfl) D__law_heard.g D__law_heard.F.kp lkH hcH D__law_heard.b sc__law_heard rfl (Or.inl rfl) (heard_gives Z T) TB rfl List.mem_cons_self (fun p hp _ => congrArg Prod.snd (List.mem_singleton.mp hp)) (hr.mono (by decide)) (lamN_by (sc := defScope s__law_refused_right) (N := N__law_refused_right) (by decide +kernel)) (.inr ⟨0, _, _, rfl, rfl⟩) (bind1 fun _ _ _ _ _ _ _ _ _ => ⟨_, rfl, rfl⟩) (mono_flip 3 4 5) pa_nil (fun _ _ _ => rfl) rfl (fun A outer s H E f c' hr2 => pe_callS GX_flip_to (hr2.mono (by decide)) (by rfl) D_flip_to.g D_flip_to.F.kp D_flip_to.b (fun σ => passAt (takes_of rfl rfl rfl rfl) σ) (pa_cons (pv 3) (pa_cons (pv 4) (pa_cons (pv 5) pa_nil))))) pa_nil))))
  (pss_cons (ps_set (i := 7) sc__law_refused_right.nd rfl (Or.inl rfl) (pe_op op_cat (pv 7) (pe_lst (pa_cons (pe_lam (T := [(Pt, LQ)]) (vs := []) (TT := TTheard CW CN CM) (k := 8) (nm := []) (dts := []) (t := fun E => tCallS (spVal K CW CN CM) (WE fun cls d _ H => E cls d H) (tCons (tVar 1) (tCons (tVar 4) tNil))) (by rfl) D__law_heard.g D__law_heard.F.kp lkH hcH D__law_heard.b sc__law_heard rfl (Or.inl rfl) (heard_gives Z T) TB rfl List.mem_cons_self (fun p hp _ => congrArg Prod.snd (List.mem_singleton.mp hp)) (hr.mono (by decide)) (lamN_by (sc := defScope s__law_refused_right) (N := N__law_refused_right) (by decide +kernel)) (.inl ⟨rfl, rfl⟩) (bind0 fun _ _ _ _ _ _ _ => rfl) (mono_val 1 4) pa_nil (fun _ _ _ => rfl) rfl (fun A outer s H E f c' hr2 => pe_callS GX_value_by_flips (hr2.mono (by decide)) (by rfl) D_value_by_flips.g D_value_by_flips.F.kp D_value_by_flips.b (fun σ => passAt (takes_of rfl rfl rfl rfl) σ) (pa_cons (pv 1) (pa_cons (pv 4) pa_nil)))) (pa_cons (pe_lam (T := [(Pt, LQ)]) (vs := []) (TT := TTheard CW CN CM) (k := 8) (nm := ["a1"]) (dts := [0]) (t := fun E => tCallS (spFlip K CW CN CM) (WE fun cls d _ H => E cls d H) (tCons (tVar 6) (tCons (tVar 4) (tCons (tVar 5) tNil)))) (by rfl) D__law_heard.g D__law_heard.F.kp lkH hcH D__law_heard.b sc__law_heard rfl (Or.inl rfl) (heard_gives Z T) TB rfl List.mem_cons_self (fun p hp _ => congrArg Prod.snd (List.mem_singleton.mp hp)) (hr.mono (by decide)) (lamN_by (sc := defScope s__law_refused_right) (N := N__law_refused_right) (by decide +kernel)) (.inr ⟨0, _, _, rfl, rfl⟩) (bind1 fun _ _ _ _ _ _ _ _ _ => ⟨_, rfl, rfl⟩) (mono_flip 6 4 5) pa_nil (fun _ _ _ => rfl) rfl (fun A outer s H E f c' hr2 => pe_callS GX_flip_to (hr2.mono (by decide)) (by rfl) D_flip_to.g D_flip_to.F.kp D_flip_to.b (fun σ => passAt (takes_of rfl rfl rfl rfl) σ) (pa_cons (pv 6) (pa_cons (pv 4) (pa_cons (pv 5) pa_nil))))) pa_nil)))))
  (pss_cons (ps_set (i := 7) sc__law_refused_right.nd rfl (Or.inl rfl) (pe_op op_cat (pv 7) (pe_lst (pa_cons (pe_lam (T := [(Pt, LQ)]) (vs := []) (TT := TTheard CW CN CM) (k := 8) (nm := []) (dts := []) (t := fun E => tCallS (spFlip K CW CN CM) (WE fun cls d _ H => E cls d H) (tCons (tVar 6) (tCons (tVar 2) (tCons (tVar 5) tNil)))) (by rfl) D__law_heard.g D__law_heard.F.kp lkH hcH D__law_heard.b sc__law_heard rfl (Or.inl rfl) (heard_gives Z T) TB rfl List.mem_cons_self (fun p hp _ => congrArg Prod.snd (List.mem_singleton.mp hp)) (hr.mono (by decide)) (lamN_by (sc := defScope s__law_refused_right) (N := N__law_refused_right) (by decide +kernel)) (.inl ⟨rfl, rfl⟩) (bind0 fun _ _ _ _ _ _ _ => rfl) (mono_flip 6 2 5) pa_nil (fun _ _ _ => rfl) rfl (fun A outer s H E f c' hr2 => pe_callS GX_flip_to (hr2.mono (by decide)) (by rfl) D_flip_to.g D_flip_to.F.kp D_flip_to.b (fun σ => passAt (takes_of rfl rfl rfl rfl) σ) (pa_cons (pv 6) (pa_cons (pv 2) (pa_cons (pv 5) pa_nil))))) (pa_cons (pe_lam (T := [(Pt, LQ)]) (vs := []) (TT := TTheard CW CN CM) (k := 8) (nm := ["a1"]) (dts := [0]) (t := fun E => tCallS (spVal K CW CN CM) (WE fun cls d _ H => E cls d H) (tCons (tVar 6) (tCons (tVar 2) tNil))) (by rfl) D__law_heard.g D__law_heard.F.kp lkH hcH D__law_heard.b sc__law_heard rfl (Or.inl rfl) (heard_gives Z T) TB rfl List.mem_cons_self (fun p hp _ => congrArg Prod.snd (List.mem_singleton.mp hp)) (hr.mono (by decide)) (lamN_by (sc := defScope s__law_refused_right) (N := N__law_refused_right) (by decide +kernel)) (.inr ⟨0, _, _, rfl, rfl⟩) (bind1 fun _ _ _ _ _ _ _ _ _ => ⟨_, rfl, rfl⟩) (mono_val 6 2) pa_nil (fun _ _ _ => rfl) rfl (fun A outer s H E f c' hr2 => pe_callS GX_value_by_flips (hr2.mono (by decide)) (by rfl) D_value_by_flips.g D_value_by_flips.F.kp D_value_by_flips.b (fun σ => passAt (takes_of rfl rfl rfl rfl) σ) (pa_cons (pv 6) (pa_cons (pv 2) pa_nil)))) pa_nil)))))
  (pss_cons (ps_if (pt_cmpR (op_neD hr.units) (pv 7) (pe_op op_cat (pe_op op_cat (pe_op op_rep (pe_lst (pa_cons pe_str pa_nil)) pe_int) (pe_op op_rep (pe_lst (pa_cons pe_str pa_nil)) pe_int)) (pe_lst (pa_cons pe_str (pa_cons pe_str pa_nil)))) (nomark _)) (pss_one (ps_ret pe_bl)) pss_nil)
  (C8.pss_cut (ps_set (i := 8) sc__law_refused_right.nd rfl (Or.inr rfl) (pe_ifExp (pt_cmpR op_lt (pv 2) pe_int (nomark _)) (pe_op op_add (pe_op op_oneN pe_int (pv 2)) (pe_call G__law_haul (hr.mono (by decide)) (by rfl) D__law_haul.g D__law_haul.F.kp D__law_haul.b .nil pass0 (pa_cons (pv 0) (pa_cons (pe_op op_sub pe_int (pe_op op_oneN pe_int (pv 2))) pa_nil)))) pe_int))
  (pss_cons (ps_set (i := 7) sc__law_refused_right.nd rfl (Or.inl rfl) (pe_lst (pa_cons (pe_lam (T := [(Pt, LQ)]) (vs := []) (TT := TTheard CW CN CM) (k := 8) (nm := []) (dts := []) (t := fun E => tCallS (spFlip K CW CN CM) (WE fun cls d _ H => E cls d H) (tCons (tVar 6) (tCons (tVar 2) (tCons (tVar 8) tNil)))) (by rfl) D__law_heard.g D__law_heard.F.kp lkH hcH D__law_heard.b sc__law_heard rfl (Or.inl rfl) (heard_gives Z T) TB rfl List.mem_cons_self (fun p hp _ => congrArg Prod.snd (List.mem_singleton.mp hp)) (hr.mono (by decide)) (lamN_by (sc := defScope s__law_refused_right) (N := N__law_refused_right) (by decide +kernel)) (.inl ⟨rfl, rfl⟩) (bind0 fun _ _ _ _ _ _ _ => rfl) (mono_flip 6 2 8) pa_nil (fun _ _ _ => rfl) rfl (fun A outer s H E f c' hr2 => pe_callS GX_flip_to (hr2.mono (by decide)) (by rfl) D_flip_to.g D_flip_to.F.kp D_flip_to.b (fun σ => passAt (takes_of rfl rfl rfl rfl) σ) (pa_cons (pv 6) (pa_cons (pv 2) (pa_cons (pv 8) pa_nil))))) (pa_cons (pe_lam (T := [(Pt, LQ)]) (vs := []) (TT := TTheard CW CN CM) (k := 8) (nm := ["a1"]) (dts := [0]) (t := fun E => tCallS (spFlip K CW CN CM) (WE fun cls d _ H => E cls d H) (tCons (tVar 1) (tCons (tVar 2) (tCons (tVar 8) tNil)))) (by rfl) D__law_heard.g D__law_heard.F.kp lkH hcH D__law_heard.b sc__law_heard rfl (Or.inl rfl) (heard_gives Z T) TB rfl List.mem_cons_self (fun p hp _ => congrArg Prod.snd (List.mem_singleton.mp hp)) (hr.mono (by decide)) (lamN_by (sc := defScope s__law_refused_right) (N := N__law_refused_right) (by decide +kernel)) (.inr ⟨0, _, _, rfl, rfl⟩) (bind1 fun _ _ _ _ _ _ _ _ _ => ⟨_, rfl, rfl⟩) (mono_flip 1 2 8) pa_nil (fun _ _ _ => rfl) rfl (fun A outer s H E f c' hr2 => pe_callS GX_flip_to (hr2.mono (by decide)) (by rfl) D_flip_to.g D_flip_to.F.kp D_flip_to.b (fun σ => passAt (takes_of rfl rfl rfl rfl) σ) (pa_cons (pv 1) (pa_cons (pv 2) (pa_cons (pv 8) pa_nil))))) pa_nil))))
  (pss_one (ps_ret (pe_cmpR (op_eqD hr.units) (pv 7) (pe_lst (pa_cons pe_str (pa_cons (pe_ifExp (pt_cmpR op_lt (pv 2) pe_int (nomark _)) pe_str pe_non) pa_nil))) (nomark _)))))))))))), ?_⟩
      obtain ⟨B, hB⟩ : ∃ B, B = 2 ^ k - 1 := ⟨_, rfl⟩
      have p8 : 2 ^ k ≤ 256 := Nat.le_trans (Nat.pow_le_pow_right (by decide) k8) (by decide)
      have p2 : 2 ≤ 2 ^ k := Nat.pow_le_pow_right (n := 2) (by decide) k1
      have eb : ((2 ^ k : Nat) : Int) - 1 = (B : Int) := by omega
      have hB1 : B ≤ 255 := by omega
      -- none
      refine ⟨_, rfl, _, rfl, (by show 1 ≤ sizeLine; decide), fun l2 hl2 => ⟨_, _, rfl, rfl, ⟨by decide, by decide, by decide⟩, _, rfl, (by show 6 ≤ sizeLine; decide), fun l hl => ?_⟩⟩
      obtain ⟨up, hup⟩ := O.pn
      have n2 : l2 ≠ p := (ne_of_none hup hl2).symm
      have S0 : Same H (upd H l2 (.lst [.int 3])) := same_new hl2
      have S1 := S0.trans (same_new (o := .lst [.int (-1), .non, .bl true, .str "5", .ref l2, .int (-(10 ^ (40 : Int).toNat))]) hl)
      have n1 : l ≠ p := (ne_of_none (S0 _ _ hup) hl).symm
      have O0 := O.same S1
      refine ⟨p, b, l, n, _, rfl, O0, by omega, upd_same, n1, by show 0 < 6; decide, by show 6 ≤ 1000; decide, fun j x H1 hj O1 B1 => ?_⟩
      obtain ⟨ns0, ts0, ls0, hp0, _⟩ := id O0
      have T1 : Tabs [(Pt, LQ)] H1 := tabs_but (TA.ext S1) B1 hp0
      have a1 : H1 l2 = some (.lst [.int 3]) := B1 _ _ (by rw [upd_ne (ne_of_none upd_same hl), upd_same]) n2
      have oddN : ∀ H', H' l2 = some (.lst [.int 3]) → Bad K H' x (some 0) none := by
        intro H' e
        match j, hj with
        | 0, z => cases z; exact ⟨true, isI_int _, by decide⟩
        | 1, z => cases z; exact ⟨false, isI_non, rfl⟩
        | 2, z => cases z; exact ⟨false, isI_bl _, rfl⟩
        | 3, z => cases z; exact ⟨false, isI_str _, rfl⟩
        | 4, z => cases z; exact ⟨false, isI_lst e, rfl⟩
        | 5, z => cases z; exact ⟨true, isI_int _, by decide +kernel⟩
        | j + 6, z => cases z
      clear hj
      -- odd
      refine ⟨_, rfl, _, rfl, _, _, rfl, rfl, ⟨by decide, by decide, by decide⟩, (by show 7 ≤ sizeLine; decide), fun l3 hl3 => ?_⟩
      obtain ⟨up1, hup1⟩ := O1.pn
      have n3 : l3 ≠ p := (ne_of_none hup1 hl3).symm
      have O1' := O1.same (same_new (o := .lst [.int 0, .int 9, .int (-1), .non, .bl false, .str "2", .int (10 ^ (20 : Int).toNat)]) hl3)
      refine ⟨p, b, l3, n + 1, _, rfl, O1', by omega, upd_same, n3, by show 0 < 7; decide, by show 7 ≤ 1000; decide, fun j y H2 hj O2 B2 => ?_⟩
      obtain ⟨ns1, ts1, ls1, hp1, _⟩ := id O1'
      have T2 : Tabs [(Pt, LQ)] H2 := tabs_but (T1.ext (same_new hl3)) B2 hp1
      have a2 : H2 l2 = some (.lst [.int 3]) := B2 _ _ (same_new hl3 _ _ a1) n2
      have oddS : ∀ H', Bad K H' y (some 1) (some 8) := by
        intro H'
        match j, hj with
        | 0, z => cases z; exact ⟨true, isI_int _, by decide⟩
        | 1, z => cases z; exact ⟨true, isI_int _, by decide⟩
        | 2, z => cases z; exact ⟨true, isI_int _, by decide⟩
        | 3, z => cases z; exact ⟨false, isI_non, rfl⟩
        | 4, z => cases z; exact ⟨false, isI_bl _, rfl⟩
        | 5, z => cases z; exact ⟨false, isI_str _, rfl⟩
        | 6, z => cases z; exact ⟨true, isI_int _, by decide +kernel⟩
        | j + 7, z => cases z
      clear hj
      refine ⟨(by show 2 ≤ sizeLine; decide), fun t1 ht1 => ⟨t1, _, rfl, SqT.of upd_same, rfl, _, _, rfl, _, _, rfl, rfl, ?_⟩⟩
      have St1 : Same H2 (upd H2 t1 (.tup [x, y])) := same_new ht1
      -- far
      refine ⟨_, rfl, _, rfl, (by show 1 ≤ sizeLine; decide), fun l5 hl5 => ⟨(by show 6 ≤ sizeLine; decide), fun l6 hl6 => ?_⟩⟩
      obtain ⟨up2, hup2⟩ := O2.pn
      have S5 := St1.trans (same_new (o := .lst [.int 1]) hl5)
      have n5 : l5 ≠ p := (ne_of_none (St1 _ _ hup2) hl5).symm
      have n6 : l6 ≠ p := (ne_of_none (S5 _ _ hup2) hl6).symm
      have S6 := S5.trans (same_new (o := .lst [.int 256, .int (-1), .non, .bl true, .str "0", .ref l5]) hl6)
      have O2' := O2.same S6
      refine ⟨p, b, l6, n + 1 + 1, _, rfl, O2', by omega, upd_same, n6, by show 0 < 6; decide, by show 6 ≤ 1000; decide, fun j z H3 hj O3 B3 => ?_⟩
      obtain ⟨ns2, ts2, ls2, hp2, _⟩ := id O2'
      have T3 : Tabs [(Pt, LQ)] H3 := tabs_but (T2.ext S6) B3 hp2
      have a3 : H3 l2 = some (.lst [.int 3]) := B3 _ _ (S6 _ _ a2) n2
      have b3 : H3 l5 = some (.lst [.int 1]) := B3 _ _ (by rw [upd_ne (ne_of_none upd_same hl6), upd_same]) n5
      have oddF : ∀ H', H' l5 = some (.lst [.int 1]) → Bad K H' z (some 0) (some 255) := by
        intro H' e
        match j, hj with
        | 0, z => cases z; exact ⟨true, isI_int _, by decide⟩
        | 1, z => cases z; exact ⟨true, isI_int _, by decide⟩
        | 2, z => cases z; exact ⟨false, isI_non, rfl⟩
        | 3, z => cases z; exact ⟨false, isI_bl _, rfl⟩
        | 4, z => cases z; exact ⟨false, isI_str _, rfl⟩
        | 5, z => cases z; exact ⟨false, isI_lst e, rfl⟩
        | j + 6, z => cases z
      clear hj
      -- wide
      refine ⟨_, rfl, k, rfl, rfl, by omega, _, _, rfl, rfl, B, rfl, by rw [← eb], by omega, ?_⟩
      refine ⟨_, rfl, _, rfl, 300, rfl, rfl, by decide, (by show 3 ≤ sizeLine; decide), fun l7 hl7 => ?_⟩
      obtain ⟨up3, hup3⟩ := O3.pn
      have n7 : l7 ≠ p := (ne_of_none hup3 hl7).symm
      have O3' := O3.same (same_new (o := .lst [.int 0, .int (m : Int), .int ((2 ^ 300 : Nat) : Int)]) hl7)
      refine ⟨p, b, l7, n + 1 + 1 + 1, _, rfl, O3', by omega, upd_same, n7, by show 0 < 3; decide, by show 3 ≤ 1000; decide, fun j u H4 hj O4 B4 => ?_⟩
      obtain ⟨ns3, ts3, ls3, hp3, _⟩ := id O3'
      have T4 : Tabs [(Pt, LQ)] H4 := tabs_but (T3.ext (same_new hl7)) B4 hp3
      have a4 : H4 l2 = some (.lst [.int 3]) := B4 _ _ (same_new hl7 _ _ a3) n2
      have b4 : H4 l5 = some (.lst [.int 1]) := B4 _ _ (same_new hl7 _ _ b3) n5
      have hu : ∃ d : Nat, u = V.int (d : Int) := by
        match j, hj with
        | 0, z => cases z; exact ⟨0, rfl⟩
        | 1, z => cases z; exact ⟨m, rfl⟩
        | 2, z => cases z; exact ⟨2 ^ 300, rfl⟩
        | j + 3, z => cases z
      obtain ⟨d, rfl⟩ := hu
      clear hj
      refine ⟨_, _, rfl, rfl, (by show 2 ≤ sizeLine; decide), fun t2 ht2 => ⟨t2, _, rfl, SqT.of upd_same, rfl, _, _, rfl, _, _, rfl, rfl, ?_⟩⟩
      have eW : V.int (((2 ^ B : Nat) : Int) + (d : Int)) = V.int ((2 ^ B + d : Nat) : Int) := by rw [Int.natCast_add]
      have hW : 2 ^ (2 ^ k - 1) ≤ 2 ^ B + d := by
        rw [← hB]
        exact Nat.le_add_right _ _
      have Sb : Same H4 (upd H4 t2 (.tup [z, V.int (((2 ^ B : Nat) : Int) + (d : Int))])) := same_new ht2
      generalize upd H4 t2 (.tup [z, V.int (((2 ^ B : Nat) : Int) + (d : Int))]) = Hb at Sb
      have Tb := T4.ext Sb
      have ab := Sb _ _ a4
      have bb := Sb _ _ b4
      have Ob := O4.same Sb
      have tww : told "BadWord" "word" = "BadWord word" := by decide +kernel
      have tns : told "BadNumber" "size" = "BadNumber size" := by decide +kernel
      have tnv : told "BadNumber" "value" = "BadNumber value" := by decide +kernel
      have tmw : told "Misfit" "word" = "Misfit word" := by decide +kernel
      have tmv : told "Misfit" "value" = "Misfit value" := by decide +kernel
      have al : ∀ {H'}, ExtN Hb H' → H' l2 = some (.lst [.int 3]) := fun e => e _ _ ab fun _ z => nomatch z
      have bl : ∀ {H'}, ExtN Hb H' → H' l5 = some (.lst [.int 1]) := fun e => e _ _ bb fun _ z => nomatch z
      -- the first two
      refine ⟨Tb, fun H5 e5 T5 => ⟨rfl, _, rfl, _, rfl, _, _, rfl, .inl ⟨oddN H5 (al e5), fun d1 hd1 => ⟨d1, "word", rfl, upd_same, by decide +kernel, .inl ⟨rfl, fun H6 S6 => ?_⟩⟩⟩⟩⟩
      rw [tww]
      have S56 := (same_new (o := .xd [(("part" : Str), .str "word")]) hd1).trans S6
      have E6 := e5.trans (ExtN.of S56)
      refine ⟨T5.ext S56, fun H7 e7 T7 => ⟨rfl, _, rfl, _, rfl, _, rfl, _, _, _, rfl, .inl ⟨oddN H7 (al (E6.trans e7)), fun d2 hd2 => ⟨d2, "word", rfl, upd_same, by decide +kernel, .inl ⟨rfl, fun H8 S8 => ?_⟩⟩⟩⟩⟩
      rw [tww]
      have S78 := (same_new (o := .xd [(("part" : Str), .str "word")]) hd2).trans S8
      have E8 := (E6.trans e7).trans (ExtN.of S78)
      refine ⟨(by show 2 ≤ sizeLine; decide), fun h1 hh1 => ?_⟩
      have S9 := same_new (o := .lst [.str "BadWord word", .str "BadWord word"]) hh1
      have E9 := E8.trans (ExtN.of S9)
      have f9 : (upd H8 h1 (.lst [.str "BadWord word", .str "BadWord word"])) h1 = some (.lst [.str "BadWord word", .str "BadWord word"]) := upd_same
      have T9 := (T7.ext S78).ext S9
      generalize upd H8 h1 (.lst [.str "BadWord word", .str "BadWord word"]) = H9 at S9 E9 f9 T9
      -- the third and the fourth
      refine ⟨_, rfl, T9, fun H10 e10 T10 => ⟨rfl, _, rfl, _, rfl, _, _, rfl, .inr ⟨m, rfl, .inl ⟨oddS H10, fun d3 hd3 => ⟨d3, "size", rfl, upd_same, by decide +kernel, .inr (.inl ⟨rfl, fun H11 S11 => ?_⟩)⟩⟩⟩⟩⟩
      rw [tns]
      have S1011 := (same_new (o := .xd [(("part" : Str), .str "size")]) hd3).trans S11
      have E11 := (E9.trans e10).trans (ExtN.of S1011)
      have f11 := S1011 _ _ (e10 _ _ f9 fun _ z => nomatch z)
      refine ⟨T10.ext S1011, fun H12 e12 T12 => ⟨rfl, _, rfl, _, rfl, _, rfl, _, _, _, rfl, .inr ⟨2 ^ B + d, eW, .inl ⟨oddS H12, fun d4 hd4 => ⟨d4, "size", rfl, upd_same, by decide +kernel, .inr (.inl ⟨rfl, fun H13 S13 => ?_⟩)⟩⟩⟩⟩⟩
      rw [tns]
      have S1213 := (same_new (o := .xd [(("part" : Str), .str "size")]) hd4).trans S13
      have E13 := (E11.trans e12).trans (ExtN.of S1213)
      have f13 := S1213 _ _ (e12 _ _ f11 fun _ z => nomatch z)
      refine ⟨(by show 2 ≤ sizeLine; decide), fun h2 hh2 => ⟨h1, h2, [.str "BadWord word", .str "BadWord word"], _, rfl, rfl, ?_, upd_same, (by show 4 ≤ sizeLine; decide), fun h3 hh3 => ?_⟩⟩
      · rw [upd_ne (ne_of_none f13 hh2)]
        exact f13
      have S14 := (same_new (o := .lst [.str "BadNumber size", .str "BadNumber size"]) hh2).trans (same_new (o := .lst ([.str "BadWord word", .str "BadWord word"] ++ [.str "BadNumber size", .str "BadNumber size"])) hh3)
      have E14 := E13.trans (ExtN.of S14)
      have f14 : (upd (upd H13 h2 (.lst [.str "BadNumber size", .str "BadNumber size"])) h3 (.lst ([.str "BadWord word", .str "BadWord word"] ++ [.str "BadNumber size", .str "BadNumber size"]))) h3 = some (.lst [.str "BadWord word", .str "BadWord word", .str "BadNumber size", .str "BadNumber size"]) := upd_same
      have T14 := (T12.ext S1213).ext S14
      generalize upd (upd H13 h2 (.lst [.str "BadNumber size", .str "BadNumber size"])) h3 (.lst ([.str "BadWord word", .str "BadWord word"] ++ [.str "BadNumber size", .str "BadNumber size"])) = H14 at S14 E14 f14 T14
      -- the fifth and the sixth
      refine ⟨_, rfl, T14, fun H15 e15 T15 => ⟨rfl, _, rfl, _, rfl, _, rfl, _, _, _, rfl, .inr ⟨2 ^ B + d, eW, .inr ⟨k, rfl, k1, k8, .inl ⟨oddF H15 (bl (E14.trans e15)), fun d5 hd5 => ⟨d5, "value", rfl, upd_same, by decide +kernel, .inr (.inl ⟨rfl, fun H16 S16 => ?_⟩)⟩⟩⟩⟩⟩⟩
      rw [tnv]
      have S1516 := (same_new (o := .xd [(("part" : Str), .str "value")]) hd5).trans S16
      have E16 := (E14.trans e15).trans (ExtN.of S1516)
      have f16 := S1516 _ _ (e15 _ _ f14 fun _ z => nomatch z)
      refine ⟨T15.ext S1516, fun H17 e17 T17 => ⟨rfl, _, rfl, _, rfl, _, _, rfl, .inr ⟨2 ^ B + d, eW, .inr ⟨k, rfl, k1, k8, .inl ⟨hW, fun d6 hd6 => ⟨d6, "word", rfl, upd_same, by decide +kernel, .inr (.inr ⟨rfl, fun H18 S18 => ?_⟩)⟩⟩⟩⟩⟩⟩
      rw [tmw]
      have S1718 := (same_new (o := .xd [(("part" : Str), .str "word")]) hd6).trans S18
      have E18 := (E16.trans e17).trans (ExtN.of S1718)
      have f18 := S1718 _ _ (e17 _ _ f16 fun _ z => nomatch z)
      refine ⟨(by show 2 ≤ sizeLine; decide), fun h4 hh4 => ⟨h3, h4, [.str "BadWord word", .str "BadWord word", .str "BadNumber size", .str "BadNumber size"], _, rfl, rfl, ?_, upd_same, (by show 6 ≤ sizeLine; decide), fun h5 hh5 => ?_⟩⟩
      · rw [upd_ne (ne_of_none f18 hh4)]
        exact f18
      have S19 := (same_new (o := .lst [.str "BadNumber value", .str "Misfit word"]) hh4).trans (same_new (o := .lst ([.str "BadWord word", .str "BadWord word", .str "BadNumber size", .str "BadNumber size"] ++ [.str "BadNumber value", .str "Misfit word"])) hh5)
      have E19 := E18.trans (ExtN.of S19)
      have f19 : (upd (upd H18 h4 (.lst [.str "BadNumber value", .str "Misfit word"])) h5 (.lst ([.str "BadWord word", .str "BadWord word", .str "BadNumber size", .str "BadNumber size"] ++ [.str "BadNumber value", .str "Misfit word"]))) h5 = some (.lst [.str "BadWord word", .str "BadWord word", .str "BadNumber size", .str "BadNumber size", .str "BadNumber value", .str "Misfit word"]) := upd_same
      have T19 := (T17.ext S1718).ext S19
      generalize upd (upd H18 h4 (.lst [.str "BadNumber value", .str "Misfit word"])) h5 (.lst ([.str "BadWord word", .str "BadWord word", .str "BadNumber size", .str "BadNumber size"] ++ [.str "BadNumber value", .str "Misfit word"])) = H19 at S19 E19 f19 T19
      -- what is due
      refine ⟨_, rfl, (by show 1 ≤ sizeLine; decide), fun q1 hq1 => ⟨q1, 2, [.str "BadWord word"], rfl, rfl, upd_same, by decide, by decide, (by show 2 ≤ sizeLine; decide), fun q2 hq2 => ?_⟩⟩
      refine ⟨(by show 1 ≤ sizeLine; decide), fun q3 hq3 => ⟨q3, 2, [.str "BadNumber size"], rfl, rfl, upd_same, by decide, by decide, (by show 2 ≤ sizeLine; decide), fun q4 hq4 => ?_⟩⟩
      refine ⟨q2, q4, [.str "BadWord word", .str "BadWord word"], [.str "BadNumber size", .str "BadNumber size"], rfl, rfl, ?_, upd_same, (by show 4 ≤ sizeLine; decide), fun q5 hq5 => ?_⟩
      · exact same_new hq4 _ _ (same_new hq3 _ _ upd_same)
      refine ⟨(by show 2 ≤ sizeLine; decide), fun q6 hq6 => ⟨q5, q6, [.str "BadWord word", .str "BadWord word", .str "BadNumber size", .str "BadNumber size"], [.str "BadNumber value", .str "Misfit word"], rfl, rfl, ?_, upd_same, (by show 6 ≤ sizeLine; decide), fun q7 hq7 => ?_⟩⟩
      · exact same_new hq6 _ _ upd_same
      have S20 : Same H19 (upd (upd (upd (upd (upd (upd (upd H19 q1 (.lst [.str "BadWord word"])) q2 (.lst [.str "BadWord word", .str "BadWord word"])) q3 (.lst [.str "BadNumber size"])) q4 (.lst [.str "BadNumber size", .str "BadNumber size"])) q5 (.lst [.str "BadWord word", .str "BadWord word", .str "BadNumber size", .str "BadNumber size"])) q6 (.lst [.str "BadNumber value", .str "Misfit word"])) q7 (.lst [.str "BadWord word", .str "BadWord word", .str "BadNumber size", .str "BadNumber size", .str "BadNumber value", .str "Misfit word"])) :=
        (same_new hq1).trans ((same_new hq2).trans ((same_new hq3).trans ((same_new hq4).trans ((same_new hq5).trans ((same_new hq6).trans (same_new hq7))))))
      have f20 := S20 _ _ f19
      have g20 : (upd (upd (upd (upd (upd (upd (upd H19 q1 (.lst [.str "BadWord word"])) q2 (.lst [.str "BadWord word", .str "BadWord word"])) q3 (.lst [.str "BadNumber size"])) q4 (.lst [.str "BadNumber size", .str "BadNumber size"])) q5 (.lst [.str "BadWord word", .str "BadWord word", .str "BadNumber size", .str "BadNumber size"])) q6 (.lst [.str "BadNumber value", .str "Misfit word"])) q7 (.lst [.str "BadWord word", .str "BadWord word", .str "BadNumber size", .str "BadNumber size", .str "BadNumber value", .str "Misfit word"])) q7 = some (.lst [.str "BadWord word", .str "BadWord word", .str "BadNumber size", .str "BadNumber size", .str "BadNumber value", .str "Misfit word"]) := upd_same
      refine ⟨.list ([("BadWord word" : Str), "BadWord word", "BadNumber size", "BadNumber size", "BadNumber value", "Misfit word"].map PyData.str), .list ([("BadWord word" : Str), "BadWord word", "BadNumber size", "BadNumber size", "BadNumber value", "Misfit word"].map PyData.str), Dp.lst (SqL.of f20) (dp_strs [("BadWord word" : Str), "BadWord word", "BadNumber size", "BadNumber size", "BadNumber value", "Misfit word"]), Dp.lst (SqL.of g20) (dp_strs [("BadWord word" : Str), "BadWord word", "BadNumber size", "BadNumber size", "BadNumber value", "Misfit word"]), (by decide +kernel), (by decide +kernel), _, rfl, ?_⟩
      rw [list_ne (by decide +kernel)]
      have E20 := E19.trans (ExtN.of S20)
      have T20 := T19.ext S20
      have O20 := orch_ext Ob E20
      -- great
      refine ⟨fun σ' H' => ∃ gv : Nat, gv ≤ 255 ∧ ((k < 8 ∧ 2 ^ k ≤ gv) ∨ (k = 8 ∧ gv < 2 ^ k)) ∧ Orch H' p b (n + 8) ∧ Tabs [(Pt, LQ)] H' ∧ σ' = [some (.ref p), some (.int (m : Int)), some (.int (k : Int)), some x, some y, some z, some (V.int (((2 ^ B : Nat) : Int) + (d : Int))), some (.ref h5), some (.int (gv : Int))], ?_, ?_⟩
      · refine ⟨_, rfl, _, _, rfl, rfl, _, rfl, ?_⟩
        refine iteB (fun c => ?_) (fun c => ?_)
        · have c := of_decide_eq_true c
          have k7 : k ≤ 7 := by omega
          have p7 : 2 ^ k ≤ 128 := Nat.le_trans (Nat.pow_le_pow_right (by decide) k7) (by decide)
          have mb : ((256 : Int) - ((2 ^ k : Nat) : Int)).natAbs < 2 ^ 9000 := Nat.lt_of_le_of_lt (show ((256 : Int) - ((2 ^ k : Nat) : Int)).natAbs ≤ 256 by omega) (Nat.lt_of_lt_of_le (show 256 < 2 ^ 9 by decide) (Nat.pow_le_pow_right (by decide) (by decide)))
          refine ⟨_, rfl, k, rfl, rfl, by omega, _, rfl, _, rfl, k, rfl, rfl, by omega, _, _, rfl, rfl, p, b, _, _, rfl, O20, by omega, by omega, mb, fun r H' r0 r1 O' B' => ?_⟩
          obtain ⟨r, rfl⟩ := Int.eq_ofNat_of_zero_le r0
          obtain ⟨nsq, tsq, lsq, hpq, _⟩ := id O20
          have r1' : (r : Int) < (256 : Int) - ((2 ^ k : Nat) : Int) := r1
          refine ⟨_, _, rfl, rfl, 2 ^ k + r, by omega, .inl ⟨by omega, Nat.le_add_right _ _⟩, O'.mono (by omega), tabs_but T20 B' hpq, ?_⟩
          rw [Int.natCast_add]
          rfl
        · have c := of_decide_eq_false c
          have k8' : k = 8 := by omega
          exact ⟨255, Nat.le_refl _, .inr ⟨k8', by rw [k8']; decide⟩, O20.mono (by omega), T20, rfl⟩
      · rintro σ' HG ⟨gv, g255, hg, OG, TG, rfl⟩
        refine ⟨TG, fun H21 e21 T21 => ⟨rfl, _, rfl, _, rfl, _, rfl, _, _, _, rfl, .inr ⟨2 ^ B + d, eW, .inr ⟨k, rfl, k1, k8, .inr ⟨gv, rfl, g255, .inl ⟨hW, fun d7 hd7 => ⟨d7, "word", rfl, upd_same, by decide +kernel, .inr (.inr ⟨rfl, fun H22 S22 => ?_⟩)⟩⟩⟩⟩⟩⟩⟩
        rw [tmw]
        have S2122 := (same_new (o := .xd [(("part" : Str), .str "word")]) hd7).trans S22
        have E22 := e21.trans (ExtN.of S2122)
        refine ⟨T21.ext S2122, fun H23 e23 T23 => ⟨rfl, _, rfl, _, rfl, _, rfl, _, _, _, rfl, .inr ⟨m, rfl, .inr ⟨k, rfl, k1, k8, .inr ⟨gv, rfl, g255, .inr ⟨hm, ?_⟩⟩⟩⟩⟩⟩
        have E23 := E22.trans e23
        rcases hg with ⟨kl, hgl⟩ | ⟨ke, hgl⟩
        · refine .inl ⟨hgl, fun d8 hd8 => ⟨d8, "value", rfl, upd_same, by decide +kernel, .inr (.inr ⟨rfl, fun H24 S24 => ?_⟩)⟩⟩
          rw [tmv]
          have S2324 := (same_new (o := .xd [(("part" : Str), .str "value")]) hd8).trans S24
          refine ⟨(by show 2 ≤ sizeLine; decide), fun h6 hh6 => ?_⟩
          have Sh := same_new (o := .lst [.str "Misfit word", .str "Misfit value"]) hh6
          refine ⟨_, rfl, _, rfl, _, _, rfl, rfl, _, rfl, ?_⟩
          rw [decide_eq_true (show (k : Int) < 8 by omega)]
          refine ⟨(by show 2 ≤ sizeLine; decide), fun h7 hh7 => ?_⟩
          have Sq := same_new (o := .lst [.str "Misfit word", .str "Misfit value"]) hh7
          refine ⟨.list ([("Misfit word" : Str), "Misfit value"].map PyData.str), .list ([("Misfit word" : Str), "Misfit value"].map PyData.str), Dp.lst (SqL.of (Sq _ _ upd_same)) (dp_strs [("Misfit word" : Str), "Misfit value"]), Dp.lst (SqL.of upd_same) (dp_strs [("Misfit word" : Str), "Misfit value"]), (by decide +kernel), (by decide +kernel), ?_⟩
          rw [SeqAt.eqv_refl _ (by decide +kernel)]
          have SZ := S2324.trans (Sh.trans Sq)
          exact q _ (orch_ext OG (E23.trans (ExtN.of SZ))) (T23.ext SZ)
        · refine .inr ⟨hgl, fun H24 S24 => ?_⟩
          refine ⟨(by show 2 ≤ sizeLine; decide), fun h6 hh6 => ?_⟩
          have Sh := same_new (o := .lst [.str "Misfit word", .non]) hh6
          refine ⟨_, rfl, _, rfl, _, _, rfl, rfl, _, rfl, ?_⟩
          rw [decide_eq_false (show ¬ (k : Int) < 8 by omega)]
          refine ⟨(by show 2 ≤ sizeLine; decide), fun h7 hh7 => ?_⟩
          have Sq := same_new (o := .lst [.str "Misfit word", .non]) hh7
          refine ⟨.list [.str "Misfit word", .none], .list [.str "Misfit word", .none], Dp.lst (SqL.of (Sq _ _ upd_same)) (.cons (.str _) (.cons .non .nil)), Dp.lst (SqL.of upd_same) (.cons (.str _) (.cons .non .nil)), (by decide +kernel), (by decide +kernel), ?_⟩
          rw [SeqAt.eqv_refl _ (by decide +kernel)]
          have SZ := S24.trans (Sh.trans Sq)
          exact q _ (orch_ext OG (E23.trans (ExtN.of SZ))) (T23.ext SZ)
    obtain ⟨t, h1, h2⟩ := t0
    exact ⟨t, h1.nox, h2⟩
end
end K23
namespace K23
open PySem PySem.Spec PyProof.Rows L2 OB SkE LamX
def spLaw (K : PySem.W.Frag) (Pt : Addr) : Sp := fun vs H Q _ => ∃ (a : Addr) (ns : List Int), vs = [.ref a] ∧ SqL K H a (ns.map V.int) ∧ ns.length ≤ 63 ∧ H Pt = some (.tbl #[]) ∧ ∀ H', Q (.bl true) H'
theorem tabs_orch {T : List (Addr × Str)} {H H' : Hp} {p b : Addr} {n : Nat} (t : Tabs T H) (B : But p H H') (o : Orch H p b n) : Tabs T H' := by
  obtain ⟨ns, x, y, hp, _⟩ := o
  exact tabs_but t B hp
section
variable {P : Program} {w : World} {K : PySem.W.Frag} {mg : Str → Option Value} {base : Heap}
abbrev N_law : List Str := ["script", "loft", "turn", "size", "word", "told"]
theorem sc_law : FnScope ["script", "loft", "turn", "size", "word", "told"] ["script"] (defScope s_law) := ⟨rfl, rfl, rfl, by decide +kernel, rfl, by decide +kernel, by decide +kernel⟩
theorem ok_law {f f1 f2 f3 f4 f5 f6 f7 CW CN CM Pt : Addr} {fd1 fd2 fd3 fd4 fd5 fd6 fd7 : FuncData} {oc kV doc pm ct cd : Value} {od an : Option Addr} {osl : Array (Option Value)} (T : Blt mg)
    (lk : K.lookup f = some ⟨oc, od, .func (PySem.W.fnOf "law" "law" (defArgs s_law) (defBody s_law) (defScope s_law) .none kV doc pm an cd ct), osl⟩) (hcd : PySem.W.codeIn K cd "law" = true)
    (D__law_loft : Df K mg "_law_loft" s__law_loft ["script"] f1 fd1) (G__law_loft : FnOk P w K mg base CX0 1 f1 fd1 ["script"] (spLot K))
    (D__law_one : Df K mg "_law_one" s__law_one ["loft", "some"] f2 fd2) (G__law_one : FnOk P w K mg base CX0 2 f2 fd2 ["loft", "some"] spOne)
    (D__law_word : Df K mg "_law_word" s__law_word ["loft", "size"] f3 fd3) (G__law_word : FnOk P w K mg base CX0 3 f3 fd3 ["loft", "size"] spWord)
    (D__law_value : Df K mg "_law_value" s__law_value ["word", "size"] f4 fd4) (G__law_value : FnOk P w K mg base CX0 1 f4 fd4 ["word", "size"] spLValue)
    (D__law_flips_right : Df K mg "_law_flips_right" s__law_flips_right ["loft", "word", "size"] f5 fd5) (G__law_flips_right : FnOk P w K mg base CX0 8 f5 fd5 ["loft", "word", "size"] spFlipsRight)
    (D__law_refused_right : Df K mg "_law_refused_right" s__law_refused_right ["loft", "word", "size"] f6 fd6) (G__law_refused_right : FnOk P w K mg base CX0 12 f6 fd6 ["loft", "word", "size"] (spRefused Pt))
    (D_value_by_flips : Df K mg "value_by_flips" s_value_by_flips ["word", "size"] f7 fd7) (GX_value_by_flips : FnOk P w K mg base (L2.CX P w) 7 f7 fd7 ["word", "size"] (spVal K CW CN CM)) :
    FnOk P w K mg base CX0 14 f (PySem.W.fnOf "law" "law" (defArgs s_law) (defBody s_law) (defScope s_law) .none kV doc pm an cd ct) ["script"] (spLaw K Pt) := by
  have G_value_by_flips := calm_of GX_value_by_flips
  refine fn_of lk hcd sc_law (fun vs H Q E h => ?_) fun A outer s H vs Q E hr h => ?_
  · obtain ⟨a, ns, rfl, _⟩ := h
    rfl
  · obtain ⟨a, ns, rfl, hS, hl, hP, k⟩ := h
    have t0 : ∃ t, PSs (cxOf CX0 P w K mg base ["script", "loft", "turn", "size", "word", "told"] "law" (defScope s_law) f cd A outer s H E).nox (defBody s_law) t ∧ t { nx := fun _ H' => Q .non H', rt := Q } (L2.start ["script", "loft", "turn", "size", "word", "told"] [.ref a]) H := by
      refine ⟨_, (pss_cons (ps_set (i := 1) sc_law.nd rfl (Or.inl rfl) (pe_call G__law_loft (hr.mono (by decide)) (by rfl) D__law_loft.g D__law_loft.F.kp D__law_loft.b .nil pass0 (pa_cons (pv 0) pa_nil)))
  (pss_cons (ps_for PassesOwn.never rfl (pi_range1 (by rfl) T.n_range (pa_cons pe_int pa_nil)) (pg_name (i := 2) sc_law.nd rfl (Or.inl rfl)) (pss_cons (ps_set (i := 3) sc_law.nd rfl (Or.inl rfl) (pe_call G__law_one (hr.mono (by decide)) (by rfl) D__law_one.g D__law_one.F.kp D__law_one.b .nil pass0 (pa_cons (pv 1) (pa_cons (pe_lst (pa_cons pe_int (pa_cons pe_int (pa_cons pe_int (pa_cons pe_int (pa_cons pe_int (pa_cons pe_int (pa_cons pe_int (pa_cons pe_int pa_nil))))))))) pa_nil))))
  (pss_cons (ps_set (i := 4) sc_law.nd rfl (Or.inl rfl) (pe_call G__law_word (hr.mono (by decide)) (by rfl) D__law_word.g D__law_word.F.kp D__law_word.b .nil pass0 (pa_cons (pv 1) (pa_cons (pv 3) pa_nil))))
  (pss_cons (ps_set (i := 5) sc_law.nd rfl (Or.inl rfl) (pe_call G_value_by_flips (hr.mono (by decide)) (by rfl) D_value_by_flips.g D_value_by_flips.F.kp D_value_by_flips.b .nil pass0 (pa_cons (pv 4) (pa_cons (pv 3) pa_nil))))
  (pss_cons (ps_if (PW.pt (pw_or (pt_val (pe_callB call_isi (by rfl) T.n_isinstance (by decide +kernel) (pa_cons (pv 5) (pa_cons (pe_bltn (v := .ty "bool") (by rfl) T.n_bool (by decide +kernel) rfl) pa_nil)))) (pw_or (pt_cmpR op_ne (pv 5) (pe_call G__law_value (hr.mono (by decide)) (by rfl) D__law_value.g D__law_value.F.kp D__law_value.b .nil pass0 (pa_cons (pv 4) (pa_cons (pv 3) pa_nil))) (nomark _)) (pw_or1 (pt_not (pt_val (pe_call G__law_flips_right (hr.mono (by decide)) (by rfl) D__law_flips_right.g D__law_flips_right.F.kp D__law_flips_right.b .nil pass0 (pa_cons (pv 1) (pa_cons (pv 4) (pa_cons (pv 3) pa_nil)))))))))) (pss_one (ps_ret pe_bl)) pss_nil)
  (pss_one (ps_if (pt_not (pt_val (pe_call G__law_refused_right (hr.mono (by decide)) (by rfl) D__law_refused_right.g D__law_refused_right.F.kp D__law_refused_right.b .nil pass0 (pa_cons (pv 1) (pa_cons (pv 4) (pa_cons (pv 3) pa_nil)))))) (pss_one (ps_ret pe_bl)) pss_nil)))))))
  (pss_one (ps_ret pe_bl)))), ?_⟩
      refine ⟨_, rfl, a, ns, rfl, hS, hl, fun p b H1 hp hb O S1 => ?_⟩
      have T1 : Tabs [(Pt, LQ)] H1 := fun q hq => by
        rw [List.mem_singleton.mp hq]
        exact .nil (S1 _ _ hP)
      refine ⟨3, rfl, by decide, by decide, ?_⟩
      refine for_range (n := 3) (fun i σ H' => Orch H' p b (60 * i) ∧ Tabs [(Pt, LQ)] H' ∧ ∃ u v x y : Option V, σ = [some (.ref a), some (.ref p), u, v, x, y]) ⟨O, T1, none, none, none, none, rfl⟩ ?_ ?_
      · rintro i σ H2 hi ⟨O2, T2, u, v, x, y, rfl⟩
        refine ⟨_, rfl, (by show 8 ≤ sizeLine; decide), fun l hl => ?_⟩
        have Sl := same_new (o := .lst [.int 8, .int 2, .int 3, .int 1, .int 5, .int 7, .int 4, .int 6]) hl
        have nlp : l ≠ p := by
          obtain ⟨u, hu⟩ := O2.pn
          exact (ne_of_none hu hl).symm
        have O2' := O2.same Sl
        refine ⟨p, b, l, _, _, rfl, O2', by omega, upd_same, nlp, by show 0 < 8; decide, by show 8 ≤ 1000; decide, fun j z H3 hj O3 B3 => ?_⟩
        have T3 := tabs_orch (T2.ext Sl) B3 O2'
        have hz : ∃ k : Nat, z = V.int (k : Int) ∧ 1 ≤ k ∧ k ≤ 8 := by
          match j, hj with
          | 0, e => cases e; exact ⟨8, rfl, by decide, by decide⟩
          | 1, e => cases e; exact ⟨2, rfl, by decide, by decide⟩
          | 2, e => cases e; exact ⟨3, rfl, by decide, by decide⟩
          | 3, e => cases e; exact ⟨1, rfl, by decide, by decide⟩
          | 4, e => cases e; exact ⟨5, rfl, by decide, by decide⟩
          | 5, e => cases e; exact ⟨7, rfl, by decide, by decide⟩
          | 6, e => cases e; exact ⟨4, rfl, by decide, by decide⟩
          | 7, e => cases e; exact ⟨6, rfl, by decide, by decide⟩
          | j + 8, e => cases e
        obtain ⟨kk, rfl, k1, k8⟩ := hz
        refine ⟨_, rfl, _, rfl, p, b, _, kk, rfl, O3, by omega, k1, k8, fun m H4 hm O4 B4 => ?_⟩
        have T4 := tabs_orch T3 B4 O3
        refine ⟨_, rfl, _, rfl, _, _, rfl, .inr ⟨m, rfl, .inr ⟨kk, rfl, k1, k8, .inr ⟨hm, fun H5 S5 => ?_⟩⟩⟩⟩
        refine ⟨_, rfl, _, .ty "bool", .type "int", .type "bool", false, rfl, .ty _, .base (.int _), kit_ty (by decide +kernel), false, rfl, ?_⟩
        refine ⟨_, rfl, _, rfl, _, rfl, m, kk, rfl, k1, k8, fun H6 S6 => ⟨rfl, _, rfl, ?_⟩⟩
        rw [same_text]
        have O6 := O4.same (S5.trans S6)
        have T6 := T4.ext (S5.trans S6)
        refine ⟨_, rfl, _, rfl, _, rfl, p, b, _, m, kk, rfl, O6, by omega, k1, k8, hm, fun H7 O7 B7 => ?_⟩
        have T7 := tabs_orch T6 B7 O6
        refine ⟨_, rfl, ?_⟩
        refine ⟨_, rfl, _, rfl, _, rfl, p, b, _, m, kk, rfl, O7, by omega, k1, k8, hm, T7, fun H8 O8 T8 => ?_⟩
        refine ⟨_, rfl, ?_⟩
        exact ⟨O8.mono (by omega), T8, some (.int (0 + (i : Int))), some (.int (kk : Int)), some (.int (m : Int)), _, rfl⟩
      · rintro σ H2 ⟨O2, T2, u, v, x, y, rfl⟩
        exact k _
    obtain ⟨t, h1, h2⟩ := t0
    exact ⟨t, h1.nox, h2⟩
end
end K23
namespace K23
open PySem PySem.Spec PyProof.Rows L2 OB SkE LamX
theorem sc_initW : FnScope ["self", "part"] ["self", "part"] (defScope s_initW) := ⟨rfl, rfl, rfl, by decide +kernel, rfl, by decide +kernel, by decide +kernel⟩
theorem sc_initM : FnScope ["self", "part"] ["self", "part"] (defScope s_initM) := ⟨rfl, rfl, rfl, by decide +kernel, rfl, by decide +kernel, by decide +kernel⟩
theorem sc_initN : FnScope ["self", "part"] ["self", "part"] (defScope s_initN) := ⟨rfl, rfl, rfl, by decide +kernel, rfl, by decide +kernel, by decide +kernel⟩
theorem all_mk {l : PySem.W.OpenLaw} {w : World} {K : PySem.W.Frag} {h : Heap} {mg : Str → Option Value} {fa f_is_integer f_is_within f_need_number f_need_word f_differing f__bits_of f_value_by_flips f_flip_to f__bits_for f__value_of f__need_room f__law_loft f__law_haul f__law_one f__law_heard f__law_word f__law_value f__law_flips_right f__law_refused_right f_law CF C_BadNumber fi_BadNumber N_BadNumber C_BadWord fi_BadWord N_BadWord C_Misfit fi_Misfit N_Misfit c Pt : Addr} {cd_is_integer oc_is_integer kV_is_integer dc_is_integer pm_is_integer ct_is_integer cd_is_within oc_is_within kV_is_within dc_is_within pm_is_within ct_is_within cd_need_number oc_need_number kV_need_number dc_need_number pm_need_number ct_need_number cd_need_word oc_need_word kV_need_word dc_need_word pm_need_word ct_need_word cd_differing oc_differing kV_differing dc_differing pm_differing ct_differing cd__bits_of oc__bits_of kV__bits_of dc__bits_of pm__bits_of ct__bits_of cd_value_by_flips oc_value_by_flips kV_value_by_flips dc_value_by_flips pm_value_by_flips ct_value_by_flips cd_flip_to oc_flip_to kV_flip_to dc_flip_to pm_flip_to ct_flip_to cd__bits_for oc__bits_for kV__bits_for dc__bits_for pm__bits_for ct__bits_for cd__value_of oc__value_of kV__value_of dc__value_of pm__value_of ct__value_of cd__need_room oc__need_room kV__need_room dc__need_room pm__need_room ct__need_room cd__law_loft oc__law_loft kV__law_loft dc__law_loft pm__law_loft ct__law_loft cd__law_haul oc__law_haul kV__law_haul dc__law_haul pm__law_haul ct__law_haul cd__law_one oc__law_one kV__law_one dc__law_one pm__law_one ct__law_one cd__law_heard oc__law_heard kV__law_heard dc__law_heard pm__law_heard ct__law_heard cd__law_word oc__law_word kV__law_word dc__law_word pm__law_word ct__law_word cd__law_value oc__law_value kV__law_value dc__law_value pm__law_value ct__law_value cd__law_flips_right oc__law_flips_right kV__law_flips_right dc__law_flips_right pm__law_flips_right ct__law_flips_right oc__law_refused_right kV__law_refused_right dc__law_refused_right pm__law_refused_right ct__law_refused_right cd_law oc_law kV_law dc_law pm_law ct_law oi_BadNumber kVi_BadNumber dci_BadNumber pmi_BadNumber cti_BadNumber cdi_BadNumber oi_BadWord kVi_BadWord dci_BadWord pmi_BadWord cti_BadWord cdi_BadWord oi_Misfit kVi_Misfit dci_Misfit pmi_Misfit cti_Misfit cdi_Misfit : Value} {od_is_integer an_is_integer od_is_within an_is_within od_need_number an_need_number od_need_word an_need_word od_differing an_differing od__bits_of an__bits_of od_value_by_flips an_value_by_flips od_flip_to an_flip_to od__bits_for an__bits_for od__value_of an__value_of od__need_room an__need_room od__law_loft an__law_loft od__law_haul an__law_haul od__law_one an__law_one od__law_heard an__law_heard od__law_word an__law_word od__law_value an__law_value od__law_flips_right an__law_flips_right od__law_refused_right an__law_refused_right od_law an_law odi_BadNumber ani_BadNumber dd_BadNumber odi_BadWord ani_BadWord dd_BadWord odi_Misfit ani_Misfit dd_Misfit odC : Option Addr} {sl_is_integer sl_is_within sl_need_number sl_need_word sl_differing sl__bits_of sl_value_by_flips sl_flip_to sl__bits_for sl__value_of sl__need_room sl__law_loft sl__law_haul sl__law_one sl__law_heard sl__law_word sl__law_value sl__law_flips_right sl__law_refused_right sl_law sli_BadNumber sli_BadWord sli_Misfit slC : Array (Option Value)} {vsC : Array Value} {t_MOST_SIZE t_MOST_VALUE : Tok} {nm_BadNumber q_BadNumber : Str} {bs_BadNumber sub_BadNumber : List Value} {sn_BadNumber : List Str} {ab_BadNumber : Bool} {col_BadNumber : Option Bool} {m0_BadNumber m1_BadNumber m2_BadNumber m3_BadNumber m5_BadNumber : Option Value} {nm_BadWord q_BadWord : Str} {bs_BadWord sub_BadWord : List Value} {sn_BadWord : List Str} {ab_BadWord : Bool} {col_BadWord : Option Bool} {m0_BadWord m1_BadWord m2_BadWord m3_BadWord m5_BadWord : Option Value} {nm_Misfit q_Misfit : Str} {bs_Misfit sub_Misfit : List Value} {sn_Misfit : List Str} {ab_Misfit : Bool} {col_Misfit : Option Bool} {m0_Misfit m1_Misfit m2_Misfit m3_Misfit m5_Misfit : Option Value}
    (X : K.In h) (G : h.Ns mainGlobals mg) (hfa : mg "law" = some (.ref fa))
    (a_is_integer : PySem.W.nsIn K mainGlobals "is_integer" = some (some (.ref f_is_integer)))
    (l_is_integer : K.lookup f_is_integer = some ⟨oc_is_integer, od_is_integer, .func (PySem.W.fnOf "is_integer" "is_integer" (defArgs s_is_integer) (defBody s_is_integer) (defScope s_is_integer) .none kV_is_integer dc_is_integer pm_is_integer an_is_integer cd_is_integer ct_is_integer), sl_is_integer⟩)
    (c_is_integer : PySem.W.codeIn K cd_is_integer "is_integer" = true)
    (k_is_integer : PySem.W.keepIn K (.ref f_is_integer) = true)
    (a_is_within : PySem.W.nsIn K mainGlobals "is_within" = some (some (.ref f_is_within)))
    (l_is_within : K.lookup f_is_within = some ⟨oc_is_within, od_is_within, .func (PySem.W.fnOf "is_within" "is_within" (defArgs s_is_within) (defBody s_is_within) (defScope s_is_within) .none kV_is_within dc_is_within pm_is_within an_is_within cd_is_within ct_is_within), sl_is_within⟩)
    (c_is_within : PySem.W.codeIn K cd_is_within "is_within" = true)
    (k_is_within : PySem.W.keepIn K (.ref f_is_within) = true)
    (a_need_number : PySem.W.nsIn K mainGlobals "need_number" = some (some (.ref f_need_number)))
    (l_need_number : K.lookup f_need_number = some ⟨oc_need_number, od_need_number, .func (PySem.W.fnOf "need_number" "need_number" (defArgs s_need_number) (defBody s_need_number) (defScope s_need_number) .none kV_need_number dc_need_number pm_need_number an_need_number cd_need_number ct_need_number), sl_need_number⟩)
    (c_need_number : PySem.W.codeIn K cd_need_number "need_number" = true)
    (k_need_number : PySem.W.keepIn K (.ref f_need_number) = true)
    (a_need_word : PySem.W.nsIn K mainGlobals "need_word" = some (some (.ref f_need_word)))
    (l_need_word : K.lookup f_need_word = some ⟨oc_need_word, od_need_word, .func (PySem.W.fnOf "need_word" "need_word" (defArgs s_need_word) (defBody s_need_word) (defScope s_need_word) .none kV_need_word dc_need_word pm_need_word an_need_word cd_need_word ct_need_word), sl_need_word⟩)
    (c_need_word : PySem.W.codeIn K cd_need_word "need_word" = true)
    (k_need_word : PySem.W.keepIn K (.ref f_need_word) = true)
    (a_differing : PySem.W.nsIn K mainGlobals "differing" = some (some (.ref f_differing)))
    (l_differing : K.lookup f_differing = some ⟨oc_differing, od_differing, .func (PySem.W.fnOf "differing" "differing" (defArgs s_differing) (defBody s_differing) (defScope s_differing) .none kV_differing dc_differing pm_differing an_differing cd_differing ct_differing), sl_differing⟩)
    (c_differing : PySem.W.codeIn K cd_differing "differing" = true)
    (k_differing : PySem.W.keepIn K (.ref f_differing) = true)
    (a__bits_of : PySem.W.nsIn K mainGlobals "_bits_of" = some (some (.ref f__bits_of)))
    (l__bits_of : K.lookup f__bits_of = some ⟨oc__bits_of, od__bits_of, .func (PySem.W.fnOf "_bits_of" "_bits_of" (defArgs s__bits_of) (defBody s__bits_of) (defScope s__bits_of) .none kV__bits_of dc__bits_of pm__bits_of an__bits_of cd__bits_of ct__bits_of), sl__bits_of⟩)
    (c__bits_of : PySem.W.codeIn K cd__bits_of "_bits_of" = true)
    (k__bits_of : PySem.W.keepIn K (.ref f__bits_of) = true)
    (a_value_by_flips : PySem.W.nsIn K mainGlobals "value_by_flips" = some (some (.ref f_value_by_flips)))
    (l_value_by_flips : K.lookup f_value_by_flips = some ⟨oc_value_by_flips, od_value_by_flips, .func (PySem.W.fnOf "value_by_flips" "value_by_flips" (defArgs s_value_by_flips) (defBody s_value_by_flips) (defScope s_value_by_flips) .none kV_value_by_flips dc_value_by_flips pm_value_by_flips an_value_by_flips cd_value_by_flips ct_value_by_flips), sl_value_by_flips⟩)
    (c_value_by_flips : PySem.W.codeIn K cd_value_by_flips "value_by_flips" = true)
    (k_value_by_flips : PySem.W.keepIn K (.ref f_value_by_flips) = true)
    (a_flip_to : PySem.W.nsIn K mainGlobals "flip_to" = some (some (.ref f_flip_to)))
    (l_flip_to : K.lookup f_flip_to = some ⟨oc_flip_to, od_flip_to, .func (PySem.W.fnOf "flip_to" "flip_to" (defArgs s_flip_to) (defBody s_flip_to) (defScope s_flip_to) .none kV_flip_to dc_flip_to pm_flip_to an_flip_to cd_flip_to ct_flip_to), sl_flip_to⟩)
    (c_flip_to : PySem.W.codeIn K cd_flip_to "flip_to" = true)
    (k_flip_to : PySem.W.keepIn K (.ref f_flip_to) = true)
    (a__bits_for : PySem.W.nsIn K mainGlobals "_bits_for" = some (some (.ref f__bits_for)))
    (l__bits_for : K.lookup f__bits_for = some ⟨oc__bits_for, od__bits_for, .func (PySem.W.fnOf "_bits_for" "_bits_for" (defArgs s__bits_for) (defBody s__bits_for) (defScope s__bits_for) .none kV__bits_for dc__bits_for pm__bits_for an__bits_for cd__bits_for ct__bits_for), sl__bits_for⟩)
    (c__bits_for : PySem.W.codeIn K cd__bits_for "_bits_for" = true)
    (k__bits_for : PySem.W.keepIn K (.ref f__bits_for) = true)
    (a__value_of : PySem.W.nsIn K mainGlobals "_value_of" = some (some (.ref f__value_of)))
    (l__value_of : K.lookup f__value_of = some ⟨oc__value_of, od__value_of, .func (PySem.W.fnOf "_value_of" "_value_of" (defArgs s__value_of) (defBody s__value_of) (defScope s__value_of) .none kV__value_of dc__value_of pm__value_of an__value_of cd__value_of ct__value_of), sl__value_of⟩)
    (c__value_of : PySem.W.codeIn K cd__value_of "_value_of" = true)
    (k__value_of : PySem.W.keepIn K (.ref f__value_of) = true)
    (a__need_room : PySem.W.nsIn K mainGlobals "_need_room" = some (some (.ref f__need_room)))
    (l__need_room : K.lookup f__need_room = some ⟨oc__need_room, od__need_room, .func (PySem.W.fnOf "_need_room" "_need_room" (defArgs s__need_room) (defBody s__need_room) (defScope s__need_room) .none kV__need_room dc__need_room pm__need_room an__need_room cd__need_room ct__need_room), sl__need_room⟩)
    (c__need_room : PySem.W.codeIn K cd__need_room "_need_room" = true)
    (k__need_room : PySem.W.keepIn K (.ref f__need_room) = true)
    (a__law_loft : PySem.W.nsIn K mainGlobals "_law_loft" = some (some (.ref f__law_loft)))
    (l__law_loft : K.lookup f__law_loft = some ⟨oc__law_loft, od__law_loft, .func (PySem.W.fnOf "_law_loft" "_law_loft" (defArgs s__law_loft) (defBody s__law_loft) (defScope s__law_loft) .none kV__law_loft dc__law_loft pm__law_loft an__law_loft cd__law_loft ct__law_loft), sl__law_loft⟩)
    (c__law_loft : PySem.W.codeIn K cd__law_loft "_law_loft" = true)
    (k__law_loft : PySem.W.keepIn K (.ref f__law_loft) = true)
    (a__law_haul : PySem.W.nsIn K mainGlobals "_law_haul" = some (some (.ref f__law_haul)))
    (l__law_haul : K.lookup f__law_haul = some ⟨oc__law_haul, od__law_haul, .func (PySem.W.fnOf "_law_haul" "_law_haul" (defArgs s__law_haul) (defBody s__law_haul) (defScope s__law_haul) .none kV__law_haul dc__law_haul pm__law_haul an__law_haul cd__law_haul ct__law_haul), sl__law_haul⟩)
    (c__law_haul : PySem.W.codeIn K cd__law_haul "_law_haul" = true)
    (k__law_haul : PySem.W.keepIn K (.ref f__law_haul) = true)
    (a__law_one : PySem.W.nsIn K mainGlobals "_law_one" = some (some (.ref f__law_one)))
    (l__law_one : K.lookup f__law_one = some ⟨oc__law_one, od__law_one, .func (PySem.W.fnOf "_law_one" "_law_one" (defArgs s__law_one) (defBody s__law_one) (defScope s__law_one) .none kV__law_one dc__law_one pm__law_one an__law_one cd__law_one ct__law_one), sl__law_one⟩)
    (c__law_one : PySem.W.codeIn K cd__law_one "_law_one" = true)
    (k__law_one : PySem.W.keepIn K (.ref f__law_one) = true)
    (a__law_heard : PySem.W.nsIn K mainGlobals "_law_heard" = some (some (.ref f__law_heard)))
    (l__law_heard : K.lookup f__law_heard = some ⟨oc__law_heard, od__law_heard, .func (PySem.W.fnOf "_law_heard" "_law_heard" (defArgs s__law_heard) (defBody s__law_heard) (defScope s__law_heard) .none kV__law_heard dc__law_heard pm__law_heard an__law_heard cd__law_heard ct__law_heard), sl__law_heard⟩)
    (c__law_heard : PySem.W.codeIn K cd__law_heard "_law_heard" = true)
    (k__law_heard : PySem.W.keepIn K (.ref f__law_heard) = true)
    (a__law_word : PySem.W.nsIn K mainGlobals "_law_word" = some (some (.ref f__law_word)))
    (l__law_word : K.lookup f__law_word = some ⟨oc__law_word, od__law_word, .func (PySem.W.fnOf "_law_word" "_law_word" (defArgs s__law_word) (defBody s__law_word) (defScope s__law_word) .none kV__law_word dc__law_word pm__law_word an__law_word cd__law_word ct__law_word), sl__law_word⟩)
    (c__law_word : PySem.W.codeIn K cd__law_word "_law_word" = true)
    (k__law_word : PySem.W.keepIn K (.ref f__law_word) = true)
    (a__law_value : PySem.W.nsIn K mainGlobals "_law_value" = some (some (.ref f__law_value)))
    (l__law_value : K.lookup f__law_value = some ⟨oc__law_value, od__law_value, .func (PySem.W.fnOf "_law_value" "_law_value" (defArgs s__law_value) (defBody s__law_value) (defScope s__law_value) .none kV__law_value dc__law_value pm__law_value an__law_value cd__law_value ct__law_value), sl__law_value⟩)
    (c__law_value : PySem.W.codeIn K cd__law_value "_law_value" = true)
    (k__law_value : PySem.W.keepIn K (.ref f__law_value) = true)
    (a__law_flips_right : PySem.W.nsIn K mainGlobals "_law_flips_right" = some (some (.ref f__law_flips_right)))
    (l__law_flips_right : K.lookup f__law_flips_right = some ⟨oc__law_flips_right, od__law_flips_right, .func (PySem.W.fnOf "_law_flips_right" "_law_flips_right" (defArgs s__law_flips_right) (defBody s__law_flips_right) (defScope s__law_flips_right) .none kV__law_flips_right dc__law_flips_right pm__law_flips_right an__law_flips_right cd__law_flips_right ct__law_flips_right), sl__law_flips_right⟩)
    (c__law_flips_right : PySem.W.codeIn K cd__law_flips_right "_law_flips_right" = true)
    (k__law_flips_right : PySem.W.keepIn K (.ref f__law_flips_right) = true)
    (a__law_refused_right : PySem.W.nsIn K mainGlobals "_law_refused_right" = some (some (.ref f__law_refused_right)))
    (l__law_refused_right : K.lookup f__law_refused_right = some ⟨oc__law_refused_right, od__law_refused_right, .func (PySem.W.fnOf "_law_refused_right" "_law_refused_right" (defArgs s__law_refused_right) (defBody s__law_refused_right) (defScope s__law_refused_right) .none kV__law_refused_right dc__law_refused_right pm__law_refused_right an__law_refused_right (.ref c) ct__law_refused_right), sl__law_refused_right⟩)
    (c__law_refused_right : PySem.W.codeIn K (.ref c) "_law_refused_right" = true)
    (k__law_refused_right : PySem.W.keepIn K (.ref f__law_refused_right) = true)
    (a_law : PySem.W.nsIn K mainGlobals "law" = some (some (.ref f_law)))
    (l_law : K.lookup f_law = some ⟨oc_law, od_law, .func (PySem.W.fnOf "law" "law" (defArgs s_law) (defBody s_law) (defScope s_law) .none kV_law dc_law pm_law an_law cd_law ct_law), sl_law⟩)
    (c_law : PySem.W.codeIn K cd_law "law" = true)
    (k_law : PySem.W.keepIn K (.ref f_law) = true)
    (aF : PySem.W.nsIn K mainGlobals "FlipError" = some (some (.ref CF)))
    (eF : PySem.W.subIn K (.ref CF) (.type "BaseException") = some true)
    (dF : PySem.W.hasDictIn K CF = true)
    (tF : PySem.W.typeIn K (.ref CF) = some (.type "type"))
    (a_BadNumber : PySem.W.nsIn K mainGlobals "BadNumber" = some (some (.ref C_BadNumber)))
    (x_BadNumber : K.lookup C_BadNumber = some (excClassObj nm_BadNumber q_BadNumber C_BadNumber N_BadNumber bs_BadNumber [.ref CF, .type "ValueError", .type "Exception", .type "BaseException", .type "object"] true sn_BadNumber sub_BadNumber ab_BadNumber col_BadNumber dd_BadNumber m0_BadNumber m1_BadNumber m2_BadNumber m3_BadNumber m5_BadNumber "ValueError.__new__"))
    (sa_BadNumber : PySem.W.findIn K (.ref C_BadNumber) "__setattr__" = some (some (.builtin "object.__setattr__")))
    (e_BadNumber : PySem.W.subIn K (.ref C_BadNumber) (.type "BaseException") = some true)
    (t_BadNumber : PySem.W.typeIn K (.ref C_BadNumber) = some (.type "type"))
    (k_BadNumber : PySem.W.keepIn K (.ref C_BadNumber) = true)
    (i_BadNumber : PySem.W.findIn K (.ref C_BadNumber) "__init__" = some (some (.ref fi_BadNumber)))
    (ti_BadNumber : PySem.W.typeIn K (.ref fi_BadNumber) = some (.type "function"))
    (li_BadNumber : K.lookup fi_BadNumber = some ⟨oi_BadNumber, odi_BadNumber, .func (PySem.W.fnOf "__init__" "BadNumber.__init__" (defArgs s_initN) (defBody s_initN) (defScope s_initN) .none kVi_BadNumber dci_BadNumber pmi_BadNumber ani_BadNumber cdi_BadNumber cti_BadNumber), sli_BadNumber⟩)
    (ci_BadNumber : PySem.W.codeIn K cdi_BadNumber "BadNumber.__init__" = true)
    (ki_BadNumber : PySem.W.keepIn K (.ref fi_BadNumber) = true)
    (no_BadNumber_part : PySem.W.findIn K (.ref C_BadNumber) "part" = some none)
    (ga_BadNumber : PySem.W.findIn K (.ref C_BadNumber) "__getattribute__" = some (some (.builtin "BaseException.__getattribute__")))
    (gg_BadNumber : PySem.W.findIn K (.ref C_BadNumber) "__getattr__" = some none)
    (hd_BadNumber : PySem.W.hasDictIn K C_BadNumber = true)
    (ha_BadNumber : PySem.W.findIn K (.ref C_BadNumber) "__class__" = some (some (.builtin "object.__class__")))
    (hm_BadNumber : PySem.W.mroIn K C_BadNumber (.type "object") = some true)
    (sf_BadNumber : PySem.W.subIn K (.ref C_BadNumber) (.ref CF) = some true)
    (is_BadNumber : PySem.W.isClsIn K C_BadNumber = true)
    (z_BadNumber : PySem.W.subIn K (.type "NoneType") (.ref C_BadNumber) = some false)
    (a_BadWord : PySem.W.nsIn K mainGlobals "BadWord" = some (some (.ref C_BadWord)))
    (x_BadWord : K.lookup C_BadWord = some (excClassObj nm_BadWord q_BadWord C_BadWord N_BadWord bs_BadWord [.ref CF, .type "ValueError", .type "Exception", .type "BaseException", .type "object"] true sn_BadWord sub_BadWord ab_BadWord col_BadWord dd_BadWord m0_BadWord m1_BadWord m2_BadWord m3_BadWord m5_BadWord "ValueError.__new__"))
    (sa_BadWord : PySem.W.findIn K (.ref C_BadWord) "__setattr__" = some (some (.builtin "object.__setattr__")))
    (e_BadWord : PySem.W.subIn K (.ref C_BadWord) (.type "BaseException") = some true)
    (t_BadWord : PySem.W.typeIn K (.ref C_BadWord) = some (.type "type"))
    (k_BadWord : PySem.W.keepIn K (.ref C_BadWord) = true)
    (i_BadWord : PySem.W.findIn K (.ref C_BadWord) "__init__" = some (some (.ref fi_BadWord)))
    (ti_BadWord : PySem.W.typeIn K (.ref fi_BadWord) = some (.type "function"))
    (li_BadWord : K.lookup fi_BadWord = some ⟨oi_BadWord, odi_BadWord, .func (PySem.W.fnOf "__init__" "BadWord.__init__" (defArgs s_initW) (defBody s_initW) (defScope s_initW) .none kVi_BadWord dci_BadWord pmi_BadWord ani_BadWord cdi_BadWord cti_BadWord), sli_BadWord⟩)
    (ci_BadWord : PySem.W.codeIn K cdi_BadWord "BadWord.__init__" = true)
    (ki_BadWord : PySem.W.keepIn K (.ref fi_BadWord) = true)
    (no_BadWord_part : PySem.W.findIn K (.ref C_BadWord) "part" = some none)
    (ga_BadWord : PySem.W.findIn K (.ref C_BadWord) "__getattribute__" = some (some (.builtin "BaseException.__getattribute__")))
    (gg_BadWord : PySem.W.findIn K (.ref C_BadWord) "__getattr__" = some none)
    (hd_BadWord : PySem.W.hasDictIn K C_BadWord = true)
    (ha_BadWord : PySem.W.findIn K (.ref C_BadWord) "__class__" = some (some (.builtin "object.__class__")))
    (hm_BadWord : PySem.W.mroIn K C_BadWord (.type "object") = some true)
    (sf_BadWord : PySem.W.subIn K (.ref C_BadWord) (.ref CF) = some true)
    (is_BadWord : PySem.W.isClsIn K C_BadWord = true)
    (z_BadWord : PySem.W.subIn K (.type "NoneType") (.ref C_BadWord) = some false)
    (a_Misfit : PySem.W.nsIn K mainGlobals "Misfit" = some (some (.ref C_Misfit)))
    (x_Misfit : K.lookup C_Misfit = some (excClassObj nm_Misfit q_Misfit C_Misfit N_Misfit bs_Misfit [.ref CF, .type "ValueError", .type "Exception", .type "BaseException", .type "object"] true sn_Misfit sub_Misfit ab_Misfit col_Misfit dd_Misfit m0_Misfit m1_Misfit m2_Misfit m3_Misfit m5_Misfit "ValueError.__new__"))
    (sa_Misfit : PySem.W.findIn K (.ref C_Misfit) "__setattr__" = some (some (.builtin "object.__setattr__")))
    (e_Misfit : PySem.W.subIn K (.ref C_Misfit) (.type "BaseException") = some true)
    (t_Misfit : PySem.W.typeIn K (.ref C_Misfit) = some (.type "type"))
    (k_Misfit : PySem.W.keepIn K (.ref C_Misfit) = true)
    (i_Misfit : PySem.W.findIn K (.ref C_Misfit) "__init__" = some (some (.ref fi_Misfit)))
    (ti_Misfit : PySem.W.typeIn K (.ref fi_Misfit) = some (.type "function"))
    (li_Misfit : K.lookup fi_Misfit = some ⟨oi_Misfit, odi_Misfit, .func (PySem.W.fnOf "__init__" "Misfit.__init__" (defArgs s_initM) (defBody s_initM) (defScope s_initM) .none kVi_Misfit dci_Misfit pmi_Misfit ani_Misfit cdi_Misfit cti_Misfit), sli_Misfit⟩)
    (ci_Misfit : PySem.W.codeIn K cdi_Misfit "Misfit.__init__" = true)
    (ki_Misfit : PySem.W.keepIn K (.ref fi_Misfit) = true)
    (no_Misfit_part : PySem.W.findIn K (.ref C_Misfit) "part" = some none)
    (ga_Misfit : PySem.W.findIn K (.ref C_Misfit) "__getattribute__" = some (some (.builtin "BaseException.__getattribute__")))
    (gg_Misfit : PySem.W.findIn K (.ref C_Misfit) "__getattr__" = some none)
    (hd_Misfit : PySem.W.hasDictIn K C_Misfit = true)
    (ha_Misfit : PySem.W.findIn K (.ref C_Misfit) "__class__" = some (some (.builtin "object.__class__")))
    (hm_Misfit : PySem.W.mroIn K C_Misfit (.type "object") = some true)
    (sf_Misfit : PySem.W.subIn K (.ref C_Misfit) (.ref CF) = some true)
    (is_Misfit : PySem.W.isClsIn K C_Misfit = true)
    (z_Misfit : PySem.W.subIn K (.type "NoneType") (.ref C_Misfit) = some false)
    (sub_BadNumber_BadNumber : PySem.W.subIn K (.ref C_BadNumber) (.ref C_BadNumber) = some true)
    (sub_BadNumber_BadWord : PySem.W.subIn K (.ref C_BadNumber) (.ref C_BadWord) = some false)
    (sub_BadNumber_Misfit : PySem.W.subIn K (.ref C_BadNumber) (.ref C_Misfit) = some false)
    (sub_BadWord_BadNumber : PySem.W.subIn K (.ref C_BadWord) (.ref C_BadNumber) = some false)
    (sub_BadWord_BadWord : PySem.W.subIn K (.ref C_BadWord) (.ref C_BadWord) = some true)
    (sub_BadWord_Misfit : PySem.W.subIn K (.ref C_BadWord) (.ref C_Misfit) = some false)
    (sub_Misfit_BadNumber : PySem.W.subIn K (.ref C_Misfit) (.ref C_BadNumber) = some false)
    (sub_Misfit_BadWord : PySem.W.subIn K (.ref C_Misfit) (.ref C_BadWord) = some false)
    (sub_Misfit_Misfit : PySem.W.subIn K (.ref C_Misfit) (.ref C_Misfit) = some true)
    (spn : PySem.W.specialIn K (.builtin "object.__class__") "__get__" = some (some (.builtin "getset_descriptor.__get__")))
    (tkn : PySem.W.takesIn K (.builtin "object.__class__") = some true)
    (a_MOST_SIZE : PySem.W.nsIn K mainGlobals "MOST_SIZE" = some (some (.int 8 t_MOST_SIZE)))
    (a_MOST_VALUE : PySem.W.nsIn K mainGlobals "MOST_VALUE" = some (some (.int 255 t_MOST_VALUE)))
    (n_isinstance : PySem.W.nsIn K mainGlobals "isinstance" = some none)
    (n_int : PySem.W.nsIn K mainGlobals "int" = some none)
    (n_bool : PySem.W.nsIn K mainGlobals "bool" = some none)
    (n_len : PySem.W.nsIn K mainGlobals "len" = some none)
    (n_abs : PySem.W.nsIn K mainGlobals "abs" = some none)
    (n_range : PySem.W.nsIn K mainGlobals "range" = some none)
    (n_list : PySem.W.nsIn K mainGlobals "list" = some none)
    (n_tuple : PySem.W.nsIn K mainGlobals "tuple" = some none)
    (n_enumerate : PySem.W.nsIn K mainGlobals "enumerate" = some none)
    (l_code : K.lookup c = some ⟨.type "code", odC, .fields vsC, slC⟩)
    (v11 : vsC[11]? = some (.ref Pt))
    (hdc : PySem.W.codeHdIn K c Pt = true)
    (kPt : K.lookup Pt = none)
    (hPt : h.get? Pt = some { cls := .none, data := .fields #[] }) :
    LamX.LawAtS l w K CX0 14 63 "script" mg fa h := by
  have efa := hfa.symm.trans (PySem.W.mg_of X G a_law)
  cases efa
  have D_is_integer : Df K mg "is_integer" s_is_integer ["value"] f_is_integer _ := ⟨fun_mk (st := s_is_integer) l_is_integer c_is_integer k_is_integer, PySem.W.mg_of X G a_is_integer, (fun_mk (st := s_is_integer) l_is_integer c_is_integer k_is_integer).binds (ps := ["value"]) fun _ _ _ _ _ _ us hl => match us, hl with | [_], _ => rfl⟩
  have D_is_within : Df K mg "is_within" s_is_within ["value", "least", "most"] f_is_within _ := ⟨fun_mk (st := s_is_within) l_is_within c_is_within k_is_within, PySem.W.mg_of X G a_is_within, (fun_mk (st := s_is_within) l_is_within c_is_within k_is_within).binds (ps := ["value", "least", "most"]) fun _ _ _ _ _ _ us hl => match us, hl with | [_, _, _], _ => rfl⟩
  have D_need_number : Df K mg "need_number" s_need_number ["value", "part", "least", "most"] f_need_number _ := ⟨fun_mk (st := s_need_number) l_need_number c_need_number k_need_number, PySem.W.mg_of X G a_need_number, (fun_mk (st := s_need_number) l_need_number c_need_number k_need_number).binds (ps := ["value", "part", "least", "most"]) fun _ _ _ _ _ _ us hl => match us, hl with | [_, _, _, _], _ => rfl⟩
  have D_need_word : Df K mg "need_word" s_need_word ["value", "part"] f_need_word _ := ⟨fun_mk (st := s_need_word) l_need_word c_need_word k_need_word, PySem.W.mg_of X G a_need_word, (fun_mk (st := s_need_word) l_need_word c_need_word k_need_word).binds (ps := ["value", "part"]) fun _ _ _ _ _ _ us hl => match us, hl with | [_, _], _ => rfl⟩
  have D_differing : Df K mg "differing" s_differing ["one", "other"] f_differing _ := ⟨fun_mk (st := s_differing) l_differing c_differing k_differing, PySem.W.mg_of X G a_differing, (fun_mk (st := s_differing) l_differing c_differing k_differing).binds (ps := ["one", "other"]) fun _ _ _ _ _ _ us hl => match us, hl with | [_, _], _ => rfl⟩
  have D__bits_of : Df K mg "_bits_of" s__bits_of ["word"] f__bits_of _ := ⟨fun_mk (st := s__bits_of) l__bits_of c__bits_of k__bits_of, PySem.W.mg_of X G a__bits_of, (fun_mk (st := s__bits_of) l__bits_of c__bits_of k__bits_of).binds (ps := ["word"]) fun _ _ _ _ _ _ us hl => match us, hl with | [_], _ => rfl⟩
  have D_value_by_flips : Df K mg "value_by_flips" s_value_by_flips ["word", "size"] f_value_by_flips _ := ⟨fun_mk (st := s_value_by_flips) l_value_by_flips c_value_by_flips k_value_by_flips, PySem.W.mg_of X G a_value_by_flips, (fun_mk (st := s_value_by_flips) l_value_by_flips c_value_by_flips k_value_by_flips).binds (ps := ["word", "size"]) fun _ _ _ _ _ _ us hl => match us, hl with | [_, _], _ => rfl⟩
  have D_flip_to : Df K mg "flip_to" s_flip_to ["word", "size", "value"] f_flip_to _ := ⟨fun_mk (st := s_flip_to) l_flip_to c_flip_to k_flip_to, PySem.W.mg_of X G a_flip_to, (fun_mk (st := s_flip_to) l_flip_to c_flip_to k_flip_to).binds (ps := ["word", "size", "value"]) fun _ _ _ _ _ _ us hl => match us, hl with | [_, _, _], _ => rfl⟩
  have D__bits_for : Df K mg "_bits_for" s__bits_for ["size"] f__bits_for _ := ⟨fun_mk (st := s__bits_for) l__bits_for c__bits_for k__bits_for, PySem.W.mg_of X G a__bits_for, (fun_mk (st := s__bits_for) l__bits_for c__bits_for k__bits_for).binds (ps := ["size"]) fun _ _ _ _ _ _ us hl => match us, hl with | [_], _ => rfl⟩
  have D__value_of : Df K mg "_value_of" s__value_of ["word"] f__value_of _ := ⟨fun_mk (st := s__value_of) l__value_of c__value_of k__value_of, PySem.W.mg_of X G a__value_of, (fun_mk (st := s__value_of) l__value_of c__value_of k__value_of).binds (ps := ["word"]) fun _ _ _ _ _ _ us hl => match us, hl with | [_], _ => rfl⟩
  have D__need_room : Df K mg "_need_room" s__need_room ["word", "size"] f__need_room _ := ⟨fun_mk (st := s__need_room) l__need_room c__need_room k__need_room, PySem.W.mg_of X G a__need_room, (fun_mk (st := s__need_room) l__need_room c__need_room k__need_room).binds (ps := ["word", "size"]) fun _ _ _ _ _ _ us hl => match us, hl with | [_, _], _ => rfl⟩
  have D__law_loft : Df K mg "_law_loft" s__law_loft ["script"] f__law_loft _ := ⟨fun_mk (st := s__law_loft) l__law_loft c__law_loft k__law_loft, PySem.W.mg_of X G a__law_loft, (fun_mk (st := s__law_loft) l__law_loft c__law_loft k__law_loft).binds (ps := ["script"]) fun _ _ _ _ _ _ us hl => match us, hl with | [_], _ => rfl⟩
  have D__law_haul : Df K mg "_law_haul" s__law_haul ["loft", "many"] f__law_haul _ := ⟨fun_mk (st := s__law_haul) l__law_haul c__law_haul k__law_haul, PySem.W.mg_of X G a__law_haul, (fun_mk (st := s__law_haul) l__law_haul c__law_haul k__law_haul).binds (ps := ["loft", "many"]) fun _ _ _ _ _ _ us hl => match us, hl with | [_, _], _ => rfl⟩
  have D__law_one : Df K mg "_law_one" s__law_one ["loft", "some"] f__law_one _ := ⟨fun_mk (st := s__law_one) l__law_one c__law_one k__law_one, PySem.W.mg_of X G a__law_one, (fun_mk (st := s__law_one) l__law_one c__law_one k__law_one).binds (ps := ["loft", "some"]) fun _ _ _ _ _ _ us hl => match us, hl with | [_, _], _ => rfl⟩
  have D__law_heard : Df K mg "_law_heard" s__law_heard ["ask"] f__law_heard _ := ⟨fun_mk (st := s__law_heard) l__law_heard c__law_heard k__law_heard, PySem.W.mg_of X G a__law_heard, (fun_mk (st := s__law_heard) l__law_heard c__law_heard k__law_heard).binds (ps := ["ask"]) fun _ _ _ _ _ _ us hl => match us, hl with | [_], _ => rfl⟩
  have D__law_word : Df K mg "_law_word" s__law_word ["loft", "size"] f__law_word _ := ⟨fun_mk (st := s__law_word) l__law_word c__law_word k__law_word, PySem.W.mg_of X G a__law_word, (fun_mk (st := s__law_word) l__law_word c__law_word k__law_word).binds (ps := ["loft", "size"]) fun _ _ _ _ _ _ us hl => match us, hl with | [_, _], _ => rfl⟩
  have D__law_value : Df K mg "_law_value" s__law_value ["word", "size"] f__law_value _ := ⟨fun_mk (st := s__law_value) l__law_value c__law_value k__law_value, PySem.W.mg_of X G a__law_value, (fun_mk (st := s__law_value) l__law_value c__law_value k__law_value).binds (ps := ["word", "size"]) fun _ _ _ _ _ _ us hl => match us, hl with | [_, _], _ => rfl⟩
  have D__law_flips_right : Df K mg "_law_flips_right" s__law_flips_right ["loft", "word", "size"] f__law_flips_right _ := ⟨fun_mk (st := s__law_flips_right) l__law_flips_right c__law_flips_right k__law_flips_right, PySem.W.mg_of X G a__law_flips_right, (fun_mk (st := s__law_flips_right) l__law_flips_right c__law_flips_right k__law_flips_right).binds (ps := ["loft", "word", "size"]) fun _ _ _ _ _ _ us hl => match us, hl with | [_, _, _], _ => rfl⟩
  have D__law_refused_right : Df K mg "_law_refused_right" s__law_refused_right ["loft", "word", "size"] f__law_refused_right _ := ⟨fun_mk (st := s__law_refused_right) l__law_refused_right c__law_refused_right k__law_refused_right, PySem.W.mg_of X G a__law_refused_right, (fun_mk (st := s__law_refused_right) l__law_refused_right c__law_refused_right k__law_refused_right).binds (ps := ["loft", "word", "size"]) fun _ _ _ _ _ _ us hl => match us, hl with | [_, _, _], _ => rfl⟩
  have FI_BadNumber := fun_mk (st := s_initN) li_BadNumber ci_BadNumber ki_BadNumber
  have BI_BadNumber := FI_BadNumber.binds (ps := ["self", "part"]) fun _ _ _ _ _ _ us hl => match us, hl with | [_, _], _ => rfl
  have O_BadNumber : OexC K C_BadNumber := ⟨⟨_, _, _, _, _, _, _, _, _, _, _, _, _, _, _, x_BadNumber, by rfl⟩, sa_BadNumber, e_BadNumber, t_BadNumber, k_BadNumber⟩
  have XF_BadNumber : XfC K C_BadNumber := ⟨ga_BadNumber, gg_BadNumber, e_BadNumber, hd_BadNumber⟩
  have EC_BadNumber : ExcC K C_BadNumber := ⟨ga_BadNumber, gg_BadNumber, e_BadNumber, hd_BadNumber, ha_BadNumber, spn, tkn, hm_BadNumber⟩
  have EX_BadNumber : PySem.W.exmOne K (.ref C_BadNumber) (.ref CF) = some true := PySem.W.exm_ref eF dF tF sf_BadNumber
  have kit_BadNumber_BadNumber : PySem.W.kitOne K (.ref C_BadNumber) (.ref C_BadNumber) = some true := kit_sub is_BadNumber t_BadNumber sub_BadNumber_BadNumber sub_BadNumber_BadNumber
  have kit_BadWord_BadNumber : PySem.W.kitOne K (.ref C_BadWord) (.ref C_BadNumber) = some false := kit_sub is_BadNumber t_BadNumber sub_BadNumber_BadNumber sub_BadWord_BadNumber
  have kit_Misfit_BadNumber : PySem.W.kitOne K (.ref C_Misfit) (.ref C_BadNumber) = some false := kit_sub is_BadNumber t_BadNumber sub_BadNumber_BadNumber sub_Misfit_BadNumber
  have kz_BadNumber : PySem.W.kitOne K (.type "NoneType") (.ref C_BadNumber) = some false := kit_sub is_BadNumber t_BadNumber sub_BadNumber_BadNumber z_BadNumber
  have g_BadNumber : mg "BadNumber" = some (.ref C_BadNumber) := PySem.W.mg_of X G a_BadNumber
  have FI_BadWord := fun_mk (st := s_initW) li_BadWord ci_BadWord ki_BadWord
  have BI_BadWord := FI_BadWord.binds (ps := ["self", "part"]) fun _ _ _ _ _ _ us hl => match us, hl with | [_, _], _ => rfl
  have O_BadWord : OexC K C_BadWord := ⟨⟨_, _, _, _, _, _, _, _, _, _, _, _, _, _, _, x_BadWord, by rfl⟩, sa_BadWord, e_BadWord, t_BadWord, k_BadWord⟩
  have XF_BadWord : XfC K C_BadWord := ⟨ga_BadWord, gg_BadWord, e_BadWord, hd_BadWord⟩
  have EC_BadWord : ExcC K C_BadWord := ⟨ga_BadWord, gg_BadWord, e_BadWord, hd_BadWord, ha_BadWord, spn, tkn, hm_BadWord⟩
  have EX_BadWord : PySem.W.exmOne K (.ref C_BadWord) (.ref CF) = some true := PySem.W.exm_ref eF dF tF sf_BadWord
  have kit_BadNumber_BadWord : PySem.W.kitOne K (.ref C_BadNumber) (.ref C_BadWord) = some false := kit_sub is_BadWord t_BadWord sub_BadWord_BadWord sub_BadNumber_BadWord
  have kit_BadWord_BadWord : PySem.W.kitOne K (.ref C_BadWord) (.ref C_BadWord) = some true := kit_sub is_BadWord t_BadWord sub_BadWord_BadWord sub_BadWord_BadWord
  have kit_Misfit_BadWord : PySem.W.kitOne K (.ref C_Misfit) (.ref C_BadWord) = some false := kit_sub is_BadWord t_BadWord sub_BadWord_BadWord sub_Misfit_BadWord
  have kz_BadWord : PySem.W.kitOne K (.type "NoneType") (.ref C_BadWord) = some false := kit_sub is_BadWord t_BadWord sub_BadWord_BadWord z_BadWord
  have g_BadWord : mg "BadWord" = some (.ref C_BadWord) := PySem.W.mg_of X G a_BadWord
  have FI_Misfit := fun_mk (st := s_initM) li_Misfit ci_Misfit ki_Misfit
  have BI_Misfit := FI_Misfit.binds (ps := ["self", "part"]) fun _ _ _ _ _ _ us hl => match us, hl with | [_, _], _ => rfl
  have O_Misfit : OexC K C_Misfit := ⟨⟨_, _, _, _, _, _, _, _, _, _, _, _, _, _, _, x_Misfit, by rfl⟩, sa_Misfit, e_Misfit, t_Misfit, k_Misfit⟩
  have XF_Misfit : XfC K C_Misfit := ⟨ga_Misfit, gg_Misfit, e_Misfit, hd_Misfit⟩
  have EC_Misfit : ExcC K C_Misfit := ⟨ga_Misfit, gg_Misfit, e_Misfit, hd_Misfit, ha_Misfit, spn, tkn, hm_Misfit⟩
  have EX_Misfit : PySem.W.exmOne K (.ref C_Misfit) (.ref CF) = some true := PySem.W.exm_ref eF dF tF sf_Misfit
  have kit_BadNumber_Misfit : PySem.W.kitOne K (.ref C_BadNumber) (.ref C_Misfit) = some false := kit_sub is_Misfit t_Misfit sub_Misfit_Misfit sub_BadNumber_Misfit
  have kit_BadWord_Misfit : PySem.W.kitOne K (.ref C_BadWord) (.ref C_Misfit) = some false := kit_sub is_Misfit t_Misfit sub_Misfit_Misfit sub_BadWord_Misfit
  have kit_Misfit_Misfit : PySem.W.kitOne K (.ref C_Misfit) (.ref C_Misfit) = some true := kit_sub is_Misfit t_Misfit sub_Misfit_Misfit sub_Misfit_Misfit
  have kz_Misfit : PySem.W.kitOne K (.type "NoneType") (.ref C_Misfit) = some false := kit_sub is_Misfit t_Misfit sub_Misfit_Misfit z_Misfit
  have g_Misfit : mg "Misfit" = some (.ref C_Misfit) := PySem.W.mg_of X G a_Misfit
  have T : Blt mg := ⟨⟨_, PySem.W.mg_of X G a_MOST_SIZE⟩, ⟨_, PySem.W.mg_of X G a_MOST_VALUE⟩, PySem.W.mg_none_of X G n_isinstance, PySem.W.mg_none_of X G n_int, PySem.W.mg_none_of X G n_bool, PySem.W.mg_none_of X G n_len, PySem.W.mg_none_of X G n_abs, PySem.W.mg_none_of X G n_range, PySem.W.mg_none_of X G n_list, PySem.W.mg_none_of X G n_tuple, PySem.W.mg_none_of X G n_enumerate⟩
  refine ⟨PySem.W.fnOf "law" "law" (defArgs s_law) (defBody s_law) (defScope s_law) .none kV_law dc_law pm_law an_law cd_law ct_law, [(c, Pt)], spLaw K Pt, fun p hp => ?_, fun p hp => ?_, fun p hp => ?_, fun s u => .of_eq rfl, fun H a ns hl _ hP hS => ⟨a, ns, rfl, hS, hl, hP _ List.mem_cons_self, fun _ => rfl⟩, fun base hK hG hTB => ?_⟩
  · rw [List.mem_singleton.mp hp]
    exact hPt
  · rw [List.mem_singleton.mp hp]
    exact kPt
  · rw [List.mem_singleton.mp hp]
    exact PySem.W.codeHd_of_K X hdc
  · have R_BadNumber : Err l.prog w K mg base "BadNumber" "part" C_BadNumber fi_BadNumber _ := ⟨O_BadNumber, i_BadNumber, ti_BadNumber, ok_init1 FI_BadNumber sc_initN rfl (.inl rfl) (.inl rfl), BI_BadNumber, g_BadNumber, no_BadNumber_part⟩
    have R_BadWord : Err l.prog w K mg base "BadWord" "part" C_BadWord fi_BadWord _ := ⟨O_BadWord, i_BadWord, ti_BadWord, ok_init1 FI_BadWord sc_initW rfl (.inl rfl) (.inl rfl), BI_BadWord, g_BadWord, no_BadWord_part⟩
    have R_Misfit : Err l.prog w K mg base "Misfit" "part" C_Misfit fi_Misfit _ := ⟨O_Misfit, i_Misfit, ti_Misfit, ok_init1 FI_Misfit sc_initM rfl (.inl rfl) (.inl rfl), BI_Misfit, g_Misfit, no_Misfit_part⟩
    have Z : Kinds K mg CF C_BadWord C_BadNumber C_Misfit := ⟨PySem.W.mg_of X G aF, g_BadWord, g_BadNumber, g_Misfit, ⟨XF_BadWord, EC_BadWord, EX_BadWord, no_BadWord_part⟩, ⟨XF_BadNumber, EC_BadNumber, EX_BadNumber, no_BadNumber_part⟩, ⟨XF_Misfit, EC_Misfit, EX_Misfit, no_Misfit_part⟩, kit_BadWord_BadWord, kit_BadWord_BadNumber, kit_BadWord_Misfit, kit_BadNumber_BadWord, kit_BadNumber_BadNumber, kit_BadNumber_Misfit, kit_Misfit_BadWord, kit_Misfit_BadNumber, kit_Misfit_Misfit⟩
    have G_need_number := ok_need_number D_need_number.F D_is_within D_is_integer T R_BadNumber
    have G_need_word := ok_need_word D_need_word.F D_is_within D_is_integer T R_BadWord
    have GX_differing := ok_differing D_differing.F T D_need_word D__bits_of G_need_word
    have G__value_of := ok__value_of D__value_of.F D_differing GX_differing
    have G__need_room := ok__need_room D__need_room.F D__bits_for R_Misfit
    have GX_value_by_flips := ok_value_by_flips D_value_by_flips.F T D_need_word G_need_word D_need_number G_need_number D__need_room G__need_room D__value_of G__value_of
    have GX_flip_to := ok_flip_to D_flip_to.F T D_need_word G_need_word D_need_number G_need_number D__need_room G__need_room D__value_of G__value_of R_Misfit
    have G__law_loft : FnOk l.prog w K mg base CX0 1 f__law_loft _ ["script"] (spLot K) := ok__law_loft D__law_loft.F T
    have G__law_one := ok__law_one (P := l.prog) (w := w) (K := K) (base := base) D__law_one.F T D__law_haul
    have G__law_word := ok__law_word (P := l.prog) (w := w) (K := K) (base := base) D__law_word.F T D__law_haul D__law_one
    have G__law_value : FnOk l.prog w K mg base CX0 1 f__law_value _ ["word", "size"] spLValue := ok__law_value D__law_value.F T
    have G__law_flips_right := ok__law_flips_right D__law_flips_right.F T D__law_haul D__law_one D__law_value D_value_by_flips GX_value_by_flips D_flip_to GX_flip_to
    have G__law_refused_right := ok__law_refused_right (P := l.prog) (w := w) T l__law_refused_right c__law_refused_right (hTB _ List.mem_cons_self) Z D__law_haul D__law_one D__law_heard D_value_by_flips GX_value_by_flips D_flip_to GX_flip_to
    exact ok_law T l_law c_law D__law_loft G__law_loft D__law_one G__law_one D__law_word G__law_word D__law_value G__law_value D__law_flips_right G__law_flips_right D__law_refused_right G__law_refused_right D_value_by_flips GX_value_by_flips
end K23
open PySem PySem.W PyProof.Rows
set_option maxRecDepth 100000 in
set_option maxHeartbeats 0 in
theorem PySem.Challenge.cw_oneflip_k23_values_by_exclusive_or_holds : PySem.Challenge.rw_oneflip_k23_values_by_exclusive_or.Holds := by
  w_on; o_law; k_head; (case hw => w_witness2)
  k_fill
  refine LamX.walk_ofTs (l := PySem.Challenge.rw_oneflip_k23_values_by_exclusive_or) (n := 63) (k := 14) (x := "script") (CX := fun _ => L2.CX0) rfl (by decide) rfl ⟨rfl, by decide, by decide⟩ (fun w h Y => PySem.W.km_in_of Y) ?F (fun _ _ _ _ _ z => z)
  case F =>
    intro w mg fa h Y KX G hmg
    refine' K23.all_mk KX G hmg ?a_is_integer ?l_is_integer ?c_is_integer ?k_is_integer ?a_is_within ?l_is_within ?c_is_within ?k_is_within ?a_need_number ?l_need_number ?c_need_number ?k_need_number ?a_need_word ?l_need_word ?c_need_word ?k_need_word ?a_differing ?l_differing ?c_differing ?k_differing ?a__bits_of ?l__bits_of ?c__bits_of ?k__bits_of ?a_value_by_flips ?l_value_by_flips ?c_value_by_flips ?k_value_by_flips ?a_flip_to ?l_flip_to ?c_flip_to ?k_flip_to ?a__bits_for ?l__bits_for ?c__bits_for ?k__bits_for ?a__value_of ?l__value_of ?c__value_of ?k__value_of ?a__need_room ?l__need_room ?c__need_room ?k__need_room ?a__law_loft ?l__law_loft ?c__law_loft ?k__law_loft ?a__law_haul ?l__law_haul ?c__law_haul ?k__law_haul ?a__law_one ?l__law_one ?c__law_one ?k__law_one ?a__law_heard ?l__law_heard ?c__law_heard ?k__law_heard ?a__law_word ?l__law_word ?c__law_word ?k__law_word ?a__law_value ?l__law_value ?c__law_value ?k__law_value ?a__law_flips_right ?l__law_flips_right ?c__law_flips_right ?k__law_flips_right ?a__law_refused_right ?l__law_refused_right ?c__law_refused_right ?k__law_refused_right ?a_law ?l_law ?c_law ?k_law ?aF ?eF ?dF ?tF ?a_BadNumber ?x_BadNumber ?sa_BadNumber ?e_BadNumber ?t_BadNumber ?k_BadNumber ?i_BadNumber ?ti_BadNumber ?li_BadNumber ?ci_BadNumber ?ki_BadNumber ?no_BadNumber_part ?ga_BadNumber ?gg_BadNumber ?hd_BadNumber ?ha_BadNumber ?hm_BadNumber ?sf_BadNumber ?is_BadNumber ?z_BadNumber ?a_BadWord ?x_BadWord ?sa_BadWord ?e_BadWord ?t_BadWord ?k_BadWord ?i_BadWord ?ti_BadWord ?li_BadWord ?ci_BadWord ?ki_BadWord ?no_BadWord_part ?ga_BadWord ?gg_BadWord ?hd_BadWord ?ha_BadWord ?hm_BadWord ?sf_BadWord ?is_BadWord ?z_BadWord ?a_Misfit ?x_Misfit ?sa_Misfit ?e_Misfit ?t_Misfit ?k_Misfit ?i_Misfit ?ti_Misfit ?li_Misfit ?ci_Misfit ?ki_Misfit ?no_Misfit_part ?ga_Misfit ?gg_Misfit ?hd_Misfit ?ha_Misfit ?hm_Misfit ?sf_Misfit ?is_Misfit ?z_Misfit ?sub_BadNumber_BadNumber ?sub_BadNumber_BadWord ?sub_BadNumber_Misfit ?sub_BadWord_BadNumber ?sub_BadWord_BadWord ?sub_BadWord_Misfit ?sub_Misfit_BadNumber ?sub_Misfit_BadWord ?sub_Misfit_Misfit ?spn ?tkn ?a_MOST_SIZE ?a_MOST_VALUE ?n_isinstance ?n_int ?n_bool ?n_len ?n_abs ?n_range ?n_list ?n_tuple ?n_enumerate ?l_code ?v11 ?hdc ?kPt ?hPt
    (case a_is_integer => k_is)
    (case l_is_integer => k_is)
    (case c_is_integer => k_is)
    (case k_is_integer => k_is)
    (case a_is_within => k_is)
    (case l_is_within => k_is)
    (case c_is_within => k_is)
    (case k_is_within => k_is)
    (case a_need_number => k_is)
    (case l_need_number => k_is)
    (case c_need_number => k_is)
    (case k_need_number => k_is)
    (case a_need_word => k_is)
    (case l_need_word => k_is)
    (case c_need_word => k_is)
    (case k_need_word => k_is)
    (case a_differing => k_is)
    (case l_differing => k_is)
    (case c_differing => k_is)
    (case k_differing => k_is)
    (case a__bits_of => k_is)
    (case l__bits_of => k_is)
    (case c__bits_of => k_is)
    (case k__bits_of => k_is)
    (case a_value_by_flips => k_is)
    (case l_value_by_flips => k_is)
    (case c_value_by_flips => k_is)
    (case k_value_by_flips => k_is)
    (case a_flip_to => k_is)
    (case l_flip_to => k_is)
    (case c_flip_to => k_is)
    (case k_flip_to => k_is)
    (case a__bits_for => k_is)
    (case l__bits_for => k_is)
    (case c__bits_for => k_is)
    (case k__bits_for => k_is)
    (case a__value_of => k_is)
    (case l__value_of => k_is)
    (case c__value_of => k_is)
    (case k__value_of => k_is)
    (case a__need_room => k_is)
    (case l__need_room => k_is)
    (case c__need_room => k_is)
    (case k__need_room => k_is)
    (case a__law_loft => k_is)
    (case l__law_loft => k_is)
    (case c__law_loft => k_is)
    (case k__law_loft => k_is)
    (case a__law_haul => k_is)
    (case l__law_haul => k_is)
    (case c__law_haul => k_is)
    (case k__law_haul => k_is)
    (case a__law_one => k_is)
    (case l__law_one => k_is)
    (case c__law_one => k_is)
    (case k__law_one => k_is)
    (case a__law_heard => k_is)
    (case l__law_heard => k_is)
    (case c__law_heard => k_is)
    (case k__law_heard => k_is)
    (case a__law_word => k_is)
    (case l__law_word => k_is)
    (case c__law_word => k_is)
    (case k__law_word => k_is)
    (case a__law_value => k_is)
    (case l__law_value => k_is)
    (case c__law_value => k_is)
    (case k__law_value => k_is)
    (case a__law_flips_right => k_is)
    (case l__law_flips_right => k_is)
    (case c__law_flips_right => k_is)
    (case k__law_flips_right => k_is)
    (case a__law_refused_right => k_is)
    (case l__law_refused_right => k_is)
    (case c__law_refused_right => k_is)
    (case k__law_refused_right => k_is)
    (case a_law => k_is)
    (case l_law => k_is)
    (case c_law => k_is)
    (case k_law => k_is)
    (case aF => k_is)
    (case eF => k_is)
    (case dF => k_is)
    (case tF => k_is)
    (case a_BadNumber => k_is)
    (case x_BadNumber => k_is)
    (case sa_BadNumber => k_is)
    (case e_BadNumber => k_is)
    (case t_BadNumber => k_is)
    (case k_BadNumber => k_is)
    (case i_BadNumber => k_is)
    (case ti_BadNumber => k_is)
    (case li_BadNumber => k_is)
    (case ci_BadNumber => k_is)
    (case ki_BadNumber => k_is)
    (case no_BadNumber_part => k_is)
    (case ga_BadNumber => k_is)
    (case gg_BadNumber => k_is)
    (case hd_BadNumber => k_is)
    (case ha_BadNumber => k_is)
    (case hm_BadNumber => k_is)
    (case sf_BadNumber => k_is)
    (case is_BadNumber => k_is)
    (case z_BadNumber => k_is)
    (case a_BadWord => k_is)
    (case x_BadWord => k_is)
    (case sa_BadWord => k_is)
    (case e_BadWord => k_is)
    (case t_BadWord => k_is)
    (case k_BadWord => k_is)
    (case i_BadWord => k_is)
    (case ti_BadWord => k_is)
    (case li_BadWord => k_is)
    (case ci_BadWord => k_is)
    (case ki_BadWord => k_is)
    (case no_BadWord_part => k_is)
    (case ga_BadWord => k_is)
    (case gg_BadWord => k_is)
    (case hd_BadWord => k_is)
    (case ha_BadWord => k_is)
    (case hm_BadWord => k_is)
    (case sf_BadWord => k_is)
    (case is_BadWord => k_is)
    (case z_BadWord => k_is)
    (case a_Misfit => k_is)
    (case x_Misfit => k_is)
    (case sa_Misfit => k_is)
    (case e_Misfit => k_is)
    (case t_Misfit => k_is)
    (case k_Misfit => k_is)
    (case i_Misfit => k_is)
    (case ti_Misfit => k_is)
    (case li_Misfit => k_is)
    (case ci_Misfit => k_is)
    (case ki_Misfit => k_is)
    (case no_Misfit_part => k_is)
    (case ga_Misfit => k_is)
    (case gg_Misfit => k_is)
    (case hd_Misfit => k_is)
    (case ha_Misfit => k_is)
    (case hm_Misfit => k_is)
    (case sf_Misfit => k_is)
    (case is_Misfit => k_is)
    (case z_Misfit => k_is)
    (case sub_BadNumber_BadNumber => k_is)
    (case sub_BadNumber_BadWord => k_is)
    (case sub_BadNumber_Misfit => k_is)
    (case sub_BadWord_BadNumber => k_is)
    (case sub_BadWord_BadWord => k_is)
    (case sub_BadWord_Misfit => k_is)
    (case sub_Misfit_BadNumber => k_is)
    (case sub_Misfit_BadWord => k_is)
    (case sub_Misfit_Misfit => k_is)
    (case spn => k_is)
    (case tkn => k_is)
    (case a_MOST_SIZE => k_is)
    (case a_MOST_VALUE => k_is)
    (case n_isinstance => k_is)
    (case n_int => k_is)
    (case n_bool => k_is)
    (case n_len => k_is)
    (case n_abs => k_is)
    (case n_range => k_is)
    (case n_list => k_is)
    (case n_tuple => k_is)
    (case n_enumerate => k_is)
    (case l_code => k_is)
    (case v11 => rfl)
    (case hdc => kernel_rfl)
    (case kPt => kernel_rfl)
    (case hPt => exact PySem.W.km_tabs_of Y _ (by k_mem))
#print axioms PySem.Challenge.cw_oneflip_k23_values_by_exclusive_or_holds
